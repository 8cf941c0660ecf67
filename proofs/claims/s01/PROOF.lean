import PyProof.Rows.All
import Wide.All
import OpenK.AllK
import Wide.FinOn
import Open.SpecLaws
import KE.OsGo
import HandS.ForSpec
import HandS.ForMost
import HandS.Walk
import HandS.SetFor
import PySem.Challenge.RW_comesback_s01_answers
set_option Elab.async false
/-! What the specification keeps: the calls' states are of a good form, and how a line is parted into calls. Plain Lean. -/
namespace Cb
open Ut11

structure Good (g : House) : Prop where
  pn : g.pieces.length ≤ 12
  pd : (g.pieces.map (·.id)).Nodup
  kn : g.packages.length ≤ 10
  num : ∀ (i : Nat) (q : Package), g.packages[i]? = some q → q.number = i
  giv : g.given = g.packages.length
  itd : ∀ q ∈ g.packages, (q.items.map (·.id)).Nodup ∧ q.items.length ≤ 8
  od : (g.open_.map fun o => (o.id, o.package)).Nodup
  pt : ∀ x ∈ g.pieces, x.trans ≤ 999
  ot : ∀ o ∈ g.open_, o.theirs ≤ 999

theorem good_init : Good init := ⟨by decide, by decide, by decide, fun i q h => by simp [init] at h, rfl, fun q h => by simp [init] at h, by decide, fun q h => by simp [init] at h, fun q h => by simp [init] at h⟩

/-! ### eraseDups -/
theorem eraseDups_le {α : Type} [BEq α] [LawfulBEq α] : ∀ (n : Nat) (l : List α), l.length ≤ n → l.eraseDups.length ≤ l.length
  | 0, [], _ => by simp
  | n + 1, [], _ => by simp
  | n + 1, a :: r, h => by
    rw [List.eraseDups_cons]
    have h1 := List.length_filter_le (fun b => !b == a) r
    have h2 := eraseDups_le n (r.filter fun b => !b == a) (by simp at h; omega)
    simp only [List.length_cons]
    omega
theorem eraseDups_nodup {α : Type} [BEq α] [LawfulBEq α] : ∀ (n : Nat) (l : List α), l.length ≤ n → l.eraseDups.length = l.length → l.Nodup
  | 0, [], _, _ => List.nodup_nil
  | n + 1, [], _, _ => List.nodup_nil
  | n + 1, a :: r, h, e => by
    rw [List.eraseDups_cons] at e
    have h1 := List.length_filter_le (fun b => !b == a) r
    have h2 := eraseDups_le n (r.filter fun b => !b == a) (by simp at h; omega)
    simp only [List.length_cons] at e h
    have h3 : (r.filter fun b => !b == a).length = r.length := by omega
    have h4 : r.filter (fun b => !b == a) = r := List.filter_eq_self.mpr (by
      have := List.length_filter_eq_length_iff.mp h3
      exact this)
    rw [h4] at e
    refine List.nodup_cons.mpr ⟨fun m => ?_, eraseDups_nodup n r (by omega) (by omega)⟩
    have := List.length_filter_eq_length_iff.mp h3 a m
    simp at this
theorem nodup_eraseDups {α : Type} [BEq α] [LawfulBEq α] : ∀ (l : List α), l.Nodup → l.eraseDups = l
  | [], _ => rfl
  | a :: r, h => by
    obtain ⟨h1, h2⟩ := List.nodup_cons.mp h
    rw [List.eraseDups_cons, List.filter_eq_self.mpr fun b hb => ?_, nodup_eraseDups r h2]
    have : b ≠ a := fun e => h1 (e ▸ hb)
    simp [this]
theorem dups_iff {α : Type} [BEq α] [LawfulBEq α] (l : List α) : l.eraseDups.length = l.length ↔ l.Nodup :=
  ⟨eraseDups_nodup l.length l (Nat.le_refl _), fun h => by rw [nodup_eraseDups l h]⟩

/-! ### looking up -/
theorem pieceOf_some {l : List Piece} {i : Nat} {x : Piece} (h : pieceOf l i = some x) : x ∈ l ∧ x.id = i := by
  unfold pieceOf at h
  exact ⟨List.mem_of_find?_eq_some h, by have := List.find?_some h; simpa using this⟩
theorem pieceOf_none {l : List Piece} {i : Nat} (h : pieceOf l i = none) : ∀ x ∈ l, x.id ≠ i := by
  unfold pieceOf at h
  intro x hx e
  have := List.find?_eq_none.mp h x hx
  simp [e] at this
theorem itemOf_some {q : Package} {i : Nat} {x : Item} (h : itemOf q i = some x) : x ∈ q.items ∧ x.id = i := by
  unfold itemOf at h
  exact ⟨List.mem_of_find?_eq_some h, by have := List.find?_some h; simpa using this⟩
theorem itemOf_none {q : Package} {i : Nat} (h : itemOf q i = none) : ∀ x ∈ q.items, x.id ≠ i := by
  unfold itemOf at h
  intro x hx e
  have := List.find?_eq_none.mp h x hx
  simp [e] at this

theorem find_number : ∀ (l : List Package) (n p : Nat), (∀ (i : Nat) (q : Package), l[i]? = some q → q.number = n + i) → n ≤ p → (l.find? fun x => x.number == p) = l[p - n]?
  | [], _, _, _, _ => by simp
  | q :: r, n, p, h, hp => by
    have h0 := h 0 q (by simp)
    rw [List.find?_cons]
    by_cases e : p = n
    · subst e
      simp [h0]
    · have e1 : (q.number == p) = false := by
        rw [h0]
        simp
        omega
      rw [e1]
      have ih := find_number r (n + 1) p (fun i q hi => by
        have := h (i + 1) q (by simpa using hi)
        omega) (by omega)
      rw [show p - n = (p - (n + 1)) + 1 by omega]
      simpa using ih
theorem packageOf_get {g : House} (hg : Good g) (p : Nat) : packageOf g p = g.packages[p]? := by
  have := find_number g.packages 0 p (fun i q h => by rw [hg.num i q h]; omega) (Nat.zero_le _)
  simpa [packageOf] using this

/-! ### every call keeps the good form -/
theorem ids_map (l : List Piece) (f : Piece → Piece) (h : ∀ x, (f x).id = x.id) : (l.map f).map (·.id) = l.map (·.id) := by
  rw [List.map_map]
  exact List.map_congr_left fun x _ => h x
theorem nodup_snoc {α : Type} {l : List α} {a : α} (h : l.Nodup) (n : a ∉ l) : (l ++ [a]).Nodup := by
  rw [List.nodup_append]
  refine ⟨h, List.nodup_cons.mpr ⟨by simp, List.nodup_nil⟩, fun x hx y hy e => ?_⟩
  simp at hy
  exact n (hy ▸ e ▸ hx)
theorem closed_sub (l : List Open) (i p : Nat) : ∀ o ∈ closed l i p, o ∈ l := fun o h => (List.mem_filter.mp h).1
theorem closed_od {l : List Open} (i p : Nat) (h : (l.map fun o => (o.id, o.package)).Nodup) : ((closed l i p).map fun o => (o.id, o.package)).Nodup :=
  h.sublist (List.Sublist.map _ List.filter_sublist)
theorem opened_eq (l : List Open) (o : Open) : opened l o = closed l o.id o.package ++ [o] := rfl
theorem opened_od {l : List Open} (o : Open) (h : (l.map fun o => (o.id, o.package)).Nodup) : ((opened l o).map fun o => (o.id, o.package)).Nodup := by
  rw [opened_eq, List.map_append]
  refine nodup_snoc (closed_od _ _ h) fun m => ?_
  obtain ⟨x, hx, e⟩ := List.mem_map.mp m
  have h2 := (List.mem_filter.mp hx).2
  injection e with e1 e2
  simp [e1, e2] at h2
theorem opened_len (l : List Open) (o : Open) : (opened l o).length ≤ l.length + 1 := by
  rw [opened_eq, List.length_append]
  have := List.length_filter_le (fun x : Open => !(x.id == o.id && x.package == o.package)) l
  simp only [closed, List.length_cons, List.length_nil]
  omega
theorem closed_len (l : List Open) (i p : Nat) : (closed l i p).length ≤ l.length := List.length_filter_le _ _

/-- the package p's base of the piece i is this -/
def based (l : List Package) (p i t : Nat) : List Package := l.map fun q => if q.number = p then { q with items := q.items.map fun x => if x.id = i then { x with base := t } else x } else q
theorem based_item (q : Package) (i t : Nat) : (q.items.map fun x => if x.id = i then { x with base := t } else x).map (·.id) = q.items.map (·.id) := by
  rw [List.map_map]
  refine List.map_congr_left fun x _ => ?_
  show (if x.id = i then { x with base := t } else x).id = x.id
  split <;> rfl
theorem based_get (l : List Package) (p i t k : Nat) : (based l p i t)[k]? = (l[k]?).map fun q => if q.number = p then { q with items := q.items.map fun x => if x.id = i then { x with base := t } else x } else q := by
  simp [based]
theorem good_based {g : House} (hg : Good g) (p i t : Nat) : Good { g with packages := based g.packages p i t } where
  pn := hg.pn
  pd := hg.pd
  kn := by
    show (based g.packages p i t).length ≤ 10
    simp only [based, List.length_map]
    exact hg.kn
  num := fun k q h => by
    have h : (based g.packages p i t)[k]? = some q := h
    rw [based_get] at h
    cases e : g.packages[k]? with
    | none => simp [e] at h
    | some r =>
      rw [e] at h
      have := hg.num k r e
      simp only [Option.map_some, Option.some.injEq] at h
      rw [← h]
      split <;> exact this
  giv := by
    show g.given = (based g.packages p i t).length
    simp only [based, List.length_map]
    exact hg.giv
  itd := fun q h => by
    obtain ⟨r, hr, e⟩ := List.mem_map.mp (show q ∈ based g.packages p i t from h)
    have := hg.itd r hr
    rw [← e]
    split
    · exact ⟨by rw [based_item]; exact this.1, by simpa using this.2⟩
    · exact this
  od := hg.od
  pt := hg.pt
  ot := hg.ot
theorem good_pieces {g : House} (hg : Good g) (f : Piece → Piece) (h : ∀ x, (f x).id = x.id) (ht : ∀ x ∈ g.pieces, (f x).trans ≤ 999) : Good { g with pieces := g.pieces.map f } where
  pn := by simpa using hg.pn
  pd := by
    show ((g.pieces.map f).map (·.id)).Nodup
    rw [ids_map _ _ h]
    exact hg.pd
  kn := hg.kn
  num := hg.num
  giv := hg.giv
  itd := hg.itd
  od := hg.od
  pt := fun x hx => by
    obtain ⟨y, hy, e⟩ := List.mem_map.mp (show x ∈ g.pieces.map f from hx)
    rw [← e]
    exact ht y hy
  ot := hg.ot
theorem good_open {g : House} (hg : Good g) (l : List Open) (h : (l.map fun o => (o.id, o.package)).Nodup) (ht : ∀ o ∈ l, o.theirs ≤ 999) : Good { g with open_ := l } :=
  ⟨hg.pn, hg.pd, hg.kn, hg.num, hg.giv, hg.itd, h, hg.pt, ht⟩
theorem good_closed {g : House} (hg : Good g) (i p : Nat) : Good { g with open_ := closed g.open_ i p } :=
  good_open hg _ (closed_od i p hg.od) fun o h => hg.ot o (closed_sub _ _ _ o h)
theorem good_opened {g : House} (hg : Good g) (o : Open) (h : o.theirs ≤ 999) : Good { g with open_ := opened g.open_ o } :=
  good_open hg _ (opened_od o hg.od) fun x hx => by
    rw [opened_eq] at hx
    rcases List.mem_append.mp hx with m | m
    · exact hg.ot x (closed_sub _ _ _ x m)
    · simp at m
      rw [m]
      exact h

theorem putIn_eq (g : House) (p : Nat) (m : Item) (t : Nat) : putIn g p m t =
    (if fate (pieceOf g.pieces m.id) m t = 2 then { g with packages := based g.packages p m.id t, pieces := g.pieces.map (fun x => if x.id = m.id then { x with trans := t } else x), open_ := closed g.open_ m.id p }
     else if fate (pieceOf g.pieces m.id) m t = 0 then { g with packages := based g.packages p m.id t, open_ := closed g.open_ m.id p }
     else if 3 ≤ fate (pieceOf g.pieces m.id) m t then { g with packages := based g.packages p m.id t, open_ := opened g.open_ ⟨m.id, m.text, t, p⟩ }
     else { g with packages := based g.packages p m.id t }) := rfl
theorem good_putIn {g : House} (hg : Good g) (p : Nat) (m : Item) (t : Nat) (ht : t ≤ 999) : Good (putIn g p m t) := by
  rw [putIn_eq]
  have hb := good_based hg p m.id t
  split
  · exact good_closed (good_pieces hb (fun x => if x.id = m.id then { x with trans := t } else x) (fun x => by split <;> rfl) fun x hx => by
      split
      · exact ht
      · exact hg.pt x hx) m.id p
  · split
    · exact good_closed hb m.id p
    · split
      · exact good_opened hb ⟨m.id, m.text, t, p⟩ ht
      · exact hb
theorem putIn_open (g : House) (p : Nat) (m : Item) (t : Nat) : (putIn g p m t).open_.length ≤ g.open_.length + 1 := by
  rw [putIn_eq]
  have h1 := closed_len g.open_ m.id p
  have h2 := opened_len g.open_ ⟨m.id, m.text, t, p⟩
  split
  · show (closed g.open_ m.id p).length ≤ _
    omega
  · split
    · show (closed g.open_ m.id p).length ≤ _
      omega
    · split
      · exact h2
      · show g.open_.length ≤ _
        omega
theorem putIn_packages (g : House) (p : Nat) (m : Item) (t : Nat) : (putIn g p m t).packages = based g.packages p m.id t := by
  rw [putIn_eq]
  split
  · rfl
  · split
    · rfl
    · split <;> rfl
theorem good_backFrom (p : Nat) : ∀ (l : List (Nat × Nat)) (g : House), Good g → (∀ x ∈ l, x.2 ≤ 999) → Good (backFrom p g l).1
  | [], _, hg, _ => hg
  | (i, t) :: l, g, hg, h => by
    unfold backFrom
    split
    · exact good_backFrom p l g hg fun x hx => h x (List.mem_cons_of_mem _ hx)
    · exact good_backFrom p l _ (good_putIn hg p _ t (h (i, t) List.mem_cons_self)) fun x hx => h x (List.mem_cons_of_mem _ hx)
theorem backFrom_open (p : Nat) : ∀ (l : List (Nat × Nat)) (g : House), (backFrom p g l).1.open_.length ≤ g.open_.length + l.length
  | [], _ => Nat.le_refl _
  | (i, t) :: l, g => by
    unfold backFrom
    split
    · have := backFrom_open p l g
      simp only [List.length_cons]
      omega
    · next m _ =>
      have h1 := backFrom_open p l (putIn g p m t)
      have h2 := putIn_open g p m t
      simp only [List.length_cons]
      show (backFrom p (putIn g p m t) l).1.open_.length ≤ _
      omega

theorem mapM_ids {g : List Piece} : ∀ {l : List Nat} {m : List Piece}, (l.mapM fun i => pieceOf g i) = some m → m.map (·.id) = l ∧ ∀ x ∈ m, x ∈ g
  | [], m, h => by
    simp at h
    subst h
    exact ⟨rfl, fun x hx => by simp at hx⟩
  | i :: l, m, h => by
    rw [List.mapM_cons] at h
    cases e : pieceOf g i with
    | none => simp [e] at h
    | some x =>
      cases e2 : (l.mapM fun i => pieceOf g i) with
      | none => simp [e, e2] at h
      | some r =>
        simp [e, e2] at h
        subst h
        obtain ⟨h1, h2⟩ := mapM_ids e2
        obtain ⟨h3, h4⟩ := pieceOf_some e
        refine ⟨by simp [h1, h4], fun y hy => ?_⟩
        rcases List.mem_cons.mp hy with rfl | hy
        · exact h3
        · exact h2 y hy

theorem step_good {g : House} (hg : Good g) (c : Call) : Good (step g c).1 := by
  cases c with
  | piece i t =>
    simp only [step]
    split
    · exact hg
    · split
      · exact hg
      · split
        · exact hg
        · next h1 h2 h3 =>
          have hn : pieceOf g.pieces i = none := by
            cases e : pieceOf g.pieces i with
            | none => rfl
            | some x => simp [e] at h2
          exact
            { pn := by show (g.pieces ++ [_]).length ≤ 12; simp; omega
              pd := by
                show ((g.pieces ++ [(⟨i, t, 0⟩ : Piece)]).map (·.id)).Nodup
                rw [List.map_append]
                refine nodup_snoc hg.pd fun m => ?_
                obtain ⟨x, hx, e⟩ := List.mem_map.mp m
                exact pieceOf_none hn x hx e
              kn := hg.kn
              num := hg.num
              giv := hg.giv
              itd := hg.itd
              od := hg.od
              pt := fun x hx => by
                rcases List.mem_append.mp (show x ∈ g.pieces ++ [_] from hx) with m | m
                · exact hg.pt x m
                · simp at m
                  rw [m]
                  exact Nat.zero_le _
              ot := hg.ot }
  | text i t =>
    simp only [step]
    split
    · exact hg
    · split
      · exact hg
      · exact good_pieces hg _ (fun x => by split <;> rfl) fun x hx => by
          split
          · exact Nat.zero_le _
          · exact hg.pt x hx
  | gone i =>
    simp only [step]
    split
    · exact hg
    · exact
        { pn := Nat.le_trans (List.length_filter_le _ _) hg.pn
          pd := hg.pd.sublist (List.Sublist.map _ List.filter_sublist)
          kn := hg.kn
          num := hg.num
          giv := hg.giv
          itd := hg.itd
          od := hg.od
          pt := fun x hx => hg.pt x (List.mem_filter.mp hx).1
          ot := hg.ot }
  | put i t =>
    simp only [step]
    split
    · exact hg
    · split
      · exact hg
      · next h1 _ =>
        exact good_pieces hg _ (fun x => by split <;> rfl) fun x hx => by
          split
          · show t ≤ 999
            omega
          · exact hg.pt x hx
  | send l =>
    simp only [step]
    split
    · exact hg
    · next h1 =>
      split
      · exact hg
      · next m hm =>
        split
        · exact hg
        · next h2 =>
          obtain ⟨h3, h4⟩ := mapM_ids hm
          have hnd : l.Nodup := (dups_iff l).mp (by
            by_cases e : l.eraseDups.length = l.length
            · exact e
            · exact absurd (Or.inr (Or.inr e)) h1)
          exact
            { pn := hg.pn
              pd := hg.pd
              kn := by
                show (g.packages ++ [_]).length ≤ 10
                have := hg.giv
                simp
                omega
              num := fun k q h => by
                have h : (g.packages ++ [_])[k]? = some q := h
                rw [List.getElem?_append] at h
                split at h
                · exact hg.num k q h
                · next hk =>
                  have hk2 : k - g.packages.length = 0 := by
                    cases e : k - g.packages.length with
                    | zero => rfl
                    | succ n => simp [e] at h
                  rw [hk2] at h
                  simp at h
                  rw [← h]
                  show g.given = k
                  have := hg.giv
                  omega
              giv := by
                show g.given + 1 = (g.packages ++ [_]).length
                have := hg.giv
                simp
                omega
              itd := fun q h => by
                rcases List.mem_append.mp (show q ∈ g.packages ++ [_] from h) with m' | m'
                · exact hg.itd q m'
                · simp at m'
                  rw [m']
                  have e1 : (m.map fun x => (⟨x.id, x.text, x.trans⟩ : Item)).map (·.id) = m.map (·.id) := by
                    rw [List.map_map]
                    rfl
                  refine ⟨?_, ?_⟩
                  · show ((m.map fun x => (⟨x.id, x.text, x.trans⟩ : Item)).map (·.id)).Nodup
                    rw [e1, h3]
                    exact hnd
                  · show (m.map fun x => (⟨x.id, x.text, x.trans⟩ : Item)).length ≤ 8
                    have e2 : m.length = l.length := by rw [← h3]; simp
                    have : ¬ 8 < l.length := fun z => h1 (Or.inr (Or.inl z))
                    simp
                    omega
              od := hg.od
              pt := hg.pt
              ot := hg.ot }
  | back p l =>
    simp only [step]
    split
    · exact hg
    · next h1 =>
      split
      · exact hg
      · split
        · exact hg
        · split
          · exact hg
          · refine good_backFrom p l g hg fun x hx => ?_
            by_cases e : (l.all fun x => decide (x.2 ≤ 999)) = false
            · exact absurd (Or.inr (Or.inr (Or.inl e))) h1
            · simp only [Bool.not_eq_false] at e
              have := List.all_eq_true.mp e x hx
              simpa using this
  | off p =>
    simp only [step]
    split
    · exact hg
    · split
      · exact hg
      · exact
          { pn := hg.pn
            pd := hg.pd
            kn := by simpa using hg.kn
            num := fun k q h => by
              have h : (g.packages.map fun x => if x.number = p then { x with off := true } else x)[k]? = some q := h
              rw [List.getElem?_map] at h
              cases e : g.packages[k]? with
              | none => simp [e] at h
              | some r =>
                have := hg.num k r e
                rw [e] at h
                simp only [Option.map_some, Option.some.injEq] at h
                rw [← h]
                split <;> exact this
            giv := by simpa using hg.giv
            itd := fun q h => by
              obtain ⟨r, hr, e⟩ := List.mem_map.mp (show q ∈ g.packages.map fun x => if x.number = p then { x with off := true } else x from h)
              have := hg.itd r hr
              rw [← e]
              split <;> exact this
            od := hg.od
            pt := hg.pt
            ot := hg.ot }
  | choose i p t =>
    simp only [step]
    split
    · exact hg
    · next o ho =>
      split
      · split
        · exact hg
        · exact good_closed hg i p
      · have hc := good_closed hg i p
        have hm := List.mem_of_find?_eq_some ho
        by_cases e : t = true
        · subst e
          exact good_pieces hc (fun x => if x.id = i then { x with trans := o.theirs } else x) (fun x => by split <;> rfl) fun x hx => by
            split
            · exact hg.ot o hm
            · exact hg.pt x hx
        · rw [if_neg e]
          exact hc
  | open_ => exact hg
  | pieces => exact hg
  | package p => exact hg
  | out i => exact hg

theorem step_open (g : House) (c : Call) : (step g c).1.open_.length ≤ g.open_.length + 8 := by
  cases c with
  | piece i t =>
    simp only [step]
    split
    · exact Nat.le_add_right _ _
    · split
      · exact Nat.le_add_right _ _
      · split <;> exact Nat.le_add_right _ _
  | text i t =>
    simp only [step]
    split
    · exact Nat.le_add_right _ _
    · split <;> exact Nat.le_add_right _ _
  | gone i =>
    simp only [step]
    split <;> exact Nat.le_add_right _ _
  | put i t =>
    simp only [step]
    split
    · exact Nat.le_add_right _ _
    · split <;> exact Nat.le_add_right _ _
  | send l =>
    simp only [step]
    split
    · exact Nat.le_add_right _ _
    · split
      · exact Nat.le_add_right _ _
      · split <;> exact Nat.le_add_right _ _
  | back p l =>
    simp only [step]
    split
    · exact Nat.le_add_right _ _
    · next h1 =>
      split
      · exact Nat.le_add_right _ _
      · split
        · exact Nat.le_add_right _ _
        · split
          · exact Nat.le_add_right _ _
          · have h2 := backFrom_open p l g
            have : ¬ 8 < l.length := fun z => h1 (Or.inr (Or.inl z))
            show (backFrom p g l).1.open_.length ≤ _
            omega
  | off p =>
    simp only [step]
    split
    · exact Nat.le_add_right _ _
    · split <;> exact Nat.le_add_right _ _
  | choose i p t =>
    have h1 := closed_len g.open_ i p
    simp only [step]
    split
    · exact Nat.le_add_right _ _
    · split
      · split
        · exact Nat.le_add_right _ _
        · show (closed g.open_ i p).length ≤ _
          omega
      · show (closed g.open_ i p).length ≤ _
        omega
  | open_ => exact Nat.le_add_right _ _
  | pieces => exact Nat.le_add_right _ _
  | package p => exact Nat.le_add_right _ _
  | out i => exact Nat.le_add_right _ _
end Cb

set_option Elab.async false
/-! A line of calls as one list of numbers: how it is parted, what each call is, what is answered behind each. Plain Lean. -/
namespace Cb
open Ut11

abbrev Raw := List (List Int)
/-- one call by its numbers -/
def st (g : House) (c : Raw) : House × List Int := Ut11Neutral.step g ((PyUt11.whole c).headD [])
def after (g : House) (cs : List Raw) : House := cs.foldl (fun g c => (st g c).1) g
def out : House → List Raw → List Int
  | _, [] => []
  | g, c :: r => ((st g c).2.length : Int) :: (st g c).2 ++ out (st g c).1 r
theorem after_snoc (g : House) (cs : List Raw) (c : Raw) : after g (cs ++ [c]) = (st (after g cs) c).1 := by
  unfold after
  rw [List.foldl_append]
  rfl
theorem out_snoc : ∀ (g : House) (cs : List Raw) (c : Raw), out g (cs ++ [c]) = out g cs ++ (((st (after g cs) c).2.length : Int) :: (st (after g cs) c).2)
  | g, [], c => by simp [out, after]
  | g, d :: cs, c => by
    have ih := out_snoc (st g d).1 cs c
    show ((st g d).2.length : Int) :: (st g d).2 ++ out (st g d).1 (cs ++ [c]) = ((st g d).2.length : Int) :: (st g d).2 ++ out (st g d).1 cs ++ _
    rw [ih, List.append_assoc]
    rfl
theorem out_append : ∀ (g : House) (cs ds : List Raw), out g (cs ++ ds) = out g cs ++ out (after g cs) ds
  | g, [], ds => rfl
  | g, d :: cs, ds => by
    have ih := out_append (st g d).1 cs ds
    show ((st g d).2.length : Int) :: (st g d).2 ++ out (st g d).1 (cs ++ ds) = ((st g d).2.length : Int) :: (st g d).2 ++ out (st g d).1 cs ++ _
    rw [ih, List.append_assoc]
    rfl
theorem out_take_le (g : House) (cs : List Raw) (i : Nat) : (out g (cs.take i)).length ≤ (out g cs).length := by
  have h := out_append g (cs.take i) (cs.drop i)
  rw [List.take_append_drop] at h
  rw [h, List.length_append]
  omega
theorem told_played : ∀ (g : House) (cs : List Raw), PyFlat.told (PyFlat.played (fun s c => Ut11Neutral.step s (c.headD [])) g (cs.map PyUt11.whole)) = out g cs
  | _, [] => rfl
  | g, c :: r => by
    have ih := told_played (st g c).1 r
    show ((st g c).2.length : Int) :: (st g c).2 ++ PyFlat.told (PyFlat.played (fun s c => Ut11Neutral.step s (c.headD [])) (st g c).1 (r.map PyUt11.whole)) = _
    rw [ih]
    rfl
theorem answers_out {l : List Int} {cs : List Raw} (h : PyFlat.calls PyUt11.shape l.length l = some cs) : PyUt11.answers l = out init cs := by
  unfold PyUt11.answers PyUt11.calls
  rw [h]
  exact told_played init cs

theorem st_good {g : House} (hg : Good g) (c : Raw) : Good (st g c).1 := by
  unfold st Ut11Neutral.step
  split
  · exact hg
  · exact step_good hg _
theorem st_open (g : House) (c : Raw) : (st g c).1.open_.length ≤ g.open_.length + 8 := by
  unfold st Ut11Neutral.step
  split
  · exact Nat.le_add_right _ _
  · exact step_open g _
theorem after_good : ∀ (cs : List Raw) (g : House), Good g → Good (after g cs)
  | [], _, hg => hg
  | c :: r, g, hg => after_good r (st g c).1 (st_good hg c)
theorem after_open : ∀ (cs : List Raw) (g : House), (after g cs).open_.length ≤ g.open_.length + 8 * cs.length
  | [], _ => by simp [after]
  | c :: r, g => by
    have h1 := after_open r (st g c).1
    have h2 := st_open g c
    show (after (st g c).1 r).open_.length ≤ _
    simp only [List.length_cons]
    omega

/-! ### parting -/
theorem shape_some {p : Int} {n k : Nat} (h : PyUt11.shape p = some (n, k)) : (p = 0 ∧ n = 2 ∧ k = 0) ∨ (p = 1 ∧ n = 2 ∧ k = 0) ∨ (p = 2 ∧ n = 1 ∧ k = 0) ∨ (p = 3 ∧ n = 2 ∧ k = 0) ∨ (p = 4 ∧ n = 0 ∧ k = 1) ∨ (p = 5 ∧ n = 1 ∧ k = 1) ∨
    (p = 6 ∧ n = 1 ∧ k = 0) ∨ (p = 7 ∧ n = 3 ∧ k = 0) ∨ (p = 8 ∧ n = 0 ∧ k = 0) ∨ (p = 9 ∧ n = 0 ∧ k = 0) ∨ (p = 10 ∧ n = 1 ∧ k = 0) ∨ (p = 11 ∧ n = 1 ∧ k = 0) := by
  by_cases h0 : p = 0
  · rw [h0] at h
    simp [PyUt11.shape] at h
    exact Or.inl ⟨h0, h.1.symm, h.2.symm⟩
  by_cases h1 : p = 1
  · rw [h1] at h
    simp [PyUt11.shape] at h
    exact Or.inr (Or.inl ⟨h1, h.1.symm, h.2.symm⟩)
  by_cases h2 : p = 2
  · rw [h2] at h
    simp [PyUt11.shape] at h
    exact Or.inr (Or.inr (Or.inl ⟨h2, h.1.symm, h.2.symm⟩))
  by_cases h3 : p = 3
  · rw [h3] at h
    simp [PyUt11.shape] at h
    exact Or.inr (Or.inr (Or.inr (Or.inl ⟨h3, h.1.symm, h.2.symm⟩)))
  by_cases h4 : p = 4
  · rw [h4] at h
    simp [PyUt11.shape] at h
    exact Or.inr (Or.inr (Or.inr (Or.inr (Or.inl ⟨h4, h.1.symm, h.2.symm⟩))))
  by_cases h5 : p = 5
  · rw [h5] at h
    simp [PyUt11.shape] at h
    exact Or.inr (Or.inr (Or.inr (Or.inr (Or.inr (Or.inl ⟨h5, h.1.symm, h.2.symm⟩)))))
  by_cases h6 : p = 6
  · rw [h6] at h
    simp [PyUt11.shape] at h
    exact Or.inr (Or.inr (Or.inr (Or.inr (Or.inr (Or.inr (Or.inl ⟨h6, h.1.symm, h.2.symm⟩))))))
  by_cases h7 : p = 7
  · rw [h7] at h
    simp [PyUt11.shape] at h
    exact Or.inr (Or.inr (Or.inr (Or.inr (Or.inr (Or.inr (Or.inr (Or.inl ⟨h7, h.1.symm, h.2.symm⟩)))))))
  by_cases h8 : p = 8
  · rw [h8] at h
    simp [PyUt11.shape] at h
    exact Or.inr (Or.inr (Or.inr (Or.inr (Or.inr (Or.inr (Or.inr (Or.inr (Or.inl ⟨h8, h.1.symm, h.2.symm⟩))))))))
  by_cases h9 : p = 9
  · rw [h9] at h
    simp [PyUt11.shape] at h
    exact Or.inr (Or.inr (Or.inr (Or.inr (Or.inr (Or.inr (Or.inr (Or.inr (Or.inr (Or.inl ⟨h9, h.1.symm, h.2.symm⟩)))))))))
  by_cases h10 : p = 10
  · rw [h10] at h
    simp [PyUt11.shape] at h
    exact Or.inr (Or.inr (Or.inr (Or.inr (Or.inr (Or.inr (Or.inr (Or.inr (Or.inr (Or.inr (Or.inl ⟨h10, h.1.symm, h.2.symm⟩))))))))))
  by_cases h11 : p = 11
  · rw [h11] at h
    simp [PyUt11.shape] at h
    exact Or.inr (Or.inr (Or.inr (Or.inr (Or.inr (Or.inr (Or.inr (Or.inr (Or.inr (Or.inr (Or.inr (⟨h11, h.1.symm, h.2.symm⟩)))))))))))
  simp [PyUt11.shape, h0, h1, h2, h3, h4, h5, h6, h7, h8, h9, h10, h11] at h
/-- the list's head is this call, its rest goes on -/
structure Head (l : List Int) (c : Raw) (t : List Int) (p : Int) (n : Nat) (nums row : List Int) : Prop where
  sh : PyUt11.shape p = some (n, 0) ∨ PyUt11.shape p = some (n, 1)
  len : nums.length = n
  zero : PyUt11.shape p = some (n, 0) → l = p :: (nums ++ t) ∧ c = [p :: nums] ∧ row = []
  one : PyUt11.shape p = some (n, 1) → l = p :: (nums ++ ((row.length : Int) :: (row ++ t))) ∧ c = [p :: nums, row]
theorem calls_inv : ∀ {f : Nat} {l : List Int} {c : Raw} {cs : List Raw}, PyFlat.calls PyUt11.shape f l = some (c :: cs) → ∃ t p n nums row, Head l c t p n nums row ∧ PyFlat.calls PyUt11.shape (f - 1) t = some cs
  | f, [], c, cs, h => by
    unfold PyFlat.calls at h
    simp at h
  | 0, p :: r, c, cs, h => by
    simp [PyFlat.calls] at h
  | f + 1, p :: r, c, cs, h => by
    unfold PyFlat.calls at h
    cases e : PyFlat.call PyUt11.shape (p :: r) with
    | none => simp [e] at h
    | some ct =>
      obtain ⟨c', t⟩ := ct
      rw [e] at h
      simp only at h
      cases e2 : PyFlat.calls PyUt11.shape f t with
      | none => simp [e2] at h
      | some cs' =>
        rw [e2] at h
        simp only [Option.some.injEq, List.cons.injEq] at h
        obtain ⟨rfl, rfl⟩ := h
        simp only [PyFlat.call] at e
        cases e3 : PyUt11.shape p with
        | none => simp [e3] at e
        | some nk =>
          obtain ⟨n, k⟩ := nk
          rw [e3] at e
          simp only at e
          by_cases hl : r.length < n
          · simp [hl] at e
          · rw [if_neg hl] at e
            have hk : k = 0 ∨ k = 1 := by
              have := shape_some e3
              omega
            rcases hk with rfl | rfl
            · simp only [PyFlat.rows, Option.some.injEq, Prod.mk.injEq] at e
              obtain ⟨rfl, rfl⟩ := e
              refine ⟨r.drop n, p, n, r.take n, [], ⟨Or.inl e3, by simp; omega, fun _ => ⟨by rw [List.take_append_drop], rfl, rfl⟩, fun z => ?_⟩, e2⟩
              rw [e3] at z
              simp at z
            · cases e4 : r.drop n with
              | nil => simp [e4, PyFlat.rows, PyFlat.row] at e
              | cons m r' =>
                rw [e4] at e
                by_cases hm : 0 ≤ m ∧ m.toNat ≤ r'.length
                · simp only [PyFlat.rows, PyFlat.row, if_pos hm, Option.some.injEq, Prod.mk.injEq] at e
                  obtain ⟨rfl, rfl⟩ := e
                  refine ⟨r'.drop m.toNat, p, n, r.take n, r'.take m.toNat, ⟨Or.inr e3, by simp; omega, fun z => ?_, fun _ => ⟨?_, rfl⟩⟩, e2⟩
                  · rw [e3] at z
                    simp at z
                  · have e5 : ((r'.take m.toNat).length : Int) = m := by
                      simp
                      omega
                    rw [e5, List.take_append_drop, ← e4, List.take_append_drop]
                · simp only [PyFlat.rows, PyFlat.row, if_neg hm] at e
                  cases e
theorem calls_nil {f : Nat} {l : List Int} (h : PyFlat.calls PyUt11.shape f l = some []) : l = [] := by
  cases l with
  | nil => rfl
  | cons p r =>
    cases f with
    | zero => simp [PyFlat.calls] at h
    | succ f =>
      unfold PyFlat.calls at h
      cases e : PyFlat.call PyUt11.shape (p :: r) with
      | none => simp [e] at h
      | some ct =>
        rw [e] at h
        simp only at h
        cases e2 : PyFlat.calls PyUt11.shape f ct.2 with
        | none => simp [e2] at h
        | some cs' => simp [e2] at h

/-! ### what a call is -/
theorem nat_of {x : Int} (h : 0 ≤ x ∧ x ≤ 4294967295) : Ut11Neutral.nat x = true := by
  unfold Ut11Neutral.nat
  simp
  omega
theorem within_of {x lo hi : Int} (h : PyInside.within lo hi x = true) : lo ≤ x ∧ x ≤ hi := by
  unfold PyInside.within at h
  simpa using h
abbrev Num (x : Int) : Prop := 0 ≤ x ∧ x ≤ 4294967295
theorem st_of {g : House} {l : List Int} {d : Call} {c : Raw} (hw : (PyUt11.whole c).headD [] = l) (hl : ∀ x ∈ l, Num x) (hc : Ut11Neutral.callIn (l.map Int.toNat) = some d) : st g c = step g d := by
  have e : Ut11Neutral.callOf l = some d := by
    unfold Ut11Neutral.callOf
    have : l.all Ut11Neutral.nat = true := List.all_eq_true.mpr fun x hx => nat_of (hl x hx)
    rw [this]
    simpa using hc
  unfold st Ut11Neutral.step
  rw [hw, e]
theorem st_piece {g : House} {x y : Int} (hx : Num x) (hy : Num y) : st g [[0, x, y]] = step g (.piece x.toNat y.toNat) :=
  st_of (l := [0, x, y]) rfl (by simp [Num]; omega) rfl
theorem st_text {g : House} {x y : Int} (hx : Num x) (hy : Num y) : st g [[1, x, y]] = step g (.text x.toNat y.toNat) :=
  st_of (l := [1, x, y]) rfl (by simp [Num]; omega) rfl
theorem st_gone {g : House} {x : Int} (hx : Num x) : st g [[2, x]] = step g (.gone x.toNat) :=
  st_of (l := [2, x]) rfl (by simp [Num]; omega) rfl
theorem st_put {g : House} {x y : Int} (hx : Num x) (hy : Num y) : st g [[3, x, y]] = step g (.put x.toNat y.toNat) :=
  st_of (l := [3, x, y]) rfl (by simp [Num]; omega) rfl
theorem st_send {g : House} {r : List Int} (hr : ∀ x ∈ r, Num x) : st g [[4], r] = step g (.send (r.map Int.toNat)) :=
  st_of (l := 4 :: r) rfl (fun x hx => by
    rcases List.mem_cons.mp hx with rfl | h
    · decide
    · exact hr x h) rfl
theorem st_back {g : House} {x : Int} {r : List Int} {m : List (Nat × Nat)} (hx : Num x) (hr : ∀ x ∈ r, Num x) (hm : Ut11Neutral.pairsIn (r.map Int.toNat) = some m) : st g [[5, x], r] = step g (.back x.toNat m) :=
  st_of (l := 5 :: x :: r) rfl (fun y hy => by
    rcases List.mem_cons.mp hy with rfl | h
    · decide
    · rcases List.mem_cons.mp h with rfl | h
      · exact hx
      · exact hr y h) (by
    show (Ut11Neutral.pairsIn (r.map Int.toNat)).map _ = _
    rw [hm]
    rfl)
theorem st_off {g : House} {x : Int} (hx : Num x) : st g [[6, x]] = step g (.off x.toNat) :=
  st_of (l := [6, x]) rfl (by simp [Num]; omega) rfl
theorem st_choose0 {g : House} {x y : Int} (hx : Num x) (hy : Num y) : st g [[7, x, y, 0]] = step g (.choose x.toNat y.toNat false) :=
  st_of (l := [7, x, y, 0]) rfl (by simp [Num]; omega) rfl
theorem st_choose1 {g : House} {x y : Int} (hx : Num x) (hy : Num y) : st g [[7, x, y, 1]] = step g (.choose x.toNat y.toNat true) :=
  st_of (l := [7, x, y, 1]) rfl (by simp [Num]; omega) rfl
theorem st_open8 {g : House} : st g [[8]] = step g .open_ := st_of (l := [8]) rfl (by simp [Num]) rfl
theorem st_pieces {g : House} : st g [[9]] = step g .pieces := st_of (l := [9]) rfl (by simp [Num]) rfl
theorem st_package {g : House} {x : Int} (hx : Num x) : st g [[10, x]] = step g (.package x.toNat) :=
  st_of (l := [10, x]) rfl (by simp [Num]; omega) rfl
theorem st_out {g : House} {x : Int} (hx : Num x) : st g [[11, x]] = step g (.out x.toNat) :=
  st_of (l := [11, x]) rfl (by simp [Num]; omega) rfl
/-- two numbers for each piece -/
def flat : List (Nat × Nat) → List Int
  | [] => []
  | (a, b) :: r => (a : Int) :: (b : Int) :: flat r
theorem pairs_flat : ∀ {r : List Int} {m : List (Nat × Nat)}, (∀ x ∈ r, 0 ≤ x) → Ut11Neutral.pairsIn (r.map Int.toNat) = some m → r = flat m
  | [], m, _, h => by
    simp [Ut11Neutral.pairsIn] at h
    subst h
    rfl
  | [a], m, _, h => by simp [Ut11Neutral.pairsIn] at h
  | a :: b :: r, m, hp, h => by
    simp only [List.map_cons, Ut11Neutral.pairsIn] at h
    cases e : Ut11Neutral.pairsIn (r.map Int.toNat) with
    | none => simp [e] at h
    | some m' =>
      rw [e] at h
      simp only [Option.map_some, Option.some.injEq] at h
      subst h
      have ih := pairs_flat (fun x hx => hp x (by simp [hx])) e
      have h1 := hp a (by simp)
      have h2 := hp b (by simp)
      show a :: b :: r = ((a.toNat : Nat) : Int) :: ((b.toNat : Nat) : Int) :: flat m'
      rw [← ih, Int.toNat_of_nonneg h1, Int.toNat_of_nonneg h2]

/-- what is known of a line that is asked -/
structure Asked (l : List Int) (cs : List Raw) : Prop where
  eq : PyFlat.calls PyUt11.shape l.length l = some cs
  most : cs.length ≤ 40
  inside : ∀ c ∈ cs, PyInside.call PyUt11.bound c = true
  isSome : ∀ c ∈ cs, (Ut11Neutral.callOf ((PyUt11.whole c).headD [])).isSome = true
  short : (out init cs).length ≤ 10000000
theorem asked_of {l : List Int} (h : PyUt11.answers_asked l = true) : ∃ cs, Asked l cs := by
  unfold PyUt11.answers_asked at h
  cases e : PyFlat.calls PyUt11.shape l.length l with
  | none => simp [e] at h
  | some cs =>
    rw [e] at h
    simp only [Bool.and_eq_true] at h
    obtain ⟨⟨⟨⟨_, h2⟩, h3⟩, h4⟩, h5⟩ := h
    refine ⟨cs, e, ?_, ?_, ?_, ?_⟩
    · simpa [PyFlat.atMost] using h2
    · exact List.all_eq_true.mp h3
    · unfold Ut11Neutral.asked at h4
      rw [Bool.and_eq_true] at h4
      intro c hc
      refine List.all_eq_true.mp h4.1 _ ?_
      rw [List.map_map]
      exact List.mem_map.mpr ⟨c, hc, rfl⟩
    · rw [← answers_out e]
      simpa [PyFlat.short] using h5
end Cb

set_option Elab.async false
set_option linter.all false
set_option maxRecDepth 100000
set_option maxHeartbeats 2000000
/-! Rules of my own over the hand layer. -/
namespace Cb
open PySem PySem.Spec PyProof.Rows L2

section
variable {X : Cx}
/-- a module's whole number -/
theorem pe_gi {x : Str} {i : Int} {pos : Pos} (hg : Gl X x) (hm : ∃ t, X.mg x = some (.int i t)) (hd : (x == ("__debug__" : Str)) = false := by decide) : PE X (.Name x pos) (tC (.int i)) := by
  obtain ⟨t, hm⟩ := hm
  exact pe_glob hg hm ⟨t, rfl⟩ hd
/-- a module's object -/
theorem pe_gr {x : Str} {a : Addr} {pos : Pos} (hg : Gl X x) (hm : X.mg x = some (.ref a)) (hd : (x == ("__debug__" : Str)) = false := by decide) : PE X (.Name x pos) (tC (.ref a)) :=
  pe_glob hg hm rfl hd
end

/-! ### defs, methods, classes as they are called -/
def FnG (P : Program) (w : World) (K : PySem.W.Frag) (mg : Str → Option Value) (base : Heap) (x : Str) (k : Nat) (ps : List Str) (sp : Sp) : Prop :=
  ∃ (f : Addr) (fd : FuncData), FnOk P w K mg base CX0 k f fd ps sp ∧ mg x = some (.ref f) ∧ PySem.W.keepIn K (.ref f) = true ∧ Binds K fd ps []
def MtG (P : Program) (w : World) (K : PySem.W.Frag) (mg : Str → Option Value) (base : Heap) (C : Addr) (m : Str) (k : Nat) (ps : List Str) (sp : Sp) : Prop :=
  ∃ (f : Addr) (fd : FuncData), FnOk P w K mg base CX0 k f fd ps sp ∧ Meth K C m f ∧ Binds K fd ps [] ∧ Cls K C
def MkG (P : Program) (w : World) (K : PySem.W.Frag) (mg : Str → Option Value) (base : Heap) (x : Str) (C : Addr) (k : Nat) (ps : List Str) (sp : Sp) : Prop :=
  ∃ (f : Addr) (fd : FuncData), FnOk P w K mg base CX0 k f fd ps sp ∧ Mk K C f ∧ mg x = some (.ref C) ∧ Binds K fd ps []
section
variable {X : Cx} {k : Nat} {ps : List Str} {sp : Sp} {x m : Str} {C : Addr} {p pos apos : Pos} {e o : Expr} {es : List Expr} {t : TA} {ta : TE}
theorem pe_fn (G : FnG X.prog X.w X.K X.mg X.base x k ps sp) (hr : Room k X.A) (hg : Gl X x) (ha : PA X (e :: es) t) (hdb : (x == ("__debug__" : Str)) = false := by decide)
    (he : starEach (e :: es) X.env = (false, eval e X.env) :: starEach es X.env := by rfl) (hpl : (backTo pos (starEach es X.env)).any (·.1) = false := by rfl) : PE X (.Call (.Name x p) (e :: es) [] pos) (tCall sp [] E0 t) := by
  obtain ⟨f, fd, F, hm, hk, hb⟩ := G
  exact pe_call F hr hg hm hk hb .nil pass0 ha hdb he hpl
theorem pe_mt {pl : Sem Bool} (G : MtG X.prog X.w X.K X.mg X.base C m k ps sp) (hr : Room k X.A) (ho : PE X o ta) (ha : PA X (e :: es) t)
    (hst : starEach (e :: es) X.env = (false, eval e X.env) :: starEach es X.env := by rfl) (hpl : (backTo pos (starEach es X.env)).any (·.1) = false := by rfl)
    (ht : eval (.Call (.Attribute o m apos) (e :: es) [] pos) X.env = (do
      let ov ← eval o X.env
      standAt apos.atName
      let (f, first) ← holding [ov] (getMethod ov m pl)
      callWith pos f first (backTo pos (starEach (e :: es) X.env)) (backToKw pos (keywordEach [] X.env))) := by rfl) : PE X (.Call (.Attribute o m apos) (e :: es) [] pos) (tMeth C m sp [] E0 ta t) := by
  obtain ⟨f, fd, F, hm, hb, c⟩ := G
  exact pe_meth ho c hm F hr hb .nil pass0 ha hst hpl ht
theorem pe_mt0 {pl : Sem Bool} (G : MtG X.prog X.w X.K X.mg X.base C m k ps sp) (hr : Room k X.A) (ho : PE X o ta)
    (ht : eval (.Call (.Attribute o m apos) [] [] pos) X.env = (do
      let ov ← eval o X.env
      standAt apos.atName
      let (f, first) ← holding [ov] (getMethod ov m pl)
      callWith pos f first (backTo pos (starEach [] X.env)) (backToKw pos (keywordEach [] X.env))) := by rfl) : PE X (.Call (.Attribute o m apos) [] [] pos) (tMeth C m sp [] E0 ta tNil) := by
  obtain ⟨f, fd, F, hm, hb, c⟩ := G
  exact pe_meth0 ho c hm F hr hb .nil pass0 ht
theorem pe_mk (G : MkG X.prog X.w X.K X.mg X.base x C k ps sp) (hr : Room (k + 1) X.A) (hg : Gl X x) (ha : PA X (e :: es) t) (hdb : (x == ("__debug__" : Str)) = false := by decide)
    (he : starEach (e :: es) X.env = (false, eval e X.env) :: starEach es X.env := by rfl) (hpl : (backTo pos (starEach es X.env)).any (·.1) = false := by rfl) : PE X (.Call (.Name x p) (e :: es) [] pos) (tMake C sp [] E0 t) := by
  obtain ⟨f, fd, F, hM, hm, hb⟩ := G
  exact pe_make hM F hr hg hm hb .nil pass0 ha hdb he hpl
theorem pe_mk0 (G : MkG X.prog X.w X.K X.mg X.base x C k ps sp) (hr : Room (k + 1) X.A) (hg : Gl X x) (hdb : (x == ("__debug__" : Str)) = false := by decide) : PE X (.Call (.Name x p) [] [] pos) (tMake C sp [] E0 tNil) := by
  obtain ⟨f, fd, F, hM, hm, hb⟩ := G
  exact pe_make0 hM F hr hg hm hb .nil pass0 hdb
end

/-! ### len(set(xs)): as many as there are others, all where none is twice -/
theorem met_len : ∀ (ns : List Int) (acc : List Int), (ns.foldl step_dedup acc).length ≤ acc.length + ns.length
  | [], acc => by simp
  | n :: r, acc => by
    have ih := met_len r (step_dedup acc n)
    have h : (step_dedup acc n).length ≤ acc.length + 1 := by
      unfold step_dedup
      split <;> simp
    simp only [List.foldl_cons, List.length_cons]
    omega
theorem met_nodup : ∀ (ns : List Int) (acc : List Int), acc.Nodup → ((ns.foldl step_dedup acc).length = acc.length + ns.length ↔ (acc ++ ns).Nodup)
  | [], acc, h => by simpa using h
  | n :: r, acc, h => by
    by_cases c : n ∈ acc
    · have e : step_dedup acc n = acc := by
        unfold step_dedup
        rw [if_pos]
        exact List.any_eq_true.mpr ⟨n, c, by simp⟩
      have hl := met_len r acc
      rw [List.foldl_cons, e]
      constructor
      · intro q
        simp only [List.length_cons] at q
        omega
      · intro q
        rw [List.nodup_append] at q
        exact absurd rfl (q.2.2 n c n (by simp))
    · have e : step_dedup acc n = acc ++ [n] := by
        unfold step_dedup
        rw [if_neg]
        intro q
        obtain ⟨y, hy, ey⟩ := List.any_eq_true.mp q
        exact c ((eq_of_beq ey) ▸ hy)
      have h2 : (acc ++ [n]).Nodup := by
        rw [List.nodup_append]
        refine ⟨h, by simp, fun x hx y hy e => ?_⟩
        simp at hy
        exact c (hy ▸ e ▸ hx)
      have ih := met_nodup r (acc ++ [n]) h2
      rw [List.foldl_cons, e]
      simp only [List.length_append, List.length_cons, List.length_nil, List.append_assoc, List.singleton_append] at ih ⊢
      rw [← ih]
      omega
theorem range_getD (ns : List Int) : (List.range ns.length).map (fun i => ns.getD i 0) = ns := by
  refine List.ext_getElem? fun i => ?_
  by_cases h : i < ns.length
  · rw [List.getElem?_map, List.getElem?_range h]
    simp [h]
  · rw [List.getElem?_eq_none (by simp; omega), List.getElem?_eq_none (by omega)]
theorem met_iff (ns : List Int) : (firstMet (fun i => ns.getD i 0) ns.length).length = ns.length ↔ ns.Nodup := by
  unfold firstMet
  rw [range_getD]
  have := met_nodup ns [] List.nodup_nil
  simpa using this
def tLenSetN (K : PySem.W.Frag) (ta : TE) : TE := fun σ H Q => ta σ H fun x H1 => ∃ (l : Addr) (ns : List Int), x = .ref l ∧ SqL K H1 l (ns.map V.int) ∧ ns.length ≤ 4000 ∧ ∀ k : Nat, (k = ns.length ↔ ns.Nodup) → Q (.int (k : Nat)) H1
theorem ints_vals : ∀ {ns : List Int} {us : List Value}, Vals (ns.map V.int) us → IntsAre us ns
  | [], _, .nil => .nil
  | n :: ns, _, .cons ⟨k, e⟩ t => by
    subst e
    exact .cons n k (ints_vals t)
theorem pe_lenSetN {X : Cx} {a : Expr} {ta : TE} {p p2 q pos : Pos} (hg : Gl X "len") (hm : X.mg "len" = none) (hg2 : Gl X "set") (hm2 : X.mg "set" = none) (ha : PE X a ta) (hc : X.calm = true := by rfl)
    (na : starEach [a] X.env = (false, eval a X.env) :: starEach [] X.env := by rfl) :
    PE X (.Call (.Name "len" p) [.Call (.Name "set" p2) [a] [] q] [] pos) (tLenSetN X.K ta) := by
  refine ⟨fun pins s σ H Q I hyp => Call_ (ld_blt I hg hm boot_len (callWith_builtin1 (args_cons (Call_ (ld_blt I hg2 hm2 boot_set ?_)) rfl) rfl rfl))⟩
  refine callWith_type1 (args_cons (thn (ha.run pins s σ H _ I hyp) fun v s1 ⟨x, H1, I1, r1, q1⟩ => args_nil ?_) na) na rfl
  obtain ⟨l, ns, ex, hq, few, q1⟩ := q1
  subst ex
  cases r1
  obtain ⟨its, r, pl, _⟩ := I1.list hq
  have len : its.toArray.size = ns.length := by
    have := r.length
    simp at this
    simp [this]
  refine call_set_list (I1.ok.hd hc) pl.isList (by simpa using ints_vals r) (by rw [len]; unfold scanBound; omega) fun h' tk hS keep => args_nil ?_
  rw [len] at hS
  have le := firstMet_length_le (fun i => ns.getD i 0) ns.length
  obtain ⟨o, es, ep, t, ho, hex, hd, _, _, _, hf, hn⟩ := hS
  have I2 : Inv X pins σ H1 { s1 with heap := h', toks := tk } := I1.kept fun b o e => keep b o (Heap.lt_size e) e
  exact call_len_set ho hex hd hf (by rw [hn]; omega) ⟨.int es.size, H1, I2.tok _, ⟨_, rfl⟩, q1 es.size (by rw [hn]; exact met_iff ns)⟩

/-! ### a comprehension whose test and item only read -/
theorem lc_ex {α : Type} {J : It} {l : List α} {v : α → V} {G : Hp → Prop} (w : Walk J (l.map v).length G (YAt (l.map v))) {j : Nat} {tt : TT} {te : TE} {σ : L2.St} {H : Hp} {D : Addr} {Qd : Hp → Prop} (p : α → Bool) (f : α → V) (hG : ∀ l, G (upd H D (.lst l)))
    (ht : ∀ x ∈ l, ∀ (m : List V) (R : Bool → Hp → Prop), R (p x) (upd H D (.lst m)) → tt ((wipe σ [j]).set j (some (v x))) (upd H D (.lst m)) R)
    (he : ∀ x ∈ l, p x = true → ∀ (m : List V) (R : VK), R (f x) (upd H D (.lst m)) → te ((wipe σ [j]).set j (some (v x))) (upd H D (.lst m)) R)
    (hlen : l.length < sizeLine) (hd : Qd (upd H D (.lst ((l.filter p).map f)))) :
    ∃ W : Nat → Nat → Hp → Prop, (∃ m, W 0 m (upd H D (.lst []))) ∧ ∀ i m H', W i m H' →
      (J.stop i H' ∧ Qd H') ∨ (J.go i H' ∧ ∃ Nx : Hp → Prop, (∀ H'', Nx H'' → ∃ m', m' < m ∧ W (i + 1) m' H'') ∧ ∀ x H'', J.yld i H' x H'' → gName j x (wipe σ [j]) H'' fun σ2 H2 => wipe σ2 [j] = wipe σ [j] ∧ tt σ2 H2 fun b H3 =>
        if b = true then te σ2 H3 fun y H4 => ∃ acc, H4 D = some (.lst acc) ∧ acc.length < sizeLine ∧ Nx (upd H4 D (.lst (acc ++ [y]))) else Nx H3) := by
  refine lc_it w (fun i H' => H' = upd H D (.lst (((l.take i).filter p).map f))) rfl (fun i H' _ e => by rw [e]; exact hG _) ?_ ?_
  · rintro i x H1 H2 hi rfl ⟨e, hx⟩
    subst e
    rw [List.getElem?_map] at hx
    obtain ⟨y, hy, rfl⟩ := Option.map_eq_some_iff.mp hx
    have hm : y ∈ l := List.mem_of_getElem? hy
    have et : l.take (i + 1) = l.take i ++ [y] := by rw [List.take_add_one, hy]; rfl
    refine ⟨?_, ht y hm _ _ ?_⟩
    · show (((σ.set j none).set j (some (v y))).set j none) = σ.set j none
      rw [List.set_set, List.set_set]
    · by_cases c : p y = true
      · rw [c, if_pos rfl]
        refine he y hm c _ _ ⟨_, upd_same, ?_, ?_⟩
        · have h1 := List.length_filter_le p (l.take i)
          simp only [List.length_map]
          have h2 : (l.take i).length ≤ l.length := by simp; omega
          omega
        · rw [upd_upd, et, List.filter_append, List.map_append]
          simp [c]
      · have c' : p y = false := by simpa using c
        rw [c', if_neg Bool.false_ne_true, et, List.filter_append, List.map_append]
        simp [c']
  · rintro H' e
    rw [List.length_map] at e
    rw [e, List.take_length]
    exact hd
/-- a dict's values -/
theorem walk_vals {α : Type} {d : Addr} {o : Obj} {l : List α} {k : α → Key} {v : α → V} : Walk (Itd d o (l.map fun x => (k x, v x))) (l.map v).length (fun H => H d = some (.frz o (.dK (l.map fun x => (k x, v x))))) (YAt (l.map v)) := by
  have w := walk_values (d := d) (o := o) (kvs := l.map fun x => (k x, v x))
  rw [List.length_map] at w ⊢
  refine w.mono (fun _ h => h) fun i H x H' _ _ ⟨e, k', hk⟩ => ⟨e, ?_⟩
  rw [List.getElem?_map] at hk ⊢
  obtain ⟨y, hy, e⟩ := Option.map_eq_some_iff.mp hk
  rw [hy]
  exact congrArg (fun p : Key × V => some p.2) e
/-- a range with a step -/
theorem walk_step {lo c : Int} {n : Nat} : Walk (Itc lo c n) ((List.range n).map fun i => V.int (lo + (i : Nat) * c)).length (fun _ => True) (YAt ((List.range n).map fun i => V.int (lo + (i : Nat) * c))) := by
  have w := walk_rangeC (lo := lo) (c := c) (n := n)
  rw [List.length_map, List.length_range]
  exact w.mono (fun _ h => h) fun i H x H' hi _ ⟨e, hx⟩ => ⟨e, by rw [List.getElem?_map, List.getElem?_range hi, hx]; rfl⟩

/-! ### numbers compared -/
theorem dec_nn (a b : Nat) : decide (V.int ((a : Nat) : Int) = V.int ((b : Nat) : Int)) = decide (a = b) := by
  rw [dec_int]
  by_cases h : a = b
  · subst h; simp
  · have : ¬ ((a : Int) = (b : Int)) := by omega
    rw [decide_eq_false h]
    exact beq_eq_false_iff_ne.mpr this
theorem dec_lt (a b : Nat) : decide (((a : Nat) : Int) < ((b : Nat) : Int)) = decide (a < b) := by
  by_cases h : a < b
  · rw [decide_eq_true h]; exact decide_eq_true (by omega)
  · rw [decide_eq_false h]; exact decide_eq_false (by omega)
theorem dec_le (a b : Nat) : decide (((a : Nat) : Int) ≤ ((b : Nat) : Int)) = decide (a ≤ b) := by
  by_cases h : a ≤ b
  · rw [decide_eq_true h]; exact decide_eq_true (by omega)
  · rw [decide_eq_false h]; exact decide_eq_false (by omega)

/-! ### an if whose test is known -/
theorem if_t {c : Bool} {A B : Prop} (hc : c = true) (h : A) : if c = true then A else B := by
  rw [if_pos hc]
  exact h
theorem if_f {c : Bool} {A B : Prop} (hc : c = false) (h : B) : if c = true then A else B := by
  rw [hc, if_neg Bool.false_ne_true]
  exact h
end Cb

set_option Elab.async false
set_option linter.all false
set_option maxRecDepth 100000
set_option maxHeartbeats 2000000
/-! The office in the heap: where it lies, and what a store does to it. -/
namespace Cb
open PySem PySem.Spec PyProof.Rows L2
open Ut11 (House Piece Item Package)

/-! ### small things -/
theorem lk_here {k : Str} {v : V} {r : List (Str × V)} : List.lookup k ((k, v) :: r) = some v := by
  have e : (k == k) = true := beq_self_eq_true k
  simp only [List.lookup, e]
theorem lk_past {k g : Str} {v : V} {r : List (Str × V)} (h : (k == g) = false) : List.lookup k ((g, v) :: r) = List.lookup k r := by
  simp only [List.lookup, h]
theorem put_here {f : Str} {v x : V} {r : List (Str × V)} : putF f v ((f, x) :: r) = (f, v) :: r := if_pos rfl
theorem put_past {f g : Str} {v x : V} {r : List (Str × V)} (h : ¬ g = f) : putF f v ((g, x) :: r) = (g, x) :: putF f v r := if_neg h
theorem put_nil {f : Str} {v : V} : putF f v [] = [(f, v)] := rfl
theorem inj_nodup {α β : Type} {f : α → β} : ∀ {l : List α}, (l.map f).Nodup → ∀ {x y : α}, x ∈ l → y ∈ l → f x = f y → x = y
  | [], _, _, _, hx, _, _ => by simp at hx
  | a :: r, h, x, y, hx, hy, e => by
    obtain ⟨h1, h2⟩ := List.nodup_cons.mp (show (f a :: r.map f).Nodup from h)
    rcases List.mem_cons.mp hx with ex | hx
    · rcases List.mem_cons.mp hy with ey | hy
      · rw [ex, ey]
      · exact absurd (List.mem_map.mpr ⟨y, hy, by rw [← e, ex]⟩) h1
    · rcases List.mem_cons.mp hy with ey | hy
      · exact absurd (List.mem_map.mpr ⟨x, hx, by rw [e, ey]⟩) h1
      · exact inj_nodup h2 hx hy e

/-- a list in which nothing is twice, of several: an item in two of them is in one -/
theorem two_in {α β : Type} {f : α → List β} : ∀ {l : List α}, (l.flatMap f).Nodup → ∀ {x y : α} {b : β}, x ∈ l → y ∈ l → b ∈ f x → b ∈ f y → x = y
  | [], _, _, _, _, hx, _, _, _ => by simp at hx
  | a :: r, h, x, y, b, hx, hy, bx, bY => by
    rw [List.flatMap_cons, List.nodup_append] at h
    obtain ⟨_, h2, h3⟩ := h
    rcases List.mem_cons.mp hx with ex | hx
    · rcases List.mem_cons.mp hy with ey | hy
      · rw [ex, ey]
      · exact absurd rfl (h3 b (ex ▸ bx) b (List.mem_flatMap.mpr ⟨y, hy, bY⟩))
    · rcases List.mem_cons.mp hy with ey | hy
      · exact absurd rfl (h3 b (ey ▸ bY) b (List.mem_flatMap.mpr ⟨x, hx, bx⟩))
      · exact two_in h2 hx hy bx bY

/-- the classes' addresses -/
structure Ad where
  pc : Addr
  st : Addr
  pk : Addr
  op : Addr
  of : Addr

def pF (p : Piece) : List (Str × V) := [("text", .int (p.text : Nat)), ("translation", .int (p.trans : Nat))]
def iF (m : Item) : List (Str × V) := [("text", .int (m.text : Nat)), ("base", .int (m.base : Nat))]
def oF (o : Ut11.Open) : List (Str × V) := [("name", .int (o.id : Nat)), ("package", .int (o.package : Nat)), ("text", .int (o.text : Nat)), ("theirs", .int (o.theirs : Nat))]
def kF (d : Addr) (b : Bool) : List (Str × V) := [("sent", .ref d), ("given_up", .bl b)]
def fF (dp lp lo : Addr) : List (Str × V) := [("pieces", .ref dp), ("packages", .ref lp), ("opened", .ref lo)]
theorem pF_text (p : Piece) : (pF p).lookup ("text" : Str) = some (.int (p.text : Nat)) := lk_here
theorem pF_tr (p : Piece) : (pF p).lookup ("translation" : Str) = some (.int (p.trans : Nat)) := (lk_past (by decide +kernel)).trans lk_here
theorem iF_text (p : Item) : (iF p).lookup ("text" : Str) = some (.int (p.text : Nat)) := lk_here
theorem iF_base (p : Item) : (iF p).lookup ("base" : Str) = some (.int (p.base : Nat)) := (lk_past (by decide +kernel)).trans lk_here
theorem kF_sent (d : Addr) (b : Bool) : (kF d b).lookup ("sent" : Str) = some (.ref d) := lk_here
theorem kF_off (d : Addr) (b : Bool) : (kF d b).lookup ("given_up" : Str) = some (.bl b) := (lk_past (by decide +kernel)).trans lk_here
theorem kF_put (d : Addr) (b c : Bool) : putF "given_up" (.bl c) (kF d b) = kF d c := (put_past (by decide +kernel)).trans (congrArg _ put_here)
theorem oF_name (o : Ut11.Open) : (oF o).lookup ("name" : Str) = some (.int (o.id : Nat)) := lk_here
theorem oF_package (o : Ut11.Open) : (oF o).lookup ("package" : Str) = some (.int (o.package : Nat)) := (lk_past (by decide +kernel)).trans lk_here
theorem oF_text (o : Ut11.Open) : (oF o).lookup ("text" : Str) = some (.int (o.text : Nat)) := (lk_past (by decide +kernel)).trans ((lk_past (by decide +kernel)).trans lk_here)
theorem oF_theirs (o : Ut11.Open) : (oF o).lookup ("theirs" : Str) = some (.int (o.theirs : Nat)) := (lk_past (by decide +kernel)).trans ((lk_past (by decide +kernel)).trans ((lk_past (by decide +kernel)).trans lk_here))
section
variable (dp lp lo : Addr)
theorem fF_pieces : (fF dp lp lo).lookup ("pieces" : Str) = some (.ref dp) := lk_here
theorem fF_packages : (fF dp lp lo).lookup ("packages" : Str) = some (.ref lp) := (lk_past (by decide +kernel)).trans lk_here
theorem fF_opened : (fF dp lp lo).lookup ("opened" : Str) = some (.ref lo) := (lk_past (by decide +kernel)).trans ((lk_past (by decide +kernel)).trans lk_here)
theorem fF_no {m : Str} (h1 : (m == ("pieces" : Str)) = false) (h2 : (m == ("packages" : Str)) = false) (h3 : (m == ("opened" : Str)) = false) : (fF dp lp lo).lookup m = none :=
  (lk_past h1).trans ((lk_past h2).trans ((lk_past h3).trans rfl))
theorem fF_put (l : Addr) : putF "opened" (.ref l) (fF dp lp lo) = fF dp lp l := (put_past (by decide +kernel)).trans (congrArg _ ((put_past (by decide +kernel)).trans (congrArg _ put_here)))
end
theorem pF_put_text (p : Piece) (t : Nat) : putF "text" (.int (t : Nat)) (pF p) = pF { p with text := t } := put_here
theorem pF_put_tr (p : Piece) (t : Nat) : putF "translation" (.int (t : Nat)) (pF p) = pF { p with trans := t } := (put_past (by decide +kernel)).trans (congrArg _ put_here)
theorem iF_put (p : Item) (t : Nat) : putF "base" (.int (t : Nat)) (iF p) = iF { p with base := t } := (put_past (by decide +kernel)).trans (congrArg _ put_here)

/-! ### the layout -/
structure KA where
  a : Addr
  d : Addr
  number : Nat
  off : Bool
  items : List (Addr × Item)
def KA.pkg (k : KA) : Package := ⟨k.number, k.items.map (·.2), k.off⟩
structure Lay where
  dx : Addr
  dp : Addr
  lp : Addr
  lo : Addr
  ps : List (Addr × Piece)
  ks : List KA
  os : List (Addr × Ut11.Open)
def Lay.house (L : Lay) : House := ⟨L.ps.map (·.2), L.ks.map KA.pkg, L.ks.length, L.os.map (·.2)⟩
def kvP (l : List (Addr × Piece)) : List (Key × V) := l.map fun x => (Sum.inl ((x.2.id : Nat) : Int), V.ref x.1)
def kvI (l : List (Addr × Item)) : List (Key × V) := l.map fun x => (Sum.inl ((x.2.id : Nat) : Int), V.ref x.1)
/-- what belongs to the office -/
inductive Foot (o : Addr) (L : Lay) : Addr → Prop
  | o : Foot o L o
  | dp : Foot o L L.dp
  | lp : Foot o L L.lp
  | lo : Foot o L L.lo
  | p {x : Addr × Piece} (h : x ∈ L.ps) : Foot o L x.1
  | k {k : KA} (h : k ∈ L.ks) : Foot o L k.a
  | d {k : KA} (h : k ∈ L.ks) : Foot o L k.d
  | i {k : KA} {x : Addr × Item} (h : k ∈ L.ks) (hx : x ∈ k.items) : Foot o L x.1
  | q {x : Addr × Ut11.Open} (h : x ∈ L.os) : Foot o L x.1
structure At (A : Ad) (H : Hp) (o : Addr) (L : Lay) : Prop where
  hO : H o = some (.ins A.of L.dx (fF L.dp L.lp L.lo))
  hP : H L.dp = some (.dK (kvP L.ps))
  hK : H L.lp = some (.lst (L.ks.map fun k => V.ref k.a))
  hL : H L.lo = some (.lst (L.os.map fun x => V.ref x.1))
  ps : ∀ x ∈ L.ps, ∃ dx, H x.1 = some (.ins A.pc dx (pF x.2))
  ks : ∀ k ∈ L.ks, ∃ dx, H k.a = some (.ins A.pk dx (kF k.d k.off))
  ds : ∀ k ∈ L.ks, H k.d = some (.dK (kvI k.items))
  is : ∀ k ∈ L.ks, ∀ x ∈ k.items, ∃ dx, H x.1 = some (.ins A.st dx (iF x.2))
  os : ∀ x ∈ L.os, ∃ dx, H x.1 = some (.ins A.op dx (oF x.2))
  pa : (L.ps.map (·.1)).Nodup
  ia : ((L.ks.flatMap (·.items)).map (·.1)).Nodup
  ka : (L.ks.map (·.a)).Nodup
  np : ∀ k ∈ L.ks, k.d ≠ L.dp
  nl : L.lp ≠ L.lo

section
variable {A : Ad} {H H' : Hp} {o : Addr} {L : Lay}
theorem At.there (h : At A H o L) {b : Addr} (f : Foot o L b) : ∃ u, H b = some u := by
  cases f with
  | o => exact ⟨_, h.hO⟩
  | dp => exact ⟨_, h.hP⟩
  | lp => exact ⟨_, h.hK⟩
  | lo => exact ⟨_, h.hL⟩
  | p hx => obtain ⟨_, e⟩ := h.ps _ hx; exact ⟨_, e⟩
  | k hk => obtain ⟨_, e⟩ := h.ks _ hk; exact ⟨_, e⟩
  | d hk => exact ⟨_, h.ds _ hk⟩
  | i hk hx => obtain ⟨_, e⟩ := h.is _ hk _ hx; exact ⟨_, e⟩
  | q hx => obtain ⟨_, e⟩ := h.os _ hx; exact ⟨_, e⟩
theorem At.ne (h : At A H o L) {b p : Addr} (f : Foot o L b) (hp : H p = none) : b ≠ p := by
  obtain ⟨u, e⟩ := h.there f
  exact ne_of_none e hp
/-- what belongs to it stands as it was -/
theorem At.mono (h : At A H o L) (k : ∀ b, Foot o L b → H' b = H b) : At A H' o L where
  hO := (k _ .o).trans h.hO
  hP := (k _ .dp).trans h.hP
  hK := (k _ .lp).trans h.hK
  hL := (k _ .lo).trans h.hL
  ps := fun x hx => by rw [k _ (.p hx)]; exact h.ps x hx
  ks := fun x hx => by rw [k _ (.k hx)]; exact h.ks x hx
  ds := fun x hx => by rw [k _ (.d hx)]; exact h.ds x hx
  is := fun q hq x hx => by rw [k _ (.i hq hx)]; exact h.is q hq x hx
  os := fun x hx => by rw [k _ (.q hx)]; exact h.os x hx
  pa := h.pa
  ia := h.ia
  ka := h.ka
  np := h.np
  nl := h.nl
theorem At.fresh (h : At A H o L) {p : Addr} {u : HO} (hp : H p = none) : At A (upd H p u) o L :=
  h.mono fun b f => upd_ne (h.ne f hp)
/-- an address outside -/
theorem At.out (h : At A H o L) {p : Addr} {u : HO} (hp : ¬ Foot o L p) : At A (upd H p u) o L :=
  h.mono fun b f => upd_ne fun e => hp (e ▸ f)

/-! ### things of unlike kinds stand apart -/
theorem d_ne_i {kvs : List (Key × V)} {C dx : Addr} {fs : List (Str × V)} : HO.dK kvs ≠ HO.ins C dx fs := fun e => nomatch e
theorem l_ne_i {l : List V} {C dx : Addr} {fs : List (Str × V)} : HO.lst l ≠ HO.ins C dx fs := fun e => nomatch e
theorem l_ne_d {l : List V} {kvs : List (Key × V)} : HO.lst l ≠ HO.dK kvs := fun e => nomatch e
theorem pF_ne_iF {C D dx dy : Addr} {p : Piece} {m : Item} : HO.ins C dx (pF p) ≠ HO.ins D dy (iF m) := by
  intro e
  injection e with _ _ e
  have e2 : (("translation" : Str)) = "base" := by
    have := congrArg (fun l : List (Str × V) => (l.map (·.1))[1]?) e
    exact Option.some.inj this
  exact absurd e2 (by decide +kernel)
theorem pF_ne_oF {C D dx dy : Addr} {p : Piece} {m : Ut11.Open} : HO.ins C dx (pF p) ≠ HO.ins D dy (oF m) := by
  intro e
  injection e with _ _ e
  have := congrArg List.length e
  exact absurd this (by show ¬ (2 = 4); decide)
theorem iF_ne_oF {C D dx dy : Addr} {p : Item} {m : Ut11.Open} : HO.ins C dx (iF p) ≠ HO.ins D dy (oF m) := by
  intro e
  injection e with _ _ e
  have := congrArg List.length e
  exact absurd this (by show ¬ (2 = 4); decide)
theorem pF_ne_fF {C D dx dy a b c : Addr} {p : Piece} : HO.ins C dx (pF p) ≠ HO.ins D dy (fF a b c) := by
  intro e
  injection e with _ _ e
  have := congrArg List.length e
  exact absurd this (by show ¬ (2 = 3); decide)
theorem iF_ne_fF {C D dx dy a b c : Addr} {p : Item} : HO.ins C dx (iF p) ≠ HO.ins D dy (fF a b c) := by
  intro e
  injection e with _ _ e
  have := congrArg List.length e
  exact absurd this (by show ¬ (2 = 3); decide)
theorem oF_ne_fF {C D dx dy a b c : Addr} {p : Ut11.Open} : HO.ins C dx (oF p) ≠ HO.ins D dy (fF a b c) := by
  intro e
  injection e with _ _ e
  have := congrArg List.length e
  exact absurd this (by show ¬ (4 = 3); decide)

theorem kF_ne_pF {C D dx dy d : Addr} {b : Bool} {p : Piece} : HO.ins C dx (kF d b) ≠ HO.ins D dy (pF p) := by
  intro e
  injection e with _ _ e
  have e2 : (("sent" : Str)) = "text" := by
    have := congrArg (fun l : List (Str × V) => (l.map (·.1))[0]?) e
    exact Option.some.inj this
  exact absurd e2 (by decide +kernel)
theorem kF_ne_iF {C D dx dy d : Addr} {b : Bool} {p : Item} : HO.ins C dx (kF d b) ≠ HO.ins D dy (iF p) := by
  intro e
  injection e with _ _ e
  have e2 : (("sent" : Str)) = "text" := by
    have := congrArg (fun l : List (Str × V) => (l.map (·.1))[0]?) e
    exact Option.some.inj this
  exact absurd e2 (by decide +kernel)
theorem kF_ne_oF {C D dx dy d : Addr} {b : Bool} {m : Ut11.Open} : HO.ins C dx (kF d b) ≠ HO.ins D dy (oF m) := by
  intro e
  injection e with _ _ e
  have := congrArg List.length e
  exact absurd this (by show ¬ (2 = 4); decide)
theorem kF_ne_fF {C D dx dy a b c d : Addr} {f : Bool} : HO.ins C dx (kF d f) ≠ HO.ins D dy (fF a b c) := by
  intro e
  injection e with _ _ e
  have := congrArg List.length e
  exact absurd this (by show ¬ (2 = 3); decide)

/-! ### a piece is changed -/
def setP (ps : List (Addr × Piece)) (a : Addr) (p' : Piece) : List (Addr × Piece) := ps.map fun x => if x.1 = a then (a, p') else x
theorem setP_addr (ps : List (Addr × Piece)) (a : Addr) (p' : Piece) : (setP ps a p').map (·.1) = ps.map (·.1) := by
  unfold setP
  rw [List.map_map]
  refine List.map_congr_left fun x _ => ?_
  show (if x.1 = a then (a, p') else x).1 = x.1
  split
  · next e => exact e.symm
  · rfl
theorem kvP_set {ps : List (Addr × Piece)} {a : Addr} {p p' : Piece} (hn : (ps.map (·.1)).Nodup) (hm : (a, p) ∈ ps) (hi : p'.id = p.id) : kvP (setP ps a p') = kvP ps := by
  unfold kvP setP
  rw [List.map_map]
  refine List.map_congr_left fun x hx => ?_
  show (Sum.inl (((if x.1 = a then (a, p') else x).2.id : Nat) : Int), V.ref (if x.1 = a then (a, p') else x).1) = _
  split
  · next e =>
    have := inj_nodup hn hx hm e
    subst this
    show (Sum.inl ((p'.id : Nat) : Int), V.ref a) = _
    rw [hi]
  · rfl
theorem At.piece (h : At A H o L) {a : Addr} {p p' : Piece} {dx : Addr} (hm : (a, p) ∈ L.ps) (hi : p'.id = p.id) : At A (upd H a (.ins A.pc dx (pF p'))) o { L with ps := setP L.ps a p' } := by
  obtain ⟨d0, e0⟩ := h.ps _ hm
  have e0 : H a = some (.ins A.pc d0 (pF p)) := e0
  have hk := kvP_set h.pa hm hi
  refine ⟨?_, ?_, ?_, ?_, fun x hx => ?_, fun k hk => ?_, fun k hk => ?_, fun k hk x hx => ?_, fun x hx => ?_, ?_, h.ia, h.ka, h.np, h.nl⟩
  · rw [upd_ne (ne_of h.hO e0 pF_ne_fF.symm)]; exact h.hO
  · show upd H a _ L.dp = some (.dK (kvP (setP L.ps a p')))
    rw [upd_ne (ne_of h.hP e0 d_ne_i), hk]; exact h.hP
  · rw [upd_ne (ne_of h.hK e0 l_ne_i)]; exact h.hK
  · rw [upd_ne (ne_of h.hL e0 l_ne_i)]; exact h.hL
  · obtain ⟨y, hy, e⟩ := List.mem_map.mp (show x ∈ L.ps.map _ from hx)
    by_cases c : y.1 = a
    · rw [if_pos c] at e
      subst e
      exact ⟨dx, upd_same⟩
    · rw [if_neg c] at e
      subst e
      rw [upd_ne c]
      exact h.ps y hy
  · obtain ⟨d, e⟩ := h.ks k hk
    exact ⟨d, by rw [upd_ne (ne_of e e0 kF_ne_pF)]; exact e⟩
  · rw [upd_ne (ne_of (h.ds k hk) e0 d_ne_i)]; exact h.ds k hk
  · obtain ⟨d, e⟩ := h.is k hk x hx
    exact ⟨d, by rw [upd_ne (ne_of e e0 pF_ne_iF.symm)]; exact e⟩
  · obtain ⟨d, e⟩ := h.os x hx
    exact ⟨d, by rw [upd_ne (ne_of e e0 pF_ne_oF.symm)]; exact e⟩
  · show ((setP L.ps a p').map (·.1)).Nodup
    rw [setP_addr]; exact h.pa
theorem house_piece (L : Lay) {a : Addr} {p p' : Piece} (f : Piece → Piece) (hn : (L.ps.map (·.1)).Nodup) (hd : (L.house.pieces.map (·.id)).Nodup) (hm : (a, p) ∈ L.ps) (e : f p = p') (ho : ∀ x ∈ L.house.pieces, x.id ≠ p.id → f x = x) :
    ({ L with ps := setP L.ps a p' } : Lay).house = { L.house with pieces := L.house.pieces.map f } := by
  have q : (setP L.ps a p').map (·.2) = (L.ps.map (·.2)).map f := by
    unfold setP
    rw [List.map_map, List.map_map]
    refine List.map_congr_left fun x hx => ?_
    show (if x.1 = a then (a, p') else x).2 = f x.2
    by_cases c : x.1 = a
    · have := inj_nodup hn hx hm c
      subst this
      rw [if_pos c, ← e]
    · rw [if_neg c]
      refine (ho x.2 (List.mem_map.mpr ⟨x, hx, rfl⟩) fun z => ?_).symm
      have hd : ((L.ps.map (·.2)).map (·.id)).Nodup := hd
      rw [List.map_map] at hd
      have := inj_nodup hd hx hm z
      exact c (by rw [this])
  show (⟨(setP L.ps a p').map (·.2), _, _, _⟩ : House) = _
  rw [q]
  rfl
theorem foot_piece {a : Addr} {p p' : Piece} (hm : (a, p) ∈ L.ps) {b : Addr} (f : Foot o { L with ps := setP L.ps a p' } b) : Foot o L b := by
  cases f with
  | o => exact .o
  | dp => exact .dp
  | lp => exact .lp
  | lo => exact .lo
  | p hx =>
    obtain ⟨y, hy, e⟩ := List.mem_map.mp (show _ ∈ L.ps.map _ from hx)
    by_cases c : y.1 = a
    · rw [if_pos c] at e
      subst e
      exact Foot.p (x := (a, p)) hm
    · rw [if_neg c] at e
      subst e
      exact .p hy
  | k h => exact .k h
  | d h => exact .d h
  | i h hx => exact .i h hx
  | q h => exact .q h

/-! ### a piece more, a piece less -/
theorem At.more (h : At A H o L) {a dx : Addr} {p : Piece} (ha : H a = some (.ins A.pc dx (pF p))) (hn : ¬ Foot o L a) : At A (upd H L.dp (.dK (kvP (L.ps ++ [(a, p)])))) o { L with ps := L.ps ++ [(a, p)] } := by
  refine ⟨?_, upd_same, ?_, ?_, fun x hx => ?_, fun k hk => ?_, fun k hk => ?_, fun k hk x hx => ?_, fun x hx => ?_, ?_, h.ia, h.ka, h.np, h.nl⟩
  · rw [upd_ne (ne_of h.hO h.hP d_ne_i.symm)]; exact h.hO
  · rw [upd_ne (ne_of h.hK h.hP l_ne_d)]; exact h.hK
  · rw [upd_ne (ne_of h.hL h.hP l_ne_d)]; exact h.hL
  · rcases List.mem_append.mp hx with m | m
    · obtain ⟨d, e⟩ := h.ps x m
      exact ⟨d, by rw [upd_ne (ne_of e h.hP d_ne_i.symm)]; exact e⟩
    · have e : x = (a, p) := by simpa using m
      subst e
      exact ⟨dx, by rw [upd_ne (ne_of ha h.hP d_ne_i.symm)]; exact ha⟩
  · obtain ⟨d, e⟩ := h.ks k hk
    exact ⟨d, by rw [upd_ne (ne_of e h.hP d_ne_i.symm)]; exact e⟩
  · rw [upd_ne (h.np k hk)]; exact h.ds k hk
  · obtain ⟨d, e⟩ := h.is k hk x hx
    exact ⟨d, by rw [upd_ne (ne_of e h.hP d_ne_i.symm)]; exact e⟩
  · obtain ⟨d, e⟩ := h.os x hx
    exact ⟨d, by rw [upd_ne (ne_of e h.hP d_ne_i.symm)]; exact e⟩
  · show ((L.ps ++ [(a, p)]).map (·.1)).Nodup
    rw [List.map_append]
    refine nodup_snoc h.pa fun m => ?_
    obtain ⟨x, hx, e⟩ := List.mem_map.mp m
    have e : x.1 = a := e
    exact hn (e ▸ Foot.p hx)
theorem foot_more {a : Addr} {p : Piece} {b : Addr} (f : Foot o { L with ps := L.ps ++ [(a, p)] } b) : Foot o L b ∨ b = a := by
  cases f with
  | o => exact .inl .o
  | dp => exact .inl .dp
  | lp => exact .inl .lp
  | lo => exact .inl .lo
  | p hx =>
    rcases List.mem_append.mp hx with m | m
    · exact .inl (.p m)
    · have e := List.mem_singleton.mp m
      exact .inr (by rw [e])
  | k h => exact .inl (.k h)
  | d h => exact .inl (.d h)
  | i h hx => exact .inl (.i h hx)
  | q h => exact .inl (.q h)
theorem At.less (h : At A H o L) (c : Addr × Piece → Bool) : At A (upd H L.dp (.dK (kvP (L.ps.filter c)))) o { L with ps := L.ps.filter c } := by
  refine ⟨?_, upd_same, ?_, ?_, fun x hx => ?_, fun k hk => ?_, fun k hk => ?_, fun k hk x hx => ?_, fun x hx => ?_, ?_, h.ia, h.ka, h.np, h.nl⟩
  · rw [upd_ne (ne_of h.hO h.hP d_ne_i.symm)]; exact h.hO
  · rw [upd_ne (ne_of h.hK h.hP l_ne_d)]; exact h.hK
  · rw [upd_ne (ne_of h.hL h.hP l_ne_d)]; exact h.hL
  · obtain ⟨d, e⟩ := h.ps x (List.mem_filter.mp hx).1
    exact ⟨d, by rw [upd_ne (ne_of e h.hP d_ne_i.symm)]; exact e⟩
  · obtain ⟨d, e⟩ := h.ks k hk
    exact ⟨d, by rw [upd_ne (ne_of e h.hP d_ne_i.symm)]; exact e⟩
  · rw [upd_ne (h.np k hk)]; exact h.ds k hk
  · obtain ⟨d, e⟩ := h.is k hk x hx
    exact ⟨d, by rw [upd_ne (ne_of e h.hP d_ne_i.symm)]; exact e⟩
  · obtain ⟨d, e⟩ := h.os x hx
    exact ⟨d, by rw [upd_ne (ne_of e h.hP d_ne_i.symm)]; exact e⟩
  · exact h.pa.sublist (List.Sublist.map _ List.filter_sublist)
theorem foot_less {c : Addr × Piece → Bool} {b : Addr} (f : Foot o { L with ps := L.ps.filter c } b) : Foot o L b := by
  cases f with
  | o => exact .o
  | dp => exact .dp
  | lp => exact .lp
  | lo => exact .lo
  | p hx => exact .p (List.mem_filter.mp hx).1
  | k h => exact .k h
  | d h => exact .d h
  | i h hx => exact .i h hx
  | q h => exact .q h

/-! ### what is open: another list, one more -/
theorem At.reopen (h : At A H o L) {l : Addr} {os : List (Addr × Ut11.Open)} (hl : H l = some (.lst (os.map fun x => V.ref x.1))) (hn : ¬ Foot o L l) (hs : ∀ x ∈ os, ∃ dx, H x.1 = some (.ins A.op dx (oF x.2))) :
    At A (upd H o (.ins A.of L.dx (fF L.dp L.lp l))) o { L with lo := l, os := os } := by
  refine ⟨upd_same, ?_, ?_, ?_, fun x hx => ?_, fun k hk => ?_, fun k hk => ?_, fun k hk x hx => ?_, fun x hx => ?_, h.pa, h.ia, h.ka, h.np, fun e => hn (show Foot o L l from (show L.lp = l from e) ▸ Foot.lp)⟩
  · rw [upd_ne (ne_of h.hP h.hO d_ne_i)]; exact h.hP
  · rw [upd_ne (ne_of h.hK h.hO l_ne_i)]; exact h.hK
  · rw [upd_ne (ne_of hl h.hO l_ne_i)]; exact hl
  · obtain ⟨d, e⟩ := h.ps x hx
    exact ⟨d, by rw [upd_ne (ne_of e h.hO pF_ne_fF)]; exact e⟩
  · obtain ⟨d, e⟩ := h.ks k hk
    exact ⟨d, by rw [upd_ne (ne_of e h.hO kF_ne_fF)]; exact e⟩
  · rw [upd_ne (ne_of (h.ds k hk) h.hO d_ne_i)]; exact h.ds k hk
  · obtain ⟨d, e⟩ := h.is k hk x hx
    exact ⟨d, by rw [upd_ne (ne_of e h.hO iF_ne_fF)]; exact e⟩
  · obtain ⟨d, e⟩ := hs x hx
    exact ⟨d, by rw [upd_ne (ne_of e h.hO oF_ne_fF)]; exact e⟩
theorem foot_reopen {l : Addr} {os : List (Addr × Ut11.Open)} (hs : ∀ x ∈ os, x ∈ L.os) {b : Addr} (f : Foot o { L with lo := l, os := os } b) : Foot o L b ∨ b = l := by
  cases f with
  | o => exact .inl .o
  | dp => exact .inl .dp
  | lp => exact .inl .lp
  | lo => exact .inr rfl
  | p h => exact .inl (.p h)
  | k h => exact .inl (.k h)
  | d h => exact .inl (.d h)
  | i h hx => exact .inl (.i h hx)
  | q h => exact .inl (.q (hs _ h))
theorem At.openMore (h : At A H o L) {a dx : Addr} {x : Ut11.Open} (ha : H a = some (.ins A.op dx (oF x))) : At A (upd H L.lo (.lst ((L.os ++ [(a, x)]).map fun x => V.ref x.1))) o { L with os := L.os ++ [(a, x)] } := by
  refine ⟨?_, ?_, ?_, upd_same, fun x hx => ?_, fun k hk => ?_, fun k hk => ?_, fun k hk x hx => ?_, fun y hy => ?_, h.pa, h.ia, h.ka, h.np, h.nl⟩
  · rw [upd_ne (ne_of h.hO h.hL l_ne_i.symm)]; exact h.hO
  · rw [upd_ne (ne_of h.hP h.hL l_ne_d.symm)]; exact h.hP
  · rw [upd_ne h.nl]; exact h.hK
  · obtain ⟨d, e⟩ := h.ps x hx
    exact ⟨d, by rw [upd_ne (ne_of e h.hL l_ne_i.symm)]; exact e⟩
  · obtain ⟨d, e⟩ := h.ks k hk
    exact ⟨d, by rw [upd_ne (ne_of e h.hL l_ne_i.symm)]; exact e⟩
  · rw [upd_ne (ne_of (h.ds k hk) h.hL l_ne_d.symm)]; exact h.ds k hk
  · obtain ⟨d, e⟩ := h.is k hk x hx
    exact ⟨d, by rw [upd_ne (ne_of e h.hL l_ne_i.symm)]; exact e⟩
  · rcases List.mem_append.mp hy with m | m
    · obtain ⟨d, e⟩ := h.os y m
      exact ⟨d, by rw [upd_ne (ne_of e h.hL l_ne_i.symm)]; exact e⟩
    · have e : y = (a, x) := by simpa using m
      subst e
      exact ⟨dx, by rw [upd_ne (ne_of ha h.hL l_ne_i.symm)]; exact ha⟩
theorem foot_openMore {a : Addr} {x : Ut11.Open} {b : Addr} (f : Foot o { L with os := L.os ++ [(a, x)] } b) : Foot o L b ∨ b = a := by
  cases f with
  | o => exact .inl .o
  | dp => exact .inl .dp
  | lp => exact .inl .lp
  | lo => exact .inl .lo
  | p h => exact .inl (.p h)
  | k h => exact .inl (.k h)
  | d h => exact .inl (.d h)
  | i h hx => exact .inl (.i h hx)
  | q h =>
    rcases List.mem_append.mp h with m | m
    · exact .inl (.q m)
    · have e := List.mem_singleton.mp m
      exact .inr (by rw [e])

/-! ### the base of a piece in a package -/
def setI (l : List (Addr × Item)) (a : Addr) (m' : Item) : List (Addr × Item) := l.map fun x => if x.1 = a then (a, m') else x
def setK (ks : List KA) (a : Addr) (m' : Item) : List KA := ks.map fun k => { k with items := setI k.items a m' }
theorem setI_addr (l : List (Addr × Item)) (a : Addr) (m' : Item) : (setI l a m').map (·.1) = l.map (·.1) := by
  unfold setI
  rw [List.map_map]
  refine List.map_congr_left fun x _ => ?_
  show (if x.1 = a then (a, m') else x).1 = x.1
  split
  · next e => exact e.symm
  · rfl
theorem flat_addr (ks : List KA) : (ks.flatMap (·.items)).map (·.1) = ks.flatMap fun k => k.items.map (·.1) := by
  rw [List.map_flatMap]
theorem setK_addr (ks : List KA) (a : Addr) (m' : Item) : ((setK ks a m').flatMap (·.items)).map (·.1) = (ks.flatMap (·.items)).map (·.1) := by
  rw [flat_addr, flat_addr]
  unfold setK
  rw [List.flatMap_map]
  exact congrArg (fun f => List.flatMap f ks) (funext fun k => setI_addr k.items a m')
theorem kvI_set {l : List (Addr × Item)} {a : Addr} {m m' : Item} (hu : ∀ x ∈ l, x.1 = a → x.2 = m) (hi : m'.id = m.id) : kvI (setI l a m') = kvI l := by
  unfold kvI setI
  rw [List.map_map]
  refine List.map_congr_left fun x hx => ?_
  show (Sum.inl (((if x.1 = a then (a, m') else x).2.id : Nat) : Int), V.ref (if x.1 = a then (a, m') else x).1) = _
  by_cases c : x.1 = a
  · rw [if_pos c, c]
    show (Sum.inl ((m'.id : Nat) : Int), V.ref a) = _
    rw [hi, hu x hx c]
  · rw [if_neg c]
theorem At.item_eq (h : At A H o L) {k k' : KA} {x x' : Addr × Item} (hk : k ∈ L.ks) (hx : x ∈ k.items) (hk' : k' ∈ L.ks) (hx' : x' ∈ k'.items) (e : x.1 = x'.1) : x = x' :=
  inj_nodup h.ia (List.mem_flatMap.mpr ⟨k, hk, hx⟩) (List.mem_flatMap.mpr ⟨k', hk', hx'⟩) e
theorem At.base (h : At A H o L) {k : KA} {a dx : Addr} {m m' : Item} (hk : k ∈ L.ks) (hm : (a, m) ∈ k.items) (hi : m'.id = m.id) : At A (upd H a (.ins A.st dx (iF m'))) o { L with ks := setK L.ks a m' } := by
  obtain ⟨d0, e0⟩ := h.is k hk _ hm
  have e0 : H a = some (.ins A.st d0 (iF m)) := e0
  have hu : ∀ k' ∈ L.ks, ∀ x ∈ k'.items, x.1 = a → x.2 = m := fun k' hk' x hx e => by
    have := h.item_eq hk' hx hk hm e
    rw [this]
  refine ⟨?_, ?_, ?_, ?_, fun x hx => ?_, fun q hq => ?_, fun q hq => ?_, fun q hq x hx => ?_, fun x hx => ?_, h.pa, ?_, ?_, fun q hq => ?_, h.nl⟩
  · rw [upd_ne (ne_of h.hO e0 iF_ne_fF.symm)]; exact h.hO
  · rw [upd_ne (ne_of h.hP e0 d_ne_i)]; exact h.hP
  · show upd H a _ L.lp = some (.lst ((setK L.ks a m').map fun k => V.ref k.a))
    rw [upd_ne (ne_of h.hK e0 l_ne_i)]
    unfold setK
    rw [List.map_map]
    exact h.hK
  · rw [upd_ne (ne_of h.hL e0 l_ne_i)]; exact h.hL
  · obtain ⟨d, e⟩ := h.ps x hx
    exact ⟨d, by rw [upd_ne (ne_of e e0 pF_ne_iF)]; exact e⟩
  · obtain ⟨k', hk', e⟩ := List.mem_map.mp (show q ∈ L.ks.map _ from hq)
    subst e
    obtain ⟨d, e⟩ := h.ks k' hk'
    refine ⟨d, ?_⟩
    show upd H a _ k'.a = some (.ins A.pk d (kF k'.d k'.off))
    rw [upd_ne (ne_of e e0 kF_ne_iF)]
    exact e
  · obtain ⟨k', hk', e⟩ := List.mem_map.mp (show q ∈ L.ks.map _ from hq)
    subst e
    show upd H a _ k'.d = some (.dK (kvI (setI k'.items a m')))
    rw [upd_ne (ne_of (h.ds k' hk') e0 d_ne_i), kvI_set (hu k' hk') hi]
    exact h.ds k' hk'
  · obtain ⟨k', hk', e⟩ := List.mem_map.mp (show q ∈ L.ks.map _ from hq)
    subst e
    obtain ⟨y, hy, e⟩ := List.mem_map.mp (show x ∈ k'.items.map _ from hx)
    by_cases c : y.1 = a
    · rw [if_pos c] at e
      subst e
      exact ⟨dx, upd_same⟩
    · rw [if_neg c] at e
      subst e
      rw [upd_ne c]
      exact h.is k' hk' y hy
  · obtain ⟨d, e⟩ := h.os x hx
    exact ⟨d, by rw [upd_ne (ne_of e e0 iF_ne_oF.symm)]; exact e⟩
  · show (((setK L.ks a m').flatMap (·.items)).map (·.1)).Nodup
    rw [setK_addr]; exact h.ia
  · show ((setK L.ks a m').map (·.a)).Nodup
    unfold setK
    rw [List.map_map]
    exact h.ka
  · obtain ⟨k', hk', e⟩ := List.mem_map.mp (show q ∈ L.ks.map _ from hq)
    subst e
    exact h.np k' hk'
theorem foot_base {k : KA} {a : Addr} {m m' : Item} (hk : k ∈ L.ks) (hm : (a, m) ∈ k.items) {b : Addr} (f : Foot o { L with ks := setK L.ks a m' } b) : Foot o L b := by
  cases f with
  | o => exact .o
  | dp => exact .dp
  | lp => exact .lp
  | lo => exact .lo
  | p h => exact .p h
  | k h =>
    obtain ⟨k', hk', e⟩ := List.mem_map.mp (show _ ∈ L.ks.map _ from h)
    subst e
    exact Foot.k (k := k') hk'
  | d h =>
    obtain ⟨k', hk', e⟩ := List.mem_map.mp (show _ ∈ L.ks.map _ from h)
    subst e
    exact Foot.d (k := k') hk'
  | i h hx =>
    obtain ⟨k', hk', e⟩ := List.mem_map.mp (show _ ∈ L.ks.map _ from h)
    subst e
    obtain ⟨y, hy, e⟩ := List.mem_map.mp (show _ ∈ k'.items.map _ from hx)
    by_cases c : y.1 = a
    · rw [if_pos c] at e
      subst e
      exact Foot.i (x := (a, m)) hk hm
    · rw [if_neg c] at e
      subst e
      exact .i hk' hy
  | q h => exact .q h
/-- the specification's words for it: in the package k (no other has its number), of the item m (no other there has its id) -/
theorem house_base (h : At A H o L) {k : KA} {a : Addr} {m : Item} {t : Nat} (hk : k ∈ L.ks) (hm : (a, m) ∈ k.items) (hnum : ∀ k' ∈ L.ks, k'.number = k.number → k' = k) (hid : ∀ x ∈ k.items, x.2.id = m.id → x = (a, m)) :
    ({ L with ks := setK L.ks a { m with base := t } } : Lay).house = { L.house with packages := based L.house.packages k.number m.id t } := by
  have q : (setK L.ks a { m with base := t }).map KA.pkg = based (L.ks.map KA.pkg) k.number m.id t := by
    unfold setK based
    rw [List.map_map, List.map_map]
    refine List.map_congr_left fun k' hk' => ?_
    show (⟨k'.number, (setI k'.items a { m with base := t }).map (·.2), k'.off⟩ : Package) = (if k'.number = k.number then { (KA.pkg k') with items := (k'.items.map (·.2)).map fun x => if x.id = m.id then { x with base := t } else x } else KA.pkg k')
    by_cases c : k'.number = k.number
    · have e := hnum k' hk' c
      subst e
      rw [if_pos rfl]
      have e2 : (setI k'.items a { m with base := t }).map (·.2) = (k'.items.map (·.2)).map fun x => if x.id = m.id then { x with base := t } else x := by
        unfold setI
        rw [List.map_map, List.map_map]
        refine List.map_congr_left fun x hx => ?_
        show (if x.1 = a then (a, { m with base := t }) else x).2 = if x.2.id = m.id then { x.2 with base := t } else x.2
        by_cases c : x.1 = a
        · have e3 := h.item_eq hk' hx hk hm c
          subst e3
          rw [if_pos c, if_pos rfl]
        · rw [if_neg c, if_neg fun z => c (by rw [hid x hx z])]
      rw [e2]
      rfl
    · rw [if_neg c]
      have e2 : setI k'.items a { m with base := t } = k'.items := by
        unfold setI
        conv => rhs; rw [← List.map_id k'.items]
        refine List.map_congr_left fun x hx => ?_
        by_cases c2 : x.1 = a
        · have e3 := h.item_eq hk' hx hk hm c2
          -- the same item would lie in two packages
          exact absurd c (by
            intro c
            have := h.ia
            rw [flat_addr] at this
            exact c (congrArg KA.number (two_in this hk' hk (List.mem_map.mpr ⟨x, hx, c2⟩) (List.mem_map.mpr ⟨_, hm, rfl⟩))))
        · rw [if_neg c2]; rfl
      rw [e2]
      rfl
  show (⟨_, (setK L.ks a { m with base := t }).map KA.pkg, (setK L.ks a { m with base := t }).length, _⟩ : House) = _
  rw [q]
  unfold setK
  rw [List.length_map]
  rfl
/-! ### a package is given up -/
def setOff (ks : List KA) (a : Addr) : List KA := ks.map fun k => if k.a = a then { k with off := true } else k
theorem setOff_mem {ks : List KA} {a : Addr} {q : KA} (h : q ∈ setOff ks a) : ∃ k ∈ ks, q.a = k.a ∧ q.d = k.d ∧ q.items = k.items ∧ ((k.a = a ∧ q.off = true) ∨ (k.a ≠ a ∧ q.off = k.off)) := by
  obtain ⟨k, hk, e⟩ := List.mem_map.mp h
  refine ⟨k, hk, ?_⟩
  by_cases c : k.a = a
  · rw [if_pos c] at e
    subst e
    exact ⟨rfl, rfl, rfl, .inl ⟨c, rfl⟩⟩
  · rw [if_neg c] at e
    subst e
    exact ⟨rfl, rfl, rfl, .inr ⟨c, rfl⟩⟩
theorem setOff_map {β : Type} (f : KA → β) (ks : List KA) (a : Addr) (h : ∀ k : KA, f { k with off := true } = f k) : (setOff ks a).map f = ks.map f := by
  unfold setOff
  rw [List.map_map]
  refine List.map_congr_left fun k _ => ?_
  show f (if k.a = a then { k with off := true } else k) = f k
  split
  · exact h k
  · rfl
theorem At.giveUp (h : At A H o L) {k : KA} {dx : Addr} (hk : k ∈ L.ks) : At A (upd H k.a (.ins A.pk dx (kF k.d true))) o { L with ks := setOff L.ks k.a } := by
  obtain ⟨d0, e0⟩ := h.ks k hk
  refine ⟨?_, ?_, ?_, ?_, fun x hx => ?_, fun q hq => ?_, fun q hq => ?_, fun q hq x hx => ?_, fun x hx => ?_, h.pa, ?_, ?_, fun q hq => ?_, h.nl⟩
  · rw [upd_ne (ne_of h.hO e0 kF_ne_fF.symm)]; exact h.hO
  · rw [upd_ne (ne_of h.hP e0 d_ne_i)]; exact h.hP
  · show upd H k.a _ L.lp = some (.lst ((setOff L.ks k.a).map fun k => V.ref k.a))
    rw [upd_ne (ne_of h.hK e0 l_ne_i), setOff_map (fun k => V.ref k.a) _ _ fun _ => rfl]
    exact h.hK
  · rw [upd_ne (ne_of h.hL e0 l_ne_i)]; exact h.hL
  · obtain ⟨d, e⟩ := h.ps x hx
    exact ⟨d, by rw [upd_ne (ne_of e e0 kF_ne_pF.symm)]; exact e⟩
  · obtain ⟨k', hk', ea, ed, _, eo⟩ := setOff_mem hq
    rw [ea, ed]
    rcases eo with ⟨c, eo⟩ | ⟨c, eo⟩
    · have e := inj_nodup h.ka hk' hk c
      subst e
      rw [eo]
      exact ⟨dx, upd_same⟩
    · obtain ⟨d, e⟩ := h.ks k' hk'
      exact ⟨d, by rw [upd_ne c, eo]; exact e⟩
  · obtain ⟨k', hk', _, ed, ei, _⟩ := setOff_mem hq
    rw [ed, ei, upd_ne (ne_of (h.ds k' hk') e0 d_ne_i)]
    exact h.ds k' hk'
  · obtain ⟨k', hk', _, _, ei, _⟩ := setOff_mem hq
    rw [ei] at hx
    obtain ⟨d, e⟩ := h.is k' hk' x hx
    exact ⟨d, by rw [upd_ne (ne_of e e0 kF_ne_iF.symm)]; exact e⟩
  · obtain ⟨d, e⟩ := h.os x hx
    exact ⟨d, by rw [upd_ne (ne_of e e0 kF_ne_oF.symm)]; exact e⟩
  · show (((setOff L.ks k.a).flatMap (·.items)).map (·.1)).Nodup
    have e : (setOff L.ks k.a).flatMap (·.items) = L.ks.flatMap (·.items) := by
      rw [List.flatMap_def, List.flatMap_def, setOff_map (fun k => k.items) _ _ fun _ => rfl]
    rw [e]; exact h.ia
  · show ((setOff L.ks k.a).map (·.a)).Nodup
    rw [setOff_map (fun k => k.a) _ _ fun _ => rfl]; exact h.ka
  · obtain ⟨k', hk', _, ed, _, _⟩ := setOff_mem hq
    rw [ed]
    exact h.np k' hk'
theorem foot_off {a : Addr} {b : Addr} (f : Foot o { L with ks := setOff L.ks a } b) : Foot o L b := by
  cases f with
  | o => exact .o
  | dp => exact .dp
  | lp => exact .lp
  | lo => exact .lo
  | p h => exact .p h
  | k h =>
    obtain ⟨k', hk', e, _⟩ := setOff_mem (show _ ∈ setOff L.ks a from h)
    rw [e]
    exact .k hk'
  | d h =>
    obtain ⟨k', hk', _, e, _⟩ := setOff_mem (show _ ∈ setOff L.ks a from h)
    rw [e]
    exact .d hk'
  | i h hx =>
    obtain ⟨k', hk', _, _, e, _⟩ := setOff_mem (show _ ∈ setOff L.ks a from h)
    rw [e] at hx
    exact .i hk' hx
  | q h => exact .q h
theorem house_off (h : At A H o L) {k : KA} (hk : k ∈ L.ks) (hnum : ∀ k' ∈ L.ks, k'.number = k.number → k' = k) :
    ({ L with ks := setOff L.ks k.a } : Lay).house = { L.house with packages := L.house.packages.map fun x => if x.number = k.number then { x with off := true } else x } := by
  have q : (setOff L.ks k.a).map KA.pkg = (L.ks.map KA.pkg).map fun x => if x.number = k.number then { x with off := true } else x := by
    unfold setOff
    rw [List.map_map, List.map_map]
    refine List.map_congr_left fun k' hk' => ?_
    show KA.pkg (if k'.a = k.a then { k' with off := true } else k') = if k'.number = k.number then { (KA.pkg k') with off := true } else KA.pkg k'
    by_cases c : k'.a = k.a
    · have e := inj_nodup h.ka hk' hk c
      subst e
      rw [if_pos rfl, if_pos rfl]
      rfl
    · rw [if_neg c, if_neg fun z => c (by rw [hnum k' hk' z])]
  show (⟨_, (setOff L.ks k.a).map KA.pkg, (setOff L.ks k.a).length, _⟩ : House) = _
  rw [q]
  unfold setOff
  rw [List.length_map]
  rfl
end
end Cb

set_option Elab.async false
set_option linter.all false
set_option maxRecDepth 100000
set_option maxHeartbeats 2000000
/-! The program's text by places, what its top has written, the promises of its defs and their proofs. -/
namespace Cb
open PySem PySem.Spec PyProof.Rows L2
open Ut11 (House Piece Item Package)

def top (i : Nat) : Stmt := PySem.Challenge.pw_comesback_s01_answers.main.body.getD i (.Pass ⟨0, 0, 0, 0⟩)
abbrev s_Piece_init : Stmt := inClass (top 32) 0
abbrev N_Piece_init : List Str := ["self", "text"]
theorem sc_Piece_init : FnScope N_Piece_init ["self", "text"] (defScope s_Piece_init) := ⟨rfl, rfl, rfl, by decide +kernel, rfl, by decide +kernel, by decide +kernel⟩
abbrev s_Sent_init : Stmt := inClass (top 33) 0
abbrev N_Sent_init : List Str := ["self", "text", "base"]
theorem sc_Sent_init : FnScope N_Sent_init ["self", "text", "base"] (defScope s_Sent_init) := ⟨rfl, rfl, rfl, by decide +kernel, rfl, by decide +kernel, by decide +kernel⟩
abbrev s_Package_init : Stmt := inClass (top 34) 0
abbrev N_Package_init : List Str := ["self", "sent"]
theorem sc_Package_init : FnScope N_Package_init ["self", "sent"] (defScope s_Package_init) := ⟨rfl, rfl, rfl, by decide +kernel, rfl, by decide +kernel, by decide +kernel⟩
abbrev s_Opened_init : Stmt := inClass (top 35) 0
abbrev N_Opened_init : List Str := ["self", "name", "package", "text", "theirs"]
theorem sc_Opened_init : FnScope N_Opened_init ["self", "name", "package", "text", "theirs"] (defScope s_Opened_init) := ⟨rfl, rfl, rfl, by decide +kernel, rfl, by decide +kernel, by decide +kernel⟩
abbrev s_Office_init : Stmt := inClass (top 36) 0
abbrev N_Office_init : List Str := ["self"]
theorem sc_Office_init : FnScope N_Office_init ["self"] (defScope s_Office_init) := ⟨rfl, rfl, rfl, by decide +kernel, rfl, by decide +kernel, by decide +kernel⟩
abbrev s_Office_how_it_stands : Stmt := inClass (top 36) 1
abbrev N_Office_how_it_stands : List Str := ["self", "translated", "piece"]
theorem sc_Office_how_it_stands : FnScope N_Office_how_it_stands ["self"] (defScope s_Office_how_it_stands) := ⟨rfl, rfl, rfl, by decide +kernel, rfl, by decide +kernel, by decide +kernel⟩
abbrev s_Office_add_piece : Stmt := inClass (top 36) 2
abbrev N_Office_add_piece : List Str := ["self", "name", "text"]
theorem sc_Office_add_piece : FnScope N_Office_add_piece ["self", "name", "text"] (defScope s_Office_add_piece) := ⟨rfl, rfl, rfl, by decide +kernel, rfl, by decide +kernel, by decide +kernel⟩
abbrev s_Office_change_text : Stmt := inClass (top 36) 3
abbrev N_Office_change_text : List Str := ["self", "name", "text", "piece"]
theorem sc_Office_change_text : FnScope N_Office_change_text ["self", "name", "text"] (defScope s_Office_change_text) := ⟨rfl, rfl, rfl, by decide +kernel, rfl, by decide +kernel, by decide +kernel⟩
abbrev s_Office_drop_piece : Stmt := inClass (top 36) 4
abbrev N_Office_drop_piece : List Str := ["self", "name"]
theorem sc_Office_drop_piece : FnScope N_Office_drop_piece ["self", "name"] (defScope s_Office_drop_piece) := ⟨rfl, rfl, rfl, by decide +kernel, rfl, by decide +kernel, by decide +kernel⟩
abbrev s_Office_put_translation : Stmt := inClass (top 36) 5
abbrev N_Office_put_translation : List Str := ["self", "name", "translation", "piece"]
theorem sc_Office_put_translation : FnScope N_Office_put_translation ["self", "name", "translation"] (defScope s_Office_put_translation) := ⟨rfl, rfl, rfl, by decide +kernel, rfl, by decide +kernel, by decide +kernel⟩
abbrev s_Office_send_package : Stmt := inClass (top 36) 6
abbrev N_Office_send_package : List Str := ["self", "names", "sent", "name", "piece"]
theorem sc_Office_send_package : FnScope N_Office_send_package ["self", "names"] (defScope s_Office_send_package) := ⟨rfl, rfl, rfl, by decide +kernel, rfl, by decide +kernel, by decide +kernel⟩
abbrev s_Office_take_back : Stmt := inClass (top 36) 7
abbrev N_Office_take_back : List Str := ["self", "package", "pieces", "names", "translations", "asked", "outcomes", "at"]
theorem sc_Office_take_back : FnScope N_Office_take_back ["self", "package", "pieces"] (defScope s_Office_take_back) := ⟨rfl, rfl, rfl, by decide +kernel, rfl, by decide +kernel, by decide +kernel⟩
abbrev s_Office_take_back_one : Stmt := inClass (top 36) 8
abbrev N_Office_take_back_one : List Str := ["self", "package", "name", "theirs", "sent", "piece", "outcome"]
theorem sc_Office_take_back_one : FnScope N_Office_take_back_one ["self", "package", "name", "theirs"] (defScope s_Office_take_back_one) := ⟨rfl, rfl, rfl, by decide +kernel, rfl, by decide +kernel, by decide +kernel⟩
abbrev s_Office_close_opened : Stmt := inClass (top 36) 9
abbrev N_Office_close_opened : List Str := ["self", "package", "name", "one"]
theorem sc_Office_close_opened : FnScope N_Office_close_opened ["self", "package", "name"] (defScope s_Office_close_opened) := ⟨rfl, rfl, rfl, by decide +kernel, rfl, by decide +kernel, by decide +kernel⟩
abbrev s_Office_find_opened : Stmt := inClass (top 36) 10
abbrev N_Office_find_opened : List Str := ["self", "package", "name", "one"]
theorem sc_Office_find_opened : FnScope N_Office_find_opened ["self", "package", "name"] (defScope s_Office_find_opened) := ⟨rfl, rfl, rfl, by decide +kernel, rfl, by decide +kernel, by decide +kernel⟩
abbrev s_Office_give_up : Stmt := inClass (top 36) 11
abbrev N_Office_give_up : List Str := ["self", "package", "asked", "one"]
theorem sc_Office_give_up : FnScope N_Office_give_up ["self", "package"] (defScope s_Office_give_up) := ⟨rfl, rfl, rfl, by decide +kernel, rfl, by decide +kernel, by decide +kernel⟩
abbrev s_Office_choose : Stmt := inClass (top 36) 12
abbrev N_Office_choose : List Str := ["self", "name", "package", "choice", "chosen", "piece"]
theorem sc_Office_choose : FnScope N_Office_choose ["self", "name", "package", "choice"] (defScope s_Office_choose) := ⟨rfl, rfl, rfl, by decide +kernel, rfl, by decide +kernel, by decide +kernel⟩
abbrev s_Office_tell_opened : Stmt := inClass (top 36) 13
abbrev N_Office_tell_opened : List Str := ["self", "told", "one", "now"]
theorem sc_Office_tell_opened : FnScope N_Office_tell_opened ["self"] (defScope s_Office_tell_opened) := ⟨rfl, rfl, rfl, by decide +kernel, rfl, by decide +kernel, by decide +kernel⟩
abbrev s_Office_tell_pieces : Stmt := inClass (top 36) 14
abbrev N_Office_tell_pieces : List Str := ["self", "told", "name", "piece"]
theorem sc_Office_tell_pieces : FnScope N_Office_tell_pieces ["self"] (defScope s_Office_tell_pieces) := ⟨rfl, rfl, rfl, by decide +kernel, rfl, by decide +kernel, by decide +kernel⟩
abbrev s_Office_tell_package : Stmt := inClass (top 36) 15
abbrev N_Office_tell_package : List Str := ["self", "package", "asked", "told", "name", "sent"]
theorem sc_Office_tell_package : FnScope N_Office_tell_package ["self", "package"] (defScope s_Office_tell_package) := ⟨rfl, rfl, rfl, by decide +kernel, rfl, by decide +kernel, by decide +kernel⟩
abbrev s_Office_tell_out : Stmt := inClass (top 36) 16
abbrev N_Office_tell_out : List Str := ["self", "name", "numbers", "at", "one"]
theorem sc_Office_tell_out : FnScope N_Office_tell_out ["self", "name"] (defScope s_Office_tell_out) := ⟨rfl, rfl, rfl, by decide +kernel, rfl, by decide +kernel, by decide +kernel⟩
abbrev s_fit_together : Stmt := top 37
abbrev N_fit_together : List Str := ["names"]
theorem sc_fit_together : FnScope N_fit_together ["names"] (defScope s_fit_together) := ⟨rfl, rfl, rfl, by decide +kernel, rfl, by decide +kernel, by decide +kernel⟩
abbrev s_all_among : Stmt := top 38
abbrev N_all_among : List Str := ["names", "known", "name"]
theorem sc_all_among : FnScope N_all_among ["names", "known"] (defScope s_all_among) := ⟨rfl, rfl, rfl, by decide +kernel, rfl, by decide +kernel, by decide +kernel⟩
abbrev s_beside_ours : Stmt := top 39
abbrev N_beside_ours : List Str := ["piece", "text", "theirs"]
theorem sc_beside_ours : FnScope N_beside_ours ["piece", "text", "theirs"] (defScope s_beside_ours) := ⟨rfl, rfl, rfl, by decide +kernel, rfl, by decide +kernel, by decide +kernel⟩
abbrev s_outcome_of : Stmt := top 40
abbrev N_outcome_of : List Str := ["piece", "sent", "theirs", "outcome"]
theorem sc_outcome_of : FnScope N_outcome_of ["piece", "sent", "theirs"] (defScope s_outcome_of) := ⟨rfl, rfl, rfl, by decide +kernel, rfl, by decide +kernel, by decide +kernel⟩
abbrev s_split_calls : Stmt := top 41
abbrev N_split_calls : List Str := ["calls", "told", "at", "call", "behind", "numbers", "row", "row_start"]
theorem sc_split_calls : FnScope N_split_calls ["calls"] (defScope s_split_calls) := ⟨rfl, rfl, rfl, by decide +kernel, rfl, by decide +kernel, by decide +kernel⟩
abbrev s_answer_call : Stmt := top 42
abbrev N_answer_call : List Str := ["office", "call", "numbers", "row"]
theorem sc_answer_call : FnScope N_answer_call ["office", "call", "numbers", "row"] (defScope s_answer_call) := ⟨rfl, rfl, rfl, by decide +kernel, rfl, by decide +kernel, by decide +kernel⟩
abbrev s_answers : Stmt := top 43
abbrev N_answers : List Str := ["calls", "office", "given", "told", "answer"]
theorem sc_answers : FnScope N_answers ["calls"] (defScope s_answers) := ⟨rfl, rfl, rfl, by decide +kernel, rfl, by decide +kernel, by decide +kernel⟩

/-- what the top has written -/
structure Txt (K : PySem.W.Frag) (mg : Str → Option Value) (A : Ad) (wn : Addr) : Prop where
  c_MOST_NAME : ∃ t, mg "MOST_NAME" = some (.int (99) t)
  c_MOST_NUMBER : ∃ t, mg "MOST_NUMBER" = some (.int (999) t)
  c_MOST_PIECES : ∃ t, mg "MOST_PIECES" = some (.int (12) t)
  c_MOST_PACKAGES : ∃ t, mg "MOST_PACKAGES" = some (.int (10) t)
  c_MOST_AT_ONCE : ∃ t, mg "MOST_AT_ONCE" = some (.int (8) t)
  c_NO_TRANSLATION : ∃ t, mg "NO_TRANSLATION" = some (.int (0) t)
  c_THEIRS_CHOSEN : ∃ t, mg "THEIRS_CHOSEN" = some (.int (1) t)
  c_CALL_PIECE : ∃ t, mg "CALL_PIECE" = some (.int (0) t)
  c_CALL_TEXT : ∃ t, mg "CALL_TEXT" = some (.int (1) t)
  c_CALL_GONE : ∃ t, mg "CALL_GONE" = some (.int (2) t)
  c_CALL_PUT : ∃ t, mg "CALL_PUT" = some (.int (3) t)
  c_CALL_SEND : ∃ t, mg "CALL_SEND" = some (.int (4) t)
  c_CALL_BACK : ∃ t, mg "CALL_BACK" = some (.int (5) t)
  c_CALL_OFF : ∃ t, mg "CALL_OFF" = some (.int (6) t)
  c_CALL_CHOOSE : ∃ t, mg "CALL_CHOOSE" = some (.int (7) t)
  c_CALL_OPEN : ∃ t, mg "CALL_OPEN" = some (.int (8) t)
  c_CALL_PIECES : ∃ t, mg "CALL_PIECES" = some (.int (9) t)
  c_CALL_PACKAGE : ∃ t, mg "CALL_PACKAGE" = some (.int (10) t)
  c_REFUSED_NUMBERS : ∃ t, mg "REFUSED_NUMBERS" = some (.int (-1) t)
  c_REFUSED_NO_SUCH : ∃ t, mg "REFUSED_NO_SUCH" = some (.int (-2) t)
  c_REFUSED_NOT_IN_IT : ∃ t, mg "REFUSED_NOT_IN_IT" = some (.int (-3) t)
  c_REFUSED_THERE_ALREADY : ∃ t, mg "REFUSED_THERE_ALREADY" = some (.int (-4) t)
  c_REFUSED_FULL : ∃ t, mg "REFUSED_FULL" = some (.int (-5) t)
  c_REFUSED_NO_MORE : ∃ t, mg "REFUSED_NO_MORE" = some (.int (-6) t)
  c_OURS_TOO : ∃ t, mg "OURS_TOO" = some (.int (0) t)
  c_THE_BASE : ∃ t, mg "THE_BASE" = some (.int (1) t)
  c_TAKEN : ∃ t, mg "TAKEN" = some (.int (2) t)
  c_NOT_OURS : ∃ t, mg "NOT_OURS" = some (.int (3) t)
  c_OF_OTHER_TEXT : ∃ t, mg "OF_OTHER_TEXT" = some (.int (4) t)
  c_OF_GONE : ∃ t, mg "OF_GONE" = some (.int (5) t)
  b_all : mg "all" = none
  b_enumerate : mg "enumerate" = none
  b_len : mg "len" = none
  b_max : mg "max" = none
  b_range : mg "range" = none
  b_set : mg "set" = none
  k_Piece : Cls K A.pc
  n_Piece_text : NoAttr K A.pc "text"
  n_Piece_translation : NoAttr K A.pc "translation"
  k_Sent : Cls K A.st
  n_Sent_text : NoAttr K A.st "text"
  n_Sent_base : NoAttr K A.st "base"
  k_Package : Cls K A.pk
  n_Package_sent : NoAttr K A.pk "sent"
  n_Package_given_up : NoAttr K A.pk "given_up"
  k_Opened : Cls K A.op
  n_Opened_name : NoAttr K A.op "name"
  n_Opened_package : NoAttr K A.op "package"
  n_Opened_text : NoAttr K A.op "text"
  n_Opened_theirs : NoAttr K A.op "theirs"
  k_Office : Cls K A.of
  n_Office_pieces : NoAttr K A.of "pieces"
  n_Office_packages : NoAttr K A.of "packages"
  n_Office_opened : NoAttr K A.of "opened"
  r_WHOLE_NUMBERS : mg "WHOLE_NUMBERS" = some (.ref wn)

/-! ### promises -/
/-- the office lies at o, holds g, and nothing of it is among S -/
def Office (A : Ad) (H : Hp) (o : Addr) (S : Addr → Prop) (g : House) : Prop := ∃ L : Lay, At A H o L ∧ L.house = g ∧ ∀ b, Foot o L b → ¬ S b
/-- what is among S is there -/
def Trk (S : Addr → Prop) (H : Hp) : Prop := ∀ b, S b → H b ≠ none
def Keeps (S : Addr → Prop) (H H' : Hp) : Prop := ∀ b, S b → H' b = H b
theorem Keeps.refl {S : Addr → Prop} {H : Hp} : Keeps S H H := fun _ _ => rfl
theorem Keeps.trans {S : Addr → Prop} {H H1 H2 : Hp} (a : Keeps S H H1) (b : Keeps S H1 H2) : Keeps S H H2 := fun c h => (b c h).trans (a c h)
theorem Keeps.new {S : Addr → Prop} {H : Hp} {p : Addr} {u : HO} (t : Trk S H) (hp : H p = none) : Keeps S H (upd H p u) := fun b h => upd_ne fun e => t b h (e ▸ hp)
theorem Keeps.out {S : Addr → Prop} {H : Hp} {p : Addr} {u : HO} (hp : ¬ S p) : Keeps S H (upd H p u) := fun b h => upd_ne fun e => hp (e ▸ h)
theorem Trk.keeps {S : Addr → Prop} {H H' : Hp} (t : Trk S H) (k : Keeps S H H') : Trk S H' := fun b h => by rw [k b h]; exact t b h
theorem Office.fresh {A : Ad} {H : Hp} {o p : Addr} {S : Addr → Prop} {g : House} {u : HO} (h : Office A H o S g) (hp : H p = none) : Office A (upd H p u) o S g := by
  obtain ⟨L, a, e, n⟩ := h
  exact ⟨L, a.fresh hp, e, n⟩
/-- behind a call: the office holds r.1, a new list holds the answer r.2, S is as it was -/
def Done (A : Ad) (o : Addr) (S : Addr → Prop) (H : Hp) (r : House × List Int) (Q : VK) : Prop :=
  ∀ (H' : Hp) (p : Addr), Office A H' o S r.1 → Keeps S H H' → H p = none → H' p = some (.lst (r.2.map V.int)) → Q (.ref p) H'
/-- a refusal -/
theorem Done.no {A : Ad} {o : Addr} {S : Addr → Prop} {H : Hp} {g : House} {z : List Int} {Q : VK} (d : Done A o S H (g, z) Q) (h : Office A H o S g) (t : Trk S H) {p : Addr} (hp : H p = none) : Q (.ref p) (upd H p (.lst (z.map V.int))) :=
  d _ p (h.fresh hp) (Keeps.new t hp) hp upd_same

def sp_Piece_init (A : Ad) : Sp := fun vs H Q _ => ∃ (p dx : Addr) (t : Nat), vs = [.ref p, .int (t : Nat)] ∧ H p = some (.ins A.pc dx []) ∧ ∀ i : Nat, Q .non (upd H p (.ins A.pc dx (pF ⟨i, t, 0⟩)))
def sp_Sent_init (A : Ad) : Sp := fun vs H Q _ => ∃ (p dx : Addr) (t b : Nat), vs = [.ref p, .int (t : Nat), .int (b : Nat)] ∧ H p = some (.ins A.st dx []) ∧ ∀ i : Nat, Q .non (upd H p (.ins A.st dx (iF ⟨i, t, b⟩)))
def sp_Package_init (A : Ad) : Sp := fun vs H Q _ => ∃ (p dx d : Addr), vs = [.ref p, .ref d] ∧ H p = some (.ins A.pk dx []) ∧ Q .non (upd H p (.ins A.pk dx (kF d false)))
def sp_Opened_init (A : Ad) : Sp := fun vs H Q _ => ∃ (p dx : Addr) (x : Ut11.Open), vs = [.ref p, .int (x.id : Nat), .int (x.package : Nat), .int (x.text : Nat), .int (x.theirs : Nat)] ∧ H p = some (.ins A.op dx []) ∧ Q .non (upd H p (.ins A.op dx (oF x)))
/-- a call's promise: what the specification's step says -/
def spStep (A : Ad) (args : Ut11.Call → Hp → List V → Prop) : Sp := fun vs H Q _ => ∃ (o : Addr) (S : Addr → Prop) (g : House) (c : Ut11.Call) (xs : List V),
  vs = .ref o :: xs ∧ args c H xs ∧ Office A H o S g ∧ Good g ∧ g.open_.length ≤ 1000 ∧ Trk S H ∧ Done A o S H (Ut11.step g c) Q
def sp_Office_how (A : Ad) : Sp := fun vs H Q _ => ∃ (o : Addr) (S : Addr → Prop) (g : House), vs = [.ref o] ∧ Office A H o S g ∧ Good g ∧ g.open_.length ≤ 2000 ∧ Trk S H ∧ Done A o S H (g, Ut11.told g) Q

section
variable {P : Program} {w : World} {K : PySem.W.Frag} {mg : Str → Option Value} {base : Heap} {A : Ad} {wn : Addr}

theorem ok_Piece_init {f : Addr} {fd : FuncData} (F : Fun K "__init__" "Piece.__init__" s_Piece_init f fd) (T : Txt K mg A wn) : FnOk P w K mg base CX0 1 f fd ["self", "text"] (sp_Piece_init A) := by
  refine F.ok sc_Piece_init (fun vs H Q E h => ?_) (fun cdv A' outer s H vs Q E hr h => ?_)
  · obtain ⟨p, dx, t, rfl, _⟩ := h
    rfl
  · obtain ⟨p, dx, t, rfl, hp, k⟩ := h
    refine ⟨_, (pss_cons (ps_fld (pv 0) (pv 1) rfl)
      (pss_one (ps_fld (pv 0) (pe_gi (by rfl) T.c_NO_TRANSLATION) rfl))), ?_⟩
    refine ⟨_, rfl, _, rfl, p, A.pc, dx, [], rfl, hp, T.k_Piece, T.n_Piece_text, (by show 0 < 1000; decide), ?_⟩
    refine ⟨_, rfl, p, A.pc, dx, _, rfl, upd_same, T.k_Piece, T.n_Piece_translation, (by show 1 < 1000; decide), ?_⟩
    have e : putF "translation" (V.int 0) (putF "text" (V.int ((t : Nat) : Int)) []) = pF ⟨0, t, 0⟩ := (put_past (by decide +kernel)).trans rfl
    rw [upd_upd, e]
    exact k 0

theorem ok_Sent_init {f : Addr} {fd : FuncData} (F : Fun K "__init__" "Sent.__init__" s_Sent_init f fd) (T : Txt K mg A wn) : FnOk P w K mg base CX0 1 f fd ["self", "text", "base"] (sp_Sent_init A) := by
  refine F.ok sc_Sent_init (fun vs H Q E h => ?_) (fun cdv A' outer s H vs Q E hr h => ?_)
  · obtain ⟨p, dx, t, b, rfl, _⟩ := h
    rfl
  · obtain ⟨p, dx, t, b, rfl, hp, k⟩ := h
    refine ⟨_, (pss_cons (ps_fld (pv 0) (pv 1) rfl)
      (pss_one (ps_fld (pv 0) (pv 2) rfl))), ?_⟩
    refine ⟨_, rfl, _, rfl, p, A.st, dx, [], rfl, hp, T.k_Sent, T.n_Sent_text, (by show 0 < 1000; decide), ?_⟩
    refine ⟨_, rfl, _, rfl, p, A.st, dx, _, rfl, upd_same, T.k_Sent, T.n_Sent_base, (by show 1 < 1000; decide), ?_⟩
    have e : putF "base" (V.int ((b : Nat) : Int)) (putF "text" (V.int ((t : Nat) : Int)) []) = iF ⟨0, t, b⟩ := (put_past (by decide +kernel)).trans rfl
    rw [upd_upd, e]
    exact k 0

theorem ok_Package_init {f : Addr} {fd : FuncData} (F : Fun K "__init__" "Package.__init__" s_Package_init f fd) (T : Txt K mg A wn) : FnOk P w K mg base CX0 1 f fd ["self", "sent"] (sp_Package_init A) := by
  refine F.ok sc_Package_init (fun vs H Q E h => ?_) (fun cdv A' outer s H vs Q E hr h => ?_)
  · obtain ⟨p, dx, d, rfl, _⟩ := h
    rfl
  · obtain ⟨p, dx, d, rfl, hp, k⟩ := h
    refine ⟨_, (pss_cons (ps_fld (pv 0) (pv 1) rfl)
      (pss_one (ps_fld (pv 0) pe_bl rfl))), ?_⟩
    refine ⟨_, rfl, _, rfl, p, A.pk, dx, [], rfl, hp, T.k_Package, T.n_Package_sent, (by show 0 < 1000; decide), ?_⟩
    refine ⟨_, rfl, p, A.pk, dx, _, rfl, upd_same, T.k_Package, T.n_Package_given_up, (by show 1 < 1000; decide), ?_⟩
    have e : putF "given_up" (V.bl false) (putF "sent" (V.ref d) []) = kF d false := (put_past (by decide +kernel)).trans rfl
    rw [upd_upd, e]
    exact k

theorem ok_Opened_init {f : Addr} {fd : FuncData} (F : Fun K "__init__" "Opened.__init__" s_Opened_init f fd) (T : Txt K mg A wn) : FnOk P w K mg base CX0 1 f fd ["self", "name", "package", "text", "theirs"] (sp_Opened_init A) := by
  refine F.ok sc_Opened_init (fun vs H Q E h => ?_) (fun cdv A' outer s H vs Q E hr h => ?_)
  · obtain ⟨p, dx, x, rfl, _⟩ := h
    rfl
  · obtain ⟨p, dx, x, rfl, hp, k⟩ := h
    refine ⟨_, (pss_cons (ps_fld (pv 0) (pv 1) rfl)
      (pss_cons (ps_fld (pv 0) (pv 2) rfl)
      (pss_cons (ps_fld (pv 0) (pv 3) rfl)
      (pss_one (ps_fld (pv 0) (pv 4) rfl))))), ?_⟩
    refine ⟨_, rfl, _, rfl, p, A.op, dx, [], rfl, hp, T.k_Opened, T.n_Opened_name, (by show 0 < 1000; decide), ?_⟩
    refine ⟨_, rfl, _, rfl, p, A.op, dx, _, rfl, upd_same, T.k_Opened, T.n_Opened_package, (by show 1 < 1000; decide), ?_⟩
    have e1 : putF "package" (V.int ((x.package : Nat) : Int)) (putF "name" (V.int ((x.id : Nat) : Int)) []) = ([("name", V.int ((x.id : Nat) : Int)), ("package", V.int ((x.package : Nat) : Int))] : List (Str × V)) := (put_past (by decide +kernel)).trans rfl
    rw [upd_upd, e1]
    refine ⟨_, rfl, _, rfl, p, A.op, dx, _, rfl, upd_same, T.k_Opened, T.n_Opened_text, (by show 2 < 1000; decide), ?_⟩
    have e2 : putF "text" (V.int ((x.text : Nat) : Int)) ([("name", V.int ((x.id : Nat) : Int)), ("package", V.int ((x.package : Nat) : Int))] : List (Str × V)) = ([("name", V.int ((x.id : Nat) : Int)), ("package", V.int ((x.package : Nat) : Int)), ("text", V.int ((x.text : Nat) : Int))] : List (Str × V)) :=
      (put_past (by decide +kernel)).trans (congrArg _ ((put_past (by decide +kernel)).trans rfl))
    rw [upd_upd, e2]
    refine ⟨_, rfl, _, rfl, p, A.op, dx, _, rfl, upd_same, T.k_Opened, T.n_Opened_theirs, (by show 3 < 1000; decide), ?_⟩
    have e3 : putF "theirs" (V.int ((x.theirs : Nat) : Int)) ([("name", V.int ((x.id : Nat) : Int)), ("package", V.int ((x.package : Nat) : Int)), ("text", V.int ((x.text : Nat) : Int))] : List (Str × V)) = oF x :=
      (put_past (by decide +kernel)).trans (congrArg _ ((put_past (by decide +kernel)).trans (congrArg _ ((put_past (by decide +kernel)).trans rfl))))
    rw [upd_upd, e3]
    exact k

theorem ok_Office_how {f : Addr} {fd : FuncData} (F : Fun K "how_it_stands" "Office.how_it_stands" s_Office_how_it_stands f fd) (T : Txt K mg A wn) : FnOk P w K mg base CX0 1 f fd ["self"] (sp_Office_how A) := by
  refine F.ok sc_Office_how_it_stands (fun vs H Q E h => ?_) (fun cdv A' outer s H vs Q E hr h => ?_)
  · obtain ⟨o, S, g, rfl, _⟩ := h
    rfl
  · obtain ⟨o, S, g, rfl, ⟨L, hA, hg, hS⟩, good, hop, trk, k⟩ := h
    refine ⟨_, (pss_cons (ps_lock (ps_setLc (i := 1) (own := [("piece", 2)]) (g := (gName 2)) (tt := (tTest (tOp rNe (tFld K (tVar 2) "translation") (tC (.int (0)))))) (te := (tVar 2)) rfl sc_Office_how_it_stands.nd rfl rfl (sw_true rfl rfl rfl (by decide +kernel)) (pi_values (pe_fld (pv 0) rfl)) (blkOk_by (own := [("piece", 2)]) (N := N_Office_how_it_stands) (sc := defScope s_Office_how_it_stands) (by decide +kernel)) (fun _ _ _ _ _ => pg_name (i := 2) sc_Office_how_it_stands.nd rfl (Or.inl rfl)) (fun _ _ _ _ _ => pts_one (pt_cmpR op_ne (pe_fld (pv 2) rfl) (pe_gi (by rfl) T.c_NO_TRANSLATION) (nomark _))) (fun _ _ _ _ _ => (pv 2))))
      (pss_one (ps_ret (pe_lst (pa_cons (pe_callB call_lenD (by rfl) T.b_len PySem.boot_len (pa_cons (pe_fld (pv 0) rfl) pa_nil)) (pa_cons (pe_callB call_len_seq (by rfl) T.b_len PySem.boot_len (pa_cons (pv 1) pa_nil)) (pa_cons (pe_callB call_len_seq (by rfl) T.b_len PySem.boot_len (pa_cons (pe_fld (pv 0) rfl) pa_nil)) pa_nil))))))), ?_⟩
    refine ⟨L.dp, _, hA.hP, trivial, fun od => ?_⟩
    have nOP : o ≠ L.dp := ne_of hA.hO hA.hP d_ne_i.symm
    refine ⟨_, rfl, o, A.of, L.dx, _, _, rfl, Eq.trans (upd_ne nOP) hA.hO, T.k_Office, T.n_Office_pieces, fF_pieces _ _ _, L.dp, od, _, rfl, upd_same, fun D hD => ?_⟩
    have hD0 : H D = none := by
      by_cases c : D = L.dp
      · rw [c, upd_same] at hD
        cases hD
      · rw [upd_ne c] at hD
        exact hD
    have nDP : D ≠ L.dp := (ne_of_none hA.hP hD0).symm
    have nDO : o ≠ D := ne_of_none hA.hO hD0
    have len : L.ps.length ≤ 12 := by
      have := good.pn
      rw [← hg] at this
      simpa [Lay.house] using this
    refine lc_ex (l := L.ps) (v := fun x => V.ref x.1) walk_vals (fun x => x.2.trans != 0) (fun x => V.ref x.1) (fun l => by rw [upd_ne nDP.symm]; exact upd_same) (fun x hx m R r => ?_) (fun x hx c m R r => ⟨_, rfl, r⟩) (Nat.lt_of_le_of_lt len (by decide)) ?_
    · obtain ⟨dx, e⟩ := hA.ps x hx
      have e' : upd (upd H L.dp (.frz od (.dK (kvP L.ps)))) D (.lst m) x.1 = some (.ins A.pc dx (pF x.2)) := by
        rw [upd_ne (ne_of_none e hD0), upd_ne (ne_of e hA.hP d_ne_i.symm)]
        exact e
      refine ⟨_, rfl, x.1, A.pc, dx, _, _, rfl, e', T.k_Piece, T.n_Piece_translation, pF_tr _, rfl, _, rfl, ?_⟩
      have q : (!decide (V.int ((x.2.trans : Nat) : Int) = V.int ((0 : Nat) : Int))) = (x.2.trans != 0) := by
        rw [dec_nn]
        by_cases z : x.2.trans = 0 <;> simp [z]
      show R (!decide (V.int ((x.2.trans : Nat) : Int) = V.int ((0 : Nat) : Int))) _
      rw [q]
      exact r
    · refine ⟨Eq.trans (upd_ne nDP.symm) upd_same, ?_⟩
      have eH : upd (upd (upd H L.dp (.frz od (.dK (kvP L.ps)))) D (.lst ((L.ps.filter fun x => x.2.trans != 0).map fun x => V.ref x.1))) L.dp (.dK (kvP L.ps)) = upd H D (.lst ((L.ps.filter fun x => x.2.trans != 0).map fun x => V.ref x.1)) := by
        funext b
        by_cases c1 : b = L.dp
        · subst c1
          rw [upd_same, upd_ne nDP.symm]
          exact hA.hP.symm
        · by_cases c2 : b = D
          · subst c2
            rw [upd_ne c1, upd_same, upd_same]
          · rw [upd_ne c1, upd_ne c2, upd_ne c1, upd_ne c2]
      rw [eH]
      have hB := hA.fresh (u := .lst ((L.ps.filter fun x => x.2.trans != 0).map fun x => V.ref x.1)) hD0
      refine ⟨_, rfl, o, A.of, L.dx, _, _, rfl, hB.hO, T.k_Office, T.n_Office_pieces, fF_pieces _ _ _, L.dp, _, rfl, hB.hP, ?_⟩
      refine ⟨_, rfl, D, _, rfl, .inl (SqL.of upd_same), ?_⟩
      refine ⟨_, rfl, o, A.of, L.dx, _, _, rfl, hB.hO, T.k_Office, T.n_Office_opened, fF_opened _ _ _, L.lo, _, rfl, .inl (SqL.of hB.hL), ?_⟩
      refine ⟨(by show 3 ≤ sizeLine; decide), fun p hp => ?_⟩
      have hp0 : H p = none := by
        by_cases c : p = D
        · rw [c]; exact hD0
        · rw [upd_ne c] at hp; exact hp
      refine k _ p ⟨L, hB.fresh hp, hg, hS⟩ ((Keeps.new trk hD0).trans (Keeps.new (trk.keeps (Keeps.new trk hD0)) hp)) hp0 ?_
      rw [upd_same, ← hg]
      simp [Ut11.told, Ut11.ints, Lay.house, kvP, List.filter_map, Function.comp_def]
end
end Cb

set_option Elab.async false
set_option linter.all false
set_option maxRecDepth 100000
set_option maxHeartbeats 2000000
namespace Cb
open PySem PySem.Spec PyProof.Rows L2
open Ut11 (House Piece Item Package)

/-! ### a dict of pieces -/
def look (l : List (Addr × Piece)) (i : Nat) : Option (Addr × Piece) := l.find? fun x => x.2.id == i
theorem val_kvP (l : List (Addr × Piece)) (i : Nat) : valV (kvP l) (Sum.inl ((i : Nat) : Int)) = (look l i).map fun x => V.ref x.1 := by
  unfold valV kvP look
  rw [List.find?_map, Option.map_map]
  have e : ((fun kv : Key × V => decide (kv.1 = Sum.inl ((i : Nat) : Int))) ∘ fun x : Addr × Piece => ((Sum.inl ((x.2.id : Nat) : Int) : Key), V.ref x.1)) = fun x => x.2.id == i := by
    funext x
    show decide ((Sum.inl ((x.2.id : Nat) : Int) : Key) = Sum.inl ((i : Nat) : Int)) = _
    rw [key_ll]
    by_cases h : x.2.id = i
    · simp [h]
    · have : ¬ ((x.2.id : Int) = (i : Int)) := by omega
      rw [beq_eq_false_iff_ne.mpr this, beq_eq_false_iff_ne.mpr h]
  rw [e]
  rfl
theorem pieceOf_look (L : Lay) (i : Nat) : Ut11.pieceOf L.house.pieces i = (look L.ps i).map (·.2) := by
  unfold Ut11.pieceOf look
  show (L.ps.map (·.2)).find? _ = _
  rw [List.find?_map]
  rfl
theorem look_some {l : List (Addr × Piece)} {i : Nat} {x : Addr × Piece} (h : look l i = some x) : x ∈ l ∧ x.2.id = i := by
  unfold look at h
  exact ⟨List.mem_of_find?_eq_some h, by have := List.find?_some h; simpa using this⟩
theorem drop_kvP (l : List (Addr × Piece)) (i : Nat) : dropK (kvP l) (Sum.inl ((i : Nat) : Int)) = kvP (l.filter fun x => x.2.id != i) := by
  unfold dropK kvP
  rw [List.filter_map]
  congr 1
  refine List.filter_congr fun x _ => ?_
  show decide ((Sum.inl ((x.2.id : Nat) : Int) : Key) ≠ Sum.inl ((i : Nat) : Int)) = _
  by_cases h : x.2.id = i
  · simp [h]
  · have : ¬ ((Sum.inl ((x.2.id : Nat) : Int) : Key) = Sum.inl ((i : Nat) : Int)) := fun z => h (by have := Sum.inl.inj z; omega)
    rw [decide_eq_true this]
    simp [h]

structure Pre (A : Ad) (H : Hp) (o : Addr) (S : Addr → Prop) (g : House) : Prop where
  of : Office A H o S g
  good : Good g
  op : g.open_.length ≤ 1000
  trk : Trk S H
def sp_add (A : Ad) : Sp := fun vs H Q _ => ∃ (o : Addr) (S : Addr → Prop) (g : House) (i t : Nat), vs = [.ref o, .int (i : Nat), .int (t : Nat)] ∧ Pre A H o S g ∧ Done A o S H (Ut11.step g (.piece i t)) Q
def sp_text (A : Ad) : Sp := fun vs H Q _ => ∃ (o : Addr) (S : Addr → Prop) (g : House) (i t : Nat), vs = [.ref o, .int (i : Nat), .int (t : Nat)] ∧ Pre A H o S g ∧ Done A o S H (Ut11.step g (.text i t)) Q
def sp_gone (A : Ad) : Sp := fun vs H Q _ => ∃ (o : Addr) (S : Addr → Prop) (g : House) (i : Nat), vs = [.ref o, .int (i : Nat)] ∧ Pre A H o S g ∧ Done A o S H (Ut11.step g (.gone i)) Q
def sp_put (A : Ad) : Sp := fun vs H Q _ => ∃ (o : Addr) (S : Addr → Prop) (g : House) (i t : Nat), vs = [.ref o, .int (i : Nat), .int (t : Nat)] ∧ Pre A H o S g ∧ Done A o S H (Ut11.step g (.put i t)) Q

section
variable {P : Program} {w : World} {K : PySem.W.Frag} {mg : Str → Option Value} {base : Heap} {A : Ad} {wn : Addr}
/-- the way to the end by how_it_stands -/
theorem Done.how {o : Addr} {S : Addr → Prop} {H H1 : Hp} {g1 : House} {Q : VK} (d : Done A o S H (g1, Ut11.told g1) Q) (kp : Keeps S H H1) (fr : ∀ p, H1 p = none → H p = none) : Done A o S H1 (g1, Ut11.told g1) Q :=
  fun H' p a b c e => d H' p a (kp.trans b) (fr p c) e
theorem fresh_upd {H : Hp} {a : Addr} {u : HO} {p : Addr} (h : upd H a u p = none) : H p = none := by
  by_cases c : p = a
  · rw [c, upd_same] at h
    cases h
  · rw [upd_ne c] at h
    exact h

theorem ok_add {f : Addr} {fd : FuncData} (F : Fun K "add_piece" "Office.add_piece" s_Office_add_piece f fd) (T : Txt K mg A wn)
    (K_Piece : MkG P w K mg base "Piece" A.pc 1 ["self", "text"] (sp_Piece_init A))
    (M_Office_how_it_stands : MtG P w K mg base A.of "how_it_stands" 1 ["self"] (sp_Office_how A)) :
    FnOk P w K mg base CX0 3 f fd ["self", "name", "text"] (sp_add A) := by
  refine F.ok sc_Office_add_piece (fun vs H Q E h => ?_) (fun cdv A' outer s H vs Q E hr h => ?_)
  · obtain ⟨o, S, g, i, t, rfl, _⟩ := h
    rfl
  · obtain ⟨o, S, g, i, t, rfl, ⟨⟨L, hA, hg, hS⟩, good, hop, trk⟩, k⟩ := h
    have hO : Office A H o S g := ⟨L, hA, hg, hS⟩
    refine ⟨_, (pss_cons (ps_if (PW.pt (pw_or (pt_cmpR op_gt (pv 1) (pe_gi (by rfl) T.c_MOST_NAME) (nomark _)) (pw_or1 (pt_cmpR op_gt (pv 2) (pe_gi (by rfl) T.c_MOST_NUMBER) (nomark _))))) (pss_one (ps_ret (pe_lst (pa_cons (pe_gi (by rfl) T.c_REFUSED_NUMBERS) pa_nil)))) pss_nil)
      (pss_cons (ps_if (pt_cmp (pc_din (hu_of hr) (pv 1) (pe_fld (pv 0) rfl))) (pss_one (ps_ret (pe_lst (pa_cons (pe_gi (by rfl) T.c_REFUSED_THERE_ALREADY) pa_nil)))) pss_nil)
      (pss_cons (ps_if (pt_cmpR op_ge (pe_callB call_lenD (by rfl) T.b_len PySem.boot_len (pa_cons (pe_fld (pv 0) rfl) pa_nil)) (pe_gi (by rfl) T.c_MOST_PIECES) (nomark _)) (pss_one (ps_ret (pe_lst (pa_cons (pe_gi (by rfl) T.c_REFUSED_FULL) pa_nil)))) pss_nil)
      (pss_cons (ps_dput (hu_of hr) (pe_fld (pv 0) rfl) (pv 1) (pe_mk K_Piece (hr.mono (by decide)) (by rfl) (pa_cons (pv 2) pa_nil)) rfl)
      (pss_one (ps_ret (pe_mt0 M_Office_how_it_stands (hr.mono (by decide)) (pv 0)))))))), ?_⟩
    refine ⟨_, rfl, _, _, rfl, rfl, _, rfl, ?_⟩
    by_cases c1 : 99 < i
    · refine if_t (decide_eq_true (by omega)) (iteT ⟨by show 1 ≤ sizeLine; decide, fun p hp => ?_⟩)
      have e : Ut11.step g (.piece i t) = (g, [-1]) := by simp [Ut11.step, c1]
      rw [e] at k
      exact k.no hO trk hp
    refine if_f (decide_eq_false (by omega)) ⟨_, rfl, _, _, rfl, rfl, _, rfl, ?_⟩
    by_cases c2 : 999 < t
    · refine if_t (decide_eq_true (by omega)) ⟨by show 1 ≤ sizeLine; decide, fun p hp => ?_⟩
      have e : Ut11.step g (.piece i t) = (g, [-1]) := by simp [Ut11.step, c2]
      rw [e] at k
      exact k.no hO trk hp
    refine if_f (decide_eq_false (by omega)) ?_
    -- if name in self.pieces
    refine ⟨_, rfl, _, rfl, o, A.of, L.dx, _, _, rfl, hA.hO, T.k_Office, T.n_Office_pieces, fF_pieces _ _ _, L.dp, _, rfl, DGet.k (k := Sum.inl ((i : Nat) : Int)) hA.hP, _, rfl, ?_⟩
    rw [val_kvP]
    have ep : Ut11.pieceOf g.pieces i = (look L.ps i).map (·.2) := by rw [← hg]; exact pieceOf_look L i
    have el : g.pieces.length = L.ps.length := by rw [← hg]; simp [Lay.house]
    cases e : look L.ps i with
    | some x =>
      refine if_t rfl ⟨by show 1 ≤ sizeLine; decide, fun p hp => ?_⟩
      have e : Ut11.step g (.piece i t) = (g, [-4]) := by simp [Ut11.step, c1, c2, ep, e]
      rw [e] at k
      exact k.no hO trk hp
    | none =>
      refine if_f rfl ?_
      -- if len(self.pieces) >= 12
      refine ⟨_, rfl, o, A.of, L.dx, _, _, rfl, hA.hO, T.k_Office, T.n_Office_pieces, fF_pieces _ _ _, L.dp, _, rfl, hA.hP, _, _, rfl, rfl, _, rfl, ?_⟩
      have lk : (kvP L.ps).length = L.ps.length := by simp [kvP]
      by_cases c3 : 12 ≤ L.ps.length
      · refine if_t (decide_eq_true (by omega)) ⟨by show 1 ≤ sizeLine; decide, fun p hp => ?_⟩
        have e : Ut11.step g (.piece i t) = (g, [-5]) := by simp [Ut11.step, c1, c2, ep, e, el, c3]
        rw [e] at k
        exact k.no hO trk hp
      refine if_f (decide_eq_false (by omega)) ?_
      have es : Ut11.step g (.piece i t) = ({ g with pieces := g.pieces ++ [⟨i, t, 0⟩] }, Ut11.told { g with pieces := g.pieces ++ [⟨i, t, 0⟩] }) := by simp [Ut11.step, c1, c2, ep, e, el, c3]
      rw [es] at k
      -- self.pieces[name] = Piece(text)
      refine ⟨_, rfl, ?_⟩
      intro x dx nx ndx nex
      refine ⟨x, dx, t, rfl, upd_same, fun _ => ⟨rfl, ?_⟩⟩
      rw [upd_upd]
      have hB : At A (upd (upd H dx (.own x)) x (.ins A.pc dx (pF ⟨i, t, 0⟩))) o L := (hA.fresh ndx).fresh (by rw [upd_ne nex.symm]; exact nx)
      have nF : ¬ Foot o L x := fun z => by
        obtain ⟨u, q⟩ := hA.there z
        rw [nx] at q
        cases q
      have hC := hB.more (p := ⟨i, t, 0⟩) upd_same nF
      refine ⟨_, rfl, o, A.of, L.dx, _, _, rfl, hB.hO, T.k_Office, T.n_Office_pieces, fF_pieces _ _ _, _, rfl, L.dp, _, rfl, DPut.k (k := Sum.inl ((i : Nat) : Int)) hB.hP (by rw [lk]; exact Nat.lt_of_lt_of_le (Nat.lt_of_not_le c3) (by decide)), ?_⟩
      rw [putK_new _ (by rw [val_kvP, e]; rfl)]
      have ekv : kvP L.ps ++ [((Sum.inl ((i : Nat) : Int) : Key), V.ref x)] = kvP (L.ps ++ [(x, ⟨i, t, 0⟩)]) := by simp [kvP]
      rw [ekv]
      have hS' : ∀ b, Foot o { L with ps := L.ps ++ [(x, ⟨i, t, 0⟩)] } b → ¬ S b := fun b fb => by
        rcases foot_more fb with z | z
        · exact hS b z
        · intro q
          exact trk b q (by rw [z]; exact nx)
      have kp : Keeps S H (upd (upd (upd H dx (.own x)) x (.ins A.pc dx (pF ⟨i, t, 0⟩))) L.dp (.dK (kvP (L.ps ++ [(x, ⟨i, t, 0⟩)])))) :=
        ((Keeps.new trk ndx).trans (Keeps.new (trk.keeps (Keeps.new trk ndx)) (by rw [upd_ne nex.symm]; exact nx))).trans (Keeps.out (hS _ .dp))
      have hgo := step_good good (.piece i t)
      rw [es] at hgo
      refine ⟨_, rfl, o, L.dx, _, rfl, hC.hO, fF_no _ _ _ (by decide +kernel) (by decide +kernel) (by decide +kernel), o, S, _, rfl, ⟨_, hC, ?_, hS'⟩, hgo, by show g.open_.length ≤ 2000; omega, trk.keeps kp, k.how kp fun p hp => fresh_upd (fresh_upd (fresh_upd hp))⟩
      rw [← hg]
      simp [Lay.house]

theorem ok_text {f : Addr} {fd : FuncData} (F : Fun K "change_text" "Office.change_text" s_Office_change_text f fd) (T : Txt K mg A wn)
    (M_Office_how_it_stands : MtG P w K mg base A.of "how_it_stands" 1 ["self"] (sp_Office_how A)) :
    FnOk P w K mg base CX0 2 f fd ["self", "name", "text"] (sp_text A) := by
  refine F.ok sc_Office_change_text (fun vs H Q E h => ?_) (fun cdv A' outer s H vs Q E hr h => ?_)
  · obtain ⟨o, S, g, i, t, rfl, _⟩ := h
    rfl
  · obtain ⟨o, S, g, i, t, rfl, ⟨⟨L, hA, hg, hS⟩, good, hop, trk⟩, k⟩ := h
    have hO : Office A H o S g := ⟨L, hA, hg, hS⟩
    refine ⟨_, (pss_cons (ps_if (pt_cmpR op_gt (pv 2) (pe_gi (by rfl) T.c_MOST_NUMBER) (nomark _)) (pss_one (ps_ret (pe_lst (pa_cons (pe_gi (by rfl) T.c_REFUSED_NUMBERS) pa_nil)))) pss_nil)
      (pss_cons (ps_if (pt_cmp (pc_dnotin (hu_of hr) (pv 1) (pe_fld (pv 0) rfl))) (pss_one (ps_ret (pe_lst (pa_cons (pe_gi (by rfl) T.c_REFUSED_NO_SUCH) pa_nil)))) pss_nil)
      (pss_cons (ps_set (i := 3) sc_Office_change_text.nd rfl (Or.inl rfl) (pe_dget (hu_of hr) (pe_fld (pv 0) rfl) (pv 1) (fun _ _ => rfl)))
      (pss_cons (ps_if (pt_cmpR op_ne (pe_fld (pv 3) rfl) (pv 2) (nomark _)) (pss_cons (ps_fld (pv 3) (pv 2) rfl)
      (pss_one (ps_fld (pv 3) (pe_gi (by rfl) T.c_NO_TRANSLATION) rfl))) pss_nil)
      (pss_one (ps_ret (pe_mt0 M_Office_how_it_stands (hr.mono (by decide)) (pv 0)))))))), ?_⟩
    refine ⟨_, rfl, _, _, rfl, rfl, _, rfl, ?_⟩
    by_cases c1 : 999 < t
    · refine if_t (decide_eq_true (by omega)) ⟨by show 1 ≤ sizeLine; decide, fun p hp => ?_⟩
      have e : Ut11.step g (.text i t) = (g, [-1]) := by simp [Ut11.step, c1]
      rw [e] at k
      exact k.no hO trk hp
    refine if_f (decide_eq_false (by omega)) ?_
    refine ⟨_, rfl, _, rfl, o, A.of, L.dx, _, _, rfl, hA.hO, T.k_Office, T.n_Office_pieces, fF_pieces _ _ _, L.dp, _, rfl, DGet.k (k := Sum.inl ((i : Nat) : Int)) hA.hP, _, rfl, ?_⟩
    rw [val_kvP]
    have ep : Ut11.pieceOf g.pieces i = (look L.ps i).map (·.2) := by rw [← hg]; exact pieceOf_look L i
    cases e : look L.ps i with
    | none =>
      refine if_t rfl ⟨by show 1 ≤ sizeLine; decide, fun p hp => ?_⟩
      have e : Ut11.step g (.text i t) = (g, [-2]) := by simp [Ut11.step, c1, ep, e]
      rw [e] at k
      exact k.no hO trk hp
    | some x =>
      obtain ⟨a, p⟩ := x
      obtain ⟨hm, hi⟩ := look_some e
      have hi : p.id = i := hi
      refine if_f rfl ?_
      obtain ⟨dp, hp⟩ := hA.ps _ hm
      have hp : H a = some (.ins A.pc dp (pF p)) := hp
      -- piece = self.pieces[name]
      refine ⟨_, rfl, o, A.of, L.dx, _, _, rfl, hA.hO, T.k_Office, T.n_Office_pieces, fF_pieces _ _ _, _, rfl, L.dp, .ref a, rfl, (by have := DGet.k (k := Sum.inl ((i : Nat) : Int)) hA.hP; rw [val_kvP, e] at this; exact this), ?_⟩
      have es : Ut11.step g (.text i t) = ({ g with pieces := g.pieces.map fun x => if x.id = i ∧ x.text ≠ t then { x with text := t, trans := 0 } else x }, Ut11.told { g with pieces := g.pieces.map fun x => if x.id = i ∧ x.text ≠ t then { x with text := t, trans := 0 } else x }) := by simp [Ut11.step, c1, ep, e]
      have hgo := step_good good (.text i t)
      rw [es] at k hgo
      refine ⟨_, rfl, a, A.pc, dp, _, _, rfl, hp, T.k_Piece, T.n_Piece_text, pF_text _, _, rfl, rfl, _, rfl, ?_⟩
      rw [dec_nn]
      by_cases c2 : p.text = t
      · refine if_f (by rw [decide_eq_true c2]; rfl) ?_
        have eg : ({ g with pieces := g.pieces.map fun x => if x.id = i ∧ x.text ≠ t then { x with text := t, trans := 0 } else x } : House) = g := by
          have : (g.pieces.map fun x => if x.id = i ∧ x.text ≠ t then { x with text := t, trans := 0 } else x) = g.pieces := by
            conv => rhs; rw [← List.map_id g.pieces]
            refine List.map_congr_left fun x hx => ?_
            rw [if_neg]
            · rfl
            · rintro ⟨h1, h2⟩
              have hx' : x ∈ L.house.pieces := by rw [hg]; exact hx
              have hpm : p ∈ L.house.pieces := List.mem_map.mpr ⟨_, hm, rfl⟩
              have hn : (L.house.pieces.map (·.id)).Nodup := by rw [hg]; exact good.pd
              have := inj_nodup hn hx' hpm (h1.trans hi.symm)
              exact h2 (by rw [this]; exact c2)
          rw [this]
        rw [eg] at k hgo
        refine ⟨_, rfl, o, L.dx, _, rfl, hA.hO, fF_no _ _ _ (by decide +kernel) (by decide +kernel) (by decide +kernel), o, S, _, rfl, hO, hgo, by omega, trk, k⟩
      · refine if_t (by rw [decide_eq_false c2]; rfl) ?_
        -- piece.text = text; piece.translation = 0
        refine ⟨_, rfl, _, rfl, a, A.pc, dp, _, rfl, hp, T.k_Piece, T.n_Piece_text, (by show 2 < 1000; decide), ?_⟩
        refine ⟨_, rfl, a, A.pc, dp, _, rfl, upd_same, T.k_Piece, T.n_Piece_translation, (by rw [pF_put_text]; show 2 < 1000; decide), ?_⟩
        have e0 : putF "translation" (V.int 0) (putF "text" (V.int ((t : Nat) : Int)) (pF p)) = pF { p with text := t, trans := 0 } := by
          rw [pF_put_text]
          exact pF_put_tr _ 0
        rw [upd_upd, e0]
        have hB := hA.piece (dx := dp) (p' := { p with text := t, trans := 0 }) hm rfl
        have kp : Keeps S H (upd H a (.ins A.pc dp (pF { p with text := t, trans := 0 }))) := Keeps.out (hS _ (Foot.p (x := (a, p)) hm))
        refine ⟨_, rfl, o, L.dx, _, rfl, hB.hO, fF_no _ _ _ (by decide +kernel) (by decide +kernel) (by decide +kernel), o, S, _, rfl, ⟨_, hB, ?_, fun b fb => hS b (foot_piece hm fb)⟩, hgo, by show g.open_.length ≤ 2000; omega, trk.keeps kp, k.how kp fun p hp => fresh_upd hp⟩
        have hn : (L.house.pieces.map (·.id)).Nodup := by rw [hg]; exact good.pd
        rw [house_piece L (fun x => if x.id = i ∧ x.text ≠ t then { x with text := t, trans := 0 } else x) hA.pa hn hm (by rw [if_pos ⟨hi, c2⟩]) (fun x _ hx => by rw [if_neg fun z => hx (z.1.trans hi.symm)]), hg]

theorem ok_gone {f : Addr} {fd : FuncData} (F : Fun K "drop_piece" "Office.drop_piece" s_Office_drop_piece f fd) (T : Txt K mg A wn)
    (M_Office_how_it_stands : MtG P w K mg base A.of "how_it_stands" 1 ["self"] (sp_Office_how A)) :
    FnOk P w K mg base CX0 2 f fd ["self", "name"] (sp_gone A) := by
  refine F.ok sc_Office_drop_piece (fun vs H Q E h => ?_) (fun cdv A' outer s H vs Q E hr h => ?_)
  · obtain ⟨o, S, g, i, rfl, _⟩ := h
    rfl
  · obtain ⟨o, S, g, i, rfl, ⟨⟨L, hA, hg, hS⟩, good, hop, trk⟩, k⟩ := h
    have hO : Office A H o S g := ⟨L, hA, hg, hS⟩
    refine ⟨_, (pss_cons (ps_if (pt_cmp (pc_dnotin (hu_of hr) (pv 1) (pe_fld (pv 0) rfl))) (pss_one (ps_ret (pe_lst (pa_cons (pe_gi (by rfl) T.c_REFUSED_NO_SUCH) pa_nil)))) pss_nil)
      (pss_cons (ps_expr (pe_dpop1 (pe_fld (pv 0) rfl) (pv 1) ⟨rfl, rfl, rfl, rfl⟩))
      (pss_one (ps_ret (pe_mt0 M_Office_how_it_stands (hr.mono (by decide)) (pv 0)))))), ?_⟩
    refine ⟨_, rfl, _, rfl, o, A.of, L.dx, _, _, rfl, hA.hO, T.k_Office, T.n_Office_pieces, fF_pieces _ _ _, L.dp, _, rfl, DGet.k (k := Sum.inl ((i : Nat) : Int)) hA.hP, _, rfl, ?_⟩
    rw [val_kvP]
    have ep : Ut11.pieceOf g.pieces i = (look L.ps i).map (·.2) := by rw [← hg]; exact pieceOf_look L i
    cases e : look L.ps i with
    | none =>
      refine if_t rfl ⟨by show 1 ≤ sizeLine; decide, fun p hp => ?_⟩
      have e : Ut11.step g (.gone i) = (g, [-2]) := by simp [Ut11.step, ep, e]
      rw [e] at k
      exact k.no hO trk hp
    | some x =>
      refine if_f rfl ?_
      have es : Ut11.step g (.gone i) = ({ g with pieces := g.pieces.filter fun x => x.id != i }, Ut11.told { g with pieces := g.pieces.filter fun x => x.id != i }) := by simp [Ut11.step, ep, e]
      have hgo := step_good good (.gone i)
      rw [es] at k hgo
      refine ⟨_, rfl, o, A.of, L.dx, _, _, rfl, hA.hO, T.k_Office, T.n_Office_pieces, fF_pieces _ _ _, L.dp, rfl, .inl ⟨_, .inl hA.hP⟩, _, rfl, _, Sum.inl ((i : Nat) : Int), .ref x.1, hA.hP, rfl, (by rw [val_kvP, e]; rfl), ?_⟩
      rw [drop_kvP]
      have hB := hA.less fun x => x.2.id != i
      have kp : Keeps S H (upd H L.dp (.dK (kvP (L.ps.filter fun x => x.2.id != i)))) := Keeps.out (hS _ .dp)
      refine ⟨_, rfl, o, L.dx, _, rfl, hB.hO, fF_no _ _ _ (by decide +kernel) (by decide +kernel) (by decide +kernel), o, S, _, rfl, ⟨_, hB, ?_, fun b fb => hS b (foot_less fb)⟩, hgo, by show g.open_.length ≤ 2000; omega, trk.keeps kp, k.how kp fun p hp => fresh_upd hp⟩
      rw [← hg]
      simp [Lay.house, List.filter_map, Function.comp_def]

theorem ok_put {f : Addr} {fd : FuncData} (F : Fun K "put_translation" "Office.put_translation" s_Office_put_translation f fd) (T : Txt K mg A wn)
    (M_Office_how_it_stands : MtG P w K mg base A.of "how_it_stands" 1 ["self"] (sp_Office_how A)) :
    FnOk P w K mg base CX0 2 f fd ["self", "name", "translation"] (sp_put A) := by
  refine F.ok sc_Office_put_translation (fun vs H Q E h => ?_) (fun cdv A' outer s H vs Q E hr h => ?_)
  · obtain ⟨o, S, g, i, t, rfl, _⟩ := h
    rfl
  · obtain ⟨o, S, g, i, t, rfl, ⟨⟨L, hA, hg, hS⟩, good, hop, trk⟩, k⟩ := h
    have hO : Office A H o S g := ⟨L, hA, hg, hS⟩
    refine ⟨_, (pss_cons (ps_if (pt_cmpR op_gt (pv 2) (pe_gi (by rfl) T.c_MOST_NUMBER) (nomark _)) (pss_one (ps_ret (pe_lst (pa_cons (pe_gi (by rfl) T.c_REFUSED_NUMBERS) pa_nil)))) pss_nil)
      (pss_cons (ps_if (pt_cmp (pc_dnotin (hu_of hr) (pv 1) (pe_fld (pv 0) rfl))) (pss_one (ps_ret (pe_lst (pa_cons (pe_gi (by rfl) T.c_REFUSED_NO_SUCH) pa_nil)))) pss_nil)
      (pss_cons (ps_set (i := 3) sc_Office_put_translation.nd rfl (Or.inl rfl) (pe_dget (hu_of hr) (pe_fld (pv 0) rfl) (pv 1) (fun _ _ => rfl)))
      (pss_cons (ps_fld (pv 3) (pv 2) rfl)
      (pss_one (ps_ret (pe_mt0 M_Office_how_it_stands (hr.mono (by decide)) (pv 0)))))))), ?_⟩
    refine ⟨_, rfl, _, _, rfl, rfl, _, rfl, ?_⟩
    by_cases c1 : 999 < t
    · refine if_t (decide_eq_true (by omega)) ⟨by show 1 ≤ sizeLine; decide, fun p hp => ?_⟩
      have e : Ut11.step g (.put i t) = (g, [-1]) := by simp [Ut11.step, c1]
      rw [e] at k
      exact k.no hO trk hp
    refine if_f (decide_eq_false (by omega)) ?_
    refine ⟨_, rfl, _, rfl, o, A.of, L.dx, _, _, rfl, hA.hO, T.k_Office, T.n_Office_pieces, fF_pieces _ _ _, L.dp, _, rfl, DGet.k (k := Sum.inl ((i : Nat) : Int)) hA.hP, _, rfl, ?_⟩
    rw [val_kvP]
    have ep : Ut11.pieceOf g.pieces i = (look L.ps i).map (·.2) := by rw [← hg]; exact pieceOf_look L i
    cases e : look L.ps i with
    | none =>
      refine if_t rfl ⟨by show 1 ≤ sizeLine; decide, fun p hp => ?_⟩
      have e : Ut11.step g (.put i t) = (g, [-2]) := by simp [Ut11.step, c1, ep, e]
      rw [e] at k
      exact k.no hO trk hp
    | some x =>
      obtain ⟨a, p⟩ := x
      obtain ⟨hm, hi⟩ := look_some e
      have hi : p.id = i := hi
      refine if_f rfl ?_
      obtain ⟨dp, hp⟩ := hA.ps _ hm
      have hp : H a = some (.ins A.pc dp (pF p)) := hp
      refine ⟨_, rfl, o, A.of, L.dx, _, _, rfl, hA.hO, T.k_Office, T.n_Office_pieces, fF_pieces _ _ _, _, rfl, L.dp, .ref a, rfl, (by have := DGet.k (k := Sum.inl ((i : Nat) : Int)) hA.hP; rw [val_kvP, e] at this; exact this), ?_⟩
      have es : Ut11.step g (.put i t) = ({ g with pieces := g.pieces.map fun x => if x.id = i then { x with trans := t } else x }, Ut11.told { g with pieces := g.pieces.map fun x => if x.id = i then { x with trans := t } else x }) := by simp [Ut11.step, c1, ep, e]
      have hgo := step_good good (.put i t)
      rw [es] at k hgo
      refine ⟨_, rfl, _, rfl, a, A.pc, dp, _, rfl, hp, T.k_Piece, T.n_Piece_translation, (by show 2 < 1000; decide), ?_⟩
      rw [pF_put_tr]
      have hB := hA.piece (dx := dp) (p' := { p with trans := t }) hm rfl
      have kp : Keeps S H (upd H a (.ins A.pc dp (pF { p with trans := t }))) := Keeps.out (hS _ (Foot.p (x := (a, p)) hm))
      refine ⟨_, rfl, o, L.dx, _, rfl, hB.hO, fF_no _ _ _ (by decide +kernel) (by decide +kernel) (by decide +kernel), o, S, _, rfl, ⟨_, hB, ?_, fun b fb => hS b (foot_piece hm fb)⟩, hgo, by show g.open_.length ≤ 2000; omega, trk.keeps kp, k.how kp fun p hp => fresh_upd hp⟩
      have hn : (L.house.pieces.map (·.id)).Nodup := by rw [hg]; exact good.pd
      rw [house_piece L (fun x => if x.id = i then { x with trans := t } else x) hA.pa hn hm (by rw [if_pos hi]) (fun x _ hx => by rw [if_neg fun z => hx (z.trans hi.symm)]), hg]
end
end Cb

set_option Elab.async false
set_option linter.all false
set_option maxRecDepth 100000
set_option maxHeartbeats 2000000
namespace Cb
open PySem PySem.Spec PyProof.Rows L2
open Ut11 (House Piece Item Package)

theorem same_new {H : Hp} {p : Addr} {u : HO} (hp : H p = none) : Same H (upd H p u) := fun b o e => by
  rw [upd_ne (ne_of_none e hp)]
  exact e
/-- what H does not know may change -/
theorem same_mut {H H1 : Hp} {p : Addr} {u : HO} (a : Same H H1) (hp : H p = none) : Same H (upd H1 p u) := fun b o e => by
  rw [upd_ne (ne_of_none e hp)]
  exact a b o e
theorem At.same {A : Ad} {H H' : Hp} {o : Addr} {L : Lay} (h : At A H o L) (s : Same H H') : At A H' o L :=
  h.mono fun b f => by
    obtain ⟨u, e⟩ := h.there f
    rw [e, s b u e]
theorem Keeps.same {S : Addr → Prop} {H H' : Hp} (t : Trk S H) (s : Same H H') : Keeps S H H' := fun b hb => by
  cases e : H b with
  | none => exact absurd e (t b hb)
  | some u => exact s b u e
theorem same_none {H H' : Hp} {p : Addr} (s : Same H H') (h : H' p = none) : H p = none := by
  cases e : H p with
  | none => rfl
  | some u =>
    rw [s p u e] at h
    cases h

/-! ### numbers that were handed in -/
def nV (l : List Nat) : List V := l.map fun n => V.int ((n : Nat) : Int)
theorem nV_ints (l : List Nat) : nV l = (l.map fun n => ((n : Nat) : Int)).map V.int := by
  unfold nV
  rw [List.map_map]
  rfl
theorem nat_nodup (l : List Nat) : (l.map fun n => ((n : Nat) : Int)).Nodup ↔ l.Nodup := by
  unfold List.Nodup
  rw [List.pairwise_map]
  constructor
  · intro h
    exact h.imp fun hab e => hab (by rw [e])
  · intro h
    exact h.imp fun hab e => hab (by omega)

def fits (l : List Nat) : Bool := decide (0 < l.length) && (decide (l.length ≤ 8) && decide l.Nodup)
def sp_fit (K : PySem.W.Frag) : Sp := fun vs H Q _ => ∃ (a : Addr) (l : List Nat), vs = [.ref a] ∧ SqL K H a (nV l) ∧ l.length ≤ 1000 ∧ Q (.bl (fits l)) H
def sp_among (K : PySem.W.Frag) : Sp := fun vs H Q _ => ∃ (a d : Addr) (l : List Nat) (kvs : List (Key × V)), vs = [.ref a, .ref d] ∧ SqL K H a (nV l) ∧ l.length ≤ 1000 ∧ H d = some (.dK kvs) ∧
  ∀ (D : Addr) (u : HO), H D = none → Q (.bl (l.all fun i => (valV kvs (Sum.inl ((i : Nat) : Int))).isSome)) (upd H D u)
section
variable {P : Program} {w : World} {K : PySem.W.Frag} {mg : Str → Option Value} {base : Heap} {A : Ad} {wn : Addr}

theorem ok_fit {f : Addr} {fd : FuncData} (F : Fun K "fit_together" "fit_together" s_fit_together f fd) (T : Txt K mg A wn) : FnOk P w K mg base CX0 1 f fd ["names"] (sp_fit K) := by
  refine F.ok sc_fit_together (fun vs H Q E h => ?_) (fun cdv A' outer s H vs Q E hr h => ?_)
  · obtain ⟨a, l, rfl, _⟩ := h
    rfl
  · obtain ⟨a, l, rfl, hl, hn, k⟩ := h
    refine ⟨_, (pss_one (ps_ret (pe_and (pe_chain op_lt op_le pe_int (pe_callB call_len_seq (by rfl) T.b_len PySem.boot_len (pa_cons (pv 0) pa_nil)) (pe_gi (by rfl) T.c_MOST_AT_ONCE)) (pe_one (pe_cmpR op_eq (pe_lenSetN (by rfl) T.b_len (by rfl) T.b_set (pv 0)) (pe_callB call_len_seq (by rfl) T.b_len PySem.boot_len (pa_cons (pv 0) pa_nil)) (nomark _)))))), ?_⟩
    have len : (nV l).length = l.length := by simp [nV]
    refine ⟨_, rfl, a, _, rfl, .inl hl, _, _, rfl, rfl, _, rfl, ?_⟩
    rw [len]
    unfold fits at k
    by_cases c1 : 0 < l.length
    · refine if_t (decide_eq_true (by omega)) ?_
      refine ⟨_, _, rfl, rfl, _, rfl, ?_⟩
      rw [decide_eq_true c1, Bool.true_and] at k
      by_cases c2 : l.length ≤ 8
      · refine if_t (decide_eq_true (by omega)) ?_
        rw [decide_eq_true c2, Bool.true_and] at k
        refine ⟨_, rfl, a, l.map fun n => ((n : Nat) : Int), rfl, by rw [← nV_ints]; exact hl, by rw [List.length_map]; omega, fun m hm => ?_⟩
        refine ⟨_, rfl, a, _, rfl, .inl hl, rfl, ?_⟩
        rw [len, dec_nn]
        rw [List.length_map, nat_nodup] at hm
        have e : decide (m = l.length) = decide l.Nodup := by
          by_cases z : l.Nodup
          · rw [decide_eq_true z]; exact decide_eq_true (hm.mpr z)
          · rw [decide_eq_false z]; exact decide_eq_false fun q => z (hm.mp q)
        rw [e]
        exact k
      · refine if_f (decide_eq_false (by omega)) ?_
        rw [decide_eq_false c2, Bool.false_and] at k
        exact k
    · refine if_f (decide_eq_false (by omega)) ?_
      rw [decide_eq_false c1, Bool.false_and] at k
      exact ⟨_, rfl, if_f rfl k⟩

theorem ok_among {f : Addr} {fd : FuncData} (F : Fun K "all_among" "all_among" s_all_among f fd) (T : Txt K mg A wn) : FnOk P w K mg base CX0 1 f fd ["names", "known"] (sp_among K) := by
  refine F.ok sc_all_among (fun vs H Q E h => ?_) (fun cdv A' outer s H vs Q E hr h => ?_)
  · obtain ⟨a, d, l, kvs, rfl, _⟩ := h
    rfl
  · obtain ⟨a, d, l, kvs, rfl, hl, hn, hd, k⟩ := h
    refine ⟨_, (pss_one (ps_ret (pe_callB (cr_all rfl) (by rfl) T.b_all (by decide +kernel) (pa_cons (pe_lc (own := [("name", 2)]) (g := (gName 2)) (tt := tYes) (te := (tDIn (tVar 2) (tVar 1))) rfl sc_all_among.nd (pi_list (pv 0)) (blkOk_by (own := [("name", 2)]) (N := N_all_among) (sc := defScope s_all_among) (by decide +kernel)) (fun _ _ _ _ _ => pg_name (i := 2) sc_all_among.nd rfl (Or.inl rfl)) (fun _ _ _ _ _ => pts_nil) (fun _ _ _ _ _ => (pe_cmp (pc_din (hu_of hr) (pv 2) (pv 1))))) pa_nil)))), ?_⟩
    refine ⟨_, rfl, a, rfl, ⟨_, hl⟩, fun D hD => ?_⟩
    refine lc_ex (l := l) (v := fun n => V.int ((n : Nat) : Int)) walk_list (fun _ => true) (fun n => V.bl (valV kvs (Sum.inl ((n : Nat) : Int))).isSome) (fun m => (same_new hD).seq hl) (fun x hx m R r => r) (fun x hx c m R r => ?_) (Nat.lt_of_le_of_lt hn (by decide)) ?_
    · exact ⟨_, rfl, _, rfl, d, _, rfl, DGet.k (k := Sum.inl ((x : Nat) : Int)) ((same_new hD) d _ hd), r⟩
    · refine ⟨D, l.map fun n => (valV kvs (Sum.inl ((n : Nat) : Int))).isSome, rfl, SqL.of ?_, ?_⟩
      · rw [upd_same, List.filter_eq_self.mpr fun _ _ => rfl, List.map_map]
        rfl
      · have := k D (.lst ((l.filter fun _ => true).map fun n => V.bl (valV kvs (Sum.inl ((n : Nat) : Int))).isSome)) hD
        rw [List.all_map]
        exact this
end
end Cb

set_option Elab.async false
set_option linter.all false
set_option maxRecDepth 100000
set_option maxHeartbeats 2000000
namespace Cb
open PySem PySem.Spec PyProof.Rows L2
open Ut11 (House Piece Item Package)

/-! ### a dict of what was sent -/
def lookI (l : List (Addr × Item)) (i : Nat) : Option (Addr × Item) := l.find? fun x => x.2.id == i
theorem val_kvI (l : List (Addr × Item)) (i : Nat) : valV (kvI l) (Sum.inl ((i : Nat) : Int)) = (lookI l i).map fun x => V.ref x.1 := by
  unfold valV kvI lookI
  rw [List.find?_map, Option.map_map]
  have e : ((fun kv : Key × V => decide (kv.1 = Sum.inl ((i : Nat) : Int))) ∘ fun x : Addr × Item => ((Sum.inl ((x.2.id : Nat) : Int) : Key), V.ref x.1)) = fun x => x.2.id == i := by
    funext x
    show decide ((Sum.inl ((x.2.id : Nat) : Int) : Key) = Sum.inl ((i : Nat) : Int)) = _
    rw [key_ll]
    by_cases h : x.2.id = i
    · simp [h]
    · have : ¬ ((x.2.id : Int) = (i : Int)) := by omega
      rw [beq_eq_false_iff_ne.mpr this, beq_eq_false_iff_ne.mpr h]
  rw [e]
  rfl
theorem lookI_some {l : List (Addr × Item)} {i : Nat} {x : Addr × Item} (h : lookI l i = some x) : x ∈ l ∧ x.2.id = i := by
  unfold lookI at h
  exact ⟨List.mem_of_find?_eq_some h, by have := List.find?_some h; simpa using this⟩
theorem lookI_none {l : List (Addr × Item)} {i : Nat} (h : ∀ x ∈ l, x.2.id ≠ i) : lookI l i = none := by
  unfold lookI
  exact List.find?_eq_none.mpr fun x hx => by simpa using h x hx
theorem itemOf_look (k : KA) (i : Nat) : Ut11.itemOf k.pkg i = (lookI k.items i).map (·.2) := by
  unfold Ut11.itemOf lookI
  show (k.items.map (·.2)).find? _ = _
  rw [List.find?_map]
  rfl
/-- all the names are pieces' names -/
theorem look_all (L : Lay) : ∀ (l : List Nat), (∀ i ∈ l, (look L.ps i).isSome = true) → ∃ ys : List (Addr × Piece), l.map (look L.ps) = ys.map some ∧ (l.mapM fun i => Ut11.pieceOf L.house.pieces i) = some (ys.map (·.2))
  | [], _ => ⟨[], rfl, rfl⟩
  | i :: l, h => by
    obtain ⟨ys, h1, h2⟩ := look_all L l fun j hj => h j (List.mem_cons_of_mem _ hj)
    obtain ⟨y, hy⟩ := Option.isSome_iff_exists.mp (h i List.mem_cons_self)
    refine ⟨y :: ys, by simp [hy, h1], ?_⟩
    rw [List.mapM_cons, pieceOf_look, hy, h2]
    rfl
theorem mapM_no {g : List Piece} : ∀ {l : List Nat} {i : Nat}, i ∈ l → Ut11.pieceOf g i = none → (l.mapM fun i => Ut11.pieceOf g i) = none
  | j :: l, i, hm, h => by
    rw [List.mapM_cons]
    rcases List.mem_cons.mp hm with e | hm
    · subst e
      rw [h]
      rfl
    · rw [mapM_no hm h]
      cases Ut11.pieceOf g j <;> rfl

/-! ### a package more -/
section
variable {A : Ad} {H H' : Hp} {o : Addr} {L : Lay}
theorem At.kmore (h : At A H o L) {k : KA} (ho : ∃ dx, H k.a = some (.ins A.pk dx (kF k.d k.off))) (hd : H k.d = some (.dK (kvI k.items))) (hi : ∀ x ∈ k.items, ∃ dx, H x.1 = some (.ins A.st dx (iF x.2))) (na : ¬ Foot o L k.a) (nd : ¬ Foot o L k.d) (ni : ∀ x ∈ k.items, ¬ Foot o L x.1) (nn : (k.items.map (·.1)).Nodup) :
    At A (upd H L.lp (.lst ((L.ks ++ [k]).map fun k => V.ref k.a))) o { L with ks := L.ks ++ [k] } := by
  refine ⟨?_, ?_, upd_same, ?_, fun x hx => ?_, fun q hq => ?_, fun q hq => ?_, fun q hq x hx => ?_, fun x hx => ?_, h.pa, ?_, ?_, fun q hq => ?_, h.nl⟩
  · rw [upd_ne (ne_of h.hO h.hK l_ne_i.symm)]; exact h.hO
  · rw [upd_ne (ne_of h.hP h.hK l_ne_d.symm)]; exact h.hP
  · rw [upd_ne h.nl.symm]; exact h.hL
  · obtain ⟨d, e⟩ := h.ps x hx
    exact ⟨d, by rw [upd_ne (ne_of e h.hK l_ne_i.symm)]; exact e⟩
  · rcases List.mem_append.mp hq with m | m
    · obtain ⟨d, e⟩ := h.ks q m
      exact ⟨d, by rw [upd_ne (ne_of e h.hK l_ne_i.symm)]; exact e⟩
    · have e := List.mem_singleton.mp m
      subst e
      obtain ⟨d, e⟩ := ho
      exact ⟨d, by rw [upd_ne (ne_of e h.hK l_ne_i.symm)]; exact e⟩
  · rcases List.mem_append.mp hq with m | m
    · rw [upd_ne (ne_of (h.ds q m) h.hK l_ne_d.symm)]; exact h.ds q m
    · have e := List.mem_singleton.mp m
      subst e
      rw [upd_ne (ne_of hd h.hK l_ne_d.symm)]; exact hd
  · rcases List.mem_append.mp hq with m | m
    · obtain ⟨d, e⟩ := h.is q m x hx
      exact ⟨d, by rw [upd_ne (ne_of e h.hK l_ne_i.symm)]; exact e⟩
    · have e := List.mem_singleton.mp m
      subst e
      obtain ⟨d, e⟩ := hi x hx
      exact ⟨d, by rw [upd_ne (ne_of e h.hK l_ne_i.symm)]; exact e⟩
  · obtain ⟨d, e⟩ := h.os x hx
    exact ⟨d, by rw [upd_ne (ne_of e h.hK l_ne_i.symm)]; exact e⟩
  · show (((L.ks ++ [k]).flatMap (·.items)).map (·.1)).Nodup
    rw [List.flatMap_append, List.map_append, List.nodup_append]
    refine ⟨h.ia, by simpa using nn, fun x hx y hy e => ?_⟩
    obtain ⟨x', hx', ex⟩ := List.mem_map.mp hx
    obtain ⟨q, hq, hx'⟩ := List.mem_flatMap.mp hx'
    simp only [List.flatMap_cons, List.flatMap_nil, List.append_nil] at hy
    obtain ⟨y', hy', ey⟩ := List.mem_map.mp hy
    refine ni y' hy' ?_
    have : y'.1 = x'.1 := by rw [ey, ex, e]
    rw [this]
    exact .i hq hx'
  · show ((L.ks ++ [k]).map (·.a)).Nodup
    rw [List.map_append]
    refine nodup_snoc h.ka fun m => ?_
    obtain ⟨x, hx, e⟩ := List.mem_map.mp m
    have e : x.a = k.a := e
    exact na (e ▸ Foot.k hx)
  · rcases List.mem_append.mp hq with m | m
    · exact h.np q m
    · have e := List.mem_singleton.mp m
      subst e
      exact fun z => nd (z ▸ Foot.dp)
theorem foot_kmore {k : KA} {b : Addr} (f : Foot o { L with ks := L.ks ++ [k] } b) : Foot o L b ∨ b = k.a ∨ b = k.d ∨ ∃ x ∈ k.items, b = x.1 := by
  cases f with
  | o => exact .inl .o
  | dp => exact .inl .dp
  | lp => exact .inl .lp
  | lo => exact .inl .lo
  | p h => exact .inl (.p h)
  | k h =>
    rcases List.mem_append.mp h with m | m
    · exact .inl (.k m)
    · exact .inr (.inl (by rw [List.mem_singleton.mp m]))
  | d h =>
    rcases List.mem_append.mp h with m | m
    · exact .inl (.d m)
    · exact .inr (.inr (.inl (by rw [List.mem_singleton.mp m])))
  | i h hx =>
    rcases List.mem_append.mp h with m | m
    · exact .inl (.i m hx)
    · have e := List.mem_singleton.mp m
      subst e
      exact .inr (.inr (.inr ⟨_, hx, rfl⟩))
  | q h => exact .inl (.q h)
end

def sp_send (A : Ad) (K : PySem.W.Frag) : Sp := fun vs H Q _ => ∃ (o a : Addr) (S : Addr → Prop) (g : House) (l : List Nat), vs = [.ref o, .ref a] ∧ SqL K H a (nV l) ∧ l.length ≤ 1000 ∧ Pre A H o S g ∧ Done A o S H (Ut11.step g (.send l)) Q
theorem Done.from {A : Ad} {o : Addr} {S : Addr → Prop} {H H1 : Hp} {r : House × List Int} {Q : VK} (d : Done A o S H r Q) (kp : Keeps S H H1) (fr : ∀ p, H1 p = none → H p = none) : Done A o S H1 r Q :=
  fun H' p a b c e => d H' p a (kp.trans b) (fr p c) e
def itm (y : Addr × Piece) : Item := ⟨y.2.id, y.2.text, y.2.trans⟩

section
variable {P : Program} {w : World} {K : PySem.W.Frag} {mg : Str → Option Value} {base : Heap} {A : Ad} {wn : Addr}

theorem ok_send {f : Addr} {fd : FuncData} (F : Fun K "send_package" "Office.send_package" s_Office_send_package f fd) (T : Txt K mg A wn)
    (G_fit_together : FnG P w K mg base "fit_together" 1 ["names"] (sp_fit K))
    (G_all_among : FnG P w K mg base "all_among" 1 ["names", "known"] (sp_among K))
    (K_Sent : MkG P w K mg base "Sent" A.st 1 ["self", "text", "base"] (sp_Sent_init A))
    (K_Package : MkG P w K mg base "Package" A.pk 1 ["self", "sent"] (sp_Package_init A)) :
    FnOk P w K mg base CX0 3 f fd ["self", "names"] (sp_send A K) := by
  refine F.ok sc_Office_send_package (fun vs H Q E h => ?_) (fun cdv A' outer s H vs Q E hr h => ?_)
  · obtain ⟨o, a, S, g, l, rfl, _⟩ := h
    rfl
  · obtain ⟨o, a, S, g, l, rfl, hl, hln, ⟨⟨L, hA, hg, hS⟩, good, hop, trk⟩, k⟩ := h
    have hO : Office A H o S g := ⟨L, hA, hg, hS⟩
    refine ⟨_, (pss_cons (ps_if (pt_not (pt_val (pe_fn G_fit_together (hr.mono (by decide)) (by rfl) (pa_cons (pv 1) pa_nil)))) (pss_one (ps_ret (pe_lst (pa_cons (pe_gi (by rfl) T.c_REFUSED_NUMBERS) pa_nil)))) pss_nil)
      (pss_cons (ps_if (pt_not (pt_val (pe_fn G_all_among (hr.mono (by decide)) (by rfl) (pa_cons (pv 1) (pa_cons (pe_fld (pv 0) rfl) pa_nil))))) (pss_one (ps_ret (pe_lst (pa_cons (pe_gi (by rfl) T.c_REFUSED_NO_SUCH) pa_nil)))) pss_nil)
      (pss_cons (ps_if (pt_cmpR op_ge (pe_callB call_len_seq (by rfl) T.b_len PySem.boot_len (pa_cons (pe_fld (pv 0) rfl) pa_nil)) (pe_gi (by rfl) T.c_MOST_PACKAGES) (nomark _)) (pss_one (ps_ret (pe_lst (pa_cons (pe_gi (by rfl) T.c_REFUSED_FULL) pa_nil)))) pss_nil)
      (pss_cons (ps_set (i := 2) sc_Office_send_package.nd rfl (Or.inl rfl) pe_dnewK)
      (pss_cons (ps_for PassesOwn.never rfl (pi_list (pv 1)) (pg_name (i := 3) sc_Office_send_package.nd rfl (Or.inl rfl))
      (pss_cons (ps_set (i := 4) sc_Office_send_package.nd rfl (Or.inl rfl) (pe_dget (hu_of hr) (pe_fld (pv 0) rfl) (pv 3) (fun _ _ => rfl)))
      (pss_one (ps_dput (hu_of hr) (pv 2) (pv 3) (pe_mk K_Sent (hr.mono (by decide)) (by rfl) (pa_cons (pe_fld (pv 4) rfl) (pa_cons (pe_fld (pv 4) rfl) pa_nil))) rfl))))
      (pss_cons (ps_expr (pe_bm PySem.F.plainAttrs_list PySem.F.slot_list_append PySem.F.type_list_append mt_append (pe_fld (pv 0) rfl) (pa_cons (pe_mk K_Package (hr.mono (by decide)) (by rfl) (pa_cons (pv 2) pa_nil)) pa_nil)))
      (pss_one (ps_ret (pe_lst (pa_cons (pe_op op_sub (pe_callB call_len_seq (by rfl) T.b_len PySem.boot_len (pa_cons (pe_fld (pv 0) rfl) pa_nil)) pe_int) pa_nil)))))))))), ?_⟩
    -- if not fit_together(names)
    refine ⟨_, rfl, a, l, rfl, hl, hln, _, rfl, ?_⟩
    by_cases c1 : fits l = false
    · rw [c1]
      refine if_t rfl ⟨by show 1 ≤ sizeLine; decide, fun p hp => ?_⟩
      have e : Ut11.step g (.send l) = (g, [-1]) := by
        have : l = [] ∨ 8 < l.length ∨ l.eraseDups.length ≠ l.length := by
          by_cases z : l = [] ∨ 8 < l.length ∨ l.eraseDups.length ≠ l.length
          · exact z
          · exfalso
            have z1 : ¬ l = [] := fun q => z (.inl q)
            have z2 : ¬ 8 < l.length := fun q => z (.inr (.inl q))
            have z3 : l.Nodup := (dups_iff l).mp (by
              by_cases q : l.eraseDups.length = l.length
              · exact q
              · exact absurd (.inr (.inr q)) z)
            have z4 : 0 < l.length := List.length_pos_iff.mpr z1
            unfold fits at c1
            rw [decide_eq_true z4, decide_eq_true (by omega : l.length ≤ 8), decide_eq_true z3] at c1
            cases c1
        simp only [Ut11.step]
        rw [if_pos this]
      rw [e] at k
      exact k.no hO trk hp
    have c1 : fits l = true := by simpa using c1
    rw [c1]
    refine if_f rfl ?_
    unfold fits at c1
    simp only [Bool.and_eq_true, decide_eq_true_eq] at c1
    obtain ⟨z1, z2, z3⟩ := c1
    have hno : ¬ (l = [] ∨ 8 < l.length ∨ l.eraseDups.length ≠ l.length) := by
      rintro (q | q | q)
      · rw [q] at z1; simp at z1
      · omega
      · exact q ((dups_iff l).mpr z3)
    -- if not all_among(names, self.pieces)
    refine ⟨_, rfl, _, rfl, o, A.of, L.dx, _, _, rfl, hA.hO, T.k_Office, T.n_Office_pieces, fF_pieces _ _ _, a, L.dp, l, _, rfl, hl, hln, hA.hP, fun D u hD => ?_⟩
    refine ⟨_, rfl, ?_⟩
    have hA1 : At A (upd H D u) o L := hA.fresh hD
    have k1 := k.from (Keeps.new (u := u) trk hD) (fun p hp => fresh_upd hp)
    have trk1 : Trk S (upd H D u) := trk.keeps (Keeps.new trk hD)
    have hl1 : SqL K (upd H D u) a (nV l) := (same_new hD).seq hl
    generalize upd H D u = H1 at hA1 k1 trk1 hl1
    clear hl hA k trk hO hD
    have hO : Office A H1 o S g := ⟨L, hA1, hg, hS⟩
    have eall : (l.all fun i => (valV (kvP L.ps) (Sum.inl ((i : Nat) : Int))).isSome) = l.all fun i => (look L.ps i).isSome := by
      congr 1
      funext i
      rw [val_kvP]
      simp
    rw [eall]
    by_cases c2 : (l.all fun i => (look L.ps i).isSome) = false
    · rw [c2]
      refine if_t rfl ⟨by show 1 ≤ sizeLine; decide, fun p hp => ?_⟩
      have e : Ut11.step g (.send l) = (g, [-2]) := by
        obtain ⟨i, hi, q⟩ := List.all_eq_false.mp c2
        have hn : Ut11.pieceOf g.pieces i = none := by
          rw [← hg, pieceOf_look]
          cases e : look L.ps i with
          | none => rfl
          | some y => rw [e] at q; exact absurd rfl q
        simp only [Ut11.step]
        rw [if_neg hno, mapM_no hi hn]
      rw [e] at k1
      exact k1.no hO trk1 hp
    have c2 : (l.all fun i => (look L.ps i).isSome) = true := (Bool.not_eq_false _).mp c2
    rw [c2]
    refine if_f rfl ?_
    obtain ⟨ys, hy1, hy2⟩ := look_all L l (List.all_eq_true.mp c2)
    rw [hg] at hy2
    have eg : g.given = L.ks.length := by rw [← hg]; rfl
    -- if len(self.packages) >= 10
    refine ⟨_, rfl, o, A.of, L.dx, _, _, rfl, hA1.hO, T.k_Office, T.n_Office_packages, fF_packages _ _ _, L.lp, _, rfl, .inl (SqL.of hA1.hK), _, _, rfl, rfl, _, rfl, ?_⟩
    rw [List.length_map]
    by_cases c3 : 10 ≤ L.ks.length
    · refine if_t (decide_eq_true (by omega)) ⟨by show 1 ≤ sizeLine; decide, fun p hp => ?_⟩
      have e : Ut11.step g (.send l) = (g, [-5]) := by
        simp only [Ut11.step]
        rw [if_neg hno, hy2]
        simp only
        rw [if_pos (by omega)]
      rw [e] at k1
      exact k1.no hO trk1 hp
    refine if_f (decide_eq_false (by omega)) ?_
    have es : Ut11.step g (.send l) = ({ g with packages := g.packages ++ [⟨g.given, ys.map itm, false⟩], given := g.given + 1 }, Ut11.ints [g.given]) := by
      simp only [Ut11.step]
      rw [if_neg hno, hy2]
      simp only
      rw [if_neg (by omega), List.map_map]
      rfl
    have hgo := step_good good (.send l)
    rw [es] at k1 hgo
    -- sent = {}
    intro d hd
    -- the loop
    have sd : Same H1 (upd H1 d (.dK [])) := same_new hd
    have ylen : ys.length = l.length := by
      have := congrArg List.length hy1
      simpa using this.symm
    have yat : ∀ (j i : Nat), l[j]? = some i → ∃ y, ys[j]? = some y ∧ look L.ps i = some y := fun j i hj => by
      have q : (l.map (look L.ps))[j]? = (ys.map some)[j]? := by rw [hy1]
      rw [List.getElem?_map, hj, List.getElem?_map] at q
      cases e : ys[j]? with
      | none => rw [e] at q; cases q
      | some y =>
        rw [e] at q
        exact ⟨y, rfl, Option.some.inj q⟩
    refine ⟨_, rfl, a, rfl, ⟨_, sd.seq hl1⟩, for_list (K := K) (a := a) (xs := nV l) (fun j σ H' => ∃ (v1 v2 : Option V) (its : List (Addr × Item)), σ = [some (.ref o), some (.ref a), some (.ref d), v1, v2] ∧ Same H1 H' ∧ H' d = some (.dK (kvI its)) ∧
      its.map (·.2) = (ys.take j).map itm ∧ (its.map (·.1)).Nodup ∧ ∀ x ∈ its, H1 x.1 = none ∧ x.1 ≠ d ∧ ∃ dx, H' x.1 = some (.ins A.st dx (iF x.2)))
      ⟨none, none, [], rfl, sd, upd_same, rfl, List.nodup_nil, fun x hx => by simp at hx⟩ (fun i σ H' _ ⟨_, _, _, _, s5, _⟩ => s5.seq hl1) ?_ ?_⟩
    · rintro j v σ H2 hj ⟨v1, v2, its, rfl, s2, hd2, hit, hnd, hits⟩
      obtain ⟨i, hji, rfl⟩ : ∃ i, l[j]? = some i ∧ v = V.int ((i : Nat) : Int) := by
        unfold nV at hj
        rw [List.getElem?_map] at hj
        obtain ⟨i, h1, h2⟩ := Option.map_eq_some_iff.mp hj
        exact ⟨i, h1, h2.symm⟩
      obtain ⟨y, hyj, hly⟩ := yat j i hji
      obtain ⟨hym, hyi⟩ := look_some hly
      have hA2 := hA1.same s2
      obtain ⟨dy, hyH⟩ := hA2.ps y hym
      -- piece = self.pieces[name]
      refine ⟨_, rfl, o, A.of, L.dx, _, _, rfl, hA2.hO, T.k_Office, T.n_Office_pieces, fF_pieces _ _ _, _, rfl, L.dp, .ref y.1, rfl, (by have := DGet.k (k := Sum.inl ((i : Nat) : Int)) hA2.hP; rw [val_kvP, hly] at this; exact this), ?_⟩
      -- Sent(piece.text, piece.translation)
      refine ⟨_, rfl, y.1, A.pc, dy, _, _, rfl, hyH, T.k_Piece, T.n_Piece_text, pF_text _, _, rfl, y.1, A.pc, dy, _, _, rfl, hyH, T.k_Piece, T.n_Piece_translation, pF_tr _, ?_⟩
      intro x dx nx ndx nex
      refine ⟨x, dx, _, _, rfl, upd_same, fun _ => ⟨rfl, ?_⟩⟩
      rw [upd_upd]
      have ndx' : d ≠ x := ne_of_none hd2 nx
      have nddx : d ≠ dx := ne_of_none hd2 ndx
      have s3 : Same H2 (upd (upd H2 dx (.own x)) x (.ins A.st dx (iF ⟨i, y.2.text, y.2.trans⟩))) := L2.Same.trans (same_new ndx) (same_new (by rw [upd_ne nex.symm]; exact nx))
      have hd3 := s3 d _ hd2
      have lits : its.length ≤ 1000 := by
        have := congrArg List.length hit
        simp at this
        omega
      refine ⟨_, rfl, _, rfl, d, _, rfl, DPut.k (k := Sum.inl ((i : Nat) : Int)) hd3 (by simp only [kvI, List.length_map]; exact Nat.lt_of_le_of_lt lits (by decide)), ?_⟩
      have hnew : lookI its i = none := lookI_none fun x hx e => by
        have h1 : x.2 ∈ its.map (·.2) := List.mem_map.mpr ⟨x, hx, rfl⟩
        rw [hit] at h1
        obtain ⟨y', hy', e'⟩ := List.mem_map.mp h1
        obtain ⟨j', hj'⟩ := List.mem_iff_getElem?.mp hy'
        rw [List.getElem?_take] at hj'
        by_cases hlt : j' < j
        · rw [if_pos hlt] at hj'
          have hl' : j' < l.length := by
            have := (List.getElem?_eq_some_iff.mp hj').1
            omega
          obtain ⟨y'', q1, q2⟩ := yat j' l[j'] (List.getElem?_eq_getElem hl')
          rw [hj'] at q1
          cases q1
          have q3 := (look_some q2).2
          have q4 : y'.2.id = i := by rw [← e, ← e']; rfl
          have q5 : l[j'] = i := by rw [← q3, q4]
          obtain ⟨hjl, q6⟩ := List.getElem?_eq_some_iff.mp hji
          have := List.pairwise_iff_getElem.mp z3 j' j hl' hjl hlt
          exact this (by rw [q5, q6])
        · rw [if_neg hlt] at hj'
          cases hj'
      rw [putK_new _ (by rw [val_kvI, hnew]; rfl)]
      have ekv : kvI its ++ [((Sum.inl ((i : Nat) : Int) : Key), V.ref x)] = kvI (its ++ [(x, ⟨i, y.2.text, y.2.trans⟩)]) := by simp [kvI]
      rw [ekv]
      refine ⟨_, _, its ++ [(x, ⟨i, y.2.text, y.2.trans⟩)], rfl, same_mut (s2.trans s3) hd, upd_same, ?_, ?_, fun z hz => ?_⟩
      · rw [List.map_append, hit, List.take_add_one, hyj, List.map_append]
        have : itm y = ⟨i, y.2.text, y.2.trans⟩ := by unfold itm; rw [hyi]
        simp [this]
      · rw [List.map_append]
        refine nodup_snoc hnd fun m => ?_
        obtain ⟨z, hz, ez⟩ := List.mem_map.mp m
        have ez : z.1 = x := ez
        obtain ⟨_, _, d9, q⟩ := hits z hz
        rw [ez, nx] at q
        cases q
      · rcases List.mem_append.mp hz with m | m
        · obtain ⟨q1, q2, d9, q3⟩ := hits z m
          exact ⟨q1, q2, d9, by rw [upd_ne q2]; exact s3 _ _ q3⟩
        · have e := List.mem_singleton.mp m
          subst e
          exact ⟨same_none s2 nx, ndx'.symm, dx, by rw [upd_ne ndx'.symm]; exact upd_same⟩
    · rintro σ H2 ⟨v1, v2, its, rfl, s2, hd2, hit, hnd, hits⟩
      have e0 : (nV l).length = ys.length := by simp [nV, ylen]
      rw [e0, List.take_length] at hit
      have hA2 := hA1.same s2
      have ndF : ¬ Foot o L d := fun z => by
        obtain ⟨u, q⟩ := hA1.there z
        rw [hd] at q
        cases q
      have niF : ∀ x ∈ its, ¬ Foot o L x.1 := fun x hx z => by
        obtain ⟨u, q⟩ := hA1.there z
        rw [(hits x hx).1] at q
        cases q
      -- self.packages.append(Package(sent))
      refine ⟨_, rfl, o, A.of, L.dx, _, _, rfl, hA2.hO, T.k_Office, T.n_Office_packages, fF_packages _ _ _, .inl ⟨rfl, _, SqL.of hA2.hK⟩, _, rfl, ?_⟩
      intro x dx nx ndx nex
      refine ⟨x, dx, d, rfl, upd_same, rfl, ?_⟩
      rw [upd_upd]
      have sE : Same H2 (upd (upd H2 dx (.own x)) x (.ins A.pk dx (kF d false))) := L2.Same.trans (same_new ndx) (same_new (by rw [upd_ne nex.symm]; exact nx))
      have hx3 : upd (upd H2 dx (.own x)) x (.ins A.pk dx (kF d false)) x = some (.ins A.pk dx (kF d false)) := upd_same
      generalize upd (upd H2 dx (.own x)) x (.ins A.pk dx (kF d false)) = H3 at sE hx3
      have hA3 := hA2.same sE
      have s3 : Same H1 H3 := s2.trans sE
      have x0 : H1 x = none := same_none s2 nx
      have nxF : ¬ Foot o L x := fun z => by
        obtain ⟨u, q⟩ := hA1.there z
        rw [x0] at q
        cases q
      have hC := hA3.kmore (k := ⟨x, d, L.ks.length, false, its⟩) ⟨dx, hx3⟩ (sE _ _ hd2) (fun y hy => by
        obtain ⟨_, _, d9, q⟩ := hits y hy
        exact ⟨d9, sE _ _ q⟩) nxF ndF niF hnd
      refine ⟨L.lp, _, _, rfl, rfl, hA3.hK, by rw [List.length_map]; exact Nat.lt_of_lt_of_le (Nat.lt_of_not_le c3) (by decide), ?_⟩
      have ekv : (L.ks.map fun k => V.ref k.a) ++ [V.ref x] = (L.ks ++ [(⟨x, d, L.ks.length, false, its⟩ : KA)]).map fun k : KA => V.ref k.a := by simp
      rw [ekv]
      refine ⟨_, rfl, o, A.of, L.dx, _, _, rfl, hC.hO, T.k_Office, T.n_Office_packages, fF_packages _ _ _, L.lp, _, rfl, .inl (SqL.of hC.hK), _, _, rfl, rfl, by show 1 ≤ sizeLine; decide, fun p hp => ?_⟩
      refine k1 _ p ⟨_, hC.fresh hp, ?_, fun b fb => ?_⟩ ?_ (same_none s3 (fresh_upd hp)) ?_
      · rw [← hg]
        simp only [Lay.house, List.map_append, List.map_cons, List.map_nil, List.length_append, List.length_cons, List.length_nil, KA.pkg, hit]
      · intro q
        rcases foot_kmore fb with z | z | z | ⟨x, hx, z⟩
        · exact hS b z q
        · exact trk1 b q (by rw [z]; exact x0)
        · exact trk1 b q (by rw [z]; exact hd)
        · exact trk1 b q (by rw [z]; exact (hits x hx).1)
      · exact (Keeps.same trk1 s3).trans ((Keeps.out (hS _ .lp)).trans (Keeps.new ((trk1.keeps (Keeps.same trk1 s3)).keeps (Keeps.out (hS _ .lp))) hp))
      · rw [upd_same]
        simp only [List.length_map, List.length_append, List.length_cons, List.length_nil, Ut11.ints, List.map_cons, List.map_nil, eg]
        congr 4
        omega
end
end Cb

set_option Elab.async false
set_option linter.all false
set_option maxRecDepth 100000
set_option maxHeartbeats 2000000
namespace Cb
open PySem PySem.Spec PyProof.Rows L2
open Ut11 (House Piece Item Package)

def pV : Option (Addr × Piece) → V
  | none => .non
  | some y => .ref y.1
def sp_outcome (A : Ad) : Sp := fun vs H Q _ => ∃ (x : Option (Addr × Piece)) (sa : Addr) (m : Item) (t : Nat), vs = [pV x, .ref sa, .int (t : Nat)] ∧ (∀ y, x = some y → ∃ dx, H y.1 = some (.ins A.pc dx (pF y.2))) ∧ (∃ dx, H sa = some (.ins A.st dx (iF m))) ∧
  Q (.int ((Ut11.fate (x.map (·.2)) m t : Nat) : Int)) H
/-- how theirs stands beside ours -/
def beside (x : Option Piece) (tx t : Nat) : Nat := match x with
  | none => 5
  | some y => if y.text ≠ tx then 4 else if y.trans = t then 0 else 3
def sp_beside (A : Ad) : Sp := fun vs H Q _ => ∃ (x : Option (Addr × Piece)) (tx t : Nat), vs = [pV x, .int (tx : Nat), .int (t : Nat)] ∧ (∀ y, x = some y → ∃ dx, H y.1 = some (.ins A.pc dx (pF y.2))) ∧ Q (.int ((beside (x.map (·.2)) tx t : Nat) : Int)) H
def keepO (p i : Nat) (x : Addr × Ut11.Open) : Bool := !(x.2.id == i && x.2.package == p)
def sp_close (A : Ad) : Sp := fun vs H Q _ => ∃ (o : Addr) (L : Lay) (p i : Nat), vs = [.ref o, .int (p : Nat), .int (i : Nat)] ∧ At A H o L ∧ L.os.length ≤ 2000 ∧
  ∀ D, H D = none → Q .non (upd (upd H D (.lst ((L.os.filter (keepO p i)).map fun x => V.ref x.1))) o (.ins A.of L.dx (fF L.dp L.lp D)))
def sp_one (A : Ad) : Sp := fun vs H Q _ => ∃ (o : Addr) (S : Addr → Prop) (g : House) (p i t : Nat) (q : Package) (m : Item), vs = [.ref o, .int (p : Nat), .int (i : Nat), .int (t : Nat)] ∧ Office A H o S g ∧ Good g ∧ g.open_.length ≤ 1500 ∧ Trk S H ∧
  g.packages[p]? = some q ∧ Ut11.itemOf q i = some m ∧
  ∀ H', Office A H' o S (Ut11.putIn g p m t) → Keeps S H H' → (∀ b, H' b = none → H b = none) → Q (.int ((Ut11.fate (Ut11.pieceOf g.pieces i) m t : Nat) : Int)) H'

theorem num_inj {L : Lay} (good : Good L.house) {k k' : KA} (hk : k ∈ L.ks) (hk' : k' ∈ L.ks) (e : k'.number = k.number) : k' = k := by
  obtain ⟨a, ha⟩ := List.mem_iff_getElem?.mp hk
  obtain ⟨b, hb⟩ := List.mem_iff_getElem?.mp hk'
  have h1 := good.num a k.pkg (by show (L.ks.map KA.pkg)[a]? = _; rw [List.getElem?_map, ha]; rfl)
  have h2 := good.num b k'.pkg (by show (L.ks.map KA.pkg)[b]? = _; rw [List.getElem?_map, hb]; rfl)
  have h3 : k.number = a := h1
  have h4 : k'.number = b := h2
  have : a = b := by omega
  subst this
  rw [ha] at hb
  exact (Option.some.inj hb).symm
theorem closed_lay (L : Lay) (p i : Nat) : (L.os.filter (keepO p i)).map (·.2) = Ut11.closed (L.os.map (·.2)) i p := by
  unfold Ut11.closed
  rw [List.filter_map]
  rfl

section
variable {P : Program} {w : World} {K : PySem.W.Frag} {mg : Str → Option Value} {base : Heap} {A : Ad} {wn : Addr}

theorem ok_beside {f : Addr} {fd : FuncData} (F : Fun K "beside_ours" "beside_ours" s_beside_ours f fd) (T : Txt K mg A wn) : FnOk P w K mg base CX0 1 f fd ["piece", "text", "theirs"] (sp_beside A) := by
  refine F.ok sc_beside_ours (fun vs H Q E h => ?_) (fun cdv A' outer s H vs Q E hr h => ?_)
  · obtain ⟨x, tx, t, rfl, _⟩ := h
    rfl
  · obtain ⟨x, tx, t, rfl, hx, k⟩ := h
    refine ⟨_, (pss_cons (ps_if (pt_cmpR op_isN (pv 0) pe_non (nomark _)) (pss_one (ps_ret (pe_gi (by rfl) T.c_OF_GONE))) pss_nil)
      (pss_cons (ps_if (pt_cmpR op_ne (pe_fld (pv 0) rfl) (pv 1) (nomark _)) (pss_one (ps_ret (pe_gi (by rfl) T.c_OF_OTHER_TEXT))) pss_nil)
      (pss_cons (ps_if (pt_cmpR op_eq (pe_fld (pv 0) rfl) (pv 2) (nomark _)) (pss_one (ps_ret (pe_gi (by rfl) T.c_OURS_TOO))) pss_nil)
      (pss_one (ps_ret (pe_gi (by rfl) T.c_NOT_OURS)))))), ?_⟩
    refine ⟨_, rfl, rfl, _, rfl, ?_⟩
    cases x with
    | none => exact if_t (decide_eq_true rfl) k
    | some y =>
      obtain ⟨dy, hy⟩ := hx y rfl
      have k : Q (.int ((if y.2.text ≠ tx then 4 else if y.2.trans = t then 0 else 3 : Nat) : Int)) H := k
      refine if_f (decide_eq_false fun e => nomatch e) ?_
      refine ⟨_, rfl, y.1, A.pc, dy, _, _, rfl, hy, T.k_Piece, T.n_Piece_text, pF_text _, _, rfl, rfl, _, rfl, ?_⟩
      rw [dec_nn]
      by_cases c2 : y.2.text = tx
      · rw [if_neg fun z => z c2] at k
        refine if_f (by rw [decide_eq_true c2]; rfl) ?_
        refine ⟨_, rfl, y.1, A.pc, dy, _, _, rfl, hy, T.k_Piece, T.n_Piece_translation, pF_tr _, _, rfl, rfl, _, rfl, ?_⟩
        rw [dec_nn]
        by_cases c3 : y.2.trans = t
        · rw [if_pos c3] at k
          exact if_t (decide_eq_true c3) k
        rw [if_neg c3] at k
        exact if_f (decide_eq_false c3) k
      · rw [if_pos c2] at k
        exact if_t (by rw [decide_eq_false c2]; rfl) k

theorem ok_outcome {f : Addr} {fd : FuncData} (F : Fun K "outcome_of" "outcome_of" s_outcome_of f fd) (T : Txt K mg A wn)
    (G_beside_ours : FnG P w K mg base "beside_ours" 1 ["piece", "text", "theirs"] (sp_beside A)) :
    FnOk P w K mg base CX0 2 f fd ["piece", "sent", "theirs"] (sp_outcome A) := by
  refine F.ok sc_outcome_of (fun vs H Q E h => ?_) (fun cdv A' outer s H vs Q E hr h => ?_)
  · obtain ⟨x, sa, m, t, rfl, _⟩ := h
    rfl
  · obtain ⟨x, sa, m, t, rfl, hx, ⟨ds, hs⟩, k⟩ := h
    refine ⟨_, (pss_cons (ps_if (pt_cmpR op_eq (pv 2) (pe_fld (pv 1) rfl) (nomark _)) (pss_one (ps_ret (pe_gi (by rfl) T.c_THE_BASE))) pss_nil)
      (pss_cons (ps_set (i := 3) sc_outcome_of.nd rfl (Or.inl rfl) (pe_fn G_beside_ours (hr.mono (by decide)) (by rfl) (pa_cons (pv 0) (pa_cons (pe_fld (pv 1) rfl) (pa_cons (pv 2) pa_nil)))))
      (pss_cons (ps_if (PW.pt (pw_and (pt_cmpR op_eq (pv 3) (pe_gi (by rfl) T.c_NOT_OURS) (nomark _)) (pw_and1 (pt_cmpR op_eq (pe_fld (pv 0) rfl) (pe_fld (pv 1) rfl) (nomark _))))) (pss_one (ps_ret (pe_gi (by rfl) T.c_TAKEN))) pss_nil)
      (pss_one (ps_ret (pv 3)))))), ?_⟩
    unfold Ut11.fate at k
    refine ⟨_, rfl, _, rfl, sa, A.st, ds, _, _, rfl, hs, T.k_Sent, T.n_Sent_base, iF_base _, rfl, _, rfl, ?_⟩
    rw [dec_nn]
    by_cases c1 : t = m.base
    · rw [if_pos c1] at k
      exact if_t (decide_eq_true c1) k
    rw [if_neg c1] at k
    refine if_f (decide_eq_false c1) ?_
    refine ⟨_, rfl, _, rfl, sa, A.st, ds, _, _, rfl, hs, T.k_Sent, T.n_Sent_text, iF_text _, _, rfl, x, m.text, t, rfl, hx, ?_⟩
    refine ⟨_, rfl, rfl, _, rfl, ?_⟩
    rw [show (V.int (3 : Int)) = V.int ((3 : Nat) : Int) from rfl, dec_nn]
    cases x with
    | none => exact if_f rfl (if_f rfl ⟨_, rfl, k⟩)
    | some y =>
      obtain ⟨dy, hy⟩ := hx y rfl
      have k : Q (.int ((if y.2.text ≠ m.text then 4 else if y.2.trans = t then 0 else if y.2.trans = m.base then 2 else 3 : Nat) : Int)) H := k
      have eb : beside ((some y).map (·.2)) m.text t = if y.2.text ≠ m.text then 4 else if y.2.trans = t then 0 else 3 := rfl
      by_cases c2 : y.2.text = m.text
      · rw [if_neg fun z => z c2] at k eb
        by_cases c3 : y.2.trans = t
        · rw [if_pos c3] at k eb
          rw [eb]
          exact if_f rfl (if_f rfl ⟨_, rfl, k⟩)
        rw [if_neg c3] at k eb
        rw [eb]
        refine if_t rfl ?_
        refine ⟨_, rfl, y.1, A.pc, dy, _, _, rfl, hy, T.k_Piece, T.n_Piece_translation, pF_tr _, _, rfl, sa, A.st, ds, _, _, rfl, hs, T.k_Sent, T.n_Sent_base, iF_base _, rfl, _, rfl, ?_⟩
        rw [dec_nn]
        by_cases c4 : y.2.trans = m.base
        · rw [if_pos c4] at k
          exact if_t (decide_eq_true c4) k
        rw [if_neg c4] at k
        exact if_f (decide_eq_false c4) ⟨_, rfl, k⟩
      · rw [if_pos c2] at k eb
        rw [eb]
        exact if_f rfl (if_f rfl ⟨_, rfl, k⟩)

theorem ok_close {f : Addr} {fd : FuncData} (F : Fun K "close_opened" "Office.close_opened" s_Office_close_opened f fd) (T : Txt K mg A wn) : FnOk P w K mg base CX0 1 f fd ["self", "package", "name"] (sp_close A) := by
  refine F.ok sc_Office_close_opened (fun vs H Q E h => ?_) (fun cdv A' outer s H vs Q E hr h => ?_)
  · obtain ⟨o, L, p, i, rfl, _⟩ := h
    rfl
  · obtain ⟨o, L, p, i, rfl, hA, hop, k⟩ := h
    refine ⟨_, (pss_one (ps_fld (pv 0) (pe_lc (own := [("one", 3)]) (g := (gName 3)) (tt := (tOr (tTest (tOp rNe (tFld K (tVar 3) "package") (tVar 1))) (tTest (tOp rNe (tFld K (tVar 3) "name") (tVar 2))))) (te := (tVar 3)) rfl sc_Office_close_opened.nd (pi_list (pe_fld (pv 0) rfl)) (blkOk_by (own := [("one", 3)]) (N := N_Office_close_opened) (sc := defScope s_Office_close_opened) (by decide +kernel)) (fun _ _ _ _ _ => pg_name (i := 3) sc_Office_close_opened.nd rfl (Or.inl rfl)) (fun _ _ _ _ _ => pts_one (PW.pt (pw_or (pt_cmpR op_ne (pe_fld (pv 3) rfl) (pv 1) (nomark _)) (pw_or1 (pt_cmpR op_ne (pe_fld (pv 3) rfl) (pv 2) (nomark _)))))) (fun _ _ _ _ _ => (pv 3))) rfl)), ?_⟩
    refine ⟨_, rfl, o, A.of, L.dx, _, _, rfl, hA.hO, T.k_Office, T.n_Office_opened, fF_opened _ _ _, L.lo, rfl, ⟨_, SqL.of hA.hL⟩, fun D hD => ?_⟩
    refine lc_ex (l := L.os) (v := fun x => V.ref x.1) walk_list (keepO p i) (fun x => V.ref x.1) (fun m => (same_new hD).seq (SqL.of hA.hL)) (fun x hx m R r => ?_) (fun x hx c m R r => ⟨_, rfl, r⟩) (Nat.lt_of_le_of_lt hop (by decide)) ?_
    · obtain ⟨dx, e⟩ := hA.os x hx
      have e' := same_new (u := .lst m) hD _ _ e
      refine ⟨_, rfl, x.1, A.op, dx, _, _, rfl, e', T.k_Opened, T.n_Opened_package, oF_package _, _, rfl, rfl, _, rfl, ?_⟩
      rw [dec_nn]
      unfold keepO at r
      by_cases c1 : x.2.package = p
      · refine if_f (by rw [decide_eq_true c1]; rfl) ?_
        refine ⟨_, rfl, x.1, A.op, dx, _, _, rfl, e', T.k_Opened, T.n_Opened_name, oF_name _, _, rfl, rfl, _, rfl, ?_⟩
        rw [dec_nn]
        have q : (!decide (x.2.id = i)) = !(x.2.id == i && x.2.package == p) := by
          by_cases c2 : x.2.id = i <;> simp [c1, c2]
        rw [q]
        exact r
      · refine if_t (by rw [decide_eq_false c1]; rfl) ?_
        have q : (!(x.2.id == i && x.2.package == p)) = true := by simp [c1]
        rw [q] at r
        exact r
    · have hB := hA.fresh (u := .lst ((L.os.filter (keepO p i)).map fun x => V.ref x.1)) hD
      refine ⟨_, rfl, o, A.of, L.dx, _, rfl, hB.hO, T.k_Office, T.n_Office_opened, (by show 3 < 1000; decide), ?_⟩
      rw [fF_put]
      exact k D hD

theorem ok_one {f : Addr} {fd : FuncData} (F : Fun K "take_back_one" "Office.take_back_one" s_Office_take_back_one f fd) (T : Txt K mg A wn)
    (G_outcome_of : FnG P w K mg base "outcome_of" 2 ["piece", "sent", "theirs"] (sp_outcome A))
    (M_Office_close_opened : MtG P w K mg base A.of "close_opened" 1 ["self", "package", "name"] (sp_close A))
    (K_Opened : MkG P w K mg base "Opened" A.op 1 ["self", "name", "package", "text", "theirs"] (sp_Opened_init A)) :
    FnOk P w K mg base CX0 3 f fd ["self", "package", "name", "theirs"] (sp_one A) := by
  refine F.ok sc_Office_take_back_one (fun vs H Q E h => ?_) (fun cdv A' outer s H vs Q E hr h => ?_)
  · obtain ⟨o, S, g, p, i, t, q, m, rfl, _⟩ := h
    rfl
  · obtain ⟨o, S, g, p, i, t, q, m, rfl, ⟨L, hA, hg, hS⟩, good, hop, trk, hq, hm, k⟩ := h
    subst hg
    refine ⟨_, (pss_cons (ps_set (i := 4) sc_Office_take_back_one.nd rfl (Or.inl rfl) (pe_dget (hu_of hr) (pe_fld (pe_ix ix_list (pe_fld (pv 0) rfl) (pv 1) (fun _ _ => rfl)) rfl) (pv 2) (fun _ _ => rfl)))
      (pss_cons (ps_set (i := 5) sc_Office_take_back_one.nd rfl (Or.inl rfl) (pe_dget1 (hu_of hr) (pe_fld (pv 0) rfl) (pv 2) ⟨rfl, rfl, rfl, rfl⟩))
      (pss_cons (ps_set (i := 6) sc_Office_take_back_one.nd rfl (Or.inl rfl) (pe_fn G_outcome_of (hr.mono (by decide)) (by rfl) (pa_cons (pv 5) (pa_cons (pv 4) (pa_cons (pv 3) pa_nil)))))
      (pss_cons (ps_fld (pv 4) (pv 3) rfl)
      (pss_cons (ps_if (pt_cmpR op_eq (pv 6) (pe_gi (by rfl) T.c_THE_BASE) (nomark _)) (pss_one (ps_ret (pv 6))) pss_nil)
      (pss_cons (ps_expr (pe_mt M_Office_close_opened (hr.mono (by decide)) (pv 0) (pa_cons (pv 1) (pa_cons (pv 2) pa_nil))))
      (pss_cons (ps_if (pt_cmpR op_eq (pv 6) (pe_gi (by rfl) T.c_TAKEN) (nomark _)) (pss_one (ps_fld (pv 5) (pv 3) rfl)) (pss_one (ps_if (pt_cmpR op_ne (pv 6) (pe_gi (by rfl) T.c_OURS_TOO) (nomark _)) (pss_one (ps_expr (pe_bm PySem.F.plainAttrs_list PySem.F.slot_list_append PySem.F.type_list_append mt_append (pe_fld (pv 0) rfl) (pa_cons (pe_mk K_Opened (hr.mono (by decide)) (by rfl) (pa_cons (pv 2) (pa_cons (pv 1) (pa_cons (pe_fld (pv 4) rfl) (pa_cons (pv 3) pa_nil))))) pa_nil)))) pss_nil)))
      (pss_one (ps_ret (pv 6)))))))))), ?_⟩
    -- the package, the item
    obtain ⟨ka, hka, rfl⟩ : ∃ ka, L.ks[p]? = some ka ∧ ka.pkg = q := by
      have : (L.ks.map KA.pkg)[p]? = some q := hq
      rw [List.getElem?_map] at this
      exact Option.map_eq_some_iff.mp this
    have hkm : ka ∈ L.ks := List.mem_of_getElem? hka
    have hnum : ka.number = p := good.num p ka.pkg hq
    obtain ⟨⟨sa, m'⟩, hl, rfl⟩ : ∃ x, lookI ka.items i = some x ∧ x.2 = m := by
      rw [itemOf_look] at hm
      exact Option.map_eq_some_iff.mp hm
    obtain ⟨him, hii⟩ := lookI_some hl
    have hii : m'.id = i := hii
    obtain ⟨ds, hs⟩ := hA.is ka hkm _ him
    obtain ⟨dk, hk⟩ := hA.ks ka hkm
    have hs : H sa = some (.ins A.st ds (iF m')) := hs
    -- sent = self.packages[package].sent[name]
    refine ⟨_, rfl, o, A.of, L.dx, _, _, rfl, hA.hO, T.k_Office, T.n_Office_packages, fF_packages _ _ _, _, rfl, L.lp, _, _, .ref ka.a, rfl, rfl, SqL.of hA.hK, atI_nat (by rw [List.getElem?_map, hka]; rfl), ka.a, A.pk, dk, _, _, rfl, hk, T.k_Package, T.n_Package_sent, kF_sent _ _, _, rfl, ka.d, .ref sa, rfl, (by have := DGet.k (k := Sum.inl ((i : Nat) : Int)) (hA.ds ka hkm); rw [val_kvI, hl] at this; exact this), ?_⟩
    -- piece = self.pieces.get(name)
    refine ⟨_, rfl, o, A.of, L.dx, _, _, rfl, hA.hO, T.k_Office, T.n_Office_pieces, fF_pieces _ _ _, L.dp, rfl, .inl ⟨_, .inl hA.hP⟩, _, rfl, _, DGet.k (k := Sum.inl ((i : Nat) : Int)) hA.hP, ?_⟩
    have epv : (valV (kvP L.ps) (Sum.inl ((i : Nat) : Int))).getD .non = pV (look L.ps i) := by
      rw [val_kvP]
      cases look L.ps i <;> rfl
    rw [epv]
    -- outcome = outcome_of(piece, sent, theirs)
    refine ⟨_, rfl, _, rfl, _, rfl, look L.ps i, sa, m', t, rfl, fun y e => hA.ps y (look_some e).1, ⟨ds, hs⟩, ?_⟩
    have ef : Ut11.fate ((look L.ps i).map (·.2)) m' t = Ut11.fate (Ut11.pieceOf L.house.pieces i) m' t := by rw [pieceOf_look]
    rw [ef]
    -- sent.base = theirs
    refine ⟨_, rfl, _, rfl, sa, A.st, ds, _, rfl, hs, T.k_Sent, T.n_Sent_base, (by show 2 < 1000; decide), ?_⟩
    rw [iF_put]
    have hB := hA.base (dx := ds) (m' := { m' with base := t }) hkm him rfl
    have hSb : ∀ b, Foot o { L with ks := setK L.ks sa { m' with base := t } } b → ¬ S b := fun b fb => hS b (foot_base hkm him fb)
    have kpb : Keeps S H (upd H sa (.ins A.st ds (iF { m' with base := t }))) := Keeps.out (hS _ (Foot.i (x := (sa, m')) hkm him))
    have hhb : ({ L with ks := setK L.ks sa { m' with base := t } } : Lay).house = { L.house with packages := based L.house.packages p i t } := by
      rw [house_base (t := t) hA hkm him (fun k' hk' e => num_inj good hkm hk' e) (fun x hx e => by
      have nd := (good.itd ka.pkg (List.mem_map.mpr ⟨ka, hkm, rfl⟩)).1
      have nd : ((ka.items.map (·.2)).map (·.id)).Nodup := nd
      rw [List.map_map] at nd
      exact inj_nodup nd hx him e), hnum, hii]
    have hsB : upd H sa (.ins A.st ds (iF { m' with base := t })) sa = some (.ins A.st ds (iF { m' with base := t })) := upd_same
    have frB : ∀ b, upd H sa (.ins A.st ds (iF { m' with base := t })) b = none → H b = none := fun b e => fresh_upd e
    have epi := putIn_eq L.house p m' t
    rw [hii] at epi
    generalize hfe : Ut11.fate (Ut11.pieceOf L.house.pieces i) m' t = fe at k epi ⊢
    generalize upd H sa (.ins A.st ds (iF { m' with base := t })) = H1 at hB kpb hsB frB
    generalize hL1 : ({ L with ks := setK L.ks sa { m' with base := t } } : Lay) = L1 at hB hSb hhb
    have eps : L1.ps = L.ps := by rw [← hL1]
    have eos : L1.os = L.os := by rw [← hL1]
    have trk1 : Trk S H1 := trk.keeps kpb
    -- if outcome == 1
    refine ⟨_, rfl, rfl, _, rfl, ?_⟩
    rw [show (V.int (1 : Int)) = V.int ((1 : Nat) : Int) from rfl, dec_nn]
    by_cases c1 : fe = 1
    · subst c1
      refine if_t rfl ⟨_, rfl, ?_⟩
      refine k H1 ⟨L1, hB, ?_, hSb⟩ kpb frB
      rw [hhb, epi]
      rfl
    refine if_f (decide_eq_false c1) ?_
    -- self.close_opened(package, name)
    have hop1 : L1.os.length ≤ 2000 := by
      rw [eos]
      have : (L.os.map (·.2)).length ≤ 1500 := hop
      rw [List.length_map] at this
      omega
    refine ⟨_, rfl, o, L1.dx, _, rfl, hB.hO, fF_no _ _ _ (by decide +kernel) (by decide +kernel) (by decide +kernel), _, rfl, _, rfl, o, L1, p, i, rfl, hB, hop1, fun D hD => ?_⟩
    have hBD := hB.fresh (u := .lst ((L1.os.filter (keepO p i)).map fun x => V.ref x.1)) hD
    have nFD : ¬ Foot o L1 D := fun z => by
      obtain ⟨u, e⟩ := hB.there z
      rw [hD] at e
      cases e
    have hC := hBD.reopen (l := D) (os := L1.os.filter (keepO p i)) upd_same nFD (fun x hx => hBD.os x (List.mem_filter.mp hx).1)
    have hSc : ∀ b, Foot o { L1 with lo := D, os := L1.os.filter (keepO p i) } b → ¬ S b := fun b fb => by
      rcases foot_reopen (fun x hx => (List.mem_filter.mp hx).1) fb with z | z
      · exact hSb b z
      · intro e
        exact trk1 b e (by rw [z]; exact hD)
    have no : H1 o ≠ none := by rw [hB.hO]; exact fun e => nomatch e
    have kpc : Keeps S H (upd (upd H1 D (.lst ((L1.os.filter (keepO p i)).map fun x => V.ref x.1))) o (.ins A.of L1.dx (fF L1.dp L1.lp D))) := kpb.trans ((Keeps.new trk1 hD).trans (Keeps.out (hSb _ .o)))
    have frC : ∀ b, upd (upd H1 D (.lst ((L1.os.filter (keepO p i)).map fun x => V.ref x.1))) o (.ins A.of L1.dx (fF L1.dp L1.lp D)) b = none → H b = none := fun b e => frB b (fresh_upd (fresh_upd e))
    have hsC : upd (upd H1 D (.lst ((L1.os.filter (keepO p i)).map fun x => V.ref x.1))) o (.ins A.of L1.dx (fF L1.dp L1.lp D)) sa = some (.ins A.st ds (iF { m' with base := t })) := by
      rw [upd_ne (ne_of hsB hB.hO iF_ne_fF), upd_ne (ne_of_none hsB hD)]
      exact hsB
    generalize upd (upd H1 D (.lst ((L1.os.filter (keepO p i)).map fun x => V.ref x.1))) o (.ins A.of L1.dx (fF L1.dp L1.lp D)) = H2 at hC kpc frC hsC
    have hhc : ({ L1 with lo := D, os := L1.os.filter (keepO p i) } : Lay).house = { L.house with packages := based L.house.packages p i t, open_ := Ut11.closed L.house.open_ i p } := by
      show (⟨L1.house.pieces, L1.house.packages, L1.house.given, (L1.os.filter (keepO p i)).map (·.2)⟩ : House) = _
      rw [closed_lay, hhb, eos]
      rfl
    generalize hL2 : ({ L1 with lo := D, os := L1.os.filter (keepO p i) } : Lay) = L2 at hC hSc hhc
    have eps2 : L2.ps = L.ps := by rw [← hL2]; exact eps
    have trk2 : Trk S H2 := trk.keeps kpc
    -- if outcome == 2
    refine ⟨_, rfl, rfl, _, rfl, ?_⟩
    rw [show (V.int (2 : Int)) = V.int ((2 : Nat) : Int) from rfl, dec_nn]
    by_cases c2 : fe = 2
    · subst c2
      refine if_t rfl ?_
      -- there is the piece
      cases e : look L.ps i with
      | none =>
        exfalso
        rw [pieceOf_look, e] at hfe
        unfold Ut11.fate at hfe
        by_cases z : t = m'.base
        · rw [if_pos z] at hfe; cases hfe
        · rw [if_neg z] at hfe; cases hfe
      | some y =>
        obtain ⟨pa, y⟩ := y
        obtain ⟨hym, hyi⟩ := look_some e
        have hyi : y.id = i := hyi
        have hym2 : (pa, y) ∈ L2.ps := by rw [eps2]; exact hym
        obtain ⟨dy, hy⟩ := hC.ps _ hym2
        have hy : H2 pa = some (.ins A.pc dy (pF y)) := hy
        refine ⟨_, rfl, _, rfl, pa, A.pc, dy, _, rfl, hy, T.k_Piece, T.n_Piece_translation, (by show 2 < 1000; decide), ?_⟩
        rw [pF_put_tr]
        have hE := hC.piece (dx := dy) (p' := { y with trans := t }) hym2 rfl
        refine ⟨_, rfl, k _ ⟨_, hE, ?_, fun b fb => hSc b (foot_piece hym2 fb)⟩ (kpc.trans (Keeps.out (hSc _ (Foot.p (x := (pa, y)) hym2)))) fun b e => frC b (fresh_upd e)⟩
        have hpd : (L2.house.pieces.map (·.id)).Nodup := by rw [hhc]; exact good.pd
        rw [house_piece L2 (fun x => if x.id = i then { x with trans := t } else x) hC.pa hpd hym2 (by rw [if_pos hyi]) (fun x _ hx => by rw [if_neg fun z => hx (z.trans hyi.symm)]), hhc, epi]
        rfl
    refine if_f (decide_eq_false c2) ?_
    refine ⟨_, rfl, rfl, _, rfl, ?_⟩
    rw [show (V.int (0 : Int)) = V.int ((0 : Nat) : Int) from rfl, dec_nn]
    by_cases c0 : fe = 0
    · subst c0
      refine if_f rfl ⟨_, rfl, k _ ⟨L2, hC, ?_, hSc⟩ kpc frC⟩
      rw [hhc, epi]
      rfl
    · refine if_t (by rw [decide_eq_false c0]; rfl) ?_
      -- self.opened.append(Opened(..))
      refine ⟨_, rfl, o, A.of, L2.dx, _, _, rfl, hC.hO, T.k_Office, T.n_Office_opened, fF_opened _ _ _, .inl ⟨rfl, _, SqL.of hC.hL⟩, _, rfl, _, rfl, _, rfl, sa, A.st, ds, _, _, rfl, hsC, T.k_Sent, T.n_Sent_text, iF_text _, _, rfl, ?_⟩
      intro x dx nx ndx nex
      refine ⟨x, dx, ⟨i, m'.text, t, p⟩, rfl, upd_same, rfl, ?_⟩
      rw [upd_upd]
      have sE : Same H2 (upd (upd H2 dx (.own x)) x (.ins A.op dx (oF ⟨i, m'.text, t, p⟩))) := Same.trans (same_new ndx) (same_new (by rw [upd_ne nex.symm]; exact nx))
      have hE := hC.same sE
      have hF := hE.openMore (x := ⟨i, m'.text, t, p⟩) upd_same
      have hlo : L2.os.length ≤ 2000 := by
        rw [← hL2]
        exact Nat.le_trans (List.length_filter_le _ _) hop1
      refine ⟨L2.lo, _, _, rfl, rfl, hE.hL, by rw [List.length_map]; exact Nat.lt_of_le_of_lt hlo (by decide), ?_⟩
      have ekv : (L2.os.map fun x => V.ref x.1) ++ [V.ref x] = (L2.os ++ [(x, (⟨i, m'.text, t, p⟩ : Ut11.Open))]).map fun x => V.ref x.1 := by simp
      rw [ekv]
      have kpE : Keeps S H2 (upd (upd H2 dx (.own x)) x (.ins A.op dx (oF ⟨i, m'.text, t, p⟩))) := Keeps.same trk2 sE
      refine ⟨_, rfl, k _ ⟨_, hF, ?_, fun b fb => ?_⟩ ((kpc.trans kpE).trans (Keeps.out (hSc _ .lo))) fun b e => frC b (same_none sE (fresh_upd e))⟩
      · show (⟨L2.house.pieces, L2.house.packages, L2.house.given, (L2.os ++ [(x, (⟨i, m'.text, t, p⟩ : Ut11.Open))]).map (·.2)⟩ : House) = _
        rw [List.map_append, show L2.os.map (·.2) = L2.house.open_ from rfl, hhc, epi, if_neg c2, if_neg c0, if_pos (by omega)]
        rfl
      · rcases foot_openMore fb with z | z
        · exact hSc b z
        · intro e
          exact trk2 b e (by rw [z]; exact nx)
end
end Cb

set_option Elab.async false
set_option linter.all false
set_option maxRecDepth 100000
set_option maxHeartbeats 2000000
namespace Cb
open PySem PySem.Spec PyProof.Rows L2
open Ut11 (House Piece Item Package)

/-! ### a range by twos -/
theorem rgc2 (lo : Int) (n : Nat) (h : lo = 0 ∨ lo = 1) (hn : n ≤ 1000) : RgC lo (2 * (n : Nat) : Int) 2 n := by
  have e : Builtin.Range.rangeSize lo (2 * (n : Nat) : Int) 2 = n := by
    unfold Builtin.Range.rangeSize
    rw [if_pos (by decide)]
    rcases h with h | h
    · subst h
      split <;> omega
    · subst h
      split <;> omega
  have fl : ∀ i : Int, -1000000 ≤ i → i ≤ 1000000 → Builtin.Range.rangeFitsLong i = true := fun i h1 h2 => by
    unfold Builtin.Range.rangeFitsLong
    rw [decide_eq_true (by omega : -(2 ^ 63) ≤ i), decide_eq_true (by omega : i < 2 ^ 63)]
    rfl
  refine ⟨by decide, by decide, ?_, e⟩
  unfold Builtin.Range.small
  rw [e, if_pos (by decide : (2 : Int) > 0), fl lo (by omega) (by omega), fl (2 * (n : Nat)) (by omega) (by omega), fl 2 (by omega) (by omega), fl n (by omega) (by omega), fl (2 * (n : Nat) + (2 - 1)) (by omega) (by omega)]
  simp
theorem flat_len : ∀ m : List (Nat × Nat), (flat m).length = 2 * m.length
  | [] => rfl
  | (a, b) :: r => by
    show (flat r).length + 1 + 1 = 2 * (r.length + 1)
    rw [flat_len r]
    omega
theorem flat_at : ∀ (m : List (Nat × Nat)) (j : Nat) (x : Nat × Nat), m[j]? = some x → (flat m)[2 * j]? = some ((x.1 : Nat) : Int) ∧ (flat m)[1 + 2 * j]? = some ((x.2 : Nat) : Int)
  | [], j, x, h => by simp at h
  | (a, b) :: r, 0, x, h => by
    have e : (a, b) = x := by simpa using h
    subst e
    exact ⟨rfl, rfl⟩
  | (a, b) :: r, j + 1, x, h => by
    have ih := flat_at r j x (by simpa using h)
    exact ih

/-! ### one behind another -/
def Has (g : House) (p i : Nat) : Prop := ∃ q m, g.packages[p]? = some q ∧ Ut11.itemOf q i = some m
theorem based_has {l : List Package} {p p' i i' t : Nat} {q : Package} {m : Item} (h1 : l[p]? = some q) (h2 : Ut11.itemOf q i = some m) : ∃ q' m', (based l p' i' t)[p]? = some q' ∧ Ut11.itemOf q' i = some m' := by
  rw [based_get, h1]
  by_cases c : q.number = p'
  · rw [Option.map_some, if_pos c]
    unfold Ut11.itemOf at h2 ⊢
    have : ((q.items.map fun x => if x.id = i' then { x with base := t } else x).find? fun x => x.id == i).isSome = true := by
      rw [List.find?_isSome]
      refine ⟨if m.id = i' then { m with base := t } else m, List.mem_map.mpr ⟨m, List.mem_of_find?_eq_some h2, rfl⟩, ?_⟩
      have := List.find?_some h2
      split <;> exact this
    obtain ⟨m', hm'⟩ := Option.isSome_iff_exists.mp this
    exact ⟨_, m', rfl, hm'⟩
  · exact ⟨q, m, by rw [Option.map_some, if_neg c], h2⟩
theorem putIn_has {g : House} {p p' i t : Nat} {m : Item} (h : Has g p i) : Has (Ut11.putIn g p' m t) p i := by
  obtain ⟨q, x, h1, h2⟩ := h
  unfold Has
  rw [putIn_packages]
  exact based_has h1 h2
theorem backFrom_has {p : Nat} : ∀ (l : List (Nat × Nat)) {g : House} {i : Nat}, Has g p i → Has (Ut11.backFrom p g l).1 p i
  | [], _, _, h => h
  | (j, t) :: l, g, i, h => by
    unfold Ut11.backFrom
    split
    · exact backFrom_has l h
    · exact backFrom_has l (putIn_has h)
theorem backFrom_snoc {p i t : Nat} {m : Item} : ∀ (l : List (Nat × Nat)) {g : House}, ((Ut11.packageOf (Ut11.backFrom p g l).1 p).bind fun q => Ut11.itemOf q i) = some m →
    Ut11.backFrom p g (l ++ [(i, t)]) = (Ut11.putIn (Ut11.backFrom p g l).1 p m t, (Ut11.backFrom p g l).2 ++ [Ut11.fate (Ut11.pieceOf (Ut11.backFrom p g l).1.pieces i) m t])
  | [], g, h => by
    have h : ((Ut11.packageOf g p).bind fun q => Ut11.itemOf q i) = some m := h
    show Ut11.backFrom p g [(i, t)] = _
    unfold Ut11.backFrom
    rw [h]
    rfl
  | (j, u) :: l, g, h => by
    show Ut11.backFrom p g ((j, u) :: (l ++ [(i, t)])) = _
    unfold Ut11.backFrom at h ⊢
    cases e : (Ut11.packageOf g p).bind fun q => Ut11.itemOf q j with
    | none =>
      rw [e] at h
      exact backFrom_snoc l h
    | some m' =>
      rw [e] at h
      have ih := backFrom_snoc (t := t) l (g := Ut11.putIn g p m' u) h
      simp only
      rw [ih]
      rfl

theorem backFrom_len (p : Nat) : ∀ (l : List (Nat × Nat)) (g : House), (Ut11.backFrom p g l).2.length ≤ l.length
  | [], _ => Nat.le_refl _
  | (i, t) :: r, g => by
    unfold Ut11.backFrom
    split
    · exact Nat.le_succ_of_le (backFrom_len p r g)
    · exact Nat.succ_le_succ (backFrom_len p r _)
theorem count_two : ∀ l : List Nat, (l.map fun n => ((n : Nat) : Int)).count 2 = (l.filter fun f => f == 2).length
  | [] => rfl
  | n :: r => by
    rw [List.map_cons, List.count_cons, List.filter_cons, count_two r]
    by_cases h : n = 2
    · subst h; simp
    · have h1 : ¬ ((n : Int) = 2) := by omega
      simp [h, h1]

def sp_back (A : Ad) (K : PySem.W.Frag) : Sp := fun vs H Q _ => ∃ (o a : Addr) (S : Addr → Prop) (g : House) (p : Nat) (l : List (Nat × Nat)), vs = [.ref o, .int (p : Nat), .ref a] ∧ SqL K H a ((flat l).map V.int) ∧ l.length ≤ 1000 ∧
  Pre A H o S g ∧ Done A o S H (Ut11.step g (.back p l)) Q

section
variable {P : Program} {w : World} {K : PySem.W.Frag} {mg : Str → Option Value} {base : Heap} {A : Ad} {wn : Addr}

theorem ok_back {f : Addr} {fd : FuncData} (F : Fun K "take_back" "Office.take_back" s_Office_take_back f fd) (T : Txt K mg A wn)
    (G_fit_together : FnG P w K mg base "fit_together" 1 ["names"] (sp_fit K))
    (G_all_among : FnG P w K mg base "all_among" 1 ["names", "known"] (sp_among K))
    (M_Office_take_back_one : MtG P w K mg base A.of "take_back_one" 3 ["self", "package", "name", "theirs"] (sp_one A)) :
    FnOk P w K mg base CX0 4 f fd ["self", "package", "pieces"] (sp_back A K) := by
  refine F.ok sc_Office_take_back (fun vs H Q E h => ?_) (fun cdv A' outer s H vs Q E hr h => ?_)
  · obtain ⟨o, a, S, g, p, l, rfl, _⟩ := h
    rfl
  · obtain ⟨o, a, S, g, p, l, rfl, hl, hln, ⟨⟨L, hA, hg, hS⟩, good, hop, trk⟩, k⟩ := h
    refine ⟨_, (pss_cons (ps_setLc (i := 3) (own := [("at", 7)]) (g := (gName 7)) (tt := tYes) (te := (tOp (rIxL K) (tVar 2) (tVar 7))) rfl sc_Office_take_back.nd rfl rfl (sw_true rfl rfl rfl (by decide +kernel)) (pi_range3 (by rfl) T.b_range (pa_cons pe_int (pa_cons (pe_callB call_len_seq (by rfl) T.b_len PySem.boot_len (pa_cons (pv 2) pa_nil)) (pa_cons pe_int pa_nil)))) (blkOk_by (own := [("at", 7)]) (N := N_Office_take_back) (sc := defScope s_Office_take_back) (by decide +kernel)) (fun _ _ _ _ _ => pg_name (i := 7) sc_Office_take_back.nd rfl (Or.inl rfl)) (fun _ _ _ _ _ => pts_nil) (fun _ _ _ _ _ => (pe_ix ix_list (pv 2) (pv 7) (fun _ _ => rfl))))
      (pss_cons (ps_setLc (i := 4) (own := [("at", 7)]) (g := (gName 7)) (tt := tYes) (te := (tOp (rIxL K) (tVar 2) (tVar 7))) rfl sc_Office_take_back.nd rfl rfl (sw_true rfl rfl rfl (by decide +kernel)) (pi_range3 (by rfl) T.b_range (pa_cons pe_int (pa_cons (pe_callB call_len_seq (by rfl) T.b_len PySem.boot_len (pa_cons (pv 2) pa_nil)) (pa_cons pe_int pa_nil)))) (blkOk_by (own := [("at", 7)]) (N := N_Office_take_back) (sc := defScope s_Office_take_back) (by decide +kernel)) (fun _ _ _ _ _ => pg_name (i := 7) sc_Office_take_back.nd rfl (Or.inl rfl)) (fun _ _ _ _ _ => pts_nil) (fun _ _ _ _ _ => (pe_ix ix_list (pv 2) (pv 7) (fun _ _ => rfl))))
      (pss_cons (ps_if (PW.pt (pw_or (pt_not (pt_val (pe_fn G_fit_together (hr.mono (by decide)) (by rfl) (pa_cons (pv 3) pa_nil)))) (pw_or1 (pt_cmpR op_gt (pe_callB (cr_max rfl) (by rfl) T.b_max (by decide +kernel) (pa_cons (pv 4) pa_nil)) (pe_gi (by rfl) T.c_MOST_NUMBER) (nomark _))))) (pss_one (ps_ret (pe_lst (pa_cons (pe_gi (by rfl) T.c_REFUSED_NUMBERS) pa_nil)))) pss_nil)
      (pss_cons (ps_if (pt_cmpR op_ge (pv 1) (pe_callB call_len_seq (by rfl) T.b_len PySem.boot_len (pa_cons (pe_fld (pv 0) rfl) pa_nil)) (nomark _)) (pss_one (ps_ret (pe_lst (pa_cons (pe_gi (by rfl) T.c_REFUSED_NO_SUCH) pa_nil)))) pss_nil)
      (pss_cons (ps_set (i := 5) sc_Office_take_back.nd rfl (Or.inl rfl) (pe_ix ix_list (pe_fld (pv 0) rfl) (pv 1) (fun _ _ => rfl)))
      (pss_cons (ps_if (pt_val (pe_fld (pv 5) rfl)) (pss_one (ps_ret (pe_lst (pa_cons (pe_gi (by rfl) T.c_REFUSED_NO_MORE) pa_nil)))) pss_nil)
      (pss_cons (ps_if (pt_not (pt_val (pe_fn G_all_among (hr.mono (by decide)) (by rfl) (pa_cons (pv 3) (pa_cons (pe_fld (pv 5) rfl) pa_nil))))) (pss_one (ps_ret (pe_lst (pa_cons (pe_gi (by rfl) T.c_REFUSED_NOT_IN_IT) pa_nil)))) pss_nil)
      (pss_cons (ps_set (i := 6) sc_Office_take_back.nd rfl (Or.inl rfl) (pe_lst pa_nil))
      (pss_cons (ps_for PassesOwn.never rfl (pi_range1 (by rfl) T.b_range (pa_cons (pe_callB call_len_seq (by rfl) T.b_len PySem.boot_len (pa_cons (pv 3) pa_nil)) pa_nil)) (pg_name (i := 7) sc_Office_take_back.nd rfl (Or.inl rfl))
      (pss_one (ps_expr (pe_bm PySem.F.plainAttrs_list PySem.F.slot_list_append PySem.F.type_list_append mt_append (pv 6) (pa_cons (pe_mt M_Office_take_back_one (hr.mono (by decide)) (pv 0) (pa_cons (pv 1) (pa_cons (pe_ix ix_list (pv 3) (pv 7) (fun _ _ => rfl)) (pa_cons (pe_ix ix_list (pv 4) (pv 7) (fun _ _ => rfl)) pa_nil)))) pa_nil)))))
      (pss_one (ps_ret (pe_op op_cat (pe_lst (pa_cons (pe_bm PySem.F.plainAttrs_list PySem.F.slot_list_count PySem.F.type_list_count mt_lcount (pv 6) (pa_cons (pe_gi (by rfl) T.c_TAKEN) pa_nil)) pa_nil)) (pv 6))))))))))))), ?_⟩
    have len : ((flat l).map V.int).length = 2 * l.length := by rw [List.length_map, flat_len]
    have lenI : ((((flat l).map V.int).length : Nat) : Int) = 2 * (l.length : Nat) := by rw [len]; omega
    have hat : ∀ j, j < l.length → l[j]? = some (l.getD j (0, 0)) := fun j hj => by
      rw [List.getD_eq_getElem?_getD, List.getElem?_eq_getElem hj]
      rfl
    -- names
    refine ⟨_, rfl, a, _, rfl, .inl hl, 0, _, 2, l.length, rfl, (by rw [lenI]; exact rgc2 0 l.length (.inl rfl) hln), fun D1 hD1 => ?_⟩
    refine lc_ex (l := List.range l.length) (v := fun i => V.int (0 + (i : Nat) * 2)) walk_step (fun _ => true) (fun i => V.int (((l.getD i (0, 0)).1 : Nat) : Int)) (fun _ => trivial) (fun x hx m R r => r) (fun x hx c m R r => ?_) (by rw [List.length_range]; exact Nat.lt_of_le_of_lt hln (by decide)) ?_
    · have h1 := (flat_at l x _ (hat x (List.mem_range.mp hx))).1
      exact ⟨_, rfl, _, rfl, a, _, _, _, rfl, rfl, (same_new hD1).seq hl, at_of (j := 2 * x) (by omega) (by rw [List.getElem?_map, h1]; rfl), r⟩
    have en : ((List.range l.length).filter fun _ => true).map (fun i => V.int (((l.getD i (0, 0)).1 : Nat) : Int)) = nV (l.map (·.1)) := by
      rw [List.filter_eq_self.mpr fun _ _ => rfl]
      refine List.ext_getElem? fun j => ?_
      unfold nV
      by_cases c : j < l.length
      · rw [List.getElem?_map, List.getElem?_range c, List.getElem?_map, List.getElem?_map, hat j c]
        rfl
      · rw [List.getElem?_eq_none (by simp; omega), List.getElem?_eq_none (by simp; omega)]
    rw [en]
    have s1 : Same H (upd H D1 (.lst (nV (l.map (·.1))))) := same_new hD1
    have hn1 : upd H D1 (.lst (nV (l.map (·.1)))) D1 = some (.lst (nV (l.map (·.1)))) := upd_same
    generalize upd H D1 (.lst (nV (l.map (·.1)))) = H1 at s1 hn1
    -- translations
    refine ⟨_, rfl, a, _, rfl, .inl (s1.seq hl), 1, _, 2, l.length, rfl, (by rw [lenI]; exact rgc2 1 l.length (.inr rfl) hln), fun D2 hD2 => ?_⟩
    refine lc_ex (l := List.range l.length) (v := fun i => V.int (1 + (i : Nat) * 2)) walk_step (fun _ => true) (fun i => V.int (((l.getD i (0, 0)).2 : Nat) : Int)) (fun _ => trivial) (fun x hx m R r => r) (fun x hx c m R r => ?_) (by rw [List.length_range]; exact Nat.lt_of_le_of_lt hln (by decide)) ?_
    · have h1 := (flat_at l x _ (hat x (List.mem_range.mp hx))).2
      exact ⟨_, rfl, _, rfl, a, _, _, _, rfl, rfl, (same_new hD2).seq (s1.seq hl), at_of (j := 1 + 2 * x) (by omega) (by rw [List.getElem?_map, h1]; rfl), r⟩
    have et : ((List.range l.length).filter fun _ => true).map (fun i => V.int (((l.getD i (0, 0)).2 : Nat) : Int)) = nV (l.map (·.2)) := by
      rw [List.filter_eq_self.mpr fun _ _ => rfl]
      refine List.ext_getElem? fun j => ?_
      unfold nV
      by_cases c : j < l.length
      · rw [List.getElem?_map, List.getElem?_range c, List.getElem?_map, List.getElem?_map, hat j c]
        rfl
      · rw [List.getElem?_eq_none (by simp; omega), List.getElem?_eq_none (by simp; omega)]
    rw [et]
    have s2 : Same H (upd H1 D2 (.lst (nV (l.map (·.2))))) := s1.trans (same_new hD2)
    have hn2 : upd H1 D2 (.lst (nV (l.map (·.2)))) D1 = some (.lst (nV (l.map (·.1)))) := same_new hD2 _ _ hn1
    have ht2 : upd H1 D2 (.lst (nV (l.map (·.2)))) D2 = some (.lst (nV (l.map (·.2)))) := upd_same
    have hD20 : H D2 = none := same_none s1 hD2
    generalize upd H1 D2 (.lst (nV (l.map (·.2)))) = H2 at s2 hn2 ht2
    have hA2 := hA.same s2
    have hO2 : Office A H2 o S g := ⟨L, hA2, hg, hS⟩
    have trk2 : Trk S H2 := trk.keeps (Keeps.same trk s2)
    have k2 := k.from (Keeps.same trk s2) (fun p hp => same_none s2 hp)
    -- the first test
    have hstep : ∀ b : Bool, b = (!fits (l.map (·.1)) || !(l.all fun x => decide (x.2 ≤ 999))) → (b = true ↔ (l = [] ∨ 8 < l.length ∨ (l.all fun x => decide (x.2 ≤ 999)) = false ∨ (l.map fun x => x.1).eraseDups.length ≠ l.length)) := by
      intro b hb
      subst hb
      have hd := dups_iff (l.map fun x => x.1)
      rw [List.length_map] at hd
      unfold fits
      rw [List.length_map]
      by_cases z1 : l = []
      · subst z1; simp
      · have z2 : 0 < l.length := List.length_pos_iff.mpr z1
        cases z3 : l.all fun x => decide (x.2 ≤ 999) with
        | false => simp
        | true =>
          by_cases z4 : l.length ≤ 8
          · by_cases z5 : (l.map fun x => x.1).Nodup
            · simp [z1, z2, z4, z5, hd.mpr z5]
            · have : ¬ (l.map fun x => x.1).eraseDups.length = l.length := fun q => z5 (hd.mp q)
              simp [z2, z4, z5, this]
          · have : 8 < l.length := by omega
            simp [z2, z4, this]
    have hno := hstep _ rfl
    refine ⟨_, rfl, D1, l.map (·.1), rfl, SqL.of hn2, by rw [List.length_map]; exact hln, _, rfl, ?_⟩
    by_cases c1 : fits (l.map (·.1)) = false
    · rw [c1]
      refine if_t rfl (iteT ⟨by show 1 ≤ sizeLine; decide, fun p' hp => ?_⟩)
      have e : Ut11.step g (.back p l) = (g, [-1]) := by
        simp only [Ut11.step]
        rw [if_pos (hno.mp (by rw [c1]; rfl))]
      rw [e] at k2
      exact k2.no hO2 trk2 hp
    have c1 : fits (l.map (·.1)) = true := by simpa using c1
    rw [c1]
    refine if_f rfl ?_
    have z1 : 0 < l.length ∧ l.length ≤ 8 := by
      unfold fits at c1
      simp only [Bool.and_eq_true, decide_eq_true_eq, List.length_map] at c1
      exact ⟨c1.1, c1.2.1⟩
    refine ⟨_, rfl, D2, (l.map (·.2)).map (fun n => ((n : Nat) : Int)), rfl, by rw [← nV_ints]; exact SqL.of ht2, by simp; exact z1.1, fun mx hmx hle => ?_⟩
    refine ⟨_, _, rfl, rfl, _, rfl, ?_⟩
    by_cases c2 : (l.all fun x => decide (x.2 ≤ 999)) = false
    · have hbig : 999 < mx := by
        obtain ⟨x, hx, q⟩ := List.all_eq_false.mp c2
        have : ¬ x.2 ≤ 999 := by simpa using q
        have := hle ((x.2 : Nat) : Int) (List.mem_map.mpr ⟨x.2, List.mem_map.mpr ⟨x, hx, rfl⟩, rfl⟩)
        omega
      refine if_t (decide_eq_true hbig) ⟨by show 1 ≤ sizeLine; decide, fun p' hp => ?_⟩
      have e : Ut11.step g (.back p l) = (g, [-1]) := by
        simp only [Ut11.step]
        rw [if_pos (hno.mp (by rw [c1, c2]; rfl))]
      rw [e] at k2
      exact k2.no hO2 trk2 hp
    have c2 : (l.all fun x => decide (x.2 ≤ 999)) = true := (Bool.not_eq_false _).mp c2
    have hsm : ¬ 999 < mx := by
      obtain ⟨n, hn, e⟩ := List.mem_map.mp hmx
      obtain ⟨x, hx, e'⟩ := List.mem_map.mp hn
      have := List.all_eq_true.mp c2 x hx
      have : x.2 ≤ 999 := by simpa using this
      omega
    refine if_f (decide_eq_false hsm) ?_
    have hno' : ¬ (l = [] ∨ 8 < l.length ∨ (l.all fun x => decide (x.2 ≤ 999)) = false ∨ (l.map fun x => x.1).eraseDups.length ≠ l.length) := fun z => by
      have := hno.mpr z
      rw [c1, c2] at this
      cases this
    -- if package >= len(self.packages)
    refine ⟨_, rfl, _, rfl, o, A.of, L.dx, _, _, rfl, hA2.hO, T.k_Office, T.n_Office_packages, fF_packages _ _ _, L.lp, _, rfl, .inl (SqL.of hA2.hK), _, _, rfl, rfl, _, rfl, ?_⟩
    rw [List.length_map, dec_le]
    have epk : ∀ i : Nat, g.packages[i]? = (L.ks[i]?).map KA.pkg := fun i => by
      rw [← hg]
      show (L.ks.map KA.pkg)[i]? = _
      rw [List.getElem?_map]
    by_cases c3 : L.ks.length ≤ p
    · refine if_t (decide_eq_true c3) ⟨by show 1 ≤ sizeLine; decide, fun p' hp => ?_⟩
      have e : Ut11.step g (.back p l) = (g, [-2]) := by
        simp only [Ut11.step]
        rw [if_neg hno', packageOf_get good, epk, List.getElem?_eq_none c3]
        rfl
      rw [e] at k2
      exact k2.no hO2 trk2 hp
    refine if_f (decide_eq_false c3) ?_
    obtain ⟨ka, hka⟩ : ∃ ka, L.ks[p]? = some ka := ⟨L.ks[p], List.getElem?_eq_getElem (by omega)⟩
    have hkm : ka ∈ L.ks := List.mem_of_getElem? hka
    have hgp : g.packages[p]? = some ka.pkg := by rw [epk, hka]; rfl
    obtain ⟨dk, hk2⟩ := hA2.ks ka hkm
    -- asked = self.packages[package]
    refine ⟨_, rfl, o, A.of, L.dx, _, _, rfl, hA2.hO, T.k_Office, T.n_Office_packages, fF_packages _ _ _, _, rfl, L.lp, _, _, .ref ka.a, rfl, rfl, SqL.of hA2.hK, atI_nat (by rw [List.getElem?_map, hka]; rfl), ?_⟩
    -- if asked.given_up
    refine ⟨_, rfl, ka.a, A.pk, dk, _, _, rfl, hk2, T.k_Package, T.n_Package_given_up, kF_off _ _, _, rfl, ?_⟩
    cases hofk : ka.off with
    | true =>
      refine if_t rfl ⟨by show 1 ≤ sizeLine; decide, fun p' hp => ?_⟩
      have e : Ut11.step g (.back p l) = (g, [-6]) := by
        simp only [Ut11.step]
        rw [if_neg hno', packageOf_get good, hgp]
        simp only
        rw [if_pos (show ka.pkg.off = true from hofk)]
      rw [e] at k2
      exact k2.no hO2 trk2 hp
    | false =>
    refine if_f rfl ?_
    have hofk : ka.pkg.off = false := hofk
    -- if not all_among(names, asked.sent)
    refine ⟨_, rfl, _, rfl, ka.a, A.pk, dk, _, _, rfl, hk2, T.k_Package, T.n_Package_sent, kF_sent _ _, D1, ka.d, l.map (·.1), _, rfl, SqL.of hn2, by rw [List.length_map]; exact hln, hA2.ds ka hkm, fun D u hD => ?_⟩
    refine ⟨_, rfl, ?_⟩
    have s3 : Same H (upd H2 D u) := s2.trans (same_new hD)
    have hn3 := same_new (u := u) hD _ _ hn2
    have ht3 := same_new (u := u) hD _ _ ht2
    generalize upd H2 D u = H3 at s3 hn3 ht3
    have hA3 := hA.same s3
    have hO3 : Office A H3 o S g := ⟨L, hA3, hg, hS⟩
    have trk3 : Trk S H3 := trk.keeps (Keeps.same trk s3)
    have k3 := k.from (Keeps.same trk s3) (fun p hp => same_none s3 hp)
    have eall : ((l.map (·.1)).all fun i => (valV (kvI ka.items) (Sum.inl ((i : Nat) : Int))).isSome) = l.all fun x => (Ut11.itemOf ka.pkg x.1).isSome := by
      rw [List.all_map]
      congr 1
      funext x
      show (valV (kvI ka.items) (Sum.inl ((x.1 : Nat) : Int))).isSome = _
      rw [val_kvI, itemOf_look]
      simp
    rw [eall]
    by_cases c4 : (l.all fun x => (Ut11.itemOf ka.pkg x.1).isSome) = false
    · rw [c4]
      refine if_t rfl ⟨by show 1 ≤ sizeLine; decide, fun p' hp => ?_⟩
      have e : Ut11.step g (.back p l) = (g, [-3]) := by
        simp only [Ut11.step]
        rw [if_neg hno', packageOf_get good, hgp]
        simp only
        rw [hofk, if_neg Bool.false_ne_true, if_pos c4]
      rw [e] at k3
      exact k3.no hO3 trk3 hp
    have c4 : (l.all fun x => (Ut11.itemOf ka.pkg x.1).isSome) = true := (Bool.not_eq_false _).mp c4
    rw [c4]
    refine if_f rfl ?_
    have es : Ut11.step g (.back p l) = ((Ut11.backFrom p g l).1, Ut11.ints (((Ut11.backFrom p g l).2.filter fun f => f == 2).length :: (Ut11.backFrom p g l).2)) := by
      simp only [Ut11.step]
      rw [if_neg hno', packageOf_get good, hgp]
      simp only
      rw [hofk, if_neg Bool.false_ne_true, if_neg (by rw [c4]; exact fun e => nomatch e)]
    rw [es] at k3
    -- outcomes = []
    refine ⟨Nat.zero_le _, fun oc hoc => ?_⟩
    have s4 : Same H3 (upd H3 oc (.lst [])) := same_new hoc
    have n1 : D1 ≠ oc := ne_of_none hn3 hoc
    have n2 : D2 ≠ oc := ne_of_none ht3 hoc
    -- for at in range(len(names))
    refine ⟨_, rfl, D1, _, rfl, .inl (SqL.of (s4 _ _ hn3)), _, rfl, by omega, by simp only [nV, List.length_map]; omega, ?_⟩
    have eln : ((((nV (l.map (·.1))).length : Nat) : Int)).toNat = l.length := by simp [nV]
    rw [eln]
    -- what is guarded: S, the two lists; the outcomes are ours
    let S' : Addr → Prop := fun b => S b ∨ b = D1 ∨ b = D2 ∨ b = oc
    have nFo : ∀ b, Foot o L b → ¬ S' b := fun b fb hb => by
      obtain ⟨u0, e0⟩ := hA.there fb
      rcases hb with z | z | z | z
      · exact hS b fb z
      · rw [z, hD1] at e0; cases e0
      · rw [z, hD20] at e0; cases e0
      · have := s3 b u0 e0
        rw [z, hoc] at this
        cases this
    refine for_range (lo := 0) (n := l.length) (fun j σ H' => ∃ (v : Option V), σ = [some (.ref o), some (.int (p : Nat)), some (.ref a), some (.ref D1), some (.ref D2), some (.ref ka.a), some (.ref oc), v] ∧
        Office A H' o S' (Ut11.backFrom p g (l.take j)).1 ∧ Keeps S H3 H' ∧ (∀ b, H' b = none → H3 b = none) ∧ H' D1 = some (.lst (nV (l.map (·.1)))) ∧ H' D2 = some (.lst (nV (l.map (·.2)))) ∧ H' oc = some (.lst (nV (Ut11.backFrom p g (l.take j)).2)))
      ⟨none, rfl, ⟨L, hA3.same s4, hg, nFo⟩, Keeps.new trk3 hoc, fun b e => fresh_upd e, s4 _ _ hn3, s4 _ _ ht3, upd_same⟩ ?_ ?_
    · rintro j σ H4 hj ⟨v, rfl, hOf, kp, fr, h1, h2, h3⟩
      have hlj := hat j hj
      generalize hx : l.getD j (0, 0) = x at hlj
      obtain ⟨i, t⟩ := x
      have htk : l.take (j + 1) = l.take j ++ [(i, t)] := by rw [List.take_add_one, hlj]; rfl
      have hgood : Good (Ut11.backFrom p g (l.take j)).1 := good_backFrom p _ g good fun y hy => by
        have := List.all_eq_true.mp c2 y (List.mem_of_mem_take hy)
        simpa using this
      have hopn : (Ut11.backFrom p g (l.take j)).1.open_.length ≤ 1500 := by
        have := backFrom_open p (l.take j) g
        have h9 : (l.take j).length ≤ l.length := by simp; omega
        omega
      obtain ⟨q, m, hq, hm⟩ : Has (Ut11.backFrom p g (l.take j)).1 p i := backFrom_has _ ⟨ka.pkg, by
        have := List.all_eq_true.mp c4 (i, t) (List.mem_of_getElem? hlj)
        obtain ⟨m, hm⟩ := Option.isSome_iff_exists.mp this
        exact ⟨m, hgp, hm⟩⟩
      have hsn := backFrom_snoc (p := p) (i := i) (t := t) (m := m) (l.take j) (g := g) (by rw [packageOf_get hgood, hq]; exact hm)
      rw [← htk] at hsn
      obtain ⟨L4, hA4, hg4, hS4⟩ := id hOf
      have trk4 : Trk S' H4 := fun b hb => by
        rcases hb with z | z | z | z
        · exact trk3.keeps kp b z
        · rw [z, h1]; exact fun e => nomatch e
        · rw [z, h2]; exact fun e => nomatch e
        · rw [z, h3]; exact fun e => nomatch e
      -- outcomes.append(self.take_back_one(package, names[at], translations[at]))
      refine ⟨_, rfl, .inl ⟨rfl, _, SqL.of h3⟩, _, rfl, o, L4.dx, _, rfl, hA4.hO, fF_no _ _ _ (by decide +kernel) (by decide +kernel) (by decide +kernel), _, rfl, _, rfl, _, rfl, D1, _, _, .int ((i : Nat) : Int), rfl, rfl, SqL.of h1, at_of (j := j) (by omega) (by unfold nV; rw [List.getElem?_map, List.getElem?_map, hlj]; rfl), _, rfl, _, rfl, D2, _, _, .int ((t : Nat) : Int), rfl, rfl, SqL.of h2, at_of (j := j) (by omega) (by unfold nV; rw [List.getElem?_map, List.getElem?_map, hlj]; rfl), ?_⟩
      refine ⟨o, S', _, p, i, t, q, m, rfl, hOf, hgood, hopn, trk4, hq, hm, fun H5 hO5 kp5 fr5 => ?_⟩
      have h15 : H5 D1 = _ := (kp5 D1 (.inr (.inl rfl))).trans h1
      have h25 : H5 D2 = _ := (kp5 D2 (.inr (.inr (.inl rfl)))).trans h2
      have h35 : H5 oc = _ := (kp5 oc (.inr (.inr (.inr rfl)))).trans h3
      have hl2 : (Ut11.backFrom p g (l.take j)).2.length ≤ l.length := by
        have h9 := backFrom_len p (l.take j) g
        have h8 : (l.take j).length ≤ l.length := by simp; omega
        omega
      refine ⟨oc, _, _, rfl, rfl, h35, by simp only [nV, List.length_map]; exact Nat.lt_of_le_of_lt (Nat.le_trans hl2 hln) (by decide), ?_⟩
      obtain ⟨L5, hA5, hg5, hS5⟩ := hO5
      refine ⟨_, rfl, ⟨L5, hA5.out fun z => hS5 _ z (.inr (.inr (.inr rfl))), by rw [hsn]; exact hg5, hS5⟩, ?_, fun b e => fr b (fr5 b (fresh_upd e)), by rw [upd_ne n1]; exact h15, by rw [upd_ne n2]; exact h25, ?_⟩
      · intro b hb
        have nb : b ≠ oc := fun e => trk3 b hb (by rw [e]; exact hoc)
        rw [upd_ne nb, kp5 b (.inl hb), kp b hb]
      · rw [upd_same, hsn]
        simp [nV]
    · rintro σ H4 ⟨v, rfl, hOf, kp, fr, h1, h2, h3⟩
      rw [List.take_length] at hOf h3
      have hlr := backFrom_len p l g
      generalize Ut11.backFrom p g l = r at k3 hOf h3 hlr
      -- return [outcomes.count(2)] + outcomes
      refine ⟨_, rfl, .inl ⟨rfl, _, SqL.of h3⟩, oc, r.2.map (fun n => ((n : Nat) : Int)), 2, rfl, rfl, by rw [← nV_ints]; exact SqL.of h3, ?_⟩
      refine ⟨by show 1 ≤ sizeLine; decide, fun l1 hl1 => ?_⟩
      have n3 : oc ≠ l1 := ne_of_none h3 hl1
      refine ⟨_, rfl, l1, oc, _, _, rfl, rfl, upd_same, by rw [upd_ne n3]; exact h3, ?_, fun p' hp => ?_⟩
      · simp only [nV, List.length_map, List.length_cons, List.length_nil]
        exact Nat.le_trans (by omega : 0 + 1 + r.2.length ≤ 1001) (by decide)
      · obtain ⟨L5, hA5, hg5, hS5⟩ := hOf
        refine k3 _ p' ⟨L5, (hA5.fresh hl1).fresh hp, hg5, fun b fb hb => hS5 b fb (.inl hb)⟩ ?_ (fr p' (fresh_upd hp)) ?_
        · exact (kp.trans (Keeps.new (trk3.keeps kp) hl1)).trans (Keeps.new ((trk3.keeps kp).keeps (Keeps.new (trk3.keeps kp) hl1)) hp)
        · rw [upd_same]
          rw [count_two]
          simp [Ut11.ints, nV]
end
end Cb

set_option Elab.async false
set_option linter.all false
set_option maxRecDepth 100000
set_option maxHeartbeats 2000000
namespace Cb
open PySem PySem.Spec PyProof.Rows L2
open Ut11 (House Piece Item Package)

/-! ### what is open: found, closed -/
def isO (p i : Nat) (x : Addr × Ut11.Open) : Bool := x.2.id == i && x.2.package == p
def oV : Option (Addr × Ut11.Open) → V
  | none => .non
  | some y => .ref y.1
theorem find_open (L : Lay) (p i : Nat) : (L.house.open_.find? fun x => x.id == i && x.package == p) = (L.os.find? (isO p i)).map (·.2) := by
  show (L.os.map (·.2)).find? _ = _
  rw [List.find?_map]
  rfl
theorem find_here {α : Type} {f : α → Bool} : ∀ {l : List α} {j : Nat} {x : α}, l[j]? = some x → f x = true → (∀ y ∈ l.take j, f y = false) → l.find? f = some x
  | [], j, x, h, _, _ => by simp at h
  | a :: r, 0, x, h, hf, _ => by
    have e : a = x := by simpa using h
    subst e
    rw [List.find?_cons, hf]
  | a :: r, j + 1, x, h, hf, hn => by
    rw [List.find?_cons, hn a (by simp)]
    exact find_here (by simpa using h) hf fun y hy => hn y (by simp [hy])
section
variable {A : Ad} {H : Hp} {o : Addr} {L : Lay}
theorem At.close (h : At A H o L) (p i : Nat) {D : Addr} (hD : H D = none) :
    At A (upd (upd H D (.lst ((L.os.filter (keepO p i)).map fun x => V.ref x.1))) o (.ins A.of L.dx (fF L.dp L.lp D))) o { L with lo := D, os := L.os.filter (keepO p i) } := by
  have hBD := h.fresh (u := .lst ((L.os.filter (keepO p i)).map fun x => V.ref x.1)) hD
  have nFD : ¬ Foot o L D := fun z => by
    obtain ⟨u, e⟩ := h.there z
    rw [hD] at e
    cases e
  exact hBD.reopen (l := D) (os := L.os.filter (keepO p i)) upd_same nFD (fun x hx => hBD.os x (List.mem_filter.mp hx).1)
theorem foot_close {p i : Nat} {D b : Addr} (f : Foot o { L with lo := D, os := L.os.filter (keepO p i) } b) : Foot o L b ∨ b = D :=
  foot_reopen (fun x hx => (List.mem_filter.mp hx).1) f
theorem house_close (L : Lay) (p i : Nat) (D : Addr) : ({ L with lo := D, os := L.os.filter (keepO p i) } : Lay).house = { L.house with open_ := Ut11.closed L.house.open_ i p } := by
  show (⟨_, _, _, (L.os.filter (keepO p i)).map (·.2)⟩ : House) = _
  rw [closed_lay]
  rfl
end
/-- the lock is off again -/
theorem same_frz {H H' : Hp} {d : Addr} {o : Obj} {u : HO} (s : Same (upd H d (.frz o u)) H') (hd : H d = some u) : Same H (upd H' d u) := fun b x e => by
  by_cases c : b = d
  · subst c
    rw [upd_same, ← e, hd]
  · rw [upd_ne c]
    exact s b x (by rw [upd_ne c]; exact e)

def sp_find (A : Ad) : Sp := fun vs H Q _ => ∃ (o : Addr) (L : Lay) (p i : Nat), vs = [.ref o, .int (p : Nat), .int (i : Nat)] ∧ At A H o L ∧ Q (oV (L.os.find? (isO p i))) H
def sp_off (A : Ad) : Sp := fun vs H Q _ => ∃ (o : Addr) (S : Addr → Prop) (g : House) (p : Nat), vs = [.ref o, .int (p : Nat)] ∧ Pre A H o S g ∧ Done A o S H (Ut11.step g (.off p)) Q
def sp_choose (A : Ad) : Sp := fun vs H Q _ => ∃ (o : Addr) (S : Addr → Prop) (g : House) (i p : Nat) (t : Bool), vs = [.ref o, .int (i : Nat), .int (p : Nat), .int (if t = true then 1 else 0)] ∧ Pre A H o S g ∧ Done A o S H (Ut11.step g (.choose i p t)) Q
def sp_topen (A : Ad) : Sp := fun vs H Q _ => ∃ (o : Addr) (S : Addr → Prop) (g : House), vs = [.ref o] ∧ Pre A H o S g ∧ Done A o S H (Ut11.step g .open_) Q
def sp_tpieces (A : Ad) : Sp := fun vs H Q _ => ∃ (o : Addr) (S : Addr → Prop) (g : House), vs = [.ref o] ∧ Pre A H o S g ∧ Done A o S H (Ut11.step g .pieces) Q
def sp_tpackage (A : Ad) : Sp := fun vs H Q _ => ∃ (o : Addr) (S : Addr → Prop) (g : House) (p : Nat), vs = [.ref o, .int (p : Nat)] ∧ Pre A H o S g ∧ Done A o S H (Ut11.step g (.package p)) Q
def sp_tout (A : Ad) : Sp := fun vs H Q _ => ∃ (o : Addr) (S : Addr → Prop) (g : House) (i : Nat), vs = [.ref o, .int (i : Nat)] ∧ Pre A H o S g ∧ Done A o S H (Ut11.step g (.out i)) Q

section
variable {P : Program} {w : World} {K : PySem.W.Frag} {mg : Str → Option Value} {base : Heap} {A : Ad} {wn : Addr}

theorem ok_find {f : Addr} {fd : FuncData} (F : Fun K "find_opened" "Office.find_opened" s_Office_find_opened f fd) (T : Txt K mg A wn) : FnOk P w K mg base CX0 1 f fd ["self", "package", "name"] (sp_find A) := by
  refine F.ok sc_Office_find_opened (fun vs H Q E h => ?_) (fun cdv A' outer s H vs Q E hr h => ?_)
  · obtain ⟨o, L, p, i, rfl, _⟩ := h
    rfl
  · obtain ⟨o, L, p, i, rfl, hA, k⟩ := h
    refine ⟨_, (pss_cons (ps_for PassesOwn.never rfl (pi_list (pe_fld (pv 0) rfl)) (pg_name (i := 3) sc_Office_find_opened.nd rfl (Or.inl rfl))
      (pss_one (ps_if (PW.pt (pw_and (pt_cmpR op_eq (pe_fld (pv 3) rfl) (pv 1) (nomark _)) (pw_and1 (pt_cmpR op_eq (pe_fld (pv 3) rfl) (pv 2) (nomark _))))) (pss_one (ps_ret (pv 3))) pss_nil)))
      (pss_one (ps_ret pe_non))), ?_⟩
    refine ⟨_, rfl, o, A.of, L.dx, _, _, rfl, hA.hO, T.k_Office, T.n_Office_opened, fF_opened _ _ _, L.lo, rfl, ⟨_, SqL.of hA.hL⟩, for_list (K := K) (a := L.lo) (xs := L.os.map fun x => V.ref x.1)
      (fun j σ H' => ∃ v : Option V, σ = [some (.ref o), some (.int (p : Nat)), some (.int (i : Nat)), v] ∧ H' = H ∧ ∀ y ∈ L.os.take j, isO p i y = false)
      ⟨none, rfl, rfl, fun y hy => by simp at hy⟩ (fun j σ H' _ ⟨_, _, e, _⟩ => by rw [e]; exact SqL.of hA.hL) ?_ ?_⟩
    · rintro j v σ H1 hj ⟨v3, rfl, rfl, hn⟩
      obtain ⟨x, hxj, rfl⟩ : ∃ x, L.os[j]? = some x ∧ v = V.ref x.1 := by
        rw [List.getElem?_map] at hj
        obtain ⟨x, h1, h2⟩ := Option.map_eq_some_iff.mp hj
        exact ⟨x, h1, h2.symm⟩
      obtain ⟨dx, e⟩ := hA.os x (List.mem_of_getElem? hxj)
      have next : isO p i x = false → ∀ y ∈ L.os.take (j + 1), isO p i y = false := fun hf y hy => by
        rw [List.take_add_one, hxj] at hy
        rcases List.mem_append.mp hy with m | m
        · exact hn y m
        · have e := List.mem_singleton.mp m
          rw [e]; exact hf
      refine ⟨_, rfl, x.1, A.op, dx, _, _, rfl, e, T.k_Opened, T.n_Opened_package, oF_package _, _, rfl, rfl, _, rfl, ?_⟩
      rw [dec_nn]
      by_cases c1 : x.2.package = p
      · refine if_t (decide_eq_true c1) ?_
        refine ⟨_, rfl, x.1, A.op, dx, _, _, rfl, e, T.k_Opened, T.n_Opened_name, oF_name _, _, rfl, rfl, _, rfl, ?_⟩
        rw [dec_nn]
        by_cases c2 : x.2.id = i
        · refine if_t (decide_eq_true c2) ⟨_, rfl, ?_⟩
          have := find_here (f := isO p i) hxj (by simp [isO, c1, c2]) hn
          rw [this] at k
          exact k
        · exact if_f (decide_eq_false c2) ⟨_, rfl, rfl, next (by simp [isO, c2])⟩
      · exact if_f (decide_eq_false c1) (if_f rfl ⟨_, rfl, rfl, next (by simp [isO, c1])⟩)
    · rintro σ H1 ⟨v3, rfl, rfl, hn⟩
      have : L.os.find? (isO p i) = none := List.find?_eq_none.mpr fun y hy => by
        rw [List.length_map, List.take_length] at hn
        rw [hn y hy]
        exact Bool.false_ne_true
      rw [this] at k
      exact k

theorem ok_off {f : Addr} {fd : FuncData} (F : Fun K "give_up" "Office.give_up" s_Office_give_up f fd) (T : Txt K mg A wn) : FnOk P w K mg base CX0 1 f fd ["self", "package"] (sp_off A) := by
  refine F.ok sc_Office_give_up (fun vs H Q E h => ?_) (fun cdv A' outer s H vs Q E hr h => ?_)
  · obtain ⟨o, S, g, p, rfl, _⟩ := h
    rfl
  · obtain ⟨o, S, g, p, rfl, ⟨⟨L, hA, hg, hS⟩, good, hop, trk⟩, k⟩ := h
    have hO : Office A H o S g := ⟨L, hA, hg, hS⟩
    refine ⟨_, (pss_cons (ps_if (pt_cmpR op_ge (pv 1) (pe_callB call_len_seq (by rfl) T.b_len PySem.boot_len (pa_cons (pe_fld (pv 0) rfl) pa_nil)) (nomark _)) (pss_one (ps_ret (pe_lst (pa_cons (pe_gi (by rfl) T.c_REFUSED_NO_SUCH) pa_nil)))) pss_nil)
      (pss_cons (ps_set (i := 2) sc_Office_give_up.nd rfl (Or.inl rfl) (pe_ix ix_list (pe_fld (pv 0) rfl) (pv 1) (fun _ _ => rfl)))
      (pss_cons (ps_if (pt_val (pe_fld (pv 2) rfl)) (pss_one (ps_ret (pe_lst (pa_cons (pe_gi (by rfl) T.c_REFUSED_NO_MORE) pa_nil)))) pss_nil)
      (pss_cons (ps_fld (pv 2) pe_bl rfl)
      (pss_one (ps_ret (pe_lst (pa_cons (pe_callB call_len_seq (by rfl) T.b_len PySem.boot_len (pa_cons (pe_lc (own := [("one", 3)]) (g := (gName 3)) (tt := (tNot (tB (tFld K (tVar 3) "given_up")))) (te := (tVar 3)) rfl sc_Office_give_up.nd (pi_list (pe_fld (pv 0) rfl)) (blkOk_by (own := [("one", 3)]) (N := N_Office_give_up) (sc := defScope s_Office_give_up) (by decide +kernel)) (fun _ _ _ _ _ => pg_name (i := 3) sc_Office_give_up.nd rfl (Or.inl rfl)) (fun _ _ _ _ _ => pts_one (pt_not (pt_val (pe_fld (pv 3) rfl)))) (fun _ _ _ _ _ => (pv 3))) pa_nil)) pa_nil)))))))), ?_⟩
    refine ⟨_, rfl, _, rfl, o, A.of, L.dx, _, _, rfl, hA.hO, T.k_Office, T.n_Office_packages, fF_packages _ _ _, L.lp, _, rfl, .inl (SqL.of hA.hK), _, _, rfl, rfl, _, rfl, ?_⟩
    rw [List.length_map, dec_le]
    have epk : ∀ i : Nat, g.packages[i]? = (L.ks[i]?).map KA.pkg := fun i => by
      rw [← hg]
      show (L.ks.map KA.pkg)[i]? = _
      rw [List.getElem?_map]
    by_cases c3 : L.ks.length ≤ p
    · refine if_t (decide_eq_true c3) ⟨by show 1 ≤ sizeLine; decide, fun p' hp => ?_⟩
      have e : Ut11.step g (.off p) = (g, [-2]) := by
        simp only [Ut11.step]
        rw [packageOf_get good, epk, List.getElem?_eq_none c3]
        rfl
      rw [e] at k
      exact k.no hO trk hp
    refine if_f (decide_eq_false c3) ?_
    obtain ⟨ka, hka⟩ : ∃ ka, L.ks[p]? = some ka := ⟨L.ks[p], List.getElem?_eq_getElem (by omega)⟩
    have hkm : ka ∈ L.ks := List.mem_of_getElem? hka
    have hgp : g.packages[p]? = some ka.pkg := by rw [epk, hka]; rfl
    have hnum : ka.number = p := good.num p ka.pkg hgp
    obtain ⟨dk, hk⟩ := hA.ks ka hkm
    -- asked = self.packages[package]
    refine ⟨_, rfl, o, A.of, L.dx, _, _, rfl, hA.hO, T.k_Office, T.n_Office_packages, fF_packages _ _ _, _, rfl, L.lp, _, _, .ref ka.a, rfl, rfl, SqL.of hA.hK, atI_nat (by rw [List.getElem?_map, hka]; rfl), ?_⟩
    -- if asked.given_up
    refine ⟨_, rfl, ka.a, A.pk, dk, _, _, rfl, hk, T.k_Package, T.n_Package_given_up, kF_off _ _, _, rfl, ?_⟩
    cases hofk : ka.off with
    | true =>
      refine if_t rfl ⟨by show 1 ≤ sizeLine; decide, fun p' hp => ?_⟩
      have e : Ut11.step g (.off p) = (g, [-6]) := by
        simp only [Ut11.step]
        rw [packageOf_get good, hgp]
        simp only
        rw [if_pos (show ka.pkg.off = true from hofk)]
      rw [e] at k
      exact k.no hO trk hp
    | false =>
    refine if_f rfl ?_
    have es : Ut11.step g (.off p) = ({ g with packages := g.packages.map fun x => if x.number = p then { x with off := true } else x }, Ut11.ints [((g.packages.map fun x => if x.number = p then { x with off := true } else x).filter fun x => !x.off).length]) := by
      simp only [Ut11.step]
      rw [packageOf_get good, hgp]
      simp only
      rw [if_neg (show ¬ ka.pkg.off = true from fun z => by rw [show ka.pkg.off = ka.off from rfl, hofk] at z; cases z)]
    rw [es] at k
    -- asked.given_up = True
    refine ⟨_, rfl, ka.a, A.pk, dk, _, rfl, hk, T.k_Package, T.n_Package_given_up, (by show 2 < 1000; decide), ?_⟩
    rw [kF_put]
    have hB := hA.giveUp (dx := dk) hkm
    have kpB : Keeps S H (upd H ka.a (.ins A.pk dk (kF ka.d true))) := Keeps.out (hS _ (.k hkm))
    have frB : ∀ b, upd H ka.a (.ins A.pk dk (kF ka.d true)) b = none → H b = none := fun b e => fresh_upd e
    have hhB : ({ L with ks := setOff L.ks ka.a } : Lay).house = { g with packages := g.packages.map fun x => if x.number = p then { x with off := true } else x } := by
      rw [house_off hA hkm (fun k' hk' e => num_inj (by rw [hg]; exact good) hkm hk' e), hnum, hg]
    have hSB : ∀ b, Foot o { L with ks := setOff L.ks ka.a } b → ¬ S b := fun b fb => hS b (foot_off fb)
    generalize upd H ka.a (.ins A.pk dk (kF ka.d true)) = H1 at hB kpB frB
    have len : (setOff L.ks ka.a).length ≤ 10 := by
      have := good.kn
      rw [← hg] at this
      simpa [Lay.house, setOff] using this
    have trk1 : Trk S H1 := trk.keeps kpB
    -- return [len([one for one in self.packages if not one.given_up])]
    refine ⟨_, rfl, o, A.of, L.dx, _, _, rfl, hB.hO, T.k_Office, T.n_Office_packages, fF_packages _ _ _, L.lp, rfl, ⟨_, SqL.of hB.hK⟩, fun D hD => ?_⟩
    refine lc_ex (l := setOff L.ks ka.a) (v := fun k => V.ref k.a) walk_list (fun k => !k.off) (fun k => V.ref k.a) (fun m => (same_new hD).seq (SqL.of hB.hK)) (fun x hx m R r => ?_) (fun x hx c m R r => ⟨_, rfl, r⟩) (Nat.lt_of_le_of_lt len (by decide)) ?_
    · obtain ⟨d, e⟩ := hB.ks x hx
      have e' := same_new (u := .lst m) hD _ _ e
      exact ⟨_, rfl, x.a, A.pk, d, _, _, rfl, e', T.k_Package, T.n_Package_given_up, kF_off _ _, _, rfl, r⟩
    · refine ⟨D, _, rfl, .inl (SqL.of upd_same), by show 1 ≤ sizeLine; decide, fun p' hp => ?_⟩
      refine k _ p' ⟨_, (hB.fresh hD).fresh hp, hhB, hSB⟩ (kpB.trans ((Keeps.new trk1 hD).trans (Keeps.new (trk1.keeps (Keeps.new trk1 hD)) hp))) (frB p' (fresh_upd hp)) ?_
      have e9 : (g.packages.map fun x => if x.number = p then { x with off := true } else x) = (setOff L.ks ka.a).map KA.pkg := by
        have := congrArg House.packages hhB
        exact this.symm
      rw [upd_same, e9, List.filter_map, List.length_map, List.length_map]
      rfl

theorem ok_choose {f : Addr} {fd : FuncData} (F : Fun K "choose" "Office.choose" s_Office_choose f fd) (T : Txt K mg A wn)
    (M_Office_find_opened : MtG P w K mg base A.of "find_opened" 1 ["self", "package", "name"] (sp_find A))
    (M_Office_close_opened : MtG P w K mg base A.of "close_opened" 1 ["self", "package", "name"] (sp_close A))
    (M_Office_how_it_stands : MtG P w K mg base A.of "how_it_stands" 1 ["self"] (sp_Office_how A)) :
    FnOk P w K mg base CX0 2 f fd ["self", "name", "package", "choice"] (sp_choose A) := by
  refine F.ok sc_Office_choose (fun vs H Q E h => ?_) (fun cdv A' outer s H vs Q E hr h => ?_)
  · obtain ⟨o, S, g, i, p, t, rfl, _⟩ := h
    rfl
  · obtain ⟨o, S, g, i, p, t, rfl, ⟨⟨L, hA, hg, hS⟩, good, hop, trk⟩, k⟩ := h
    subst hg
    have hO : Office A H o S L.house := ⟨L, hA, rfl, hS⟩
    refine ⟨_, (pss_cons (ps_set (i := 4) sc_Office_choose.nd rfl (Or.inl rfl) (pe_mt M_Office_find_opened (hr.mono (by decide)) (pv 0) (pa_cons (pv 2) (pa_cons (pv 1) pa_nil))))
      (pss_cons (ps_if (pt_cmpR op_isN (pv 4) pe_non (nomark _)) (pss_one (ps_ret (pe_lst (pa_cons (pe_gi (by rfl) T.c_REFUSED_NO_SUCH) pa_nil)))) pss_nil)
      (pss_cons (ps_if (PW.pt (pw_and (pt_cmpR op_eq (pv 3) (pe_gi (by rfl) T.c_THEIRS_CHOSEN) (nomark _)) (pw_and1 (pt_cmp (pc_dnotin (hu_of hr) (pv 1) (pe_fld (pv 0) rfl)))))) (pss_one (ps_ret (pe_lst (pa_cons (pe_gi (by rfl) T.c_REFUSED_NO_MORE) pa_nil)))) pss_nil)
      (pss_cons (ps_expr (pe_mt M_Office_close_opened (hr.mono (by decide)) (pv 0) (pa_cons (pv 2) (pa_cons (pv 1) pa_nil))))
      (pss_cons (ps_if (pt_cmpR op_eq (pv 3) (pe_gi (by rfl) T.c_THEIRS_CHOSEN) (nomark _)) (pss_cons (ps_set (i := 5) sc_Office_choose.nd rfl (Or.inl rfl) (pe_dget (hu_of hr) (pe_fld (pv 0) rfl) (pv 1) (fun _ _ => rfl)))
      (pss_one (ps_fld (pv 5) (pe_fld (pv 4) rfl) rfl))) pss_nil)
      (pss_one (ps_ret (pe_mt0 M_Office_how_it_stands (hr.mono (by decide)) (pv 0))))))))), ?_⟩
    -- chosen = self.find_opened(package, name)
    refine ⟨_, rfl, o, L.dx, _, rfl, hA.hO, fF_no _ _ _ (by decide +kernel) (by decide +kernel) (by decide +kernel), _, rfl, _, rfl, o, L, p, i, rfl, hA, ?_⟩
    have ef := find_open L p i
    cases e : L.os.find? (isO p i) with
    | none =>
      refine ⟨_, rfl, rfl, _, rfl, if_t (decide_eq_true rfl) ⟨by show 1 ≤ sizeLine; decide, fun p' hp => ?_⟩⟩
      have es : Ut11.step L.house (.choose i p t) = (L.house, [-2]) := by
        simp only [Ut11.step]
        rw [ef, e]
        rfl
      rw [es] at k
      exact k.no hO trk hp
    | some y =>
    obtain ⟨oa, ox⟩ := y
    rw [e] at ef
    have hom : (oa, ox) ∈ L.os := List.mem_of_find?_eq_some e
    obtain ⟨dO, hoo⟩ := hA.os _ hom
    have hoo : H oa = some (.ins A.op dO (oF ox)) := hoo
    refine ⟨_, rfl, rfl, _, rfl, if_f (decide_eq_false fun e => nomatch e) ?_⟩
    have hlos : L.os.length ≤ 2000 := by
      have : (L.os.map (·.2)).length ≤ 1000 := hop
      rw [List.length_map] at this
      omega
    have ep : Ut11.pieceOf L.house.pieces i = (look L.ps i).map (·.2) := pieceOf_look L i
    have hgo := step_good good (.choose i p t)
    have hso := step_open L.house (.choose i p t)
    cases t with
    | false =>
      have es : Ut11.step L.house (.choose i p false) = ({ L.house with open_ := Ut11.closed L.house.open_ i p }, Ut11.told { L.house with open_ := Ut11.closed L.house.open_ i p }) := by
        simp only [Ut11.step]
        rw [ef]
        simp only [Option.map_some]
        cases Ut11.pieceOf L.house.pieces i with
        | none => rfl
        | some _ => rfl
      rw [es] at k hgo hso
      -- if choice == 1 and ..
      refine ⟨_, rfl, rfl, _, rfl, if_f rfl (if_f rfl ?_)⟩
      -- self.close_opened(package, name)
      refine ⟨_, rfl, o, L.dx, _, rfl, hA.hO, fF_no _ _ _ (by decide +kernel) (by decide +kernel) (by decide +kernel), _, rfl, _, rfl, o, L, p, i, rfl, hA, hlos, fun D hD => ?_⟩
      have hC := hA.close p i hD
      have hSc : ∀ b, Foot o { L with lo := D, os := L.os.filter (keepO p i) } b → ¬ S b := fun b fb => by
        rcases foot_close fb with z | z
        · exact hS b z
        · intro e
          exact trk b e (by rw [z]; exact hD)
      have kpc : Keeps S H (upd (upd H D (.lst ((L.os.filter (keepO p i)).map fun x => V.ref x.1))) o (.ins A.of L.dx (fF L.dp L.lp D))) := (Keeps.new trk hD).trans (Keeps.out (hS _ .o))
      refine ⟨_, rfl, rfl, _, rfl, if_f rfl ?_⟩
      exact ⟨_, rfl, o, L.dx, _, rfl, hC.hO, fF_no _ _ _ (by decide +kernel) (by decide +kernel) (by decide +kernel), o, S, _, rfl, ⟨_, hC, house_close L p i D, hSc⟩, hgo, Nat.le_trans hso (by omega), trk.keeps kpc, k.how kpc fun b e => fresh_upd (fresh_upd e)⟩
    | true =>
      refine ⟨_, rfl, rfl, _, rfl, if_t rfl ?_⟩
      refine ⟨_, rfl, _, rfl, o, A.of, L.dx, _, _, rfl, hA.hO, T.k_Office, T.n_Office_pieces, fF_pieces _ _ _, L.dp, _, rfl, DGet.k (k := Sum.inl ((i : Nat) : Int)) hA.hP, _, rfl, ?_⟩
      rw [val_kvP]
      cases el : look L.ps i with
      | none =>
        refine if_t rfl ⟨by show 1 ≤ sizeLine; decide, fun p' hp => ?_⟩
        have es : Ut11.step L.house (.choose i p true) = (L.house, [-6]) := by
          simp only [Ut11.step]
          rw [ef]
          simp only [Option.map_some]
          rw [ep, el]
          rfl
        rw [es] at k
        exact k.no hO trk hp
      | some y =>
        obtain ⟨pa, y⟩ := y
        obtain ⟨hym, hyi⟩ := look_some el
        have hyi : y.id = i := hyi
        refine if_f rfl ?_
        have es : Ut11.step L.house (.choose i p true) = ({ L.house with open_ := Ut11.closed L.house.open_ i p, pieces := L.house.pieces.map (fun x => if x.id = i then { x with trans := ox.theirs } else x) }, Ut11.told { L.house with open_ := Ut11.closed L.house.open_ i p, pieces := L.house.pieces.map (fun x => if x.id = i then { x with trans := ox.theirs } else x) }) := by
          simp only [Ut11.step]
          rw [ef]
          simp only [Option.map_some]
          rw [ep, el]
          rfl
        rw [es] at k hgo hso
        refine ⟨_, rfl, o, L.dx, _, rfl, hA.hO, fF_no _ _ _ (by decide +kernel) (by decide +kernel) (by decide +kernel), _, rfl, _, rfl, o, L, p, i, rfl, hA, hlos, fun D hD => ?_⟩
        have hC := hA.close p i hD
        have hSc : ∀ b, Foot o { L with lo := D, os := L.os.filter (keepO p i) } b → ¬ S b := fun b fb => by
          rcases foot_close fb with z | z
          · exact hS b z
          · intro e
            exact trk b e (by rw [z]; exact hD)
        have kpc : Keeps S H (upd (upd H D (.lst ((L.os.filter (keepO p i)).map fun x => V.ref x.1))) o (.ins A.of L.dx (fF L.dp L.lp D))) := (Keeps.new trk hD).trans (Keeps.out (hS _ .o))
        have frC : ∀ b, upd (upd H D (.lst ((L.os.filter (keepO p i)).map fun x => V.ref x.1))) o (.ins A.of L.dx (fF L.dp L.lp D)) b = none → H b = none := fun b e => fresh_upd (fresh_upd e)
        have hoC : upd (upd H D (.lst ((L.os.filter (keepO p i)).map fun x => V.ref x.1))) o (.ins A.of L.dx (fF L.dp L.lp D)) oa = some (.ins A.op dO (oF ox)) := by
          rw [upd_ne (ne_of hoo hA.hO oF_ne_fF), upd_ne (ne_of_none hoo hD)]
          exact hoo
        have hhC := house_close L p i D
        generalize upd (upd H D (.lst ((L.os.filter (keepO p i)).map fun x => V.ref x.1))) o (.ins A.of L.dx (fF L.dp L.lp D)) = H2 at hC kpc frC hoC
        generalize hL2 : ({ L with lo := D, os := L.os.filter (keepO p i) } : Lay) = L2 at hC hSc hhC
        have eps2 : L2.ps = L.ps := by rw [← hL2]
        have hym2 : (pa, y) ∈ L2.ps := by rw [eps2]; exact hym
        obtain ⟨dy, hy⟩ := hC.ps _ hym2
        have hy : H2 pa = some (.ins A.pc dy (pF y)) := hy
        refine ⟨_, rfl, rfl, _, rfl, if_t rfl ?_⟩
        -- piece = self.pieces[name]
        refine ⟨_, rfl, o, A.of, L2.dx, _, _, rfl, hC.hO, T.k_Office, T.n_Office_pieces, fF_pieces _ _ _, _, rfl, L2.dp, .ref pa, rfl, (by have := DGet.k (k := Sum.inl ((i : Nat) : Int)) hC.hP; rw [val_kvP, eps2, el] at this; exact this), ?_⟩
        -- piece.translation = chosen.theirs
        refine ⟨_, rfl, oa, A.op, dO, _, _, rfl, hoC, T.k_Opened, T.n_Opened_theirs, oF_theirs _, _, rfl, pa, A.pc, dy, _, rfl, hy, T.k_Piece, T.n_Piece_translation, (by show 2 < 1000; decide), ?_⟩
        rw [pF_put_tr]
        have hE := hC.piece (dx := dy) (p' := { y with trans := ox.theirs }) hym2 rfl
        have kpe : Keeps S H (upd H2 pa (.ins A.pc dy (pF { y with trans := ox.theirs }))) := kpc.trans (Keeps.out (hSc _ (Foot.p (x := (pa, y)) hym2)))
        refine ⟨_, rfl, o, L2.dx, _, rfl, hE.hO, fF_no _ _ _ (by decide +kernel) (by decide +kernel) (by decide +kernel), o, S, _, rfl, ⟨_, hE, ?_, fun b fb => hSc b (foot_piece hym2 fb)⟩, hgo, Nat.le_trans hso (by omega), trk.keeps kpe, k.how kpe fun b e => frC b (fresh_upd e)⟩
        have hpd : (L2.house.pieces.map (·.id)).Nodup := by rw [hhC]; exact good.pd
        rw [house_piece L2 (fun x => if x.id = i then { x with trans := ox.theirs } else x) hC.pa hpd hym2 (by rw [if_pos hyi]) (fun x _ hx => by rw [if_neg fun z => hx (z.trans hyi.symm)]), hhC]
end
end Cb

set_option Elab.async false
set_option linter.all false
set_option maxRecDepth 100000
set_option maxHeartbeats 2000000
namespace Cb
open PySem PySem.Spec PyProof.Rows L2
open Ut11 (House Piece Item Package)

/-! ### what is told -/
theorem pv_get (l : List (Addr × Piece)) (i : Nat) : (valV (kvP l) (Sum.inl ((i : Nat) : Int))).getD .non = pV (look l i) := by
  rw [val_kvP]
  cases look l i <;> rfl
/-- with no base that could be theirs, nor ours -/
theorem fate_beside {x : Option Piece} {i tx t : Nat} (ht : t ≤ 999) (hx : ∀ y, x = some y → y.trans ≤ 999) : Ut11.fate x ⟨i, tx, 1000⟩ t = beside x tx t := by
  unfold Ut11.fate beside
  rw [if_neg (by show ¬ t = 1000; omega)]
  cases x with
  | none => rfl
  | some y =>
    have := hx y rfl
    simp only
    rw [if_neg (c := y.trans = 1000) (by omega)]
/-- a list grows by its items' numbers -/
theorem flat_len_le {α : Type} (f : α → List Nat) (n : Nat) (hf : ∀ x, (f x).length = n) : ∀ l : List α, (l.flatMap f).length = n * l.length
  | [] => by simp
  | x :: r => by
    rw [List.flatMap_cons, List.length_append, hf x, flat_len_le f n hf r, List.length_cons, Nat.mul_add, Nat.mul_one, Nat.add_comm]
theorem flat_take {α : Type} (f : α → List Nat) {l : List α} {j : Nat} {x : α} (h : l[j]? = some x) : (l.take (j + 1)).flatMap f = (l.take j).flatMap f ++ f x := by
  rw [List.take_add_one, h, List.flatMap_append]
  simp
theorem nV_append (a b : List Nat) : nV (a ++ b) = nV a ++ nV b := by simp [nV]
theorem ints_nV (l : List Nat) : (Ut11.ints l).map V.int = nV l := by simp [Ut11.ints, nV]
theorem done_told {A : Ad} {o : Addr} {S : Addr → Prop} {H H' : Hp} {g : House} {l : List Nat} {tl : Addr} {Q : VK} {L : Lay} (k : Done A o S H (g, Ut11.ints l) Q) (hA : At A H o L) (hg : L.house = g) (hS : ∀ b, Foot o L b → ¬ S b) (trk : Trk S H) (s : Same H H') (htl : H tl = none) (h : H' tl = some (.lst (nV l))) : Q (.ref tl) H' :=
  k H' tl ⟨L, hA.same s, hg, hS⟩ (Keeps.same trk s) htl (by rw [h, ints_nV])

section
variable {P : Program} {w : World} {K : PySem.W.Frag} {mg : Str → Option Value} {base : Heap} {A : Ad} {wn : Addr}

theorem ok_topen {f : Addr} {fd : FuncData} (F : Fun K "tell_opened" "Office.tell_opened" s_Office_tell_opened f fd) (T : Txt K mg A wn)
    (G_beside_ours : FnG P w K mg base "beside_ours" 1 ["piece", "text", "theirs"] (sp_beside A)) :
    FnOk P w K mg base CX0 2 f fd ["self"] (sp_topen A) := by
  refine F.ok sc_Office_tell_opened (fun vs H Q E h => ?_) (fun cdv A' outer s H vs Q E hr h => ?_)
  · obtain ⟨o, S, g, rfl, _⟩ := h
    rfl
  · obtain ⟨o, S, g, rfl, ⟨⟨L, hA, hg, hS⟩, good, hop, trk⟩, k⟩ := h
    subst hg
    refine ⟨_, (pss_cons (ps_set (i := 1) sc_Office_tell_opened.nd rfl (Or.inl rfl) (pe_lst (pa_cons (pe_callB call_len_seq (by rfl) T.b_len PySem.boot_len (pa_cons (pe_fld (pv 0) rfl) pa_nil)) pa_nil)))
      (pss_cons (ps_for PassesOwn.never rfl (pi_list (pe_fld (pv 0) rfl)) (pg_name (i := 2) sc_Office_tell_opened.nd rfl (Or.inl rfl))
      (pss_cons (ps_set (i := 3) sc_Office_tell_opened.nd rfl (Or.inl rfl) (pe_fn G_beside_ours (hr.mono (by decide)) (by rfl) (pa_cons (pe_dget1 (hu_of hr) (pe_fld (pv 0) rfl) (pe_fld (pv 2) rfl) ⟨rfl, rfl, rfl, rfl⟩) (pa_cons (pe_fld (pv 2) rfl) (pa_cons (pe_fld (pv 2) rfl) pa_nil)))))
      (pss_one (ps_expr (pe_bm PySem.F.plainAttrs_list PySem.F.slot_list_extend PySem.F.type_list_extend mt_extend (pv 1) (pa_cons (pe_lst (pa_cons (pe_fld (pv 2) rfl) (pa_cons (pe_fld (pv 2) rfl) (pa_cons (pe_fld (pv 2) rfl) (pa_cons (pe_fld (pv 2) rfl) (pa_cons (pv 3) pa_nil)))))) pa_nil))))))
      (pss_one (ps_ret (pv 1))))), ?_⟩
    -- told = [len(self.opened)]
    refine ⟨_, rfl, o, A.of, L.dx, _, _, rfl, hA.hO, T.k_Office, T.n_Office_opened, fF_opened _ _ _, L.lo, _, rfl, .inl (SqL.of hA.hL), by show 1 ≤ sizeLine; decide, fun tl htl => ?_⟩
    let fO : Addr × Ut11.Open → List Nat := fun x => [x.2.id, x.2.package, x.2.text, x.2.theirs, beside ((look L.ps x.2.id).map (·.2)) x.2.text x.2.theirs]
    have efl : ∀ l : List (Addr × Ut11.Open), (l.flatMap fO).length = 5 * l.length := flat_len_le fO 5 fun _ => rfl
    have hlos : L.os.length ≤ 1000 := by
      have : (L.os.map (·.2)).length ≤ 1000 := hop
      rwa [List.length_map] at this
    have hA1 := hA.fresh (u := .lst [V.int (((L.os.map fun x => V.ref x.1).length : Nat) : Int)]) htl
    refine ⟨_, rfl, o, A.of, L.dx, _, _, rfl, hA1.hO, T.k_Office, T.n_Office_opened, fF_opened _ _ _, L.lo, rfl, ⟨_, SqL.of hA1.hL⟩, for_list (K := K) (a := L.lo) (xs := L.os.map fun x => V.ref x.1)
      (fun j σ H' => ∃ v2 v3 : Option V, σ = [some (.ref o), some (.ref tl), v2, v3] ∧ Same H H' ∧ H' tl = some (.lst (nV (L.os.length :: (L.os.take j).flatMap fO))))
      ⟨none, none, rfl, same_new htl, by rw [upd_same]; simp [nV]⟩ (fun j σ H' _ ⟨_, _, _, s, _⟩ => s.seq (SqL.of hA.hL)) ?_ ?_⟩
    · rintro j v σ H1 hj ⟨v2, v3, rfl, s1, ht1⟩
      obtain ⟨x, hxj, rfl⟩ : ∃ x, L.os[j]? = some x ∧ v = V.ref x.1 := by
        rw [List.getElem?_map] at hj
        obtain ⟨x, h1, h2⟩ := Option.map_eq_some_iff.mp hj
        exact ⟨x, h1, h2.symm⟩
      have hB := hA.same s1
      obtain ⟨dx, e⟩ := hB.os x (List.mem_of_getElem? hxj)
      -- now = beside_ours(self.pieces.get(one.name), one.text, one.theirs)
      refine ⟨_, rfl, o, A.of, L.dx, _, _, rfl, hB.hO, T.k_Office, T.n_Office_pieces, fF_pieces _ _ _, L.dp, rfl, .inl ⟨_, .inl hB.hP⟩, _, rfl, x.1, A.op, dx, _, _, rfl, e, T.k_Opened, T.n_Opened_name, oF_name _, _, DGet.k (k := Sum.inl ((x.2.id : Nat) : Int)) hB.hP, ?_⟩
      rw [pv_get]
      refine ⟨_, rfl, x.1, A.op, dx, _, _, rfl, e, T.k_Opened, T.n_Opened_text, oF_text _, _, rfl, x.1, A.op, dx, _, _, rfl, e, T.k_Opened, T.n_Opened_theirs, oF_theirs _, look L.ps x.2.id, x.2.text, x.2.theirs, rfl, fun y q => hB.ps y (look_some q).1, ?_⟩
      -- told.extend([..])
      refine ⟨_, rfl, .inl ⟨rfl, _, SqL.of ht1⟩, _, rfl, x.1, A.op, dx, _, _, rfl, e, T.k_Opened, T.n_Opened_name, oF_name _, _, rfl, x.1, A.op, dx, _, _, rfl, e, T.k_Opened, T.n_Opened_package, oF_package _, _, rfl, x.1, A.op, dx, _, _, rfl, e, T.k_Opened, T.n_Opened_text, oF_text _, _, rfl, x.1, A.op, dx, _, _, rfl, e, T.k_Opened, T.n_Opened_theirs, oF_theirs _, _, rfl, by show 5 ≤ sizeLine; decide, fun b hb => ?_⟩
      have nbt : tl ≠ b := ne_of_none ht1 hb
      refine ⟨tl, b, _, _, rfl, rfl, by rw [upd_ne nbt]; exact ht1, upd_same, ?_, ?_⟩
      · have h1 := efl (L.os.take j)
        have h2 : (L.os.take j).length ≤ L.os.length := by simp; omega
        simp only [nV, List.length_map, List.length_cons, List.length_nil]
        exact Nat.le_trans (by omega : _ ≤ 10000) (by decide)
      · refine ⟨_, _, rfl, same_mut (s1.trans (same_new hb)) htl, ?_⟩
        rw [upd_same, flat_take fO hxj, ← List.cons_append, nV_append]
        rfl
    · rintro σ H1 ⟨v2, v3, rfl, s1, ht1⟩
      refine ⟨_, rfl, ?_⟩
      rw [List.length_map, List.take_length] at ht1
      refine done_told (l := L.os.length :: L.os.flatMap fO) ?_ hA rfl hS trk s1 htl ht1
      have e : Ut11.step L.house .open_ = (L.house, Ut11.ints (L.os.length :: L.os.flatMap fO)) := by
        simp only [Ut11.step]
        have e1 : L.house.open_ = L.os.map (·.2) := rfl
        rw [e1, List.length_map, List.flatMap_map]
        have e2 : (L.os.flatMap fun x => [x.2.id, x.2.package, x.2.text, x.2.theirs, Ut11.fate (Ut11.pieceOf L.house.pieces x.2.id) ⟨x.2.id, x.2.text, 1000⟩ x.2.theirs]) = L.os.flatMap fO := by
          rw [List.flatMap_def, List.flatMap_def]
          refine congrArg List.flatten (List.map_congr_left fun x hx => ?_)
          show _ = [x.2.id, x.2.package, x.2.text, x.2.theirs, beside ((look L.ps x.2.id).map (·.2)) x.2.text x.2.theirs]
          rw [pieceOf_look, fate_beside (good.ot x.2 (List.mem_map.mpr ⟨x, hx, rfl⟩)) fun y hy => ?_]
          obtain ⟨z, hz, rfl⟩ := Option.map_eq_some_iff.mp hy
          exact good.pt z.2 (List.mem_map.mpr ⟨z, (look_some hz).1, rfl⟩)
        rw [e2]
      rw [e] at k
      exact k

theorem ok_tpieces {f : Addr} {fd : FuncData} (F : Fun K "tell_pieces" "Office.tell_pieces" s_Office_tell_pieces f fd) (T : Txt K mg A wn) :
    FnOk P w K mg base CX0 1 f fd ["self"] (sp_tpieces A) := by
  refine F.ok sc_Office_tell_pieces (fun vs H Q E h => ?_) (fun cdv A' outer s H vs Q E hr h => ?_)
  · obtain ⟨o, S, g, rfl, _⟩ := h
    rfl
  · obtain ⟨o, S, g, rfl, ⟨⟨L, hA, hg, hS⟩, good, hop, trk⟩, k⟩ := h
    subst hg
    refine ⟨_, (pss_cons (ps_set (i := 1) sc_Office_tell_pieces.nd rfl (Or.inl rfl) (pe_lst (pa_cons (pe_callB call_lenD (by rfl) T.b_len PySem.boot_len (pa_cons (pe_fld (pv 0) rfl) pa_nil)) pa_nil)))
      (pss_cons (ps_lock (ps_for PassesOwn.never rfl (pi_items (pe_fld (pv 0) rfl)) (pg_tup rfl (pgs_cons (pg_name (i := 2) sc_Office_tell_pieces.nd rfl (Or.inl rfl)) (pgs_cons (pg_name (i := 3) sc_Office_tell_pieces.nd rfl (Or.inl rfl)) pgs_nil)))
      (pss_one (ps_expr (pe_bm PySem.F.plainAttrs_list PySem.F.slot_list_extend PySem.F.type_list_extend mt_extend (pv 1) (pa_cons (pe_lst (pa_cons (pv 2) (pa_cons (pe_fld (pv 3) rfl) (pa_cons (pe_fld (pv 3) rfl) pa_nil)))) pa_nil))))))
      (pss_one (ps_ret (pv 1))))), ?_⟩
    refine ⟨_, rfl, o, A.of, L.dx, _, _, rfl, hA.hO, T.k_Office, T.n_Office_pieces, fF_pieces _ _ _, L.dp, _, rfl, hA.hP, by show 1 ≤ sizeLine; decide, fun tl htl => ?_⟩
    let fP : Addr × Piece → List Nat := fun x => [x.2.id, x.2.text, x.2.trans]
    have efl : ∀ l : List (Addr × Piece), (l.flatMap fP).length = 3 * l.length := flat_len_le fP 3 fun _ => rfl
    have hlps : L.ps.length ≤ 12 := by
      have := good.pn
      simpa [Lay.house] using this
    have ekl : (kvP L.ps).length = L.ps.length := by simp [kvP]
    have ndt : L.dp ≠ tl := ne_of_none hA.hP htl
    have hA1 := hA.fresh (u := .lst [V.int (((kvP L.ps).length : Nat) : Int)]) htl
    -- for name, piece in self.pieces.items()
    refine ⟨L.dp, _, hA1.hP, trivial, fun od => ?_⟩
    have nOP : o ≠ L.dp := ne_of hA.hO hA.hP d_ne_i.symm
    have htf : upd H L.dp (.frz od (.dK (kvP L.ps))) tl = none := by rw [upd_ne ndt.symm]; exact htl
    have hcom : Same (upd H L.dp (.frz od (.dK (kvP L.ps)))) (upd (upd H tl (.lst [V.int (((kvP L.ps).length : Nat) : Int)])) L.dp (.frz od (.dK (kvP L.ps)))) := fun b u e => by
      by_cases c : b = L.dp
      · subst c
        rw [upd_same] at e ⊢
        exact e
      · rw [upd_ne c] at e ⊢
        rw [upd_ne (ne_of_none e htl)]
        exact e
    refine ⟨_, rfl, o, A.of, L.dx, _, _, rfl, Eq.trans (upd_ne nOP) hA1.hO, T.k_Office, T.n_Office_pieces, fF_pieces _ _ _, L.dp, od, _, rfl, upd_same, for_it walk_items
      (fun j σ H' => ∃ v2 v3 : Option V, σ = [some (.ref o), some (.ref tl), v2, v3] ∧ Same (upd H L.dp (.frz od (.dK (kvP L.ps)))) H' ∧ H' tl = some (.lst (nV (L.ps.length :: (L.ps.take j).flatMap fP))))
      ⟨none, none, rfl, hcom, by rw [upd_ne ndt.symm, upd_same, ekl]; simp [nV]⟩ (fun j σ H' _ ⟨_, _, _, s, _⟩ => s _ _ upd_same) ?_ ?_⟩
    · rintro j v σ H1 H2 hj ⟨v2, v3, rfl, s1, ht1⟩ ⟨Tt, a, b, rfl, hT, rfl, ea, eb⟩
      rw [ekl] at hj
      obtain ⟨x, hxj⟩ : ∃ x, L.ps[j]? = some x := ⟨L.ps[j], List.getElem?_eq_getElem hj⟩
      have ekj : (kvP L.ps)[j]? = some ((Sum.inl ((x.2.id : Nat) : Int) : Key), V.ref x.1) := by
        unfold kvP
        rw [List.getElem?_map, hxj]
        rfl
      have ea : ((kvP L.ps)[j]?.map fun kv => kV kv.1) = some a := ea
      have eb : (kvP L.ps)[j]?.map Prod.snd = some b := eb
      rw [ekj] at ea eb
      obtain rfl : V.int ((x.2.id : Nat) : Int) = a := Option.some.inj ea
      obtain rfl : V.ref x.1 = b := Option.some.inj eb
      have s2 : Same H1 (upd H1 Tt (.tup [V.int ((x.2.id : Nat) : Int), V.ref x.1])) := same_new hT
      have ht2 := s2 _ _ ht1
      obtain ⟨dx, e⟩ := hA.ps x (List.mem_of_getElem? hxj)
      have e2 := s2 _ _ (s1 _ _ (Eq.trans (upd_ne (ne_of e hA.hP d_ne_i.symm)) e))
      refine ⟨Tt, _, rfl, SqT.of upd_same, rfl, _, _, rfl, _, _, rfl, rfl, ?_⟩
      -- told.extend([..])
      refine ⟨_, rfl, .inl ⟨rfl, _, SqL.of ht2⟩, _, rfl, _, rfl, x.1, A.pc, dx, _, _, rfl, e2, T.k_Piece, T.n_Piece_text, pF_text _, _, rfl, x.1, A.pc, dx, _, _, rfl, e2, T.k_Piece, T.n_Piece_translation, pF_tr _, by show 3 ≤ sizeLine; decide, fun b hb => ?_⟩
      have nbt : tl ≠ b := ne_of_none ht2 hb
      refine ⟨tl, b, _, _, rfl, rfl, by rw [upd_ne nbt]; exact ht2, upd_same, ?_, ?_⟩
      · have h1 := efl (L.ps.take j)
        have h2 : (L.ps.take j).length ≤ L.ps.length := by simp; omega
        simp only [nV, List.length_map, List.length_cons, List.length_nil]
        exact Nat.le_trans (by omega : _ ≤ 10000) (by decide)
      · refine ⟨_, _, rfl, same_mut ((s1.trans s2).trans (same_new hb)) htf, ?_⟩
        rw [upd_same, flat_take fP hxj, ← List.cons_append, nV_append]
        rfl
    · rintro σ H1 ⟨v2, v3, rfl, s1, ht1⟩
      refine ⟨s1 _ _ upd_same, _, rfl, ?_⟩
      rw [ekl, List.take_length] at ht1
      refine done_told (l := L.ps.length :: L.ps.flatMap fP) ?_ hA rfl hS trk (same_frz s1 hA.hP) htl (by rw [upd_ne ndt.symm]; exact ht1)
      have e : Ut11.step L.house .pieces = (L.house, Ut11.ints (L.ps.length :: L.ps.flatMap fP)) := by
        simp only [Ut11.step]
        have e1 : L.house.pieces = L.ps.map (·.2) := rfl
        rw [e1, List.length_map, List.flatMap_map]
      rw [e] at k
      exact k

theorem ok_tpackage {f : Addr} {fd : FuncData} (F : Fun K "tell_package" "Office.tell_package" s_Office_tell_package f fd) (T : Txt K mg A wn) :
    FnOk P w K mg base CX0 1 f fd ["self", "package"] (sp_tpackage A) := by
  refine F.ok sc_Office_tell_package (fun vs H Q E h => ?_) (fun cdv A' outer s H vs Q E hr h => ?_)
  · obtain ⟨o, S, g, p, rfl, _⟩ := h
    rfl
  · obtain ⟨o, S, g, p, rfl, ⟨⟨L, hA, hg, hS⟩, good, hop, trk⟩, k⟩ := h
    subst hg
    refine ⟨_, (pss_cons (ps_if (pt_cmpR op_ge (pv 1) (pe_callB call_len_seq (by rfl) T.b_len PySem.boot_len (pa_cons (pe_fld (pv 0) rfl) pa_nil)) (nomark _)) (pss_one (ps_ret (pe_lst (pa_cons (pe_gi (by rfl) T.c_REFUSED_NO_SUCH) pa_nil)))) pss_nil)
      (pss_cons (ps_set (i := 2) sc_Office_tell_package.nd rfl (Or.inl rfl) (pe_ix ix_list (pe_fld (pv 0) rfl) (pv 1) (fun _ _ => rfl)))
      (pss_cons (ps_set (i := 3) sc_Office_tell_package.nd rfl (Or.inl rfl) (pe_lst (pa_cons (pe_ifExp (pt_val (pe_fld (pv 2) rfl)) pe_int pe_int) (pa_cons (pe_callB call_lenD (by rfl) T.b_len PySem.boot_len (pa_cons (pe_fld (pv 2) rfl) pa_nil)) pa_nil))))
      (pss_cons (ps_lock (ps_for PassesOwn.never rfl (pi_items (pe_fld (pv 2) rfl)) (pg_tup rfl (pgs_cons (pg_name (i := 4) sc_Office_tell_package.nd rfl (Or.inl rfl)) (pgs_cons (pg_name (i := 5) sc_Office_tell_package.nd rfl (Or.inl rfl)) pgs_nil)))
      (pss_one (ps_expr (pe_bm PySem.F.plainAttrs_list PySem.F.slot_list_extend PySem.F.type_list_extend mt_extend (pv 3) (pa_cons (pe_lst (pa_cons (pv 4) (pa_cons (pe_fld (pv 5) rfl) (pa_cons (pe_fld (pv 5) rfl) pa_nil)))) pa_nil))))))
      (pss_one (ps_ret (pv 3))))))), ?_⟩
    refine ⟨_, rfl, _, rfl, o, A.of, L.dx, _, _, rfl, hA.hO, T.k_Office, T.n_Office_packages, fF_packages _ _ _, L.lp, _, rfl, .inl (SqL.of hA.hK), _, _, rfl, rfl, _, rfl, ?_⟩
    rw [List.length_map, dec_le]
    have epk : ∀ i : Nat, L.house.packages[i]? = (L.ks[i]?).map KA.pkg := fun i => by
      show (L.ks.map KA.pkg)[i]? = _
      rw [List.getElem?_map]
    by_cases c3 : L.ks.length ≤ p
    · refine if_t (decide_eq_true c3) ⟨by show 1 ≤ sizeLine; decide, fun p' hp => ?_⟩
      have e : Ut11.step L.house (.package p) = (L.house, [-2]) := by
        simp only [Ut11.step]
        rw [packageOf_get good, epk, List.getElem?_eq_none c3]
        rfl
      rw [e] at k
      exact k.no ⟨L, hA, rfl, hS⟩ trk hp
    refine if_f (decide_eq_false c3) ?_
    obtain ⟨ka, hka⟩ : ∃ ka, L.ks[p]? = some ka := ⟨L.ks[p], List.getElem?_eq_getElem (by omega)⟩
    have hkm : ka ∈ L.ks := List.mem_of_getElem? hka
    have hgp : L.house.packages[p]? = some ka.pkg := by rw [epk, hka]; rfl
    obtain ⟨dk, hk⟩ := hA.ks ka hkm
    have hd := hA.ds ka hkm
    obtain ⟨nb, hnb⟩ : ∃ nb : Nat, nb = if ka.off = true then 1 else 0 := ⟨_, rfl⟩
    have es : Ut11.step L.house (.package p) = (L.house, Ut11.ints (nb :: ka.items.length :: ka.items.flatMap fun x => [x.2.id, x.2.text, x.2.base])) := by
      simp only [Ut11.step]
      rw [packageOf_get good, hgp]
      simp only
      have e1 : ka.pkg.items = ka.items.map (·.2) := rfl
      rw [e1, List.length_map, List.flatMap_map, hnb]
      rfl
    rw [es] at k
    -- asked = self.packages[package]
    refine ⟨_, rfl, o, A.of, L.dx, _, _, rfl, hA.hO, T.k_Office, T.n_Office_packages, fF_packages _ _ _, _, rfl, L.lp, _, _, .ref ka.a, rfl, rfl, SqL.of hA.hK, atI_nat (by rw [List.getElem?_map, hka]; rfl), ?_⟩
    let fI : Addr × Item → List Nat := fun x => [x.2.id, x.2.text, x.2.base]
    have efl : ∀ l : List (Addr × Item), (l.flatMap fI).length = 3 * l.length := flat_len_le fI 3 fun _ => rfl
    have hlit : ka.items.length ≤ 8 := by
      have := (good.itd ka.pkg (List.mem_map.mpr ⟨ka, hkm, rfl⟩)).2
      simpa [KA.pkg] using this
    have ekl : (kvI ka.items).length = ka.items.length := by simp [kvI]
    have nOd : ka.a ≠ ka.d := ne_of hk hd d_ne_i.symm
    -- told = [1 if asked.given_up else 0, len(asked.sent)]
    refine ⟨_, rfl, ka.a, A.pk, dk, _, _, rfl, hk, T.k_Package, T.n_Package_given_up, kF_off _ _, _, rfl, ?_⟩
    cases hofk : ka.off
    all_goals
      first | refine if_t rfl ?_ | refine if_f rfl ?_
      rw [hofk] at hk hnb
      refine ⟨_, rfl, ka.a, A.pk, dk, _, _, rfl, hk, T.k_Package, T.n_Package_sent, kF_sent _ _, ka.d, _, rfl, hd, by show 2 ≤ sizeLine; decide, fun tl htl => ?_⟩
      have ndt : ka.d ≠ tl := ne_of_none hd htl
      have sT := same_new (u := .lst (nV [nb, ka.items.length])) htl
      have eT : (HO.lst (nV [nb, ka.items.length])) = HO.lst [V.int (if ka.off = true then 1 else 0), V.int (((kvI ka.items).length : Nat) : Int)] := by
        rw [hofk, ekl, hnb]
        rfl
      rw [eT, hofk] at sT
      -- for name, sent in asked.sent.items()
      refine ⟨ka.d, _, sT _ _ hd, trivial, fun od => ?_⟩
      have htf : upd H ka.d (.frz od (.dK (kvI ka.items))) tl = none := by rw [upd_ne ndt.symm]; exact htl
      have hcom : ∀ u : HO, Same (upd H ka.d (.frz od (.dK (kvI ka.items)))) (upd (upd H tl u) ka.d (.frz od (.dK (kvI ka.items)))) := fun u b u' e => by
        by_cases c : b = ka.d
        · subst c
          rw [upd_same] at e ⊢
          exact e
        · rw [upd_ne c] at e ⊢
          rw [upd_ne (ne_of_none e htl)]
          exact e
      refine ⟨_, rfl, ka.a, A.pk, dk, _, _, rfl, Eq.trans (upd_ne nOd) (sT _ _ hk), T.k_Package, T.n_Package_sent, kF_sent _ _, ka.d, od, _, rfl, upd_same, for_it walk_items
        (fun j σ H' => ∃ v2 v3 : Option V, σ = [some (.ref o), some (.int (p : Nat)), some (.ref ka.a), some (.ref tl), v2, v3] ∧ Same (upd H ka.d (.frz od (.dK (kvI ka.items)))) H' ∧ H' tl = some (.lst (nV (nb :: ka.items.length :: (ka.items.take j).flatMap fI))))
        ⟨none, none, rfl, hcom _, by rw [upd_ne ndt.symm, upd_same, ekl, hnb]; simp [nV]⟩ (fun j σ H' _ ⟨_, _, _, s, _⟩ => s _ _ upd_same) ?_ ?_⟩
      · rintro j v σ H1 H2 hj ⟨v2, v3, rfl, s1, ht1⟩ ⟨Tt, a, b, rfl, hT, rfl, ea, eb⟩
        rw [ekl] at hj
        obtain ⟨x, hxj⟩ : ∃ x, ka.items[j]? = some x := ⟨ka.items[j], List.getElem?_eq_getElem hj⟩
        have ekj : (kvI ka.items)[j]? = some ((Sum.inl ((x.2.id : Nat) : Int) : Key), V.ref x.1) := by
          unfold kvI
          rw [List.getElem?_map, hxj]
          rfl
        have ea : ((kvI ka.items)[j]?.map fun kv => kV kv.1) = some a := ea
        have eb : (kvI ka.items)[j]?.map Prod.snd = some b := eb
        rw [ekj] at ea eb
        obtain rfl : V.int ((x.2.id : Nat) : Int) = a := Option.some.inj ea
        obtain rfl : V.ref x.1 = b := Option.some.inj eb
        have s2 : Same H1 (upd H1 Tt (.tup [V.int ((x.2.id : Nat) : Int), V.ref x.1])) := same_new hT
        have ht2 := s2 _ _ ht1
        obtain ⟨dx, e⟩ := hA.is ka hkm x (List.mem_of_getElem? hxj)
        have e2 := s2 _ _ (s1 _ _ (Eq.trans (upd_ne (ne_of e hd d_ne_i.symm)) e))
        refine ⟨Tt, _, rfl, SqT.of upd_same, rfl, _, _, rfl, _, _, rfl, rfl, ?_⟩
        -- told.extend([..])
        refine ⟨_, rfl, .inl ⟨rfl, _, SqL.of ht2⟩, _, rfl, _, rfl, x.1, A.st, dx, _, _, rfl, e2, T.k_Sent, T.n_Sent_text, iF_text _, _, rfl, x.1, A.st, dx, _, _, rfl, e2, T.k_Sent, T.n_Sent_base, iF_base _, by show 3 ≤ sizeLine; decide, fun b hb => ?_⟩
        have nbt : tl ≠ b := ne_of_none ht2 hb
        refine ⟨tl, b, _, _, rfl, rfl, by rw [upd_ne nbt]; exact ht2, upd_same, ?_, ?_⟩
        · have h1 := efl (ka.items.take j)
          have h2 : (ka.items.take j).length ≤ ka.items.length := by simp; omega
          simp only [nV, List.length_map, List.length_cons, List.length_nil]
          exact Nat.le_trans (by omega : _ ≤ 10000) (by decide)
        · refine ⟨_, _, rfl, same_mut ((s1.trans s2).trans (same_new hb)) htf, ?_⟩
          rw [upd_same, flat_take fI hxj, ← List.cons_append, ← List.cons_append, nV_append]
          rfl
      · rintro σ H1 ⟨v2, v3, rfl, s1, ht1⟩
        refine ⟨s1 _ _ upd_same, _, rfl, ?_⟩
        rw [ekl, List.take_length] at ht1
        exact done_told (l := nb :: ka.items.length :: ka.items.flatMap fI) k hA rfl hS trk (same_frz s1 hd) htl (by rw [upd_ne ndt.symm]; exact ht1)

theorem ok_tout {f : Addr} {fd : FuncData} (F : Fun K "tell_out" "Office.tell_out" s_Office_tell_out f fd) (T : Txt K mg A wn) :
    FnOk P w K mg base CX0 1 f fd ["self", "name"] (sp_tout A) := by
  refine F.ok sc_Office_tell_out (fun vs H Q E h => ?_) (fun cdv A' outer s H vs Q E hr h => ?_)
  · obtain ⟨o, S, g, i, rfl, _⟩ := h
    rfl
  · obtain ⟨o, S, g, i, rfl, ⟨⟨L, hA, hg, hS⟩, good, hop, trk⟩, k⟩ := h
    subst hg
    refine ⟨_, (pss_cons (ps_setLc (i := 2) (own := [("at", 3), ("one", 4)]) (g := (gTup K 2 (gCons (gName 3) (gCons (gName 4) gNil)))) (tt := (tAnd (tB (tDIn (tVar 1) (tFld K (tVar 4) "sent"))) (tNot (tB (tFld K (tVar 4) "given_up"))))) (te := (tVar 3)) rfl sc_Office_tell_out.nd rfl rfl (sw_true rfl rfl rfl (by decide +kernel)) (pi_enum (by rfl) T.b_enumerate (pa_cons (pe_fld (pv 0) rfl) pa_nil)) (blkOk_by (own := [("at", 3), ("one", 4)]) (N := N_Office_tell_out) (sc := defScope s_Office_tell_out) (by decide +kernel)) (fun _ _ _ _ _ => (pg_tup rfl (pgs_cons (pg_name (i := 3) sc_Office_tell_out.nd rfl (Or.inl rfl)) (pgs_cons (pg_name (i := 4) sc_Office_tell_out.nd rfl (Or.inl rfl)) pgs_nil)))) (fun _ _ _ _ _ => pts_one (PW.pt (pw_and (pt_cmp (pc_din (hu_of hr) (pv 1) (pe_fld (pv 4) rfl))) (pw_and1 (pt_not (pt_val (pe_fld (pv 4) rfl))))))) (fun _ _ _ _ _ => (pv 3)))
      (pss_one (ps_ret (pe_op op_cat (pe_lst (pa_cons (pe_callB call_len_seq (by rfl) T.b_len PySem.boot_len (pa_cons (pv 2) pa_nil)) pa_nil)) (pv 2))))), ?_⟩
    let keep : KA → Bool := fun k => (lookI k.items i).isSome && !k.off
    have len : L.ks.length ≤ 10 := by
      have := good.kn
      simpa [Lay.house] using this
    have es : Ut11.step L.house (.out i) = (L.house, Ut11.ints ((L.ks.filter keep).length :: (L.ks.filter keep).map (·.number))) := by
      simp only [Ut11.step]
      have e1 : L.house.packages = L.ks.map KA.pkg := rfl
      rw [e1, List.filter_map, List.length_map, List.map_map]
      have e2 : ((fun q : Package => !q.off && (Ut11.itemOf q i).isSome) ∘ KA.pkg) = keep := by
        funext q
        show (!q.off && (Ut11.itemOf q.pkg i).isSome) = ((lookI q.items i).isSome && !q.off)
        rw [itemOf_look, Bool.and_comm]
        simp
      rw [e2]
      rfl
    rw [es] at k
    -- numbers = [..]
    refine ⟨_, rfl, o, A.of, L.dx, _, _, rfl, hA.hO, T.k_Office, T.n_Office_packages, fF_packages _ _ _, L.lp, _, rfl, SqL.of hA.hK, fun D hD => ?_⟩
    refine lc_it (walk_enum (xs := L.ks.map fun k => V.ref k.a)) (fun j H' => Same H H' ∧ H' D = some (.lst (nV (((L.ks.take j).filter keep).map (·.number))))) ⟨same_new hD, by rw [upd_same]; simp [nV]⟩ (fun j H' _ ⟨s, _⟩ => s.seq (SqL.of hA.hK)) ?_ ?_
    · rintro j v H1 H2 hj ⟨s1, hD1⟩ ⟨Tt, a, b, rfl, hT, rfl, ea, eb⟩
      rw [List.length_map] at hj
      obtain ⟨q, hq⟩ : ∃ q, L.ks[j]? = some q := ⟨L.ks[j], List.getElem?_eq_getElem hj⟩
      have hqm : q ∈ L.ks := List.mem_of_getElem? hq
      have hnum : q.number = j := good.num j q.pkg (by show (L.ks.map KA.pkg)[j]? = _; rw [List.getElem?_map, hq]; rfl)
      obtain rfl : V.int ((j : Nat) : Int) = a := Option.some.inj ea
      have eb : (L.ks.map fun k => V.ref k.a)[j]? = some b := eb
      rw [List.getElem?_map, hq] at eb
      obtain rfl : V.ref q.a = b := Option.some.inj eb
      have s2 : Same H1 (upd H1 Tt (.tup [V.int ((j : Nat) : Int), V.ref q.a])) := same_new hT
      have hD2 := s2 _ _ hD1
      have hB := hA.same (s1.trans s2)
      have hT2 : upd H1 Tt (.tup [V.int ((j : Nat) : Int), V.ref q.a]) Tt = some (.tup [V.int ((j : Nat) : Int), V.ref q.a]) := upd_same
      have s12 := s1.trans s2
      generalize upd H1 Tt (.tup [V.int ((j : Nat) : Int), V.ref q.a]) = H2 at s2 s12 hD2 hB hT2
      obtain ⟨dk, hk⟩ := hB.ks q hqm
      have etk : L.ks.take (j + 1) = L.ks.take j ++ [q] := by rw [List.take_add_one, hq]; rfl
      have no : keep q = false → nV (((L.ks.take (j + 1)).filter keep).map (·.number)) = nV (((L.ks.take j).filter keep).map (·.number)) := fun c => by
        rw [etk, List.filter_append]
        simp [c]
      refine ⟨Tt, _, rfl, SqT.of hT2, rfl, _, _, rfl, _, _, rfl, rfl, rfl, ?_⟩
      refine ⟨_, rfl, _, rfl, q.a, A.pk, dk, _, _, rfl, hk, T.k_Package, T.n_Package_sent, kF_sent _ _, q.d, _, rfl, DGet.k (k := Sum.inl ((i : Nat) : Int)) (hB.ds q hqm), _, rfl, ?_⟩
      rw [val_kvI]
      cases el : lookI q.items i with
      | none =>
        refine if_f rfl (if_f rfl ⟨s12, ?_⟩)
        rw [no (by show ((lookI q.items i).isSome && !q.off) = false; rw [el]; rfl)]
        exact hD2
      | some y =>
        refine if_t rfl ?_
        refine ⟨_, rfl, q.a, A.pk, dk, _, _, rfl, hk, T.k_Package, T.n_Package_given_up, kF_off _ _, _, rfl, ?_⟩
        cases eo : q.off with
        | true =>
          refine if_f rfl ⟨s12, ?_⟩
          rw [no (by show ((lookI q.items i).isSome && !q.off) = false; rw [el, eo]; rfl)]
          exact hD2
        | false =>
          have c : keep q = true := by show ((lookI q.items i).isSome && !q.off) = true; rw [el, eo]; rfl
          refine if_t rfl ⟨_, rfl, _, hD2, ?_, same_mut s12 hD, ?_⟩
          · have h1 := List.length_filter_le keep (L.ks.take j)
            have h2 : (L.ks.take j).length ≤ L.ks.length := by simp; omega
            simp only [nV, List.length_map]
            exact Nat.lt_of_le_of_lt (by omega : _ ≤ 10) (by decide)
          · rw [upd_same, etk, List.filter_append]
            simp [c, nV, hnum]
    · rintro H1 ⟨s1, hD1⟩
      rw [List.length_map, List.take_length] at hD1
      have hlk : (L.ks.filter keep).length ≤ 10 := Nat.le_trans (List.length_filter_le _ _) len
      generalize L.ks.filter keep = m at k hD1 hlk
      -- return [len(numbers)] + numbers
      refine ⟨_, rfl, D, _, rfl, .inl (SqL.of hD1), by show 1 ≤ sizeLine; decide, fun l1 hl1 => ?_⟩
      have n3 : D ≠ l1 := ne_of_none hD1 hl1
      refine ⟨_, rfl, l1, D, _, _, rfl, rfl, upd_same, by rw [upd_ne n3]; exact hD1, ?_, fun p' hp => ?_⟩
      · simp only [nV, List.length_map, List.length_cons, List.length_nil]
        exact Nat.le_trans (by omega : _ ≤ 1001) (by decide)
      · refine done_told (l := m.length :: m.map (·.number)) k hA rfl hS trk ((s1.trans (same_new hl1)).trans (same_new hp)) (same_none (s1.trans (same_new hl1)) hp) ?_
        rw [upd_same]
        simp [nV]
end
end Cb

set_option Elab.async false
set_option linter.all false
set_option maxRecDepth 100000
set_option maxHeartbeats 2000000
namespace Cb
open PySem PySem.Spec PyProof.Rows L2
open Ut11 (House Piece Item Package)

/-! ### a slice between two places -/
theorem cut_at (pre mid post : List Int) {i j : Int} (hi : i = (pre.length : Nat)) (hj : j = ((pre.length + mid.length : Nat) : Int)) : cutV ((pre ++ mid ++ post).map V.int) (some i) (some j) = mid.map V.int := by
  have e1 : HT.sIx ((pre ++ mid ++ post).map V.int).length 0 (some i) = pre.length := by
    rw [hi, HT.sIx_nat]
    simp
  have e2 : HT.sIx ((pre ++ mid ++ post).map V.int).length ((pre ++ mid ++ post).map V.int).length (some j) = pre.length + mid.length := by
    rw [hj, HT.sIx_nat]
    simp
  unfold cutV
  rw [e1, e2, ← List.map_drop, ← List.map_take]
  congr 1
  simp
theorem item_at (pre : List Int) (z : Int) (post : List Int) {i : Int} (hi : i = (pre.length : Nat)) : atI ((pre ++ z :: post).map V.int) i = some (V.int z) :=
  at_of hi (by simp)

/-! ### a call as it was parted -/
structure TA where
  t : Addr
  na : Addr
  ra : Addr
  p : Int
  nums : List Int
  row : List Int
  c : Raw
def TA.ok (x : TA) (H : Hp) : Prop := H x.t = some (.tup [.int x.p, .ref x.na, .ref x.ra]) ∧ H x.na = some (.lst (x.nums.map V.int)) ∧ H x.ra = some (.lst (x.row.map V.int))
def TA.new (x : TA) (H : Hp) : Prop := H x.t = none ∧ H x.na = none ∧ H x.ra = none
def TA.is (x : TA) : Prop := ∃ n, x.nums.length = n ∧ ((PyUt11.shape x.p = some (n, 0) ∧ x.c = [x.p :: x.nums] ∧ x.row = []) ∨ (PyUt11.shape x.p = some (n, 1) ∧ x.c = [x.p :: x.nums, x.row]))
theorem TA.ok.same {x : TA} {H H' : Hp} (h : x.ok H) (s : Same H H') : x.ok H' := ⟨s _ _ h.1, s _ _ h.2.1, s _ _ h.2.2⟩

def WN : List V := [.int 2, .int 2, .int 1, .int 2, .int 0, .int 1, .int 1, .int 3, .int 0, .int 0, .int 1, .int 1]
def sp_Office_init (A : Ad) : Sp := fun vs H Q _ => ∃ (o dx : Addr) (S : Addr → Prop), vs = [.ref o] ∧ H o = some (.ins A.of dx []) ∧ Trk S H ∧ ¬ S o ∧ ∀ H', Office A H' o S Ut11.init → Keeps S H H' → Q .non H'
def sp_split (K : PySem.W.Frag) : Sp := fun vs H Q _ => ∃ (a : Addr) (zs : List Int) (cs : List Raw), vs = [.ref a] ∧ SqL K H a (zs.map V.int) ∧ zs.length ≤ 1800 ∧ PyFlat.calls PyUt11.shape zs.length zs = some cs ∧
  ∀ (H' : Hp) (tl : Addr) (td : List TA), Same H H' → H tl = none → H' tl = some (.lst (td.map fun x => V.ref x.t)) → td.map (·.c) = cs → (∀ x ∈ td, x.ok H' ∧ x.new H ∧ x.is) → Q (.ref tl) H'
def sp_call (A : Ad) : Sp := fun vs H Q _ => ∃ (o : Addr) (S : Addr → Prop) (g : House) (x : TA), vs = [.ref o, .int x.p, .ref x.na, .ref x.ra] ∧ x.ok H ∧ x.is ∧ PyInside.call PyUt11.bound x.c = true ∧ (Ut11Neutral.callOf ((PyUt11.whole x.c).headD [])).isSome = true ∧
  Pre A H o S g ∧ Done A o S H (st g x.c) Q

/-- between two turns of the parting loop -/
def SInv (H : Hp) (a tl : Addr) (zs : List Int) (cs : List Raw) (m : Nat) (σ : L2.St) (H' : Hp) : Prop :=
  ∃ (pre rest : List Int) (td : List TA) (cs' : List Raw) (f : Nat) (v3 v4 v5 v6 v7 : Option V), σ = [some (.ref a), some (.ref tl), some (.int (pre.length : Nat)), v3, v4, v5, v6, v7] ∧ m = rest.length ∧ zs = pre ++ rest ∧
    PyFlat.calls PyUt11.shape f rest = some cs' ∧ td.map (·.c) ++ cs' = cs ∧ td.length ≤ pre.length ∧ Same H H' ∧ H' tl = some (.lst (td.map fun x => V.ref x.t)) ∧ ∀ x ∈ td, x.ok H' ∧ x.new H ∧ x.is ∧ x.na ≠ tl ∧ x.ra ≠ tl
theorem s_next {H H4 : Hp} {a tl na ra pt : Addr} {pre rest post t nums row : List Int} {p : Int} {c : Raw} {cs cs'' : List Raw} {td : List TA} {f : Nat} {v3 v4 v5 v6 v7 : Option V} (s4 : Same H H4) (ht : H tl = none) (ht4 : H4 tl = some (.lst (td.map fun x => V.ref x.t)))
    (hok : ∀ x ∈ td, x.ok H4 ∧ x.new H ∧ x.is ∧ x.na ≠ tl ∧ x.ra ≠ tl) (htd : td.map (·.c) ++ c :: cs'' = cs) (hl : td.length ≤ pre.length) (hc : PyFlat.calls PyUt11.shape f t = some cs'') (hz : pre ++ rest = post ++ t) (hp : pre.length < post.length)
    (hna : H4 na = some (.lst (nums.map V.int))) (hra : H4 ra = some (.lst (row.map V.int))) (na0 : H na = none) (ra0 : H ra = none) (hpt : H4 pt = none) (hnt : na ≠ tl) (hrt : ra ≠ tl) (his : ∀ t, (⟨t, na, ra, p, nums, row, c⟩ : TA).is) {z : Int} (ez : z = (post.length : Nat)) :
    ∃ m', m' < rest.length ∧ SInv H a tl (pre ++ rest) cs m' [some (.ref a), some (.ref tl), some (.int z), v3, v4, v5, v6, v7] (upd (upd H4 pt (.tup [.int p, .ref na, .ref ra])) tl (.lst ((td.map fun x => V.ref x.t) ++ [V.ref pt]))) := by
  subst ez
  have npt : pt ≠ tl := (ne_of_none ht4 hpt).symm
  have pt0 : H pt = none := same_none s4 hpt
  refine ⟨t.length, ?_, post, t, td ++ [⟨pt, na, ra, p, nums, row, c⟩], cs'', f, v3, v4, v5, v6, v7, rfl, rfl, hz, hc, ?_, ?_, same_mut (s4.trans (same_new hpt)) ht, ?_, fun x hx => ?_⟩
  · have := congrArg List.length hz
    simp at this
    omega
  · rw [← htd]
    simp
  · simp
    omega
  · rw [upd_same]
    simp
  · rcases List.mem_append.mp hx with m | m
    · obtain ⟨⟨h1, h2, h3⟩, hn, h5, d2, d3⟩ := hok x m
      have keep : ∀ b u, H4 b = some u → b ≠ tl → upd (upd H4 pt (.tup [.int p, .ref na, .ref ra])) tl (.lst ((td.map fun x => V.ref x.t) ++ [V.ref pt])) b = some u := fun b u hb nb => by
        rw [upd_ne nb, upd_ne (ne_of_none hb hpt)]
        exact hb
      exact ⟨⟨keep _ _ h1 (ne_of h1 ht4 fun e => nomatch e), keep _ _ h2 d2, keep _ _ h3 d3⟩, hn, h5, d2, d3⟩
    · have e := List.mem_singleton.mp m
      subst e
      exact ⟨⟨by rw [upd_ne npt]; exact upd_same, by rw [upd_ne hnt, upd_ne (ne_of_none hna hpt)]; exact hna, by rw [upd_ne hrt, upd_ne (ne_of_none hra hpt)]; exact hra⟩, ⟨pt0, na0, ra0⟩, his pt, hnt, hrt⟩

section
variable {P : Program} {w : World} {K : PySem.W.Frag} {mg : Str → Option Value} {base : Heap} {A : Ad} {wn : Addr}

theorem ok_Office_init {f : Addr} {fd : FuncData} (F : Fun K "__init__" "Office.__init__" s_Office_init f fd) (T : Txt K mg A wn) : FnOk P w K mg base CX0 1 f fd ["self"] (sp_Office_init A) := by
  refine F.ok sc_Office_init (fun vs H Q E h => ?_) (fun cdv A' outer s H vs Q E hr h => ?_)
  · obtain ⟨o, dx, S, rfl, _⟩ := h
    rfl
  · obtain ⟨o, dx, S, rfl, ho, trk, nS, k⟩ := h
    refine ⟨_, (pss_cons (ps_fld (pv 0) pe_dnewK rfl)
      (pss_cons (ps_fld (pv 0) (pe_lst pa_nil) rfl)
      (pss_one (ps_fld (pv 0) (pe_lst pa_nil) rfl)))), ?_⟩
    intro dp hdp
    have n1 : o ≠ dp := ne_of_none ho hdp
    refine ⟨_, rfl, o, A.of, dx, [], rfl, (by rw [upd_ne n1]; exact ho), T.k_Office, T.n_Office_pieces, (by show 0 < 1000; decide), ?_⟩
    refine ⟨Nat.zero_le _, fun lp hlp => ?_⟩
    have n2 : o ≠ lp := fun e => by rw [← e, upd_same] at hlp; cases hlp
    have hlp1 := fresh_upd hlp
    have n3 : dp ≠ lp := fun e => by rw [← e, upd_same] at hlp1; cases hlp1
    have hlp0 := fresh_upd hlp1
    refine ⟨_, rfl, o, A.of, dx, _, rfl, (by rw [upd_ne n2]; exact upd_same), T.k_Office, T.n_Office_packages, (by show 1 < 1000; decide), ?_⟩
    refine ⟨Nat.zero_le _, fun lo hlo => ?_⟩
    have n4 : o ≠ lo := fun e => by rw [← e, upd_same] at hlo; cases hlo
    have hlo1 := fresh_upd hlo
    have n5 : lp ≠ lo := fun e => by rw [← e, upd_same] at hlo1; cases hlo1
    have hlo2 := fresh_upd (fresh_upd hlo1)
    have n6 : dp ≠ lo := fun e => by rw [← e, upd_same] at hlo2; cases hlo2
    have hlo0 := fresh_upd hlo2
    refine ⟨_, rfl, o, A.of, dx, _, rfl, (by rw [upd_ne n4]; exact upd_same), T.k_Office, T.n_Office_opened, ?_, ?_⟩
    · exact Nat.lt_of_le_of_lt (length_putF _ _ _) (Nat.lt_of_le_of_lt (Nat.succ_le_succ (length_putF _ _ _)) (by show 2 < 1000; decide))
    have e : putF "opened" (V.ref lo) (putF "packages" (V.ref lp) (putF "pieces" (V.ref dp) [])) = fF dp lp lo := by
      rw [put_nil, put_past (by decide +kernel), put_nil]
      exact (put_past (by decide +kernel)).trans (congrArg _ ((put_past (by decide +kernel)).trans rfl))
    rw [e]
    refine k _ ⟨⟨dx, dp, lp, lo, [], [], []⟩, ⟨upd_same, ?_, ?_, ?_, fun x hx => (by simp at hx), fun x hx => (by simp at hx), fun x hx => (by simp at hx), fun x hx => (by simp at hx), fun x hx => (by simp at hx), List.nodup_nil, List.nodup_nil, List.nodup_nil, fun x hx => (by simp at hx), n5⟩, rfl, fun b fb hb => ?_⟩ fun b hb => ?_
    · rw [upd_ne n1.symm, upd_ne n6, upd_ne n1.symm, upd_ne n3, upd_ne n1.symm]; exact upd_same
    · rw [upd_ne n2.symm, upd_ne n5, upd_ne n2.symm]; exact upd_same
    · rw [upd_ne n4.symm]; exact upd_same
    · cases fb with
      | o => exact nS hb
      | dp => exact trk _ hb hdp
      | lp => exact trk _ hb hlp0
      | lo => exact trk _ hb hlo0
      | p h => simp at h
      | k h => simp at h
      | d h => simp at h
      | i h _ => simp at h
      | q h => simp at h
    · have m1 : b ≠ o := fun e => nS (e ▸ hb)
      have m2 : b ≠ dp := fun e => trk _ hb (e ▸ hdp)
      have m3 : b ≠ lp := fun e => trk _ hb (e ▸ hlp0)
      have m4 : b ≠ lo := fun e => trk _ hb (e ▸ hlo0)
      rw [upd_ne m1, upd_ne m4, upd_ne m1, upd_ne m3, upd_ne m1, upd_ne m2]

theorem wn_at {p : Int} {n k : Nat} (h : PyUt11.shape p = some (n, k)) : atI WN p = some (V.int (n : Nat)) := by
  rcases shape_some h with ⟨rfl, rfl, rfl⟩ | ⟨rfl, rfl, rfl⟩ | ⟨rfl, rfl, rfl⟩ | ⟨rfl, rfl, rfl⟩ | ⟨rfl, rfl, rfl⟩ | ⟨rfl, rfl, rfl⟩ | ⟨rfl, rfl, rfl⟩ | ⟨rfl, rfl, rfl⟩ | ⟨rfl, rfl, rfl⟩ | ⟨rfl, rfl, rfl⟩ | ⟨rfl, rfl, rfl⟩ | ⟨rfl, rfl, rfl⟩
  all_goals rfl
theorem two_rows {p : Int} {n : Nat} (h : PyUt11.shape p = some (n, 1)) : p = 4 ∨ p = 5 := by
  have := shape_some h
  omega
theorem no_rows {p : Int} {n : Nat} (h : PyUt11.shape p = some (n, 0)) : p ≠ 4 ∧ p ≠ 5 := by
  have := shape_some h
  omega

theorem ok_split {f : Addr} {fd : FuncData} (F : Fun K "split_calls" "split_calls" s_split_calls f fd) (T : Txt K mg A wn) (hwn : ∀ H, SqT K H wn WN) : FnOk P w K mg base CX0 1 f fd ["calls"] (sp_split K) := by
  refine F.ok sc_split_calls (fun vs H Q E h => ?_) (fun cdv A' outer s H vs Q E hr h => ?_)
  · obtain ⟨a, zs, cs, rfl, _⟩ := h
    rfl
  · obtain ⟨a, zs, cs, rfl, hz, hlen, hcs, k⟩ := h
    refine ⟨_, (pss_cons (ps_set (i := 1) sc_split_calls.nd rfl (Or.inl rfl) (pe_lst pa_nil))
      (pss_cons (ps_set (i := 2) sc_split_calls.nd rfl (Or.inl rfl) pe_int)
      (pss_cons (ps_while PassesOwn.never (pt_cmpR op_lt (pv 2) (pe_callB call_len_seq (by rfl) T.b_len PySem.boot_len (pa_cons (pv 0) pa_nil)) (nomark _)) (pss_cons (ps_set (i := 3) sc_split_calls.nd rfl (Or.inl rfl) (pe_ix ix_list (pv 0) (pv 2) (fun _ _ => rfl)))
      (pss_cons (ps_set (i := 4) sc_split_calls.nd rfl (Or.inl rfl) (pe_op op_add (pe_op op_add (pv 2) pe_int) (pe_ix ix_tup (pe_gr (by rfl) T.r_WHOLE_NUMBERS) (pv 3) (fun _ _ => rfl))))
      (pss_cons (ps_set (i := 5) sc_split_calls.nd rfl (Or.inl rfl) (pe_slice sl_list (pv 0) (po_some (pe_op op_add (pv 2) pe_int)) (po_some (pv 4))))
      (pss_cons (ps_set (i := 6) sc_split_calls.nd rfl (Or.inl rfl) (pe_lst pa_nil))
      (pss_cons (ps_if (PW.pt (pw_or (pt_cmpR op_eq (pv 3) (pe_gi (by rfl) T.c_CALL_SEND) (nomark _)) (pw_or1 (pt_cmpR op_eq (pv 3) (pe_gi (by rfl) T.c_CALL_BACK) (nomark _))))) (pss_cons (ps_set (i := 7) sc_split_calls.nd rfl (Or.inl rfl) (pe_op op_add (pv 4) pe_int))
      (pss_cons (ps_set (i := 4) sc_split_calls.nd rfl (Or.inl rfl) (pe_op op_add (pv 7) (pe_ix ix_list (pv 0) (pv 4) (fun _ _ => rfl))))
      (pss_one (ps_set (i := 6) sc_split_calls.nd rfl (Or.inl rfl) (pe_slice sl_list (pv 0) (po_some (pv 7)) (po_some (pv 4))))))) pss_nil)
      (pss_cons (ps_expr (pe_bm PySem.F.plainAttrs_list PySem.F.slot_list_append PySem.F.type_list_append mt_append (pv 1) (pa_cons (pe_tup (pa_cons (pv 3) (pa_cons (pv 5) (pa_cons (pv 6) pa_nil)))) pa_nil)))
      (pss_one (ps_set (i := 2) sc_split_calls.nd rfl (Or.inl rfl) (pv 4))))))))))
      (pss_one (ps_ret (pv 1)))))), ?_⟩
    refine ⟨Nat.zero_le _, fun tl htl => ?_⟩
    have s0 : Same H (upd H tl (.lst [])) := same_new htl
    refine ⟨SInv H a tl zs cs, ⟨zs.length, [], zs, [], cs, zs.length, none, none, none, none, none, rfl, rfl, rfl, hcs, rfl, Nat.le_refl _, s0, upd_same, fun x hx => by simp at hx⟩, ?_⟩
    rintro m σ H1 ⟨pre, rest, td, cs', fu, v3, v4, v5, v6, v7, rfl, rfl, rfl, hc, htd, htl2, s1, ht1, hok⟩
    refine ⟨_, rfl, _, rfl, a, _, rfl, .inl (s1.seq hz), _, _, rfl, rfl, _, rfl, ?_⟩
    rw [List.length_map, dec_lt]
    cases cs' with
    | nil =>
      have e := calls_nil hc
      subst e
      refine if_f (decide_eq_false (by simp)) ?_
      exact ⟨_, rfl, k H1 tl td s1 htl ht1 (by simpa using htd) fun x hx => ⟨(hok x hx).1, (hok x hx).2.1, (hok x hx).2.2.1⟩⟩
    | cons c cs'' =>
      obtain ⟨t, p, n, nums, row, hh, hc2⟩ := calls_inv hc
      have hsh : ∃ k, PyUt11.shape p = some (n, k) := by
        rcases hh.sh with q | q
        · exact ⟨0, q⟩
        · exact ⟨1, q⟩
      obtain ⟨kk, hsh⟩ := hsh
      have hrest : ∃ r, rest = p :: (nums ++ r) := by
        rcases hh.sh with q | q
        · exact ⟨_, (hh.zero q).1⟩
        · exact ⟨_, (hh.one q).1⟩
      obtain ⟨r, hr0⟩ := hrest
      refine if_t (decide_eq_true (by rw [hr0]; simp)) ?_
      refine ⟨_, fun _ _ z => z, ?_⟩
      subst hr0
      -- call = calls[at]
      refine ⟨_, rfl, _, rfl, a, _, _, _, rfl, rfl, s1.seq hz, item_at pre p (nums ++ r) rfl, ?_⟩
      -- behind = at + 1 + WHOLE_NUMBERS[call]
      refine ⟨_, rfl, _, _, rfl, rfl, _, rfl, wn, _, _, _, rfl, rfl, hwn H1, wn_at hsh, _, _, rfl, rfl, ?_⟩
      -- numbers = calls[at + 1:behind]
      refine ⟨_, rfl, _, rfl, _, _, rfl, rfl, _, rfl, _, rfl, _, rfl, a, _, rfl, s1.seq hz, fun na hna => ?_⟩
      have ecut : cutV ((pre ++ p :: (nums ++ r)).map V.int) (some ((pre.length : Nat) + 1)) (some ((pre.length : Nat) + 1 + (n : Nat))) = nums.map V.int := by
        have := cut_at (pre ++ [p]) nums r (i := (pre.length : Nat) + 1) (j := (pre.length : Nat) + 1 + (n : Nat)) (by simp) (by simp [hh.len])
        simpa using this
      rw [ecut]
      have s2 : Same H1 (upd H1 na (.lst (nums.map V.int))) := same_new hna
      have hna2 : upd H1 na (.lst (nums.map V.int)) na = some (.lst (nums.map V.int)) := upd_same
      generalize upd H1 na (.lst (nums.map V.int)) = H2 at s2 hna2
      -- row = []
      refine ⟨Nat.zero_le _, fun ra hra => ?_⟩
      have s3 : Same H2 (upd H2 ra (.lst [])) := same_new hra
      have hra3 : upd H2 ra (.lst []) ra = some (.lst []) := upd_same
      have hna3 := s3 _ _ hna2
      generalize upd H2 ra (.lst []) = H3 at s3 hra3 hna3
      have s13 : Same H1 H3 := s2.trans s3
      have hna0 : H na = none := same_none s1 hna
      have hra0 : H ra = none := same_none (s1.trans s2) hra
      have ht3 := s13 _ _ ht1
      have nnt : na ≠ tl := (ne_of_none ht1 hna).symm
      have nrt : ra ≠ tl := (ne_of_none (s2 _ _ ht1) hra).symm
      have hok3 : ∀ x ∈ td, x.ok H3 ∧ x.new H ∧ x.is ∧ x.na ≠ tl ∧ x.ra ≠ tl := fun x hx => by
        obtain ⟨h1, h2⟩ := hok x hx
        exact ⟨h1.same s13, h2⟩
      -- if call == 4 or call == 5
      refine ⟨_, rfl, rfl, _, rfl, ?_⟩
      rcases hh.sh with q | q
      · obtain ⟨hl, hcc, hrow⟩ := hh.zero q
        have hnr := no_rows q
        refine if_f (decide_eq_false fun e => hnr.1 (V.int.inj e)) ⟨_, rfl, rfl, _, rfl, if_f (decide_eq_false fun e => hnr.2 (V.int.inj e)) ?_⟩
        have er : r = t := by
          have := List.cons.inj hl
          exact List.append_cancel_left this.2
        subst er
        -- told.append((call, numbers, row)); at = behind
        refine ⟨_, rfl, .inl ⟨rfl, _, SqL.of ht3⟩, _, rfl, _, rfl, _, rfl, (by show 3 ≤ sizeLine; decide), fun pt hpt => ?_⟩
        have ltd : td.length < sizeLine := by
          have h1 : (pre ++ p :: (nums ++ r)).length ≤ 1800 := hlen
          rw [List.length_append] at h1
          exact Nat.lt_of_le_of_lt (by omega : td.length ≤ 1800) (by decide)
        refine ⟨tl, _, _, rfl, rfl, by rw [upd_ne (ne_of_none ht3 hpt)]; exact ht3, by rw [List.length_map]; exact ltd, ?_⟩
        refine ⟨_, rfl, ?_⟩
        have ep : ((pre.length : Nat) : Int) + 1 + (n : Nat) = ((pre ++ p :: nums).length : Nat) := by
          simp [hh.len]
          omega
        exact s_next (post := pre ++ p :: nums) (row := []) (s1.trans s13) htl ht3 hok3 htd htl2 hc2 (by simp) (by simp) hna3 hra3 hna0 hra0 hpt nnt nrt (fun _ => ⟨n, hh.len, .inl ⟨q, hcc, rfl⟩⟩) ep
      · obtain ⟨hl, hcc⟩ := hh.one q
        have er : r = (row.length : Int) :: (row ++ t) := by
          have := List.cons.inj hl
          exact List.append_cancel_left this.2
        subst er
        have ln : nums.length = n := hh.len
        have z13 := (s1.trans s13).seq hz
        have hitem : atI ((pre ++ p :: (nums ++ (row.length : Int) :: (row ++ t))).map V.int) (((pre.length : Nat) : Int) + 1 + (n : Nat)) = some (V.int (row.length : Nat)) := by
          have := item_at (pre ++ p :: nums) (row.length : Int) (row ++ t) (i := ((pre.length : Nat) : Int) + 1 + (n : Nat)) (by simp [ln]; omega)
          simpa using this
        have ecut2 : cutV ((pre ++ p :: (nums ++ (row.length : Int) :: (row ++ t))).map V.int) (some (((pre.length : Nat) : Int) + 1 + (n : Nat) + 1)) (some (((pre.length : Nat) : Int) + 1 + (n : Nat) + 1 + (row.length : Nat))) = row.map V.int := by
          have := cut_at (pre ++ p :: nums ++ [(row.length : Int)]) row t (i := ((pre.length : Nat) : Int) + 1 + (n : Nat) + 1) (j := ((pre.length : Nat) : Int) + 1 + (n : Nat) + 1 + (row.length : Nat)) (by simp [ln]; omega) (by simp [ln]; omega)
          simpa using this
        have ep : ((pre.length : Nat) : Int) + 1 + (n : Nat) + 1 + (row.length : Nat) = ((pre ++ p :: nums ++ (row.length : Int) :: row).length : Nat) := by
          simp [ln]
          omega
        have ltd : td.length < sizeLine := by
          have h1 : (pre ++ p :: (nums ++ (row.length : Int) :: (row ++ t))).length ≤ 1800 := hlen
          rw [List.length_append] at h1
          exact Nat.lt_of_le_of_lt (by omega : td.length ≤ 1800) (by decide)
        have hte : decide (V.int p = V.int 4) = true ∨ (decide (V.int p = V.int 4) = false ∧ decide (V.int p = V.int 5) = true) := by
          rcases two_rows q with hp4 | hp4
          · exact .inl (decide_eq_true (by rw [hp4]))
          · exact .inr ⟨decide_eq_false (by rw [hp4]; decide), decide_eq_true (by rw [hp4])⟩
        rcases hte with hp4 | ⟨hp4, hp5'⟩
        · refine if_t hp4 (iteT ?_)
          refine ⟨_, rfl, _, _, rfl, rfl, ?_⟩
          refine ⟨_, rfl, _, rfl, _, rfl, a, _, _, V.int (row.length : Nat), rfl, rfl, z13, hitem, _, _, rfl, rfl, ?_⟩
          refine ⟨_, rfl, _, rfl, _, rfl, _, rfl, _, rfl, a, _, rfl, z13, fun rb hrb => ?_⟩
          have s4 : Same H3 (upd H3 rb (.lst (row.map V.int))) := same_new hrb
          refine ⟨_, rfl, .inl ⟨rfl, _, SqL.of (by rw [ecut2]; exact s4 _ _ ht3)⟩, _, rfl, _, rfl, _, rfl, (by show 3 ≤ sizeLine; decide), fun pt hpt => ?_⟩
          rw [ecut2] at hpt ⊢
          refine ⟨tl, _, _, rfl, rfl, by rw [upd_ne (ne_of_none (s4 _ _ ht3) hpt)]; exact s4 _ _ ht3, by rw [List.length_map]; exact ltd, ?_⟩
          refine ⟨_, rfl, ?_⟩
          exact s_next (post := pre ++ p :: nums ++ (row.length : Int) :: row) (row := row) ((s1.trans s13).trans s4) htl (s4 _ _ ht3) (fun x hx => ⟨(hok3 x hx).1.same s4, (hok3 x hx).2⟩) htd htl2 hc2 (by simp) (by simp) (s4 _ _ hna3) upd_same hna0 (same_none (s1.trans s13) hrb) hpt nnt (ne_of_none ht3 hrb).symm (fun _ => ⟨n, hh.len, .inr ⟨q, hcc⟩⟩) ep
        · refine if_f hp4 ⟨_, rfl, rfl, _, rfl, if_t hp5' ?_⟩
          refine ⟨_, rfl, _, _, rfl, rfl, ?_⟩
          refine ⟨_, rfl, _, rfl, _, rfl, a, _, _, V.int (row.length : Nat), rfl, rfl, z13, hitem, _, _, rfl, rfl, ?_⟩
          refine ⟨_, rfl, _, rfl, _, rfl, _, rfl, _, rfl, a, _, rfl, z13, fun rb hrb => ?_⟩
          have s4 : Same H3 (upd H3 rb (.lst (row.map V.int))) := same_new hrb
          refine ⟨_, rfl, .inl ⟨rfl, _, SqL.of (by rw [ecut2]; exact s4 _ _ ht3)⟩, _, rfl, _, rfl, _, rfl, (by show 3 ≤ sizeLine; decide), fun pt hpt => ?_⟩
          rw [ecut2] at hpt ⊢
          refine ⟨tl, _, _, rfl, rfl, by rw [upd_ne (ne_of_none (s4 _ _ ht3) hpt)]; exact s4 _ _ ht3, by rw [List.length_map]; exact ltd, ?_⟩
          refine ⟨_, rfl, ?_⟩
          exact s_next (post := pre ++ p :: nums ++ (row.length : Int) :: row) (row := row) ((s1.trans s13).trans s4) htl (s4 _ _ ht3) (fun x hx => ⟨(hok3 x hx).1.same s4, (hok3 x hx).2⟩) htd htl2 hc2 (by simp) (by simp) (s4 _ _ hna3) upd_same hna0 (same_none (s1.trans s13) hrb) hpt nnt (ne_of_none ht3 hrb).symm (fun _ => ⟨n, hh.len, .inr ⟨q, hcc⟩⟩) ep
end
end Cb

set_option Elab.async false
set_option linter.all false
set_option maxRecDepth 100000
set_option maxHeartbeats 2000000
namespace Cb
open PySem PySem.Spec PyProof.Rows L2
open Ut11 (House Piece Item Package)

theorem num_cast {x : Int} (h : Num x) : x = ((x.toNat : Nat) : Int) := (Int.toNat_of_nonneg h.1).symm
theorem row_cast {r : List Int} (h : ∀ x ∈ r, Num x) : r.map V.int = nV (r.map Int.toNat) := by
  unfold nV
  rw [List.map_map]
  exact List.map_congr_left fun x hx => congrArg V.int (num_cast (h x hx))
theorem at0 {x : Int} {r : List Int} : atI ((x :: r).map V.int) 0 = some (V.int x) := at_of (j := 0) rfl rfl
theorem at2 {x y z : Int} {r : List Int} : atI ((x :: y :: z :: r).map V.int) 2 = some (V.int z) := at_of (j := 2) rfl rfl
theorem at1 {x y : Int} {r : List Int} : atI ((x :: y :: r).map V.int) 1 = some (V.int y) := at_of (j := 1) rfl rfl

section
variable {P : Program} {w : World} {K : PySem.W.Frag} {mg : Str → Option Value} {base : Heap} {A : Ad} {wn : Addr}

theorem ok_call {f : Addr} {fd : FuncData} (F : Fun K "answer_call" "answer_call" s_answer_call f fd) (T : Txt K mg A wn)
    (M_Office_add_piece : MtG P w K mg base A.of "add_piece" 3 ["self", "name", "text"] (sp_add A))
    (M_Office_change_text : MtG P w K mg base A.of "change_text" 2 ["self", "name", "text"] (sp_text A))
    (M_Office_drop_piece : MtG P w K mg base A.of "drop_piece" 2 ["self", "name"] (sp_gone A))
    (M_Office_put_translation : MtG P w K mg base A.of "put_translation" 2 ["self", "name", "translation"] (sp_put A))
    (M_Office_send_package : MtG P w K mg base A.of "send_package" 3 ["self", "names"] (sp_send A K))
    (M_Office_take_back : MtG P w K mg base A.of "take_back" 4 ["self", "package", "pieces"] (sp_back A K))
    (M_Office_give_up : MtG P w K mg base A.of "give_up" 1 ["self", "package"] (sp_off A))
    (M_Office_choose : MtG P w K mg base A.of "choose" 2 ["self", "name", "package", "choice"] (sp_choose A))
    (M_Office_tell_opened : MtG P w K mg base A.of "tell_opened" 2 ["self"] (sp_topen A))
    (M_Office_tell_pieces : MtG P w K mg base A.of "tell_pieces" 1 ["self"] (sp_tpieces A))
    (M_Office_tell_package : MtG P w K mg base A.of "tell_package" 1 ["self", "package"] (sp_tpackage A))
    (M_Office_tell_out : MtG P w K mg base A.of "tell_out" 1 ["self", "name"] (sp_tout A)) :
    FnOk P w K mg base CX0 5 f fd ["office", "call", "numbers", "row"] (sp_call A) := by
  refine F.ok sc_answer_call (fun vs H Q E h => ?_) (fun cdv A' outer s H vs Q E hr h => ?_)
  · obtain ⟨o, S, g, x, rfl, _⟩ := h
    rfl
  · obtain ⟨o, S, g, ⟨xt, na, ra, p, nums, row, c⟩, rfl, ⟨_, hna, hra⟩, ⟨n, hn, his⟩, hb, hs, pre, k⟩ := h
    have hna : H na = some (.lst (nums.map V.int)) := hna
    have hra : H ra = some (.lst (row.map V.int)) := hra
    have hn : nums.length = n := hn
    have his : (PyUt11.shape p = some (n, 0) ∧ c = [p :: nums] ∧ row = []) ∨ (PyUt11.shape p = some (n, 1) ∧ c = [p :: nums, row]) := his
    have hb : PyInside.call PyUt11.bound c = true := hb
    have hs : (Ut11Neutral.callOf ((PyUt11.whole c).headD [])).isSome = true := hs
    have k : Done A o S H (st g c) Q := k
    obtain ⟨L, hA, hg, hS⟩ := id pre.of
    refine ⟨_, (pss_cons (ps_if (pt_cmpR op_eq (pv 1) (pe_gi (by rfl) T.c_CALL_PIECE) (nomark _)) (pss_one (ps_ret (pe_mt M_Office_add_piece (hr.mono (by decide)) (pv 0) (pa_cons (pe_ix ix_list (pv 2) pe_int (fun _ _ => rfl)) (pa_cons (pe_ix ix_list (pv 2) pe_int (fun _ _ => rfl)) pa_nil))))) pss_nil)
      (pss_cons (ps_if (pt_cmpR op_eq (pv 1) (pe_gi (by rfl) T.c_CALL_TEXT) (nomark _)) (pss_one (ps_ret (pe_mt M_Office_change_text (hr.mono (by decide)) (pv 0) (pa_cons (pe_ix ix_list (pv 2) pe_int (fun _ _ => rfl)) (pa_cons (pe_ix ix_list (pv 2) pe_int (fun _ _ => rfl)) pa_nil))))) pss_nil)
      (pss_cons (ps_if (pt_cmpR op_eq (pv 1) (pe_gi (by rfl) T.c_CALL_GONE) (nomark _)) (pss_one (ps_ret (pe_mt M_Office_drop_piece (hr.mono (by decide)) (pv 0) (pa_cons (pe_ix ix_list (pv 2) pe_int (fun _ _ => rfl)) pa_nil)))) pss_nil)
      (pss_cons (ps_if (pt_cmpR op_eq (pv 1) (pe_gi (by rfl) T.c_CALL_PUT) (nomark _)) (pss_one (ps_ret (pe_mt M_Office_put_translation (hr.mono (by decide)) (pv 0) (pa_cons (pe_ix ix_list (pv 2) pe_int (fun _ _ => rfl)) (pa_cons (pe_ix ix_list (pv 2) pe_int (fun _ _ => rfl)) pa_nil))))) pss_nil)
      (pss_cons (ps_if (pt_cmpR op_eq (pv 1) (pe_gi (by rfl) T.c_CALL_SEND) (nomark _)) (pss_one (ps_ret (pe_mt M_Office_send_package (hr.mono (by decide)) (pv 0) (pa_cons (pv 3) pa_nil)))) pss_nil)
      (pss_cons (ps_if (pt_cmpR op_eq (pv 1) (pe_gi (by rfl) T.c_CALL_BACK) (nomark _)) (pss_one (ps_ret (pe_mt M_Office_take_back (hr.mono (by decide)) (pv 0) (pa_cons (pe_ix ix_list (pv 2) pe_int (fun _ _ => rfl)) (pa_cons (pv 3) pa_nil))))) pss_nil)
      (pss_cons (ps_if (pt_cmpR op_eq (pv 1) (pe_gi (by rfl) T.c_CALL_OFF) (nomark _)) (pss_one (ps_ret (pe_mt M_Office_give_up (hr.mono (by decide)) (pv 0) (pa_cons (pe_ix ix_list (pv 2) pe_int (fun _ _ => rfl)) pa_nil)))) pss_nil)
      (pss_cons (ps_if (pt_cmpR op_eq (pv 1) (pe_gi (by rfl) T.c_CALL_CHOOSE) (nomark _)) (pss_one (ps_ret (pe_mt M_Office_choose (hr.mono (by decide)) (pv 0) (pa_cons (pe_ix ix_list (pv 2) pe_int (fun _ _ => rfl)) (pa_cons (pe_ix ix_list (pv 2) pe_int (fun _ _ => rfl)) (pa_cons (pe_ix ix_list (pv 2) pe_int (fun _ _ => rfl)) pa_nil)))))) pss_nil)
      (pss_cons (ps_if (pt_cmpR op_eq (pv 1) (pe_gi (by rfl) T.c_CALL_OPEN) (nomark _)) (pss_one (ps_ret (pe_mt0 M_Office_tell_opened (hr.mono (by decide)) (pv 0)))) pss_nil)
      (pss_cons (ps_if (pt_cmpR op_eq (pv 1) (pe_gi (by rfl) T.c_CALL_PIECES) (nomark _)) (pss_one (ps_ret (pe_mt0 M_Office_tell_pieces (hr.mono (by decide)) (pv 0)))) pss_nil)
      (pss_cons (ps_if (pt_cmpR op_eq (pv 1) (pe_gi (by rfl) T.c_CALL_PACKAGE) (nomark _)) (pss_one (ps_ret (pe_mt M_Office_tell_package (hr.mono (by decide)) (pv 0) (pa_cons (pe_ix ix_list (pv 2) pe_int (fun _ _ => rfl)) pa_nil)))) pss_nil)
      (pss_one (ps_ret (pe_mt M_Office_tell_out (hr.mono (by decide)) (pv 0) (pa_cons (pe_ix ix_list (pv 2) pe_int (fun _ _ => rfl)) pa_nil))))))))))))))), ?_⟩
    have hsh : ∃ k, PyUt11.shape p = some (n, k) := by
      rcases his with ⟨q, _⟩ | ⟨q, _⟩
      · exact ⟨0, q⟩
      · exact ⟨1, q⟩
    obtain ⟨kk, hsh⟩ := hsh
    show tSeq _ _ _ (start N_answer_call [.ref o, .int p, .ref na, .ref ra]) H
    have nm : ∀ {m : Str}, (m == ("pieces" : Str)) = false → (m == ("packages" : Str)) = false → (m == ("opened" : Str)) = false → (fF L.dp L.lp L.lo).lookup m = none := fun h1 h2 h3 => fF_no _ _ _ h1 h2 h3
    rcases shape_some hsh with ⟨rfl, rfl, rfl⟩ | ⟨rfl, rfl, rfl⟩ | ⟨rfl, rfl, rfl⟩ | ⟨rfl, rfl, rfl⟩ | ⟨rfl, rfl, rfl⟩ | ⟨rfl, rfl, rfl⟩ | ⟨rfl, rfl, rfl⟩ | ⟨rfl, rfl, rfl⟩ | ⟨rfl, rfl, rfl⟩ | ⟨rfl, rfl, rfl⟩ | ⟨rfl, rfl, rfl⟩ | ⟨rfl, rfl, rfl⟩
    · -- piece
      obtain ⟨rfl, rfl⟩ : c = [0 :: nums] ∧ row = [] := by
        rcases his with ⟨_, h⟩ | ⟨q, _⟩
        · exact h
        · exact absurd q (by decide)
      obtain ⟨x, y, rfl⟩ : ∃ x y, nums = [x, y] := match nums, hn with | [x, y], _ => ⟨x, y, rfl⟩
      have hxy : Num x ∧ Num y := by simpa [PyInside.call, PyUt11.bound, PyInside.each, PyInside.lists, PyInside.within, Num] using hb
      refine ⟨_, rfl, rfl, _, rfl, if_t rfl ?_⟩
      refine ⟨_, rfl, o, L.dx, _, rfl, hA.hO, nm (by decide +kernel) (by decide +kernel) (by decide +kernel), _, rfl, na, _, _, _, rfl, rfl, SqL.of hna, at0, _, rfl, na, _, _, _, rfl, rfl, SqL.of hna, at1, ?_⟩
      rw [st_piece hxy.1 hxy.2] at k
      exact ⟨o, S, g, x.toNat, y.toNat, by rw [← num_cast hxy.1, ← num_cast hxy.2]; rfl, pre, k⟩
    · -- text
      obtain ⟨rfl, rfl⟩ : c = [1 :: nums] ∧ row = [] := by
        rcases his with ⟨_, h⟩ | ⟨q, _⟩
        · exact h
        · exact absurd q (by decide)
      obtain ⟨x, y, rfl⟩ : ∃ x y, nums = [x, y] := match nums, hn with | [x, y], _ => ⟨x, y, rfl⟩
      have hxy : Num x ∧ Num y := by simpa [PyInside.call, PyUt11.bound, PyInside.each, PyInside.lists, PyInside.within, Num] using hb
      refine ⟨_, rfl, rfl, _, rfl, if_f rfl ⟨_, rfl, rfl, _, rfl, if_t rfl ?_⟩⟩
      refine ⟨_, rfl, o, L.dx, _, rfl, hA.hO, nm (by decide +kernel) (by decide +kernel) (by decide +kernel), _, rfl, na, _, _, _, rfl, rfl, SqL.of hna, at0, _, rfl, na, _, _, _, rfl, rfl, SqL.of hna, at1, ?_⟩
      rw [st_text hxy.1 hxy.2] at k
      exact ⟨o, S, g, x.toNat, y.toNat, by rw [← num_cast hxy.1, ← num_cast hxy.2]; rfl, pre, k⟩
    · -- gone
      obtain ⟨rfl, rfl⟩ : c = [2 :: nums] ∧ row = [] := by
        rcases his with ⟨_, h⟩ | ⟨q, _⟩
        · exact h
        · exact absurd q (by decide)
      obtain ⟨x, rfl⟩ : ∃ x, nums = [x] := match nums, hn with | [x], _ => ⟨x, rfl⟩
      have hx : Num x := by simpa [PyInside.call, PyUt11.bound, PyInside.each, PyInside.lists, PyInside.within, Num] using hb
      refine ⟨_, rfl, rfl, _, rfl, if_f rfl ⟨_, rfl, rfl, _, rfl, if_f rfl ⟨_, rfl, rfl, _, rfl, if_t rfl ?_⟩⟩⟩
      refine ⟨_, rfl, o, L.dx, _, rfl, hA.hO, nm (by decide +kernel) (by decide +kernel) (by decide +kernel), _, rfl, na, _, _, _, rfl, rfl, SqL.of hna, at0, ?_⟩
      rw [st_gone hx] at k
      exact ⟨o, S, g, x.toNat, by rw [← num_cast hx]; rfl, pre, k⟩
    · -- put
      obtain ⟨rfl, rfl⟩ : c = [3 :: nums] ∧ row = [] := by
        rcases his with ⟨_, h⟩ | ⟨q, _⟩
        · exact h
        · exact absurd q (by decide)
      obtain ⟨x, y, rfl⟩ : ∃ x y, nums = [x, y] := match nums, hn with | [x, y], _ => ⟨x, y, rfl⟩
      have hxy : Num x ∧ Num y := by simpa [PyInside.call, PyUt11.bound, PyInside.each, PyInside.lists, PyInside.within, Num] using hb
      refine ⟨_, rfl, rfl, _, rfl, if_f rfl ⟨_, rfl, rfl, _, rfl, if_f rfl ⟨_, rfl, rfl, _, rfl, if_f rfl ⟨_, rfl, rfl, _, rfl, if_t rfl ?_⟩⟩⟩⟩
      refine ⟨_, rfl, o, L.dx, _, rfl, hA.hO, nm (by decide +kernel) (by decide +kernel) (by decide +kernel), _, rfl, na, _, _, _, rfl, rfl, SqL.of hna, at0, _, rfl, na, _, _, _, rfl, rfl, SqL.of hna, at1, ?_⟩
      rw [st_put hxy.1 hxy.2] at k
      exact ⟨o, S, g, x.toNat, y.toNat, by rw [← num_cast hxy.1, ← num_cast hxy.2]; rfl, pre, k⟩
    · -- send
      rcases his with ⟨q, _⟩ | ⟨_, rfl⟩
      · exact absurd q (by decide)
      obtain rfl : nums = [] := List.eq_nil_of_length_eq_zero hn
      have hr' : row.length ≤ 40 ∧ ∀ x ∈ row, Num x := by simpa [PyInside.call, PyUt11.bound, PyInside.each, PyInside.lists, PyInside.within, Num] using hb
      refine ⟨_, rfl, rfl, _, rfl, if_f rfl ⟨_, rfl, rfl, _, rfl, if_f rfl ⟨_, rfl, rfl, _, rfl, if_f rfl ⟨_, rfl, rfl, _, rfl, if_f rfl ⟨_, rfl, rfl, _, rfl, if_t rfl ?_⟩⟩⟩⟩⟩
      refine ⟨_, rfl, o, L.dx, _, rfl, hA.hO, nm (by decide +kernel) (by decide +kernel) (by decide +kernel), _, rfl, ?_⟩
      rw [st_send hr'.2] at k
      exact ⟨o, ra, S, g, row.map Int.toNat, rfl, SqL.of (by rw [← row_cast hr'.2]; exact hra), by rw [List.length_map]; omega, pre, k⟩
    · -- back
      rcases his with ⟨q, _⟩ | ⟨_, rfl⟩
      · exact absurd q (by decide)
      obtain ⟨x, rfl⟩ : ∃ x, nums = [x] := match nums, hn with | [x], _ => ⟨x, rfl⟩
      have hr' : Num x ∧ row.length ≤ 40 ∧ ∀ x ∈ row, Num x := by simpa [PyInside.call, PyUt11.bound, PyInside.each, PyInside.lists, PyInside.within, Num] using hb
      obtain ⟨m, hm⟩ : ∃ m, Ut11Neutral.pairsIn (row.map Int.toNat) = some m := by
        cases e : Ut11Neutral.pairsIn (row.map Int.toNat) with
        | some m => exact ⟨m, rfl⟩
        | none =>
          exfalso
          have e2 : (PyUt11.whole [[5, x], row]).headD [] = 5 :: x :: row := rfl
          rw [e2] at hs
          unfold Ut11Neutral.callOf at hs
          split at hs
          · cases hs
          · have e3 : Ut11Neutral.callIn ((5 :: x :: row).map Int.toNat) = (Ut11Neutral.pairsIn (row.map Int.toNat)).map fun m => Ut11.Call.back x.toNat m := rfl
            rw [e3, e] at hs
            cases hs
      have hfl := pairs_flat (fun x hx => (hr'.2.2 x hx).1) hm
      have hlm : m.length ≤ 1000 := by
        have := congrArg List.length hfl
        rw [flat_len] at this
        omega
      refine ⟨_, rfl, rfl, _, rfl, if_f rfl ⟨_, rfl, rfl, _, rfl, if_f rfl ⟨_, rfl, rfl, _, rfl, if_f rfl ⟨_, rfl, rfl, _, rfl, if_f rfl ⟨_, rfl, rfl, _, rfl, if_f rfl ⟨_, rfl, rfl, _, rfl, if_t rfl ?_⟩⟩⟩⟩⟩⟩
      refine ⟨_, rfl, o, L.dx, _, rfl, hA.hO, nm (by decide +kernel) (by decide +kernel) (by decide +kernel), _, rfl, na, _, _, _, rfl, rfl, SqL.of hna, at0, _, rfl, ?_⟩
      rw [st_back hr'.1 hr'.2.2 hm] at k
      exact ⟨o, ra, S, g, x.toNat, m, by rw [← num_cast hr'.1]; rfl, SqL.of (by rw [← hfl]; exact hra), hlm, pre, k⟩
    · -- off
      obtain ⟨rfl, rfl⟩ : c = [6 :: nums] ∧ row = [] := by
        rcases his with ⟨_, h⟩ | ⟨q, _⟩
        · exact h
        · exact absurd q (by decide)
      obtain ⟨x, rfl⟩ : ∃ x, nums = [x] := match nums, hn with | [x], _ => ⟨x, rfl⟩
      have hx : Num x := by simpa [PyInside.call, PyUt11.bound, PyInside.each, PyInside.lists, PyInside.within, Num] using hb
      refine ⟨_, rfl, rfl, _, rfl, if_f rfl ⟨_, rfl, rfl, _, rfl, if_f rfl ⟨_, rfl, rfl, _, rfl, if_f rfl ⟨_, rfl, rfl, _, rfl, if_f rfl ⟨_, rfl, rfl, _, rfl, if_f rfl ⟨_, rfl, rfl, _, rfl, if_f rfl ⟨_, rfl, rfl, _, rfl, if_t rfl ?_⟩⟩⟩⟩⟩⟩⟩
      refine ⟨_, rfl, o, L.dx, _, rfl, hA.hO, nm (by decide +kernel) (by decide +kernel) (by decide +kernel), _, rfl, na, _, _, _, rfl, rfl, SqL.of hna, at0, ?_⟩
      rw [st_off hx] at k
      exact ⟨o, S, g, x.toNat, by rw [← num_cast hx]; rfl, pre, k⟩
    · -- choose
      obtain ⟨rfl, rfl⟩ : c = [7 :: nums] ∧ row = [] := by
        rcases his with ⟨_, h⟩ | ⟨q, _⟩
        · exact h
        · exact absurd q (by decide)
      obtain ⟨x, y, z, rfl⟩ : ∃ x y z, nums = [x, y, z] := match nums, hn with | [x, y, z], _ => ⟨x, y, z, rfl⟩
      have hxy : Num x ∧ Num y ∧ 0 ≤ z ∧ z ≤ 1 := by simpa [PyInside.call, PyUt11.bound, PyInside.each, PyInside.lists, PyInside.within, Num] using hb
      refine ⟨_, rfl, rfl, _, rfl, if_f rfl ⟨_, rfl, rfl, _, rfl, if_f rfl ⟨_, rfl, rfl, _, rfl, if_f rfl ⟨_, rfl, rfl, _, rfl, if_f rfl ⟨_, rfl, rfl, _, rfl, if_f rfl ⟨_, rfl, rfl, _, rfl, if_f rfl ⟨_, rfl, rfl, _, rfl, if_f rfl ⟨_, rfl, rfl, _, rfl, if_t rfl ?_⟩⟩⟩⟩⟩⟩⟩⟩
      refine ⟨_, rfl, o, L.dx, _, rfl, hA.hO, nm (by decide +kernel) (by decide +kernel) (by decide +kernel), _, rfl, na, _, _, _, rfl, rfl, SqL.of hna, at0, _, rfl, na, _, _, _, rfl, rfl, SqL.of hna, at1, _, rfl, na, _, _, _, rfl, rfl, SqL.of hna, at2, ?_⟩
      have hz : z = 0 ∨ z = 1 := by omega
      rcases hz with rfl | rfl
      · rw [st_choose0 hxy.1 hxy.2.1] at k
        exact ⟨o, S, g, x.toNat, y.toNat, false, by rw [← num_cast hxy.1, ← num_cast hxy.2.1]; rfl, pre, k⟩
      · rw [st_choose1 hxy.1 hxy.2.1] at k
        exact ⟨o, S, g, x.toNat, y.toNat, true, by rw [← num_cast hxy.1, ← num_cast hxy.2.1]; rfl, pre, k⟩
    · -- open
      obtain ⟨rfl, rfl⟩ : c = [8 :: nums] ∧ row = [] := by
        rcases his with ⟨_, h⟩ | ⟨q, _⟩
        · exact h
        · exact absurd q (by decide)
      obtain rfl : nums = [] := List.eq_nil_of_length_eq_zero hn
      refine ⟨_, rfl, rfl, _, rfl, if_f rfl ⟨_, rfl, rfl, _, rfl, if_f rfl ⟨_, rfl, rfl, _, rfl, if_f rfl ⟨_, rfl, rfl, _, rfl, if_f rfl ⟨_, rfl, rfl, _, rfl, if_f rfl ⟨_, rfl, rfl, _, rfl, if_f rfl ⟨_, rfl, rfl, _, rfl, if_f rfl ⟨_, rfl, rfl, _, rfl, if_f rfl ⟨_, rfl, rfl, _, rfl, if_t rfl ?_⟩⟩⟩⟩⟩⟩⟩⟩⟩
      refine ⟨_, rfl, o, L.dx, _, rfl, hA.hO, nm (by decide +kernel) (by decide +kernel) (by decide +kernel), ?_⟩
      rw [st_open8] at k
      exact ⟨o, S, g, rfl, pre, k⟩
    · -- pieces
      obtain ⟨rfl, rfl⟩ : c = [9 :: nums] ∧ row = [] := by
        rcases his with ⟨_, h⟩ | ⟨q, _⟩
        · exact h
        · exact absurd q (by decide)
      obtain rfl : nums = [] := List.eq_nil_of_length_eq_zero hn
      refine ⟨_, rfl, rfl, _, rfl, if_f rfl ⟨_, rfl, rfl, _, rfl, if_f rfl ⟨_, rfl, rfl, _, rfl, if_f rfl ⟨_, rfl, rfl, _, rfl, if_f rfl ⟨_, rfl, rfl, _, rfl, if_f rfl ⟨_, rfl, rfl, _, rfl, if_f rfl ⟨_, rfl, rfl, _, rfl, if_f rfl ⟨_, rfl, rfl, _, rfl, if_f rfl ⟨_, rfl, rfl, _, rfl, if_f rfl ⟨_, rfl, rfl, _, rfl, if_t rfl ?_⟩⟩⟩⟩⟩⟩⟩⟩⟩⟩
      refine ⟨_, rfl, o, L.dx, _, rfl, hA.hO, nm (by decide +kernel) (by decide +kernel) (by decide +kernel), ?_⟩
      rw [st_pieces] at k
      exact ⟨o, S, g, rfl, pre, k⟩
    · -- package
      obtain ⟨rfl, rfl⟩ : c = [10 :: nums] ∧ row = [] := by
        rcases his with ⟨_, h⟩ | ⟨q, _⟩
        · exact h
        · exact absurd q (by decide)
      obtain ⟨x, rfl⟩ : ∃ x, nums = [x] := match nums, hn with | [x], _ => ⟨x, rfl⟩
      have hx : Num x := by simpa [PyInside.call, PyUt11.bound, PyInside.each, PyInside.lists, PyInside.within, Num] using hb
      refine ⟨_, rfl, rfl, _, rfl, if_f rfl ⟨_, rfl, rfl, _, rfl, if_f rfl ⟨_, rfl, rfl, _, rfl, if_f rfl ⟨_, rfl, rfl, _, rfl, if_f rfl ⟨_, rfl, rfl, _, rfl, if_f rfl ⟨_, rfl, rfl, _, rfl, if_f rfl ⟨_, rfl, rfl, _, rfl, if_f rfl ⟨_, rfl, rfl, _, rfl, if_f rfl ⟨_, rfl, rfl, _, rfl, if_f rfl ⟨_, rfl, rfl, _, rfl, if_f rfl ⟨_, rfl, rfl, _, rfl, if_t rfl ?_⟩⟩⟩⟩⟩⟩⟩⟩⟩⟩⟩
      refine ⟨_, rfl, o, L.dx, _, rfl, hA.hO, nm (by decide +kernel) (by decide +kernel) (by decide +kernel), _, rfl, na, _, _, _, rfl, rfl, SqL.of hna, at0, ?_⟩
      rw [st_package hx] at k
      exact ⟨o, S, g, x.toNat, by rw [← num_cast hx]; rfl, pre, k⟩
    · -- out
      obtain ⟨rfl, rfl⟩ : c = [11 :: nums] ∧ row = [] := by
        rcases his with ⟨_, h⟩ | ⟨q, _⟩
        · exact h
        · exact absurd q (by decide)
      obtain ⟨x, rfl⟩ : ∃ x, nums = [x] := match nums, hn with | [x], _ => ⟨x, rfl⟩
      have hx : Num x := by simpa [PyInside.call, PyUt11.bound, PyInside.each, PyInside.lists, PyInside.within, Num] using hb
      refine ⟨_, rfl, rfl, _, rfl, if_f rfl ⟨_, rfl, rfl, _, rfl, if_f rfl ⟨_, rfl, rfl, _, rfl, if_f rfl ⟨_, rfl, rfl, _, rfl, if_f rfl ⟨_, rfl, rfl, _, rfl, if_f rfl ⟨_, rfl, rfl, _, rfl, if_f rfl ⟨_, rfl, rfl, _, rfl, if_f rfl ⟨_, rfl, rfl, _, rfl, if_f rfl ⟨_, rfl, rfl, _, rfl, if_f rfl ⟨_, rfl, rfl, _, rfl, if_f rfl ⟨_, rfl, rfl, _, rfl, if_f rfl ?_⟩⟩⟩⟩⟩⟩⟩⟩⟩⟩⟩
      refine ⟨_, rfl, o, L.dx, _, rfl, hA.hO, nm (by decide +kernel) (by decide +kernel) (by decide +kernel), _, rfl, na, _, _, _, rfl, rfl, SqL.of hna, at0, ?_⟩
      rw [st_out hx] at k
      exact ⟨o, S, g, x.toNat, by rw [← num_cast hx]; rfl, pre, k⟩
end
end Cb

set_option Elab.async false
set_option linter.all false
set_option maxRecDepth 100000
set_option maxHeartbeats 2000000
namespace Cb
open PySem PySem.Spec PyProof.Rows L2
open Ut11 (House Piece Item Package)

def sp_answers (K : PySem.W.Frag) : Sp := fun vs H Q _ => ∃ (a : Addr) (zs : List Int) (cs : List Raw), vs = [.ref a] ∧ SqL K H a (zs.map V.int) ∧ zs.length ≤ 1800 ∧ Asked zs cs ∧
  ∀ (H' : Hp) (p : Addr), H' p = some (.lst ((PyUt11.answers zs).map V.int)) → Q (.ref p) H'

section
variable {P : Program} {w : World} {K : PySem.W.Frag} {mg : Str → Option Value} {base : Heap} {A : Ad} {wn : Addr}

theorem ok_answers {f : Addr} {fd : FuncData} (F : Fun K "answers" "answers" s_answers f fd) (T : Txt K mg A wn)
    (K_Office : MkG P w K mg base "Office" A.of 1 ["self"] (sp_Office_init A))
    (G_split_calls : FnG P w K mg base "split_calls" 1 ["calls"] (sp_split K))
    (G_answer_call : FnG P w K mg base "answer_call" 5 ["office", "call", "numbers", "row"] (sp_call A)) :
    FnOk P w K mg base CX0 6 f fd ["calls"] (sp_answers K) := by
  refine F.ok sc_answers (fun vs H Q E h => ?_) (fun cdv A' outer s H vs Q E hr h => ?_)
  · obtain ⟨a, zs, cs, rfl, _⟩ := h
    rfl
  · obtain ⟨a, zs, cs, rfl, hz, hlen, hask, k⟩ := h
    refine ⟨_, (pss_cons (ps_set (i := 1) sc_answers.nd rfl (Or.inl rfl) (pe_mk0 K_Office (hr.mono (by decide)) (by rfl)))
      (pss_cons (ps_set (i := 2) sc_answers.nd rfl (Or.inl rfl) (pe_lst pa_nil))
      (pss_cons (ps_for PassesOwn.never rfl (pi_list (pe_fn G_split_calls (hr.mono (by decide)) (by rfl) (pa_cons (pv 0) pa_nil))) (pg_name (i := 3) sc_answers.nd rfl (Or.inl rfl))
      (pss_cons (ps_set (i := 4) sc_answers.nd rfl (Or.inl rfl) (pe_fn G_answer_call (hr.mono (by decide)) (by rfl) (pa_cons (pv 1) (pa_cons (pe_ix ix_tup (pv 3) pe_int (fun _ _ => rfl)) (pa_cons (pe_ix ix_tup (pv 3) pe_int (fun _ _ => rfl)) (pa_cons (pe_ix ix_tup (pv 3) pe_int (fun _ _ => rfl)) pa_nil))))))
      (pss_cons (ps_expr (pe_bm PySem.F.plainAttrs_list PySem.F.slot_list_append PySem.F.type_list_append mt_append (pv 2) (pa_cons (pe_callB call_len_seq (by rfl) T.b_len PySem.boot_len (pa_cons (pv 4) pa_nil)) pa_nil)))
      (pss_one (ps_expr (pe_bm PySem.F.plainAttrs_list PySem.F.slot_list_extend PySem.F.type_list_extend mt_extend (pv 2) (pa_cons (pv 4) pa_nil)))))))
      (pss_one (ps_ret (pv 2)))))), ?_⟩
    -- office = Office()
    intro o dx no ndx nex
    refine ⟨o, dx, fun b => H b ≠ none, rfl, upd_same, fun b hb => ?_, fun z => z no, fun H1 hO1 kp1 => ⟨rfl, ?_⟩⟩
    · have m1 : b ≠ o := fun e => hb (by rw [e]; exact no)
      have m2 : b ≠ dx := fun e => hb (by rw [e]; exact ndx)
      rw [upd_ne m1, upd_ne m2]
      exact hb
    have s1 : Same H H1 := fun b u e => by
      have hb : H b ≠ none := by rw [e]; exact fun z => nomatch z
      rw [kp1 b hb, upd_ne (ne_of_none e no), upd_ne (ne_of_none e ndx)]
      exact e
    obtain ⟨L, hA, hg, hS⟩ := hO1
    -- given = []
    refine ⟨Nat.zero_le _, fun gv hgv => ?_⟩
    have s2 : Same H1 (upd H1 gv (.lst [])) := same_new hgv
    -- split_calls(calls)
    refine ⟨_, rfl, a, zs, cs, rfl, (s1.trans s2).seq hz, hlen, hask.eq, fun H3 tl td s3 htl ht3 htd hok => ?_⟩
    have hgv3 : H3 gv = some (.lst []) := s3 _ _ upd_same
    have ngt : gv ≠ tl := fun e => by rw [← e, upd_same] at htl; cases htl
    have s13 : Same H1 H3 := s2.trans s3
    let S : Addr → Prop := fun b => b = gv ∨ b = tl ∨ ∃ x ∈ td, b = x.t ∨ b = x.na ∨ b = x.ra
    have hSf : ∀ b, Foot o L b → ¬ S b := fun b fb hb => by
      obtain ⟨u, e⟩ := hA.there fb
      have e2 := s2 b u e
      rcases hb with z | z | ⟨x, hx, z⟩
      · rw [z, hgv] at e; cases e
      · rw [z, htl] at e2; cases e2
      · obtain ⟨_, ⟨n1, n2, n3⟩, _⟩ := hok x hx
        rcases z with z | z | z
        · rw [z, n1] at e2; cases e2
        · rw [z, n2] at e2; cases e2
        · rw [z, n3] at e2; cases e2
    have gne : ∀ x ∈ td, x.t ≠ gv ∧ x.na ≠ gv ∧ x.ra ≠ gv := fun x hx => by
      obtain ⟨_, ⟨n1, n2, n3⟩, _⟩ := hok x hx
      refine ⟨fun e => ?_, fun e => ?_, fun e => ?_⟩
      · rw [e, upd_same] at n1; cases n1
      · rw [e, upd_same] at n2; cases n2
      · rw [e, upd_same] at n3; cases n3
    -- the loop
    refine ⟨tl, rfl, ⟨_, SqL.of ht3⟩, for_list (K := K) (a := tl) (xs := td.map fun x => V.ref x.t) (fun i σ H' => ∃ (v1 v2 : Option V), σ = [some (.ref a), some (.ref o), some (.ref gv), v1, v2] ∧ Office A H' o S (after Ut11.init (cs.take i)) ∧
        H' gv = some (.lst ((out Ut11.init (cs.take i)).map V.int)) ∧ H' tl = some (.lst (td.map fun x => V.ref x.t)) ∧ ∀ x ∈ td, x.ok H')
      ⟨none, none, rfl, ⟨L, hA.same s13, hg, hSf⟩, hgv3, ht3, fun x hx => (hok x hx).1⟩ (fun i σ H' _ ⟨_, _, _, _, _, h, _⟩ => SqL.of h) ?_ ?_⟩
    · rintro i v σ H4 hi ⟨v1, v2, rfl, hO4, hgv4, htl4, hok4⟩
      obtain ⟨x, hxi, rfl⟩ : ∃ x, td[i]? = some x ∧ v = V.ref x.t := by
        rw [List.getElem?_map] at hi
        obtain ⟨x, h1, h2⟩ := Option.map_eq_some_iff.mp hi
        exact ⟨x, h1, h2.symm⟩
      have hxm : x ∈ td := List.mem_of_getElem? hxi
      have hci : cs[i]? = some x.c := by rw [← htd, List.getElem?_map, hxi]; rfl
      have hcm : x.c ∈ cs := List.mem_of_getElem? hci
      have htk : cs.take (i + 1) = cs.take i ++ [x.c] := by rw [List.take_add_one, hci]; rfl
      have hil : i < cs.length := (List.getElem?_eq_some_iff.mp hci).1
      have hgood : Good (after Ut11.init (cs.take i)) := after_good _ _ good_init
      have hopn : (after Ut11.init (cs.take i)).open_.length ≤ 1000 := by
        have h1 := after_open (cs.take i) Ut11.init
        have h2 := hask.most
        have h3 : (cs.take i).length ≤ 40 := by simp; omega
        have h4 : Ut11.init.open_.length = 0 := rfl
        omega
      obtain ⟨hx1, hx2, hx3⟩ := hok4 x hxm
      have trk4 : Trk S H4 := fun b hb => by
        rcases hb with z | z | ⟨y, hy, z⟩
        · rw [z, hgv4]; exact fun e => nomatch e
        · rw [z, htl4]; exact fun e => nomatch e
        · obtain ⟨y1, y2, y3⟩ := hok4 y hy
          rcases z with z | z | z
          · rw [z, y1]; exact fun e => nomatch e
          · rw [z, y2]; exact fun e => nomatch e
          · rw [z, y3]; exact fun e => nomatch e
      -- answer = answer_call(office, told[0], told[1], told[2])
      refine ⟨_, rfl, _, rfl, x.t, _, _, _, rfl, rfl, SqT.of hx1, at_of (j := 0) rfl rfl, _, rfl, x.t, _, _, _, rfl, rfl, SqT.of hx1, at_of (j := 1) rfl rfl, _, rfl, x.t, _, _, _, rfl, rfl, SqT.of hx1, at_of (j := 2) rfl rfl, ?_⟩
      refine ⟨o, S, _, x, rfl, ⟨hx1, hx2, hx3⟩, (hok x hxm).2.2, hask.inside _ hcm, hask.isSome _ hcm, ⟨hO4, hgood, hopn, trk4⟩, fun H5 p hO5 kp5 hp4 hp5 => ?_⟩
      have hgv5 : H5 gv = _ := (kp5 gv (.inl rfl)).trans hgv4
      have npg : p ≠ gv := fun e => by rw [e, hgv4] at hp4; cases hp4
      have hout := out_snoc Ut11.init (cs.take i) x.c
      rw [← htk] at hout
      have hsz : (out Ut11.init (cs.take (i + 1))).length ≤ 10000000 := Nat.le_trans (out_take_le _ _ _) hask.short
      rw [hout] at hsz
      simp only [List.length_append, List.length_cons] at hsz
      -- given.append(len(answer))
      refine ⟨_, rfl, .inl ⟨rfl, _, SqL.of hgv5⟩, _, rfl, p, _, rfl, .inl (SqL.of hp5), gv, _, _, rfl, rfl, hgv5, ?_, ?_⟩
      · rw [List.length_map]
        exact Nat.lt_of_le_of_lt (by omega : (out Ut11.init (cs.take i)).length ≤ 10000000) (by decide)
      -- given.extend(answer)
      refine ⟨_, rfl, .inl ⟨rfl, _, SqL.of upd_same⟩, _, rfl, gv, p, _, _, rfl, rfl, upd_same, by rw [upd_ne npg]; exact hp5, ?_, ?_⟩
      · simp only [List.length_append, List.length_map, List.length_cons, List.length_nil]
        exact Nat.le_trans (by omega : _ ≤ 10000000) (by decide)
      rw [upd_upd]
      obtain ⟨L5, hA5, hg5, hS5⟩ := hO5
      refine ⟨_, _, rfl, ⟨L5, hA5.out fun z => hS5 _ z (.inl rfl), by rw [htk, after_snoc]; exact hg5, hS5⟩, ?_, ?_, fun y hy => ?_⟩
      · rw [upd_same, hout]
        simp
      · rw [upd_ne ngt.symm, kp5 tl (.inr (.inl rfl))]
        exact htl4
      · obtain ⟨y1, y2, y3⟩ := hok4 y hy
        obtain ⟨d1, d2, d3⟩ := gne y hy
        exact ⟨by rw [upd_ne d1, kp5 _ (.inr (.inr ⟨y, hy, .inl rfl⟩))]; exact y1, by rw [upd_ne d2, kp5 _ (.inr (.inr ⟨y, hy, .inr (.inl rfl)⟩))]; exact y2, by rw [upd_ne d3, kp5 _ (.inr (.inr ⟨y, hy, .inr (.inr rfl)⟩))]; exact y3⟩
    · rintro σ H4 ⟨v1, v2, rfl, hO4, hgv4, htl4, hok4⟩
      refine ⟨_, rfl, k H4 gv ?_⟩
      have e : (td.map fun x => V.ref x.t).length = cs.length := by rw [← htd]; simp
      rw [hgv4, e, List.take_length, answers_out hask.eq]
end
end Cb

set_option Elab.async false
set_option linter.all false
set_option maxRecDepth 100000
set_option maxHeartbeats 2000000
namespace Cb
open PySem PySem.Spec PyProof.Rows L2
theorem all_mk {P : Program} {w : World} {K : PySem.W.Frag} {h : Heap} {mg : Str → Option Value} {fa CPiece CSent CPackage COpened COffice f0 f1 f2 f3 f4 f5 f6 f7 f8 f9 f10 f11 f12 f13 f14 f15 f16 f17 f18 f19 f20 f21 f22 f23 f24 f25 f26 f27 : Addr} (X : K.In h) (G : h.Ns mainGlobals mg) (hfa : mg "answers" = some (.ref fa))
    {od0 an0 : Option Addr} {sl0 : Array (Option Value)} {oc0 kV0 dc0 pm0 cd0 ct0 : Value}
    {od1 an1 : Option Addr} {sl1 : Array (Option Value)} {oc1 kV1 dc1 pm1 cd1 ct1 : Value}
    {od2 an2 : Option Addr} {sl2 : Array (Option Value)} {oc2 kV2 dc2 pm2 cd2 ct2 : Value}
    {od3 an3 : Option Addr} {sl3 : Array (Option Value)} {oc3 kV3 dc3 pm3 cd3 ct3 : Value}
    {od4 an4 : Option Addr} {sl4 : Array (Option Value)} {oc4 kV4 dc4 pm4 cd4 ct4 : Value}
    {od5 an5 : Option Addr} {sl5 : Array (Option Value)} {oc5 kV5 dc5 pm5 cd5 ct5 : Value}
    {od6 an6 : Option Addr} {sl6 : Array (Option Value)} {oc6 kV6 dc6 pm6 cd6 ct6 : Value}
    {od7 an7 : Option Addr} {sl7 : Array (Option Value)} {oc7 kV7 dc7 pm7 cd7 ct7 : Value}
    {od8 an8 : Option Addr} {sl8 : Array (Option Value)} {oc8 kV8 dc8 pm8 cd8 ct8 : Value}
    {od9 an9 : Option Addr} {sl9 : Array (Option Value)} {oc9 kV9 dc9 pm9 cd9 ct9 : Value}
    {od10 an10 : Option Addr} {sl10 : Array (Option Value)} {oc10 kV10 dc10 pm10 cd10 ct10 : Value}
    {od11 an11 : Option Addr} {sl11 : Array (Option Value)} {oc11 kV11 dc11 pm11 cd11 ct11 : Value}
    {od12 an12 : Option Addr} {sl12 : Array (Option Value)} {oc12 kV12 dc12 pm12 cd12 ct12 : Value}
    {od13 an13 : Option Addr} {sl13 : Array (Option Value)} {oc13 kV13 dc13 pm13 cd13 ct13 : Value}
    {od14 an14 : Option Addr} {sl14 : Array (Option Value)} {oc14 kV14 dc14 pm14 cd14 ct14 : Value}
    {od15 an15 : Option Addr} {sl15 : Array (Option Value)} {oc15 kV15 dc15 pm15 cd15 ct15 : Value}
    {od16 an16 : Option Addr} {sl16 : Array (Option Value)} {oc16 kV16 dc16 pm16 cd16 ct16 : Value}
    {od17 an17 : Option Addr} {sl17 : Array (Option Value)} {oc17 kV17 dc17 pm17 cd17 ct17 : Value}
    {od18 an18 : Option Addr} {sl18 : Array (Option Value)} {oc18 kV18 dc18 pm18 cd18 ct18 : Value}
    {od19 an19 : Option Addr} {sl19 : Array (Option Value)} {oc19 kV19 dc19 pm19 cd19 ct19 : Value}
    {od20 an20 : Option Addr} {sl20 : Array (Option Value)} {oc20 kV20 dc20 pm20 cd20 ct20 : Value}
    {od21 an21 : Option Addr} {sl21 : Array (Option Value)} {oc21 kV21 dc21 pm21 cd21 ct21 : Value}
    {od22 an22 : Option Addr} {sl22 : Array (Option Value)} {oc22 kV22 dc22 pm22 cd22 ct22 : Value}
    {od23 an23 : Option Addr} {sl23 : Array (Option Value)} {oc23 kV23 dc23 pm23 cd23 ct23 : Value}
    {od24 an24 : Option Addr} {sl24 : Array (Option Value)} {oc24 kV24 dc24 pm24 cd24 ct24 : Value}
    {od25 an25 : Option Addr} {sl25 : Array (Option Value)} {oc25 kV25 dc25 pm25 cd25 ct25 : Value}
    {od26 an26 : Option Addr} {sl26 : Array (Option Value)} {oc26 kV26 dc26 pm26 cd26 ct26 : Value}
    {od27 an27 : Option Addr} {sl27 : Array (Option Value)} {oc27 kV27 dc27 pm27 cd27 ct27 : Value}
    {t_MOST_NAME : Tok}
    {t_MOST_NUMBER : Tok}
    {t_MOST_PIECES : Tok}
    {t_MOST_PACKAGES : Tok}
    {t_MOST_AT_ONCE : Tok}
    {t_NO_TRANSLATION : Tok}
    {t_THEIRS_CHOSEN : Tok}
    {t_CALL_PIECE : Tok}
    {t_CALL_TEXT : Tok}
    {t_CALL_GONE : Tok}
    {t_CALL_PUT : Tok}
    {t_CALL_SEND : Tok}
    {t_CALL_BACK : Tok}
    {t_CALL_OFF : Tok}
    {t_CALL_CHOOSE : Tok}
    {t_CALL_OPEN : Tok}
    {t_CALL_PIECES : Tok}
    {t_CALL_PACKAGE : Tok}
    {t_REFUSED_NUMBERS : Tok}
    {t_REFUSED_NO_SUCH : Tok}
    {t_REFUSED_NOT_IN_IT : Tok}
    {t_REFUSED_THERE_ALREADY : Tok}
    {t_REFUSED_FULL : Tok}
    {t_REFUSED_NO_MORE : Tok}
    {t_OURS_TOO : Tok}
    {t_THE_BASE : Tok}
    {t_TAKEN : Tok}
    {t_NOT_OURS : Tok}
    {t_OF_OTHER_TEXT : Tok}
    {t_OF_GONE : Tok}
    {wn : Addr} {ow : Obj} {its : Array Value} {nw : Nat}
    (aPiece : PySem.W.nsIn K mainGlobals "Piece" = some (some (.ref CPiece)))
    (pgPiece : PySem.W.plainGet K CPiece Str.empty = true)
    (hdPiece : PySem.W.hasDictIn K CPiece = true)
    (poPiece : PySem.W.plainOver K CPiece = true)
    (saPiece : PySem.W.findIn K (.ref CPiece) "__setattr__" = some (some (.builtin "object.__setattr__")))
    (mkPiece : PySem.W.makesIn K CPiece = true)
    (kcPiece : PySem.W.keepIn K (.ref CPiece) = true)
    (nPiece_text : PySem.W.findIn K (.ref CPiece) "text" = some none)
    (nPiece_translation : PySem.W.findIn K (.ref CPiece) "translation" = some none)
    (aSent : PySem.W.nsIn K mainGlobals "Sent" = some (some (.ref CSent)))
    (pgSent : PySem.W.plainGet K CSent Str.empty = true)
    (hdSent : PySem.W.hasDictIn K CSent = true)
    (poSent : PySem.W.plainOver K CSent = true)
    (saSent : PySem.W.findIn K (.ref CSent) "__setattr__" = some (some (.builtin "object.__setattr__")))
    (mkSent : PySem.W.makesIn K CSent = true)
    (kcSent : PySem.W.keepIn K (.ref CSent) = true)
    (nSent_text : PySem.W.findIn K (.ref CSent) "text" = some none)
    (nSent_base : PySem.W.findIn K (.ref CSent) "base" = some none)
    (aPackage : PySem.W.nsIn K mainGlobals "Package" = some (some (.ref CPackage)))
    (pgPackage : PySem.W.plainGet K CPackage Str.empty = true)
    (hdPackage : PySem.W.hasDictIn K CPackage = true)
    (poPackage : PySem.W.plainOver K CPackage = true)
    (saPackage : PySem.W.findIn K (.ref CPackage) "__setattr__" = some (some (.builtin "object.__setattr__")))
    (mkPackage : PySem.W.makesIn K CPackage = true)
    (kcPackage : PySem.W.keepIn K (.ref CPackage) = true)
    (nPackage_sent : PySem.W.findIn K (.ref CPackage) "sent" = some none)
    (nPackage_given_up : PySem.W.findIn K (.ref CPackage) "given_up" = some none)
    (aOpened : PySem.W.nsIn K mainGlobals "Opened" = some (some (.ref COpened)))
    (pgOpened : PySem.W.plainGet K COpened Str.empty = true)
    (hdOpened : PySem.W.hasDictIn K COpened = true)
    (poOpened : PySem.W.plainOver K COpened = true)
    (saOpened : PySem.W.findIn K (.ref COpened) "__setattr__" = some (some (.builtin "object.__setattr__")))
    (mkOpened : PySem.W.makesIn K COpened = true)
    (kcOpened : PySem.W.keepIn K (.ref COpened) = true)
    (nOpened_name : PySem.W.findIn K (.ref COpened) "name" = some none)
    (nOpened_package : PySem.W.findIn K (.ref COpened) "package" = some none)
    (nOpened_text : PySem.W.findIn K (.ref COpened) "text" = some none)
    (nOpened_theirs : PySem.W.findIn K (.ref COpened) "theirs" = some none)
    (aOffice : PySem.W.nsIn K mainGlobals "Office" = some (some (.ref COffice)))
    (pgOffice : PySem.W.plainGet K COffice Str.empty = true)
    (hdOffice : PySem.W.hasDictIn K COffice = true)
    (poOffice : PySem.W.plainOver K COffice = true)
    (saOffice : PySem.W.findIn K (.ref COffice) "__setattr__" = some (some (.builtin "object.__setattr__")))
    (mkOffice : PySem.W.makesIn K COffice = true)
    (kcOffice : PySem.W.keepIn K (.ref COffice) = true)
    (nOffice_pieces : PySem.W.findIn K (.ref COffice) "pieces" = some none)
    (nOffice_packages : PySem.W.findIn K (.ref COffice) "packages" = some none)
    (nOffice_opened : PySem.W.findIn K (.ref COffice) "opened" = some none)
    (a0 : PySem.W.findIn K (.ref CPiece) "__init__" = some (some (.ref f0)))
    (i0 : PySem.W.isFn K (.ref f0) = true)
    (l0 : K.lookup f0 = some ⟨oc0, od0, .func (PySem.W.fnOf "__init__" "Piece.__init__" (defArgs s_Piece_init) (defBody s_Piece_init) (defScope s_Piece_init) .none kV0 dc0 pm0 an0 cd0 ct0), sl0⟩)
    (c0 : PySem.W.codeIn K cd0 "Piece.__init__" = true)
    (k0 : PySem.W.keepIn K (.ref f0) = true)
    (a1 : PySem.W.findIn K (.ref CSent) "__init__" = some (some (.ref f1)))
    (i1 : PySem.W.isFn K (.ref f1) = true)
    (l1 : K.lookup f1 = some ⟨oc1, od1, .func (PySem.W.fnOf "__init__" "Sent.__init__" (defArgs s_Sent_init) (defBody s_Sent_init) (defScope s_Sent_init) .none kV1 dc1 pm1 an1 cd1 ct1), sl1⟩)
    (c1 : PySem.W.codeIn K cd1 "Sent.__init__" = true)
    (k1 : PySem.W.keepIn K (.ref f1) = true)
    (a2 : PySem.W.findIn K (.ref CPackage) "__init__" = some (some (.ref f2)))
    (i2 : PySem.W.isFn K (.ref f2) = true)
    (l2 : K.lookup f2 = some ⟨oc2, od2, .func (PySem.W.fnOf "__init__" "Package.__init__" (defArgs s_Package_init) (defBody s_Package_init) (defScope s_Package_init) .none kV2 dc2 pm2 an2 cd2 ct2), sl2⟩)
    (c2 : PySem.W.codeIn K cd2 "Package.__init__" = true)
    (k2 : PySem.W.keepIn K (.ref f2) = true)
    (a3 : PySem.W.findIn K (.ref COpened) "__init__" = some (some (.ref f3)))
    (i3 : PySem.W.isFn K (.ref f3) = true)
    (l3 : K.lookup f3 = some ⟨oc3, od3, .func (PySem.W.fnOf "__init__" "Opened.__init__" (defArgs s_Opened_init) (defBody s_Opened_init) (defScope s_Opened_init) .none kV3 dc3 pm3 an3 cd3 ct3), sl3⟩)
    (c3 : PySem.W.codeIn K cd3 "Opened.__init__" = true)
    (k3 : PySem.W.keepIn K (.ref f3) = true)
    (a4 : PySem.W.findIn K (.ref COffice) "__init__" = some (some (.ref f4)))
    (i4 : PySem.W.isFn K (.ref f4) = true)
    (l4 : K.lookup f4 = some ⟨oc4, od4, .func (PySem.W.fnOf "__init__" "Office.__init__" (defArgs s_Office_init) (defBody s_Office_init) (defScope s_Office_init) .none kV4 dc4 pm4 an4 cd4 ct4), sl4⟩)
    (c4 : PySem.W.codeIn K cd4 "Office.__init__" = true)
    (k4 : PySem.W.keepIn K (.ref f4) = true)
    (a5 : PySem.W.findIn K (.ref COffice) "how_it_stands" = some (some (.ref f5)))
    (i5 : PySem.W.isFn K (.ref f5) = true)
    (l5 : K.lookup f5 = some ⟨oc5, od5, .func (PySem.W.fnOf "how_it_stands" "Office.how_it_stands" (defArgs s_Office_how_it_stands) (defBody s_Office_how_it_stands) (defScope s_Office_how_it_stands) .none kV5 dc5 pm5 an5 cd5 ct5), sl5⟩)
    (c5 : PySem.W.codeIn K cd5 "Office.how_it_stands" = true)
    (k5 : PySem.W.keepIn K (.ref f5) = true)
    (a6 : PySem.W.findIn K (.ref COffice) "add_piece" = some (some (.ref f6)))
    (i6 : PySem.W.isFn K (.ref f6) = true)
    (l6 : K.lookup f6 = some ⟨oc6, od6, .func (PySem.W.fnOf "add_piece" "Office.add_piece" (defArgs s_Office_add_piece) (defBody s_Office_add_piece) (defScope s_Office_add_piece) .none kV6 dc6 pm6 an6 cd6 ct6), sl6⟩)
    (c6 : PySem.W.codeIn K cd6 "Office.add_piece" = true)
    (k6 : PySem.W.keepIn K (.ref f6) = true)
    (a7 : PySem.W.findIn K (.ref COffice) "change_text" = some (some (.ref f7)))
    (i7 : PySem.W.isFn K (.ref f7) = true)
    (l7 : K.lookup f7 = some ⟨oc7, od7, .func (PySem.W.fnOf "change_text" "Office.change_text" (defArgs s_Office_change_text) (defBody s_Office_change_text) (defScope s_Office_change_text) .none kV7 dc7 pm7 an7 cd7 ct7), sl7⟩)
    (c7 : PySem.W.codeIn K cd7 "Office.change_text" = true)
    (k7 : PySem.W.keepIn K (.ref f7) = true)
    (a8 : PySem.W.findIn K (.ref COffice) "drop_piece" = some (some (.ref f8)))
    (i8 : PySem.W.isFn K (.ref f8) = true)
    (l8 : K.lookup f8 = some ⟨oc8, od8, .func (PySem.W.fnOf "drop_piece" "Office.drop_piece" (defArgs s_Office_drop_piece) (defBody s_Office_drop_piece) (defScope s_Office_drop_piece) .none kV8 dc8 pm8 an8 cd8 ct8), sl8⟩)
    (c8 : PySem.W.codeIn K cd8 "Office.drop_piece" = true)
    (k8 : PySem.W.keepIn K (.ref f8) = true)
    (a9 : PySem.W.findIn K (.ref COffice) "put_translation" = some (some (.ref f9)))
    (i9 : PySem.W.isFn K (.ref f9) = true)
    (l9 : K.lookup f9 = some ⟨oc9, od9, .func (PySem.W.fnOf "put_translation" "Office.put_translation" (defArgs s_Office_put_translation) (defBody s_Office_put_translation) (defScope s_Office_put_translation) .none kV9 dc9 pm9 an9 cd9 ct9), sl9⟩)
    (c9 : PySem.W.codeIn K cd9 "Office.put_translation" = true)
    (k9 : PySem.W.keepIn K (.ref f9) = true)
    (a10 : PySem.W.nsIn K mainGlobals "fit_together" = some (some (.ref f10)))
    (l10 : K.lookup f10 = some ⟨oc10, od10, .func (PySem.W.fnOf "fit_together" "fit_together" (defArgs s_fit_together) (defBody s_fit_together) (defScope s_fit_together) .none kV10 dc10 pm10 an10 cd10 ct10), sl10⟩)
    (c10 : PySem.W.codeIn K cd10 "fit_together" = true)
    (k10 : PySem.W.keepIn K (.ref f10) = true)
    (a11 : PySem.W.nsIn K mainGlobals "all_among" = some (some (.ref f11)))
    (l11 : K.lookup f11 = some ⟨oc11, od11, .func (PySem.W.fnOf "all_among" "all_among" (defArgs s_all_among) (defBody s_all_among) (defScope s_all_among) .none kV11 dc11 pm11 an11 cd11 ct11), sl11⟩)
    (c11 : PySem.W.codeIn K cd11 "all_among" = true)
    (k11 : PySem.W.keepIn K (.ref f11) = true)
    (a12 : PySem.W.findIn K (.ref COffice) "send_package" = some (some (.ref f12)))
    (i12 : PySem.W.isFn K (.ref f12) = true)
    (l12 : K.lookup f12 = some ⟨oc12, od12, .func (PySem.W.fnOf "send_package" "Office.send_package" (defArgs s_Office_send_package) (defBody s_Office_send_package) (defScope s_Office_send_package) .none kV12 dc12 pm12 an12 cd12 ct12), sl12⟩)
    (c12 : PySem.W.codeIn K cd12 "Office.send_package" = true)
    (k12 : PySem.W.keepIn K (.ref f12) = true)
    (a13 : PySem.W.nsIn K mainGlobals "beside_ours" = some (some (.ref f13)))
    (l13 : K.lookup f13 = some ⟨oc13, od13, .func (PySem.W.fnOf "beside_ours" "beside_ours" (defArgs s_beside_ours) (defBody s_beside_ours) (defScope s_beside_ours) .none kV13 dc13 pm13 an13 cd13 ct13), sl13⟩)
    (c13 : PySem.W.codeIn K cd13 "beside_ours" = true)
    (k13 : PySem.W.keepIn K (.ref f13) = true)
    (a14 : PySem.W.nsIn K mainGlobals "outcome_of" = some (some (.ref f14)))
    (l14 : K.lookup f14 = some ⟨oc14, od14, .func (PySem.W.fnOf "outcome_of" "outcome_of" (defArgs s_outcome_of) (defBody s_outcome_of) (defScope s_outcome_of) .none kV14 dc14 pm14 an14 cd14 ct14), sl14⟩)
    (c14 : PySem.W.codeIn K cd14 "outcome_of" = true)
    (k14 : PySem.W.keepIn K (.ref f14) = true)
    (a15 : PySem.W.findIn K (.ref COffice) "close_opened" = some (some (.ref f15)))
    (i15 : PySem.W.isFn K (.ref f15) = true)
    (l15 : K.lookup f15 = some ⟨oc15, od15, .func (PySem.W.fnOf "close_opened" "Office.close_opened" (defArgs s_Office_close_opened) (defBody s_Office_close_opened) (defScope s_Office_close_opened) .none kV15 dc15 pm15 an15 cd15 ct15), sl15⟩)
    (c15 : PySem.W.codeIn K cd15 "Office.close_opened" = true)
    (k15 : PySem.W.keepIn K (.ref f15) = true)
    (a16 : PySem.W.findIn K (.ref COffice) "take_back_one" = some (some (.ref f16)))
    (i16 : PySem.W.isFn K (.ref f16) = true)
    (l16 : K.lookup f16 = some ⟨oc16, od16, .func (PySem.W.fnOf "take_back_one" "Office.take_back_one" (defArgs s_Office_take_back_one) (defBody s_Office_take_back_one) (defScope s_Office_take_back_one) .none kV16 dc16 pm16 an16 cd16 ct16), sl16⟩)
    (c16 : PySem.W.codeIn K cd16 "Office.take_back_one" = true)
    (k16 : PySem.W.keepIn K (.ref f16) = true)
    (a17 : PySem.W.findIn K (.ref COffice) "take_back" = some (some (.ref f17)))
    (i17 : PySem.W.isFn K (.ref f17) = true)
    (l17 : K.lookup f17 = some ⟨oc17, od17, .func (PySem.W.fnOf "take_back" "Office.take_back" (defArgs s_Office_take_back) (defBody s_Office_take_back) (defScope s_Office_take_back) .none kV17 dc17 pm17 an17 cd17 ct17), sl17⟩)
    (c17 : PySem.W.codeIn K cd17 "Office.take_back" = true)
    (k17 : PySem.W.keepIn K (.ref f17) = true)
    (a18 : PySem.W.findIn K (.ref COffice) "find_opened" = some (some (.ref f18)))
    (i18 : PySem.W.isFn K (.ref f18) = true)
    (l18 : K.lookup f18 = some ⟨oc18, od18, .func (PySem.W.fnOf "find_opened" "Office.find_opened" (defArgs s_Office_find_opened) (defBody s_Office_find_opened) (defScope s_Office_find_opened) .none kV18 dc18 pm18 an18 cd18 ct18), sl18⟩)
    (c18 : PySem.W.codeIn K cd18 "Office.find_opened" = true)
    (k18 : PySem.W.keepIn K (.ref f18) = true)
    (a19 : PySem.W.findIn K (.ref COffice) "give_up" = some (some (.ref f19)))
    (i19 : PySem.W.isFn K (.ref f19) = true)
    (l19 : K.lookup f19 = some ⟨oc19, od19, .func (PySem.W.fnOf "give_up" "Office.give_up" (defArgs s_Office_give_up) (defBody s_Office_give_up) (defScope s_Office_give_up) .none kV19 dc19 pm19 an19 cd19 ct19), sl19⟩)
    (c19 : PySem.W.codeIn K cd19 "Office.give_up" = true)
    (k19 : PySem.W.keepIn K (.ref f19) = true)
    (a20 : PySem.W.findIn K (.ref COffice) "choose" = some (some (.ref f20)))
    (i20 : PySem.W.isFn K (.ref f20) = true)
    (l20 : K.lookup f20 = some ⟨oc20, od20, .func (PySem.W.fnOf "choose" "Office.choose" (defArgs s_Office_choose) (defBody s_Office_choose) (defScope s_Office_choose) .none kV20 dc20 pm20 an20 cd20 ct20), sl20⟩)
    (c20 : PySem.W.codeIn K cd20 "Office.choose" = true)
    (k20 : PySem.W.keepIn K (.ref f20) = true)
    (a21 : PySem.W.findIn K (.ref COffice) "tell_opened" = some (some (.ref f21)))
    (i21 : PySem.W.isFn K (.ref f21) = true)
    (l21 : K.lookup f21 = some ⟨oc21, od21, .func (PySem.W.fnOf "tell_opened" "Office.tell_opened" (defArgs s_Office_tell_opened) (defBody s_Office_tell_opened) (defScope s_Office_tell_opened) .none kV21 dc21 pm21 an21 cd21 ct21), sl21⟩)
    (c21 : PySem.W.codeIn K cd21 "Office.tell_opened" = true)
    (k21 : PySem.W.keepIn K (.ref f21) = true)
    (a22 : PySem.W.findIn K (.ref COffice) "tell_pieces" = some (some (.ref f22)))
    (i22 : PySem.W.isFn K (.ref f22) = true)
    (l22 : K.lookup f22 = some ⟨oc22, od22, .func (PySem.W.fnOf "tell_pieces" "Office.tell_pieces" (defArgs s_Office_tell_pieces) (defBody s_Office_tell_pieces) (defScope s_Office_tell_pieces) .none kV22 dc22 pm22 an22 cd22 ct22), sl22⟩)
    (c22 : PySem.W.codeIn K cd22 "Office.tell_pieces" = true)
    (k22 : PySem.W.keepIn K (.ref f22) = true)
    (a23 : PySem.W.findIn K (.ref COffice) "tell_package" = some (some (.ref f23)))
    (i23 : PySem.W.isFn K (.ref f23) = true)
    (l23 : K.lookup f23 = some ⟨oc23, od23, .func (PySem.W.fnOf "tell_package" "Office.tell_package" (defArgs s_Office_tell_package) (defBody s_Office_tell_package) (defScope s_Office_tell_package) .none kV23 dc23 pm23 an23 cd23 ct23), sl23⟩)
    (c23 : PySem.W.codeIn K cd23 "Office.tell_package" = true)
    (k23 : PySem.W.keepIn K (.ref f23) = true)
    (a24 : PySem.W.findIn K (.ref COffice) "tell_out" = some (some (.ref f24)))
    (i24 : PySem.W.isFn K (.ref f24) = true)
    (l24 : K.lookup f24 = some ⟨oc24, od24, .func (PySem.W.fnOf "tell_out" "Office.tell_out" (defArgs s_Office_tell_out) (defBody s_Office_tell_out) (defScope s_Office_tell_out) .none kV24 dc24 pm24 an24 cd24 ct24), sl24⟩)
    (c24 : PySem.W.codeIn K cd24 "Office.tell_out" = true)
    (k24 : PySem.W.keepIn K (.ref f24) = true)
    (a25 : PySem.W.nsIn K mainGlobals "split_calls" = some (some (.ref f25)))
    (l25 : K.lookup f25 = some ⟨oc25, od25, .func (PySem.W.fnOf "split_calls" "split_calls" (defArgs s_split_calls) (defBody s_split_calls) (defScope s_split_calls) .none kV25 dc25 pm25 an25 cd25 ct25), sl25⟩)
    (c25 : PySem.W.codeIn K cd25 "split_calls" = true)
    (k25 : PySem.W.keepIn K (.ref f25) = true)
    (a26 : PySem.W.nsIn K mainGlobals "answer_call" = some (some (.ref f26)))
    (l26 : K.lookup f26 = some ⟨oc26, od26, .func (PySem.W.fnOf "answer_call" "answer_call" (defArgs s_answer_call) (defBody s_answer_call) (defScope s_answer_call) .none kV26 dc26 pm26 an26 cd26 ct26), sl26⟩)
    (c26 : PySem.W.codeIn K cd26 "answer_call" = true)
    (k26 : PySem.W.keepIn K (.ref f26) = true)
    (a27 : PySem.W.nsIn K mainGlobals "answers" = some (some (.ref f27)))
    (l27 : K.lookup f27 = some ⟨oc27, od27, .func (PySem.W.fnOf "answers" "answers" (defArgs s_answers) (defBody s_answers) (defScope s_answers) .none kV27 dc27 pm27 an27 cd27 ct27), sl27⟩)
    (c27 : PySem.W.codeIn K cd27 "answers" = true)
    (k27 : PySem.W.keepIn K (.ref f27) = true)
    (c_MOST_NAME : PySem.W.nsIn K mainGlobals "MOST_NAME" = some (some (.int (99) t_MOST_NAME)))
    (c_MOST_NUMBER : PySem.W.nsIn K mainGlobals "MOST_NUMBER" = some (some (.int (999) t_MOST_NUMBER)))
    (c_MOST_PIECES : PySem.W.nsIn K mainGlobals "MOST_PIECES" = some (some (.int (12) t_MOST_PIECES)))
    (c_MOST_PACKAGES : PySem.W.nsIn K mainGlobals "MOST_PACKAGES" = some (some (.int (10) t_MOST_PACKAGES)))
    (c_MOST_AT_ONCE : PySem.W.nsIn K mainGlobals "MOST_AT_ONCE" = some (some (.int (8) t_MOST_AT_ONCE)))
    (c_NO_TRANSLATION : PySem.W.nsIn K mainGlobals "NO_TRANSLATION" = some (some (.int (0) t_NO_TRANSLATION)))
    (c_THEIRS_CHOSEN : PySem.W.nsIn K mainGlobals "THEIRS_CHOSEN" = some (some (.int (1) t_THEIRS_CHOSEN)))
    (c_CALL_PIECE : PySem.W.nsIn K mainGlobals "CALL_PIECE" = some (some (.int (0) t_CALL_PIECE)))
    (c_CALL_TEXT : PySem.W.nsIn K mainGlobals "CALL_TEXT" = some (some (.int (1) t_CALL_TEXT)))
    (c_CALL_GONE : PySem.W.nsIn K mainGlobals "CALL_GONE" = some (some (.int (2) t_CALL_GONE)))
    (c_CALL_PUT : PySem.W.nsIn K mainGlobals "CALL_PUT" = some (some (.int (3) t_CALL_PUT)))
    (c_CALL_SEND : PySem.W.nsIn K mainGlobals "CALL_SEND" = some (some (.int (4) t_CALL_SEND)))
    (c_CALL_BACK : PySem.W.nsIn K mainGlobals "CALL_BACK" = some (some (.int (5) t_CALL_BACK)))
    (c_CALL_OFF : PySem.W.nsIn K mainGlobals "CALL_OFF" = some (some (.int (6) t_CALL_OFF)))
    (c_CALL_CHOOSE : PySem.W.nsIn K mainGlobals "CALL_CHOOSE" = some (some (.int (7) t_CALL_CHOOSE)))
    (c_CALL_OPEN : PySem.W.nsIn K mainGlobals "CALL_OPEN" = some (some (.int (8) t_CALL_OPEN)))
    (c_CALL_PIECES : PySem.W.nsIn K mainGlobals "CALL_PIECES" = some (some (.int (9) t_CALL_PIECES)))
    (c_CALL_PACKAGE : PySem.W.nsIn K mainGlobals "CALL_PACKAGE" = some (some (.int (10) t_CALL_PACKAGE)))
    (c_REFUSED_NUMBERS : PySem.W.nsIn K mainGlobals "REFUSED_NUMBERS" = some (some (.int (-1) t_REFUSED_NUMBERS)))
    (c_REFUSED_NO_SUCH : PySem.W.nsIn K mainGlobals "REFUSED_NO_SUCH" = some (some (.int (-2) t_REFUSED_NO_SUCH)))
    (c_REFUSED_NOT_IN_IT : PySem.W.nsIn K mainGlobals "REFUSED_NOT_IN_IT" = some (some (.int (-3) t_REFUSED_NOT_IN_IT)))
    (c_REFUSED_THERE_ALREADY : PySem.W.nsIn K mainGlobals "REFUSED_THERE_ALREADY" = some (some (.int (-4) t_REFUSED_THERE_ALREADY)))
    (c_REFUSED_FULL : PySem.W.nsIn K mainGlobals "REFUSED_FULL" = some (some (.int (-5) t_REFUSED_FULL)))
    (c_REFUSED_NO_MORE : PySem.W.nsIn K mainGlobals "REFUSED_NO_MORE" = some (some (.int (-6) t_REFUSED_NO_MORE)))
    (c_OURS_TOO : PySem.W.nsIn K mainGlobals "OURS_TOO" = some (some (.int (0) t_OURS_TOO)))
    (c_THE_BASE : PySem.W.nsIn K mainGlobals "THE_BASE" = some (some (.int (1) t_THE_BASE)))
    (c_TAKEN : PySem.W.nsIn K mainGlobals "TAKEN" = some (some (.int (2) t_TAKEN)))
    (c_NOT_OURS : PySem.W.nsIn K mainGlobals "NOT_OURS" = some (some (.int (3) t_NOT_OURS)))
    (c_OF_OTHER_TEXT : PySem.W.nsIn K mainGlobals "OF_OTHER_TEXT" = some (some (.int (4) t_OF_OTHER_TEXT)))
    (c_OF_GONE : PySem.W.nsIn K mainGlobals "OF_GONE" = some (some (.int (5) t_OF_GONE)))
    (b_all : PySem.W.nsIn K mainGlobals "all" = some none)
    (b_enumerate : PySem.W.nsIn K mainGlobals "enumerate" = some none)
    (b_len : PySem.W.nsIn K mainGlobals "len" = some none)
    (b_max : PySem.W.nsIn K mainGlobals "max" = some none)
    (b_range : PySem.W.nsIn K mainGlobals "range" = some none)
    (b_set : PySem.W.nsIn K mainGlobals "set" = some none)
    (w1 : PySem.W.nsIn K mainGlobals "WHOLE_NUMBERS" = some (some (.ref wn)))
    (w2 : K.lookup wn = some ow)
    (w3 : ow.cls = .type "tuple")
    (w4 : ow.data = .seq its nw)
    (w5 : its.size ≤ sizeLine)
    (w6 : Vals WN its.toList) :
    ∃ fd : FuncData, (∀ (s : Shared) (us : List Value), us.length = (["calls"] : List Str).length → BindsTo s fd ⟨us, []⟩ ((["calls"] : List Str).zip us)) ∧ ∀ base : Heap, K.In base → base.Ns mainGlobals mg → FnOk P w K mg base CX0 6 fa fd ["calls"] (sp_answers K) := by
  have e := hfa.symm.trans (PySem.W.mg_of X G a27)
  cases e
  have T : Txt K mg ⟨CPiece, CSent, CPackage, COpened, COffice⟩ wn := ⟨⟨_, PySem.W.mg_of X G c_MOST_NAME⟩, ⟨_, PySem.W.mg_of X G c_MOST_NUMBER⟩, ⟨_, PySem.W.mg_of X G c_MOST_PIECES⟩, ⟨_, PySem.W.mg_of X G c_MOST_PACKAGES⟩, ⟨_, PySem.W.mg_of X G c_MOST_AT_ONCE⟩, ⟨_, PySem.W.mg_of X G c_NO_TRANSLATION⟩, ⟨_, PySem.W.mg_of X G c_THEIRS_CHOSEN⟩, ⟨_, PySem.W.mg_of X G c_CALL_PIECE⟩, ⟨_, PySem.W.mg_of X G c_CALL_TEXT⟩, ⟨_, PySem.W.mg_of X G c_CALL_GONE⟩, ⟨_, PySem.W.mg_of X G c_CALL_PUT⟩, ⟨_, PySem.W.mg_of X G c_CALL_SEND⟩, ⟨_, PySem.W.mg_of X G c_CALL_BACK⟩, ⟨_, PySem.W.mg_of X G c_CALL_OFF⟩, ⟨_, PySem.W.mg_of X G c_CALL_CHOOSE⟩, ⟨_, PySem.W.mg_of X G c_CALL_OPEN⟩, ⟨_, PySem.W.mg_of X G c_CALL_PIECES⟩, ⟨_, PySem.W.mg_of X G c_CALL_PACKAGE⟩, ⟨_, PySem.W.mg_of X G c_REFUSED_NUMBERS⟩, ⟨_, PySem.W.mg_of X G c_REFUSED_NO_SUCH⟩, ⟨_, PySem.W.mg_of X G c_REFUSED_NOT_IN_IT⟩, ⟨_, PySem.W.mg_of X G c_REFUSED_THERE_ALREADY⟩, ⟨_, PySem.W.mg_of X G c_REFUSED_FULL⟩, ⟨_, PySem.W.mg_of X G c_REFUSED_NO_MORE⟩, ⟨_, PySem.W.mg_of X G c_OURS_TOO⟩, ⟨_, PySem.W.mg_of X G c_THE_BASE⟩, ⟨_, PySem.W.mg_of X G c_TAKEN⟩, ⟨_, PySem.W.mg_of X G c_NOT_OURS⟩, ⟨_, PySem.W.mg_of X G c_OF_OTHER_TEXT⟩, ⟨_, PySem.W.mg_of X G c_OF_GONE⟩, PySem.W.mg_none_of X G b_all, PySem.W.mg_none_of X G b_enumerate, PySem.W.mg_none_of X G b_len, PySem.W.mg_none_of X G b_max, PySem.W.mg_none_of X G b_range, PySem.W.mg_none_of X G b_set, ⟨pgPiece, hdPiece, poPiece, saPiece⟩, nPiece_text, nPiece_translation, ⟨pgSent, hdSent, poSent, saSent⟩, nSent_text, nSent_base, ⟨pgPackage, hdPackage, poPackage, saPackage⟩, nPackage_sent, nPackage_given_up, ⟨pgOpened, hdOpened, poOpened, saOpened⟩, nOpened_name, nOpened_package, nOpened_text, nOpened_theirs, ⟨pgOffice, hdOffice, poOffice, saOffice⟩, nOffice_pieces, nOffice_packages, nOffice_opened, PySem.W.mg_of X G w1⟩
  have hwn : ∀ H, SqT K H wn WN := fun _ => .inr ⟨ow, its, nw, w2, w3, w4, w5, w6⟩
  have F0 := fun_mk (st := s_Piece_init) l0 c0 k0
  have b0 := F0.binds (ps := ["self", "text"]) fun _ _ _ _ _ _ us hl => match us, hl with | [_, _], _ => rfl
  have F1 := fun_mk (st := s_Sent_init) l1 c1 k1
  have b1 := F1.binds (ps := ["self", "text", "base"]) fun _ _ _ _ _ _ us hl => match us, hl with | [_, _, _], _ => rfl
  have F2 := fun_mk (st := s_Package_init) l2 c2 k2
  have b2 := F2.binds (ps := ["self", "sent"]) fun _ _ _ _ _ _ us hl => match us, hl with | [_, _], _ => rfl
  have F3 := fun_mk (st := s_Opened_init) l3 c3 k3
  have b3 := F3.binds (ps := ["self", "name", "package", "text", "theirs"]) fun _ _ _ _ _ _ us hl => match us, hl with | [_, _, _, _, _], _ => rfl
  have F4 := fun_mk (st := s_Office_init) l4 c4 k4
  have b4 := F4.binds (ps := ["self"]) fun _ _ _ _ _ _ us hl => match us, hl with | [_], _ => rfl
  have F5 := fun_mk (st := s_Office_how_it_stands) l5 c5 k5
  have b5 := F5.binds (ps := ["self"]) fun _ _ _ _ _ _ us hl => match us, hl with | [_], _ => rfl
  have F6 := fun_mk (st := s_Office_add_piece) l6 c6 k6
  have b6 := F6.binds (ps := ["self", "name", "text"]) fun _ _ _ _ _ _ us hl => match us, hl with | [_, _, _], _ => rfl
  have F7 := fun_mk (st := s_Office_change_text) l7 c7 k7
  have b7 := F7.binds (ps := ["self", "name", "text"]) fun _ _ _ _ _ _ us hl => match us, hl with | [_, _, _], _ => rfl
  have F8 := fun_mk (st := s_Office_drop_piece) l8 c8 k8
  have b8 := F8.binds (ps := ["self", "name"]) fun _ _ _ _ _ _ us hl => match us, hl with | [_, _], _ => rfl
  have F9 := fun_mk (st := s_Office_put_translation) l9 c9 k9
  have b9 := F9.binds (ps := ["self", "name", "translation"]) fun _ _ _ _ _ _ us hl => match us, hl with | [_, _, _], _ => rfl
  have F10 := fun_mk (st := s_fit_together) l10 c10 k10
  have b10 := F10.binds (ps := ["names"]) fun _ _ _ _ _ _ us hl => match us, hl with | [_], _ => rfl
  have F11 := fun_mk (st := s_all_among) l11 c11 k11
  have b11 := F11.binds (ps := ["names", "known"]) fun _ _ _ _ _ _ us hl => match us, hl with | [_, _], _ => rfl
  have F12 := fun_mk (st := s_Office_send_package) l12 c12 k12
  have b12 := F12.binds (ps := ["self", "names"]) fun _ _ _ _ _ _ us hl => match us, hl with | [_, _], _ => rfl
  have F13 := fun_mk (st := s_beside_ours) l13 c13 k13
  have b13 := F13.binds (ps := ["piece", "text", "theirs"]) fun _ _ _ _ _ _ us hl => match us, hl with | [_, _, _], _ => rfl
  have F14 := fun_mk (st := s_outcome_of) l14 c14 k14
  have b14 := F14.binds (ps := ["piece", "sent", "theirs"]) fun _ _ _ _ _ _ us hl => match us, hl with | [_, _, _], _ => rfl
  have F15 := fun_mk (st := s_Office_close_opened) l15 c15 k15
  have b15 := F15.binds (ps := ["self", "package", "name"]) fun _ _ _ _ _ _ us hl => match us, hl with | [_, _, _], _ => rfl
  have F16 := fun_mk (st := s_Office_take_back_one) l16 c16 k16
  have b16 := F16.binds (ps := ["self", "package", "name", "theirs"]) fun _ _ _ _ _ _ us hl => match us, hl with | [_, _, _, _], _ => rfl
  have F17 := fun_mk (st := s_Office_take_back) l17 c17 k17
  have b17 := F17.binds (ps := ["self", "package", "pieces"]) fun _ _ _ _ _ _ us hl => match us, hl with | [_, _, _], _ => rfl
  have F18 := fun_mk (st := s_Office_find_opened) l18 c18 k18
  have b18 := F18.binds (ps := ["self", "package", "name"]) fun _ _ _ _ _ _ us hl => match us, hl with | [_, _, _], _ => rfl
  have F19 := fun_mk (st := s_Office_give_up) l19 c19 k19
  have b19 := F19.binds (ps := ["self", "package"]) fun _ _ _ _ _ _ us hl => match us, hl with | [_, _], _ => rfl
  have F20 := fun_mk (st := s_Office_choose) l20 c20 k20
  have b20 := F20.binds (ps := ["self", "name", "package", "choice"]) fun _ _ _ _ _ _ us hl => match us, hl with | [_, _, _, _], _ => rfl
  have F21 := fun_mk (st := s_Office_tell_opened) l21 c21 k21
  have b21 := F21.binds (ps := ["self"]) fun _ _ _ _ _ _ us hl => match us, hl with | [_], _ => rfl
  have F22 := fun_mk (st := s_Office_tell_pieces) l22 c22 k22
  have b22 := F22.binds (ps := ["self"]) fun _ _ _ _ _ _ us hl => match us, hl with | [_], _ => rfl
  have F23 := fun_mk (st := s_Office_tell_package) l23 c23 k23
  have b23 := F23.binds (ps := ["self", "package"]) fun _ _ _ _ _ _ us hl => match us, hl with | [_, _], _ => rfl
  have F24 := fun_mk (st := s_Office_tell_out) l24 c24 k24
  have b24 := F24.binds (ps := ["self", "name"]) fun _ _ _ _ _ _ us hl => match us, hl with | [_, _], _ => rfl
  have F25 := fun_mk (st := s_split_calls) l25 c25 k25
  have b25 := F25.binds (ps := ["calls"]) fun _ _ _ _ _ _ us hl => match us, hl with | [_], _ => rfl
  have F26 := fun_mk (st := s_answer_call) l26 c26 k26
  have b26 := F26.binds (ps := ["office", "call", "numbers", "row"]) fun _ _ _ _ _ _ us hl => match us, hl with | [_, _, _, _], _ => rfl
  have F27 := fun_mk (st := s_answers) l27 c27 k27
  have b27 := F27.binds (ps := ["calls"]) fun _ _ _ _ _ _ us hl => match us, hl with | [_], _ => rfl
  refine ⟨PySem.W.fnOf "answers" "answers" (defArgs s_answers) (defBody s_answers) (defScope s_answers) .none kV27 dc27 pm27 an27 cd27 ct27, fun s us hu => match us, hu with | [_], _ => .of_eq rfl, fun base _ _ => ?_⟩
  · let A : Ad := ⟨CPiece, CSent, CPackage, COpened, COffice⟩
    have O0 : FnOk P w K mg base CX0 1 f0 _ ["self", "text"] (sp_Piece_init A) := ok_Piece_init F0 T
    have K_Piece : MkG P w K mg base "Piece" CPiece 1 ["self", "text"] (sp_Piece_init A) := ⟨f0, _, O0, ⟨mkPiece, a0, i0, kcPiece⟩, PySem.W.mg_of X G aPiece, b0⟩
    have O1 : FnOk P w K mg base CX0 1 f1 _ ["self", "text", "base"] (sp_Sent_init A) := ok_Sent_init F1 T
    have K_Sent : MkG P w K mg base "Sent" CSent 1 ["self", "text", "base"] (sp_Sent_init A) := ⟨f1, _, O1, ⟨mkSent, a1, i1, kcSent⟩, PySem.W.mg_of X G aSent, b1⟩
    have O2 : FnOk P w K mg base CX0 1 f2 _ ["self", "sent"] (sp_Package_init A) := ok_Package_init F2 T
    have K_Package : MkG P w K mg base "Package" CPackage 1 ["self", "sent"] (sp_Package_init A) := ⟨f2, _, O2, ⟨mkPackage, a2, i2, kcPackage⟩, PySem.W.mg_of X G aPackage, b2⟩
    have O3 : FnOk P w K mg base CX0 1 f3 _ ["self", "name", "package", "text", "theirs"] (sp_Opened_init A) := ok_Opened_init F3 T
    have K_Opened : MkG P w K mg base "Opened" COpened 1 ["self", "name", "package", "text", "theirs"] (sp_Opened_init A) := ⟨f3, _, O3, ⟨mkOpened, a3, i3, kcOpened⟩, PySem.W.mg_of X G aOpened, b3⟩
    have O4 : FnOk P w K mg base CX0 1 f4 _ ["self"] (sp_Office_init A) := ok_Office_init F4 T
    have K_Office : MkG P w K mg base "Office" COffice 1 ["self"] (sp_Office_init A) := ⟨f4, _, O4, ⟨mkOffice, a4, i4, kcOffice⟩, PySem.W.mg_of X G aOffice, b4⟩
    have O5 : FnOk P w K mg base CX0 1 f5 _ ["self"] (sp_Office_how A) := ok_Office_how F5 T
    have M_Office_how_it_stands : MtG P w K mg base COffice "how_it_stands" 1 ["self"] (sp_Office_how A) := ⟨f5, _, O5, ⟨a5, i5, k5⟩, b5, ⟨pgOffice, hdOffice, poOffice, saOffice⟩⟩
    have O6 : FnOk P w K mg base CX0 3 f6 _ ["self", "name", "text"] (sp_add A) := ok_add F6 T K_Piece M_Office_how_it_stands
    have M_Office_add_piece : MtG P w K mg base COffice "add_piece" 3 ["self", "name", "text"] (sp_add A) := ⟨f6, _, O6, ⟨a6, i6, k6⟩, b6, ⟨pgOffice, hdOffice, poOffice, saOffice⟩⟩
    have O7 : FnOk P w K mg base CX0 2 f7 _ ["self", "name", "text"] (sp_text A) := ok_text F7 T M_Office_how_it_stands
    have M_Office_change_text : MtG P w K mg base COffice "change_text" 2 ["self", "name", "text"] (sp_text A) := ⟨f7, _, O7, ⟨a7, i7, k7⟩, b7, ⟨pgOffice, hdOffice, poOffice, saOffice⟩⟩
    have O8 : FnOk P w K mg base CX0 2 f8 _ ["self", "name"] (sp_gone A) := ok_gone F8 T M_Office_how_it_stands
    have M_Office_drop_piece : MtG P w K mg base COffice "drop_piece" 2 ["self", "name"] (sp_gone A) := ⟨f8, _, O8, ⟨a8, i8, k8⟩, b8, ⟨pgOffice, hdOffice, poOffice, saOffice⟩⟩
    have O9 : FnOk P w K mg base CX0 2 f9 _ ["self", "name", "translation"] (sp_put A) := ok_put F9 T M_Office_how_it_stands
    have M_Office_put_translation : MtG P w K mg base COffice "put_translation" 2 ["self", "name", "translation"] (sp_put A) := ⟨f9, _, O9, ⟨a9, i9, k9⟩, b9, ⟨pgOffice, hdOffice, poOffice, saOffice⟩⟩
    have O10 : FnOk P w K mg base CX0 1 f10 _ ["names"] (sp_fit K) := ok_fit F10 T
    have G_fit_together : FnG P w K mg base "fit_together" 1 ["names"] (sp_fit K) := ⟨f10, _, O10, PySem.W.mg_of X G a10, k10, b10⟩
    have O11 : FnOk P w K mg base CX0 1 f11 _ ["names", "known"] (sp_among K) := ok_among F11 T
    have G_all_among : FnG P w K mg base "all_among" 1 ["names", "known"] (sp_among K) := ⟨f11, _, O11, PySem.W.mg_of X G a11, k11, b11⟩
    have O12 : FnOk P w K mg base CX0 3 f12 _ ["self", "names"] (sp_send A K) := ok_send F12 T G_fit_together G_all_among K_Sent K_Package
    have M_Office_send_package : MtG P w K mg base COffice "send_package" 3 ["self", "names"] (sp_send A K) := ⟨f12, _, O12, ⟨a12, i12, k12⟩, b12, ⟨pgOffice, hdOffice, poOffice, saOffice⟩⟩
    have O13 : FnOk P w K mg base CX0 1 f13 _ ["piece", "text", "theirs"] (sp_beside A) := ok_beside F13 T
    have G_beside_ours : FnG P w K mg base "beside_ours" 1 ["piece", "text", "theirs"] (sp_beside A) := ⟨f13, _, O13, PySem.W.mg_of X G a13, k13, b13⟩
    have O14 : FnOk P w K mg base CX0 2 f14 _ ["piece", "sent", "theirs"] (sp_outcome A) := ok_outcome F14 T G_beside_ours
    have G_outcome_of : FnG P w K mg base "outcome_of" 2 ["piece", "sent", "theirs"] (sp_outcome A) := ⟨f14, _, O14, PySem.W.mg_of X G a14, k14, b14⟩
    have O15 : FnOk P w K mg base CX0 1 f15 _ ["self", "package", "name"] (sp_close A) := ok_close F15 T
    have M_Office_close_opened : MtG P w K mg base COffice "close_opened" 1 ["self", "package", "name"] (sp_close A) := ⟨f15, _, O15, ⟨a15, i15, k15⟩, b15, ⟨pgOffice, hdOffice, poOffice, saOffice⟩⟩
    have O16 : FnOk P w K mg base CX0 3 f16 _ ["self", "package", "name", "theirs"] (sp_one A) := ok_one F16 T G_outcome_of M_Office_close_opened K_Opened
    have M_Office_take_back_one : MtG P w K mg base COffice "take_back_one" 3 ["self", "package", "name", "theirs"] (sp_one A) := ⟨f16, _, O16, ⟨a16, i16, k16⟩, b16, ⟨pgOffice, hdOffice, poOffice, saOffice⟩⟩
    have O17 : FnOk P w K mg base CX0 4 f17 _ ["self", "package", "pieces"] (sp_back A K) := ok_back F17 T G_fit_together G_all_among M_Office_take_back_one
    have M_Office_take_back : MtG P w K mg base COffice "take_back" 4 ["self", "package", "pieces"] (sp_back A K) := ⟨f17, _, O17, ⟨a17, i17, k17⟩, b17, ⟨pgOffice, hdOffice, poOffice, saOffice⟩⟩
    have O18 : FnOk P w K mg base CX0 1 f18 _ ["self", "package", "name"] (sp_find A) := ok_find F18 T
    have M_Office_find_opened : MtG P w K mg base COffice "find_opened" 1 ["self", "package", "name"] (sp_find A) := ⟨f18, _, O18, ⟨a18, i18, k18⟩, b18, ⟨pgOffice, hdOffice, poOffice, saOffice⟩⟩
    have O19 : FnOk P w K mg base CX0 1 f19 _ ["self", "package"] (sp_off A) := ok_off F19 T
    have M_Office_give_up : MtG P w K mg base COffice "give_up" 1 ["self", "package"] (sp_off A) := ⟨f19, _, O19, ⟨a19, i19, k19⟩, b19, ⟨pgOffice, hdOffice, poOffice, saOffice⟩⟩
    have O20 : FnOk P w K mg base CX0 2 f20 _ ["self", "name", "package", "choice"] (sp_choose A) := ok_choose F20 T M_Office_find_opened M_Office_close_opened M_Office_how_it_stands
    have M_Office_choose : MtG P w K mg base COffice "choose" 2 ["self", "name", "package", "choice"] (sp_choose A) := ⟨f20, _, O20, ⟨a20, i20, k20⟩, b20, ⟨pgOffice, hdOffice, poOffice, saOffice⟩⟩
    have O21 : FnOk P w K mg base CX0 2 f21 _ ["self"] (sp_topen A) := ok_topen F21 T G_beside_ours
    have M_Office_tell_opened : MtG P w K mg base COffice "tell_opened" 2 ["self"] (sp_topen A) := ⟨f21, _, O21, ⟨a21, i21, k21⟩, b21, ⟨pgOffice, hdOffice, poOffice, saOffice⟩⟩
    have O22 : FnOk P w K mg base CX0 1 f22 _ ["self"] (sp_tpieces A) := ok_tpieces F22 T
    have M_Office_tell_pieces : MtG P w K mg base COffice "tell_pieces" 1 ["self"] (sp_tpieces A) := ⟨f22, _, O22, ⟨a22, i22, k22⟩, b22, ⟨pgOffice, hdOffice, poOffice, saOffice⟩⟩
    have O23 : FnOk P w K mg base CX0 1 f23 _ ["self", "package"] (sp_tpackage A) := ok_tpackage F23 T
    have M_Office_tell_package : MtG P w K mg base COffice "tell_package" 1 ["self", "package"] (sp_tpackage A) := ⟨f23, _, O23, ⟨a23, i23, k23⟩, b23, ⟨pgOffice, hdOffice, poOffice, saOffice⟩⟩
    have O24 : FnOk P w K mg base CX0 1 f24 _ ["self", "name"] (sp_tout A) := ok_tout F24 T
    have M_Office_tell_out : MtG P w K mg base COffice "tell_out" 1 ["self", "name"] (sp_tout A) := ⟨f24, _, O24, ⟨a24, i24, k24⟩, b24, ⟨pgOffice, hdOffice, poOffice, saOffice⟩⟩
    have O25 : FnOk P w K mg base CX0 1 f25 _ ["calls"] (sp_split K) := ok_split F25 T hwn
    have G_split_calls : FnG P w K mg base "split_calls" 1 ["calls"] (sp_split K) := ⟨f25, _, O25, PySem.W.mg_of X G a25, k25, b25⟩
    have O26 : FnOk P w K mg base CX0 5 f26 _ ["office", "call", "numbers", "row"] (sp_call A) := ok_call F26 T M_Office_add_piece M_Office_change_text M_Office_drop_piece M_Office_put_translation M_Office_send_package M_Office_take_back M_Office_give_up M_Office_choose M_Office_tell_opened M_Office_tell_pieces M_Office_tell_package M_Office_tell_out
    have G_answer_call : FnG P w K mg base "answer_call" 5 ["office", "call", "numbers", "row"] (sp_call A) := ⟨f26, _, O26, PySem.W.mg_of X G a26, k26, b26⟩
    have O27 : FnOk P w K mg base CX0 6 fa _ ["calls"] (sp_answers K) := ok_answers F27 T K_Office G_split_calls G_answer_call
    exact O27
end Cb
open PySem PySem.W PyProof.Rows
set_option maxRecDepth 100000 in
set_option maxHeartbeats 8000000 in
theorem PySem.Challenge.cw_comesback_s01_answers_holds : PySem.Challenge.rw_comesback_s01_answers.Holds := by
  w_on; k_headS; (case hw => exact ⟨[.list [.int 8]], by decide +kernel, by decide +kernel⟩)
  k_fillS
  refine L2.walk_specK (r := PySem.Challenge.rw_comesback_s01_answers) (k := 6) (CX := L2.CX0) (ps := ["calls"]) (sp := Cb.sp_answers) (by decide +kernel) rfl rfl ⟨rfl, by decide, by decide⟩ (fun w h Y => PySem.W.kIn_of Y) ?F ?S (fun _ _ _ _ z => z)
  case F =>
    intro w mg fa h Y KX G hmg
    refine' Cb.all_mk KX G hmg ?aPiece ?pgPiece ?hdPiece ?poPiece ?saPiece ?mkPiece ?kcPiece ?nPiece_text ?nPiece_translation ?aSent ?pgSent ?hdSent ?poSent ?saSent ?mkSent ?kcSent ?nSent_text ?nSent_base ?aPackage ?pgPackage ?hdPackage ?poPackage ?saPackage ?mkPackage ?kcPackage ?nPackage_sent ?nPackage_given_up ?aOpened ?pgOpened ?hdOpened ?poOpened ?saOpened ?mkOpened ?kcOpened ?nOpened_name ?nOpened_package ?nOpened_text ?nOpened_theirs ?aOffice ?pgOffice ?hdOffice ?poOffice ?saOffice ?mkOffice ?kcOffice ?nOffice_pieces ?nOffice_packages ?nOffice_opened ?a0 ?i0 ?l0 ?c0 ?k0 ?a1 ?i1 ?l1 ?c1 ?k1 ?a2 ?i2 ?l2 ?c2 ?k2 ?a3 ?i3 ?l3 ?c3 ?k3 ?a4 ?i4 ?l4 ?c4 ?k4 ?a5 ?i5 ?l5 ?c5 ?k5 ?a6 ?i6 ?l6 ?c6 ?k6 ?a7 ?i7 ?l7 ?c7 ?k7 ?a8 ?i8 ?l8 ?c8 ?k8 ?a9 ?i9 ?l9 ?c9 ?k9 ?a10 ?l10 ?c10 ?k10 ?a11 ?l11 ?c11 ?k11 ?a12 ?i12 ?l12 ?c12 ?k12 ?a13 ?l13 ?c13 ?k13 ?a14 ?l14 ?c14 ?k14 ?a15 ?i15 ?l15 ?c15 ?k15 ?a16 ?i16 ?l16 ?c16 ?k16 ?a17 ?i17 ?l17 ?c17 ?k17 ?a18 ?i18 ?l18 ?c18 ?k18 ?a19 ?i19 ?l19 ?c19 ?k19 ?a20 ?i20 ?l20 ?c20 ?k20 ?a21 ?i21 ?l21 ?c21 ?k21 ?a22 ?i22 ?l22 ?c22 ?k22 ?a23 ?i23 ?l23 ?c23 ?k23 ?a24 ?i24 ?l24 ?c24 ?k24 ?a25 ?l25 ?c25 ?k25 ?a26 ?l26 ?c26 ?k26 ?a27 ?l27 ?c27 ?k27 ?c_MOST_NAME ?c_MOST_NUMBER ?c_MOST_PIECES ?c_MOST_PACKAGES ?c_MOST_AT_ONCE ?c_NO_TRANSLATION ?c_THEIRS_CHOSEN ?c_CALL_PIECE ?c_CALL_TEXT ?c_CALL_GONE ?c_CALL_PUT ?c_CALL_SEND ?c_CALL_BACK ?c_CALL_OFF ?c_CALL_CHOOSE ?c_CALL_OPEN ?c_CALL_PIECES ?c_CALL_PACKAGE ?c_REFUSED_NUMBERS ?c_REFUSED_NO_SUCH ?c_REFUSED_NOT_IN_IT ?c_REFUSED_THERE_ALREADY ?c_REFUSED_FULL ?c_REFUSED_NO_MORE ?c_OURS_TOO ?c_THE_BASE ?c_TAKEN ?c_NOT_OURS ?c_OF_OTHER_TEXT ?c_OF_GONE ?b_all ?b_enumerate ?b_len ?b_max ?b_range ?b_set ?w1 ?w2 ?w3 ?w4 ?w5 ?w6
    (case aPiece => k_is)
    (case pgPiece => k_is)
    (case hdPiece => k_is)
    (case poPiece => k_is)
    (case saPiece => k_is)
    (case mkPiece => k_is)
    (case kcPiece => k_is)
    (case nPiece_text => k_is)
    (case nPiece_translation => k_is)
    (case aSent => k_is)
    (case pgSent => k_is)
    (case hdSent => k_is)
    (case poSent => k_is)
    (case saSent => k_is)
    (case mkSent => k_is)
    (case kcSent => k_is)
    (case nSent_text => k_is)
    (case nSent_base => k_is)
    (case aPackage => k_is)
    (case pgPackage => k_is)
    (case hdPackage => k_is)
    (case poPackage => k_is)
    (case saPackage => k_is)
    (case mkPackage => k_is)
    (case kcPackage => k_is)
    (case nPackage_sent => k_is)
    (case nPackage_given_up => k_is)
    (case aOpened => k_is)
    (case pgOpened => k_is)
    (case hdOpened => k_is)
    (case poOpened => k_is)
    (case saOpened => k_is)
    (case mkOpened => k_is)
    (case kcOpened => k_is)
    (case nOpened_name => k_is)
    (case nOpened_package => k_is)
    (case nOpened_text => k_is)
    (case nOpened_theirs => k_is)
    (case aOffice => k_is)
    (case pgOffice => k_is)
    (case hdOffice => k_is)
    (case poOffice => k_is)
    (case saOffice => k_is)
    (case mkOffice => k_is)
    (case kcOffice => k_is)
    (case nOffice_pieces => k_is)
    (case nOffice_packages => k_is)
    (case nOffice_opened => k_is)
    (case a0 => k_is)
    (case i0 => k_is)
    (case l0 => k_is)
    (case c0 => k_is)
    (case k0 => k_is)
    (case a1 => k_is)
    (case i1 => k_is)
    (case l1 => k_is)
    (case c1 => k_is)
    (case k1 => k_is)
    (case a2 => k_is)
    (case i2 => k_is)
    (case l2 => k_is)
    (case c2 => k_is)
    (case k2 => k_is)
    (case a3 => k_is)
    (case i3 => k_is)
    (case l3 => k_is)
    (case c3 => k_is)
    (case k3 => k_is)
    (case a4 => k_is)
    (case i4 => k_is)
    (case l4 => k_is)
    (case c4 => k_is)
    (case k4 => k_is)
    (case a5 => k_is)
    (case i5 => k_is)
    (case l5 => k_is)
    (case c5 => k_is)
    (case k5 => k_is)
    (case a6 => k_is)
    (case i6 => k_is)
    (case l6 => k_is)
    (case c6 => k_is)
    (case k6 => k_is)
    (case a7 => k_is)
    (case i7 => k_is)
    (case l7 => k_is)
    (case c7 => k_is)
    (case k7 => k_is)
    (case a8 => k_is)
    (case i8 => k_is)
    (case l8 => k_is)
    (case c8 => k_is)
    (case k8 => k_is)
    (case a9 => k_is)
    (case i9 => k_is)
    (case l9 => k_is)
    (case c9 => k_is)
    (case k9 => k_is)
    (case a10 => k_is)
    (case l10 => k_is)
    (case c10 => k_is)
    (case k10 => k_is)
    (case a11 => k_is)
    (case l11 => k_is)
    (case c11 => k_is)
    (case k11 => k_is)
    (case a12 => k_is)
    (case i12 => k_is)
    (case l12 => k_is)
    (case c12 => k_is)
    (case k12 => k_is)
    (case a13 => k_is)
    (case l13 => k_is)
    (case c13 => k_is)
    (case k13 => k_is)
    (case a14 => k_is)
    (case l14 => k_is)
    (case c14 => k_is)
    (case k14 => k_is)
    (case a15 => k_is)
    (case i15 => k_is)
    (case l15 => k_is)
    (case c15 => k_is)
    (case k15 => k_is)
    (case a16 => k_is)
    (case i16 => k_is)
    (case l16 => k_is)
    (case c16 => k_is)
    (case k16 => k_is)
    (case a17 => k_is)
    (case i17 => k_is)
    (case l17 => k_is)
    (case c17 => k_is)
    (case k17 => k_is)
    (case a18 => k_is)
    (case i18 => k_is)
    (case l18 => k_is)
    (case c18 => k_is)
    (case k18 => k_is)
    (case a19 => k_is)
    (case i19 => k_is)
    (case l19 => k_is)
    (case c19 => k_is)
    (case k19 => k_is)
    (case a20 => k_is)
    (case i20 => k_is)
    (case l20 => k_is)
    (case c20 => k_is)
    (case k20 => k_is)
    (case a21 => k_is)
    (case i21 => k_is)
    (case l21 => k_is)
    (case c21 => k_is)
    (case k21 => k_is)
    (case a22 => k_is)
    (case i22 => k_is)
    (case l22 => k_is)
    (case c22 => k_is)
    (case k22 => k_is)
    (case a23 => k_is)
    (case i23 => k_is)
    (case l23 => k_is)
    (case c23 => k_is)
    (case k23 => k_is)
    (case a24 => k_is)
    (case i24 => k_is)
    (case l24 => k_is)
    (case c24 => k_is)
    (case k24 => k_is)
    (case a25 => k_is)
    (case l25 => k_is)
    (case c25 => k_is)
    (case k25 => k_is)
    (case a26 => k_is)
    (case l26 => k_is)
    (case c26 => k_is)
    (case k26 => k_is)
    (case a27 => k_is)
    (case l27 => k_is)
    (case c27 => k_is)
    (case k27 => k_is)
    (case c_MOST_NAME => k_is)
    (case c_MOST_NUMBER => k_is)
    (case c_MOST_PIECES => k_is)
    (case c_MOST_PACKAGES => k_is)
    (case c_MOST_AT_ONCE => k_is)
    (case c_NO_TRANSLATION => k_is)
    (case c_THEIRS_CHOSEN => k_is)
    (case c_CALL_PIECE => k_is)
    (case c_CALL_TEXT => k_is)
    (case c_CALL_GONE => k_is)
    (case c_CALL_PUT => k_is)
    (case c_CALL_SEND => k_is)
    (case c_CALL_BACK => k_is)
    (case c_CALL_OFF => k_is)
    (case c_CALL_CHOOSE => k_is)
    (case c_CALL_OPEN => k_is)
    (case c_CALL_PIECES => k_is)
    (case c_CALL_PACKAGE => k_is)
    (case c_REFUSED_NUMBERS => k_is)
    (case c_REFUSED_NO_SUCH => k_is)
    (case c_REFUSED_NOT_IN_IT => k_is)
    (case c_REFUSED_THERE_ALREADY => k_is)
    (case c_REFUSED_FULL => k_is)
    (case c_REFUSED_NO_MORE => k_is)
    (case c_OURS_TOO => k_is)
    (case c_THE_BASE => k_is)
    (case c_TAKEN => k_is)
    (case c_NOT_OURS => k_is)
    (case c_OF_OTHER_TEXT => k_is)
    (case c_OF_GONE => k_is)
    (case b_all => k_is)
    (case b_enumerate => k_is)
    (case b_len => k_is)
    (case b_max => k_is)
    (case b_range => k_is)
    (case b_set => k_is)
    (case w1 => k_is)
    (case w2 => k_is)
    (case w3 => rfl)
    (case w4 => rfl)
    (case w5 => decide)
    (case w6 => exact .cons ⟨_, rfl⟩ (.cons ⟨_, rfl⟩ (.cons ⟨_, rfl⟩ (.cons ⟨_, rfl⟩ (.cons ⟨_, rfl⟩ (.cons ⟨_, rfl⟩ (.cons ⟨_, rfl⟩ (.cons ⟨_, rfl⟩ (.cons ⟨_, rfl⟩ (.cons ⟨_, rfl⟩ (.cons ⟨_, rfl⟩ (.cons ⟨_, rfl⟩ (.nil)))))))))))))
  case S =>
    intro K H xs a hO hwi hask hx
    cases hx with
    | cons h1 h2 =>
      cases h2
      cases h1 with
      | lst hs ha =>
        have e := L2.ints_dw a.1 _ ha
        subst e
        have q : ((Codec.inLen 0 1800 a.1 && a.1.all (Codec.inInt 0 4294967295)) && true) = true := hwi
        rw [Bool.and_eq_true, Bool.and_eq_true] at q
        obtain ⟨cs, hcs⟩ := Cb.asked_of (l := a.1) hask
        exact ⟨_, a.1, cs, rfl, hs, (Codec.inNat_iff.mp q.1.1).2, hcs, fun H' p hp => .lst (L2.SqL.of hp) (L2.dw_ints _)⟩
#print axioms PySem.Challenge.cw_comesback_s01_answers_holds
