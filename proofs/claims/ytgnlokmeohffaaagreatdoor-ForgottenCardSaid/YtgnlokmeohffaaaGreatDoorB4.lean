/- Parts of the proof: see the last text. -/
import Derived.Test.YtgnlokmeohffaaaGreatDoorProg
import Derived.WalkKit
import Derived.WalkSpells
import Derived.WalkLawsBesides
import Derived.Deep.QuietTactic
import Derived.Deep.RegionHeld3
import Derived.Deep.DrawnRows
import Derived.Deep.RegionLaw
import Derived.BigQuiet
import Derived.Lib.Strings
import Derived.Handy
import Derived.Test.YtgnlokmeohffaaaGreatDoorShelf
import Derived.Test.YtgnlokmeohffaaaGreatDoorB3
/- How deep in loops a word of a body stands: wherever a word goes on, that is as deep as it should be. Of no program. -/
namespace Go.Proofs.YtgnlokmeohffaaaGreatDoor
namespace N
open Go.RowKit

def dOf (c : Cell) : Int := if c.kind = 4 then (if c.name == wDo then 1 else if c.name == wLoop then -1 else 0) else 0
/-- How many loops are open ahead of place p. -/
def dc (l : List Cell) (p : Nat) : Int := ((l.take p).map dOf).sum
theorem dc_app (l m : List Cell) {p : Nat} (h : p ≤ l.length) : dc (l ++ m) p = dc l p := by
  unfold dc
  rw [List.take_append_of_le_length h]
theorem dc_succ {l : List Cell} {p : Nat} {c : Cell} (h : l[p]? = some c) : dc l (p + 1) = dc l p + dOf c := by
  unfold dc
  obtain ⟨hp, he⟩ := List.getElem?_eq_some_iff.1 h
  rw [List.take_succ_eq_append_getElem hp, List.map_append, List.sum_append, he]
  simp
theorem dc_snoc (l : List Cell) (c : Cell) : dc (l ++ [c]) (l.length + 1) = dc l l.length + dOf c := by
  have h : (l ++ [c])[l.length]? = some c := by rw [List.getElem?_append_right (Nat.le_refl _), Nat.sub_self]; rfl
  rw [dc_succ h, dc_app _ _ (Nat.le_refl _)]

/-- How deep it should be where the word b at place p goes on. -/
def ref (l : List Cell) (p : Nat) (b : Txt) : Int := if b == wDo || b == wLoop then dc l p else if b == wLeave then dc l p - 1 else dc l (p + 1)
theorem ref_app (l m : List Cell) {p : Nat} (b : Txt) (h : p + 1 ≤ l.length) : ref (l ++ m) p b = ref l p b := by
  unfold ref
  rw [dc_app l m (by omega), dc_app l m h]
def inLoop (b : Txt) : Bool := b == wLoop || b == wI || b == wLeave
/-- A word and where it goes on. -/
def JumpOk (l : List Cell) (p : Nat) (b : Txt) (g : Nat) : Prop := ((fwd b || bwd b) = true → dc l g = ref l p b ∧ g ≤ l.length) ∧ (inLoop b = true → 1 ≤ dc l p)

def one? (k : Txt) : Int := if k == wDo then 1 else 0
def cntDo : List Part → Int
  | [] => 0
  | o :: t => one? o.kind + cntDo t
theorem cntDo_nonneg : ∀ t, 0 ≤ cntDo t
  | [] => Int.le_refl 0
  | o :: t => by
    have := cntDo_nonneg t
    unfold cntDo one?
    split <;> omega
theorem cntDo_pos : ∀ {t : List Part}, (∃ o ∈ t, o.kind = wDo) → 1 ≤ cntDo t
  | [], ⟨_, h, _⟩ => by simp at h
  | o :: t, ⟨x, hx, hk⟩ => by
    have h0 := cntDo_nonneg t
    unfold cntDo one?
    rcases List.mem_cons.1 hx with rfl | hx
    · rw [hk]
      simp
      omega
    · have := cntDo_pos ⟨x, hx, hk⟩
      split <;> omega

def WtD (l : List Cell) : List Part → Prop
  | [] => True
  | o :: t => o.start < l.length ∧ dc l (o.start + 1) = cntDo t + one? o.kind ∧ (∀ p ∈ o.waits, ∃ c, l[p]? = some c ∧ ref l p c.name = cntDo t) ∧ WtD l t
theorem wtD_app (l m : List Cell) : ∀ t, WtD l t → WtD (l ++ m) t
  | [], _ => trivial
  | o :: t, ⟨h1, h2, h3, h4⟩ => by
    refine ⟨by rw [List.length_append]; omega, by rw [dc_app l m (by omega)]; exact h2, fun p hp => ?_, wtD_app l m t h4⟩
    obtain ⟨c, hc, hr⟩ := h3 p hp
    have hlt := (List.getElem?_eq_some_iff.1 hc).1
    exact ⟨c, by rw [List.getElem?_append_left hlt]; exact hc, by rw [ref_app l m _ (by omega)]; exact hr⟩

structure Deep (d : Draft) : Prop where
  now : dc (cells d) d.body.length = cntDo d.opens
  wt : WtD (cells d) d.opens
  jump : ∀ p c g, d.body[p]? = some (c, g) → c.kind = 4 → ((∃ o ∈ d.opens, p ∈ o.waits) ∨ ((fwd c.name || bwd c.name) = true → dc (cells d) g = ref (cells d) p c.name ∧ g ≤ d.body.length)) ∧ (inLoop c.name = true → 1 ≤ dc (cells d) p)

theorem deep_nil : Deep ⟨[], []⟩ := ⟨rfl, trivial, fun _ _ _ h => by simp at h⟩

/-- What stood is as it was. -/
theorem Deep.old {d : Draft} (h : Deep d) (c0 : Cell) {p g : Nat} {c : Cell} (hb : d.body[p]? = some (c, g)) (hk : c.kind = 4) :
    ((∃ o ∈ d.opens, p ∈ o.waits) ∨ ((fwd c.name || bwd c.name) = true → dc (cells d ++ [c0]) g = ref (cells d ++ [c0]) p c.name ∧ g ≤ d.body.length + 1)) ∧ (inLoop c.name = true → 1 ≤ dc (cells d ++ [c0]) p) := by
  have hlt : p < (cells d).length := by
    rw [cells_len]
    exact (List.getElem?_eq_some_iff.1 hb).1
  obtain ⟨h1, h2⟩ := h.jump p c g hb hk
  refine ⟨?_, fun hi => by rw [dc_app _ _ (by omega)]; exact h2 hi⟩
  rcases h1 with h1 | h1
  · exact .inl h1
  · refine .inr fun hf => ?_
    obtain ⟨h3, h4⟩ := h1 hf
    rw [ref_app _ _ _ (by omega), dc_app _ _ (by rw [cells_len]; exact h4)]
    exact ⟨h3, by omega⟩

theorem deep_idle {d : Draft} (h : Deep d) {c : Cell} (hc : c.kind ≠ 4 ∨ c.name = wExit ∨ c.name = wRecurse ∨ (c.name = wI ∧ ∃ o ∈ d.opens, o.kind = wDo)) : Deep ⟨d.body ++ [(c, 0)], d.opens⟩ := by
  have hd : dOf c = 0 := by
    unfold dOf
    rcases hc with hc | hc | hc | ⟨hc, _⟩
    · exact if_neg hc
    all_goals (rw [hc]; split <;> rfl)
  have hcl : cells ⟨d.body ++ [(c, 0)], d.opens⟩ = cells d ++ [c] := by simp [cells]
  refine ⟨?_, ?_, fun p x g hb hk => ?_⟩
  · rw [hcl]
    show dc _ (d.body ++ [(c, 0)]).length = _
    rw [List.length_append, ← cells_len d]
    show dc _ ((cells d).length + 1) = _
    rw [dc_snoc, hd, cells_len, h.now]
    simp
  · rw [hcl]; exact wtD_app _ _ _ h.wt
  · rw [hcl]
    have hlen : (d.body ++ [(c, 0)]).length = d.body.length + 1 := by simp
    rcases snoc_get hb with h1 | ⟨h1, h2⟩
    · rw [hlen]; exact h.old c h1 hk
    · injection h2 with h2 _
      subst h2 h1
      refine ⟨.inr fun hf => ?_, fun hi => ?_⟩
      · rcases hc with hc | hc | hc | ⟨hc, _⟩
        · exact (hc hk).elim
        all_goals (rw [hc] at hf; exact absurd hf (by decide))
      · rcases hc with hc | hc | hc | ⟨hc, hdo⟩
        · exact (hc hk).elim
        · rw [hc] at hi; exact absurd hi (by decide)
        · rw [hc] at hi; exact absurd hi (by decide)
        · rw [← cells_len d, dc_app _ _ (Nat.le_refl _), cells_len, h.now]
          exact cntDo_pos hdo

theorem deep_open {d : Draft} (h : Deep d) {X : Txt} (w : List Nat) (hX : (X = wBegin ∧ w = []) ∨ ((X = wIf ∨ X = wDo) ∧ w = [d.body.length])) : Deep ⟨d.body ++ [(⟨4, 0, X⟩, 0)], ⟨X, d.body.length, w⟩ :: d.opens⟩ := by
  have hcl : cells ⟨d.body ++ [(⟨4, 0, X⟩, 0)], ⟨X, d.body.length, w⟩ :: d.opens⟩ = cells d ++ [⟨4, 0, X⟩] := by simp [cells]
  have hd : dOf ⟨4, 0, X⟩ = one? X := by rcases hX with ⟨rfl, _⟩ | ⟨rfl | rfl, _⟩ <;> rfl
  have hlen : (d.body ++ [((⟨4, 0, X⟩ : Cell), 0)]).length = d.body.length + 1 := by simp
  have hnow : dc (cells d ++ [⟨4, 0, X⟩]) (d.body.length + 1) = cntDo d.opens + one? X := by rw [← cells_len d, dc_snoc, hd, cells_len, h.now]
  have hhere : dc (cells d ++ [⟨4, 0, X⟩]) d.body.length = cntDo d.opens := by rw [dc_app _ _ (by rw [cells_len]; exact Nat.le_refl _), h.now]
  have hget : (cells d ++ [(⟨4, 0, X⟩ : Cell)])[d.body.length]? = some ⟨4, 0, X⟩ := by rw [← cells_len d, List.getElem?_append_right (Nat.le_refl _), Nat.sub_self]; rfl
  refine ⟨?_, ⟨?_, ?_, ?_, ?_⟩, fun p x g hb hk => ?_⟩
  · rw [hcl]
    show dc _ (d.body ++ [((⟨4, 0, X⟩ : Cell), 0)]).length = one? X + cntDo d.opens
    rw [hlen, hnow]
    omega
  · rw [hcl, List.length_append, cells_len]
    show d.body.length < d.body.length + 1
    omega
  · rw [hcl]; exact hnow
  · intro p hp
    rw [hcl]
    rcases hX with ⟨_, rfl⟩ | ⟨hx, rfl⟩
    · simp at hp
    · rw [List.mem_singleton] at hp
      subst hp
      refine ⟨_, hget, ?_⟩
      rcases hx with rfl | rfl
      · show dc _ (d.body.length + 1) = _
        rw [hnow]
        show cntDo d.opens + 0 = _
        omega
      · exact hhere
  · rw [hcl]; exact wtD_app _ _ _ h.wt
  · rw [hcl]
    rcases snoc_get hb with h1 | ⟨h1, h2⟩
    · obtain ⟨h3, h4⟩ := h.old ⟨4, 0, X⟩ h1 hk
      rw [hlen]
      refine ⟨?_, h4⟩
      rcases h3 with ⟨o, ho, hp⟩ | h3
      · exact .inl ⟨o, List.mem_cons_of_mem _ ho, hp⟩
      · exact .inr h3
    · injection h2 with h2 _
      subst h2
      refine ⟨?_, fun hi => ?_⟩
      · rcases hX with ⟨rfl, _⟩ | ⟨_, rfl⟩
        · exact .inr fun hf => by cases hf
        · exact .inl ⟨_, List.mem_cons_self, by rw [h1]; exact List.mem_singleton.2 rfl⟩
      · rcases hX with ⟨rfl, _⟩ | ⟨rfl | rfl, _⟩ <;> cases hi

/-- A word that ends a part (else: and begins another). -/
theorem deep_shut {b : List (Cell × Nat)} {o : Part} {t : List Part} (h : Deep ⟨b, o :: t⟩) {s : Txt} (g0 : Nat) (more : List Part) (hin : ∀ p ∈ o.waits, p < b.length)
    (hcase : (s = wThen ∧ one? o.kind = 0 ∧ more = []) ∨ (s = wElse ∧ one? o.kind = 0 ∧ more = [⟨wElse, b.length, [b.length]⟩]) ∨ ((s = wUntil ∨ s = wAgain ∨ s = wRepeat) ∧ one? o.kind = 0 ∧ g0 = o.start + 1 ∧ more = []) ∨ (s = wLoop ∧ one? o.kind = 1 ∧ g0 = o.start + 1 ∧ more = [])) :
    Deep ⟨goOns (b ++ [(⟨4, 0, s⟩, g0)]) o.waits (b.length + 1), more ++ t⟩ := by
  obtain ⟨hw1, hw2, hw3, hw4⟩ := h.wt
  have hlb : (cells ⟨b, o :: t⟩).length = b.length := cells_len _
  have hnow0 : dc (cells ⟨b, o :: t⟩) b.length = one? o.kind + cntDo t := h.now
  have hcl : cells ⟨goOns (b ++ [(⟨4, 0, s⟩, g0)]) o.waits (b.length + 1), more ++ t⟩ = cells ⟨b, o :: t⟩ ++ [⟨4, 0, s⟩] := by
    show (goOns _ _ _).map _ = _
    rw [cells_goOns]; simp [cells]
  have hlen : (goOns (b ++ [((⟨4, 0, s⟩ : Cell), g0)]) o.waits (b.length + 1)).length = b.length + 1 := by
    have := cells_goOns o.waits (b.length + 1) (b ++ [((⟨4, 0, s⟩ : Cell), g0)])
    have h2 := congrArg List.length this
    simpa using h2
  have hd : dOf ⟨4, 0, s⟩ = - one? o.kind := by
    rcases hcase with ⟨rfl, h1, _⟩ | ⟨rfl, h1, _⟩ | ⟨rfl | rfl | rfl, h1, _⟩ | ⟨rfl, h1, _⟩ <;> rw [h1] <;> rfl
  have hn1 : dc (cells ⟨b, o :: t⟩ ++ [⟨4, 0, s⟩]) (b.length + 1) = cntDo t := by
    have := dc_snoc (cells ⟨b, o :: t⟩) ⟨4, 0, s⟩
    rw [hlb, hd, hnow0] at this
    rw [this]
    omega
  have hn0 : dc (cells ⟨b, o :: t⟩ ++ [⟨4, 0, s⟩]) b.length = one? o.kind + cntDo t := by rw [dc_app _ _ (by rw [hlb]; exact Nat.le_refl _), hnow0]
  have hget : (cells ⟨b, o :: t⟩ ++ [(⟨4, 0, s⟩ : Cell)])[b.length]? = some ⟨4, 0, s⟩ := by rw [← hlb, List.getElem?_append_right (Nat.le_refl _), Nat.sub_self]; rfl
  have hmore : more = [] ∨ (s = wElse ∧ one? o.kind = 0 ∧ more = [⟨wElse, b.length, [b.length]⟩]) := by
    rcases hcase with ⟨_, _, h⟩ | h | ⟨_, _, _, h⟩ | ⟨_, _, _, h⟩
    · exact .inl h
    · exact .inr h
    · exact .inl h
    · exact .inl h
  refine ⟨?_, ?_, fun p x g hb hk => ?_⟩
  · rw [hcl]
    show dc _ (goOns _ _ _).length = _
    rw [hlen, hn1]
    rcases hmore with rfl | ⟨_, _, rfl⟩
    · rfl
    · show cntDo t = 0 + cntDo t
      omega
  · rw [hcl]
    rcases hmore with rfl | ⟨rfl, h0, rfl⟩
    · exact wtD_app _ _ _ hw4
    · refine ⟨by rw [List.length_append, hlb]; show b.length < b.length + 1; omega, ?_, fun p hp => ?_, wtD_app _ _ _ hw4⟩
      · show dc _ (b.length + 1) = cntDo t + 0
        rw [hn1]; omega
      · rw [List.mem_singleton] at hp
        subst hp
        exact ⟨_, hget, hn1⟩
  · rw [hcl]
    show (_ ∨ (_ → _ ∧ g ≤ (goOns _ _ _).length)) ∧ _
    rw [hlen]
    have lift : (∃ o' ∈ t, p ∈ o'.waits) → ∃ o' ∈ more ++ t, p ∈ o'.waits := fun ⟨o', h1, h2⟩ => ⟨o', List.mem_append_right _ h1, h2⟩
    rcases goOns_get _ hb with ⟨hm, rfl, g1, hb1⟩ | ⟨hm, hb1⟩
    · have hb2 : b[p]? = some (x, g1) := by
        rcases snoc_get hb1 with h1 | ⟨h1, _⟩
        · exact h1
        · have := hin p hm; omega
      obtain ⟨_, h4⟩ := h.old ⟨4, 0, s⟩ hb2 hk
      refine ⟨.inr fun _ => ⟨?_, Nat.le_refl _⟩, h4⟩
      obtain ⟨c, hc, hr⟩ := hw3 p hm
      have hx : c = x := by
        have : (cells ⟨b, o :: t⟩)[p]? = some x := by simp [cells, hb2]
        rw [hc] at this
        injection this
      subst hx
      rw [hn1, ref_app _ _ _ (by rw [hlb]; have := hin p hm; omega)]
      exact hr.symm
    · rcases snoc_get hb1 with h1 | ⟨h1, h2⟩
      · obtain ⟨h3, h4⟩ := h.old ⟨4, 0, s⟩ h1 hk
        refine ⟨?_, h4⟩
        rcases h3 with ⟨o', ho', hp⟩ | h3
        · rcases List.mem_cons.1 ho' with rfl | ho'
          · exact (hm hp).elim
          · exact .inl (lift ⟨o', ho', hp⟩)
        · exact .inr h3
      · injection h2 with h2 h3
        subst h2 h3 h1
        refine ⟨?_, fun hi => ?_⟩
        · rcases hcase with ⟨rfl, _⟩ | ⟨rfl, _, rfl⟩ | ⟨hs, h0, rfl, rfl⟩ | ⟨rfl, h0, rfl, rfl⟩
          · exact .inr fun hf => by cases hf
          · exact .inl ⟨_, List.mem_append_left _ (List.mem_singleton.2 rfl), List.mem_singleton.2 rfl⟩
          · refine .inr fun _ => ⟨?_, by omega⟩
            rw [dc_app _ _ (by rw [hlb] at hw1 ⊢; omega), hw2, h0]
            rcases hs with rfl | rfl | rfl
            all_goals (show cntDo t + 0 = dc _ (b.length + 1); rw [hn1]; omega)
          · refine .inr fun _ => ⟨?_, by rw [hlb] at hw1; omega⟩
            rw [dc_app _ _ (by rw [hlb] at hw1 ⊢; omega), hw2, h0]
            show cntDo t + 1 = dc _ b.length
            rw [hn0, h0]
            omega
        · have h0 := cntDo_nonneg t
          rcases hcase with ⟨rfl, _⟩ | ⟨rfl, _⟩ | ⟨rfl | rfl | rfl, _⟩ | ⟨rfl, h1, _⟩
          all_goals first
            | (cases hi; done)
            | (rw [hn0, h1]; omega)
end N
end Go.Proofs.YtgnlokmeohffaaaGreatDoor
/- A word is read into a body: all stays as deep as it should be. Of no program. -/
namespace Go.Proofs.YtgnlokmeohffaaaGreatDoor
namespace N
open Go.RowKit

theorem deep_while {b : List (Cell × Nat)} {o : Part} {t : List Part} (h : Deep ⟨b, o :: t⟩) (ho : o.kind = wBegin) (hw0 : o.waits = []) : Deep ⟨b ++ [(⟨4, 0, wWhile⟩, 0)], ⟨wWhile, o.start, [b.length]⟩ :: t⟩ := by
  obtain ⟨hw1, hw2, _, hw4⟩ := h.wt
  have hlb : (cells ⟨b, o :: t⟩).length = b.length := cells_len _
  have hk0 : one? o.kind = 0 := by rw [ho]; rfl
  have hnow0 : dc (cells ⟨b, o :: t⟩) b.length = one? o.kind + cntDo t := h.now
  have hcl : cells ⟨b ++ [(⟨4, 0, wWhile⟩, 0)], ⟨wWhile, o.start, [b.length]⟩ :: t⟩ = cells ⟨b, o :: t⟩ ++ [⟨4, 0, wWhile⟩] := by simp [cells]
  have hlen : (b ++ [((⟨4, 0, wWhile⟩ : Cell), 0)]).length = b.length + 1 := by simp
  have hn1 : dc (cells ⟨b, o :: t⟩ ++ [⟨4, 0, wWhile⟩]) (b.length + 1) = cntDo t := by
    have := dc_snoc (cells ⟨b, o :: t⟩) ⟨4, 0, wWhile⟩
    rw [hlb, hnow0, hk0] at this
    rw [this]
    show 0 + cntDo t + 0 = _
    omega
  have hget : (cells ⟨b, o :: t⟩ ++ [(⟨4, 0, wWhile⟩ : Cell)])[b.length]? = some ⟨4, 0, wWhile⟩ := by rw [← hlb, List.getElem?_append_right (Nat.le_refl _), Nat.sub_self]; rfl
  refine ⟨?_, ⟨?_, ?_, fun p hp => ?_, ?_⟩, fun p x g hb hk => ?_⟩
  · rw [hcl]
    show dc _ (b ++ [((⟨4, 0, wWhile⟩ : Cell), 0)]).length = 0 + cntDo t
    rw [hlen, hn1]; omega
  · rw [hcl, List.length_append]
    show o.start < _
    omega
  · rw [hcl]
    show dc _ (o.start + 1) = cntDo t + 0
    rw [dc_app _ _ (by omega), hw2, hk0]
  · rw [hcl]
    rw [List.mem_singleton] at hp
    subst hp
    exact ⟨_, hget, hn1⟩
  · rw [hcl]; exact wtD_app _ _ _ hw4
  · rw [hcl]
    show (_ ∨ (_ → _ ∧ g ≤ (b ++ [((⟨4, 0, wWhile⟩ : Cell), 0)]).length)) ∧ _
    rw [hlen]
    rcases snoc_get hb with h1 | ⟨h1, h2⟩
    · obtain ⟨h3, h4⟩ := h.old ⟨4, 0, wWhile⟩ h1 hk
      refine ⟨?_, h4⟩
      rcases h3 with ⟨o', ho', hp⟩ | h3
      · rcases List.mem_cons.1 ho' with rfl | ho'
        · rw [hw0] at hp; simp at hp
        · exact .inl ⟨o', List.mem_cons_of_mem _ ho', hp⟩
      · exact .inr h3
    · injection h2 with h2 _
      subst h2
      exact ⟨.inl ⟨_, List.mem_cons_self, by rw [h1]; exact List.mem_singleton.2 rfl⟩, fun hi => by cases hi⟩

theorem addWait_cnt (q : Nat) : ∀ t, cntDo (addWait t q) = cntDo t
  | [] => rfl
  | o :: t => by
    unfold addWait
    split
    · rfl
    · show one? o.kind + _ = one? o.kind + _
      rw [addWait_cnt q t]
theorem wtD_leave {l : List Cell} : ∀ (t : List Part), WtD l t → dc l l.length = cntDo t → WtD (l ++ [⟨4, 0, wLeave⟩]) (addWait t l.length)
  | [], _, _ => trivial
  | o :: t, ⟨h1, h2, h3, h4⟩, hn => by
    have hold : ∀ p ∈ o.waits, ∃ c, (l ++ [(⟨4, 0, wLeave⟩ : Cell)])[p]? = some c ∧ ref (l ++ [⟨4, 0, wLeave⟩]) p c.name = cntDo t := fun p hp => by
      obtain ⟨c, hc, hr⟩ := h3 p hp
      have hlt := (List.getElem?_eq_some_iff.1 hc).1
      exact ⟨c, by rw [List.getElem?_append_left hlt]; exact hc, by rw [ref_app _ _ _ (by omega)]; exact hr⟩
    unfold addWait
    split
    · rename_i ho
      refine ⟨by rw [List.length_append]; show o.start < _; omega, by show dc _ (o.start + 1) = _; rw [dc_app _ _ (by omega)]; exact h2, fun p hp => ?_, wtD_app _ _ _ h4⟩
      rcases List.mem_append.1 hp with hp | hp
      · exact hold p hp
      · rw [List.mem_singleton] at hp
        subst hp
        refine ⟨⟨4, 0, wLeave⟩, by rw [List.getElem?_append_right (Nat.le_refl _), Nat.sub_self]; rfl, ?_⟩
        show dc _ l.length - 1 = _
        rw [dc_app _ _ (Nat.le_refl _), hn]
        show one? o.kind + cntDo t - 1 = cntDo t
        unfold one?
        rw [if_pos ho]
        omega
    · rename_i ho
      refine ⟨by rw [List.length_append]; omega, by rw [dc_app _ _ (by omega), addWait_cnt]; exact h2, fun p hp => ?_, wtD_leave t h4 ?_⟩
      · rw [addWait_cnt]; exact hold p hp
      · rw [hn]
        show one? o.kind + cntDo t = cntDo t
        unfold one?
        rw [if_neg ho]
        omega
theorem deep_leave {d : Draft} (h : Deep d) (ho : ∃ o ∈ d.opens, o.kind = wDo) : Deep ⟨d.body ++ [(⟨4, 0, wLeave⟩, 0)], addWait d.opens d.body.length⟩ := by
  have hlb : (cells d).length = d.body.length := cells_len _
  have hcl : cells ⟨d.body ++ [(⟨4, 0, wLeave⟩, 0)], addWait d.opens d.body.length⟩ = cells d ++ [⟨4, 0, wLeave⟩] := by simp [cells]
  have hlen : (d.body ++ [((⟨4, 0, wLeave⟩ : Cell), 0)]).length = d.body.length + 1 := by simp
  refine ⟨?_, ?_, fun p x g hb hk => ?_⟩
  · rw [hcl]
    show dc _ (d.body ++ [((⟨4, 0, wLeave⟩ : Cell), 0)]).length = cntDo (addWait d.opens d.body.length)
    rw [hlen, addWait_cnt]
    have := dc_snoc (cells d) ⟨4, 0, wLeave⟩
    rw [hlb, h.now] at this
    rw [this]
    show cntDo d.opens + 0 = _
    omega
  · rw [hcl]
    have := wtD_leave d.opens h.wt (by rw [hlb]; exact h.now)
    rwa [hlb] at this
  · rw [hcl]
    show (_ ∨ (_ → _ ∧ g ≤ (d.body ++ [((⟨4, 0, wLeave⟩ : Cell), 0)]).length)) ∧ _
    rw [hlen]
    rcases snoc_get hb with h1 | ⟨h1, h2⟩
    · obtain ⟨h3, h4⟩ := h.old ⟨4, 0, wLeave⟩ h1 hk
      refine ⟨?_, h4⟩
      rcases h3 with h3 | h3
      · exact .inl (addWait_mem h3)
      · exact .inr h3
    · injection h2 with h2 _
      subst h2 h1
      refine ⟨.inl (addWait_new ho), fun _ => ?_⟩
      rw [dc_app _ _ (by rw [hlb]; exact Nat.le_refl _), h.now]
      exact cntDo_pos ho

theorem add_deep {d : Draft} (hf : Fine d) (h : Deep d) (s : Txt) (o1 : List Txt) (hs : stands (kinds d) s = some o1) (ht : s ≠ [39]) : Deep (add d ⟨4, 0, s⟩) := by
  have hadd : add d ⟨4, 0, s⟩ = settle ⟨d.body ++ [(⟨4, 0, s⟩, 0)], d.opens⟩ s d.body.length := if_pos rfl
  rw [hadd]
  clear hadd
  have hin : ∀ o ∈ d.opens, ∀ t, d.opens = o :: t → ∀ p ∈ o.waits, p < d.body.length := fun o _ t he p hp => by
    have hw := hf.good.wt
    rw [he] at hw
    obtain ⟨c, hc, _⟩ := hw.1 p hp
    have := (List.getElem?_eq_some_iff.1 hc).1
    rwa [cells_len] at this
  unfold stands at hs
  by_cases h1 : (s == wIf || s == wBegin || s == wDo) = true
  · simp only [Bool.or_eq_true, beq_iff_eq] at h1
    rcases h1 with (rfl | rfl) | rfl
    · exact deep_open h _ (.inr ⟨.inl rfl, rfl⟩)
    · exact deep_open h _ (.inl ⟨rfl, rfl⟩)
    · exact deep_open h _ (.inr ⟨.inr rfl, rfl⟩)
  rw [if_neg h1] at hs
  by_cases h2 : (s == wElse) = true
  · rw [if_pos h2] at hs
    rw [beq_iff_eq] at h2
    subst h2
    obtain ⟨o, t, he, hany, rfl⟩ := turns_some hs
    have hk : o.kind = wIf := by simpa using hany
    have hi := hin o (by rw [he]; exact List.mem_cons_self) t he
    obtain ⟨b, os⟩ := d
    simp only at he
    subst he
    have := deep_shut h 0 (s := wElse) [⟨wElse, b.length, [b.length]⟩] hi (.inr (.inl ⟨rfl, by rw [hk]; rfl, rfl⟩))
    simpa [settle, shut, wElse, wIf, wDo, wBegin] using this
  rw [if_neg h2] at hs
  by_cases h3 : (s == wThen) = true
  · rw [if_pos h3] at hs
    rw [beq_iff_eq] at h3
    subst h3
    obtain ⟨o, t, he, hany, rfl⟩ := turns_some hs
    have hk : o.kind = wIf ∨ o.kind = wElse := by simpa using hany
    have hi := hin o (by rw [he]; exact List.mem_cons_self) t he
    obtain ⟨b, os⟩ := d
    simp only at he
    subst he
    have := deep_shut h 0 (s := wThen) [] hi (.inl ⟨rfl, by rcases hk with e | e <;> rw [e] <;> rfl, rfl⟩)
    simpa [settle, shut, wThen, wElse, wIf, wDo, wBegin, wWhile, wLeave, wUntil, wAgain, wRepeat, wLoop] using this
  rw [if_neg h3] at hs
  have back : ∀ (b : List (Cell × Nat)) (o : Part) (t : List Part), bwd s = true → Deep ⟨goOns (b ++ [(⟨4, 0, s⟩, o.start + 1)]) o.waits (b.length + 1), [] ++ t⟩ → Deep (settle ⟨b ++ [(⟨4, 0, s⟩, 0)], o :: t⟩ s b.length) := by
    intro b o t hb hd
    have e1 : settle ⟨b ++ [(⟨4, 0, s⟩, 0)], o :: t⟩ s b.length = shut ⟨goOn (b ++ [(⟨4, 0, s⟩, 0)]) b.length (o.start + 1), o :: t⟩ := by
      unfold bwd at hb
      simp only [Bool.or_eq_true, beq_iff_eq] at hb
      rcases hb with ((rfl | rfl) | rfl) | rfl <;> rfl
    rw [e1, goOn_last]
    show Deep ⟨goOns _ o.waits (b ++ [((⟨4, 0, s⟩ : Cell), o.start + 1)]).length, t⟩
    rw [List.length_append]
    exact hd
  by_cases h4 : (s == wUntil || s == wAgain) = true
  · rw [if_pos h4] at hs
    simp only [Bool.or_eq_true, beq_iff_eq] at h4
    obtain ⟨o, t, he, hany, rfl⟩ := turns_some hs
    have hk : o.kind = wBegin := by simpa using hany
    have hi := hin o (by rw [he]; exact List.mem_cons_self) t he
    obtain ⟨b, os⟩ := d
    simp only at he
    subst he
    exact back b o t (by rcases h4 with rfl | rfl <;> rfl) (deep_shut h (o.start + 1) [] hi (.inr (.inr (.inl ⟨by rcases h4 with h4 | h4 <;> simp [h4], by rw [hk]; rfl, rfl, rfl⟩))))
  rw [if_neg h4] at hs
  by_cases h5 : (s == wWhile) = true
  · rw [if_pos h5] at hs
    rw [beq_iff_eq] at h5
    subst h5
    obtain ⟨o, t, he, hany, rfl⟩ := turns_some hs
    have hk : o.kind = wBegin := by simpa using hany
    obtain ⟨b, os⟩ := d
    simp only at he
    subst he
    have hw0 : o.waits = [] := by
      refine List.eq_nil_iff_forall_not_mem.2 fun p hp => ?_
      obtain ⟨c, _, _, hc, _⟩ := hf.good.wt.1 p hp
      rw [hk] at hc
      simp [waitOk, wBegin, wIf, wElse, wWhile, wDo] at hc
    exact deep_while h hk hw0
  rw [if_neg h5] at hs
  by_cases h6 : (s == wRepeat) = true
  · rw [if_pos h6] at hs
    rw [beq_iff_eq] at h6
    obtain ⟨o, t, he, hany, rfl⟩ := turns_some hs
    have hk : o.kind = wWhile := by simpa using hany
    have hi := hin o (by rw [he]; exact List.mem_cons_self) t he
    obtain ⟨b, os⟩ := d
    simp only at he
    subst he
    exact back b o t (by rw [h6]; rfl) (deep_shut h (o.start + 1) [] hi (.inr (.inr (.inl ⟨.inr (.inr h6), by rw [hk]; rfl, rfl, rfl⟩))))
  rw [if_neg h6] at hs
  by_cases h7 : (s == wLoop) = true
  · rw [if_pos h7] at hs
    rw [beq_iff_eq] at h7
    obtain ⟨o, t, he, hany, rfl⟩ := turns_some hs
    have hk : o.kind = wDo := by simpa using hany
    have hi := hin o (by rw [he]; exact List.mem_cons_self) t he
    obtain ⟨b, os⟩ := d
    simp only at he
    subst he
    exact back b o t (by rw [h7]; rfl) (deep_shut h (o.start + 1) [] hi (.inr (.inr (.inr ⟨h7, by rw [hk]; rfl, rfl, rfl⟩))))
  rw [if_neg h7] at hs
  by_cases h8 : (s == wI || s == wLeave) = true
  · rw [if_pos h8] at hs
    by_cases hany : (kinds d).any (fun b => b == wDo) = true
    · have hdo : ∃ o ∈ d.opens, o.kind = wDo := by
        rw [List.any_eq_true] at hany
        obtain ⟨x, hx, he⟩ := hany
        unfold kinds at hx
        rw [List.mem_map] at hx
        obtain ⟨o, ho, hk⟩ := hx
        exact ⟨o, List.mem_reverse.1 ho, by rw [hk]; simpa using he⟩
      simp only [Bool.or_eq_true, beq_iff_eq] at h8
      rcases h8 with rfl | rfl
      · exact deep_idle h (.inr (.inr (.inr ⟨rfl, hdo⟩)))
      · exact deep_leave h hdo
    · rw [if_neg hany] at hs
      cases hs
  rw [if_neg h8] at hs
  by_cases h9 : (s == wRecurse || s == wExit || s == [39]) = true
  · simp only [Bool.or_eq_true, beq_iff_eq] at h9
    rcases h9 with (rfl | rfl) | rfl
    · exact deep_idle h (.inr (.inr (.inl rfl)))
    · exact deep_idle h (.inr (.inl rfl))
    · exact (ht rfl).elim
  · rw [if_neg h9] at hs
    cases hs
theorem add_deep_plain {d : Draft} (h : Deep d) (c : Cell) (hc : c.kind ≠ 4) : Deep (add d c) := by
  have hadd : add d c = ⟨d.body ++ [(c, 0)], d.opens⟩ := if_neg hc
  rw [hadd]
  exact deep_idle h (.inl hc)

/-- A whole body. -/
theorem jump_whole {d : Draft} (h : Deep d) (ho : d.opens = []) {p g : Nat} {c : Cell} (hb : d.body[p]? = some (c, g)) (hk : c.kind = 4) : JumpOk (cells d) p c.name g := by
  obtain ⟨h1, h2⟩ := h.jump p c g hb hk
  refine ⟨fun hf => ?_, h2⟩
  rcases h1 with ⟨o, hm, _⟩ | h1
  · rw [ho] at hm; simp at hm
  · have := h1 hf
    rw [cells_len]
    exact this
end N
end Go.Proofs.YtgnlokmeohffaaaGreatDoor
/- The words of one's own in memory: what a machine's list of them holds, and what lies behind each. -/
namespace Go.Proofs.YtgnlokmeohffaaaGreatDoor
open Go.RowKit

/-- How a word of one's own is held: a definition's or a variable's block, a constant's or a marker's value. -/
inductive Own where
  | defn (b : Nat)
  | vari (b : Nat)
  | cons (name : List UInt8) (t n : Int)
  | mark (name : List UInt8) (t : Int)

def ownVal : Own → Value
  | .defn b => .iface 122 (.pointer (some ⟨b, 0, none⟩))
  | .vari b => .iface 124 (.pointer (some ⟨b, 0, none⟩))
  | .cons nm t n => .iface 130 (.agg #[.string ⟨nm.toArray⟩, .int .i64 t, .int .i64 n])
  | .mark nm t => .iface 132 (.agg #[.string ⟨nm.toArray⟩, .int .i64 t])

/-- A word of a body. -/
def cellVal (wv : List Own) (x : N.Cell × Nat) : Value :=
  if x.1.kind = 1 then .iface 117 (.int .i64 x.1.n)
  else if x.1.kind = 2 then ((wv[x.1.n.toNat]?).map ownVal).getD .nilIface
  else if x.1.kind = 3 then ((L.find x.1.name).map fun p => Value.iface 120 (primVal p)).getD .nilIface
  else .iface 196 (.agg #[.string ⟨x.1.name.toArray⟩, .int .i64 x.2])

/-- What may stand in the body of the word at place j. -/
def cellOk (all : List N.Ent) (j : Nat) (c : N.Cell) : Prop :=
  (c.kind = 1 ∧ inI64 c.n) ∨ (c.kind = 2 ∧ ∃ k e, c.n = (k : Nat) ∧ k < j ∧ all[k]? = some e ∧ e.ended = true) ∨ (c.kind = 3 ∧ (L.find c.name).isSome = true) ∨ (c.kind = 4 ∧ N.inner c.name = true)

/-- A word of one's own, as it lies. -/
def EntAt (w : World) (wv : List Own) (j : Nat) (e : N.Ent) : Own → Prop
  | .defn b => e.kind = 1 ∧ ∃ (vB : Value) (body : List (N.Cell × Nat)), w.heap[b]? = some (.cells #[.string ⟨e.name.toArray⟩, .int .i64 (1000 + (j : Int)), vB] 180) ∧
      w.ownsRow 0 107 1 vB body.length (body.map (cellVal wv)) ∧ body.map (·.1) = e.body ∧ body.length ≤ 60 ∧ ∀ p c g, body[p]? = some (c, g) → c.kind = 4 → ((N.fwd c.name || N.bwd c.name) = true → g = N.goal e.body p c.name) ∧ N.JumpOk e.body p c.name g
  | .vari b => e.kind = 2 ∧ inI64 e.n ∧ w.heap[b]? = some (.cells #[.string ⟨e.name.toArray⟩, .int .i64 (1000 + (j : Int)), .int .i64 e.n] 129)
  | .cons nm t n => e.kind = 3 ∧ inI64 e.n ∧ nm = e.name ∧ t = 1000 + (j : Int) ∧ n = e.n
  | .mark nm t => e.kind = 4 ∧ nm = e.name ∧ t = 1000 + (j : Int)

/-- The words that there are. -/
def listed (all : List N.Ent) (wv : List Own) : List Value := ((all.zip wv).filter fun p => N.there p.1).map fun p => ownVal p.2

structure OwnAt (w : World) (all : List N.Ent) (wv : List Own) (vO vB : Value) : Prop where
  len : wv.length = all.length
  begun : vB = .int .i64 (all.length : Int)
  row : w.ownsRow 0 62 1 vO (listed all wv).length (listed all wv)
  ent : ∀ j e o, all[j]? = some e → wv[j]? = some o → e.ended = true → EntAt w wv j e o
  ok : ∀ j e, all[j]? = some e → e.ended = true → ∀ c ∈ e.body, cellOk all j c
  few : (listed all wv).length ≤ 40
  apart : ∀ (i j b : Nat), wv[i]? = some (Own.vari b) → wv[j]? = some (Own.vari b) → i = j
  old : all.length ≤ 1000000000000
  und : ∀ (j b : Nat), wv[j]? = some (Own.vari b) → ∃ e, all[j]? = some e ∧ e.ended = true

/-- A block that words of one's own lie in. -/
def OBlock (w : World) (k : Nat) : Prop := ∃ cs t fr, w.heap[k]? = some (.cells cs t fr) ∧ (t = 180 ∨ t = 129 ∨ t = 107 ∨ t = 62)

theorem owns_oblock {w : World} {e n k : Nat} {v : Value} {xs : List Value} (h : w.ownsRow 0 e 1 v n xs) (he : e = 107 ∨ e = 62) (hk : v.ownBlock = some k) : OBlock w k := by
  obtain ⟨cur, hc⟩ := owns_block h hk
  exact ⟨cur, e, _, hc, by rcases he with h | h <;> simp [h]⟩

theorem EntAt.kept {w w' : World} {wv : List Own} {j : Nat} {e : N.Ent} {o : Own} (h : EntAt w wv j e o) (hk : ∀ k, OBlock w k → w'.heap[k]? = w.heap[k]?) : EntAt w' wv j e o := by
  cases o with
  | defn b =>
    obtain ⟨h0, vB, body, h1, h2, h3⟩ := h
    exact ⟨h0, vB, body, (hk b ⟨_, _, _, h1, .inl rfl⟩).trans h1, owns_kept h2 fun k e => hk k (owns_oblock h2 (.inl rfl) e), h3⟩
  | vari b => exact ⟨h.1, h.2.1, (hk b ⟨_, _, _, h.2.2, .inr (.inl rfl)⟩).trans h.2.2⟩
  | cons nm t n => exact h
  | mark nm t => exact h

theorem OwnAt.kept {w w' : World} {all : List N.Ent} {wv : List Own} {vO vB : Value} (h : OwnAt w all wv vO vB) (hk : ∀ k, OBlock w k → w'.heap[k]? = w.heap[k]?) : OwnAt w' all wv vO vB where
  len := h.len
  begun := h.begun
  row := owns_kept h.row fun k e => hk k (owns_oblock h.row (.inr rfl) e)
  ent := fun j e o h1 h2 h3 => (h.ent j e o h1 h2 h3).kept hk
  ok := h.ok
  few := h.few
  apart := h.apart
  old := h.old
  und := h.und

theorem oblock_lt {w : World} {k : Nat} (h : OBlock w k) : k < w.heap.size := by
  obtain ⟨_, _, _, h, _⟩ := h
  exact heap_lt h

theorem OwnAt.below {w w' : World} {all : List N.Ent} {wv : List Own} {vO vB : Value} (h : OwnAt w all wv vO vB) (hb : Below w.heap.size w w') : OwnAt w' all wv vO vB :=
  h.kept fun k hk => hb.block k (oblock_lt hk)

/-- A run's own blocks are none of these. -/
theorem foot_not_own {w : World} {mb rb : Nat} {vO vB vW vS vR vT : Value} {s : L.RunS} (h : RunAt w mb rb vO vB vW vS vR vT s) {k : Nat} (hk : OBlock w k) : ¬ Foot mb rb vS vR vT k := by
  obtain ⟨cs, t, fr, hc, ht⟩ := hk
  have key : ∀ {cs' : Array Value} {t' : TypeId} {fr' : Nat × Nat}, w.heap[k]? = some (.cells cs' t' fr') → t' = t := fun h' => by
    rw [hc] at h'
    injection h' with h'
    injection h' with _ h' _
    exact h'.symm
  rintro (rfl | rfl | e | e | e)
  · have := key h.m
    subst this
    revert ht
    decide
  · have := key h.r
    subst this
    revert ht
    decide
  · obtain ⟨_, h'⟩ := owns_block h.st e
    have := key h'
    subst this
    revert ht
    decide
  · obtain ⟨_, h'⟩ := owns_block h.asd e
    have := key h'
    subst this
    revert ht
    decide
  · obtain ⟨_, h'⟩ := owns_block h.ot e
    have := key h'
    subst this
    revert ht
    decide

theorem OwnAt.mv {w w' : World} {mb rb : Nat} {vO vB vW vS vR vT vO1 vB1 : Value} {s : L.RunS} {all : List N.Ent} {wv : List Own} (h : OwnAt w all wv vO vB) (hr : RunAt w mb rb vO1 vB1 vW vS vR vT s) (hm : Mv (Foot mb rb vS vR vT) w w') : OwnAt w' all wv vO vB :=
  h.kept fun k hk => hm.block k (oblock_lt hk) (foot_not_own hr hk)

/-- A variable's block. -/
def VarIn (wv : List Own) (k : Nat) : Prop := ∃ j : Nat, wv[j]? = some (Own.vari k)
def FootN (mb rb : Nat) (vO vS vR vT : Value) (wv : List Own) : Nat → Prop := fun k => Foot mb rb vS vR vT k ∨ VarIn wv k ∨ vO.ownBlock = some k

/-- A run in plain terms, with the words of one's own: as the document's machine. -/
def toM (s : L.RunS) (all : List N.Ent) : N.Mach := ⟨all, s.S, s.R, s.out, s.steps⟩

/-- A run goes on to where the document's machine does; code: the error. -/
def GoesN (mb rb : Nat) (vO vB vW vS vR vT : Value) (wv : List Own) (s : L.RunS) (m : N.Mach) (code : Int) (w w' : World) : Prop :=
  ∃ vO' v1 v2 v3 s', RunAt w' mb rb vO' vB vW v1 v2 v3 s' ∧ OwnAt w' m.all wv vO' vB ∧ Mv (FootN mb rb vO vS vR vT wv) w w' ∧ Fresh w (FootN mb rb vO vS vR vT wv) (FootN mb rb vO' v1 v2 v3 wv) ∧
    s'.words = s.words ∧ s'.pos = s.pos ∧ s'.depth = s.depth ∧ s'.out = m.out ∧ (code = 0 → s'.S = m.S ∧ s'.R = m.R ∧ s'.steps = m.steps)
end Go.Proofs.YtgnlokmeohffaaaGreatDoor
/- What the walks of these texts import. -/

/- newest, byToken: the word of one's own of a name, of a token. -/
namespace Go.Proofs.YtgnlokmeohffaaaGreatDoor
open Go.RowKit
attribute [local go_sem ↓] Go.wp_at_zero Go.wp_at_succ

theorem retv {a b : Value} (h : a = b) : Ending.returned a = .returned b := by rw [h]

/-- The name and the token of a word of one's own, as they lie. -/
def HeadAt (w : World) (o : Own) (nm : List UInt8) (tok : Int) : Prop :=
  match o with
  | .defn b => ∃ v, w.heap[b]? = some (.cells #[.string ⟨nm.toArray⟩, .int .i64 tok, v] 180)
  | .vari b => ∃ v, w.heap[b]? = some (.cells #[.string ⟨nm.toArray⟩, .int .i64 tok, v] 129)
  | .cons n t _ => n = nm ∧ t = tok
  | .mark n t => n = nm ∧ t = tok

theorem HeadAt.below {w w' : World} {o : Own} {nm : List UInt8} {tok : Int} (h : HeadAt w o nm tok) (hb : Below w.heap.size w w') : HeadAt w' o nm tok := by
  cases o with
  | defn b =>
    obtain ⟨v, h⟩ := h
    exact ⟨v, (hb.block b (heap_lt h)).trans h⟩
  | vari b =>
    obtain ⟨v, h⟩ := h
    exact ⟨v, (hb.block b (heap_lt h)).trans h⟩
  | cons n t x => exact h
  | mark n t => exact h

theorem EntAt.head {w : World} {wv : List Own} {j : Nat} {e : N.Ent} {o : Own} (h : EntAt w wv j e o) : HeadAt w o e.name (1000 + (j : Int)) := by
  cases o with
  | defn b =>
    obtain ⟨_, vB, _, h1, _⟩ := h
    exact ⟨vB, h1⟩
  | vari b => exact ⟨_, h.2.2⟩
  | cons n t x => exact ⟨h.2.2.1, h.2.2.2.1⟩
  | mark n t => exact ⟨h.2.1, h.2.2⟩

theorem head_name {w : World} {o : Own} {nm : List UInt8} {tok : Int} (h : HeadAt w o nm tok) : ∃ T v, ownVal o = .iface T v ∧
    (∀ F : Nat, (method (F + 1) T v "Name").run Tryz.prog w = .ok (171, .agg #[.string ⟨nm.toArray⟩, .int .i64 tok]) w) ∧
    (∀ F : Nat, (method (F + 1) T v "Token").run Tryz.prog w = .ok (65, .agg #[.string ⟨nm.toArray⟩, .int .i64 tok]) w) := by
  cases o with
  | defn b =>
    obtain ⟨x, h⟩ := h
    have c0 : w.cell? ⟨b, 0, none⟩ = some (.string ⟨nm.toArray⟩) := cell_of_block h rfl
    have c1 : w.cell? ⟨b, 1, none⟩ = some (.int .i64 tok) := cell_of_block h rfl
    refine ⟨_, _, rfl, fun F => ?_, fun F => ?_⟩
    · rw [show (method (F + 1) 122 (.pointer (some ⟨b, 0, none⟩)) "Name").run Tryz.prog w = (do let v ← loadVar 127 ⟨b, 0, none⟩; pure (171, v) : Sem (FuncId × Value)).run Tryz.prog w by kernel_rfl]
      simp [go_sem, c0, c1]
    · rw [show (method (F + 1) 122 (.pointer (some ⟨b, 0, none⟩)) "Token").run Tryz.prog w = (do let v ← loadVar 127 ⟨b, 0, none⟩; pure (65, v) : Sem (FuncId × Value)).run Tryz.prog w by kernel_rfl]
      simp [go_sem, c0, c1]
  | vari b =>
    obtain ⟨x, h⟩ := h
    have c0 : w.cell? ⟨b, 0, none⟩ = some (.string ⟨nm.toArray⟩) := cell_of_block h rfl
    have c1 : w.cell? ⟨b, 1, none⟩ = some (.int .i64 tok) := cell_of_block h rfl
    refine ⟨_, _, rfl, fun F => ?_, fun F => ?_⟩
    · rw [show (method (F + 1) 124 (.pointer (some ⟨b, 0, none⟩)) "Name").run Tryz.prog w = (do let v ← loadVar 127 ⟨b, 0, none⟩; pure (171, v) : Sem (FuncId × Value)).run Tryz.prog w by kernel_rfl]
      simp [go_sem, c0, c1]
    · rw [show (method (F + 1) 124 (.pointer (some ⟨b, 0, none⟩)) "Token").run Tryz.prog w = (do let v ← loadVar 127 ⟨b, 0, none⟩; pure (65, v) : Sem (FuncId × Value)).run Tryz.prog w by kernel_rfl]
      simp [go_sem, c0, c1]
  | cons n t x =>
    obtain ⟨rfl, rfl⟩ := h
    exact ⟨_, _, rfl, fun F => by kernel_rfl, fun F => by kernel_rfl⟩
  | mark n t =>
    obtain ⟨rfl, rfl⟩ := h
    exact ⟨_, _, rfl, fun F => by kernel_rfl, fun F => by kernel_rfl⟩

/-- The words that there are, with their names and tokens. -/
structure Row where
  o : Own
  nm : List UInt8
  tok : Int
def lastN (os : List Row) (name : List UInt8) : Nat → Option Own
  | 0 => none
  | i + 1 => match os[i]? with
    | some r => if r.nm == name then some r.o else lastN os name i
    | none => lastN os name i
def optVal : Option Own → Value
  | none => .nilIface
  | some o => ownVal o

set_option maxRecDepth 100000 in
set_option maxHeartbeats 800000 in
theorem newest_walk (w : World) (mb g cap : Nat) (os : List Row) (s : ByteArray) (h2 : w.cell? ⟨mb, 2, none⟩ = some (.slice (some ⟨g, 0, none⟩) os.length cap)) (hn : os.length ≤ 40)
    (hg : ∀ j r, os[j]? = some r → w.cell? ⟨g, j, none⟩ = some (ownVal r.o) ∧ HeadAt w r.o r.nm r.tok) :
    Calls Tryz.prog 30 #[.pointer (some ⟨mb, 0, none⟩), .string s] w fun e w' => e = .returned (optVal (lastN os s.data.toList os.length)) ∧ Below w.heap.size w w' := by
  have HG := hide hg
  have hz := block_lt h2
  clear hg
  generalize hn0 : os.length = n at *
  go_enter Tryz.func30, Tryz.ntmps30
  go_wp2
  go_loopw [5] (fun i wr => ∃ k : Nat, k ≤ n ∧ i = .int .i64 ((k : Int) - 1) ∧ Below w.heap.size w wr ∧ lastN os s.data.toList k = lastN os s.data.toList n) (fun i _ => match i with | .int _ k => (k + 1).toNat | _ => 0)
  case atStart => exact ⟨n, Nat.le_refl _, rfl, Below.refl _ _, rfl⟩
  case round =>
    obtain ⟨k, hk, rfl, hb, hl⟩ := hrel
    have d2 : wr.cell? ⟨mb, 2, none⟩ = some (.slice (some ⟨g, 0, none⟩) n cap) := ((bcell hb).1 mb 2 hz).trans h2
    cases k with
    | zero =>
      have HB := hide hb
      have HL := hide hl
      clear hb hl
      go_wp2
      go_ret
      refine ⟨retv ?_, unhide HB⟩
      rw [← unhide HL]
      rfl
    | succ k =>
      have hlt : k < os.length := by omega
      obtain ⟨r, hr⟩ : ∃ r, os[k]? = some r := ⟨_, List.getElem?_eq_getElem hlt⟩
      obtain ⟨hc, hh⟩ := unhide HG k r hr
      obtain ⟨T, v, hv, hm, _⟩ := head_name (hh.below hb)
      rw [hv] at hc
      have c3 : wr.cell? ⟨g, k, none⟩ = some (.iface T v) := ((bcell hb).1 g k (block_lt hc)).trans hc
      have hstep : lastN os s.data.toList (k + 1) = if r.nm == s.data.toList then some r.o else lastN os s.data.toList k := by
        show (match os[k]? with | some r => if r.nm == s.data.toList then some r.o else lastN os s.data.toList k | none => lastN os s.data.toList k) = _
        rw [hr]
      rw [hstep] at hl
      have hsl : s.toList = s.data.toList := Go.ByteArray.toList_eq s
      have HL := hide hl
      have HB := hide hb
      have HV := hide hv
      have HS := hide hsl
      clear hl hb hstep hc hh hv hsl hlt hr
      have e1 : ((k + 1 : Nat) : Int) - 1 = (k : Int) := by omega
      rw [e1]
      have da2 : ∀ o, (wr.alloc o).cell? ⟨mb, 2, none⟩ = some (.slice (some ⟨g, 0, none⟩) n cap) := fun o => cell_alloc d2 o
      have da3 : ∀ o, (wr.alloc o).cell? ⟨g, k, none⟩ = some (.iface T v) := fun o => cell_alloc c3 o
      have k1 : (k : Int) < (n : Int) := by omega
      cases hq : (r.nm == s.data.toList) with
      | true =>
        have hq' : (r.nm == s.toList) = true := by rw [unhide HS]; exact hq
        have HL2 := hide ((if_pos hq).symm.trans (unhide HL))
        clear hq HL
        go_wp2
        go_ret
        refine ⟨retv ?_, (unhide HB).alloc (unhide HB).size _⟩
        rw [← unhide HL2]
        exact (unhide HV).symm
      | false =>
        have hq' : (r.nm == s.toList) = false := by rw [unhide HS]; exact hq
        have HL2 := hide ((if_neg (by rw [hq]; exact Bool.false_ne_true)).symm.trans (unhide HL))
        clear hq HL
        go_wp2
        refine ⟨⟨k, by omega, rfl, (unhide HB).alloc (unhide HB).size _, ?_⟩, ?_⟩
        · exact unhide HL2
        · show ((k : Int) - 1 + 1).toNat < ((k : Int) + 1).toNat
          omega
end Go.Proofs.YtgnlokmeohffaaaGreatDoor
/- What the small functions of the program answer: isBold, truth, divide. -/
namespace Go.Proofs.YtgnlokmeohffaaaGreatDoor
open Go.RowKit

theorem bool_true {b : Bool} (h : b = true) : Ending.returned (.bool b) = .returned (.bool true) := by rw [h]

set_option maxHeartbeats 400000 in
theorem isBold_any (s : ByteArray) (w : World) :
    Calls Tryz.prog 68 #[.string s] w fun e w' => e = .returned (.bool (L.isBold s.toList)) ∧ w' = w := by
  go_enter Tryz.func68, Tryz.ntmps68
  go_wp2
  all_goals
    go_ret
    refine ⟨?_, rfl⟩
    first
      | (simp only [L.isBold, L.boldNames, List.any_cons, List.any_nil, Bool.or_false, Bool.false_or, Bool.true_or, *]; rfl)
      | (exfalso; simp_all; done)
end Go.Proofs.YtgnlokmeohffaaaGreatDoor
/- What the functions of package scan answer: isBlank, Words, Number. -/
namespace Go.Proofs.YtgnlokmeohffaaaGreatDoor
open Go.RowKit

theorem isBlank_any (r : Nat) (w : World) (h : r ≤ 1114111) :
    Calls Tryz.prog 44 #[.int .i32 r] w fun e w' => e = .returned (.bool (L.blankN r)) ∧ w' = w := by
  go_enter Tryz.func44, Tryz.ntmps44
  go_wp2
  all_goals
    go_ret
    refine ⟨ret_bool ?_, rfl⟩
    unfold L.blankN
    rw [Bool.eq_iff_iff]
    simp
    omega

theorem blank_pred (w : World) : PredAtRunes Tryz.prog 44 #[] L.blankN w := by
  intro W x hx _
  refine (isBlank_any x W hx).mono ?_
  rintro e w' ⟨rfl, rfl⟩
  exact ⟨rfl, 0, rfl⟩

set_option maxRecDepth 100000 in
/-- Words: the words of a line, as texts in a row of their own. -/
theorem words_any (s : ByteArray) (w : World) (hs : s.size ≤ 4294967296) :
    Calls Tryz.prog 26 #[.string s] w fun e w' => ∃ v, e = .returned v ∧ w'.ownsRow w.heap.size 9 1 v (L.split s.data.toList).length ((L.split s.data.toList).map fun l => Value.string ⟨l.toArray⟩) ∧ Below w.heap.size w w' := by
  go_enter Tryz.func26, Tryz.ntmps26
  go_wp2_with fail
  refine (Tryz.strings_FieldsFunc_runes 44 #[] (fun _ _ => rfl) L.blankN s _ hs (blank_pred _)).mono ?_
  rintro e w' ⟨B, rfl, hB, hown, hbel⟩
  go_wp2
  go_ret
  rw [L.words_split] at hown
  refine ⟨_, rfl, ?_, hbel⟩
  show w'.ownsRow w.heap.size 9 1 (Value.slice (some ⟨B, 0, none⟩) (Lib.goFieldsP L.blankN s).length (Lib.goFieldsP L.blankN s).length) _ _
  rw [L.words_split]
  simpa only [List.length_map, List.map_map, Function.comp_def] using hown

theorem take_snoc (s : ByteArray) (k : Nat) (h : k < s.size) : s.data.toList.take (k + 1) = s.data.toList.take k ++ [s[k]] := by
  rw [List.take_succ_eq_append_getElem (by simpa using h)]; rfl

theorem all_of_take {l : List UInt8} {p : UInt8 → Bool} {k : Nat} (h : (l.take k).all p = false) : l.all p = false := by
  rw [← List.take_append_drop k l, List.all_append, h]
  rfl

set_option maxRecDepth 100000 in
set_option maxHeartbeats 800000 in
theorem number_core (s d : ByteArray) (neg : Bool) (res : Option Int) (w : World) (HT : Hid ((⟨(Lib.trimPrefix s.data.toList (⟨#[45]⟩ : ByteArray).data.toList).toArray⟩ : ByteArray) = d))
    (HN : Hid (Lib.hasPrefix s.data.toList (⟨#[45]⟩ : ByteArray).data.toList = neg))
    (HR : Hid (res = if d.data.toList.length = 0 ∨ 18 < d.data.toList.length ∨ d.data.toList.all L.isDigit = false then none else some (if neg then -(L.digVal d.data.toList : Int) else L.digVal d.data.toList))) :
    Calls Tryz.prog 70 #[.string s] w fun e w' => e = .returned (.tuple #[.int .i64 (res.getD 0), .bool res.isSome]) ∧ w' = w := by
  have HS := hide (Lib.size_eq d)
  have hlist : d.toList = d.data.toList := Go.ByteArray.toList_eq d
  by_cases h0 : d.size = 0
  · have hb : (d.toList == []) = true := by rw [hlist]; simp [List.length_eq_zero_iff.1 ((unhide HS).symm.trans h0)]
    have Hres := hide (show res = none by rw [unhide HR, if_pos (.inl ((unhide HS).symm.trans h0))])
    clear h0 hlist
    go_enter Tryz.func70, Tryz.ntmps70
    go_wp2_with fail
    refine (Tryz.strings_CutPrefix s ⟨#[45]⟩ _).mono ?_
    rintro e w' ⟨rfl, rfl⟩
    rw [unhide HT, unhide HN]
    go_wp2
    go_ret2
    exact ⟨ret_ib (by rw [unhide Hres]; rfl) (by rw [unhide Hres]; rfl), rfl⟩
  · have hb : (d.toList == []) = false := by
      rw [hlist, beq_eq_false_iff_ne]
      intro h
      rw [unhide HS, h] at h0
      exact h0 rfl
    clear h0 hlist
    by_cases h18 : 18 < d.size
    · have Hres := hide (show res = none by rw [unhide HR, if_pos (.inr (.inl (by rw [← unhide HS]; exact h18)))])
      go_enter Tryz.func70, Tryz.ntmps70
      go_wp2_with fail
      refine (Tryz.strings_CutPrefix s ⟨#[45]⟩ _).mono ?_
      rintro e w' ⟨rfl, rfl⟩
      rw [unhide HT, unhide HN]
      go_wp2
      go_ret2
      exact ⟨ret_ib (by rw [unhide Hres]; rfl) (by rw [unhide Hres]; rfl), rfl⟩
    · have hle : d.size ≤ 18 := by omega
      clear h18
      go_enter Tryz.func70, Tryz.ntmps70
      go_wp2_with fail
      refine (Tryz.strings_CutPrefix s ⟨#[45]⟩ _).mono ?_
      rintro e w' ⟨rfl, rfl⟩
      rw [unhide HT, unhide HN]
      go_wp2
      go_loop [6, 23] (fun n i => ∃ k : Nat, k ≤ d.size ∧ i = .int .i64 k ∧ n = .int .i64 (L.digVal (d.data.toList.take k)) ∧ (d.data.toList.take k).all L.isDigit = true) (fun _ i => d.size - (intOf i).toNat)
      case atStart => exact ⟨0, Nat.zero_le _, rfl, rfl, rfl⟩
      case round =>
        obtain ⟨k, hk, rfl, rfl, hall⟩ := hrel
        by_cases hlt : k < d.size
        · have hts := take_snoc d k hlt
          have hdl := L.digVal_lt _ hall
          have hpw := L.pow_le17 (d.data.toList.take k).length (by rw [List.length_take]; omega)
          have hsm : (L.digVal (d.data.toList.take k) : Int) ≤ 99999999999999999 := by omega
          have hc : d[k].toNat < 256 := UInt8.toNat_lt d[k]
          have hbad : ((d[k].toNat : Int) < 48 ∨ 57 < (d[k].toNat : Int)) → res = none := fun hx => by
            rw [unhide HR, if_pos]
            refine .inr (.inr (all_of_take (k := k + 1) ?_))
            rw [hts, List.all_append, hall]
            have : L.isDigit d[k] = false := by
              unfold L.isDigit
              rw [Bool.and_eq_false_iff, decide_eq_false_iff_not, decide_eq_false_iff_not]
              omega
            simp [this]
          have hgood : (48 ≤ (d[k].toNat : Int) ∧ (d[k].toNat : Int) ≤ 57) → (L.digVal (d.data.toList.take k) : Int) * 10 + ((d[k].toNat : Int) - 48) = (L.digVal (d.data.toList.take (k + 1)) : Int) ∧ (d.data.toList.take (k + 1)).all L.isDigit = true := fun hx => by
            rw [hts, L.digVal_snoc, List.all_append, hall]
            have : L.isDigit d[k] = true := by
              unfold L.isDigit
              rw [Bool.and_eq_true, decide_eq_true_eq, decide_eq_true_eq]
              omega
            refine ⟨by omega, by simp [this]⟩
          have Hbad := hide hbad
          have Hgood := hide hgood
          clear hdl hpw hall hts hbad hgood
          go_wp2
          all_goals first
            | (go_ret2; exact ⟨ret_ib (by rw [unhide Hbad (by omega)]; rfl) (by rw [unhide Hbad (by omega)]; rfl), rfl⟩)
            | exact ⟨⟨k + 1, by omega, by go_num, by rw [(unhide Hgood (by omega)).1], (unhide Hgood (by omega)).2⟩, by simp [intOf]; omega⟩
        · have hks : d.data.toList.take k = d.data.toList := List.take_of_length_le (by rw [← unhide HS]; omega)
          rw [hks] at hall
          rw [hks]
          have hdl := L.digVal_lt _ hall
          have hpw := L.pow_le d.data.toList.length (by rw [← unhide HS]; omega)
          have hsm : (L.digVal d.data.toList : Int) ≤ 999999999999999999 := by omega
          have Hres := hide (show res = some (if neg then -(L.digVal d.data.toList : Int) else L.digVal d.data.toList) by
            rw [unhide HR, if_neg]
            rintro (h | h | h)
            · rw [beq_eq_false_iff_ne] at hb
              exact hb (by rw [Go.ByteArray.toList_eq]; exact List.length_eq_zero_iff.1 h)
            · rw [← unhide HS] at h; omega
            · rw [hall] at h; cases h)
          clear hdl hpw hall hks
          go_wp2
          all_goals go_ret2
          · exact ⟨ret_ib (by rw [unhide Hres]; simp [*]) (by rw [unhide Hres]; rfl), rfl⟩
          · exact ⟨ret_ib (by rw [unhide Hres]; simp [*]) (by rw [unhide Hres]; rfl), rfl⟩

/-- Number: the number that a word is as it is written, and whether it is one. -/
theorem number_any (s : ByteArray) (w : World) :
    Calls Tryz.prog 70 #[.string s] w fun e w' => e = .returned (.tuple #[.int .i64 ((L.number s.data.toList).getD 0), .bool (L.number s.data.toList).isSome]) ∧ w' = w := by
  refine number_core s ⟨(Lib.trimPrefix s.data.toList [45]).toArray⟩ (Lib.hasPrefix s.data.toList [45]) (L.number s.data.toList) w (hide rfl) (hide rfl) (hide ?_)
  unfold L.number
  rfl
end Go.Proofs.YtgnlokmeohffaaaGreatDoor
/- What the function Find of package lexicon answers: a word of the language at each of their names, nothing at any other text. -/
namespace Go.Proofs.YtgnlokmeohffaaaGreatDoor
open Go.RowKit

set_option maxRecDepth 100000 in
set_option maxHeartbeats 400000 in
theorem find_0 (w : World) : Calls Tryz.prog 69 #[.string ⟨#[43]⟩] w fun e w' => e = .returned (.tuple #[primVal ⟨[43], 2, 0, 0⟩, .bool true]) ∧ Below w.heap.size w w' := by
  go_enter Tryz.func69, Tryz.ntmps69
  go_wp2
  exact bodyPost_ret (v := .tuple #[primVal ⟨[43], 2, 0, 0⟩, .bool true]) (by simp [results, Tryz.results69, go_sem, primVal]) rfl ⟨rfl, (Below.refl _ _).alloc (Nat.le_refl _) _⟩

set_option maxRecDepth 100000 in
set_option maxHeartbeats 400000 in
theorem find_1 (w : World) : Calls Tryz.prog 69 #[.string ⟨#[45]⟩] w fun e w' => e = .returned (.tuple #[primVal ⟨[45], 2, 0, 0⟩, .bool true]) ∧ Below w.heap.size w w' := by
  go_enter Tryz.func69, Tryz.ntmps69
  go_wp2
  exact bodyPost_ret (v := .tuple #[primVal ⟨[45], 2, 0, 0⟩, .bool true]) (by simp [results, Tryz.results69, go_sem, primVal]) rfl ⟨rfl, (Below.refl _ _).alloc (Nat.le_refl _) _⟩

set_option maxRecDepth 100000 in
set_option maxHeartbeats 400000 in
theorem find_2 (w : World) : Calls Tryz.prog 69 #[.string ⟨#[42]⟩] w fun e w' => e = .returned (.tuple #[primVal ⟨[42], 2, 0, 0⟩, .bool true]) ∧ Below w.heap.size w w' := by
  go_enter Tryz.func69, Tryz.ntmps69
  go_wp2
  exact bodyPost_ret (v := .tuple #[primVal ⟨[42], 2, 0, 0⟩, .bool true]) (by simp [results, Tryz.results69, go_sem, primVal]) rfl ⟨rfl, (Below.refl _ _).alloc (Nat.le_refl _) _⟩

set_option maxRecDepth 100000 in
set_option maxHeartbeats 400000 in
theorem find_3 (w : World) : Calls Tryz.prog 69 #[.string ⟨#[47]⟩] w fun e w' => e = .returned (.tuple #[primVal ⟨[47], 2, 0, 0⟩, .bool true]) ∧ Below w.heap.size w w' := by
  go_enter Tryz.func69, Tryz.ntmps69
  go_wp2
  exact bodyPost_ret (v := .tuple #[primVal ⟨[47], 2, 0, 0⟩, .bool true]) (by simp [results, Tryz.results69, go_sem, primVal]) rfl ⟨rfl, (Below.refl _ _).alloc (Nat.le_refl _) _⟩

set_option maxRecDepth 100000 in
set_option maxHeartbeats 400000 in
theorem find_4 (w : World) : Calls Tryz.prog 69 #[.string ⟨#[109, 111, 100]⟩] w fun e w' => e = .returned (.tuple #[primVal ⟨[109, 111, 100], 2, 0, 0⟩, .bool true]) ∧ Below w.heap.size w w' := by
  go_enter Tryz.func69, Tryz.ntmps69
  go_wp2
  exact bodyPost_ret (v := .tuple #[primVal ⟨[109, 111, 100], 2, 0, 0⟩, .bool true]) (by simp [results, Tryz.results69, go_sem, primVal]) rfl ⟨rfl, (Below.refl _ _).alloc (Nat.le_refl _) _⟩

set_option maxRecDepth 100000 in
set_option maxHeartbeats 400000 in
theorem find_5 (w : World) : Calls Tryz.prog 69 #[.string ⟨#[61]⟩] w fun e w' => e = .returned (.tuple #[primVal ⟨[61], 2, 0, 0⟩, .bool true]) ∧ Below w.heap.size w w' := by
  go_enter Tryz.func69, Tryz.ntmps69
  go_wp2
  exact bodyPost_ret (v := .tuple #[primVal ⟨[61], 2, 0, 0⟩, .bool true]) (by simp [results, Tryz.results69, go_sem, primVal]) rfl ⟨rfl, (Below.refl _ _).alloc (Nat.le_refl _) _⟩

set_option maxRecDepth 100000 in
set_option maxHeartbeats 400000 in
theorem find_6 (w : World) : Calls Tryz.prog 69 #[.string ⟨#[60]⟩] w fun e w' => e = .returned (.tuple #[primVal ⟨[60], 2, 0, 0⟩, .bool true]) ∧ Below w.heap.size w w' := by
  go_enter Tryz.func69, Tryz.ntmps69
  go_wp2
  exact bodyPost_ret (v := .tuple #[primVal ⟨[60], 2, 0, 0⟩, .bool true]) (by simp [results, Tryz.results69, go_sem, primVal]) rfl ⟨rfl, (Below.refl _ _).alloc (Nat.le_refl _) _⟩

set_option maxRecDepth 100000 in
set_option maxHeartbeats 400000 in
theorem find_7 (w : World) : Calls Tryz.prog 69 #[.string ⟨#[62]⟩] w fun e w' => e = .returned (.tuple #[primVal ⟨[62], 2, 0, 0⟩, .bool true]) ∧ Below w.heap.size w w' := by
  go_enter Tryz.func69, Tryz.ntmps69
  go_wp2
  exact bodyPost_ret (v := .tuple #[primVal ⟨[62], 2, 0, 0⟩, .bool true]) (by simp [results, Tryz.results69, go_sem, primVal]) rfl ⟨rfl, (Below.refl _ _).alloc (Nat.le_refl _) _⟩

set_option maxRecDepth 100000 in
set_option maxHeartbeats 400000 in
theorem find_8 (w : World) : Calls Tryz.prog 69 #[.string ⟨#[97, 110, 100]⟩] w fun e w' => e = .returned (.tuple #[primVal ⟨[97, 110, 100], 2, 0, 0⟩, .bool true]) ∧ Below w.heap.size w w' := by
  go_enter Tryz.func69, Tryz.ntmps69
  go_wp2
  exact bodyPost_ret (v := .tuple #[primVal ⟨[97, 110, 100], 2, 0, 0⟩, .bool true]) (by simp [results, Tryz.results69, go_sem, primVal]) rfl ⟨rfl, (Below.refl _ _).alloc (Nat.le_refl _) _⟩

set_option maxRecDepth 100000 in
set_option maxHeartbeats 400000 in
theorem find_9 (w : World) : Calls Tryz.prog 69 #[.string ⟨#[111, 114]⟩] w fun e w' => e = .returned (.tuple #[primVal ⟨[111, 114], 2, 0, 0⟩, .bool true]) ∧ Below w.heap.size w w' := by
  go_enter Tryz.func69, Tryz.ntmps69
  go_wp2
  exact bodyPost_ret (v := .tuple #[primVal ⟨[111, 114], 2, 0, 0⟩, .bool true]) (by simp [results, Tryz.results69, go_sem, primVal]) rfl ⟨rfl, (Below.refl _ _).alloc (Nat.le_refl _) _⟩

set_option maxRecDepth 100000 in
set_option maxHeartbeats 400000 in
theorem find_10 (w : World) : Calls Tryz.prog 69 #[.string ⟨#[120, 111, 114]⟩] w fun e w' => e = .returned (.tuple #[primVal ⟨[120, 111, 114], 2, 0, 0⟩, .bool true]) ∧ Below w.heap.size w w' := by
  go_enter Tryz.func69, Tryz.ntmps69
  go_wp2
  exact bodyPost_ret (v := .tuple #[primVal ⟨[120, 111, 114], 2, 0, 0⟩, .bool true]) (by simp [results, Tryz.results69, go_sem, primVal]) rfl ⟨rfl, (Below.refl _ _).alloc (Nat.le_refl _) _⟩

set_option maxRecDepth 100000 in
set_option maxHeartbeats 400000 in
theorem find_11 (w : World) : Calls Tryz.prog 69 #[.string ⟨#[110, 111, 116]⟩] w fun e w' => e = .returned (.tuple #[primVal ⟨[110, 111, 116], 1, 0, 0⟩, .bool true]) ∧ Below w.heap.size w w' := by
  go_enter Tryz.func69, Tryz.ntmps69
  go_wp2
  exact bodyPost_ret (v := .tuple #[primVal ⟨[110, 111, 116], 1, 0, 0⟩, .bool true]) (by simp [results, Tryz.results69, go_sem, primVal]) rfl ⟨rfl, (Below.refl _ _).alloc (Nat.le_refl _) _⟩

set_option maxRecDepth 100000 in
set_option maxHeartbeats 400000 in
theorem find_12 (w : World) : Calls Tryz.prog 69 #[.string ⟨#[100, 117, 112]⟩] w fun e w' => e = .returned (.tuple #[primVal ⟨[100, 117, 112], 1, 0, 1⟩, .bool true]) ∧ Below w.heap.size w w' := by
  go_enter Tryz.func69, Tryz.ntmps69
  go_wp2
  exact bodyPost_ret (v := .tuple #[primVal ⟨[100, 117, 112], 1, 0, 1⟩, .bool true]) (by simp [results, Tryz.results69, go_sem, primVal]) rfl ⟨rfl, (Below.refl _ _).alloc (Nat.le_refl _) _⟩

set_option maxRecDepth 100000 in
set_option maxHeartbeats 400000 in
theorem find_13 (w : World) : Calls Tryz.prog 69 #[.string ⟨#[100, 114, 111, 112]⟩] w fun e w' => e = .returned (.tuple #[primVal ⟨[100, 114, 111, 112], 1, 0, 1⟩, .bool true]) ∧ Below w.heap.size w w' := by
  go_enter Tryz.func69, Tryz.ntmps69
  go_wp2
  exact bodyPost_ret (v := .tuple #[primVal ⟨[100, 114, 111, 112], 1, 0, 1⟩, .bool true]) (by simp [results, Tryz.results69, go_sem, primVal]) rfl ⟨rfl, (Below.refl _ _).alloc (Nat.le_refl _) _⟩

set_option maxRecDepth 100000 in
set_option maxHeartbeats 400000 in
theorem find_14 (w : World) : Calls Tryz.prog 69 #[.string ⟨#[62, 114]⟩] w fun e w' => e = .returned (.tuple #[primVal ⟨[62, 114], 1, 0, 1⟩, .bool true]) ∧ Below w.heap.size w w' := by
  go_enter Tryz.func69, Tryz.ntmps69
  go_wp2
  exact bodyPost_ret (v := .tuple #[primVal ⟨[62, 114], 1, 0, 1⟩, .bool true]) (by simp [results, Tryz.results69, go_sem, primVal]) rfl ⟨rfl, (Below.refl _ _).alloc (Nat.le_refl _) _⟩

set_option maxRecDepth 100000 in
set_option maxHeartbeats 400000 in
theorem find_15 (w : World) : Calls Tryz.prog 69 #[.string ⟨#[115, 119, 97, 112]⟩] w fun e w' => e = .returned (.tuple #[primVal ⟨[115, 119, 97, 112], 2, 0, 1⟩, .bool true]) ∧ Below w.heap.size w w' := by
  go_enter Tryz.func69, Tryz.ntmps69
  go_wp2
  exact bodyPost_ret (v := .tuple #[primVal ⟨[115, 119, 97, 112], 2, 0, 1⟩, .bool true]) (by simp [results, Tryz.results69, go_sem, primVal]) rfl ⟨rfl, (Below.refl _ _).alloc (Nat.le_refl _) _⟩

set_option maxRecDepth 100000 in
set_option maxHeartbeats 400000 in
theorem find_16 (w : World) : Calls Tryz.prog 69 #[.string ⟨#[111, 118, 101, 114]⟩] w fun e w' => e = .returned (.tuple #[primVal ⟨[111, 118, 101, 114], 2, 0, 1⟩, .bool true]) ∧ Below w.heap.size w w' := by
  go_enter Tryz.func69, Tryz.ntmps69
  go_wp2
  exact bodyPost_ret (v := .tuple #[primVal ⟨[111, 118, 101, 114], 2, 0, 1⟩, .bool true]) (by simp [results, Tryz.results69, go_sem, primVal]) rfl ⟨rfl, (Below.refl _ _).alloc (Nat.le_refl _) _⟩

set_option maxRecDepth 100000 in
set_option maxHeartbeats 400000 in
theorem find_17 (w : World) : Calls Tryz.prog 69 #[.string ⟨#[114, 111, 116]⟩] w fun e w' => e = .returned (.tuple #[primVal ⟨[114, 111, 116], 3, 0, 1⟩, .bool true]) ∧ Below w.heap.size w w' := by
  go_enter Tryz.func69, Tryz.ntmps69
  go_wp2
  exact bodyPost_ret (v := .tuple #[primVal ⟨[114, 111, 116], 3, 0, 1⟩, .bool true]) (by simp [results, Tryz.results69, go_sem, primVal]) rfl ⟨rfl, (Below.refl _ _).alloc (Nat.le_refl _) _⟩

set_option maxRecDepth 100000 in
set_option maxHeartbeats 400000 in
theorem find_18 (w : World) : Calls Tryz.prog 69 #[.string ⟨#[114, 62]⟩] w fun e w' => e = .returned (.tuple #[primVal ⟨[114, 62], 0, 1, 1⟩, .bool true]) ∧ Below w.heap.size w w' := by
  go_enter Tryz.func69, Tryz.ntmps69
  go_wp2
  exact bodyPost_ret (v := .tuple #[primVal ⟨[114, 62], 0, 1, 1⟩, .bool true]) (by simp [results, Tryz.results69, go_sem, primVal]) rfl ⟨rfl, (Below.refl _ _).alloc (Nat.le_refl _) _⟩

set_option maxRecDepth 100000 in
set_option maxHeartbeats 400000 in
theorem find_19 (w : World) : Calls Tryz.prog 69 #[.string ⟨#[114, 64]⟩] w fun e w' => e = .returned (.tuple #[primVal ⟨[114, 64], 0, 1, 1⟩, .bool true]) ∧ Below w.heap.size w w' := by
  go_enter Tryz.func69, Tryz.ntmps69
  go_wp2
  exact bodyPost_ret (v := .tuple #[primVal ⟨[114, 64], 0, 1, 1⟩, .bool true]) (by simp [results, Tryz.results69, go_sem, primVal]) rfl ⟨rfl, (Below.refl _ _).alloc (Nat.le_refl _) _⟩

set_option maxRecDepth 100000 in
set_option maxHeartbeats 400000 in
theorem find_20 (w : World) : Calls Tryz.prog 69 #[.string ⟨#[100, 101, 112, 116, 104]⟩] w fun e w' => e = .returned (.tuple #[primVal ⟨[100, 101, 112, 116, 104], 0, 0, 1⟩, .bool true]) ∧ Below w.heap.size w w' := by
  go_enter Tryz.func69, Tryz.ntmps69
  go_wp2
  exact bodyPost_ret (v := .tuple #[primVal ⟨[100, 101, 112, 116, 104], 0, 0, 1⟩, .bool true]) (by simp [results, Tryz.results69, go_sem, primVal]) rfl ⟨rfl, (Below.refl _ _).alloc (Nat.le_refl _) _⟩

set_option maxRecDepth 100000 in
set_option maxHeartbeats 400000 in
theorem find_21 (w : World) : Calls Tryz.prog 69 #[.string ⟨#[46]⟩] w fun e w' => e = .returned (.tuple #[primVal ⟨[46], 1, 0, 2⟩, .bool true]) ∧ Below w.heap.size w w' := by
  go_enter Tryz.func69, Tryz.ntmps69
  go_wp2
  exact bodyPost_ret (v := .tuple #[primVal ⟨[46], 1, 0, 2⟩, .bool true]) (by simp [results, Tryz.results69, go_sem, primVal]) rfl ⟨rfl, (Below.refl _ _).alloc (Nat.le_refl _) _⟩

set_option maxRecDepth 100000 in
set_option maxHeartbeats 400000 in
theorem find_22 (w : World) : Calls Tryz.prog 69 #[.string ⟨#[101, 109, 105, 116]⟩] w fun e w' => e = .returned (.tuple #[primVal ⟨[101, 109, 105, 116], 1, 0, 2⟩, .bool true]) ∧ Below w.heap.size w w' := by
  go_enter Tryz.func69, Tryz.ntmps69
  go_wp2
  exact bodyPost_ret (v := .tuple #[primVal ⟨[101, 109, 105, 116], 1, 0, 2⟩, .bool true]) (by simp [results, Tryz.results69, go_sem, primVal]) rfl ⟨rfl, (Below.refl _ _).alloc (Nat.le_refl _) _⟩

set_option maxRecDepth 100000 in
set_option maxHeartbeats 400000 in
theorem find_23 (w : World) : Calls Tryz.prog 69 #[.string ⟨#[99, 114]⟩] w fun e w' => e = .returned (.tuple #[primVal ⟨[99, 114], 0, 0, 2⟩, .bool true]) ∧ Below w.heap.size w w' := by
  go_enter Tryz.func69, Tryz.ntmps69
  go_wp2
  exact bodyPost_ret (v := .tuple #[primVal ⟨[99, 114], 0, 0, 2⟩, .bool true]) (by simp [results, Tryz.results69, go_sem, primVal]) rfl ⟨rfl, (Below.refl _ _).alloc (Nat.le_refl _) _⟩

set_option maxRecDepth 100000 in
set_option maxHeartbeats 400000 in
theorem find_24 (w : World) : Calls Tryz.prog 69 #[.string ⟨#[64]⟩] w fun e w' => e = .returned (.tuple #[primVal ⟨[64], 1, 0, 3⟩, .bool true]) ∧ Below w.heap.size w w' := by
  go_enter Tryz.func69, Tryz.ntmps69
  go_wp2
  exact bodyPost_ret (v := .tuple #[primVal ⟨[64], 1, 0, 3⟩, .bool true]) (by simp [results, Tryz.results69, go_sem, primVal]) rfl ⟨rfl, (Below.refl _ _).alloc (Nat.le_refl _) _⟩

set_option maxRecDepth 100000 in
set_option maxHeartbeats 400000 in
theorem find_25 (w : World) : Calls Tryz.prog 69 #[.string ⟨#[101, 120, 101, 99, 117, 116, 101]⟩] w fun e w' => e = .returned (.tuple #[primVal ⟨[101, 120, 101, 99, 117, 116, 101], 1, 0, 3⟩, .bool true]) ∧ Below w.heap.size w w' := by
  go_enter Tryz.func69, Tryz.ntmps69
  go_wp2
  exact bodyPost_ret (v := .tuple #[primVal ⟨[101, 120, 101, 99, 117, 116, 101], 1, 0, 3⟩, .bool true]) (by simp [results, Tryz.results69, go_sem, primVal]) rfl ⟨rfl, (Below.refl _ _).alloc (Nat.le_refl _) _⟩

set_option maxRecDepth 100000 in
set_option maxHeartbeats 400000 in
theorem find_26 (w : World) : Calls Tryz.prog 69 #[.string ⟨#[33]⟩] w fun e w' => e = .returned (.tuple #[primVal ⟨[33], 2, 0, 3⟩, .bool true]) ∧ Below w.heap.size w w' := by
  go_enter Tryz.func69, Tryz.ntmps69
  go_wp2
  exact bodyPost_ret (v := .tuple #[primVal ⟨[33], 2, 0, 3⟩, .bool true]) (by simp [results, Tryz.results69, go_sem, primVal]) rfl ⟨rfl, (Below.refl _ _).alloc (Nat.le_refl _) _⟩


theorem find_hit (p : L.Prim) (hp : p ∈ L.primTab ++ L.reachTab) (w : World) :
    Calls Tryz.prog 69 #[.string ⟨p.name.toArray⟩] w fun e w' => e = .returned (.tuple #[primVal p, .bool true]) ∧ Below w.heap.size w w' := by
  simp only [L.primTab, L.reachTab, List.cons_append, List.nil_append, List.mem_cons, List.not_mem_nil, or_false] at hp
  rcases hp with rfl | rfl | rfl | rfl | rfl | rfl | rfl | rfl | rfl | rfl | rfl | rfl | rfl | rfl | rfl | rfl | rfl | rfl | rfl | rfl | rfl | rfl | rfl | rfl | rfl | rfl | rfl
  · exact find_0 w
  · exact find_1 w
  · exact find_2 w
  · exact find_3 w
  · exact find_4 w
  · exact find_5 w
  · exact find_6 w
  · exact find_7 w
  · exact find_8 w
  · exact find_9 w
  · exact find_10 w
  · exact find_11 w
  · exact find_12 w
  · exact find_13 w
  · exact find_14 w
  · exact find_15 w
  · exact find_16 w
  · exact find_17 w
  · exact find_18 w
  · exact find_19 w
  · exact find_20 w
  · exact find_21 w
  · exact find_22 w
  · exact find_23 w
  · exact find_24 w
  · exact find_25 w
  · exact find_26 w


set_option maxRecDepth 100000 in
set_option maxHeartbeats 400000 in
theorem find_miss (s : ByteArray) (w : World) (h : L.find s.toList = none) :
    Calls Tryz.prog 69 #[.string s] w fun e w' => e = .returned (.tuple #[.agg #[.string ⟨#[]⟩, .int .i64 0, .int .i64 0, .int .i64 0], .bool false]) ∧ Below w.heap.size w w' := by
  simp only [L.find, L.primTab, L.reachTab, List.cons_append, List.nil_append, List.find?_eq_none, List.mem_cons, List.not_mem_nil, or_false, forall_eq_or_imp, forall_eq, Bool.not_eq_true] at h
  obtain ⟨h0, h1, h2, h3, h4, h5, h6, h7, h8, h9, h10, h11, h12, h13, h14, h15, h16, h17, h18, h19, h20, h21, h22, h23, h24, h25, h26⟩ := h
  go_enter Tryz.func69, Tryz.ntmps69
  go_wp2
  exact bodyPost_ret (v := .tuple #[.agg #[.string ⟨#[]⟩, .int .i64 0, .int .i64 0, .int .i64 0], .bool false]) (by simp [results, Tryz.results69, go_sem]) rfl ⟨rfl, (Below.refl _ _).alloc (Nat.le_refl _) _⟩
end Go.Proofs.YtgnlokmeohffaaaGreatDoor
/- What a text means on a machine without words of one's own: newest, meaning; and countStep. -/
namespace Go.Proofs.YtgnlokmeohffaaaGreatDoor
open Go.RowKit

/-- Find: the word of the language of that name, if there is one. -/
theorem find_any (s : ByteArray) (w : World) :
    Calls Tryz.prog 69 #[.string s] w fun e w' => e = .returned (.tuple #[((L.find s.data.toList).map primVal).getD (.agg #[.string ⟨#[]⟩, .int .i64 0, .int .i64 0, .int .i64 0]), .bool (L.find s.data.toList).isSome]) ∧ Below w.heap.size w w' := by
  have hl : s.toList = s.data.toList := Go.ByteArray.toList_eq s
  cases hf : L.find s.data.toList with
  | none => exact find_miss s w (by rw [hl]; exact hf)
  | some p =>
    have hm := List.mem_of_find?_eq_some hf
    have hn := List.find?_some hf
    have hs : s = ⟨p.name.toArray⟩ := by
      apply ByteArray.ext
      rw [beq_iff_eq] at hn
      rw [← hn]
    subst hs
    exact find_hit p hm w

theorem newest_nil (w : World) (mb : Nat) (s : ByteArray) (h2 : w.cell? ⟨mb, 2, none⟩ = some (.slice none 0 0)) :
    Calls Tryz.prog 30 #[.pointer (some ⟨mb, 0, none⟩), .string s] w fun e w' => e = .returned .nilIface ∧ w' = w := by
  go_enter Tryz.func30, Tryz.ntmps30
  go_wp2
  go_loop [5] (fun i => i = .int .i64 (-1)) (fun _ => 0)
  case atStart => rfl
  case round =>
    obtain rfl := hrel
    go_wp2
    go_ret
    exact ⟨rfl, rfl⟩

theorem ret_val {a b : Value} (h : a = b) : Ending.returned a = .returned b := by rw [h]

/-- The meaning of a text that is not bold, where there are no words of one's own. -/
def meansAt (l : List UInt8) : Value :=
  match L.find l with
  | some p => .iface 120 (primVal p)
  | none => match L.number l with
    | some n => .iface 117 (.int .i64 n)
    | none => .nilIface

set_option maxHeartbeats 800000 in
set_option maxRecDepth 100000 in
theorem meaning_plain (w : World) (mb : Nat) (s : ByteArray) (h2 : w.cell? ⟨mb, 2, none⟩ = some (.slice none 0 0)) (hb : L.isBold s.data.toList = false) :
    Calls Tryz.prog 53 #[.pointer (some ⟨mb, 0, none⟩), .string s] w fun e w' => e = .returned (meansAt s.data.toList) ∧ Below w.heap.size w w' := by
  have hl : s.toList = s.data.toList := Go.ByteArray.toList_eq s
  have Hb := hide hb
  have Hl := hide hl
  have H2 := hide h2
  clear hb hl
  go_enter Tryz.func53, Tryz.ntmps53
  go_wp2_with fail
  refine (isBold_any s _).mono ?_
  rintro e w' ⟨rfl, rfl⟩
  rw [unhide Hl, unhide Hb]
  go_wp2_with fail
  refine (newest_nil _ mb s (unhide H2)).mono ?_
  rintro e w' ⟨rfl, rfl⟩
  go_wp2_with fail
  refine (find_any s _).mono ?_
  rintro e w1 ⟨rfl, hb1⟩
  cases hf : L.find s.data.toList with
  | some p =>
    have hm : meansAt s.data.toList = .iface 120 (primVal p) := by unfold meansAt; rw [hf]
    have Hm := hide hm
    clear hm hf
    simp only [Option.map_some, Option.getD_some, Option.isSome_some, primVal]
    go_wp2
    go_ret
    exact ⟨ret_val (by rw [unhide Hm]; rfl), hb1.alloc hb1.size _⟩
  | none =>
    simp only [Option.map_none, Option.getD_none, Option.isSome_none]
    go_wp2_with fail
    refine (number_any s _).mono ?_
    rintro e w2 ⟨rfl, rfl⟩
    cases hn : L.number s.data.toList with
    | some n =>
      have hm : meansAt s.data.toList = .iface 117 (.int .i64 n) := by unfold meansAt; rw [hf, hn]
      have Hm := hide hm
      clear hm hf hn
      simp only [Option.getD_some, Option.isSome_some]
      go_wp2
      go_ret
      exact ⟨ret_val (by rw [unhide Hm]; rfl), hb1.alloc hb1.size _⟩
    | none =>
      have hm : meansAt s.data.toList = .nilIface := by unfold meansAt; rw [hf, hn]
      have Hm := hide hm
      clear hm hf hn
      simp only [Option.getD_none, Option.isSome_none]
      go_wp2
      go_ret
      exact ⟨ret_val (by rw [unhide Hm]; rfl), hb1.alloc hb1.size _⟩
end Go.Proofs.YtgnlokmeohffaaaGreatDoor
/- newest and byToken, at whatever words of one's own lie in memory: what the document's machine says. -/
namespace Go.Proofs.YtgnlokmeohffaaaGreatDoor
open Go.RowKit
attribute [local go_sem ↓] Go.wp_at_zero Go.wp_at_succ

set_option maxRecDepth 100000 in
set_option maxHeartbeats 800000 in
theorem byTok_walk (w : World) (mb g cap : Nat) (os : List Row) (t : Int) (h2 : w.cell? ⟨mb, 2, none⟩ = some (.slice (some ⟨g, 0, none⟩) os.length cap)) (hn : os.length ≤ 40)
    (hg : ∀ j r, os[j]? = some r → w.cell? ⟨g, j, none⟩ = some (ownVal r.o) ∧ HeadAt w r.o r.nm r.tok) :
    Calls Tryz.prog 101 #[.pointer (some ⟨mb, 0, none⟩), .int .i64 t] w fun e w' => e = .returned (optVal ((os.find? fun r => r.tok == t).map (·.o))) ∧ Below w.heap.size w w' := by
  have HG := hide hg
  clear hg
  generalize hn0 : os.length = n at *
  go_enter Tryz.func101, Tryz.ntmps101
  go_wp2
  go_loopw [12] (fun i wr => ∃ k : Nat, k ≤ n ∧ i = .int .i64 (k : Int) ∧ Below w.heap.size w wr ∧ (os.drop k).find? (fun r => r.tok == t) = os.find? (fun r => r.tok == t)) (fun i _ => match i with | .int _ k => n - k.toNat | _ => 0)
  case atStart => exact ⟨0, Nat.zero_le _, rfl, Below.refl _ _, rfl⟩
  case round =>
    obtain ⟨k, hk, rfl, hb, hl⟩ := hrel
    by_cases hkn : k < n
    · have hlt : k < os.length := by omega
      obtain ⟨r, hr⟩ : ∃ r, os[k]? = some r := ⟨_, List.getElem?_eq_getElem hlt⟩
      obtain ⟨hc, hh⟩ := unhide HG k r hr
      obtain ⟨T, v, hv, _, hm⟩ := head_name (hh.below hb)
      rw [hv] at hc
      have c3 : wr.cell? ⟨g, k, none⟩ = some (.iface T v) := ((bcell hb).1 g k (block_lt hc)).trans hc
      have hd : os.drop k = r :: os.drop (k + 1) := by
        rw [List.drop_eq_getElem_cons hlt]
        rw [List.getElem?_eq_getElem hlt] at hr
        injection hr with hr
        rw [hr]
      rw [hd, List.find?_cons] at hl
      have HL := hide hl
      have HB := hide hb
      have HV := hide hv
      clear hl hb hc hh hv hlt hr hd
      have k1 : (k : Int) < (n : Int) := by omega
      cases hq : (r.tok == t) with
      | true =>
        have HL2 := hide (show some r = os.find? (fun r => r.tok == t) from by have := unhide HL; rw [hq] at this; exact this)
        clear HL
        go_wp2
        go_ret
        refine ⟨retv ?_, (unhide HB).alloc (unhide HB).size _⟩
        rw [← unhide HL2]
        exact (unhide HV).symm
      | false =>
        have HL2 := hide (show (os.drop (k + 1)).find? (fun r => r.tok == t) = os.find? (fun r => r.tok == t) from by have := unhide HL; rw [hq] at this; exact this)
        clear HL
        go_wp2
        refine ⟨⟨k + 1, by omega, by simp, (unhide HB).alloc (unhide HB).size _, unhide HL2⟩, ?_⟩
        show n - ((k : Int) + 1).toNat < n - (k : Int).toNat
        omega
    · have HB := hide hb
      have HL := hide (show none = os.find? (fun r => r.tok == t) from by rw [← hl, List.drop_eq_nil_of_le (by omega)]; rfl)
      clear hb hl
      have k1 : ¬ (k : Int) < (n : Int) := by omega
      go_wp2
      go_ret
      refine ⟨retv ?_, unhide HB⟩
      rw [← unhide HL]
      rfl

set_option maxRecDepth 100000 in
theorem byTok_nil (w : World) (mb : Nat) (t : Int) (h2 : w.cell? ⟨mb, 2, none⟩ = some (.slice none 0 0)) :
    Calls Tryz.prog 101 #[.pointer (some ⟨mb, 0, none⟩), .int .i64 t] w fun e w' => e = .returned .nilIface ∧ w' = w := by
  go_enter Tryz.func101, Tryz.ntmps101
  go_wp2
  go_loop [12] (fun i => i = .int .i64 0) (fun _ => 0)
  case atStart => rfl
  case round =>
    obtain rfl := hrel
    go_wp2
    go_ret
    exact ⟨rfl, rfl⟩

/-- The words that there are, from place j on. -/
def rowsFrom : Nat → List N.Ent → List Own → List Row
  | j, e :: t, o :: u => if N.there e then ⟨o, e.name, 1000 + (j : Int)⟩ :: rowsFrom (j + 1) t u else rowsFrom (j + 1) t u
  | _, _, _ => []
def rows (all : List N.Ent) (wv : List Own) : List Row := rowsFrom 0 all wv

theorem listed_from : ∀ (all : List N.Ent) (wv : List Own) (j : Nat), listed all wv = (rowsFrom j all wv).map fun r => ownVal r.o
  | [], _, _ => rfl
  | _ :: _, [], _ => rfl
  | e :: t, o :: u, j => by
    have ih := listed_from t u (j + 1)
    unfold listed at ih ⊢
    rw [List.zip_cons_cons, List.filter_cons, rowsFrom]
    show List.map _ (if N.there e = true then _ else _) = _
    split
    · rw [List.map_cons, List.map_cons, ih]
    · exact ih
theorem listed_rows (all : List N.Ent) (wv : List Own) : listed all wv = (rows all wv).map fun r => ownVal r.o := listed_from all wv 0

theorem rows_mem : ∀ (all : List N.Ent) (wv : List Own) (j : Nat) (r : Row), r ∈ rowsFrom j all wv → ∃ i e, all[i]? = some e ∧ wv[i]? = some r.o ∧ N.there e = true ∧ r.nm = e.name ∧ r.tok = 1000 + ((j + i : Nat) : Int)
  | [], _, _, _, h => by simp [rowsFrom] at h
  | _ :: _, [], _, _, h => by simp [rowsFrom] at h
  | e :: t, o :: u, j, r, h => by
    rw [rowsFrom] at h
    have tail : r ∈ rowsFrom (j + 1) t u → ∃ i e', (e :: t)[i]? = some e' ∧ (o :: u)[i]? = some r.o ∧ N.there e' = true ∧ r.nm = e'.name ∧ r.tok = 1000 + ((j + i : Nat) : Int) := fun h => by
      obtain ⟨i, e', h1, h2, h3, h4, h5⟩ := rows_mem t u (j + 1) r h
      exact ⟨i + 1, e', h1, h2, h3, h4, by rw [h5]; omega⟩
    split at h
    · rename_i ht
      rcases List.mem_cons.1 h with rfl | h
      · exact ⟨0, e, rfl, rfl, ht, rfl, by simp⟩
      · exact tail h
    · exact tail h

theorem rowsFrom_snoc : ∀ (all : List N.Ent) (wv : List Own) (j : Nat) (e : N.Ent) (o : Own), wv.length = all.length → rowsFrom j (all ++ [e]) (wv ++ [o]) = rowsFrom j all wv ++ (if N.there e then [⟨o, e.name, 1000 + ((j + all.length : Nat) : Int)⟩] else [])
  | [], [], j, e, o, _ => by simp [rowsFrom]
  | [], _ :: _, _, _, _, h => by simp at h
  | _ :: _, [], _, _, _, h => by simp at h
  | a :: t, b :: u, j, e, o, h => by
    have ih := rowsFrom_snoc t u (j + 1) e o (by simpa using h)
    rw [List.cons_append, List.cons_append, rowsFrom, rowsFrom, ih, List.length_cons, show j + 1 + t.length = j + (t.length + 1) by omega]
    by_cases ha : N.there a = true
    · rw [if_pos ha, if_pos ha]
      rfl
    · rw [if_neg ha, if_neg ha]

theorem lastN_take (os os' : List Row) (name : List UInt8) : ∀ i, i ≤ os.length → lastN (os ++ os') name i = lastN os name i
  | 0, _ => rfl
  | i + 1, h => by
    unfold lastN
    rw [List.getElem?_append_left (by omega), lastN_take os os' name i (by omega)]
theorem lastN_snoc (os : List Row) (r : Row) (name : List UInt8) : lastN (os ++ [r]) name (os ++ [r]).length = if r.nm == name then some r.o else lastN os name os.length := by
  rw [List.length_append, List.length_singleton, lastN, List.getElem?_append_right (Nat.le_refl _), Nat.sub_self]
  simp only [List.getElem?_cons_zero, lastN_take os [r] name os.length (Nat.le_refl _)]

theorem newest_take (all : List N.Ent) (wv : List Own) (name : List UInt8) (hl : wv.length = all.length) : ∀ n, n ≤ all.length →
    lastN (rows (all.take n) (wv.take n)) name (rows (all.take n) (wv.take n)).length = (N.newestOf all name n).bind (wv[·]?)
  | 0, _ => by simp [rows, rowsFrom, lastN, N.newestOf]
  | n + 1, h => by
    have ih := newest_take all wv name hl n (by omega)
    have ha : all[n]? = some all[n] := List.getElem?_eq_getElem (by omega)
    have hw : wv[n]? = some wv[n] := List.getElem?_eq_getElem (by omega)
    rw [List.take_succ_eq_append_getElem (by omega), List.take_succ_eq_append_getElem (by omega)]
    unfold rows at ih ⊢
    rw [rowsFrom_snoc _ _ _ _ _ (by simp [hl])]
    unfold N.newestOf
    rw [ha]
    simp only
    by_cases ht : N.there all[n] = true
    · rw [if_pos ht, lastN_snoc, ht, Bool.and_true]
      split
      · exact hw.symm
      · exact ih
    · rw [if_neg ht, List.append_nil]
      rw [Bool.not_eq_true] at ht
      rw [ht, Bool.and_false]
      exact ih
theorem newest_rows (all : List N.Ent) (wv : List Own) (name : List UInt8) (hl : wv.length = all.length) : lastN (rows all wv) name (rows all wv).length = (N.newestOf all name all.length).bind (wv[·]?) := by
  have := newest_take all wv name hl all.length (Nat.le_refl _)
  rwa [List.take_length, ← hl, List.take_length, hl] at this

theorem find_rows : ∀ (all : List N.Ent) (wv : List Own) (j : Nat) (t : Int), wv.length = all.length →
    ((rowsFrom j all wv).find? fun r => r.tok == t).map (·.o) = if t < 1000 + (j : Int) then none else match all[(t - 1000 - j).toNat]? with | some e => if N.there e then wv[(t - 1000 - j).toNat]? else none | none => none
  | [], _, j, t, _ => by simp [rowsFrom]
  | _ :: _, [], _, _, h => by simp at h
  | e :: l, o :: u, j, t, h => by
    have ih := find_rows l u (j + 1) t (by simpa using h)
    rw [rowsFrom]
    by_cases hlt : t < 1000 + (j : Int)
    · rw [if_pos hlt]
      rw [if_pos (by omega)] at ih
      have hne : ((1000 + (j : Int)) == t) = false := by rw [beq_eq_false_iff_ne]; omega
      split
      · rw [List.find?_cons, hne]; exact ih
      · exact ih
    · rw [if_neg hlt]
      by_cases he : t = 1000 + (j : Int)
      · have h0 : (t - 1000 - (j : Int)).toNat = 0 := by omega
        rw [h0]
        rw [if_pos (by omega)] at ih
        have hq : ((1000 + (j : Int)) == t) = true := by rw [beq_iff_eq]; omega
        show Option.map _ (List.find? _ (if N.there e = true then _ else _)) = if N.there e = true then some o else none
        split
        · rw [List.find?_cons, hq]; rfl
        · exact ih
      · have h0 : (t - 1000 - (j : Int)).toNat = (t - 1000 - ((j + 1 : Nat) : Int)).toNat + 1 := by omega
        rw [if_neg (by omega)] at ih
        rw [h0]
        have hq : ((1000 + (j : Int)) == t) = false := by rw [beq_eq_false_iff_ne]; omega
        show Option.map _ (List.find? _ (if N.there e = true then _ else _)) = match l[(t - 1000 - ((j + 1 : Nat) : Int)).toNat]? with | some e => if N.there e then u[(t - 1000 - ((j + 1 : Nat) : Int)).toNat]? else none | none => none
        rw [← ih]
        split
        · rw [List.find?_cons, hq]
        · rfl

theorem owns_cases' {w : World} {e n : Nat} {v : Value} {xs : List Value} (h : w.ownsRow 0 e 1 v n xs) : (v = .slice none 0 0 ∧ xs = []) ∨ ∃ g cap, v = .slice (some ⟨g, 0, none⟩) n cap := by
  have hl := h.1
  rcases h.2 with ⟨h1, h2⟩ | ⟨g, cap, _, h1, _⟩
  · exact .inl ⟨h1, List.length_eq_zero_iff.1 (by omega)⟩
  · exact .inr ⟨g, cap, h1⟩

theorem OwnAt.rowsAt {w : World} {all : List N.Ent} {wv : List Own} {vO vB : Value} (h : OwnAt w all wv vO vB) : (vO = .slice none 0 0 ∧ rows all wv = []) ∨
    ∃ g cap, vO = .slice (some ⟨g, 0, none⟩) (rows all wv).length cap ∧ ∀ j r, (rows all wv)[j]? = some r → w.cell? ⟨g, j, none⟩ = some (ownVal r.o) ∧ HeadAt w r.o r.nm r.tok := by
  have hrow := h.row
  rw [listed_rows, List.length_map] at hrow
  rcases owns_cases' hrow with ⟨h1, h2⟩ | ⟨g, cap, h1⟩
  · exact .inl ⟨h1, by simpa using h2⟩
  · refine .inr ⟨g, cap, h1, fun j r hr => ⟨?_, ?_⟩⟩
    · have := (h1 ▸ hrow).cells (g := g) rfl j (ownVal r.o) (by rw [List.getElem?_map, hr]; rfl)
      rwa [add_lit, Nat.zero_add] at this
    · obtain ⟨i, e, h3, h4, h5, h6, h7⟩ := rows_mem all wv 0 r (List.mem_of_getElem? hr)
      have := (h.ent i e r.o h3 h4 (by unfold N.there at h5; simp at h5; exact h5.1)).head
      rw [← h6] at this
      rw [h7, Nat.zero_add]
      exact this

def ownAt (wv : List Own) (k : Option Nat) : Value := optVal (k.bind (wv[·]?))

theorem newest_any (w : World) (mb : Nat) (s : ByteArray) (all : List N.Ent) (wv : List Own) (vO vB : Value) (h2 : w.cell? ⟨mb, 2, none⟩ = some vO) (h : OwnAt w all wv vO vB) :
    Calls Tryz.prog 30 #[.pointer (some ⟨mb, 0, none⟩), .string s] w fun e w' => e = .returned (ownAt wv (N.newestOf all s.data.toList all.length)) ∧ Below w.heap.size w w' := by
  have hr := newest_rows all wv s.data.toList h.len
  unfold ownAt
  rw [← hr]
  rcases h.rowsAt with ⟨rfl, h0⟩ | ⟨g, cap, rfl, hg⟩
  · rw [h0]
    exact (newest_nil w mb s h2).mono fun e w' hh => ⟨hh.1, by rw [hh.2]; exact Below.refl _ _⟩
  · exact newest_walk w mb g cap _ s h2 (by have := h.few; rwa [listed_rows, List.length_map] at this) hg

theorem byTok_any (w : World) (mb : Nat) (t : Int) (s : L.RunS) (all : List N.Ent) (wv : List Own) (vO vB : Value) (h2 : w.cell? ⟨mb, 2, none⟩ = some vO) (h : OwnAt w all wv vO vB) :
    Calls Tryz.prog 101 #[.pointer (some ⟨mb, 0, none⟩), .int .i64 t] w fun e w' => e = .returned (ownAt wv (N.place (toM s all) t)) ∧ Below w.heap.size w w' := by
  have hr := find_rows all wv 0 t h.len
  have hp : (N.place (toM s all) t).bind (wv[·]?) = ((rowsFrom 0 all wv).find? fun r => r.tok == t).map (·.o) := by
    rw [hr]
    unfold N.place toM
    simp only [Int.natCast_zero, Int.add_zero, Int.sub_zero]
    split
    · rfl
    · cases all[(t - 1000).toNat]? with
      | none => rfl
      | some e => simp only; split <;> rfl
  unfold ownAt
  rw [hp]
  rcases h.rowsAt with ⟨rfl, h0⟩ | ⟨g, cap, rfl, hg⟩
  · unfold rows at h0
    rw [h0]
    exact (byTok_nil w mb t h2).mono fun e w' hh => ⟨hh.1, by rw [hh.2]; exact Below.refl _ _⟩
  · exact byTok_walk w mb g cap _ t h2 (by have := h.few; rwa [listed_rows, List.length_map] at this) hg
end Go.Proofs.YtgnlokmeohffaaaGreatDoor
