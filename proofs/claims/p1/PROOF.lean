import PyProof.Rows.All
import Wide.All
import OpenK.AllK
import Wide.FinOn
import Open.SpecLaws
import KE.OsHead
import KE.OsGo
import HandS.ForSpec
import HandS.Comp
import HandS.Dict
import HandS.More
import HandS.SetFor
import HandS.SetKeys
import HandS.Conv
import HandS.WordsDict
import PySem.Challenge.RW_nodenames_s01_answers
set_option Elab.async false
namespace NN
open Ha08
/-! ### 1. What learning does -/
theorem same_iff {a b : Claim} : same a b = true ↔ a.count = b.count ∧ a.node = b.node := by
  simp [same]
theorem elder_iff {a b : Claim} : elder a b = true ↔ a.count < b.count ∨ (a.count = b.count ∧ a.node < b.node) := by
  simp [elder]
/-- a stamp stands for one process and one name -/
def Agr (g : Nat → Nat → Nat × Nat) (c : Claim) : Prop := g c.count c.node = (c.proc, c.name)
structure Kn (g : Nat → Nat → Nat × Nat) (l : List Claim) : Prop where
  srt : l.Pairwise fun a b => elder a b = true
  agr : ∀ c ∈ l, Agr g c
theorem agr_eq {g : Nat → Nat → Nat × Nat} {a b : Claim} (ha : Agr g a) (hb : Agr g b) (h : same a b = true) : a.proc = b.proc ∧ a.name = b.name := by
  obtain ⟨h1, h2⟩ := same_iff.mp h
  unfold Agr at ha hb
  rw [h1, h2, hb] at ha
  cases a; cases b
  simp_all
theorem learn_ins {c : Claim} : ∀ (l : List Claim) (p : Nat), (∀ x ∈ l.take p, elder x c = true) → (l.length ≤ p ∨ ∃ x, l[p]? = some x ∧ elder x c = false ∧ same x c = false) →
    learn c l = l.take p ++ [c] ++ l.drop p
  | [], p, _, _ => by simp [learn]
  | x :: l, 0, _, h => by
    rcases h with h | ⟨y, e, h1, h2⟩
    · simp at h
    · simp at e
      subst e
      have : same c x = false := by
        cases e : same c x with
        | false => rfl
        | true =>
          obtain ⟨q1, q2⟩ := same_iff.mp e
          rw [same_iff.mpr ⟨q1.symm, q2.symm⟩] at h2
          cases h2
      have e2 : elder c x = true := by
        rw [elder_iff]
        have n1 : ¬ (x.count < c.count ∨ (x.count = c.count ∧ x.node < c.node)) := fun q => by
          rw [elder_iff.mpr q] at h1; cases h1
        have n2 : ¬ (x.count = c.count ∧ x.node = c.node) := fun q => by
          rw [same_iff.mpr q] at h2; cases h2
        omega
      simp [learn, this, e2]
  | x :: l, p + 1, hp, h => by
    have hx := hp x (by simp)
    have e1 : same c x = false := by
      cases e : same c x with
      | false => rfl
      | true =>
        obtain ⟨q1, q2⟩ := same_iff.mp e
        rw [elder_iff] at hx
        omega
    have e2 : elder c x = false := by
      cases e : elder c x with
      | false => rfl
      | true =>
        rw [elder_iff] at e hx
        omega
    have ih := learn_ins (c := c) l p (fun y hy => hp y (by simp [hy])) (by
      rcases h with h | ⟨y, e, h1, h2⟩
      · exact Or.inl (by simpa using h)
      · exact Or.inr ⟨y, by simpa using e, h1, h2⟩)
    simp [learn, e1, e2, ih]
theorem learn_upd {c x : Claim} : ∀ (l : List Claim) (p : Nat), (∀ y ∈ l.take p, elder y c = true) → l[p]? = some x → same x c = true →
    learn c l = l.set p { x with gone := x.gone || c.gone }
  | [], p, _, h, _ => by simp at h
  | y :: l, 0, _, h, hs => by
    simp at h
    subst h
    obtain ⟨q1, q2⟩ := same_iff.mp hs
    simp [learn, same_iff.mpr ⟨q1.symm, q2.symm⟩]
  | y :: l, p + 1, hp, h, hs => by
    have hx := hp y (by simp)
    have e1 : same c y = false := by
      cases e : same c y with
      | false => rfl
      | true =>
        obtain ⟨q1, q2⟩ := same_iff.mp e
        rw [elder_iff] at hx
        omega
    have e2 : elder c y = false := by
      cases e : elder c y with
      | false => rfl
      | true =>
        rw [elder_iff] at e hx
        omega
    have ih := learn_upd (c := c) (x := x) l p (fun y hy => hp y (by simp [hy])) (by simpa using h) hs
    simp [learn, e1, e2, ih]
theorem set_self {α : Type} : ∀ {l : List α} {p : Nat} {x : α}, l[p]? = some x → l.set p x = l
  | [], p, x, h => by simp at h
  | y :: l, 0, x, h => by simp at h; simp [h]
  | y :: l, p + 1, x, h => by simp at h; simp [set_self h]
/-- the stamp is known, the new one is given up: it stands in the old one's place -/
theorem learn_put {g : Nat → Nat → Nat × Nat} {c x : Claim} {l : List Claim} {p : Nat} (h : ∀ y ∈ l.take p, elder y c = true) (hx : l[p]? = some x) (hs : same x c = true) (ha : Agr g x) (hb : Agr g c) (hg : c.gone = true) :
    learn c l = l.set p c := by
  rw [learn_upd l p h hx hs]
  obtain ⟨e1, e2⟩ := agr_eq ha hb hs
  obtain ⟨e3, e4⟩ := same_iff.mp hs
  congr 1
  cases c; cases x
  simp_all
/-- .. and is not: nothing is done -/
theorem learn_not {c x : Claim} {l : List Claim} {p : Nat} (h : ∀ y ∈ l.take p, elder y c = true) (hx : l[p]? = some x) (hs : same x c = true) (hg : c.gone = false) :
    learn c l = l := by
  rw [learn_upd l p h hx hs]
  have : ({ x with gone := x.gone || c.gone } : Claim) = x := by
    cases x; simp [hg]
  rw [this, set_self hx]
theorem learn_mem {c d : Claim} : ∀ {l : List Claim}, d ∈ learn c l → d = c ∨ d ∈ l ∨ ∃ x ∈ l, same c x = true ∧ d = { x with gone := x.gone || c.gone }
  | [], h => by simp [learn] at h; exact Or.inl h
  | x :: l, h => by
    unfold learn at h
    split at h
    · rename_i hs
      rcases List.mem_cons.mp h with h | h
      · exact Or.inr (Or.inr ⟨x, by simp, hs, h⟩)
      · exact Or.inr (Or.inl (by simp [h]))
    · split at h
      · rcases List.mem_cons.mp h with h | h
        · exact Or.inl h
        · exact Or.inr (Or.inl h)
      · rcases List.mem_cons.mp h with h | h
        · exact Or.inr (Or.inl (by simp [h]))
        · rcases learn_mem h with h | h | ⟨y, hy, hs, e⟩
          · exact Or.inl h
          · exact Or.inr (Or.inl (by simp [h]))
          · exact Or.inr (Or.inr ⟨y, by simp [hy], hs, e⟩)
theorem learn_stamp {c d : Claim} {l : List Claim} (h : d ∈ learn c l) : ∃ x, (x = c ∨ x ∈ l) ∧ d.count = x.count ∧ d.node = x.node ∧ d.proc = x.proc ∧ d.name = x.name := by
  rcases learn_mem h with h | h | ⟨y, hy, hs, e⟩
  · exact ⟨c, Or.inl rfl, by simp [h]⟩
  · exact ⟨d, Or.inr h, rfl, rfl, rfl, rfl⟩
  · exact ⟨y, Or.inr hy, by simp [e]⟩
theorem learn_keep {c x : Claim} : ∀ {l : List Claim}, x ∈ l → same c x = false → x ∈ learn c l
  | [], h, _ => by simp at h
  | y :: l, h, hs => by
    unfold learn
    split
    · rename_i q
      rcases List.mem_cons.mp h with h | h
      · subst h; rw [q] at hs; cases hs
      · simp [h]
    · split
      · simp only [List.mem_cons] at h ⊢
        exact Or.inr h
      · rcases List.mem_cons.mp h with h | h
        · simp [h]
        · exact List.mem_cons.mpr (Or.inr (learn_keep h hs))
theorem learn_len {c : Claim} : ∀ (l : List Claim), (learn c l).length ≤ l.length + 1
  | [] => by simp [learn]
  | x :: l => by
    unfold learn
    split
    · simp
    · split
      · simp
      · have := learn_len (c := c) l
        simp; omega
theorem elder_trans {a b c : Claim} (h : elder a b = true) (h' : elder b c = true) : elder a c = true := by
  rw [elder_iff] at h h' ⊢
  omega
theorem learn_srt {c : Claim} : ∀ {l : List Claim}, l.Pairwise (fun a b => elder a b = true) → (learn c l).Pairwise fun a b => elder a b = true
  | [], _ => by simp [learn]
  | x :: l, h => by
    obtain ⟨h1, h2⟩ := List.pairwise_cons.mp h
    unfold learn
    split
    · rename_i hs
      exact List.pairwise_cons.mpr ⟨fun y hy => by
        have := h1 y hy
        rw [elder_iff] at this ⊢
        exact this, h2⟩
    · rename_i hs
      split
      · rename_i he
        exact List.pairwise_cons.mpr ⟨fun y hy => by
          rcases List.mem_cons.mp hy with e | e
          · rw [e]; exact he
          · exact elder_trans he (h1 y e), h⟩
      · rename_i he
        refine List.pairwise_cons.mpr ⟨fun y hy => ?_, learn_srt h2⟩
        obtain ⟨z, hz, e1, e2, _⟩ := learn_stamp hy
        rcases hz with rfl | hz
        · rw [elder_iff] at he ⊢
          rw [same_iff] at hs
          omega
        · have := h1 z hz
          rw [elder_iff] at this ⊢
          omega
theorem Kn.learn {g : Nat → Nat → Nat × Nat} {l : List Claim} {c : Claim} (h : Kn g l) (hc : Agr g c) : Kn g (learn c l) :=
  ⟨learn_srt h.srt, fun d hd => by
    obtain ⟨x, hx, e1, e2, e3, e4⟩ := learn_stamp hd
    unfold Agr
    rw [e1, e2, e3, e4]
    rcases hx with rfl | hx
    · exact hc
    · exact h.agr x hx⟩
theorem Kn.nil {g : Nat → Nat → Nat × Nat} : Kn g [] := ⟨List.Pairwise.nil, fun _ h => by cases h⟩
theorem Kn.fold {g : Nat → Nat → Nat × Nat} : ∀ (ms : List Claim) {l : List Claim}, Kn g l → (∀ c ∈ ms, Agr g c) → Kn g (ms.foldl (fun k c => Ha08.learn c k) l)
  | [], _, h, _ => h
  | m :: ms, _, h, hm => Kn.fold ms (h.learn (hm m (by simp))) fun c hc => hm c (by simp [hc])
theorem fold_len : ∀ (ms l : List Claim), (ms.foldl (fun k c => Ha08.learn c k) l).length ≤ l.length + ms.length
  | [], l => by simp
  | m :: ms, l => by
    have h1 := fold_len ms (Ha08.learn m l)
    have h2 := learn_len (c := m) l
    simp only [List.foldl_cons, List.length_cons]
    omega
/-- by a fold of learning every stamp of the outcome is one of those -/
theorem fold_stamp : ∀ (ms : List Claim) {l : List Claim} {d : Claim}, d ∈ ms.foldl (fun k c => Ha08.learn c k) l → ∃ x, (x ∈ ms ∨ x ∈ l) ∧ d.count = x.count ∧ d.node = x.node ∧ d.proc = x.proc ∧ d.name = x.name
  | [], _, d, h => ⟨d, Or.inr h, rfl, rfl, rfl, rfl⟩
  | m :: ms, l, d, h => by
    obtain ⟨x, hx, e⟩ := fold_stamp ms (l := Ha08.learn m l) h
    rcases hx with hx | hx
    · exact ⟨x, Or.inl (by simp [hx]), e⟩
    · obtain ⟨y, hy, f⟩ := learn_stamp hx
      refine ⟨y, ?_, by rw [e.1, f.1], by rw [e.2.1, f.2.1], by rw [e.2.2.1, f.2.2.1], by rw [e.2.2.2, f.2.2.2]⟩
      rcases hy with rfl | hy
      · exact Or.inl (by simp)
      · exact Or.inr hy
end NN
set_option Elab.async false
namespace NN
open Ha08
/-! ### 2. Looking through one's own -/
def Like (d x : Claim) : Prop := d.count = x.count ∧ d.node = x.node ∧ d.proc = x.proc ∧ d.name = x.name
def lk (y : Node) (c : Claim) : Node := match holder y c.name with
  | some h => if same h c = true then y else { givesUp y c with lost := y.lost ++ [⟨c.proc, c.name, c.count⟩] }
  | none => y
def owns (n : Nat) (l : List Claim) : List Claim := l.filter fun c => c.node == n && !c.gone
theorem looks_eq (n : Nat) (x : Node) : looks n x = (owns n x.claims).foldl lk x := rfl
theorem holder_some {y : Node} {c : Claim} (h : c ∈ y.claims) (hg : c.gone = false) (hr : c.node ∈ y.reach) : ∃ d, holder y c.name = some d := by
  have : c ∈ standing y c.name := by
    unfold standing
    rw [List.mem_filter]
    refine ⟨h, ?_⟩
    simp [hg, hr]
  unfold holder
  cases e : standing y c.name with
  | nil => rw [e] at this; cases this
  | cons d r => exact ⟨d, rfl⟩
theorem lk_same {y : Node} {c h : Claim} (e : holder y c.name = some h) (hs : same h c = true) : lk y c = y := by
  unfold lk
  rw [e]
  simp [hs]
theorem lk_other {y : Node} {c h : Claim} (e : holder y c.name = some h) (hs : same h c = false) : lk y c = { givesUp y c with lost := y.lost ++ [⟨c.proc, c.name, c.count⟩] } := by
  unfold lk
  rw [e]
  simp [hs]
theorem lk_cases (y : Node) (c : Claim) : lk y c = y ∨ lk y c = { y with claims := learn { c with gone := true } y.claims, lost := y.lost ++ [⟨c.proc, c.name, c.count⟩] } := by
  unfold lk
  split
  · split
    · exact Or.inl rfl
    · exact Or.inr rfl
  · exact Or.inl rfl
theorem lk_reach (y : Node) (c : Claim) : (lk y c).reach = y.reach := by
  rcases lk_cases y c with e | e <;> rw [e]
theorem lk_count (y : Node) (c : Claim) : (lk y c).count = y.count := by
  rcases lk_cases y c with e | e <;> rw [e]
theorem lk_kn {g : Nat → Nat → Nat × Nat} {y : Node} {c : Claim} (h : Kn g y.claims) (hc : Agr g c) : Kn g (lk y c).claims := by
  rcases lk_cases y c with e | e <;> rw [e]
  · exact h
  · exact h.learn (c := { c with gone := true }) hc
theorem lk_keep {y : Node} {c d : Claim} (h : d ∈ y.claims) (hs : same c d = false) : d ∈ (lk y c).claims := by
  rcases lk_cases y c with e | e <;> rw [e]
  · exact h
  · exact learn_keep h hs
theorem lk_stamp {y : Node} {c d : Claim} (h : d ∈ (lk y c).claims) : ∃ x, (x = c ∨ x ∈ y.claims) ∧ Like d x := by
  rcases lk_cases y c with e | e <;> rw [e] at h
  · exact ⟨d, Or.inr h, rfl, rfl, rfl, rfl⟩
  · obtain ⟨x, hx, q⟩ := learn_stamp h
    rcases hx with rfl | hx
    · exact ⟨c, Or.inl rfl, q⟩
    · exact ⟨x, Or.inr hx, q⟩
theorem lk_len (y : Node) (c : Claim) : (lk y c).claims.length ≤ y.claims.length + 1 := by
  rcases lk_cases y c with e | e <;> rw [e]
  · omega
  · exact learn_len _
theorem lk_lost (y : Node) (c : Claim) : y.lost.length ≤ (lk y c).lost.length ∧ (lk y c).lost.length ≤ y.lost.length + 1 := by
  rcases lk_cases y c with e | e <;> rw [e]
  · omega
  · simp
/-- what holds in the middle of looking through: some are done, others still stand as they were -/
structure Mid (g : Nat → Nat → Nat × Nat) (x : Node) (d : Nat) (rest : List Claim) (y : Node) : Prop where
  reach : y.reach = x.reach
  count : y.count = x.count
  kn : Kn g y.claims
  still : ∀ c ∈ rest, c ∈ y.claims
  apart : rest.Pairwise fun a b => same a b = false
  agr : ∀ c ∈ rest, Agr g c
  len : y.claims.length ≤ x.claims.length + d
  stamps : ∀ c ∈ y.claims, ∃ b ∈ x.claims, Like c b
  lost1 : x.lost.length ≤ y.lost.length
  lost2 : y.lost.length ≤ x.lost.length + d
theorem owns_sub (n : Nat) (l : List Claim) : (owns n l).Sublist l := List.filter_sublist
theorem mem_owns {n : Nat} {l : List Claim} {c : Claim} : c ∈ owns n l ↔ c ∈ l ∧ c.node = n ∧ c.gone = false := by
  unfold owns
  rw [List.mem_filter]
  simp
theorem Mid.start {g : Nat → Nat → Nat × Nat} {n : Nat} {x : Node} (h : Kn g x.claims) : Mid g x 0 (owns n x.claims) x where
  reach := rfl
  count := rfl
  kn := h
  still := fun c hc => (mem_owns.mp hc).1
  apart := (h.srt.sublist (owns_sub n x.claims)).imp fun {a b} q => by
    cases e : same a b with
    | false => rfl
    | true =>
      rw [same_iff] at e
      rw [elder_iff] at q
      omega
  agr := fun c hc => h.agr c (mem_owns.mp hc).1
  len := by omega
  stamps := fun c hc => ⟨c, hc, rfl, rfl, rfl, rfl⟩
  lost1 := by omega
  lost2 := by omega
theorem Mid.step {g : Nat → Nat → Nat × Nat} {x : Node} {d : Nat} {c : Claim} {rest : List Claim} {y : Node} (h : Mid g x d (c :: rest) y) : Mid g x (d + 1) rest (lk y c) where
  reach := by rw [lk_reach, h.reach]
  count := by rw [lk_count, h.count]
  kn := lk_kn h.kn (h.agr c (by simp))
  still := fun b hb => lk_keep (h.still b (by simp [hb])) ((List.pairwise_cons.mp h.apart).1 b hb)
  apart := (List.pairwise_cons.mp h.apart).2
  agr := fun b hb => h.agr b (by simp [hb])
  len := by have := lk_len y c; have := h.len; omega
  stamps := fun b hb => by
    obtain ⟨z, hz, q⟩ := lk_stamp hb
    rcases hz with rfl | hz
    · obtain ⟨w, hw, r⟩ := h.stamps z (h.still z (by simp))
      exact ⟨w, hw, q.1.trans r.1, q.2.1.trans r.2.1, q.2.2.1.trans r.2.2.1, q.2.2.2.trans r.2.2.2⟩
    · obtain ⟨w, hw, r⟩ := h.stamps z hz
      exact ⟨w, hw, q.1.trans r.1, q.2.1.trans r.2.1, q.2.2.1.trans r.2.2.1, q.2.2.2.trans r.2.2.2⟩
  lost1 := by have := lk_lost y c; have := h.lost1; omega
  lost2 := by have := lk_lost y c; have := h.lost2; omega
theorem Mid.fold {g : Nat → Nat → Nat × Nat} {x : Node} : ∀ {rest : List Claim} {d : Nat} {y : Node}, Mid g x d rest y → Mid g x (d + rest.length) [] (rest.foldl lk y)
  | [], _, _, h => h
  | c :: rest, d, y, h => by
    have := h.step.fold
    rw [show d + (c :: rest).length = d + 1 + rest.length by simp; omega]
    exact this
theorem looks_mid {g : Nat → Nat → Nat × Nat} (n : Nat) {x : Node} (h : Kn g x.claims) : Mid g x (owns n x.claims).length [] (looks n x) := by
  have := (Mid.start (n := n) h).fold
  rw [Nat.zero_add] at this
  exact this
/-! ### 3. Giving up -/
theorem gives_reach (y : Node) (c : Claim) : (givesUp y c).reach = y.reach := rfl
theorem gives_fold : ∀ (l : List Claim) (y : Node), l.foldl givesUp y = { y with claims := (l.map fun c => { c with gone := true }).foldl (fun k c => learn c k) y.claims }
  | [], y => rfl
  | c :: l, y => by
    rw [List.foldl_cons, gives_fold l, List.map_cons, List.foldl_cons]
    rfl
/-! ### 4. Strictly ordered numbers are few -/
theorem few : ∀ (N : Nat) (l : List Nat), l.Pairwise (· < ·) → (∀ a ∈ l, a < N) → l.length ≤ N
  | 0, [], _, _ => by simp
  | 0, a :: l, _, h => by have := h a (by simp); omega
  | N + 1, [], _, _ => by simp
  | N + 1, a :: l, hp, h => by
    obtain ⟨h1, h2⟩ := List.pairwise_cons.mp hp
    have := few N (l.map (· - 1)) (by
      rw [List.pairwise_map]
      refine h2.imp_of_mem fun {x y} hx hy q => ?_
      have := h1 x hx
      omega) (fun b hb => by
      obtain ⟨c, hc, rfl⟩ := List.mem_map.mp hb
      have := h c (by simp [hc])
      have := h1 c hc
      omega)
    simp at this ⊢
    omega
theorem Kn.few {g : Nat → Nat → Nat × Nat} {l : List Claim} {k : Nat} (h : Kn g l) (hn : ∀ c ∈ l, c.node ≤ 4) (hc : ∀ c ∈ l, c.count ≤ k) : l.length ≤ 8 * (k + 1) := by
  have := NN.few (8 * (k + 1)) (l.map fun c => 8 * c.count + c.node) (by
    rw [List.pairwise_map]
    refine h.srt.imp_of_mem fun {x y} hx hy q => ?_
    rw [elder_iff] at q
    have := hn x hx
    have := hn y hy
    omega) (fun b hb => by
    obtain ⟨c, hc', rfl⟩ := List.mem_map.mp hb
    have := hn c hc'
    have := hc c hc'
    omega)
  simpa using this
end NN
set_option Elab.async false
namespace NN
open Ha08
/-! ### 5. What holds of every world that a list of calls can bring about -/
structure Cl (g : Nat → Nat → Nat × Nat) (s : St) (c : Claim) : Prop where
  agr : Agr g c
  n1 : 1 ≤ c.node
  n2 : c.node ≤ s.nodes.length
  cnt : c.count ≤ (node s c.node).count
  p1 : 1 ≤ c.proc
  p2 : c.proc ≤ 9
  nm : c.name ≤ 9
structure NodeOk (g : Nat → Nat → Nat × Nat) (k L : Nat) (s : St) (n : Nat) (x : Node) : Prop where
  kn : Kn g x.claims
  cl : ∀ c ∈ x.claims, Cl g s c
  cnt : x.count ≤ k
  rn : x.reach.Nodup
  rs : n ∈ x.reach
  rb : ∀ m ∈ x.reach, 1 ≤ m ∧ m ≤ s.nodes.length
  lost : x.lost.length ≤ L
  lp : ∀ a ∈ x.lost, 1 ≤ a.proc ∧ a.proc ≤ 9
structure LetOk (g : Nat → Nat → Nat × Nat) (k : Nat) (s : St) (l : Letter) : Prop where
  kn : Kn g l.claims
  cl : ∀ c ∈ l.claims, Cl g s c
  cnt : l.count ≤ k
  t1 : 1 ≤ l.to_
  t2 : l.to_ ≤ s.nodes.length
structure Inv (g : Nat → Nat → Nat × Nat) (k L : Nat) (s : St) : Prop where
  lo : 2 ≤ s.nodes.length
  hi : s.nodes.length ≤ 4
  nodes : ∀ n x, 1 ≤ n → s.nodes[n - 1]? = some x → NodeOk g k L s n x
  air : ∀ l ∈ s.air, LetOk g k s l
  alen : s.air.length ≤ k
theorem isNode_iff {s : St} {n : Nat} : isNode s n = true ↔ 1 ≤ n ∧ n ≤ s.nodes.length := by
  simp [isNode]
theorem node_at {s : St} {n : Nat} (h1 : 1 ≤ n) (h2 : n ≤ s.nodes.length) : s.nodes[n - 1]? = some (node s n) := by
  unfold node
  have : n - 1 < s.nodes.length := by omega
  rw [List.getD_eq_getElem?_getD, List.getElem?_eq_getElem this]
  rfl
theorem set_len (s : St) (n : Nat) (x : Node) : (setNode s n x).nodes.length = s.nodes.length := by
  simp [setNode]
theorem node_set {s : St} {n m : Nat} {x : Node} (h1 : 1 ≤ n) (h2 : n ≤ s.nodes.length) (hm : 1 ≤ m) : node (setNode s n x) m = if m = n then x else node s m := by
  unfold node setNode
  simp only [List.getD_eq_getElem?_getD, List.getElem?_set]
  have e1 : n - 1 < s.nodes.length := by omega
  by_cases e : m = n
  · subst e; simp [e1]
  · have : ¬ n - 1 = m - 1 := by omega
    simp [this, e]
theorem Cl.mono {g : Nat → Nat → Nat × Nat} {s t : St} {c : Claim} (h : Cl g s c) (hl : t.nodes.length = s.nodes.length) (hc : ∀ n, 1 ≤ n → (node s n).count ≤ (node t n).count) : Cl g t c :=
  ⟨h.agr, h.n1, by rw [hl]; exact h.n2, Nat.le_trans h.cnt (hc _ h.n1), h.p1, h.p2, h.nm⟩
theorem NodeOk.mono {g : Nat → Nat → Nat × Nat} {k L k' L' : Nat} {s t : St} {n : Nat} {x : Node} (h : NodeOk g k L s n x) (hk : k ≤ k') (hL : L ≤ L') (hl : t.nodes.length = s.nodes.length) (hc : ∀ n, 1 ≤ n → (node s n).count ≤ (node t n).count) : NodeOk g k' L' t n x :=
  ⟨h.kn, fun c q => (h.cl c q).mono hl hc, Nat.le_trans h.cnt hk, h.rn, h.rs, fun m q => by rw [hl]; exact h.rb m q, Nat.le_trans h.lost hL, h.lp⟩
theorem LetOk.mono {g : Nat → Nat → Nat × Nat} {k k' : Nat} {s t : St} {l : Letter} (h : LetOk g k s l) (hk : k ≤ k') (hl : t.nodes.length = s.nodes.length) (hc : ∀ n, 1 ≤ n → (node s n).count ≤ (node t n).count) : LetOk g k' t l :=
  ⟨h.kn, fun c q => (h.cl c q).mono hl hc, Nat.le_trans h.cnt hk, h.t1, by rw [hl]; exact h.t2⟩
theorem Inv.mono {g : Nat → Nat → Nat × Nat} {k L k' L' : Nat} {s : St} (h : Inv g k L s) (hk : k ≤ k') (hL : L ≤ L') : Inv g k' L' s :=
  ⟨h.lo, h.hi, fun n x a b => (h.nodes n x a b).mono hk hL rfl fun _ _ => Nat.le_refl _, fun l q => (h.air l q).mono hk rfl fun _ _ => Nat.le_refl _, Nat.le_trans h.alen hk⟩
theorem Inv.at {g : Nat → Nat → Nat × Nat} {k L : Nat} {s : St} (h : Inv g k L s) {n : Nat} (h1 : 1 ≤ n) (h2 : n ≤ s.nodes.length) : NodeOk g k L s n (node s n) := h.nodes n _ h1 (node_at h1 h2)
theorem NodeOk.few {g : Nat → Nat → Nat × Nat} {k L : Nat} {s : St} {n : Nat} {x : Node} (I : Inv g k L s) (h : ∀ c ∈ x.claims, Cl g s c) (hk : Kn g x.claims) : x.claims.length ≤ 8 * (k + 1) :=
  hk.few (fun c q => Nat.le_trans (h c q).n2 I.hi) fun c q => Nat.le_trans (h c q).cnt (I.at (h c q).n1 (h c q).n2).cnt
theorem list_few {g : Nat → Nat → Nat × Nat} {k L : Nat} {s : St} {l : List Claim} (I : Inv g k L s) (h : ∀ c ∈ l, Cl g s c) (hk : Kn g l) : l.length ≤ 8 * (k + 1) :=
  hk.few (fun c q => Nat.le_trans (h c q).n2 I.hi) fun c q => Nat.le_trans (h c q).cnt (I.at (h c q).n1 (h c q).n2).cnt
/-- one node is changed -/
theorem Inv.set {g : Nat → Nat → Nat × Nat} {k L k' L' : Nat} {s : St} (I : Inv g k L s) {n : Nat} {x : Node} (h1 : 1 ≤ n) (h2 : n ≤ s.nodes.length) (hk : k ≤ k') (hL : L ≤ L') (hc : (node s n).count ≤ x.count)
    (hx : NodeOk g k' L' (setNode s n x) n x) : Inv g k' L' (setNode s n x) := by
  have hcc : ∀ m, 1 ≤ m → (node s m).count ≤ (node (setNode s n x) m).count := fun m hm => by
    rw [node_set h1 h2 hm]
    by_cases e : m = n
    · subst e; simpa using hc
    · simp [e]
  refine ⟨by rw [set_len]; exact I.lo, by rw [set_len]; exact I.hi, fun m y hm hy => ?_, fun l hl => (I.air l hl).mono hk (set_len _ _ _) hcc, Nat.le_trans I.alen hk⟩
  have hm2 : m ≤ s.nodes.length := by
    have := (List.getElem?_eq_some_iff.mp hy).1
    rw [set_len] at this
    omega
  have e1 : y = node (setNode s n x) m := by
    have := node_at (s := setNode s n x) hm (by rw [set_len]; exact hm2)
    rw [hy] at this
    exact Option.some.inj this
  rw [node_set h1 h2 hm] at e1
  by_cases e : m = n
  · subst e
    simp at e1
    subst e1
    exact hx
  · simp [e] at e1
    subst e1
    exact (I.at hm hm2).mono hk hL (set_len _ _ _) hcc
theorem Cl.like {g : Nat → Nat → Nat × Nat} {s : St} {c d : Claim} (h : Cl g s c) (e : Like d c) : Cl g s d := by
  obtain ⟨e1, e2, e3, e4⟩ := e
  refine ⟨?_, by rw [e2]; exact h.n1, by rw [e2]; exact h.n2, by rw [e1, e2]; exact h.cnt, by rw [e3]; exact h.p1, by rw [e3]; exact h.p2, by rw [e4]; exact h.nm⟩
  unfold Agr
  rw [e1, e2, e3, e4]
  exact h.agr
theorem lk_losts {y : Node} {c : Claim} {a : Lost} (h : a ∈ (lk y c).lost) : a ∈ y.lost ∨ a.proc = c.proc := by
  rcases lk_cases y c with e | e <;> rw [e] at h
  · exact Or.inl h
  · simp at h
    rcases h with h | h
    · exact Or.inl h
    · exact Or.inr (by rw [h])
theorem fold_losts : ∀ (l : List Claim) {y : Node} {a : Lost}, a ∈ (l.foldl lk y).lost → a ∈ y.lost ∨ ∃ c ∈ l, a.proc = c.proc
  | [], _, _, h => Or.inl h
  | c :: l, y, a, h => by
    rcases fold_losts l h with h | ⟨d, hd, e⟩
    · rcases lk_losts h with h | h
      · exact Or.inl h
      · exact Or.inr ⟨c, by simp, h⟩
    · exact Or.inr ⟨d, by simp [hd], e⟩
/-- a node that has learnt what it may, looks through its own -/
theorem NodeOk.looks {g : Nat → Nat → Nat × Nat} {k L : Nat} {s t : St} {n : Nat} {x : Node} (I : Inv g k L s) (h : NodeOk g k L s n x) (hk : k ≤ 100) (hl : t.nodes.length = s.nodes.length) (hc : ∀ n, 1 ≤ n → (node s n).count ≤ (node t n).count) : NodeOk g k (L + 1000) t n (looks n x) := by
  have M := looks_mid n h.kn
  have f := NodeOk.few (n := n) I h.cl h.kn
  have o : (owns n x.claims).length ≤ x.claims.length := (owns_sub n x.claims).length_le
  refine ⟨M.kn, fun c q => ?_, by rw [M.count]; exact h.cnt, by rw [M.reach]; exact h.rn, by rw [M.reach]; exact h.rs, fun m q => by rw [M.reach] at q; rw [hl]; exact h.rb m q, ?_, fun a q => ?_⟩
  · obtain ⟨b, hb, e⟩ := M.stamps c q
    exact ((h.cl b hb).like e).mono hl hc
  · have := M.lost2
    have := h.lost
    omega
  · rcases fold_losts _ q with q | ⟨c, hc, e⟩
    · exact h.lp a q
    · have := h.cl c (mem_owns.mp hc).1
      rw [e]
      exact ⟨this.p1, this.p2⟩
/-- the node that a letter comes to, ahead of looking through its own -/
def gets (x : Node) (l : Letter) : Node := { x with claims := l.claims.foldl (fun k c => learn c k) x.claims, count := max x.count l.count }
theorem arrives_eq (s : St) (l : Letter) : arrives s l = setNode s l.to_ (looks l.to_ (gets (node s l.to_) l)) := rfl
theorem NodeOk.gets {g : Nat → Nat → Nat × Nat} {k L : Nat} {s : St} {n : Nat} {x : Node} {l : Letter} (h : NodeOk g k L s n x) (hl : LetOk g k s l) : NodeOk g k L s n (gets x l) := by
  refine ⟨h.kn.fold _ fun c q => (hl.cl c q).agr, fun c q => ?_, ?_, h.rn, h.rs, h.rb, h.lost, h.lp⟩
  · obtain ⟨b, hb, e⟩ := fold_stamp _ q
    rcases hb with hb | hb
    · exact (hl.cl b hb).like e
    · exact (h.cl b hb).like e
  · have := h.cnt
    have := hl.cnt
    show max _ _ ≤ k
    omega
theorem arrives_inv {g : Nat → Nat → Nat × Nat} {k L : Nat} {s : St} {l : Letter} (I : Inv g k L s) (hk : k ≤ 100) (hl : LetOk g k s l) : Inv g k (L + 1000) (arrives s l) := by
  rw [arrives_eq]
  have hx := (I.at hl.t1 hl.t2).gets hl
  have M := looks_mid l.to_ hx.kn
  have hcnt : (node s l.to_).count ≤ (looks l.to_ (gets (node s l.to_) l)).count := by
    rw [M.count]
    show _ ≤ max _ _
    omega
  refine I.set hl.t1 hl.t2 (Nat.le_refl _) (by omega) hcnt (hx.looks I hk (set_len _ _ _) fun m hm => ?_)
  rw [node_set hl.t1 hl.t2 hm]
  by_cases e : m = l.to_
  · subst e; simpa using hcnt
  · simp [e]
/-- letters may go -/
theorem Inv.airs {g : Nat → Nat → Nat × Nat} {k L : Nat} {s : St} (I : Inv g k L s) {a : List Letter} (h : ∀ l ∈ a, l ∈ s.air) (hl : a.length ≤ k) : Inv g k L { s with air := a } :=
  ⟨I.lo, I.hi, fun n x h1 h2 => (I.nodes n x h1 h2).mono (Nat.le_refl _) (Nat.le_refl _) rfl fun _ _ => Nat.le_refl _, fun l q => (I.air l (h l q)).mono (Nat.le_refl _) rfl fun _ _ => Nat.le_refl _, hl⟩
theorem tells_inv {g : Nat → Nat → Nat × Nat} {k L : Nat} {s : St} (I : Inv g k L s) {n m : Nat} (h1 : 1 ≤ n) (h2 : n ≤ s.nodes.length) (h3 : 1 ≤ m) (h4 : m ≤ s.nodes.length) : Inv g (k + 1) L (tells s n m) := by
  have J := I.mono (Nat.le_succ k) (Nat.le_refl L)
  have N := J.at h1 h2
  refine ⟨J.lo, J.hi, fun n x h1 h2 => (J.nodes n x h1 h2).mono (Nat.le_refl _) (Nat.le_refl _) rfl fun _ _ => Nat.le_refl _, fun l q => ?_, ?_⟩
  · have q : l ∈ s.air ++ [⟨n, m, (node s n).claims, (node s n).count⟩] := q
    rcases List.mem_append.mp q with q | q
    · exact (J.air l q).mono (Nat.le_refl _) rfl fun _ _ => Nat.le_refl _
    · simp at q
      subst q
      exact ⟨N.kn, fun c r => (N.cl c r).mono rfl fun _ _ => Nat.le_refl _, N.cnt, h3, h4⟩
  · show (s.air ++ [_]).length ≤ k + 1
    have := I.alen
    simp
    omega
theorem rounds_inv {g : Nat → Nat → Nat × Nat} {k : Nat} (hk : k ≤ 100) : ∀ (n : Nat) {L : Nat} {s : St}, Inv g k L s → Inv g k (L + 1000 * s.air.length) (rounds n s).1
  | 0, L, s, I => I.mono (Nat.le_refl _) (by omega)
  | n + 1, L, s, I => by
    unfold rounds
    split
    · exact I.mono (Nat.le_refl _) (by omega)
    · rename_i l r e
      have I1 : Inv g k L { s with air := r } := I.airs (fun x q => by rw [e]; simp [q]) (by have := I.alen; rw [e] at this; simp at this; omega)
      have I2 : Inv g k (L + 1000) (arrives { s with air := r } l) := arrives_inv I1 hk ((I.air l (by rw [e]; simp)).mono (Nat.le_refl _) rfl fun _ _ => Nat.le_refl _)
      have I3 := rounds_inv hk n I2
      refine I3.mono (Nat.le_refl _) ?_
      rw [e]
      show L + 1000 + 1000 * r.length ≤ L + 1000 * (l :: r).length
      simp
      omega
theorem mem_nodesOf {n m : Nat} : m ∈ nodesOf n ↔ 1 ≤ m ∧ m ≤ n := by
  unfold nodesOf
  simp
  constructor
  · rintro ⟨a, h, rfl⟩; omega
  · rintro ⟨h1, h2⟩; exact ⟨m - 1, by omega, by omega⟩
theorem nodup_nodesOf (n : Nat) : (nodesOf n).Nodup := by
  unfold nodesOf
  unfold List.Nodup
  rw [List.pairwise_map]
  exact (List.nodup_range).imp fun q r => q (by omega)
theorem len_nodesOf (n : Nat) : (nodesOf n).length = n := by simp [nodesOf]
theorem fresh_inv {g : Nat → Nat → Nat × Nat} (k L n : Nat) (h1 : 2 ≤ n) (h2 : n ≤ 4) : Inv g k L (fresh n) := by
  have e : (fresh n).nodes.length = n := by simp [fresh, len_nodesOf]
  refine ⟨by rw [e]; exact h1, by rw [e]; exact h2, fun m x hm hx => ?_, fun l q => (by cases q), Nat.zero_le _⟩
  have hm2 := (List.getElem?_eq_some_iff.mp hx).1
  rw [e] at hm2
  have : x = ⟨0, [], nodesOf n, []⟩ := by
    simp [fresh] at hx
    exact hx.2.symm
  subst this
  exact ⟨Kn.nil, fun c q => (by cases q), Nat.zero_le _, nodup_nodesOf n, mem_nodesOf.mpr ⟨hm, by omega⟩, fun a q => by rw [e]; exact mem_nodesOf.mp q, Nat.zero_le _, fun a q => (by cases q)⟩
/-- a new claim: its stamp is nobody's -/
def put (g : Nat → Nat → Nat × Nat) (c : Claim) : Nat → Nat → Nat × Nat := fun a b => if a = c.count ∧ b = c.node then (c.proc, c.name) else g a b
theorem Agr.put {g : Nat → Nat → Nat × Nat} {c d : Claim} (h : Agr g d) (hn : ¬ (d.count = c.count ∧ d.node = c.node)) : Agr (put g c) d := by
  unfold Agr NN.put
  rw [if_neg hn]
  exact h
theorem Cl.put {g : Nat → Nat → Nat × Nat} {s : St} {c d : Claim} (hc : (node s c.node).count < c.count) (h : Cl g s d) : Cl (put g c) s d :=
  ⟨h.agr.put (fun ⟨e1, e2⟩ => by have := h.cnt; rw [e2] at this; omega), h.n1, h.n2, h.cnt, h.p1, h.p2, h.nm⟩
theorem Inv.put {g : Nat → Nat → Nat × Nat} {k L : Nat} {s : St} {c : Claim} (hc : (node s c.node).count < c.count) (I : Inv g k L s) : Inv (put g c) k L s :=
  ⟨I.lo, I.hi, fun n x h1 h2 => by
    have h := I.nodes n x h1 h2
    exact ⟨⟨h.kn.srt, fun d q => ((h.cl d q).put hc).agr⟩, fun d q => (h.cl d q).put hc, h.cnt, h.rn, h.rs, h.rb, h.lost, h.lp⟩, fun l q => by
    have h := I.air l q
    exact ⟨⟨h.kn.srt, fun d q => ((h.cl d q).put hc).agr⟩, fun d q => (h.cl d q).put hc, h.cnt, h.t1, h.t2⟩, I.alen⟩
theorem claim_inv {g : Nat → Nat → Nat × Nat} {k L : Nat} {s : St} (I : Inv g k L s) {n p name : Nat} (h1 : 1 ≤ n) (h2 : n ≤ s.nodes.length) (p1 : 1 ≤ p) (p2 : p ≤ 9) (nm : name ≤ 9) :
    Inv (put g ⟨(node s n).count + 1, n, p, name, false⟩) (k + 1) L (setNode s n (claims_ (node s n) n p name)) := by
  have J : Inv (put g ⟨(node s n).count + 1, n, p, name, false⟩) k L s := I.put (Nat.lt_succ_self _)
  have N := J.at h1 h2
  have ac : Agr (put g ⟨(node s n).count + 1, n, p, name, false⟩) ⟨(node s n).count + 1, n, p, name, false⟩ := by
    unfold Agr NN.put
    simp
  have hcc : ∀ m, 1 ≤ m → (node s m).count ≤ (node (setNode s n (claims_ (node s n) n p name)) m).count := fun m hm => by
    rw [node_set h1 h2 hm]
    by_cases e : m = n
    · subst e; simp [claims_]
    · simp [e]
  refine J.set h1 h2 (Nat.le_succ _) (Nat.le_refl _) (Nat.le_succ _) ⟨N.kn.learn ac, fun c q => ?_, ?_, N.rn, N.rs, fun m q => by rw [set_len]; exact N.rb m q, N.lost, N.lp⟩
  · obtain ⟨x, hx, e⟩ := learn_stamp q
    rcases hx with rfl | hx
    · refine Cl.like (c := ⟨(node s n).count + 1, n, p, name, false⟩) ⟨ac, h1, by rw [set_len]; exact h2, ?_, p1, p2, nm⟩ e
      show _ ≤ (node (setNode s n _) n).count
      rw [node_set h1 h2 h1]
      simp [claims_]
    · exact ((N.cl x hx).mono (set_len _ _ _) hcc).like e
  · have := N.cnt
    show (node s n).count + 1 ≤ k + 1
    omega
theorem gives_inv {g : Nat → Nat → Nat × Nat} {k L : Nat} {s : St} (I : Inv g k L s) {n : Nat} {l : List Claim} (h1 : 1 ≤ n) (h2 : n ≤ s.nodes.length) (hl : ∀ c ∈ l, c ∈ (node s n).claims) : Inv g k L (setNode s n (l.foldl givesUp (node s n))) := by
  have N := I.at h1 h2
  have hm : ∀ c ∈ l.map (fun c => ({ c with gone := true } : Claim)), Cl g s c := fun c q => by
    obtain ⟨d, hd, rfl⟩ := List.mem_map.mp q
    exact (N.cl d (hl d hd)).like ⟨rfl, rfl, rfl, rfl⟩
  have hcc : ∀ (x : Node), (node s n).count = x.count → ∀ m, 1 ≤ m → (node s m).count ≤ (node (setNode s n x) m).count := fun x e m hm => by
    rw [node_set h1 h2 hm]
    by_cases q : m = n
    · subst q; simp [e]
    · simp [q]
  rw [gives_fold]
  refine I.set h1 h2 (Nat.le_refl _) (Nat.le_refl _) (Nat.le_refl _) ⟨N.kn.fold _ fun c q => (hm c q).agr, fun c q => ?_, N.cnt, N.rn, N.rs, fun m q => by rw [set_len]; exact N.rb m q, N.lost, N.lp⟩
  obtain ⟨x, hx, e⟩ := fold_stamp _ q
  rcases hx with hx | hx
  · exact ((hm x hx).like e).mono (set_len _ _ _) (hcc _ rfl)
  · exact ((N.cl x hx).like e).mono (set_len _ _ _) (hcc _ rfl)
/-- whom a node reaches changes -/
theorem reach_inv {g : Nat → Nat → Nat × Nat} {k L : Nat} {s : St} (I : Inv g k L s) {n : Nat} {r : List Nat} (h1 : 1 ≤ n) (h2 : n ≤ s.nodes.length) (rn : r.Nodup) (rs : n ∈ r) (rb : ∀ m ∈ r, 1 ≤ m ∧ m ≤ s.nodes.length) : NodeOk g k L s n { node s n with reach := r } := by
  have N := I.at h1 h2
  exact ⟨N.kn, N.cl, N.cnt, rn, rs, rb, N.lost, N.lp⟩
end NN
set_option Elab.async false
namespace NN
open Ha08
theorem erase_mem {α : Type} {l : List α} {i : Nat} {x : α} (h : x ∈ l.eraseIdx i) : x ∈ l := (List.eraseIdx_sublist l i).mem h
theorem reach_more {g : Nat → Nat → Nat × Nat} {k L : Nat} {s : St} {n m : Nat} {x : Node} (N : NodeOk g k L s n x) (h3 : 1 ≤ m) (h4 : m ≤ s.nodes.length) : NodeOk g k L s n { x with reach := if x.reach.contains m = true then x.reach else x.reach ++ [m] } := by
  refine ⟨N.kn, N.cl, N.cnt, ?_, ?_, ?_, N.lost, N.lp⟩
  · show (if x.reach.contains m = true then x.reach else x.reach ++ [m]).Nodup
    split
    · exact N.rn
    · rename_i q
      rw [List.nodup_append]
      refine ⟨N.rn, by simp, fun a ha b hb e => ?_⟩
      simp at hb
      subst hb
      subst e
      exact q (by simpa using ha)
  · show n ∈ (if x.reach.contains m = true then x.reach else x.reach ++ [m])
    split
    · exact N.rs
    · simp [N.rs]
  · intro a ha
    have ha : a ∈ (if x.reach.contains m = true then x.reach else x.reach ++ [m]) := ha
    split at ha
    · exact N.rb a ha
    · rcases List.mem_append.mp ha with q | q
      · exact N.rb a q
      · simp at q; subst q; exact ⟨h3, h4⟩
theorem step_inv {g : Nat → Nat → Nat × Nat} {k L : Nat} {s : St} (I : Inv g k L s) (hk : k < 100) (c : Call) : ∃ g', Inv g' (k + 1) (L + 100000) (step s c).1 := by
  have up : ∀ {t : St} {g' : Nat → Nat → Nat × Nat}, Inv g' k L t → ∃ g', Inv g' (k + 1) (L + 100000) t := fun J => ⟨_, J.mono (Nat.le_succ _) (by omega)⟩
  have np : ∀ {n p nm : Nat}, ¬ (isNode s n = false ∨ p = 0 ∨ 9 < p ∨ 9 < nm) → (1 ≤ n ∧ n ≤ s.nodes.length) ∧ 1 ≤ p ∧ p ≤ 9 ∧ nm ≤ 9 := fun {n p nm} h => by
    have : isNode s n = true := by
      cases e : isNode s n with
      | true => rfl
      | false => exact absurd (Or.inl e) h
    exact ⟨isNode_iff.mp this, by omega, by omega, by omega⟩
  have nn : ∀ {n m : Nat}, ¬ (isNode s n = false ∨ isNode s m = false ∨ n = m) → (1 ≤ n ∧ n ≤ s.nodes.length) ∧ (1 ≤ m ∧ m ≤ s.nodes.length) ∧ n ≠ m := fun {n m} h => by
    have e1 : isNode s n = true := by
      cases e : isNode s n with
      | true => rfl
      | false => exact absurd (Or.inl e) h
    have e2 : isNode s m = true := by
      cases e : isNode s m with
      | true => rfl
      | false => exact absurd (Or.inr (Or.inl e)) h
    exact ⟨isNode_iff.mp e1, isNode_iff.mp e2, fun q => h (Or.inr (Or.inr q))⟩
  have air1 : ∀ i, Inv g k L { s with air := s.air.eraseIdx i } := fun i => I.airs (fun l q => erase_mem q) (Nat.le_trans (List.eraseIdx_sublist _ _).length_le I.alen)
  cases c with
  | begin_ n =>
    dsimp only [step]
    split
    · exact up I
    · exact ⟨g, fresh_inv _ _ n (by omega) (by omega)⟩
  | claim n p name =>
    dsimp only [step]
    split
    · exact up I
    · rename_i h
      obtain ⟨⟨h1, h2⟩, h3, h4, h5⟩ := np h
      split
      · exact up I
      · split
        · exact up I
        · exact ⟨_, (claim_inv I h1 h2 h3 h4 h5).mono (Nat.le_refl _) (by omega)⟩
  | free n p name =>
    dsimp only [step]
    split
    · exact up I
    · rename_i h
      obtain ⟨⟨h1, h2⟩, h3, h4, h5⟩ := np h
      exact up (gives_inv I h1 h2 fun c q => (List.mem_filter.mp (List.mem_filter.mp q).1).1)
  | dies n p =>
    dsimp only [step]
    split
    · exact up I
    · rename_i h
      obtain ⟨⟨h1, h2⟩, h3, h4, h5⟩ := np (n := n) (p := p) (nm := 0) (fun q => h (by rcases q with q | q | q | q; exact Or.inl q; exact Or.inr (Or.inl q); exact Or.inr (Or.inr q); omega))
      exact up (gives_inv I h1 h2 fun c q => (List.mem_filter.mp q).1)
  | part n m =>
    dsimp only [step]
    split
    · exact up I
    · rename_i h
      obtain ⟨⟨h1, h2⟩, ⟨h3, h4⟩, h5⟩ := nn h
      have N := I.at h1 h2
      have M := reach_inv I h1 h2 (r := (node s n).reach.filter fun k => k != m) (N.rn.sublist List.filter_sublist) (List.mem_filter.mpr ⟨N.rs, by simpa using h5⟩) fun a q => N.rb a (List.mem_filter.mp q).1
      refine up (I.set h1 h2 (Nat.le_refl _) (Nat.le_refl _) (Nat.le_refl _) (M.mono (Nat.le_refl _) (Nat.le_refl _) (set_len _ _ _) fun a ha => ?_))
      rw [node_set h1 h2 ha]
      by_cases q : a = n
      · subst q; simp
      · simp [q]
  | meet n m =>
    dsimp only [step]
    split
    · exact up I
    · rename_i h
      obtain ⟨⟨h1, h2⟩, ⟨h3, h4⟩, h5⟩ := nn h
      have N := I.at h1 h2
      have M := reach_more (m := m) N h3 h4
      have J : Inv g k (L + 1000) (setNode s n (looks n { node s n with reach := if (node s n).reach.contains m = true then (node s n).reach else (node s n).reach ++ [m] })) := by
        have D := looks_mid n M.kn
        refine I.set h1 h2 (Nat.le_refl _) (by omega) (by rw [D.count]; exact Nat.le_refl _) (M.looks I (by omega) (set_len _ _ _) fun a ha => ?_)
        rw [node_set h1 h2 ha]
        by_cases q : a = n
        · subst q; rw [if_pos rfl, D.count]; exact Nat.le_refl _
        · simp [q]
      show ∃ g', Inv g' (k + 1) (L + 100000) (if AIR ≤ s.air.length then _ else _)
      split
      · exact ⟨g, J.mono (Nat.le_succ _) (by omega)⟩
      · exact ⟨g, (tells_inv J h1 (by rw [set_len]; exact h2) h3 (by rw [set_len]; exact h4)).mono (Nat.le_refl _) (by omega)⟩
  | tell n m =>
    dsimp only [step]
    split
    · exact up I
    · rename_i h
      obtain ⟨⟨h1, h2⟩, ⟨h3, h4⟩, h5⟩ := nn h
      split
      · exact up I
      · split
        · exact up I
        · exact ⟨g, (tells_inv I h1 h2 h3 h4).mono (Nat.le_refl _) (by omega)⟩
  | take j =>
    dsimp only [step]
    split
    · exact up I
    · rename_i l e
      split
      · exact up I
      · exact ⟨g, (arrives_inv (air1 (j - 1)) (by omega) ((I.air l (List.mem_of_getElem? e)).mono (Nat.le_refl _) rfl fun _ _ => Nat.le_refl _)).mono (Nat.le_succ _) (by omega)⟩
  | keep j =>
    dsimp only [step]
    split
    · exact up I
    · rename_i l e
      split
      · exact up I
      · exact ⟨g, (arrives_inv I (by omega) (I.air l (List.mem_of_getElem? e))).mono (Nat.le_succ _) (by omega)⟩
  | lose j =>
    dsimp only [step]
    split
    · exact up I
    · split
      · exact up I
      · exact up (air1 (j - 1))
  | turns n =>
    dsimp only [step]
    split
    · exact up I
    · have := I.alen
      exact ⟨g, (rounds_inv (by omega) n I).mono (Nat.le_succ _) (by omega)⟩
  | who n name => exact up I
  | names n => exact up I
  | lost n p => exact up I
  | claims n => exact up I
  | air => exact up I
theorem init_inv (g : Nat → Nat → Nat × Nat) : Inv g 0 0 init := fresh_inv 0 0 3 (by omega) (by omega)
end NN
set_option Elab.async false
namespace NN
/-! ### 6. The list of calls -/
theorem whole_id (c : List (List Int)) : PyHa08.whole c = c := by
  unfold PyHa08.whole
  split <;> rfl
/-- how many numbers stand behind a call's own -/
def behind : List Nat := [1, 3, 3, 2, 2, 2, 2, 1, 1, 1, 1, 2, 1, 2, 1, 0]
theorem shape_some {p : Int} {a b : Nat} (h : PyHa08.shape p = some (a, b)) : b = 0 ∧ 0 ≤ p ∧ behind[p.toNat]? = some a := by
  unfold PyHa08.shape at h
  by_cases e0 : p = 0
  · subst e0; rw [if_pos rfl] at h; cases h; exact ⟨rfl, by decide, rfl⟩
  rw [if_neg e0] at h
  by_cases e1 : p = 1
  · subst e1; rw [if_pos rfl] at h; cases h; exact ⟨rfl, by decide, rfl⟩
  rw [if_neg e1] at h
  by_cases e2 : p = 2
  · subst e2; rw [if_pos rfl] at h; cases h; exact ⟨rfl, by decide, rfl⟩
  rw [if_neg e2] at h
  by_cases e3 : p = 3
  · subst e3; rw [if_pos rfl] at h; cases h; exact ⟨rfl, by decide, rfl⟩
  rw [if_neg e3] at h
  by_cases e4 : p = 4
  · subst e4; rw [if_pos rfl] at h; cases h; exact ⟨rfl, by decide, rfl⟩
  rw [if_neg e4] at h
  by_cases e5 : p = 5
  · subst e5; rw [if_pos rfl] at h; cases h; exact ⟨rfl, by decide, rfl⟩
  rw [if_neg e5] at h
  by_cases e6 : p = 6
  · subst e6; rw [if_pos rfl] at h; cases h; exact ⟨rfl, by decide, rfl⟩
  rw [if_neg e6] at h
  by_cases e7 : p = 7
  · subst e7; rw [if_pos rfl] at h; cases h; exact ⟨rfl, by decide, rfl⟩
  rw [if_neg e7] at h
  by_cases e8 : p = 8
  · subst e8; rw [if_pos rfl] at h; cases h; exact ⟨rfl, by decide, rfl⟩
  rw [if_neg e8] at h
  by_cases e9 : p = 9
  · subst e9; rw [if_pos rfl] at h; cases h; exact ⟨rfl, by decide, rfl⟩
  rw [if_neg e9] at h
  by_cases e10 : p = 10
  · subst e10; rw [if_pos rfl] at h; cases h; exact ⟨rfl, by decide, rfl⟩
  rw [if_neg e10] at h
  by_cases e11 : p = 11
  · subst e11; rw [if_pos rfl] at h; cases h; exact ⟨rfl, by decide, rfl⟩
  rw [if_neg e11] at h
  by_cases e12 : p = 12
  · subst e12; rw [if_pos rfl] at h; cases h; exact ⟨rfl, by decide, rfl⟩
  rw [if_neg e12] at h
  by_cases e13 : p = 13
  · subst e13; rw [if_pos rfl] at h; cases h; exact ⟨rfl, by decide, rfl⟩
  rw [if_neg e13] at h
  by_cases e14 : p = 14
  · subst e14; rw [if_pos rfl] at h; cases h; exact ⟨rfl, by decide, rfl⟩
  rw [if_neg e14] at h
  by_cases e15 : p = 15
  · subst e15; rw [if_pos rfl] at h; cases h; exact ⟨rfl, by decide, rfl⟩
  rw [if_neg e15] at h
  cases h
theorem calls_cons {f : Nat} {p : Int} {r : List Int} {cs : List (List (List Int))} (h : PyFlat.calls PyHa08.shape f (p :: r) = some cs) :
    ∃ (f' a : Nat) (c : List (List (List Int))), behind[p.toNat]? = some a ∧ 0 ≤ p ∧ a ≤ r.length ∧ cs = [p :: r.take a] :: c ∧ PyFlat.calls PyHa08.shape f' (r.drop a) = some c := by
  cases f with
  | zero => cases h
  | succ f =>
    unfold PyFlat.calls at h
    split at h
    · cases h
    · rename_i c t e
      dsimp only [PyFlat.call] at e
      split at e
      · cases e
      · rename_i a b hs
        obtain ⟨rfl, h0, hb⟩ := shape_some hs
        split at e
        · cases e
        · rename_i hl
          have e : some ([p :: r.take a], r.drop a) = some (c, t) := e
          cases e
          split at h
          · cases h
          · rename_i cs' e'
            cases h
            exact ⟨f, a, cs', hb, h0, by omega, rfl, e'⟩
theorem calls_nil {f : Nat} {cs : List (List (List Int))} (h : PyFlat.calls PyHa08.shape f [] = some cs) : cs = [] := by
  cases f <;> (unfold PyFlat.calls at h; cases h; rfl)
/-- what a call with these numbers is -/
theorem call_cases {p : Int} {args : List Int} {x : Ha08.Call} (h : Ha08Neutral.callOf [p :: args] = some x) :
    (∃ n : Nat, p = 0 ∧ args = [(n : Int)] ∧ x = .begin_ n) ∨
    (∃ n q k : Nat, p = 1 ∧ args = [(n : Int), (q : Int), (k : Int)] ∧ x = .claim n q k) ∨
    (∃ n q k : Nat, p = 2 ∧ args = [(n : Int), (q : Int), (k : Int)] ∧ x = .free n q k) ∨
    (∃ n q : Nat, p = 3 ∧ args = [(n : Int), (q : Int)] ∧ x = .dies n q) ∨
    (∃ n m : Nat, p = 4 ∧ args = [(n : Int), (m : Int)] ∧ x = .part n m) ∨
    (∃ n m : Nat, p = 5 ∧ args = [(n : Int), (m : Int)] ∧ x = .meet n m) ∨
    (∃ n m : Nat, p = 6 ∧ args = [(n : Int), (m : Int)] ∧ x = .tell n m) ∨
    (∃ k : Nat, p = 7 ∧ args = [(k : Int)] ∧ x = .take k) ∨
    (∃ k : Nat, p = 8 ∧ args = [(k : Int)] ∧ x = .keep k) ∨
    (∃ k : Nat, p = 9 ∧ args = [(k : Int)] ∧ x = .lose k) ∨
    (∃ n : Nat, p = 10 ∧ args = [(n : Int)] ∧ x = .turns n) ∨
    (∃ n k : Nat, p = 11 ∧ args = [(n : Int), (k : Int)] ∧ x = .who n k) ∨
    (∃ n : Nat, p = 12 ∧ args = [(n : Int)] ∧ x = .names n) ∨
    (∃ n q : Nat, p = 13 ∧ args = [(n : Int), (q : Int)] ∧ x = .lost n q) ∨
    (∃ n : Nat, p = 14 ∧ args = [(n : Int)] ∧ x = .claims n) ∨
    (p = 15 ∧ args = [] ∧ x = .air) := by
  unfold Ha08Neutral.callOf at h
  split at h
  · cases h
  · rename_i hn
    have hn : ([p :: args].all fun r => r.all Ha08Neutral.nat) = true := by
      cases e : ([p :: args].all fun r => r.all Ha08Neutral.nat) with
      | true => rfl
      | false => exact absurd e hn
    simp [Ha08Neutral.nat] at hn
    obtain ⟨⟨p0, _⟩, ha⟩ := hn
    have ea : args = (args.map Int.toNat).map (fun (n : Nat) => (n : Int)) := by
      rw [List.map_map]
      conv => lhs; rw [← List.map_id args]
      refine List.map_congr_left fun z hz => ?_
      have := (ha z hz).1
      simp
      omega
    have ep : p = (p.toNat : Int) := by omega
    generalize p.toNat = q at *
    generalize hz : args.map Int.toNat = zs at *
    have h' : Ha08Neutral.callIn [q :: zs] = some x := by
      have : List.map (fun r => List.map Int.toNat r) [p :: args] = [q :: zs] := by
        simp [hz, ep]
      rw [this] at h
      exact h
    clear h
    clear hz ha p0
    unfold Ha08Neutral.callIn at h'
    split at h'
    all_goals first
      | (cases h'; done)
      | (rename_i e; cases h'; injection e with e1 e2; injection e1 with e3 e4; subst e3 e4; subst ea ep; simp <;> exact ⟨_, _, _, ⟨rfl, rfl, rfl⟩, rfl, rfl, rfl⟩)
end NN
set_option Elab.async false
set_option linter.all false
set_option maxRecDepth 100000
set_option maxHeartbeats 4000000
namespace NH
open PySem PySem.Spec PyProof.Rows L2
/-! ### 7. Two lists, item by item -/
inductive Two {A B : Type} (R : A → B → Prop) : List A → List B → Prop
  | nil : Two R [] []
  | cons {a b l m} : R a b → Two R l m → Two R (a :: l) (b :: m)
section
variable {A B : Type} {R S : A → B → Prop}
theorem Two.len : ∀ {l : List A} {m : List B}, Two R l m → l.length = m.length
  | _, _, .nil => rfl
  | _, _, .cons _ t => congrArg (· + 1) t.len
theorem Two.imp (h : ∀ a b, R a b → S a b) : ∀ {l : List A} {m : List B}, Two R l m → Two S l m
  | _, _, .nil => .nil
  | _, _, .cons r t => .cons (h _ _ r) (t.imp h)
theorem Two.imp_mem : ∀ {l : List A} {m : List B}, (∀ a b, a ∈ l → R a b → S a b) → Two R l m → Two S l m
  | _, _, _, .nil => .nil
  | _, _, h, .cons r t => .cons (h _ _ (by simp) r) (t.imp_mem fun a b q => h a b (by simp [q]))
theorem Two.get : ∀ {l : List A} {m : List B} {i : Nat} {a : A}, Two R l m → l[i]? = some a → ∃ b, m[i]? = some b ∧ R a b
  | _, _, _, _, .nil, e => by simp at e
  | _, _, 0, _, .cons r _, e => by simp at e; subst e; exact ⟨_, rfl, r⟩
  | _, _, i + 1, a, .cons _ t, e => by
    obtain ⟨u, h1, h2⟩ := t.get (i := i) (a := a) (by simpa using e)
    exact ⟨u, by simpa using h1, h2⟩
theorem Two.got : ∀ {l : List A} {m : List B} {i : Nat} {b : B}, Two R l m → m[i]? = some b → ∃ a, l[i]? = some a ∧ R a b
  | _, _, _, _, .nil, e => by simp at e
  | _, _, 0, _, .cons r _, e => by simp at e; subst e; exact ⟨_, rfl, r⟩
  | _, _, i + 1, a, .cons _ t, e => by
    obtain ⟨u, h1, h2⟩ := t.got (i := i) (b := a) (by simpa using e)
    exact ⟨u, by simpa using h1, h2⟩
theorem Two.set {a : A} {b : B} (r : R a b) : ∀ {l : List A} {m : List B} (i : Nat), Two R l m → Two R (l.set i a) (m.set i b)
  | _, _, _, .nil => .nil
  | _, _, 0, .cons _ t => .cons r t
  | _, _, i + 1, .cons q t => .cons q (t.set r i)
theorem Two.append : ∀ {l l' : List A} {m m' : List B}, Two R l m → Two R l' m' → Two R (l ++ l') (m ++ m')
  | _, _, _, _, .nil, s => s
  | _, _, _, _, .cons r t, s => .cons r (t.append s)
theorem Two.take : ∀ {l : List A} {m : List B} (n : Nat), Two R l m → Two R (l.take n) (m.take n)
  | _, _, 0, _ => .nil
  | _, _, _ + 1, .nil => .nil
  | _, _, n + 1, .cons r t => .cons r (t.take n)
theorem Two.drop : ∀ {l : List A} {m : List B} (n : Nat), Two R l m → Two R (l.drop n) (m.drop n)
  | _, _, 0, r => r
  | _, _, _ + 1, .nil => .nil
  | _, _, n + 1, .cons _ t => t.drop n
theorem Two.erase : ∀ {l : List A} {m : List B} (n : Nat), Two R l m → Two R (l.eraseIdx n) (m.eraseIdx n)
  | _, _, _, .nil => .nil
  | _, _, 0, .cons _ t => t
  | _, _, n + 1, .cons r t => .cons r (t.erase n)
theorem Two.one {a : A} {b : B} (r : R a b) : Two R [a] [b] := .cons r .nil
theorem Two.mem_left : ∀ {l : List A} {m : List B} {a : A}, Two R l m → a ∈ l → ∃ b, b ∈ m ∧ R a b
  | _, _, _, .nil, h => by cases h
  | _, _, a, .cons (b := b) r t, h => by
    rcases List.mem_cons.mp h with rfl | h
    · exact ⟨b, by simp, r⟩
    · obtain ⟨c, hc, q⟩ := t.mem_left h
      exact ⟨c, by simp [hc], q⟩
end
/-! ### 8. How the objects lie in the heap -/
def cF (c : Ha08.Claim) : List (Str × V) := [("count", .int c.count), ("node", .int c.node), ("process", .int c.proc), ("name", .int c.name), ("given_up", .bl c.gone)]
def ClaimAt (CC : Addr) (H : Hp) (a : Addr) (c : Ha08.Claim) : Prop := ∃ dx, H a = some (.ins CC dx (cF c))
def nF (n ct : Nat) (kl rl ld : Addr) : List (Str × V) := [("number", .int n), ("count", .int ct), ("known", .ref kl), ("reached", .ref rl), ("losses", .ref ld)]
/-- where a node's parts lie: itself, its lists, its dict; of each process that has lost: its list -/
structure NA where
  a : Addr
  kl : Addr
  rl : Addr
  ld : Addr
  es : List (Nat × Addr)
def NA.ls (N : NA) : List Addr := N.es.map (·.2)
/-- all that a node may write to -/
def NA.fp (N : NA) : List Addr := N.a :: N.kl :: N.rl :: N.ld :: N.ls
def natV (l : List Nat) : List V := l.map fun (m : Nat) => V.int (m : Int)
def LossAt (H : Hp) (t : Addr) (x : Ha08.Lost) : Prop := H t = some (.tup [.int x.name, .int x.count])
def lossOf (l : List Ha08.Lost) (p : Nat) : List Ha08.Lost := l.filter fun x => x.proc == p
structure NodeAt (CC CN : Addr) (H : Hp) (N : NA) (n : Nat) (x : Ha08.Node) : Prop where
  ob : ∃ dx, H N.a = some (.ins CN dx (nF n x.count N.kl N.rl N.ld))
  ks : ∃ as : List Addr, H N.kl = some (.lst (as.map V.ref)) ∧ Two (ClaimAt CC H) as x.claims
  rs : H N.rl = some (.lst (natV x.reach))
  ds : H N.ld = some (.dK (N.es.map fun e => (Sum.inl (e.1 : Int), V.ref e.2)))
  ls : ∀ p l, (p, l) ∈ N.es → ∃ ts : List Addr, H l = some (.lst (ts.map V.ref)) ∧ Two (LossAt H) ts (lossOf x.lost p)
  no : ∀ p, p ∉ N.es.map (·.1) → lossOf x.lost p = []
  nd : (N.kl :: N.rl :: N.ls).Nodup
  en : (N.es.map (·.1)).Nodup
  el : N.es.length ≤ x.lost.length
/-- what is not among these stands as it was -/
def Fr (H H' : Hp) (fp : List Addr) : Prop := ∀ b o, H b = some o → b ∉ fp → H' b = some o
theorem Fr.refl (H : Hp) (fp : List Addr) : Fr H H fp := fun _ _ h _ => h
theorem Fr.trans {H H1 H2 : Hp} {f : List Addr} (a : Fr H H1 f) (b : Fr H1 H2 f) : Fr H H2 f := fun c o h n => b c o (a c o h n) n
theorem Fr.more {H H' : Hp} {f g : List Addr} (a : Fr H H' f) (h : ∀ x ∈ f, x ∈ g) : Fr H H' g := fun c o e n => a c o e fun q => n (h c q)
theorem Fr.same {H H' : Hp} {f : List Addr} (a : Same H H') : Fr H H' f := fun c o e _ => a c o e
theorem Fr.of_nil {H H' : Hp} (a : Fr H H' []) : Same H H' := fun c o e => a c o e (by simp)
/-- a new object: all that was tracked is the same -/
theorem same_new {H : Hp} {p : Addr} {o : HO} (h : H p = none) : Same H (upd H p o) := fun b u e => by
  rw [upd_ne (ne_of_none e h)]
  exact e
theorem fr_upd {H : Hp} {p : Addr} {o : HO} {f : List Addr} (h : p ∈ f) : Fr H (upd H p o) f := fun b u e n => by
  rw [upd_ne (fun q => n (by rw [q]; exact h))]
  exact e
/-- behind a step that only made new things and wrote to these -/
theorem Fr.upd {H H1 : Hp} {p : Addr} {o : HO} {f : List Addr} (a : Fr H H1 f) (h : p ∈ f) : Fr H (upd H1 p o) f := a.trans (fr_upd h)
theorem Fr.new {H H1 : Hp} {p : Addr} {o : HO} {f : List Addr} (a : Fr H H1 f) (h : H1 p = none) : Fr H (L2.upd H1 p o) f := a.trans (.same (same_new h))
theorem Fr.free {H H1 : Hp} {p : Addr} {f : List Addr} (a : Fr H H1 f) (h : H1 p = none) (n : p ∉ f) : H p = none := by
  cases e : H p with
  | none => rfl
  | some o =>
    rw [a p o e n] at h
    cases h
theorem ClaimAt.keep {CC : Addr} {H H' : Hp} {a : Addr} {c : Ha08.Claim} {f : List Addr} (h : ClaimAt CC H a c) (s : Fr H H' f) (n : a ∉ f) : ClaimAt CC H' a c := by
  obtain ⟨dx, e⟩ := h
  exact ⟨dx, s a _ e n⟩
/-- no claim is where lists and dicts are -/
theorem ClaimAt.not_lst {CC : Addr} {H : Hp} {a b : Addr} {c : Ha08.Claim} {xs : List V} (h : ClaimAt CC H a c) (e : H b = some (.lst xs)) : a ≠ b := by
  obtain ⟨dx, h⟩ := h
  exact ne_of h e (by intro z; cases z)
theorem claims_keep {CC : Addr} {H H' : Hp} {f : List Addr} {as : List Addr} {cs : List Ha08.Claim} (t : Two (ClaimAt CC H) as cs) (s : Fr H H' f) (n : ∀ a c, ClaimAt CC H a c → a ∉ f) : Two (ClaimAt CC H') as cs :=
  t.imp fun a c h => h.keep s (n a c h)
theorem NodeAt.claim_free {CC CN : Addr} {H : Hp} {N : NA} {n : Nat} {x : Ha08.Node} (h : NodeAt CC CN H N n x) {a : Addr} {c : Ha08.Claim} (hc : ClaimAt CC H a c) : a ∉ N.fp := by
  obtain ⟨dx, hc⟩ := hc
  intro q
  unfold NA.fp at q
  rcases List.mem_cons.mp q with rfl | q
  · obtain ⟨dy, e⟩ := h.ob
    rw [hc] at e
    cases e
  rcases List.mem_cons.mp q with rfl | q
  · obtain ⟨as, e, _⟩ := h.ks
    rw [hc] at e
    cases e
  rcases List.mem_cons.mp q with rfl | q
  · have e := h.rs
    rw [hc] at e
    cases e
  rcases List.mem_cons.mp q with rfl | q
  · have e := h.ds
    rw [hc] at e
    cases e
  · obtain ⟨⟨p, l⟩, he, rfl⟩ := List.mem_map.mp q
    obtain ⟨ts, e, _⟩ := h.ls p l he
    rw [hc] at e
    cases e
/-- a node's parts stand where none of them was written to -/
theorem NodeAt.keep {CC CN : Addr} {H H' : Hp} {N : NA} {n : Nat} {x : Ha08.Node} {f : List Addr} (h : NodeAt CC CN H N n x) (s : Fr H H' f) (nf : ∀ a ∈ N.fp, a ∉ f) (nc : ∀ a c, ClaimAt CC H a c → a ∉ f) (nt : ∀ a xs, H a = some (.tup xs) → a ∉ f) : NodeAt CC CN H' N n x := by
  obtain ⟨dx, ob⟩ := h.ob
  obtain ⟨as, ks, kt⟩ := h.ks
  refine ⟨⟨dx, s _ _ ob (nf _ (by simp [NA.fp]))⟩, ⟨as, s _ _ ks (nf _ (by simp [NA.fp])), claims_keep kt s nc⟩, s _ _ h.rs (nf _ (by simp [NA.fp])), s _ _ h.ds (nf _ (by simp [NA.fp])), fun p l hl => ?_, h.no, h.nd, h.en, h.el⟩
  obtain ⟨ts, e, t⟩ := h.ls p l hl
  refine ⟨ts, s _ _ e (nf _ ?_), t.imp fun a b q => s _ _ q (nt a _ q)⟩
  have : l ∈ N.ls := List.mem_map.mpr ⟨(p, l), hl, rfl⟩
  simp [NA.fp, this]
/-! ### 9. Fields -/
theorem lk_here {k : Str} {v : V} {r : List (Str × V)} : List.lookup k ((k, v) :: r) = some v := by
  have e : (k == k) = true := beq_self_eq_true k
  simp only [List.lookup, e]
theorem lk_past {k g : Str} {v : V} {r : List (Str × V)} (h : (k == g) = false) : List.lookup k ((g, v) :: r) = List.lookup k r := by
  simp only [List.lookup, h]
theorem put_here {f : Str} {v x : V} {r : List (Str × V)} : putF f v ((f, x) :: r) = (f, v) :: r := if_pos rfl
theorem put_past {f g : Str} {v x : V} {r : List (Str × V)} (h : ¬ g = f) : putF f v ((g, x) :: r) = (g, x) :: putF f v r := if_neg h
end NH
set_option Elab.async false
set_option linter.all false
set_option maxRecDepth 100000
set_option maxHeartbeats 4000000
namespace NH
open PySem PySem.Spec PyProof.Rows L2
/-! ### 10. The text by places -/
def top (i : Nat) : Stmt := PySem.Challenge.pw_nodenames_s01_answers.main.body.getD i (.Pass ⟨0, 0, 0, 0⟩)
abbrev tC_ : Nat := 1
abbrev tL_ : Nat := 3
abbrev tN_ : Nat := 5
abbrev sCInit : Stmt := inClass (top tC_) 0
abbrev sStamp : Stmt := inClass (top tC_) 1
abbrev sWhen : Stmt := inClass (top tC_) 2
/-- what the top has written, as far as the bodies ask -/
structure Txt (K : PySem.W.Frag) (mg : Str → Option Value) (CC CL CN CW : Addr) : Prop where
  clC : Cls K CC
  clL : Cls K CL
  clN : Cls K CN
  clW : Cls K CW
  cCount : NoAttr K CC "count"
  cNode : NoAttr K CC "node"
  cProc : NoAttr K CC "process"
  cName : NoAttr K CC "name"
  cGone : NoAttr K CC "given_up"
  lSend : NoAttr K CL "sender"
  lRecv : NoAttr K CL "receiver"
  lKnown : NoAttr K CL "known"
  lCount : NoAttr K CL "count"
  nNum : NoAttr K CN "number"
  nCount : NoAttr K CN "count"
  nKnown : NoAttr K CN "known"
  nReached : NoAttr K CN "reached"
  nLosses : NoAttr K CN "losses"
  wNodes : NoAttr K CW "nodes"
  wLetters : NoAttr K CW "letters"
  gC : mg "Claim" = some (.ref CC)
  gL : mg "Letter" = some (.ref CL)
  gN : mg "Node" = some (.ref CN)
  gW : mg "World" = some (.ref CW)
  len : mg "len" = none
  list : mg "list" = none
  range : mg "range" = none
  max : mg "max" = none
  k3 : ∃ t, mg "NODES_AT_FIRST" = some (.int 3 t)
  kLeast : ∃ t, mg "LEAST_NODES" = some (.int 2 t)
  kMost : ∃ t, mg "MOST_NODES" = some (.int 4 t)
  kLP : ∃ t, mg "LAST_PROCESS" = some (.int 9 t)
  kLN : ∃ t, mg "LAST_NAME" = some (.int 9 t)
  kMC : ∃ t, mg "MOST_CLAIMS" = some (.int 40 t)
  kML : ∃ t, mg "MOST_LETTERS" = some (.int 100 t)
  kMT : ∃ t, mg "MOST_TURNS" = some (.int 500 t)
  kNS : ∃ t, mg "NO_SUCH" = some (.int (-1) t)
  kNR : ∃ t, mg "NOT_REACHED" = some (.int (-4) t)
  kNL : ∃ t, mg "NO_LETTER" = some (.int (-5) t)
  kFu : ∃ t, mg "FULL" = some (.int (-6) t)
  h0 : ∃ t, mg "BEGIN" = some (.int 0 t)
  h1 : ∃ t, mg "CLAIM" = some (.int 1 t)
  h2 : ∃ t, mg "FREE" = some (.int 2 t)
  h3 : ∃ t, mg "DIES" = some (.int 3 t)
  h4 : ∃ t, mg "PART" = some (.int 4 t)
  h5 : ∃ t, mg "MEET" = some (.int 5 t)
  h6 : ∃ t, mg "TELL" = some (.int 6 t)
  h7 : ∃ t, mg "TAKE" = some (.int 7 t)
  h8 : ∃ t, mg "KEEP" = some (.int 8 t)
  h9 : ∃ t, mg "LOSE" = some (.int 9 t)
  h10 : ∃ t, mg "TURNS" = some (.int 10 t)
  h11 : ∃ t, mg "WHO" = some (.int 11 t)
  h12 : ∃ t, mg "NAMES" = some (.int 12 t)
  h13 : ∃ t, mg "LOST" = some (.int 13 t)
  h14 : ∃ t, mg "CLAIMS" = some (.int 14 t)
  kNB : ∃ a, mg "NUMBERS_BEHIND" = some (.ref a) ∧ ∀ H : Hp, SqT K H a (natV NN.behind)
/-! ### 11. Claim -/
def spCInit (CC : Addr) : Sp := fun vs H Q _ => ∃ (p dx : Addr) (c : Ha08.Claim), vs = [.ref p, .int c.count, .int c.node, .int c.proc, .int c.name, .bl c.gone] ∧ H p = some (.ins CC dx []) ∧
  ∀ H' : Hp, ClaimAt CC H' p c → (∀ b o, H b = some o → b ≠ p → H' b = some o) → Q .non H'
def spStamp (CC : Addr) : Sp := fun vs H Q _ => ∃ (a : Addr) (c : Ha08.Claim), vs = [.ref a] ∧ ClaimAt CC H a c ∧
  ∀ t : Addr, H t = none → Q (.ref t) (upd H t (.tup [.int c.count, .int c.node]))
def spWhen (CC : Addr) : Sp := fun vs H Q _ => ∃ (a : Addr) (c : Ha08.Claim), vs = [.ref a] ∧ ClaimAt CC H a c ∧
  ∀ (b : Addr) (H' : Hp), H b = none → Same H H' → ClaimAt CC H' b { c with gone := true } → Q (.ref b) H'
theorem cF_count (c : Ha08.Claim) : (cF c).lookup ("count" : Str) = some (.int c.count) := lk_here
theorem cF_node (c : Ha08.Claim) : (cF c).lookup ("node" : Str) = some (.int c.node) := (lk_past (by decide +kernel)).trans lk_here
theorem cF_proc (c : Ha08.Claim) : (cF c).lookup ("process" : Str) = some (.int c.proc) := (lk_past (by decide +kernel)).trans ((lk_past (by decide +kernel)).trans lk_here)
theorem cF_name (c : Ha08.Claim) : (cF c).lookup ("name" : Str) = some (.int c.name) := (lk_past (by decide +kernel)).trans ((lk_past (by decide +kernel)).trans ((lk_past (by decide +kernel)).trans lk_here))
theorem cF_gone (c : Ha08.Claim) : (cF c).lookup ("given_up" : Str) = some (.bl c.gone) := (lk_past (by decide +kernel)).trans ((lk_past (by decide +kernel)).trans ((lk_past (by decide +kernel)).trans ((lk_past (by decide +kernel)).trans lk_here)))
theorem cF_none (c : Ha08.Claim) {m : Str} (h1 : (m == "count") = false := by decide +kernel) (h2 : (m == "node") = false := by decide +kernel) (h3 : (m == "process") = false := by decide +kernel) (h4 : (m == "name") = false := by decide +kernel) (h5 : (m == "given_up") = false := by decide +kernel) : (cF c).lookup m = none :=
  (lk_past h1).trans ((lk_past h2).trans ((lk_past h3).trans ((lk_past h4).trans ((lk_past h5).trans rfl))))
theorem cF_new (c : Ha08.Claim) : putF "given_up" (.bl c.gone) (putF "name" (.int c.name) (putF "process" (.int c.proc) (putF "node" (.int c.node) (putF "count" (.int c.count) [])))) = cF c := by
  rfl
section
variable {P : Program} {w : World} {K : PySem.W.Frag} {mg : Str → Option Value} {base : Heap} {CC CL CN CW : Addr}
theorem scCI : FnScope ["self", "count", "node", "process", "name", "given_up"] ["self", "count", "node", "process", "name", "given_up"] (defScope sCInit) := ⟨rfl, rfl, rfl, by decide +kernel, rfl, by decide +kernel, by decide +kernel⟩
theorem ok_cinit {f : Addr} {fd : FuncData} (F : Fun K "__init__" "Claim.__init__" sCInit f fd) (T : Txt K mg CC CL CN CW) : FnOk P w K mg base CX0 1 f fd ["self", "count", "node", "process", "name", "given_up"] (spCInit CC) := by
  refine F.ok scCI (fun vs H Q E h => ?_) (fun cdv A outer s H vs Q E hr h => ?_)
  · obtain ⟨p, dx, c, rfl, _⟩ := h
    rfl
  · obtain ⟨p, dx, c, rfl, hp, k⟩ := h
    refine ⟨_, pss_cons (ps_fld (pv 0) (pv 1) rfl) (pss_cons (ps_fld (pv 0) (pv 2) rfl) (pss_cons (ps_fld (pv 0) (pv 3) rfl) (pss_cons (ps_fld (pv 0) (pv 4) rfl) (pss_one (ps_fld (pv 0) (pv 5) rfl))))), ?_⟩
    refine ⟨_, rfl, _, rfl, p, CC, dx, [], rfl, hp, T.clC, T.cCount, (by show 0 < 1000; decide), ?_⟩
    refine ⟨_, rfl, _, rfl, p, CC, dx, _, rfl, upd_same, T.clC, T.cNode, (by show 1 < 1000; decide), ?_⟩
    refine ⟨_, rfl, _, rfl, p, CC, dx, _, rfl, upd_same, T.clC, T.cProc, (by show 2 < 1000; decide), ?_⟩
    refine ⟨_, rfl, _, rfl, p, CC, dx, _, rfl, upd_same, T.clC, T.cName, (by show 3 < 1000; decide), ?_⟩
    refine ⟨_, rfl, _, rfl, p, CC, dx, _, rfl, upd_same, T.clC, T.cGone, (by show 4 < 1000; decide), ?_⟩
    exact k _ ⟨dx, Eq.trans upd_same (congrArg (fun q => some (HO.ins CC dx q)) (cF_new c))⟩ fun b o e hb => by
      rw [upd_ne hb, upd_ne hb, upd_ne hb, upd_ne hb, upd_ne hb]; exact e
theorem scSt : FnScope ["self"] ["self"] (defScope sStamp) := ⟨rfl, rfl, rfl, by decide +kernel, rfl, by decide +kernel, by decide +kernel⟩
theorem ok_stamp {f : Addr} {fd : FuncData} (F : Fun K "stamp" "Claim.stamp" sStamp f fd) (T : Txt K mg CC CL CN CW) : FnOk P w K mg base CX0 1 f fd ["self"] (spStamp CC) := by
  refine F.ok scSt (fun vs H Q E h => ?_) (fun cdv A outer s H vs Q E hr h => ?_)
  · obtain ⟨a, c, rfl, _⟩ := h
    rfl
  · obtain ⟨a, c, rfl, ⟨dx, hc⟩, k⟩ := h
    refine ⟨_, pss_one (ps_ret (pe_tup (pa_cons (pe_fld (pv 0) rfl) (pa_cons (pe_fld (pv 0) rfl) pa_nil)))), ?_⟩
    refine ⟨_, rfl, a, CC, dx, _, _, rfl, hc, T.clC, T.cCount, cF_count c, _, rfl, a, CC, dx, _, _, rfl, hc, T.clC, T.cNode, cF_node c, (by show 2 ≤ sizeLine; decide), fun t ht => ?_⟩
    exact k t ht
theorem scWh : FnScope ["self"] ["self"] (defScope sWhen) := ⟨rfl, rfl, rfl, by decide +kernel, rfl, by decide +kernel, by decide +kernel⟩
theorem ok_when {f fI : Addr} {fd fdI : FuncData} (F : Fun K "when_given_up" "Claim.when_given_up" sWhen f fd) (T : Txt K mg CC CL CN CW) (M : Mk K CC fI) (FI : Fun K "__init__" "Claim.__init__" sCInit fI fdI) (bI : Binds K fdI ["self", "count", "node", "process", "name", "given_up"] []) : FnOk P w K mg base CX0 3 f fd ["self"] (spWhen CC) := by
  have GI : FnOk P w K mg base CX0 1 fI fdI _ (spCInit CC) := ok_cinit FI T
  refine F.ok scWh (fun vs H Q E h => ?_) (fun cdv A outer s H vs Q E hr h => ?_)
  · obtain ⟨a, c, rfl, _⟩ := h
    rfl
  · obtain ⟨a, c, rfl, ⟨dx, hc⟩, k⟩ := h
    refine ⟨_, pss_one (ps_ret (pe_make M GI hr rfl T.gC bI .nil pass0 (pa_cons (pe_fld (pv 0) rfl) (pa_cons (pe_fld (pv 0) rfl) (pa_cons (pe_fld (pv 0) rfl) (pa_cons (pe_fld (pv 0) rfl) (pa_cons pe_bl pa_nil))))))), ?_⟩
    refine ⟨_, rfl, a, CC, dx, _, _, rfl, hc, T.clC, T.cCount, cF_count c, _, rfl, a, CC, dx, _, _, rfl, hc, T.clC, T.cNode, cF_node c, _, rfl, a, CC, dx, _, _, rfl, hc, T.clC, T.cProc, cF_proc c, _, rfl, a, CC, dx, _, _, rfl, hc, T.clC, T.cName, cF_name c, ?_⟩
    intro x d nx nd ne
    refine ⟨x, d, { c with gone := true }, rfl, upd_same, fun H' hA kp => ⟨rfl, ?_⟩⟩
    exact k x H' nx (Same.made nx nd kp) hA
end
end NH
set_option Elab.async false
set_option linter.all false
set_option maxRecDepth 100000
set_option maxHeartbeats 4000000
namespace NH
open PySem PySem.Spec PyProof.Rows L2
abbrev sNInit : Stmt := inClass (top tN_) 0
abbrev sReaches : Stmt := inClass (top tN_) 1
abbrev sBegin : Stmt := inClass (top tN_) 2
abbrev sCease : Stmt := inClass (top tN_) 3
abbrev sStands : Stmt := inClass (top tN_) 4
abbrev sHolder : Stmt := inClass (top tN_) 5
abbrev sOwn : Stmt := inClass (top tN_) 6
/-! ### 12. A node's parts, changed one at a time -/
theorem NodeAt.ob_ne {CC CN : Addr} {H : Hp} {N : NA} {n : Nat} {x : Ha08.Node} (h : NodeAt CC CN H N n x) : N.a ≠ N.kl ∧ N.a ≠ N.rl ∧ N.a ≠ N.ld ∧ N.a ∉ N.ls := by
  obtain ⟨dx, ob⟩ := h.ob
  obtain ⟨as, ks, _⟩ := h.ks
  refine ⟨ne_of ob ks (by intro z; cases z), ne_of ob h.rs (by intro z; cases z), ne_of ob h.ds (by intro z; cases z), fun q => ?_⟩
  obtain ⟨⟨p, l⟩, he, e⟩ := List.mem_map.mp q
  obtain ⟨ts, hl, _⟩ := h.ls p l he
  exact ne_of ob hl (by intro z; cases z) e.symm
theorem NodeAt.ld_ne {CC CN : Addr} {H : Hp} {N : NA} {n : Nat} {x : Ha08.Node} (h : NodeAt CC CN H N n x) : N.ld ≠ N.kl ∧ N.ld ≠ N.rl ∧ N.ld ∉ N.ls := by
  obtain ⟨as, ks, _⟩ := h.ks
  refine ⟨ne_of h.ds ks (by intro z; cases z), ne_of h.ds h.rs (by intro z; cases z), fun q => ?_⟩
  obtain ⟨⟨p, l⟩, he, e⟩ := List.mem_map.mp q
  obtain ⟨ts, hl, _⟩ := h.ls p l he
  exact ne_of h.ds hl (by intro z; cases z) e.symm
theorem NodeAt.nds {CC CN : Addr} {H : Hp} {N : NA} {n : Nat} {x : Ha08.Node} (h : NodeAt CC CN H N n x) : N.kl ≠ N.rl ∧ N.kl ∉ N.ls ∧ N.rl ∉ N.ls ∧ N.ls.Nodup := by
  have := h.nd
  rw [List.nodup_cons, List.nodup_cons] at this
  obtain ⟨h1, h2, h3⟩ := this
  exact ⟨fun e => h1 (by simp [e]), fun q => h1 (by simp [q]), h2, h3⟩
theorem NodeAt.in_ls {N : NA} {p : Nat} {l : Addr} (h : (p, l) ∈ N.es) : l ∈ N.ls := List.mem_map.mpr ⟨(p, l), h, rfl⟩
theorem NodeAt.set_reach {CC CN : Addr} {H H' : Hp} {N : NA} {n : Nat} {x : Ha08.Node} {r : List Nat} (h : NodeAt CC CN H N n x) (hr : H' N.rl = some (.lst (natV r))) (s : Fr H H' [N.rl]) : NodeAt CC CN H' N n { x with reach := r } := by
  obtain ⟨a1, a2, a3, a4⟩ := h.ob_ne
  obtain ⟨b1, b2, b3⟩ := h.ld_ne
  obtain ⟨c1, c2, c3, c4⟩ := h.nds
  obtain ⟨dx, ob⟩ := h.ob
  obtain ⟨as, ks, kt⟩ := h.ks
  refine ⟨⟨dx, s _ _ ob (by simpa using a2)⟩, ⟨as, s _ _ ks (by simpa using c1), claims_keep kt s fun a c q => by simpa using q.not_lst h.rs⟩, hr, s _ _ h.ds (by simpa using b2), fun p l hl => ?_, h.no, h.nd, h.en, h.el⟩
  obtain ⟨ts, e, t⟩ := h.ls p l hl
  refine ⟨ts, s _ _ e ?_, t.imp fun a b q => s _ _ q ?_⟩
  · intro q
    simp at q
    exact c3 (q ▸ NodeAt.in_ls hl)
  · simpa using ne_of q h.rs (by intro z; cases z)
theorem NodeAt.set_claims {CC CN : Addr} {H H' : Hp} {N : NA} {n : Nat} {x : Ha08.Node} {as : List Addr} {cs : List Ha08.Claim} (h : NodeAt CC CN H N n x) (hr : H' N.kl = some (.lst (as.map V.ref))) (ht : Two (ClaimAt CC H') as cs) (s : Fr H H' [N.kl]) : NodeAt CC CN H' N n { x with claims := cs } := by
  obtain ⟨a1, a2, a3, a4⟩ := h.ob_ne
  obtain ⟨b1, b2, b3⟩ := h.ld_ne
  obtain ⟨c1, c2, c3, c4⟩ := h.nds
  obtain ⟨dx, ob⟩ := h.ob
  obtain ⟨bs, ks, kt⟩ := h.ks
  refine ⟨⟨dx, s _ _ ob (by simpa using a1)⟩, ⟨as, hr, ht⟩, s _ _ h.rs (by simpa using c1.symm), s _ _ h.ds (by simpa using b1), fun p l hl => ?_, h.no, h.nd, h.en, h.el⟩
  obtain ⟨ts, e, t⟩ := h.ls p l hl
  refine ⟨ts, s _ _ e ?_, t.imp fun a b q => s _ _ q ?_⟩
  · intro q
    simp at q
    exact c2 (q ▸ NodeAt.in_ls hl)
  · simpa using ne_of q ks (by intro z; cases z)
theorem NodeAt.set_count {CC CN : Addr} {H H' : Hp} {N : NA} {n ct : Nat} {x : Ha08.Node} {dx : Addr} (h : NodeAt CC CN H N n x) (hr : H' N.a = some (.ins CN dx (nF n ct N.kl N.rl N.ld))) (s : Fr H H' [N.a]) : NodeAt CC CN H' N n { x with count := ct } := by
  obtain ⟨a1, a2, a3, a4⟩ := h.ob_ne
  obtain ⟨bs, ks, kt⟩ := h.ks
  obtain ⟨dy, ob⟩ := h.ob
  refine ⟨⟨dx, hr⟩, ⟨bs, s _ _ ks (by simpa using a1.symm), claims_keep kt s fun a c q => ?_⟩, s _ _ h.rs (by simpa using a2.symm), s _ _ h.ds (by simpa using a3.symm), fun p l hl => ?_, h.no, h.nd, h.en, h.el⟩
  · have := h.claim_free q
    intro z
    simp at z
    exact this (by simp [NA.fp, z])
  obtain ⟨ts, e, t⟩ := h.ls p l hl
  refine ⟨ts, s _ _ e ?_, t.imp fun a b q => s _ _ q ?_⟩
  · intro q
    simp at q
    exact a4 (q ▸ NodeAt.in_ls hl)
  · simpa using ne_of q ob (by intro z; cases z)
/-- new things alone -/
theorem NodeAt.same {CC CN : Addr} {H H' : Hp} {N : NA} {n : Nat} {x : Ha08.Node} (h : NodeAt CC CN H N n x) (s : Same H H') : NodeAt CC CN H' N n x :=
  h.keep (f := []) (.same s) (fun _ _ => by simp) (fun _ _ _ => by simp) (fun _ _ _ => by simp)
theorem ClaimAt.same {CC : Addr} {H H' : Hp} {a : Addr} {c : Ha08.Claim} (h : ClaimAt CC H a c) (s : Same H H') : ClaimAt CC H' a c := by
  obtain ⟨dx, e⟩ := h
  exact ⟨dx, s _ _ e⟩
/-! ### 13. Node: fields -/
theorem nF_num (n ct : Nat) (kl rl ld : Addr) : (nF n ct kl rl ld).lookup ("number" : Str) = some (.int n) := lk_here
theorem nF_count (n ct : Nat) (kl rl ld : Addr) : (nF n ct kl rl ld).lookup ("count" : Str) = some (.int ct) := (lk_past (by decide +kernel)).trans lk_here
theorem nF_known (n ct : Nat) (kl rl ld : Addr) : (nF n ct kl rl ld).lookup ("known" : Str) = some (.ref kl) := (lk_past (by decide +kernel)).trans ((lk_past (by decide +kernel)).trans lk_here)
theorem nF_reached (n ct : Nat) (kl rl ld : Addr) : (nF n ct kl rl ld).lookup ("reached" : Str) = some (.ref rl) := (lk_past (by decide +kernel)).trans ((lk_past (by decide +kernel)).trans ((lk_past (by decide +kernel)).trans lk_here))
theorem nF_losses (n ct : Nat) (kl rl ld : Addr) : (nF n ct kl rl ld).lookup ("losses" : Str) = some (.ref ld) := (lk_past (by decide +kernel)).trans ((lk_past (by decide +kernel)).trans ((lk_past (by decide +kernel)).trans ((lk_past (by decide +kernel)).trans lk_here)))
theorem nF_none (n ct : Nat) (kl rl ld : Addr) {m : Str} (h1 : (m == "number") = false := by decide +kernel) (h2 : (m == "count") = false := by decide +kernel) (h3 : (m == "known") = false := by decide +kernel) (h4 : (m == "reached") = false := by decide +kernel) (h5 : (m == "losses") = false := by decide +kernel) : (nF n ct kl rl ld).lookup m = none :=
  (lk_past h1).trans ((lk_past h2).trans ((lk_past h3).trans ((lk_past h4).trans ((lk_past h5).trans rfl))))
theorem nF_new (n : Nat) (kl rl ld : Addr) : putF "losses" (.ref ld) (putF "reached" (.ref rl) (putF "known" (.ref kl) (putF "count" (.int 0) (putF "number" (.int n) [])))) = nF n 0 kl rl ld := rfl
theorem nF_put (n ct c' : Nat) (kl rl ld : Addr) : putF "count" (.int c') (nF n ct kl rl ld) = nF n c' kl rl ld := rfl
theorem inV_nat (m : Nat) (l : List Nat) : inV (.int m) (natV l) = l.contains m := by
  induction l with
  | nil => rfl
  | cons a l ih =>
    show (eqV (.int a) (.int m) || inV (.int m) (natV l)) = _
    rw [ih, List.contains_cons]
    congr 1
    show decide ((a : Int) = (m : Int)) = (m == a)
    by_cases h : a = m
    · subst h; simp
    · have : ¬ ((a : Int) = m) := by omega
      simp [this]
      exact fun q => h q.symm
theorem flat_nat (l : List Nat) : (natV l).all flatV = true := by
  induction l with
  | nil => rfl
  | cons a l ih => exact ih
/-! ### 14. Node: promises and bodies -/
def spReaches (CC CN : Addr) : Sp := fun vs H Q _ => ∃ (N : NA) (n m : Nat) (x : Ha08.Node), vs = [.ref N.a, .int m] ∧ NodeAt CC CN H N n x ∧ Q (.bl (x.reach.contains m)) H
def spBegin (CC CN : Addr) : Sp := fun vs H Q _ => ∃ (N : NA) (n m : Nat) (x : Ha08.Node), vs = [.ref N.a, .int m] ∧ NodeAt CC CN H N n x ∧ x.reach.length ≤ 1000 ∧
  ∀ H' : Hp, NodeAt CC CN H' N n { x with reach := if x.reach.contains m = true then x.reach else x.reach ++ [m] } → Fr H H' [N.rl] → Q .non H'
def spCease (CC CN : Addr) : Sp := fun vs H Q _ => ∃ (N : NA) (n m : Nat) (x : Ha08.Node), vs = [.ref N.a, .int m] ∧ NodeAt CC CN H N n x ∧ x.reach.Nodup ∧
  ∀ H' : Hp, NodeAt CC CN H' N n { x with reach := x.reach.filter fun k => k != m } → Fr H H' [N.rl] → Q .non H'
def spStands (CC CN : Addr) : Sp := fun vs H Q _ => ∃ (N : NA) (n : Nat) (x : Ha08.Node) (ca : Addr) (c : Ha08.Claim), vs = [.ref N.a, .ref ca] ∧ NodeAt CC CN H N n x ∧ ClaimAt CC H ca c ∧ Q (.bl (!c.gone && x.reach.contains c.node)) H
def spHolder (CC CN : Addr) : Sp := fun vs H Q _ => ∃ (N : NA) (n nm : Nat) (x : Ha08.Node), vs = [.ref N.a, .int nm] ∧ NodeAt CC CN H N n x ∧
  (∀ (ca : Addr) (c : Ha08.Claim), Ha08.holder x nm = some c → ClaimAt CC H ca c → Q (.ref ca) H) ∧ (Ha08.holder x nm = none → Q .non H)
def spOwn (CC CN : Addr) : Sp := fun vs H Q _ => ∃ (N : NA) (n : Nat) (x : Ha08.Node), vs = [.ref N.a] ∧ NodeAt CC CN H N n x ∧ x.claims.length ≤ 10000 ∧
  ∀ (l : Addr) (as : List Addr), H l = none → Two (ClaimAt CC H) as (NN.owns n x.claims) → Q (.ref l) (upd H l (.lst (as.map V.ref)))
section
variable {P : Program} {w : World} {K : PySem.W.Frag} {mg : Str → Option Value} {base : Heap} {CC CL CN CW : Addr}
theorem scRe : FnScope ["self", "other"] ["self", "other"] (defScope sReaches) := ⟨rfl, rfl, rfl, by decide +kernel, rfl, by decide +kernel, by decide +kernel⟩
theorem ok_reaches {f : Addr} {fd : FuncData} (F : Fun K "reaches" "Node.reaches" sReaches f fd) (T : Txt K mg CC CL CN CW) : FnOk P w K mg base CX0 1 f fd ["self", "other"] (spReaches CC CN) := by
  refine F.ok scRe (fun vs H Q E h => ?_) (fun cdv A outer s H vs Q E hr h => ?_)
  · obtain ⟨N, n, m, x, rfl, _⟩ := h
    rfl
  · obtain ⟨N, n, m, x, rfl, hN, k⟩ := h
    obtain ⟨dx, ob⟩ := hN.ob
    refine ⟨_, pss_one (ps_ret (pe_cmpR op_in_seq (pv 1) (pe_fld (pv 0) rfl) rfl)), ?_⟩
    refine ⟨_, rfl, _, rfl, N.a, CN, dx, _, _, rfl, ob, T.clN, T.nReached, nF_reached _ _ _ _ _, N.rl, natV x.reach, rfl, .inl (SqL.of hN.rs), rfl, flat_nat _, ?_⟩
    rw [inV_nat]
    exact k
theorem scBe : FnScope ["self", "other"] ["self", "other"] (defScope sBegin) := ⟨rfl, rfl, rfl, by decide +kernel, rfl, by decide +kernel, by decide +kernel⟩
theorem ok_begin {f : Addr} {fd : FuncData} (F : Fun K "begin_to_reach" "Node.begin_to_reach" sBegin f fd) (T : Txt K mg CC CL CN CW) : FnOk P w K mg base CX0 1 f fd ["self", "other"] (spBegin CC CN) := by
  refine F.ok scBe (fun vs H Q E h => ?_) (fun cdv A outer s H vs Q E hr h => ?_)
  · obtain ⟨N, n, m, x, rfl, _⟩ := h
    rfl
  · obtain ⟨N, n, m, x, rfl, hN, hl, k⟩ := h
    obtain ⟨dx, ob⟩ := hN.ob
    refine ⟨_, pss_one (ps_if (pt_cmpR op_notIn_seq (pv 1) (pe_fld (pv 0) rfl) rfl)
      (pss_one (ps_expr (pe_bm PySem.F.plainAttrs_list PySem.F.slot_list_append PySem.F.type_list_append mt_append (pe_fld (pv 0) rfl) (pa_cons (pv 1) pa_nil)))) pss_nil), ?_⟩
    refine ⟨_, rfl, _, rfl, N.a, CN, dx, _, _, rfl, ob, T.clN, T.nReached, nF_reached _ _ _ _ _, N.rl, natV x.reach, rfl, .inl (SqL.of hN.rs), rfl, flat_nat _, _, rfl, ?_⟩
    show if (!inV (.int m) (natV x.reach)) = true then _ else _
    rw [inV_nat]
    cases e : x.reach.contains m with
    | true =>
      rw [e] at k
      exact iteF (k H hN (Fr.refl _ _))
    | false =>
      rw [e] at k
      refine iteT ?_
      refine ⟨_, rfl, N.a, CN, dx, _, _, rfl, ob, T.clN, T.nReached, nF_reached _ _ _ _ _, .inl ⟨rfl, _, SqL.of hN.rs⟩, _, rfl, N.rl, _, _, rfl, rfl, hN.rs, ?_, ?_⟩
      · show (natV x.reach).length < sizeLine
        unfold natV
        rw [List.length_map]
        exact small1000 hl
      · have e2 : natV x.reach ++ [V.int m] = natV (x.reach ++ [m]) := by simp [natV]
        refine k _ (hN.set_reach ?_ (fr_upd (by simp))) (fr_upd (by simp))
        rw [upd_same, e2]
        rfl
theorem erase_first : ∀ (l : List Nat) (m j : Nat), l.Nodup → l[j]? = some m → l.eraseIdx j = l.filter fun k => k != m
  | [], _, _, _, h => by simp at h
  | a :: l, m, 0, hn, h => by
    simp at h
    subst h
    rw [List.nodup_cons] at hn
    have : l.filter (fun k => k != a) = l := List.filter_eq_self.mpr fun b hb => by
      simp
      rintro rfl
      exact hn.1 hb
    simp [this]
  | a :: l, m, j + 1, hn, h => by
    rw [List.nodup_cons] at hn
    have hm : m ∈ l := List.mem_of_getElem? (i := j) (by simpa using h)
    have ih := erase_first l m j hn.2 (by simpa using h)
    have : a ≠ m := by rintro rfl; exact hn.1 hm
    simp [ih, this]
theorem natV_at {l : List Nat} {j m : Nat} : (natV l)[j]? = some (V.int m) ↔ l[j]? = some m := by
  unfold natV
  rw [List.getElem?_map]
  cases l[j]? with
  | none => simp
  | some a => simp; omega
theorem map_erase {A B : Type} (g : A → B) : ∀ (l : List A) (j : Nat), (l.eraseIdx j).map g = (l.map g).eraseIdx j
  | [], _ => rfl
  | _ :: _, 0 => rfl
  | a :: l, j + 1 => congrArg (g a :: ·) (map_erase g l j)
theorem scCe : FnScope ["self", "other"] ["self", "other"] (defScope sCease) := ⟨rfl, rfl, rfl, by decide +kernel, rfl, by decide +kernel, by decide +kernel⟩
theorem ok_cease {f : Addr} {fd : FuncData} (F : Fun K "cease_to_reach" "Node.cease_to_reach" sCease f fd) (T : Txt K mg CC CL CN CW) : FnOk P w K mg base CX0 1 f fd ["self", "other"] (spCease CC CN) := by
  refine F.ok scCe (fun vs H Q E h => ?_) (fun cdv A outer s H vs Q E hr h => ?_)
  · obtain ⟨N, n, m, x, rfl, _⟩ := h
    rfl
  · obtain ⟨N, n, m, x, rfl, hN, hl, k⟩ := h
    obtain ⟨dx, ob⟩ := hN.ob
    refine ⟨_, pss_one (ps_if (pt_cmpR op_in_seq (pv 1) (pe_fld (pv 0) rfl) rfl)
      (pss_one (ps_expr (pe_bm PySem.F.plainAttrs_list PySem.F.slot_list_remove PySem.F.type_list_remove mt_remove (pe_fld (pv 0) rfl) (pa_cons (pv 1) pa_nil)))) pss_nil), ?_⟩
    refine ⟨_, rfl, _, rfl, N.a, CN, dx, _, _, rfl, ob, T.clN, T.nReached, nF_reached _ _ _ _ _, N.rl, natV x.reach, rfl, .inl (SqL.of hN.rs), rfl, flat_nat _, _, rfl, ?_⟩
    show if inV (.int m) (natV x.reach) = true then _ else _
    rw [inV_nat]
    cases e : x.reach.contains m with
    | false =>
      refine iteF ?_
      have hm : m ∉ x.reach := by simpa using e
      have : x.reach.filter (fun k => k != m) = x.reach := List.filter_eq_self.mpr fun b hb => by
        simp
        rintro rfl
        exact hm hb
      rw [this] at k
      exact k H hN (Fr.refl _ _)
    | true =>
      refine iteT ?_
      have hm : m ∈ x.reach := by simpa using e
      obtain ⟨j, hj⟩ := List.getElem?_of_mem hm
      have en : natV x.reach = (x.reach.map fun (a : Nat) => (a : Int)).map V.int := by simp [natV]
      refine ⟨_, rfl, N.a, CN, dx, _, _, rfl, ob, T.clN, T.nReached, nF_reached _ _ _ _ _, .inl ⟨rfl, _, SqL.of hN.rs⟩, _, rfl, N.rl, x.reach.map fun (a : Nat) => (a : Int), m, j, rfl, rfl, (by rw [← en]; exact hN.rs), ?_, ?_, ?_⟩
      · rw [List.getElem?_map, hj]; rfl
      · intro i hi q
        rw [List.getElem?_map] at q
        cases ei : x.reach[i]? with
        | none => rw [ei] at q; cases q
        | some a =>
          rw [ei] at q
          have ea : a = m := by
            have : (a : Int) = (m : Int) := Option.some.inj q
            omega
          subst ea
          have := nd_ix hl ei hj
          omega
      · refine k _ (hN.set_reach ?_ (fr_upd (by simp))) (fr_upd (by simp))
        rw [upd_same, ← erase_first x.reach m j hl hj]
        unfold natV
        rw [map_erase, map_erase, List.map_map]
        rfl
theorem scSd : FnScope ["self", "claim"] ["self", "claim"] (defScope sStands) := ⟨rfl, rfl, rfl, by decide +kernel, rfl, by decide +kernel, by decide +kernel⟩
theorem ok_stands {f fR : Addr} {fd fdR : FuncData} (F : Fun K "stands" "Node.stands" sStands f fd) (T : Txt K mg CC CL CN CW) (FR : Fun K "reaches" "Node.reaches" sReaches fR fdR) (bR : Binds K fdR ["self", "other"] []) (mR : Meth K CN "reaches" fR) : FnOk P w K mg base CX0 2 f fd ["self", "claim"] (spStands CC CN) := by
  have GR : FnOk P w K mg base CX0 1 fR fdR _ (spReaches CC CN) := ok_reaches FR T
  refine F.ok scSd (fun vs H Q E h => ?_) (fun cdv A outer s H vs Q E hr h => ?_)
  · obtain ⟨N, n, x, ca, c, rfl, _⟩ := h
    rfl
  · obtain ⟨N, n, x, ca, c, rfl, hN, ⟨dc, hc⟩, k⟩ := h
    obtain ⟨dx, ob⟩ := hN.ob
    refine ⟨_, pss_one (ps_ret (pe_and (pe_not (pe_fld (pv 1) rfl)) (pe_one (pe_meth (pv 0) T.clN mR GR hr bR .nil pass0 (pa_cons (pe_fld (pv 1) rfl) pa_nil))))), ?_⟩
    refine ⟨_, rfl, ca, CC, dc, _, _, rfl, hc, T.clC, T.cGone, cF_gone c, c.gone, rfl, !c.gone, rfl, ?_⟩
    cases e : c.gone with
    | true =>
      rw [e] at k
      exact iteF k
    | false =>
      rw [e] at k
      refine iteT ?_
      exact ⟨_, rfl, N.a, dx, _, rfl, ob, nF_none _ _ _ _ _, _, rfl, ca, CC, dc, _, _, rfl, hc, T.clC, T.cNode, cF_node c, N, n, c.node, x, rfl, hN, k⟩
end
end NH
set_option Elab.async false
set_option linter.all false
set_option maxRecDepth 100000
set_option maxHeartbeats 4000000
namespace NH
open PySem PySem.Spec PyProof.Rows L2
theorem take_snoc {α : Type} : ∀ {l : List α} {i : Nat} {x : α}, l[i]? = some x → l.take (i + 1) = l.take i ++ [x]
  | [], i, x, h => by simp at h
  | a :: l, 0, x, h => by
    have e : a = x := Option.some.inj h
    subst e
    rfl
  | a :: l, i + 1, x, h => by
    have ih := take_snoc (l := l) (i := i) (x := x) h
    show a :: l.take (i + 1) = a :: l.take i ++ [x]
    rw [ih]
    rfl
theorem iteY {c : Bool} {A B : Prop} (hc : c = true) (h : A) : if c = true then A else B := by
  rw [if_pos hc]
  exact h
theorem iteN {c : Bool} {A B : Prop} (hc : c = false) (h : B) : if c = true then A else B := by
  rw [hc, if_neg Bool.false_ne_true]
  exact h
theorem eqI_true {a b : Nat} (h : a = b) : decide (V.int (a : Int) = V.int (b : Int)) = true := by rw [h]; simp
theorem eqI_false {a b : Nat} (h : ¬ a = b) : decide (V.int (a : Int) = V.int (b : Int)) = false := by
  simp
  omega
/-- an item of a list of addresses -/
theorem ref_at {as : List Addr} {i : Nat} {y : V} (h : (as.map V.ref)[i]? = some y) : ∃ c, as[i]? = some c ∧ y = V.ref c := by
  rw [List.getElem?_map] at h
  cases e : as[i]? with
  | none => rw [e] at h; cases h
  | some c => rw [e] at h; exact ⟨c, rfl, (Option.some.inj h).symm⟩
theorem at_ref {as : List Addr} {i : Nat} {c : Addr} (h : as[i]? = some c) : (as.map V.ref)[i]? = some (V.ref c) := by
  rw [List.getElem?_map, h]
  rfl
/-! ### the holder -/
theorem standing_app {x : Ha08.Node} {nm : Nat} {l : List Ha08.Claim} {c : Ha08.Claim} (h : (c.name == nm && (!c.gone && x.reach.contains c.node)) = false) :
    ((l ++ [c]).filter fun c => c.name == nm && (!c.gone && x.reach.contains c.node)) = l.filter fun c => c.name == nm && (!c.gone && x.reach.contains c.node) := by
  rw [List.filter_append, List.filter_cons, h]
  simp
theorem holder_hit {x : Ha08.Node} {nm i : Nat} {c : Ha08.Claim} (h : ((x.claims.take i).filter fun c => c.name == nm && (!c.gone && x.reach.contains c.node)) = []) (hi : x.claims[i]? = some c) (hc : (c.name == nm && (!c.gone && x.reach.contains c.node)) = true) : Ha08.holder x nm = some c := by
  unfold Ha08.holder Ha08.standing
  have e : x.claims = x.claims.take i ++ (c :: x.claims.drop (i + 1)) := by
    conv => lhs; rw [← List.take_append_drop i x.claims]
    congr 1
    obtain ⟨hl, e⟩ := List.getElem?_eq_some_iff.mp hi
    rw [List.drop_eq_getElem_cons hl, e]
  rw [e, List.filter_append, h, List.filter_cons, hc]
  rfl
section
variable {P : Program} {w : World} {K : PySem.W.Frag} {mg : Str → Option Value} {base : Heap} {CC CL CN CW : Addr}
theorem scHo : FnScope ["self", "name", "claim"] ["self", "name"] (defScope sHolder) := ⟨rfl, rfl, rfl, by decide +kernel, rfl, by decide +kernel, by decide +kernel⟩
theorem ok_holder {f fS : Addr} {fd fdS : FuncData} (F : Fun K "holder" "Node.holder" sHolder f fd) (T : Txt K mg CC CL CN CW) (GS : FnOk P w K mg base CX0 2 fS fdS ["self", "claim"] (spStands CC CN)) (bS : Binds K fdS ["self", "claim"] []) (mS : Meth K CN "stands" fS) : FnOk P w K mg base CX0 3 f fd ["self", "name"] (spHolder CC CN) := by
  refine F.ok scHo (fun vs H Q E h => ?_) (fun cdv A outer s H vs Q E hr h => ?_)
  · obtain ⟨N, n, nm, x, rfl, _⟩ := h
    rfl
  · obtain ⟨N, n, nm, x, rfl, hN, k1, k2⟩ := h
    obtain ⟨dx, ob⟩ := hN.ob
    obtain ⟨as, hk, kt⟩ := hN.ks
    refine ⟨_, pss_cons (ps_for PassesOwn.never rfl (pi_list (pe_fld (pv 0) rfl)) (pg_name (i := 2) scHo.nd rfl (Or.inl rfl))
        (pss_one (ps_if (PW.pt (pw_and (pt_cmpR op_eq (pe_fld (pv 2) rfl) (pv 1) (nomark _)) (pw_and1 (pt_val (pe_meth (pv 0) T.clN mS GS hr bS .nil pass0 (pa_cons (pv 2) pa_nil))))))
          (pss_one (ps_ret (pv 2))) pss_nil)))
      (pss_one (ps_ret pe_non)), ?_⟩
    refine ⟨_, rfl, N.a, CN, dx, _, _, rfl, ob, T.clN, T.nKnown, nF_known _ _ _ _ _, N.kl, rfl, ⟨_, SqL.of hk⟩, for_list (K := K) (a := N.kl) (xs := as.map V.ref)
      (fun i σ H' => ∃ v : Option V, σ = [some (.ref N.a), some (.int nm), v] ∧ H' = H ∧ ((x.claims.take i).filter fun c => c.name == nm && (!c.gone && x.reach.contains c.node)) = [])
      ⟨none, rfl, rfl, rfl⟩ (fun i σ H' _ ⟨_, _, e, _⟩ => by rw [e]; exact SqL.of hk) ?_ ?_⟩
    · rintro i y σ H' hi ⟨v, rfl, rfl, hf⟩
      obtain ⟨ca, hca, rfl⟩ := ref_at hi
      obtain ⟨c, hc, hcl⟩ := kt.get hca
      obtain ⟨dc, hcd⟩ := hcl
      refine ⟨_, rfl, ca, CC, dc, _, _, rfl, hcd, T.clC, T.cName, cF_name c, _, rfl, rfl, _, rfl, ?_⟩
      have next : (c.name == nm && (!c.gone && x.reach.contains c.node)) = false → ((x.claims.take (i + 1)).filter fun c => c.name == nm && (!c.gone && x.reach.contains c.node)) = [] := fun q => by
        rw [take_snoc hc, standing_app q, hf]
      by_cases hn : c.name = nm
      · refine iteY (eqI_true hn) ?_
        refine ⟨_, rfl, N.a, dx, _, rfl, ob, nF_none _ _ _ _ _, _, rfl, N, n, x, ca, c, rfl, hN, ⟨dc, hcd⟩, _, rfl, ?_⟩
        cases e : (!c.gone && x.reach.contains c.node) with
        | true =>
          refine iteT ?_
          refine ⟨_, rfl, ?_⟩
          exact k1 ca c (holder_hit hf hc (by rw [e]; simp [hn])) ⟨dc, hcd⟩
        | false =>
          refine iteF ?_
          exact ⟨_, rfl, rfl, next (by rw [e]; simp)⟩
      · refine iteN (eqI_false hn) ?_
        refine iteF ?_
        exact ⟨_, rfl, rfl, next (by simp [hn])⟩
    · rintro σ H' ⟨v, rfl, rfl, hf⟩
      refine k2 ?_
      rw [List.length_map, kt.len, List.take_length] at hf
      unfold Ha08.holder Ha08.standing
      rw [hf]
      rfl
/-! ### a node's own -/
theorem scOw : FnScope ["self", "claim"] ["self"] (defScope sOwn) := ⟨rfl, rfl, rfl, by decide +kernel, rfl, by decide +kernel, by decide +kernel⟩
theorem owns_snoc {n : Nat} {l : List Ha08.Claim} {c : Ha08.Claim} : NN.owns n (l ++ [c]) = if (c.node == n && !c.gone) = true then NN.owns n l ++ [c] else NN.owns n l := by
  unfold NN.owns
  rw [List.filter_append, List.filter_cons]
  split <;> simp
theorem ok_own {f : Addr} {fd : FuncData} (F : Fun K "own_claims" "Node.own_claims" sOwn f fd) (T : Txt K mg CC CL CN CW) : FnOk P w K mg base CX0 1 f fd ["self"] (spOwn CC CN) := by
  refine F.ok scOw (fun vs H Q E h => ?_) (fun cdv A outer s H vs Q E hr h => ?_)
  · obtain ⟨N, n, x, rfl, _⟩ := h
    rfl
  · obtain ⟨N, n, x, rfl, hN, hlen, k⟩ := h
    obtain ⟨dx, ob⟩ := hN.ob
    obtain ⟨as, hk, kt⟩ := hN.ks
    refine ⟨_, pss_one (ps_ret (pe_lc (own := [("claim", 1)]) (g := gName 1) (tt := tAnd (tTest (tOp rEq (tFld K (tVar 1) "node") (tFld K (tVar 0) "number"))) (tNot (tB (tFld K (tVar 1) "given_up")))) (te := tVar 1) rfl scOw.nd (pi_list (pe_fld (pv 0) rfl)) (blkOk_by (N := ["self", "claim"]) (sc := defScope sOwn) (by decide +kernel))
      (fun _ _ _ _ _ => pg_name (i := 1) scOw.nd rfl (Or.inl rfl))
      (fun _ _ _ _ _ => pts_one (PW.pt (pw_and (pt_cmpR op_eq (pe_fld (pv 1) rfl) (pe_fld (pv 0) rfl) (nomark _)) (pw_and1 (pt_not (pt_val (pe_fld (pv 1) rfl)))))))
      (fun _ _ _ _ _ => pv 1))), ?_⟩
    refine ⟨_, rfl, N.a, CN, dx, _, _, rfl, ob, T.clN, T.nKnown, nF_known _ _ _ _ _, N.kl, rfl, ⟨_, SqL.of hk⟩, fun D hD => ?_⟩
    have sm : ∀ {o : HO}, Same H (upd H D o) := fun {o} => same_new hD
    refine lc_list (K := K) (a := N.kl) (xs := as.map V.ref) (fun i H' => ∃ bs : List Addr, H' = upd H D (.lst (bs.map V.ref)) ∧ Two (ClaimAt CC H) bs (NN.owns n (x.claims.take i)))
      ⟨[], rfl, .nil⟩ (fun i H' _ ⟨bs, e, _⟩ => by rw [e]; exact sm.seq (SqL.of hk)) ?_ ?_
    · rintro i y H' hi ⟨bs, rfl, tb⟩
      obtain ⟨ca, hca, rfl⟩ := ref_at hi
      obtain ⟨c, hc, hcl⟩ := kt.get hca
      obtain ⟨dc, hcd⟩ := hcl
      refine ⟨rfl, ?_⟩
      refine ⟨_, rfl, ca, CC, dc, _, _, rfl, sm _ _ hcd, T.clC, T.cNode, cF_node c, _, rfl, N.a, CN, dx, _, _, rfl, sm _ _ ob, T.clN, T.nNum, nF_num _ _ _ _ _, rfl, _, rfl, ?_⟩
      have hb : bs.length ≤ 10000 := by
        rw [tb.len]
        have h1 := (NN.owns_sub n (x.claims.take i)).length_le
        rw [List.length_take] at h1
        omega
      by_cases hn : c.node = n
      · refine iteY (eqI_true hn) ?_
        refine ⟨_, rfl, ca, CC, dc, _, _, rfl, sm _ _ hcd, T.clC, T.cGone, cF_gone c, _, rfl, ?_⟩
        cases e : c.gone with
        | false =>
          refine iteT ?_
          refine ⟨_, rfl, _, upd_same, ?_, bs ++ [ca], ?_, ?_⟩
          · rw [List.length_map]
            exact Nat.lt_of_le_of_lt hb (by decide)
          · rw [upd_upd, List.map_append]
            rfl
          · rw [take_snoc hc, owns_snoc, if_pos (by simp [hn, e])]
            exact tb.append (.one ⟨dc, hcd⟩)
        | true =>
          refine iteF ?_
          refine ⟨bs, rfl, ?_⟩
          rw [take_snoc hc, owns_snoc, if_neg (by simp [hn, e])]
          exact tb
      · refine iteN (eqI_false hn) ?_
        refine iteF ?_
        refine ⟨bs, rfl, ?_⟩
        rw [take_snoc hc, owns_snoc, if_neg (by simp [hn])]
        exact tb
    · rintro H' ⟨bs, rfl, tb⟩
      rw [List.length_map, kt.len, List.take_length] at tb
      exact k D bs hD tb
end
end NH
set_option Elab.async false
set_option linter.all false
set_option maxRecDepth 100000
set_option maxHeartbeats 4000000
namespace NH
open PySem PySem.Spec PyProof.Rows L2
abbrev sLearn : Stmt := inClass (top tN_) 8
/-! ### learning -/
theorem lex_elder (a b : Ha08.Claim) : HT.lexLt [(a.count : Int), (a.node : Int)] [(b.count : Int), (b.node : Int)] = Ha08.elder a b := by
  unfold Ha08.elder
  simp only [HT.lexLt]
  by_cases h : a.count = b.count
  · rw [h]
    by_cases h2 : a.node = b.node
    · simp [h2]
    · have : ¬ ((a.node : Int) = (b.node : Int)) := by omega
      simp [this]
  · have : ¬ ((a.count : Int) = (b.count : Int)) := by omega
    simp [this, h]
theorem eqv_same (a b : Ha08.Claim) : PyData.eqv (.tuple [.int a.count, .int a.node]) (.tuple [.int b.count, .int b.node]) = Ha08.same a b := by
  unfold Ha08.same
  have e : PyData.eqv (.tuple [.int (a.count : Int), .int (a.node : Int)]) (.tuple [.int (b.count : Int), .int (b.node : Int)]) = (((a.count : Int) == (b.count : Int)) && (((a.node : Int) == (b.node : Int)) && true)) := by
    simp [PyData.eqv, PyData.eqvAll]
  rw [e]
  by_cases h : a.count = b.count
  · by_cases h2 : a.node = b.node
    · simp [h, h2]
    · have : ((a.node : Int) == (b.node : Int)) = false := by simp; omega
      have h3 : (a.node == b.node) = false := by simp [h2]
      rw [this, h3]
      simp
  · have : ((a.count : Int) == (b.count : Int)) = false := by simp; omega
    have h3 : (a.count == b.count) = false := by simp [h]
    rw [this, h3]
    rfl
/-- what stands behind a loop with two ends, said once -/
theorem by_tail {R C : Hp → Prop} {G : Prop} (tail : ∀ H2, C H2 → R H2) (main : (∀ H2, C H2 → R H2) → G) : G := main tail
theorem dp_stamp {K : PySem.W.Frag} {H : Hp} {t : Addr} {i j : Int} (h : H t = some (.tup [.int i, .int j])) : Dp K H (.ref t) (.tuple [.int i, .int j]) := .tup (SqT.of h) (.cons (.int _) (.cons (.int _) .nil))
def spLearn (CC CN : Addr) : Sp := fun vs H Q _ => ∃ (N : NA) (n : Nat) (x : Ha08.Node) (ca : Addr) (c : Ha08.Claim) (g : Nat → Nat → Nat × Nat), vs = [.ref N.a, .ref ca] ∧ NodeAt CC CN H N n x ∧ ClaimAt CC H ca c ∧ NN.Kn g x.claims ∧ NN.Agr g c ∧ x.claims.length ≤ 10000 ∧
  ∀ H' : Hp, NodeAt CC CN H' N n { x with claims := Ha08.learn c x.claims } → Fr H H' [N.kl] → Q .non H'
section
variable {P : Program} {w : World} {K : PySem.W.Frag} {mg : Str → Option Value} {base : Heap} {CC CL CN CW : Addr}
theorem scLe : FnScope ["self", "claim", "place"] ["self", "claim"] (defScope sLearn) := ⟨rfl, rfl, rfl, by decide +kernel, rfl, by decide +kernel, by decide +kernel⟩
theorem ok_learn {f fS : Addr} {fd fdS : FuncData} (F : Fun K "learn" "Node.learn" sLearn f fd) (T : Txt K mg CC CL CN CW) (GS : FnOk P w K mg base CX0 1 fS fdS ["self"] (spStamp CC)) (bS : Binds K fdS ["self"] []) (mS : Meth K CC "stamp" fS) : FnOk P w K mg base CX0 2 f fd ["self", "claim"] (spLearn CC CN) := by
  refine F.ok scLe (fun vs H Q E h => ?_) (fun cdv A outer s H vs Q E hr h => ?_)
  · obtain ⟨N, n, x, ca, c, g, rfl, _⟩ := h
    rfl
  · obtain ⟨N, n, x, ca, c, g, rfl, hN, ⟨dc, hca⟩, hkn, hag, hlen, k⟩ := h
    obtain ⟨dx, ob⟩ := hN.ob
    obtain ⟨as, hk, kt⟩ := hN.ks
    refine ⟨_, pss_cons (ps_set (i := 2) scLe.nd rfl (Or.inl rfl) pe_int)
      (pss_cons (ps_while PassesOwn.never (PW.pt (pw_and (pt_cmpR op_lt (pv 2) (pe_callB call_len_seq (by rfl) T.len PySem.boot_len (pa_cons (pe_fld (pv 0) rfl) pa_nil)) (nomark _))
          (pw_and1 (pt_cmpR (op_ltT hr.units0) (pe_meth0 (pe_ix ix_list (pe_fld (pv 0) rfl) (pv 2) (fun _ _ => rfl)) T.clC mS GS hr bS .nil pass0) (pe_meth0 (pv 1) T.clC mS GS hr bS .nil pass0) (nomark _)))))
        (pss_one (ps_set (i := 2) scLe.nd rfl (Or.inl rfl) (pe_op op_add (pv 2) pe_int))))
      (pss_one (ps_if (PW.pt (pw_or (pt_cmpR op_eq (pv 2) (pe_callB call_len_seq (by rfl) T.len PySem.boot_len (pa_cons (pe_fld (pv 0) rfl) pa_nil)) (nomark _))
          (pw_or1 (pt_cmpR (op_neD hr.units) (pe_meth0 (pe_ix ix_list (pe_fld (pv 0) rfl) (pv 2) (fun _ _ => rfl)) T.clC mS GS hr bS .nil pass0) (pe_meth0 (pv 1) T.clC mS GS hr bS .nil pass0) (nomark _)))))
        (pss_one (ps_expr (pe_bm PySem.F.plainAttrs_list PySem.F.slot_list_insert PySem.F.type_list_insert mt_insert (pe_fld (pv 0) rfl) (pa_cons (pv 2) (pa_cons (pv 1) pa_nil)))))
        (pss_one (ps_if (pt_val (pe_fld (pv 1) rfl)) (pss_one (ps_asg (pv 1) (pg_sub (pe_fld (pv 0) rfl) (pv 2) set_list))) pss_nil))))), ?_⟩
    refine ⟨fun m σ H' => ∃ p : Nat, p ≤ as.length ∧ m = as.length - p ∧ σ = [some (.ref N.a), some (.ref ca), some (.int p)] ∧ Same H H' ∧ ∀ y ∈ x.claims.take p, Ha08.elder y c = true, ⟨_, 0, Nat.zero_le _, rfl, rfl, Same.refl H, fun y q => by simp at q⟩, ?_⟩
    rintro m σ H1 ⟨p, hp, rfl, rfl, sm, hold⟩
    have kt1 : ∀ {H2 : Hp}, Same H H2 → Two (ClaimAt CC H2) as x.claims := fun s2 => kt.imp fun a b q => q.same s2
    have el : as.length = x.claims.length := kt.len
    refine' by_tail (C := fun H2 => Same H H2 ∧ (p = as.length ∨ ∃ y, x.claims[p]? = some y ∧ Ha08.elder y c = false)) ?tail fun fin => ?main
    case main =>
      refine ⟨_, rfl, _, rfl, N.a, CN, dx, _, _, rfl, sm _ _ ob, T.clN, T.nKnown, nF_known _ _ _ _ _, N.kl, _, rfl, .inl (SqL.of (sm _ _ hk)), _, _, rfl, rfl, _, rfl, ?_⟩
      rw [List.length_map]
      by_cases hlt : ¬ p < as.length
      · refine iteN (by simp; omega) ?_
        exact iteF (fin H1 ⟨sm, Or.inl (by omega)⟩)
      · have hlt : p < as.length := Nat.lt_of_not_le fun q => hlt (by omega)
        refine iteY (by simp; omega) ?_
        obtain ⟨pa, hpa⟩ : ∃ pa, as[p]? = some pa := ⟨_, List.getElem?_eq_getElem hlt⟩
        obtain ⟨y, hy, hya⟩ := (kt1 sm).get hpa
        obtain ⟨dy, hyd⟩ := hya
        refine ⟨_, rfl, N.a, CN, dx, _, _, rfl, sm _ _ ob, T.clN, T.nKnown, nF_known _ _ _ _ _, _, rfl, N.kl, _, _, _, rfl, rfl, SqL.of (sm _ _ hk), at_of rfl (at_ref hpa), pa, dy, _, rfl, hyd, cF_none y, pa, y, rfl, ⟨dy, hyd⟩, fun t1 ht1 => ?_⟩
        have s1 := sm.trans (same_new (o := .tup [.int y.count, .int y.node]) ht1)
        refine ⟨_, rfl, ca, dc, _, rfl, s1 _ _ hca, cF_none c, ca, c, rfl, ⟨dc, s1 _ _ hca⟩, fun t2 ht2 => ?_⟩
        have s2 := s1.trans (same_new (o := .tup [.int c.count, .int c.node]) ht2)
        refine ⟨t1, t2, [(y.count : Int), (y.node : Int)], [(c.count : Int), (c.node : Int)], rfl, rfl, SqT.of ?_, SqT.of upd_same, _, rfl, ?_⟩
        · rw [upd_ne (ne_of_none upd_same ht2), upd_same]
          rfl
        rw [lex_elder]
        cases e : Ha08.elder y c with
        | true =>
          refine iteT ?_
          refine ⟨fun σ' H' => σ' = [some (.ref N.a), some (.ref ca), some (.int (p + 1 : Nat))] ∧ Same H H', fun σ' H' ⟨e1, e2⟩ => ⟨as.length - (p + 1), by omega, p + 1, hlt, rfl, e1, e2, fun z hz => ?_⟩, ?_⟩
          · rw [take_snoc hy] at hz
            rcases List.mem_append.mp hz with hz | hz
            · exact hold z hz
            · simp at hz
              rw [hz]
              exact e
          · exact ⟨_, rfl, _, _, rfl, rfl, rfl, s2⟩
        | false =>
          exact iteF (fin _ ⟨s2, Or.inr ⟨y, hy, e⟩⟩)
    case tail =>
      rintro H2 ⟨sm2, hstop⟩
      have ins : ∀ H3 : Hp, Same H H3 → (x.claims.length ≤ p ∨ ∃ y, x.claims[p]? = some y ∧ Ha08.elder y c = false ∧ Ha08.same y c = false) → Q .non (upd H3 N.kl (.lst ((as.map V.ref).take p ++ [V.ref ca] ++ (as.map V.ref).drop p))) := fun H3 sm3 hq => by
        have f : Fr H (upd H3 N.kl (.lst ((as.map V.ref).take p ++ [V.ref ca] ++ (as.map V.ref).drop p))) [N.kl] := (Fr.same sm3).upd (by simp)
        have e : (as.map V.ref).take p ++ [V.ref ca] ++ (as.map V.ref).drop p = (as.take p ++ [ca] ++ as.drop p).map V.ref := by simp
        refine k _ (hN.set_claims (as := as.take p ++ [ca] ++ as.drop p) ?_ ?_ f) f
        · rw [upd_same, e]
        · rw [NN.learn_ins x.claims p hold hq]
          refine Two.imp (R := ClaimAt CC H) (fun a b q => q.keep f (by simpa using q.not_lst hk)) ?_
          exact ((kt.take p).append (.one ⟨dc, hca⟩)).append (kt.drop p)
      refine ⟨_, rfl, _, rfl, N.a, CN, dx, _, _, rfl, sm2 _ _ ob, T.clN, T.nKnown, nF_known _ _ _ _ _, N.kl, _, rfl, .inl (SqL.of (sm2 _ _ hk)), rfl, _, rfl, ?_⟩
      rw [List.length_map]
      have hsz : (as.map V.ref).length < sizeLine := by rw [List.length_map]; exact Nat.lt_of_le_of_lt (show as.length ≤ 10000 by omega) (by decide)
      have hp63 : (p : Int) < 2 ^ 63 := Int.lt_of_le_of_lt (show (p : Int) ≤ 10000 by omega) (by decide)
      by_cases hpe : p = as.length
      · refine iteY (eqI_true hpe) ?_
        refine iteT ?_
        refine ⟨_, rfl, N.a, CN, dx, _, _, rfl, sm2 _ _ ob, T.clN, T.nKnown, nF_known _ _ _ _ _, .inl ⟨rfl, _, SqL.of (sm2 _ _ hk)⟩, _, rfl, _, rfl, N.kl, _, p, _, rfl, rfl, sm2 _ _ hk, hsz, by omega, hp63, ?_⟩
        exact ins H2 sm2 (Or.inl (by omega))
      · refine iteN (eqI_false hpe) ?_
        obtain ⟨y, hy, hye⟩ := hstop.resolve_left hpe
        obtain ⟨pa, hpa, hya⟩ := (kt1 sm2).got hy
        obtain ⟨dy, hyd⟩ := hya
        refine ⟨_, rfl, N.a, CN, dx, _, _, rfl, sm2 _ _ ob, T.clN, T.nKnown, nF_known _ _ _ _ _, _, rfl, N.kl, _, _, _, rfl, rfl, SqL.of (sm2 _ _ hk), at_of rfl (at_ref hpa), pa, dy, _, rfl, hyd, cF_none y, pa, y, rfl, ⟨dy, hyd⟩, fun t1 ht1 => ?_⟩
        have s3 := sm2.trans (same_new (o := .tup [.int y.count, .int y.node]) ht1)
        refine ⟨_, rfl, ca, dc, _, rfl, s3 _ _ hca, cF_none c, ca, c, rfl, ⟨dc, s3 _ _ hca⟩, fun t2 ht2 => ?_⟩
        have s4 := s3.trans (same_new (o := .tup [.int c.count, .int c.node]) ht2)
        refine ⟨.tuple [.int y.count, .int y.node], .tuple [.int c.count, .int c.node], dp_stamp ?_, dp_stamp upd_same, rfl, rfl, _, rfl, ?_⟩
        · rw [upd_ne (ne_of_none upd_same ht2), upd_same]
        rw [eqv_same]
        cases e : Ha08.same y c with
        | false =>
          refine iteT ?_
          refine ⟨_, rfl, N.a, CN, dx, _, _, rfl, s4 _ _ ob, T.clN, T.nKnown, nF_known _ _ _ _ _, .inl ⟨rfl, _, SqL.of (s4 _ _ hk)⟩, _, rfl, _, rfl, N.kl, _, p, _, rfl, rfl, s4 _ _ hk, hsz, by omega, hp63, ?_⟩
          exact ins _ s4 (Or.inr ⟨y, hy, hye, e⟩)
        | true =>
          refine iteF ?_
          refine ⟨_, rfl, ca, CC, dc, _, _, rfl, s4 _ _ hca, T.clC, T.cGone, cF_gone c, _, rfl, ?_⟩
          cases eg : c.gone with
          | true =>
            refine iteT ?_
            refine ⟨_, rfl, _, rfl, N.a, CN, dx, _, _, rfl, s4 _ _ ob, T.clN, T.nKnown, nF_known _ _ _ _ _, _, rfl, N.kl, _, _, p, rfl, rfl, s4 _ _ hk, ?_, ?_⟩
            · have : p < as.length := by omega
              unfold ixN
              rw [if_pos (by omega), if_pos (by rw [List.length_map]; omega)]
              rfl
            · have f : Fr H (upd (upd (upd H2 t1 (.tup [.int y.count, .int y.node])) t2 (.tup [.int c.count, .int c.node])) N.kl (.lst ((as.map V.ref).set p (V.ref ca)))) [N.kl] := (Fr.same s4).upd (by simp)
              have e2 : (as.map V.ref).set p (V.ref ca) = (as.set p ca).map V.ref := by rw [List.map_set]
              refine k _ (hN.set_claims (as := as.set p ca) ?_ ?_ f) f
              · rw [upd_same, e2]
              · rw [NN.learn_put hold hy e (hkn.agr y (List.mem_of_getElem? hy)) hag eg]
                refine Two.imp (R := ClaimAt CC H) (fun a b q => q.keep f (by simpa using q.not_lst hk)) ?_
                exact kt.set ⟨dc, hca⟩ p
          | false =>
            refine iteF ?_
            rw [NN.learn_not hold hy e eg] at k
            exact k _ (hN.same s4) (.same s4)
end
end NH
set_option Elab.async false
set_option linter.all false
set_option maxRecDepth 100000
set_option maxHeartbeats 4000000
namespace NH
open PySem PySem.Spec PyProof.Rows L2
abbrev sMake : Stmt := inClass (top tN_) 7
abbrev sGive : Stmt := inClass (top tN_) 9
def spMake (CC CN : Addr) : Sp := fun vs H Q _ => ∃ (N : NA) (n p nm : Nat) (x : Ha08.Node) (g : Nat → Nat → Nat × Nat), vs = [.ref N.a, .int p, .int nm] ∧ NodeAt CC CN H N n x ∧ NN.Kn g x.claims ∧ NN.Agr g ⟨x.count + 1, n, p, nm, false⟩ ∧ x.claims.length ≤ 10000 ∧
  ∀ H' : Hp, NodeAt CC CN H' N n (Ha08.claims_ x n p nm) → Fr H H' [N.a, N.kl] → Q (.int (x.count + 1 : Nat)) H'
def gives (n p : Nat) (ns : List Nat) (l : List Ha08.Claim) : List Ha08.Claim := (NN.owns n l).filter fun c => c.proc == p && ns.contains c.name
def spGive (CC CN : Addr) : Sp := fun vs H Q _ => ∃ (N : NA) (n p : Nat) (x : Ha08.Node) (nl : Addr) (ns : List Nat) (g : Nat → Nat → Nat × Nat), vs = [.ref N.a, .int p, .ref nl] ∧ NodeAt CC CN H N n x ∧ H nl = some (.lst (natV ns)) ∧ nl ≠ N.kl ∧ NN.Kn g x.claims ∧ x.claims.length ≤ 5000 ∧
  ∀ H' : Hp, NodeAt CC CN H' N n ((gives n p ns x.claims).foldl Ha08.givesUp x) → Fr H H' [N.kl] → Q (.int (gives n p ns x.claims).length) H'
section
variable {P : Program} {w : World} {K : PySem.W.Frag} {mg : Str → Option Value} {base : Heap} {CC CL CN CW : Addr}
theorem scMk : FnScope ["self", "process", "name"] ["self", "process", "name"] (defScope sMake) := ⟨rfl, rfl, rfl, by decide +kernel, rfl, by decide +kernel, by decide +kernel⟩
theorem ok_make {f fI fL : Addr} {fd fdI fdL : FuncData} (F : Fun K "make_claim" "Node.make_claim" sMake f fd) (T : Txt K mg CC CL CN CW) (M : Mk K CC fI) (GI : FnOk P w K mg base CX0 1 fI fdI ["self", "count", "node", "process", "name", "given_up"] (spCInit CC)) (bI : Binds K fdI ["self", "count", "node", "process", "name", "given_up"] [])
    (GL : FnOk P w K mg base CX0 2 fL fdL ["self", "claim"] (spLearn CC CN)) (bL : Binds K fdL ["self", "claim"] []) (mL : Meth K CN "learn" fL) : FnOk P w K mg base CX0 3 f fd ["self", "process", "name"] (spMake CC CN) := by
  refine F.ok scMk (fun vs H Q E h => ?_) (fun cdv A outer s H vs Q E hr h => ?_)
  · obtain ⟨N, n, p, nm, x, g, rfl, _⟩ := h
    rfl
  · obtain ⟨N, n, p, nm, x, g, rfl, hN, hkn, hag, hlen, k⟩ := h
    obtain ⟨dx, ob⟩ := hN.ob
    refine ⟨_, pss_cons (ps_fld (pv 0) (pe_op op_add (pe_fld (pv 0) rfl) pe_int) rfl)
      (pss_cons (ps_expr (pe_meth (pv 0) T.clN mL GL hr bL .nil pass0 (pa_cons (pe_make M GI hr rfl T.gC bI .nil pass0 (pa_cons (pe_fld (pv 0) rfl) (pa_cons (pe_fld (pv 0) rfl) (pa_cons (pv 1) (pa_cons (pv 2) (pa_cons pe_bl pa_nil)))))) pa_nil)))
      (pss_one (ps_ret (pe_fld (pv 0) rfl)))), ?_⟩
    refine ⟨_, rfl, N.a, CN, dx, _, _, rfl, ob, T.clN, T.nCount, nF_count _ _ _ _ _, _, _, rfl, rfl, _, rfl, N.a, CN, dx, _, rfl, ob, T.clN, T.nCount, (by show 5 < 1000; decide), ?_⟩
    have e1 : putF "count" (V.int ((x.count : Int) + 1)) (nF n x.count N.kl N.rl N.ld) = nF n (x.count + 1) N.kl N.rl N.ld := rfl
    rw [e1]
    have f1 : Fr H (upd H N.a (.ins CN dx (nF n (x.count + 1) N.kl N.rl N.ld))) [N.a] := fr_upd (by simp)
    have hN1 := hN.set_count (ct := x.count + 1) upd_same f1
    generalize upd H N.a (.ins CN dx (nF n (x.count + 1) N.kl N.rl N.ld)) = H1 at hN1 f1 ⊢
    obtain ⟨dx1, ob1⟩ := hN1.ob
    refine ⟨_, rfl, N.a, dx1, _, rfl, ob1, nF_none _ _ _ _ _, _, rfl, N.a, CN, dx1, _, _, rfl, ob1, T.clN, T.nCount, nF_count _ _ _ _ _, _, rfl, N.a, CN, dx1, _, _, rfl, ob1, T.clN, T.nNum, nF_num _ _ _ _ _, _, rfl, _, rfl, ?_⟩
    intro y d ny nd ne
    refine ⟨y, d, ⟨x.count + 1, n, p, nm, false⟩, rfl, upd_same, fun H2 hA kp => ⟨rfl, ?_⟩⟩
    have s2 : Same H1 H2 := Same.made ny nd kp
    refine ⟨N, n, { x with count := x.count + 1 }, y, ⟨x.count + 1, n, p, nm, false⟩, g, rfl, hN1.same s2, hA, hkn, hag, hlen, fun H3 hN3 f3 => ?_⟩
    obtain ⟨dx3, ob3⟩ := hN3.ob
    refine ⟨_, rfl, N.a, CN, dx3, _, _, rfl, ob3, T.clN, T.nCount, nF_count _ _ _ _ _, ?_⟩
    exact k H3 hN3 (((f1.more (by simp)).trans (.same s2)).trans (f3.more (by simp)))
theorem scGi : FnScope ["self", "process", "names", "given", "claim"] ["self", "process", "names"] (defScope sGive) := ⟨rfl, rfl, rfl, by decide +kernel, rfl, by decide +kernel, by decide +kernel⟩
theorem filter_snoc {α : Type} (q : α → Bool) (l : List α) (c : α) : (l ++ [c]).filter q = if q c = true then l.filter q ++ [c] else l.filter q := by
  rw [List.filter_append, List.filter_cons]
  split <;> simp
theorem ok_give {f fO fL fW : Addr} {fd fdO fdL fdW : FuncData} (F : Fun K "give_up" "Node.give_up" sGive f fd) (T : Txt K mg CC CL CN CW)
    (GO : FnOk P w K mg base CX0 1 fO fdO ["self"] (spOwn CC CN)) (bO : Binds K fdO ["self"] []) (mO : Meth K CN "own_claims" fO)
    (GL : FnOk P w K mg base CX0 2 fL fdL ["self", "claim"] (spLearn CC CN)) (bL : Binds K fdL ["self", "claim"] []) (mL : Meth K CN "learn" fL)
    (GW : FnOk P w K mg base CX0 3 fW fdW ["self"] (spWhen CC)) (bW : Binds K fdW ["self"] []) (mW : Meth K CC "when_given_up" fW) : FnOk P w K mg base CX0 4 f fd ["self", "process", "names"] (spGive CC CN) := by
  refine F.ok scGi (fun vs H Q E h => ?_) (fun cdv A outer s H vs Q E hr h => ?_)
  · obtain ⟨N, n, p, x, nl, ns, g, rfl, _⟩ := h
    rfl
  · obtain ⟨N, n, p, x, nl, ns, g, rfl, hN, hnl, hne, hkn, hlen, k⟩ := h
    obtain ⟨dx, ob⟩ := hN.ob
    have hr1 : Room 1 _ := hr.mono (by decide)
    have hr2 : Room 2 _ := hr.mono (by decide)
    refine ⟨_, pss_cons (ps_set (i := 3) scGi.nd rfl (Or.inl rfl) pe_int)
      (pss_cons (ps_for PassesOwn.never rfl (pi_list (pe_meth0 (pv 0) T.clN mO GO hr1 bO .nil pass0)) (pg_name (i := 4) scGi.nd rfl (Or.inl rfl))
        (pss_one (ps_if (PW.pt (pw_and (pt_cmpR op_eq (pe_fld (pv 4) rfl) (pv 1) (nomark _)) (pw_and1 (pt_cmpR op_in_seq (pe_fld (pv 4) rfl) (pv 2) rfl))))
          (pss_cons (ps_expr (pe_meth (pv 0) T.clN mL GL hr2 bL .nil pass0 (pa_cons (pe_meth0 (pv 4) T.clC mW GW hr bW .nil pass0) pa_nil)))
            (pss_one (ps_set (i := 3) scGi.nd rfl (Or.inl rfl) (pe_op op_add (pv 3) pe_int)))) pss_nil)))
      (pss_one (ps_ret (pv 3)))), ?_⟩
    refine ⟨_, rfl, N.a, dx, _, rfl, ob, nF_none _ _ _ _ _, N, n, x, rfl, hN, (by omega), fun lo as hlo hat => ?_⟩
    have s0 : Same H (upd H lo (.lst (as.map V.ref))) := same_new hlo
    have hlok : lo ≠ N.kl := by
      obtain ⟨bs, hk, _⟩ := hN.ks
      exact (ne_of_none hk hlo).symm
    let q : Ha08.Claim → Bool := fun c => c.proc == p && ns.contains c.name
    have hag : ∀ c ∈ NN.owns n x.claims, NN.Agr g c := fun c hc => hkn.agr c (NN.mem_owns.mp hc).1
    have hol : (NN.owns n x.claims).length ≤ 5000 := Nat.le_trans (NN.owns_sub n x.claims).length_le hlen
    refine ⟨lo, rfl, ⟨_, SqL.of upd_same⟩, for_list (K := K) (a := lo) (xs := as.map V.ref)
      (fun i σ H' => ∃ v : Option V, σ = [some (.ref N.a), some (.int p), some (.ref nl), some (.int (((NN.owns n x.claims).take i).filter q).length), v] ∧ Fr H H' [N.kl] ∧ H' lo = some (.lst (as.map V.ref)) ∧
        NodeAt CC CN H' N n ((((NN.owns n x.claims).take i).filter q).foldl Ha08.givesUp x) ∧ NN.Kn g ((((NN.owns n x.claims).take i).filter q).foldl Ha08.givesUp x).claims ∧ ((((NN.owns n x.claims).take i).filter q).foldl Ha08.givesUp x).claims.length ≤ 5000 + i)
      ⟨none, rfl, .same s0, upd_same, hN.same s0, hkn, hlen⟩ (fun i σ H' _ ⟨_, _, _, e, _⟩ => SqL.of e) ?_ ?_⟩
    · rintro i y σ H' hi ⟨v, rfl, f1, hl1, hN1, hk1, hn1⟩
      obtain ⟨ca, hca, rfl⟩ := ref_at hi
      obtain ⟨c, hc, hcl⟩ := hat.get hca
      have hcl1 : ClaimAt CC H' ca c := hcl.keep f1 (by
        obtain ⟨bs, hk, _⟩ := hN.ks
        simpa using hcl.not_lst hk)
      obtain ⟨dc, hcd⟩ := hcl1
      have hi5 : i < 5000 := by
        have := (List.getElem?_eq_some_iff.mp hc).1
        omega
      have hts : ((NN.owns n x.claims).take (i + 1)).filter q = if q c = true then ((NN.owns n x.claims).take i).filter q ++ [c] else ((NN.owns n x.claims).take i).filter q := by
        rw [take_snoc hc, filter_snoc]
      generalize hy : (((NN.owns n x.claims).take i).filter q).foldl Ha08.givesUp x = y at hN1 hk1 hn1
      obtain ⟨dy, oby⟩ := hN1.ob
      have stay : q c = false → _ := fun hq => (⟨some (.ref ca), by rw [hts, hq]; rfl, f1, hl1, by rw [hts, hq, if_neg Bool.false_ne_true, hy]; exact hN1, by rw [hts, hq, if_neg Bool.false_ne_true, hy]; exact hk1, by rw [hts, hq, if_neg Bool.false_ne_true, hy]; omega⟩ :
        ∃ v : Option V, [some (V.ref N.a), some (V.int p), some (V.ref nl), some (V.int (((NN.owns n x.claims).take i).filter q).length), some (V.ref ca)] = [some (.ref N.a), some (.int p), some (.ref nl), some (.int (((NN.owns n x.claims).take (i + 1)).filter q).length), v] ∧ Fr H H' [N.kl] ∧ H' lo = some (.lst (as.map V.ref)) ∧
        NodeAt CC CN H' N n ((((NN.owns n x.claims).take (i + 1)).filter q).foldl Ha08.givesUp x) ∧ NN.Kn g ((((NN.owns n x.claims).take (i + 1)).filter q).foldl Ha08.givesUp x).claims ∧ ((((NN.owns n x.claims).take (i + 1)).filter q).foldl Ha08.givesUp x).claims.length ≤ 5000 + (i + 1))
      refine ⟨_, rfl, ca, CC, dc, _, _, rfl, hcd, T.clC, T.cProc, cF_proc c, _, rfl, rfl, _, rfl, ?_⟩
      by_cases hp : c.proc = p
      · refine iteY (eqI_true hp) ?_
        refine ⟨_, rfl, ca, CC, dc, _, _, rfl, hcd, T.clC, T.cName, cF_name c, _, rfl, nl, natV ns, rfl, .inl (SqL.of (f1 _ _ hnl (by simpa using hne))), rfl, flat_nat _, _, rfl, ?_⟩
        show if inV (.int c.name) (natV ns) = true then _ else _
        rw [inV_nat]
        cases e : ns.contains c.name with
        | true =>
          refine iteT ?_
          have hq : q c = true := by
            show (c.proc == p && ns.contains c.name) = true
            rw [e]; simp [hp]
          refine ⟨_, rfl, N.a, dy, _, rfl, oby, nF_none _ _ _ _ _, _, rfl, ca, dc, _, rfl, hcd, cF_none c, ca, c, rfl, ⟨dc, hcd⟩, fun b H2 hb s2 hcb => ?_⟩
          refine ⟨N, n, y, b, { c with gone := true }, g, rfl, hN1.same s2, hcb, hk1, hag c (List.mem_of_getElem? hc), by omega, fun H3 hN3 f3 => ?_⟩
          refine ⟨_, rfl, _, _, rfl, rfl, some (.ref ca), ?_, (f1.trans (.same s2)).trans f3, f3 _ _ (s2 _ _ hl1) (by simpa using hlok), ?_, ?_, ?_⟩
          · rw [hts, hq, if_pos rfl, List.length_append]
            rfl
          · rw [hts, hq, if_pos rfl, List.foldl_append, hy]
            exact hN3
          · rw [hts, hq, if_pos rfl, List.foldl_append, hy]
            exact hk1.learn (c := { c with gone := true }) (hag c (List.mem_of_getElem? hc))
          · rw [hts, hq, if_pos rfl, List.foldl_append, hy]
            show (Ha08.learn { c with gone := true } y.claims).length ≤ _
            have := NN.learn_len (c := { c with gone := true }) y.claims
            omega
        | false =>
          exact iteF (stay (by show (c.proc == p && ns.contains c.name) = false; rw [e]; simp))
      · refine iteN (eqI_false hp) ?_
        exact iteF (stay (by show (c.proc == p && ns.contains c.name) = false; simp [hp]))
    · rintro σ H' ⟨v, rfl, f1, hl1, hN1, hk1, hn1⟩
      rw [List.length_map, hat.len, List.take_length] at hN1 ⊢
      exact ⟨_, rfl, k H' hN1 f1⟩
end
end NH
set_option Elab.async false
set_option linter.all false
set_option maxRecDepth 100000
set_option maxHeartbeats 4000000
namespace NH
open PySem PySem.Spec PyProof.Rows L2
abbrev sLook : Stmt := inClass (top tN_) 10
/-! ### what a process has lost -/
def lossK (es : List (Nat × Addr)) : List (Key × V) := es.map fun e => (Sum.inl (e.1 : Int), V.ref e.2)
theorem val_some : ∀ {es : List (Nat × Addr)} {p : Nat} {v : V}, valV (lossK es) (Sum.inl (p : Int)) = some v → ∃ l, v = .ref l ∧ (p, l) ∈ es
  | [], _, _, h => by cases h
  | (q, l) :: es, p, v, h => by
    by_cases e : q = p
    · subst e
      have h' : valV ((Sum.inl (q : Int), V.ref l) :: lossK es) (Sum.inl (q : Int)) = some v := h
      rw [valV_pos rfl] at h'
      exact ⟨l, (Option.some.inj h').symm, by simp⟩
    · have h' : valV ((Sum.inl (q : Int), V.ref l) :: lossK es) (Sum.inl (p : Int)) = some v := h
      rw [valV_neg (by intro z; injection z with z; exact e (by omega))] at h'
      obtain ⟨l', e1, e2⟩ := val_some h'
      exact ⟨l', e1, by simp [e2]⟩
theorem val_none : ∀ {es : List (Nat × Addr)} {p : Nat}, valV (lossK es) (Sum.inl (p : Int)) = none → p ∉ es.map (·.1)
  | [], _, _ => by simp
  | (q, l) :: es, p, h => by
    by_cases e : q = p
    · subst e
      have h' : valV ((Sum.inl (q : Int), V.ref l) :: lossK es) (Sum.inl (q : Int)) = none := h
      rw [valV_pos rfl] at h'
      cases h'
    · have h' : valV ((Sum.inl (q : Int), V.ref l) :: lossK es) (Sum.inl (p : Int)) = none := h
      rw [valV_neg (by intro z; injection z with z; exact e (by omega))] at h'
      have := val_none h'
      simp at this ⊢
      exact ⟨fun z => e z.symm, this⟩
theorem lossOf_snoc (l : List Ha08.Lost) (a : Ha08.Lost) (p : Nat) : lossOf (l ++ [a]) p = if a.proc = p then lossOf l p ++ [a] else lossOf l p := by
  unfold lossOf
  rw [filter_snoc]
  by_cases h : a.proc = p <;> simp [h]
theorem LossAt.keep {H H' : Hp} {f : List Addr} {t : Addr} {a : Ha08.Lost} (h : LossAt H t a) (s : Fr H H' f) (n : ∀ a xs, H a = some (.tup xs) → a ∉ f) : LossAt H' t a := s _ _ h (n _ _ h)
theorem es_uniq {es : List (Nat × Addr)} (hn : (es.map (·.1)).Nodup) {p : Nat} {l l' : Addr} (h : (p, l) ∈ es) (h' : (p, l') ∈ es) : l = l' := by
  obtain ⟨i, hi⟩ := List.getElem?_of_mem h
  obtain ⟨j, hj⟩ := List.getElem?_of_mem h'
  have e : i = j := nd_ix hn (x := p) (by rw [List.getElem?_map, hi]; rfl) (by rw [List.getElem?_map, hj]; rfl)
  subst e
  rw [hi] at hj
  cases hj
  rfl
theorem es_uniq2 {es : List (Nat × Addr)} (hn : (es.map (·.2)).Nodup) {p p' : Nat} {l : Addr} (h : (p, l) ∈ es) (h' : (p', l) ∈ es) : p = p' := by
  obtain ⟨i, hi⟩ := List.getElem?_of_mem h
  obtain ⟨j, hj⟩ := List.getElem?_of_mem h'
  have e : i = j := nd_ix hn (x := l) (by rw [List.getElem?_map, hi]; rfl) (by rw [List.getElem?_map, hj]; rfl)
  subst e
  rw [hi] at hj
  cases hj
  rfl
/-- one loss more, of a process that has lost before -/
theorem NodeAt.more_loss {CC CN : Addr} {H H' : Hp} {N : NA} {n : Nat} {x : Ha08.Node} {a : Ha08.Lost} {l t : Addr} {ts : List Addr} (h : NodeAt CC CN H N n x) (he : (a.proc, l) ∈ N.es) (hl : H l = some (.lst (ts.map V.ref))) (ht : Two (LossAt H) ts (lossOf x.lost a.proc))
    (hl' : H' l = some (.lst ((ts ++ [t]).map V.ref))) (hta : LossAt H' t a) (s : Fr H H' [l]) : NodeAt CC CN H' N n { x with lost := x.lost ++ [a] } := by
  obtain ⟨a1, a2, a3, a4⟩ := h.ob_ne
  obtain ⟨b1, b2, b3⟩ := h.ld_ne
  obtain ⟨c1, c2, c3, c4⟩ := h.nds
  obtain ⟨dx, ob⟩ := h.ob
  obtain ⟨as, ks, kt⟩ := h.ks
  have il := NodeAt.in_ls he
  have nt : ∀ b xs, H b = some (.tup xs) → b ∉ [l] := fun b xs q => by simpa using ne_of q hl (by intro z; cases z)
  refine ⟨⟨dx, s _ _ ob ?_⟩, ⟨as, s _ _ ks ?_, claims_keep kt s fun b c q => by simpa using q.not_lst hl⟩, s _ _ h.rs ?_, s _ _ h.ds ?_, fun p m hm => ?_, fun p hp => ?_, h.nd, h.en, by have := h.el; simp; omega⟩
  · simp; rintro rfl; exact a4 il
  · simp; rintro rfl; exact c2 il
  · simp; rintro rfl; exact c3 il
  · simp; rintro rfl; exact b3 il
  · by_cases e : p = a.proc
    · subst e
      have := es_uniq h.en hm he
      subst this
      refine ⟨ts ++ [t], hl', ?_⟩
      rw [lossOf_snoc, if_pos rfl]
      exact (ht.imp fun b c q => q.keep s nt).append (.one hta)
    · obtain ⟨us, e1, e2⟩ := h.ls p m hm
      refine ⟨us, s _ _ e1 ?_, ?_⟩
      · simp
        rintro rfl
        exact e (es_uniq2 c4 hm he)
      · rw [lossOf_snoc, if_neg (fun q => e q.symm)]
        exact e2.imp fun b c q => q.keep s nt
  · have e : a.proc ≠ p := by
      rintro rfl
      exact hp (List.mem_map.mpr ⟨_, he, rfl⟩)
    rw [lossOf_snoc, if_neg e]
    exact h.no p hp
/-- .. of one that has not -/
theorem NodeAt.new_loss {CC CN : Addr} {H H' : Hp} {N : NA} {n : Nat} {x : Ha08.Node} {a : Ha08.Lost} {l t : Addr} (h : NodeAt CC CN H N n x) (he : a.proc ∉ N.es.map (·.1)) (hl : H l = none)
    (hd' : H' N.ld = some (.dK (lossK N.es ++ [(Sum.inl (a.proc : Int), V.ref l)]))) (hl' : H' l = some (.lst [V.ref t])) (hta : LossAt H' t a) (s : Fr H H' [N.ld]) : NodeAt CC CN H' { N with es := N.es ++ [(a.proc, l)] } n { x with lost := x.lost ++ [a] } := by
  obtain ⟨a1, a2, a3, a4⟩ := h.ob_ne
  obtain ⟨b1, b2, b3⟩ := h.ld_ne
  obtain ⟨c1, c2, c3, c4⟩ := h.nds
  obtain ⟨dx, ob⟩ := h.ob
  obtain ⟨as, ks, kt⟩ := h.ks
  have nt : ∀ b xs, H b = some (.tup xs) → b ∉ [N.ld] := fun b xs q => by simpa using ne_of q h.ds (by intro z; cases z)
  have nls : l ∉ N.ls := fun q => by
    obtain ⟨⟨p, m⟩, hm, e⟩ := List.mem_map.mp q
    obtain ⟨ts, e1, _⟩ := h.ls p m hm
    have : m = l := e
    rw [this, hl] at e1
    cases e1
  have nkl : l ≠ N.kl := (ne_of_none ks hl).symm
  have nrl : l ≠ N.rl := (ne_of_none h.rs hl).symm
  refine ⟨⟨dx, s _ _ ob (by simpa using a3)⟩, ⟨as, s _ _ ks (by simpa using b1.symm), claims_keep kt s fun b c q => ?_⟩, s _ _ h.rs (by simpa using b2.symm), ?_, fun p m hm => ?_, fun p hp => ?_, ?_, ?_, by have := h.el; simp; omega⟩
  · have := h.claim_free q
    intro z
    simp at z
    exact this (by simp [NA.fp, z])
  · rw [hd']
    simp [lossK]
  · rcases List.mem_append.mp hm with hm | hm
    · obtain ⟨us, e1, e2⟩ := h.ls p m hm
      have : a.proc ≠ p := by
        rintro rfl
        exact he (List.mem_map.mpr ⟨_, hm, rfl⟩)
      refine ⟨us, s _ _ e1 ?_, ?_⟩
      · simp
        rintro rfl
        exact b3 (NodeAt.in_ls hm)
      · rw [lossOf_snoc, if_neg this]
        exact e2.imp fun b c q => q.keep s nt
    · simp at hm
      obtain ⟨rfl, rfl⟩ := hm
      refine ⟨[t], hl', ?_⟩
      rw [lossOf_snoc, if_pos rfl, h.no _ he]
      exact .one hta
  · simp at hp
    rw [lossOf_snoc, if_neg (fun q => hp.2 q.symm)]
    exact h.no p (by simpa using hp.1)
  · have := h.nd
    show (N.kl :: N.rl :: (N.es ++ [(a.proc, l)]).map (·.2)).Nodup
    rw [List.map_append]
    have e : N.kl :: N.rl :: (N.es.map (·.2) ++ [(a.proc, l)].map (·.2)) = (N.kl :: N.rl :: N.ls) ++ [l] := rfl
    rw [e, List.nodup_append]
    refine ⟨this, by simp, fun b hb c hc ee => ?_⟩
    simp at hc
    subst hc
    subst ee
    simp at hb
    rcases hb with hb | hb | hb
    · exact nkl hb
    · exact nrl hb
    · exact nls hb
  · show ((N.es ++ [(a.proc, l)]).map (·.1)).Nodup
    rw [List.map_append, List.nodup_append]
    refine ⟨h.en, by simp, fun b hb c hc ee => ?_⟩
    simp at hc
    subst hc
    subst ee
    exact he hb
def spLook (CC CN : Addr) : Sp := fun vs H Q _ => ∃ (N : NA) (n : Nat) (x : Ha08.Node) (g : Nat → Nat → Nat × Nat), vs = [.ref N.a] ∧ NodeAt CC CN H N n x ∧ NN.Kn g x.claims ∧ n ∈ x.reach ∧ x.claims.length ≤ 4000 ∧ x.lost.length ≤ 12000000 ∧
  ∀ (H' : Hp) (es : List (Nat × Addr)), NodeAt CC CN H' { N with es := es } n (Ha08.looks n x) → (∀ f ∈ es.map (·.2), f ∈ N.ls ∨ H f = none) → Fr H H' (N.kl :: N.ld :: N.ls) → Q (.int ((Ha08.looks n x).lost.length - x.lost.length : Nat)) H'
section
variable {P : Program} {w : World} {K : PySem.W.Frag} {mg : Str → Option Value} {base : Heap} {CC CL CN CW : Addr}
theorem scLo : FnScope ["self", "lost", "claim"] ["self"] (defScope sLook) := ⟨rfl, rfl, rfl, by decide +kernel, rfl, by decide +kernel, by decide +kernel⟩
theorem ok_look {f fO fL fW fH fS : Addr} {fd fdO fdL fdW fdH fdS : FuncData} (F : Fun K "look_through_own" "Node.look_through_own" sLook f fd) (T : Txt K mg CC CL CN CW)
    (GO : FnOk P w K mg base CX0 1 fO fdO ["self"] (spOwn CC CN)) (bO : Binds K fdO ["self"] []) (mO : Meth K CN "own_claims" fO)
    (GL : FnOk P w K mg base CX0 2 fL fdL ["self", "claim"] (spLearn CC CN)) (bL : Binds K fdL ["self", "claim"] []) (mL : Meth K CN "learn" fL)
    (GW : FnOk P w K mg base CX0 3 fW fdW ["self"] (spWhen CC)) (bW : Binds K fdW ["self"] []) (mW : Meth K CC "when_given_up" fW)
    (GH : FnOk P w K mg base CX0 3 fH fdH ["self", "name"] (spHolder CC CN)) (bH : Binds K fdH ["self", "name"] []) (mH : Meth K CN "holder" fH)
    (GS : FnOk P w K mg base CX0 1 fS fdS ["self"] (spStamp CC)) (bS : Binds K fdS ["self"] []) (mS : Meth K CC "stamp" fS) : FnOk P w K mg base CX0 4 f fd ["self"] (spLook CC CN) := by
  refine F.ok scLo (fun vs H Q E h => ?_) (fun cdv A outer s H vs Q E hr h => ?_)
  · obtain ⟨N, n, x, g, rfl, _⟩ := h
    rfl
  · obtain ⟨N, n, x, g, rfl, hN, hkn, hre, hlen, hll, k⟩ := h
    obtain ⟨dx, ob⟩ := hN.ob
    have hr1 : Room 1 _ := hr.mono (by decide)
    have hr2 : Room 2 _ := hr.mono (by decide)
    refine ⟨_, pss_cons (ps_set (i := 1) scLo.nd rfl (Or.inl rfl) pe_int)
      (pss_cons (ps_for PassesOwn.never rfl (pi_list (pe_meth0 (pv 0) T.clN mO GO hr1 bO .nil pass0)) (pg_name (i := 2) scLo.nd rfl (Or.inl rfl))
        (pss_one (ps_if (pt_cmpR (op_neD hr.units) (pe_meth0 (pe_meth (pv 0) T.clN mH GH hr bH .nil pass0 (pa_cons (pe_fld (pv 2) rfl) pa_nil)) T.clC mS GS hr1 bS .nil pass0) (pe_meth0 (pv 2) T.clC mS GS hr1 bS .nil pass0) (nomark _))
          (pss_cons (ps_expr (pe_meth (pv 0) T.clN mL GL hr2 bL .nil pass0 (pa_cons (pe_meth0 (pv 2) T.clC mW GW hr bW .nil pass0) pa_nil)))
          (pss_cons (ps_expr (pe_bm PySem.F.plainAttrs_list PySem.F.slot_list_append PySem.F.type_list_append mt_append (pe_dsetd (pe_fld (pv 0) rfl) (pe_fld (pv 2) rfl) (pe_lst pa_nil) ⟨rfl, rfl, rfl, rfl⟩) (pa_cons (pe_tup (pa_cons (pe_fld (pv 2) rfl) (pa_cons (pe_fld (pv 2) rfl) pa_nil))) pa_nil)))
            (pss_one (ps_set (i := 1) scLo.nd rfl (Or.inl rfl) (pe_op op_add (pv 1) pe_int))))) pss_nil)))
      (pss_one (ps_ret (pv 1)))), ?_⟩
    refine ⟨_, rfl, N.a, dx, _, rfl, ob, nF_none _ _ _ _ _, N, n, x, rfl, hN, (by omega), fun lo as hlo hat => ?_⟩
    have s0 : Same H (upd H lo (.lst (as.map V.ref))) := same_new hlo
    have hol : (NN.owns n x.claims).length ≤ 4000 := Nat.le_trans (NN.owns_sub n x.claims).length_le hlen
    obtain ⟨bs0, hk0, _⟩ := hN.ks
    have hlok : lo ≠ N.kl := (ne_of_none hk0 hlo).symm
    have hlod : lo ≠ N.ld := (ne_of_none hN.ds hlo).symm
    have hlols : lo ∉ N.ls := fun q => by
      obtain ⟨⟨p, m⟩, hm, e⟩ := List.mem_map.mp q
      obtain ⟨ts, e1, _⟩ := hN.ls p m hm
      have : m = lo := e
      rw [this, hlo] at e1
      cases e1
    refine ⟨lo, rfl, ⟨_, SqL.of upd_same⟩, for_list (K := K) (a := lo) (xs := as.map V.ref)
      (fun i σ H' => ∃ (v : Option V) (es : List (Nat × Addr)) (y : Ha08.Node), y = ((NN.owns n x.claims).take i).foldl NN.lk x ∧ NN.Mid g x i ((NN.owns n x.claims).drop i) y ∧ σ = [some (.ref N.a), some (.int (y.lost.length - x.lost.length : Nat)), v] ∧ Fr H H' (N.kl :: N.ld :: N.ls) ∧ H' lo = some (.lst (as.map V.ref)) ∧
        NodeAt CC CN H' { N with es := es } n y ∧ (∀ f : Addr, f ∈ es.map (fun (e : Nat × Addr) => e.2) → (f ∈ N.ls ∨ H f = none) ∧ f ≠ lo))
      ⟨none, N.es, x, rfl, NN.Mid.start hkn, by simp; rfl, .same s0, upd_same, hN.same s0, fun f hf => ⟨Or.inl hf, fun e => hlols (e ▸ hf)⟩⟩ (fun i σ H' _ ⟨_, _, _, _, _, _, _, e, _⟩ => SqL.of e) ?_ ?_⟩
    · rintro i yv σ H' hi ⟨v, es, y, hy, M, rfl, f1, hl1, hN1, hes⟩
      obtain ⟨ca, hca, rfl⟩ := ref_at hi
      obtain ⟨c, hc, hcl⟩ := hat.get hca
      have hcl1 : ClaimAt CC H' ca c := hcl.keep f1 (fun q => hN.claim_free hcl (by
        simp [NA.fp] at q ⊢
        rcases q with q | q | q
        · exact Or.inr (Or.inl q)
        · exact Or.inr (Or.inr (Or.inr (Or.inl q)))
        · exact Or.inr (Or.inr (Or.inr (Or.inr q)))))
      have hil := (List.getElem?_eq_some_iff.mp hc).1
      have hdr : (NN.owns n x.claims).drop i = c :: (NN.owns n x.claims).drop (i + 1) := by
        rw [List.drop_eq_getElem_cons hil, (List.getElem?_eq_some_iff.mp hc).2]
      rw [hdr] at M
      have hcm := NN.mem_owns.mp (List.mem_of_getElem? hc)
      have hcy := M.still c (by simp)
      obtain ⟨hd, hhd⟩ := NN.holder_some hcy hcm.2.2 (by rw [M.reach, hcm.2.1]; exact hre)
      have hnext : ((NN.owns n x.claims).take (i + 1)).foldl NN.lk x = NN.lk y c := by
        rw [take_snoc hc, List.foldl_append, ← hy]
        rfl
      have hcag := M.agr c (by simp)
      obtain ⟨dc, hcd⟩ := hcl1
      obtain ⟨dy, oby⟩ := hN1.ob
      have hyl : y.lost.length ≤ 12004000 := by
        have := M.lost2
        omega
      have hycl : y.claims.length ≤ 8000 := by
        have := M.len
        omega
      refine ⟨_, rfl, N.a, dy, _, rfl, oby, nF_none _ _ _ _ _, _, rfl, ca, CC, dc, _, _, rfl, hcd, T.clC, T.cName, cF_name c, { N with es := es }, n, c.name, y, rfl, hN1, fun ha h' hh hha => ?_, fun e => by rw [hhd] at e; cases e⟩
      rw [hhd] at hh
      cases hh
      obtain ⟨dh, hhc⟩ := hha
      refine ⟨ha, dh, _, rfl, hhc, cF_none hd, ha, hd, rfl, ⟨dh, hhc⟩, fun t1 ht1 => ?_⟩
      have s1 : Same H' _ := same_new (o := .tup [.int hd.count, .int hd.node]) ht1
      refine ⟨_, rfl, ca, dc, _, rfl, s1 _ _ hcd, cF_none c, ca, c, rfl, ⟨dc, s1 _ _ hcd⟩, fun t2 ht2 => ?_⟩
      have s2 := s1.trans (same_new (o := .tup [.int c.count, .int c.node]) ht2)
      refine ⟨.tuple [.int hd.count, .int hd.node], .tuple [.int c.count, .int c.node], dp_stamp ?_, dp_stamp upd_same, rfl, rfl, _, rfl, ?_⟩
      · rw [upd_ne (ne_of_none upd_same ht2), upd_same]
      rw [eqv_same]
      generalize upd (upd H' t1 (.tup [.int hd.count, .int hd.node])) t2 (.tup [.int c.count, .int c.node]) = H2 at s2 ⊢
      cases e : Ha08.same hd c with
      | true =>
        refine iteF ?_
        have hl := NN.lk_same hhd e
        exact ⟨some (.ref ca), es, y, by rw [hnext, hl], by have := M.step; rw [hl] at this; exact this, rfl, f1.trans (.same s2), s2 _ _ hl1, hN1.same s2, hes⟩
      | false =>
        refine iteT ?_
        have hl := NN.lk_other hhd e
        refine ⟨_, rfl, N.a, dy, _, rfl, s2 _ _ oby, nF_none _ _ _ _ _, _, rfl, ca, dc, _, rfl, s2 _ _ hcd, cF_none c, ca, c, rfl, ⟨dc, s2 _ _ hcd⟩, fun b H3 hb s3 hcb => ?_⟩
        have s23 := s2.trans s3
        refine ⟨{ N with es := es }, n, y, b, { c with gone := true }, g, rfl, hN1.same s23, hcb, M.kn, hcag, by omega, fun H4 hN4 f4 => ?_⟩
        have f14 : Fr H H4 (N.kl :: N.ld :: N.ls) := (f1.trans (.same s23)).trans (f4.more (by simp))
        have hl4 : H4 lo = some (.lst (as.map V.ref)) := f4 _ _ (s23 _ _ hl1) (by simpa using hlok)
        have hcd4 : H4 ca = some (.ins CC dc (cF c)) := f4 _ _ (s23 _ _ hcd) (by
          have : ClaimAt CC H' ca c := ⟨dc, hcd⟩
          obtain ⟨zs, hzk, _⟩ := hN1.ks
          simpa using this.not_lst hzk)
        clear f4 s3 hcb hb
        obtain ⟨dz, obz⟩ := hN4.ob
        generalize hz : ({ y with claims := Ha08.learn { c with gone := true } y.claims } : Ha08.Node) = z at hN4 obz
        have hzl : z.lost = y.lost := by rw [← hz]
        have hlz : NN.lk y c = { z with lost := z.lost ++ [⟨c.proc, c.name, c.count⟩] } := by rw [hl, ← hz]; rfl
        have obz : H4 N.a = some (.ins CN dz (nF n z.count N.kl N.rl N.ld)) := obz
        have hds4 : H4 N.ld = some (.dK (lossK es)) := hN4.ds
        refine ⟨_, rfl, N.a, CN, dz, _, _, rfl, obz, T.clN, T.nLosses, nF_losses _ _ _ _ _, N.ld, rfl, Or.inl ⟨_, Or.inl hds4⟩, _, rfl, ca, CC, dc, _, _, rfl, hcd4, T.clC, T.cProc, cF_proc c, Nat.zero_le _, fun q hq => ?_⟩
        have s5 : Same H4 (upd H4 q (.lst [])) := same_new hq
        have hkl : (lossK es).length < sizeLine := by
          have := hN4.el
          unfold lossK
          rw [List.length_map]
          have h1 : es.length ≤ z.lost.length := this
          rw [hzl] at h1
          exact Nat.lt_of_le_of_lt (Nat.le_trans h1 hyl) (by decide)
        have last : ∀ (H9 : Hp) (es9 : List (Nat × Addr)), NodeAt CC CN H9 { N with es := es9 } n { z with lost := z.lost ++ [⟨c.proc, c.name, c.count⟩] } → Fr H H9 (N.kl :: N.ld :: N.ls) → H9 lo = some (.lst (as.map V.ref)) → (∀ f : Addr, f ∈ es9.map (fun (e : Nat × Addr) => e.2) → (f ∈ N.ls ∨ H f = none) ∧ f ≠ lo) → _ :=
          fun H9 es9 h9 f9 l9 e9 => (⟨some (.ref ca), es9, _, by rw [hnext, hlz], by have := M.step; rw [hlz] at this; exact this, by
            simp only [List.length_append, List.length_cons, List.length_nil, hzl]
            have := M.lost1
            have e : ((y.lost.length - x.lost.length : Nat) : Int) + 1 = ((y.lost.length + (0 + 1) - x.lost.length : Nat) : Int) := by omega
            rw [← e], f9, l9, h9, e9⟩ : ∃ (v : Option V) (es : List (Nat × Addr)) (y2 : Ha08.Node), y2 = ((NN.owns n x.claims).take (i + 1)).foldl NN.lk x ∧ NN.Mid g x (i + 1) ((NN.owns n x.claims).drop (i + 1)) y2 ∧ [some (V.ref N.a), some (V.int (((y.lost.length - x.lost.length : Nat) : Int) + 1)), some (V.ref ca)] = [some (.ref N.a), some (.int (y2.lost.length - x.lost.length : Nat)), v] ∧ Fr H H9 (N.kl :: N.ld :: N.ls) ∧ H9 lo = some (.lst (as.map V.ref)) ∧
              NodeAt CC CN H9 { N with es := es } n y2 ∧ (∀ f : Addr, f ∈ es.map (fun (e : Nat × Addr) => e.2) → (f ∈ N.ls ∨ H f = none) ∧ f ≠ lo))
        refine ⟨lossK es, Sum.inl (c.proc : Int), s5 _ _ hds4, rfl, hkl, fun v hv => ?_, fun hv => ?_⟩
        · -- it has lost before
          obtain ⟨l, rfl, hle⟩ := val_some hv
          obtain ⟨ts, hlt, htt⟩ := hN4.ls c.proc l hle
          refine ⟨.inl ⟨rfl, _, SqL.of (s5 _ _ hlt)⟩, _, rfl, ca, CC, dc, _, _, rfl, s5 _ _ hcd4, T.clC, T.cName, cF_name c, _, rfl, ca, CC, dc, _, _, rfl, s5 _ _ hcd4, T.clC, T.cCount, cF_count c, (by show 2 ≤ sizeLine; decide), fun t ht => ?_⟩
          have s6 := s5.trans (same_new (o := .tup [.int c.name, .int c.count]) ht)
          refine ⟨l, _, _, rfl, rfl, s6 _ _ hlt, ?_, ?_⟩
          · rw [List.length_map, htt.len]
            have h1 : (lossOf z.lost c.proc).length ≤ z.lost.length := List.length_filter_le _ _
            rw [hzl] at h1
            rw [hzl]
            exact Nat.lt_of_le_of_lt (Nat.le_trans h1 hyl) (by decide)
          have htup : upd (upd H4 q (.lst [])) t (.tup [.int c.name, .int c.count]) t = some (.tup [.int c.name, .int c.count]) := upd_same
          have hlt6 := s6 _ _ hlt
          generalize upd (upd H4 q (.lst [])) t (.tup [.int c.name, .int c.count]) = H6 at s6 htup hlt6 ⊢
          have f7 : Fr H6 (upd H6 l (.lst (ts.map V.ref ++ [V.ref t]))) [l] := fr_upd (by simp)
          have hll7 := (hes l (List.mem_map.mpr ⟨_, hle, rfl⟩))
          refine ⟨_, rfl, _, _, rfl, rfl, last _ es ?_ ?_ ?_ hes⟩
          · refine (hN4.same s6).more_loss (a := ⟨c.proc, c.name, c.count⟩) (l := l) (t := t) (ts := ts) hle hlt6 (htt.imp fun a b q => s6 _ _ q) ?_ ?_ f7
            · rw [upd_same, List.map_append]
              rfl
            · exact f7 _ _ htup (by simpa using ne_of htup hlt6 (by intro z; cases z))
          · intro b o hb hnb
            refine f7 b o (s6 b o (f14 b o hb hnb)) ?_
            simp
            rintro rfl
            rcases hll7.1 with q | q
            · exact hnb (by simp [q])
            · rw [q] at hb; cases hb
          · exact f7 _ _ (s6 _ _ hl4) (by simpa using hll7.2.symm)
        · -- it has not
          have hne := val_none hv
          have hq5 : upd H4 q (.lst []) q = some (.lst []) := upd_same
          have hqld : q ≠ N.ld := (ne_of_none hds4 hq).symm
          rw [putK_new _ hv]
          refine ⟨.inl ⟨rfl, _, SqL.of (by rw [upd_ne hqld]; exact hq5)⟩, _, rfl, ca, CC, dc, _, _, rfl, ?_, T.clC, T.cName, cF_name c, _, rfl, ca, CC, dc, _, _, rfl, ?_, T.clC, T.cCount, cF_count c, (by show 2 ≤ sizeLine; decide), fun t ht => ?_⟩
          · rw [upd_ne (ne_of hcd4 hds4 (by intro z; cases z))]
            exact s5 _ _ hcd4
          · rw [upd_ne (ne_of hcd4 hds4 (by intro z; cases z))]
            exact s5 _ _ hcd4
          have hq6 : upd (upd H4 q (.lst [])) N.ld (.dK (lossK es ++ [(Sum.inl (c.proc : Int), V.ref q)])) q = some (.lst []) := by rw [upd_ne hqld]; exact hq5
          have hqt : q ≠ t := ne_of_none hq6 ht
          have htld : N.ld ≠ t := ne_of_none upd_same ht
          refine ⟨q, [], _, rfl, rfl, ?_, (by show 0 < sizeLine; decide), ?_⟩
          · rw [upd_ne hqt]
            exact hq6
          have hfin : ∀ b o, H4 b = some o → b ≠ N.ld → upd (upd (upd (upd H4 q (.lst [])) N.ld (.dK (lossK es ++ [(Sum.inl (c.proc : Int), V.ref q)]))) t (.tup [.int c.name, .int c.count])) q (.lst ([] ++ [V.ref t])) b = some o := fun b o hb hn => by
            have h1 : b ≠ q := ne_of_none hb hq
            have h2 : upd (upd H4 q (.lst [])) N.ld (.dK (lossK es ++ [(Sum.inl (c.proc : Int), V.ref q)])) b = some o := by
              rw [upd_ne hn, upd_ne h1]
              exact hb
            rw [upd_ne h1, upd_ne (ne_of_none h2 ht)]
            exact h2
          refine ⟨_, rfl, _, _, rfl, rfl, last _ (es ++ [(c.proc, q)]) ?_ ?_ ?_ ?_⟩
          · refine hN4.new_loss (a := ⟨c.proc, c.name, c.count⟩) (l := q) (t := t) hne hq ?_ ?_ ?_ ?_
            · show upd _ q _ N.ld = _
              rw [upd_ne hqld.symm, upd_ne htld, upd_same]
              try rfl
            · rw [upd_same]
              try rfl
            · show upd _ q _ t = _
              rw [upd_ne hqt.symm, upd_same]
            · exact fun b o hb hn => hfin b o hb (by simpa using hn)
          · intro b o hb hnb
            exact hfin b o (f14 b o hb hnb) (fun q => hnb (by simp [q]))
          · exact hfin _ _ hl4 hlod
          · intro f hf
            rw [List.map_append] at hf
            rcases List.mem_append.mp hf with hf | hf
            · exact hes f hf
            · simp at hf
              subst hf
              refine ⟨?_, fun e => ?_⟩
              · by_cases qf : f ∈ N.kl :: N.ld :: N.ls
                · simp at qf
                  rcases qf with q | q | q
                  · obtain ⟨zs, hzk, _⟩ := hN4.ks
                    exact absurd q (ne_of_none hzk hq).symm
                  · exact absurd q hqld
                  · exact Or.inl q
                · exact Or.inr (f14.free hq qf)
              · exact (ne_of_none hl4 hq) e.symm
    · rintro σ H' ⟨v, es, y, hy, M, rfl, f1, hl1, hN1, hes⟩
      rw [List.length_map, hat.len, List.take_length] at hy
      have e : y = Ha08.looks n x := hy
      subst e
      exact ⟨_, rfl, k H' es hN1 (fun f hf => (hes f hf).1) f1⟩
end
end NH
set_option Elab.async false
set_option linter.all false
set_option maxRecDepth 100000
set_option maxHeartbeats 4000000
namespace NH
open PySem PySem.Spec PyProof.Rows L2
abbrev sLInit : Stmt := inClass (top tL_) 0
abbrev sWrite : Stmt := inClass (top tN_) 12
abbrev sReceive : Stmt := inClass (top tN_) 13
/-! ### letters -/
def lF (a b : Nat) (kl : Addr) (ct : Nat) : List (Str × V) := [("sender", .int a), ("receiver", .int b), ("known", .ref kl), ("count", .int ct)]
/-- a letter at a, its list of claims at kl -/
structure LetterAt (CC CL : Addr) (H : Hp) (a kl : Addr) (l : Ha08.Letter) : Prop where
  ob : ∃ dx, H a = some (.ins CL dx (lF l.from_ l.to_ kl l.count))
  ks : ∃ as : List Addr, H kl = some (.lst (as.map V.ref)) ∧ Two (ClaimAt CC H) as l.claims
theorem LetterAt.keep {CC CL : Addr} {H H' : Hp} {a kl : Addr} {l : Ha08.Letter} {f : List Addr} (h : LetterAt CC CL H a kl l) (s : Fr H H' f) (n1 : a ∉ f) (n2 : kl ∉ f) (nc : ∀ a c, ClaimAt CC H a c → a ∉ f) : LetterAt CC CL H' a kl l := by
  obtain ⟨dx, ob⟩ := h.ob
  obtain ⟨as, ks, kt⟩ := h.ks
  exact ⟨⟨dx, s _ _ ob n1⟩, ⟨as, s _ _ ks n2, claims_keep kt s nc⟩⟩
theorem LetterAt.same {CC CL : Addr} {H H' : Hp} {a kl : Addr} {l : Ha08.Letter} (h : LetterAt CC CL H a kl l) (s : Same H H') : LetterAt CC CL H' a kl l := h.keep (f := []) (.same s) (by simp) (by simp) (by simp)
theorem lF_send (a b : Nat) (kl : Addr) (ct : Nat) : (lF a b kl ct).lookup ("sender" : Str) = some (.int a) := lk_here
theorem lF_recv (a b : Nat) (kl : Addr) (ct : Nat) : (lF a b kl ct).lookup ("receiver" : Str) = some (.int b) := (lk_past (by decide +kernel)).trans lk_here
theorem lF_known (a b : Nat) (kl : Addr) (ct : Nat) : (lF a b kl ct).lookup ("known" : Str) = some (.ref kl) := (lk_past (by decide +kernel)).trans ((lk_past (by decide +kernel)).trans lk_here)
theorem lF_count (a b : Nat) (kl : Addr) (ct : Nat) : (lF a b kl ct).lookup ("count" : Str) = some (.int ct) := (lk_past (by decide +kernel)).trans ((lk_past (by decide +kernel)).trans ((lk_past (by decide +kernel)).trans lk_here))
theorem lF_new (a b : Nat) (kl : Addr) (ct : Nat) : putF "count" (.int ct) (putF "known" (.ref kl) (putF "receiver" (.int b) (putF "sender" (.int a) []))) = lF a b kl ct := rfl
def spLInit (CL : Addr) : Sp := fun vs H Q _ => ∃ (p dx kl : Addr) (a b ct : Nat), vs = [.ref p, .int a, .int b, .ref kl, .int ct] ∧ H p = some (.ins CL dx []) ∧
  ∀ H' : Hp, H' p = some (.ins CL dx (lF a b kl ct)) → (∀ b o, H b = some o → b ≠ p → H' b = some o) → Q .non H'
def spWrite (CC CL CN : Addr) : Sp := fun vs H Q _ => ∃ (N : NA) (n m : Nat) (x : Ha08.Node), vs = [.ref N.a, .int m] ∧ NodeAt CC CN H N n x ∧
  ∀ (a kl : Addr) (H' : Hp), H a = none → H kl = none → Same H H' → LetterAt CC CL H' a kl ⟨n, m, x.claims, x.count⟩ → Q (.ref a) H'
def spReceive (CC CL CN : Addr) : Sp := fun vs H Q _ => ∃ (N : NA) (n : Nat) (x : Ha08.Node) (la lk : Addr) (l : Ha08.Letter) (g : Nat → Nat → Nat × Nat), vs = [.ref N.a, .ref la] ∧ NodeAt CC CN H N n x ∧ LetterAt CC CL H la lk l ∧ lk ≠ N.kl ∧ NN.Kn g x.claims ∧ (∀ c ∈ l.claims, NN.Agr g c) ∧ n ∈ x.reach ∧
  x.claims.length ≤ 1000 ∧ l.claims.length ≤ 1000 ∧ x.lost.length ≤ 12000000 ∧
  ∀ (H' : Hp) (es : List (Nat × Addr)), NodeAt CC CN H' { N with es := es } n (Ha08.looks n (NN.gets x l)) → (∀ f ∈ es.map (·.2), f ∈ N.ls ∨ H f = none) → Fr H H' N.fp → Q (.int ((Ha08.looks n (NN.gets x l)).lost.length - x.lost.length : Nat)) H'
def spNInit (CC CN : Addr) : Sp := fun vs H Q _ => ∃ (p dx : Addr) (n k : Nat), vs = [.ref p, .int n, .int k] ∧ H p = some (.ins CN dx []) ∧ k ≤ 100 ∧
  ∀ (H' : Hp) (N : NA), N.a = p → NodeAt CC CN H' N n ⟨0, [], Ha08.nodesOf k, []⟩ → (∀ f ∈ N.fp, f = p ∨ H f = none) → (∀ b o, H b = some o → b ≠ p → H' b = some o) → Q .non H'
section
variable {P : Program} {w : World} {K : PySem.W.Frag} {mg : Str → Option Value} {base : Heap} {CC CL CN CW : Addr}
theorem scLI : FnScope ["self", "sender", "receiver", "known", "count"] ["self", "sender", "receiver", "known", "count"] (defScope sLInit) := ⟨rfl, rfl, rfl, by decide +kernel, rfl, by decide +kernel, by decide +kernel⟩
theorem ok_linit {f : Addr} {fd : FuncData} (F : Fun K "__init__" "Letter.__init__" sLInit f fd) (T : Txt K mg CC CL CN CW) : FnOk P w K mg base CX0 1 f fd ["self", "sender", "receiver", "known", "count"] (spLInit CL) := by
  refine F.ok scLI (fun vs H Q E h => ?_) (fun cdv A outer s H vs Q E hr h => ?_)
  · obtain ⟨p, dx, kl, a, b, ct, rfl, _⟩ := h
    rfl
  · obtain ⟨p, dx, kl, a, b, ct, rfl, hp, k⟩ := h
    refine ⟨_, pss_cons (ps_fld (pv 0) (pv 1) rfl) (pss_cons (ps_fld (pv 0) (pv 2) rfl) (pss_cons (ps_fld (pv 0) (pv 3) rfl) (pss_one (ps_fld (pv 0) (pv 4) rfl)))), ?_⟩
    refine ⟨_, rfl, _, rfl, p, CL, dx, [], rfl, hp, T.clL, T.lSend, (by show 0 < 1000; decide), ?_⟩
    refine ⟨_, rfl, _, rfl, p, CL, dx, _, rfl, upd_same, T.clL, T.lRecv, (by show 1 < 1000; decide), ?_⟩
    refine ⟨_, rfl, _, rfl, p, CL, dx, _, rfl, upd_same, T.clL, T.lKnown, (by show 2 < 1000; decide), ?_⟩
    refine ⟨_, rfl, _, rfl, p, CL, dx, _, rfl, upd_same, T.clL, T.lCount, (by show 3 < 1000; decide), ?_⟩
    exact k _ (Eq.trans upd_same (congrArg (fun q => some (HO.ins CL dx q)) (lF_new a b kl ct))) fun b o e hb => by
      rw [upd_ne hb, upd_ne hb, upd_ne hb, upd_ne hb]; exact e
theorem scWr : FnScope ["self", "receiver"] ["self", "receiver"] (defScope sWrite) := ⟨rfl, rfl, rfl, by decide +kernel, rfl, by decide +kernel, by decide +kernel⟩
theorem ok_write {f fI : Addr} {fd fdI : FuncData} (F : Fun K "write_letter" "Node.write_letter" sWrite f fd) (T : Txt K mg CC CL CN CW) (M : Mk K CL fI) (GI : FnOk P w K mg base CX0 1 fI fdI ["self", "sender", "receiver", "known", "count"] (spLInit CL)) (bI : Binds K fdI ["self", "sender", "receiver", "known", "count"] []) : FnOk P w K mg base CX0 3 f fd ["self", "receiver"] (spWrite CC CL CN) := by
  refine F.ok scWr (fun vs H Q E h => ?_) (fun cdv A outer s H vs Q E hr h => ?_)
  · obtain ⟨N, n, m, x, rfl, _⟩ := h
    rfl
  · obtain ⟨N, n, m, x, rfl, hN, k⟩ := h
    obtain ⟨dx, ob⟩ := hN.ob
    obtain ⟨as, hk, kt⟩ := hN.ks
    refine ⟨_, pss_one (ps_ret (pe_make M GI hr rfl T.gL bI .nil pass0 (pa_cons (pe_fld (pv 0) rfl) (pa_cons (pv 1) (pa_cons (pe_callTy call_list_of (by rfl) T.list (by decide +kernel) (pa_cons (pe_fld (pv 0) rfl) pa_nil)) (pa_cons (pe_fld (pv 0) rfl) pa_nil)))))), ?_⟩
    refine ⟨_, rfl, N.a, CN, dx, _, _, rfl, ob, T.clN, T.nNum, nF_num _ _ _ _ _, _, rfl, _, rfl, N.a, CN, dx, _, _, rfl, ob, T.clN, T.nKnown, nF_known _ _ _ _ _, N.kl, _, rfl, .inl (SqL.of hk), fun q hq => ?_⟩
    have s1 : Same H (upd H q (.lst (as.map V.ref))) := same_new hq
    refine ⟨_, rfl, N.a, CN, dx, _, _, rfl, s1 _ _ ob, T.clN, T.nCount, nF_count _ _ _ _ _, ?_⟩
    intro y d ny nd ne
    refine ⟨y, d, q, n, m, x.count, rfl, upd_same, fun H' hy kp => ⟨rfl, ?_⟩⟩
    have s2 : Same (upd H q (.lst (as.map V.ref))) H' := Same.made ny nd kp
    exact k y q H' (s1.free ny) hq (s1.trans s2) ⟨⟨d, hy⟩, ⟨as, s2 _ _ upd_same, kt.imp fun a b h => h.same (s1.trans s2)⟩⟩
theorem scRc : FnScope ["self", "letter", "claim"] ["self", "letter"] (defScope sReceive) := ⟨rfl, rfl, rfl, by decide +kernel, rfl, by decide +kernel, by decide +kernel⟩
theorem ok_receive {f fL fO : Addr} {fd fdL fdO : FuncData} (F : Fun K "receive" "Node.receive" sReceive f fd) (T : Txt K mg CC CL CN CW)
    (GL : FnOk P w K mg base CX0 2 fL fdL ["self", "claim"] (spLearn CC CN)) (bL : Binds K fdL ["self", "claim"] []) (mL : Meth K CN "learn" fL)
    (GO : FnOk P w K mg base CX0 4 fO fdO ["self"] (spLook CC CN)) (bO : Binds K fdO ["self"] []) (mO : Meth K CN "look_through_own" fO) : FnOk P w K mg base CX0 5 f fd ["self", "letter"] (spReceive CC CL CN) := by
  refine F.ok scRc (fun vs H Q E h => ?_) (fun cdv A outer s H vs Q E hr h => ?_)
  · obtain ⟨N, n, x, la, lk, l, g, rfl, _⟩ := h
    rfl
  · obtain ⟨N, n, x, la, lk, l, g, rfl, hN, hL, hlk, hkn, hag, hre, hlx, hll, hlo, k⟩ := h
    have hr2 : Room 2 _ := hr.mono (by decide)
    obtain ⟨dl, obl⟩ := hL.ob
    obtain ⟨as, hks, kt⟩ := hL.ks
    obtain ⟨bs0, hk0, _⟩ := hN.ks
    have nla : la ∉ [N.kl] := by simpa using ne_of obl hk0 (by intro z; cases z)
    refine ⟨_, pss_cons (ps_for PassesOwn.never rfl (pi_list (pe_fld (pv 1) rfl)) (pg_name (i := 2) scRc.nd rfl (Or.inl rfl))
        (pss_one (ps_expr (pe_meth (pv 0) T.clN mL GL hr2 bL .nil pass0 (pa_cons (pv 2) pa_nil)))))
      (pss_cons (ps_fld (pv 0) (pe_callB (call_max2 rfl) (by rfl) T.max (by decide +kernel) (pa_cons (pe_fld (pv 0) rfl) (pa_cons (pe_fld (pv 1) rfl) pa_nil))) rfl)
      (pss_one (ps_ret (pe_meth0 (pv 0) T.clN mO GO hr bO .nil pass0)))), ?_⟩
    refine ⟨_, rfl, la, CL, dl, _, _, rfl, obl, T.clL, T.lKnown, lF_known _ _ _ _, lk, rfl, ⟨_, SqL.of hks⟩, for_list (K := K) (a := lk) (xs := as.map V.ref)
      (fun i σ H' => ∃ v : Option V, σ = [some (.ref N.a), some (.ref la), v] ∧ Fr H H' [N.kl] ∧ NodeAt CC CN H' N n { x with claims := (l.claims.take i).foldl (fun k c => Ha08.learn c k) x.claims } ∧ NN.Kn g ((l.claims.take i).foldl (fun k c => Ha08.learn c k) x.claims) ∧ ((l.claims.take i).foldl (fun k c => Ha08.learn c k) x.claims).length ≤ 1000 + i)
      ⟨none, rfl, Fr.refl _ _, hN, hkn, hlx⟩ (fun i σ H' _ ⟨_, _, e, _⟩ => SqL.of (e _ _ hks (by simpa using hlk))) ?_ ?_⟩
    · rintro i yv σ H' hi ⟨v, rfl, f1, hN1, hk1, hn1⟩
      obtain ⟨ca, hca, rfl⟩ := ref_at hi
      obtain ⟨c, hc, hcl⟩ := kt.get hca
      have hil := (List.getElem?_eq_some_iff.mp hc).1
      obtain ⟨dy, oby⟩ := hN1.ob
      refine ⟨_, rfl, N.a, dy, _, rfl, oby, nF_none _ _ _ _ _, _, rfl, N, n, _, ca, c, g, rfl, hN1, hcl.keep f1 (by simpa using hcl.not_lst hk0), hk1, hag c (List.mem_of_getElem? hc), ?_, fun H2 hN2 f2 => ?_⟩
      · show ((l.claims.take i).foldl (fun k c => Ha08.learn c k) x.claims).length ≤ 10000
        omega
      · have e : (l.claims.take (i + 1)).foldl (fun k c => Ha08.learn c k) x.claims = Ha08.learn c ((l.claims.take i).foldl (fun k c => Ha08.learn c k) x.claims) := by
          rw [take_snoc hc, List.foldl_append]
          rfl
        refine ⟨some (.ref ca), rfl, f1.trans f2, ?_, ?_, ?_⟩
        · rw [e]; exact hN2
        · rw [e]; exact hk1.learn (hag c (List.mem_of_getElem? hc))
        · rw [e]
          have := NN.learn_len (c := c) ((l.claims.take i).foldl (fun k c => Ha08.learn c k) x.claims)
          omega
    · rintro σ H' ⟨v, rfl, f1, hN1, hk1, hn1⟩
      rw [List.length_map, kt.len, List.take_length] at hN1 hk1 hn1
      obtain ⟨dy, oby⟩ := hN1.ob
      refine ⟨_, rfl, N.a, CN, dy, _, _, rfl, oby, T.clN, T.nCount, nF_count _ _ _ _ _, _, rfl, la, CL, dl, _, _, rfl, f1 _ _ obl nla, T.clL, T.lCount, lF_count _ _ _ _, _, _, rfl, _, rfl, N.a, CN, dy, _, rfl, oby, T.clN, T.nCount, (by show 5 < 1000; decide), ?_⟩
      have e1 : (if (l.count : Int) > (x.count : Int) then (l.count : Int) else (x.count : Int)) = ((max x.count l.count : Nat) : Int) := by
        split <;> omega
      have e2 : putF "count" (V.int (if (l.count : Int) > (x.count : Int) then (l.count : Int) else (x.count : Int))) (nF n x.count N.kl N.rl N.ld) = nF n (max x.count l.count) N.kl N.rl N.ld := by
        rw [e1]; rfl
      have f2 : Fr H' (upd H' N.a (.ins CN dy (nF n (max x.count l.count) N.kl N.rl N.ld))) [N.a] := fr_upd (by simp)
      have hN2 := hN1.set_count (ct := max x.count l.count) upd_same f2
      obtain ⟨dz, obz⟩ := hN2.ob
      have goal2 : _ := (⟨_, rfl, N.a, dz, _, rfl, obz, nF_none _ _ _ _ _, N, n, NN.gets x l, g, rfl, hN2, hk1, hre, Nat.le_trans (show (NN.gets x l).claims.length ≤ 1000 + l.claims.length from hn1) (by omega), hlo, fun H3 es h3 e3 f3 => k H3 es h3 (fun f hf => ?_) ?_⟩ :
        tMeth CN "look_through_own" (spLook CC CN) [] E0 (tVar 0) tNil [some (.ref N.a), some (.ref la), v] (upd H' N.a (.ins CN dy (nF n (max x.count l.count) N.kl N.rl N.ld))) Q)
      · rw [← e2] at goal2
        exact goal2
      · rcases e3 f hf with q | q
        · exact Or.inl q
        · by_cases hq : f ∈ N.fp
          · unfold NA.fp at hq
            simp at hq
            have t : ∀ {o : HO}, upd H' N.a (.ins CN dy (nF n (max x.count l.count) N.kl N.rl N.ld)) f = some o → False := fun {o} z => by rw [q] at z; cases z
            rcases hq with rfl | rfl | rfl | rfl | hq
            · exact (t obz).elim
            · obtain ⟨zs, hz, _⟩ := hN2.ks
              exact (t hz).elim
            · exact (t hN2.rs).elim
            · exact (t hN2.ds).elim
            · exact Or.inl hq
          · refine Or.inr ((f1.more (g := N.fp) (by simp [NA.fp])).free ?_ hq)
            refine (f2.more (g := N.fp) (by simp [NA.fp])).free q hq
      · refine ((f1.more ?_).trans (f2.more ?_)).trans (f3.more ?_) <;> simp [NA.fp]
        intro a ha
        exact Or.inr (Or.inr (Or.inr (Or.inr ha)))
theorem rg_nodes (k : Nat) : rgV 1 ((k : Int) + 1) = natV (Ha08.nodesOf k) := by
  have e : ((k : Int) + 1 - 1).toNat = k := by omega
  unfold rgV natV Ha08.nodesOf
  rw [e, List.map_map]
  refine List.map_congr_left fun i _ => ?_
  show V.int (1 + (i : Int)) = V.int ((i + 1 : Nat) : Int)
  congr 1
  omega
theorem scNI : FnScope ["self", "number", "nodes"] ["self", "number", "nodes"] (defScope sNInit) := ⟨rfl, rfl, rfl, by decide +kernel, rfl, by decide +kernel, by decide +kernel⟩
theorem ok_ninit {f : Addr} {fd : FuncData} (F : Fun K "__init__" "Node.__init__" sNInit f fd) (T : Txt K mg CC CL CN CW) : FnOk P w K mg base CX0 1 f fd ["self", "number", "nodes"] (spNInit CC CN) := by
  refine F.ok scNI (fun vs H Q E h => ?_) (fun cdv A outer s H vs Q E hr h => ?_)
  · obtain ⟨p, dx, n, k, rfl, _⟩ := h
    rfl
  · obtain ⟨p, dx, n, kk, rfl, hp, hk, k⟩ := h
    refine ⟨_, pss_cons (ps_fld (pv 0) (pv 1) rfl) (pss_cons (ps_fld (pv 0) pe_int rfl) (pss_cons (ps_fld (pv 0) (pe_lst pa_nil) rfl)
      (pss_cons (ps_fld (pv 0) (pe_listRg rfl (by rfl) T.list (prg_2 (by rfl) T.range pe_int (pe_op op_add (pv 2) pe_int))) rfl) (pss_one (ps_fld (pv 0) pe_dnewK rfl))))), ?_⟩
    refine ⟨_, rfl, _, rfl, p, CN, dx, [], rfl, hp, T.clN, T.nNum, (by show 0 < 1000; decide), ?_⟩
    refine ⟨_, rfl, p, CN, dx, _, rfl, upd_same, T.clN, T.nCount, (by show 1 < 1000; decide), Nat.zero_le _, fun kl hkl => ?_⟩
    have hpk : p ≠ kl := ne_of_none upd_same hkl
    refine ⟨_, rfl, p, CN, dx, _, rfl, (by rw [upd_ne hpk, upd_same]), T.clN, T.nKnown, (by show 2 < 1000; decide), ?_⟩
    refine ⟨_, rfl, _, _, rfl, rfl, _, _, rfl, rfl, RgOk.of_le (by omega) (by omega) (by omega) (by omega), fun rl hrl => ?_⟩
    have hpr : p ≠ rl := ne_of_none upd_same hrl
    have hkr : kl ≠ rl := ne_of_none (show upd _ p _ kl = some _ by rw [upd_ne hpk.symm, upd_same]) hrl
    refine ⟨_, rfl, p, CN, dx, _, rfl, (by rw [upd_ne hpr, upd_same]), T.clN, T.nReached, (by show 3 < 1000; decide), fun ld hld => ?_⟩
    have hpd : p ≠ ld := ne_of_none upd_same hld
    have hrd : rl ≠ ld := ne_of_none (show upd _ p _ rl = some _ by rw [upd_ne hpr.symm, upd_same]) hld
    have hkd : kl ≠ ld := ne_of_none (show upd _ p _ kl = some _ by rw [upd_ne hpk.symm, upd_ne hkr, upd_ne hpk.symm, upd_same]) hld
    refine ⟨_, rfl, p, CN, dx, _, rfl, (by rw [upd_ne hpd, upd_same]), T.clN, T.nLosses, (by show 4 < 1000; decide), ?_⟩
    have fk : H kl = none := by
      rw [upd_ne hpk.symm, upd_ne hpk.symm] at hkl
      exact hkl
    have fr : H rl = none := by
      rw [upd_ne hpr.symm, upd_ne hkr.symm, upd_ne hpr.symm, upd_ne hpr.symm] at hrl
      exact hrl
    have fd' : H ld = none := by
      rw [upd_ne hpd.symm, upd_ne hrd.symm, upd_ne hpd.symm, upd_ne hkd.symm, upd_ne hpd.symm, upd_ne hpd.symm] at hld
      exact hld
    refine k _ ⟨p, kl, rl, ld, []⟩ rfl ⟨⟨dx, ?_⟩, ⟨[], ?_, .nil⟩, ?_, ?_, (fun q l hl => by cases hl), (fun q hq => rfl), ?_, by simp, by simp⟩ ?_ ?_
    · exact Eq.trans upd_same (congrArg (fun q => some (HO.ins CN dx q)) (nF_new n kl rl ld))
    · show upd _ p _ kl = _
      rw [upd_ne hpk.symm, upd_ne hkd, upd_ne hpk.symm, upd_ne hkr, upd_ne hpk.symm, upd_same]
      rfl
    · show upd _ p _ rl = _
      rw [upd_ne hpr.symm, upd_ne hrd, upd_ne hpr.symm, upd_same, rg_nodes]
    · show upd _ p _ ld = _
      rw [upd_ne hpd.symm, upd_same]
      rfl
    · show ([kl, rl] : List Addr).Nodup
      simp [hkr]
    · intro f hf
      unfold NA.fp NA.ls at hf
      simp at hf
      rcases hf with rfl | rfl | rfl | rfl
      · exact Or.inl rfl
      · exact Or.inr fk
      · exact Or.inr fr
      · exact Or.inr fd'
    · intro b o e hb
      rw [upd_ne hb, upd_ne (ne_of_none e fd'), upd_ne hb, upd_ne (ne_of_none e fr), upd_ne hb, upd_ne (ne_of_none e fk), upd_ne hb, upd_ne hb]
      exact e
end
end NH
set_option Elab.async false
set_option linter.all false
set_option maxRecDepth 100000
set_option maxHeartbeats 4000000
namespace NH
open PySem PySem.Spec PyProof.Rows L2
/-! ### 15. The world in the heap -/
structure LA where
  a : Addr
  kl : Addr
structure WA where
  w : Addr
  nl : Addr
  ll : Addr
  Ns : List NA
  Ls : List LA
def wF (nl ll : Addr) : List (Str × V) := [("nodes", .ref nl), ("letters", .ref ll)]
def nRefs (Ns : List NA) : List V := (Ns.map (·.a)).map V.ref
def lRefs (Ls : List LA) : List V := (Ls.map (·.a)).map V.ref
structure WorldAt (CC CL CN CW : Addr) (H : Hp) (W : WA) (s : Ha08.St) : Prop where
  ob : ∃ dx, H W.w = some (.ins CW dx (wF W.nl W.ll))
  nl : H W.nl = some (.lst (nRefs W.Ns))
  len : W.Ns.length = s.nodes.length
  ns : ∀ (i : Nat) (N : NA) (x : Ha08.Node), W.Ns[i]? = some N → s.nodes[i]? = some x → NodeAt CC CN H N (i + 1) x
  ll : H W.ll = some (.lst (lRefs W.Ls))
  ls : Two (fun L l => LetterAt CC CL H L.a L.kl l) W.Ls s.air
  d1 : ∀ (i j : Nat) (N M : NA), i ≠ j → W.Ns[i]? = some N → W.Ns[j]? = some M → ∀ f ∈ N.fp, f ∉ M.fp
  d2 : ∀ N : NA, N ∈ W.Ns → W.nl ∉ N.fp ∧ W.ll ∉ N.fp
  d3 : W.nl ≠ W.ll
  d4 : ∀ L : LA, L ∈ W.Ls → L.kl ≠ W.nl ∧ L.kl ≠ W.ll ∧ ∀ N : NA, N ∈ W.Ns → L.kl ∉ N.fp
section
variable {CC CL CN CW : Addr}
theorem NodeAt.tracked {H : Hp} {N : NA} {n : Nat} {x : Ha08.Node} (h : NodeAt CC CN H N n x) {f : Addr} (hf : f ∈ N.fp) : ∃ o, H f = some o ∧ ((∃ dx, o = .ins CN dx (nF n x.count N.kl N.rl N.ld)) ∨ (∃ xs, o = .lst xs) ∨ ∃ kvs, o = .dK kvs) := by
  unfold NA.fp at hf
  simp at hf
  rcases hf with rfl | rfl | rfl | rfl | hf
  · obtain ⟨dx, ob⟩ := h.ob
    exact ⟨_, ob, Or.inl ⟨dx, rfl⟩⟩
  · obtain ⟨as, e, _⟩ := h.ks
    exact ⟨_, e, Or.inr (Or.inl ⟨_, rfl⟩)⟩
  · exact ⟨_, h.rs, Or.inr (Or.inl ⟨_, rfl⟩)⟩
  · exact ⟨_, h.ds, Or.inr (Or.inr ⟨_, rfl⟩)⟩
  · obtain ⟨⟨p, l⟩, he, rfl⟩ := List.mem_map.mp hf
    obtain ⟨ts, e, _⟩ := h.ls p l he
    exact ⟨_, e, Or.inr (Or.inl ⟨_, rfl⟩)⟩
theorem NodeAt.tup_free {H : Hp} {N : NA} {n : Nat} {x : Ha08.Node} (h : NodeAt CC CN H N n x) {a : Addr} {xs : List V} (ha : H a = some (.tup xs)) : a ∉ N.fp := fun hf => by
  obtain ⟨o, e, q⟩ := h.tracked hf
  rw [ha] at e
  cases e
  rcases q with ⟨_, q⟩ | ⟨_, q⟩ | ⟨_, q⟩ <;> cases q
/-- an instance with other attributes is no part of a node -/
theorem NodeAt.ins_free {H : Hp} {N : NA} {n : Nat} {x : Ha08.Node} (h : NodeAt CC CN H N n x) {a C dx : Addr} {fs : List (Str × V)} (ha : H a = some (.ins C dx fs)) (hf : fs.lookup ("number" : Str) = none) : a ∉ N.fp := fun q => by
  obtain ⟨o, e, q⟩ := h.tracked q
  rw [ha] at e
  cases e
  rcases q with ⟨_, q⟩ | ⟨_, q⟩ | ⟨_, q⟩
  · injection q with q1 q2 q3
    rw [q3, nF_num] at hf
    cases hf
  · cases q
  · cases q
theorem wF_nodes (nl ll : Addr) : (wF nl ll).lookup ("nodes" : Str) = some (.ref nl) := lk_here
theorem wF_letters (nl ll : Addr) : (wF nl ll).lookup ("letters" : Str) = some (.ref ll) := (lk_past (by decide +kernel)).trans lk_here
theorem wF_none (nl ll : Addr) {m : Str} (h1 : (m == "nodes") = false := by decide +kernel) (h2 : (m == "letters") = false := by decide +kernel) : (wF nl ll).lookup m = none := (lk_past h1).trans ((lk_past h2).trans rfl)
theorem lF_none (a b : Nat) (kl : Addr) (ct : Nat) {m : Str} (h1 : (m == "sender") = false := by decide +kernel) (h2 : (m == "receiver") = false := by decide +kernel) (h3 : (m == "known") = false := by decide +kernel) (h4 : (m == "count") = false := by decide +kernel) : (lF a b kl ct).lookup m = none := (lk_past h1).trans ((lk_past h2).trans ((lk_past h3).trans ((lk_past h4).trans rfl)))
theorem set_ix {α : Type} {l : List α} {i j : Nat} {x y : α} (h : (l.set i x)[j]? = some y) : (j = i ∧ y = x) ∨ (j ≠ i ∧ l[j]? = some y) := by
  rw [List.getElem?_set] at h
  by_cases e : i = j
  · subst e
    rw [if_pos rfl] at h
    split at h
    · exact Or.inl ⟨rfl, (Option.some.inj h).symm⟩
    · cases h
  · rw [if_neg e] at h
    exact Or.inr ⟨fun q => e q.symm, h⟩
theorem set_mem {α : Type} {l : List α} {i : Nat} {x y : α} (h : y ∈ l.set i x) : y = x ∨ y ∈ l := by
  obtain ⟨j, hj⟩ := List.getElem?_of_mem h
  rcases set_ix hj with ⟨_, e⟩ | ⟨_, e⟩
  · exact Or.inl e
  · exact Or.inr (List.mem_of_getElem? e)
theorem nRefs_set {Ns : List NA} {i : Nat} {N N' : NA} (hi : Ns[i]? = some N) (ha : N'.a = N.a) : nRefs (Ns.set i N') = nRefs Ns := by
  unfold nRefs
  congr 1
  rw [List.map_set, ha]
  exact NN.set_self (by rw [List.getElem?_map, hi]; rfl)
/-- one node was changed -/
theorem WorldAt.node {H H' : Hp} {W : WA} {s : Ha08.St} (h : WorldAt CC CL CN CW H W s) {i : Nat} {N N' : NA} {x x' : Ha08.Node} (hi : W.Ns[i]? = some N) (hx : s.nodes[i]? = some x) (hN : NodeAt CC CN H' N' (i + 1) x') (ha : N'.a = N.a) (hf : ∀ f ∈ N'.fp, f ∈ N.fp ∨ H f = none) (fr : Fr H H' N.fp) :
    WorldAt CC CL CN CW H' { W with Ns := W.Ns.set i N' } (Ha08.setNode s (i + 1) x') := by
  have hN0 := h.ns i N x hi hx
  have hmem := List.mem_of_getElem? hi
  obtain ⟨dx, ob⟩ := h.ob
  have old : ∀ j M, j ≠ i → W.Ns[j]? = some M → ∃ y, s.nodes[j]? = some y ∧ NodeAt CC CN H M (j + 1) y := fun j M _ hj => by
    have hl := (List.getElem?_eq_some_iff.mp hj).1
    rw [h.len] at hl
    exact ⟨_, List.getElem?_eq_getElem hl, h.ns j M _ hj (List.getElem?_eq_getElem hl)⟩
  have nf : ∀ j M, j ≠ i → W.Ns[j]? = some M → ∀ f ∈ N'.fp, f ∉ M.fp := fun j M hj hM f q r => by
    rcases hf f q with q | q
    · exact h.d1 i j N M (fun e => hj e.symm) hi hM f q r
    · obtain ⟨y, _, hy⟩ := old j M hj hM
      obtain ⟨o, e, _⟩ := hy.tracked r
      rw [q] at e
      cases e
  refine ⟨⟨dx, fr _ _ ob (hN0.ins_free ob (wF_none _ _))⟩, ?_, by rw [List.length_set, h.len, NN.set_len], ?_, fr _ _ h.ll (h.d2 N hmem).2, ?_, ?_, ?_, h.d3, ?_⟩
  · rw [nRefs_set hi ha]
    exact fr _ _ h.nl (h.d2 N hmem).1
  · intro j M y hM hy
    have hy : (s.nodes.set (i + 1 - 1) x')[j]? = some y := hy
    rw [Nat.add_sub_cancel] at hy
    rcases set_ix hM with ⟨rfl, rfl⟩ | ⟨e, hM⟩
    · rcases set_ix hy with ⟨_, rfl⟩ | ⟨e, _⟩
      · exact hN
      · exact absurd rfl e
    · rcases set_ix hy with ⟨rfl, _⟩ | ⟨_, hy⟩
      · exact absurd rfl e
      · exact (h.ns j M y hM hy).keep fr (fun a q => h.d1 j i M N e hM hi a q) (fun a c q => hN0.claim_free q) (fun a xs q => hN0.tup_free q)
  · exact h.ls.imp_mem fun L l hL q => by
      obtain ⟨dl, hl⟩ := q.ob
      exact q.keep fr (hN0.ins_free hl (lF_none _ _ _ _)) ((h.d4 L hL).2.2 N hmem) (fun a c q => hN0.claim_free q)
  · intro j k M M' hjk hM hM' f q
    rcases set_ix hM with ⟨e, eM⟩ | ⟨e, hM2⟩
    · rcases set_ix hM' with ⟨e', _⟩ | ⟨e', hM3⟩
      · exact absurd (e.trans e'.symm) hjk
      · exact nf k M' e' hM3 f (eM ▸ q)
    · rcases set_ix hM' with ⟨e', eM⟩ | ⟨e', hM3⟩
      · exact fun r => nf j M e hM2 f (eM ▸ r) q
      · exact h.d1 j k M M' hjk hM2 hM3 f q
  · intro M hM
    rcases set_mem hM with rfl | hM
    · constructor
      · intro q
        rcases hf _ q with q | q
        · exact (h.d2 N hmem).1 q
        · have := h.nl
          rw [q] at this
          cases this
      · intro q
        rcases hf _ q with q | q
        · exact (h.d2 N hmem).2 q
        · have := h.ll
          rw [q] at this
          cases this
    · exact h.d2 M hM
  · intro L hL
    obtain ⟨c1, c2, c3⟩ := h.d4 L hL
    refine ⟨c1, c2, fun M hM q => ?_⟩
    rcases set_mem hM with rfl | hM
    · rcases hf _ q with q | q
      · exact c3 N hmem q
      · obtain ⟨l, _, hl⟩ := h.ls.mem_left hL
        obtain ⟨as, e, _⟩ := hl.ks
        rw [q] at e
        cases e
    · exact c3 M hM q
/-- new things alone -/
theorem WorldAt.same {H H' : Hp} {W : WA} {s : Ha08.St} (h : WorldAt CC CL CN CW H W s) (sm : Same H H') : WorldAt CC CL CN CW H' W s := by
  obtain ⟨dx, ob⟩ := h.ob
  exact ⟨⟨dx, sm _ _ ob⟩, sm _ _ h.nl, h.len, fun i N x a b => (h.ns i N x a b).same sm, sm _ _ h.ll, h.ls.imp fun L l q => q.same sm, h.d1, h.d2, h.d3, h.d4⟩
/-- the list of letters was changed -/
theorem WorldAt.letters {H H' : Hp} {W : WA} {s : Ha08.St} (h : WorldAt CC CL CN CW H W s) {Ls : List LA} {air : List Ha08.Letter} (fr : Fr H H' [W.ll]) (hl : H' W.ll = some (.lst (lRefs Ls))) (ht : Two (fun L l => LetterAt CC CL H' L.a L.kl l) Ls air)
    (hd : ∀ L ∈ Ls, L.kl ≠ W.nl ∧ L.kl ≠ W.ll ∧ ∀ N ∈ W.Ns, L.kl ∉ N.fp) : WorldAt CC CL CN CW H' { W with Ls := Ls } { s with air := air } := by
  obtain ⟨dx, ob⟩ := h.ob
  refine ⟨⟨dx, fr _ _ ob ?_⟩, fr _ _ h.nl (by simpa using h.d3), h.len, fun i N x a b => ?_, hl, ht, h.d1, h.d2, h.d3, hd⟩
  · simpa using ne_of ob h.ll (by intro z; cases z)
  · refine (h.ns i N x a b).keep fr (fun f q r => ?_) (fun f c q => ?_) (fun f xs q => ?_)
    · simp at r
      exact (h.d2 N (List.mem_of_getElem? a)).2 (r ▸ q)
    · simpa using q.not_lst h.ll
    · simpa using ne_of q h.ll (by intro z; cases z)
theorem WorldAt.letter_keep {H H' : Hp} {W : WA} {s : Ha08.St} (h : WorldAt CC CL CN CW H W s) (fr : Fr H H' [W.ll]) {L : LA} {l : Ha08.Letter} (hL : L ∈ W.Ls) (q : LetterAt CC CL H L.a L.kl l) : LetterAt CC CL H' L.a L.kl l := by
  obtain ⟨dl, hl⟩ := q.ob
  refine q.keep fr ?_ ?_ (fun f c r => ?_)
  · simpa using ne_of hl h.ll (by intro z; cases z)
  · simpa using (h.d4 L hL).2.1
  · simpa using r.not_lst h.ll
theorem WorldAt.send {H H1 : Hp} {W : WA} {s : Ha08.St} (h : WorldAt CC CL CN CW H W s) {a kl : Addr} {l : Ha08.Letter} (sm : Same H H1) (ha : H a = none) (hk : H kl = none) (hl : LetterAt CC CL H1 a kl l) :
    WorldAt CC CL CN CW (upd H1 W.ll (.lst (lRefs W.Ls ++ [V.ref a]))) { W with Ls := W.Ls ++ [⟨a, kl⟩] } { s with air := s.air ++ [l] } := by
  have h1 := h.same sm
  have hkw : ∀ {f : Addr} {o : HO}, H f = some o → kl ≠ f := fun e => (ne_of_none e hk).symm
  have dn : kl ≠ W.nl ∧ kl ≠ W.ll ∧ ∀ N ∈ W.Ns, kl ∉ N.fp := by
    refine ⟨hkw h.nl, hkw h.ll, fun N hN q => ?_⟩
    obtain ⟨i, hi⟩ := List.getElem?_of_mem hN
    have hlt := (List.getElem?_eq_some_iff.mp hi).1
    rw [h.len] at hlt
    obtain ⟨o, e, _⟩ := (h.ns i N _ hi (List.getElem?_eq_getElem hlt)).tracked q
    rw [hk] at e
    cases e
  have fr : Fr H1 (upd H1 W.ll (.lst (lRefs W.Ls ++ [V.ref a]))) [W.ll] := fr_upd (by simp)
  refine h1.letters fr ?_ ((h1.ls.imp_mem fun L l' hL q => h1.letter_keep fr hL q).append (.one ?_)) ?_
  · rw [upd_same]
    simp [lRefs]
  · obtain ⟨dl, ol⟩ := hl.ob
    refine hl.keep fr ?_ ?_ (fun f c r => ?_)
    · simpa using ne_of ol h1.ll (by intro z; cases z)
    · simpa using dn.2.1
    · simpa using r.not_lst h1.ll
  · intro L hL
    rcases List.mem_append.mp hL with hL | hL
    · exact h.d4 L hL
    · simp at hL
      subst hL
      exact dn
theorem WorldAt.drop {H : Hp} {W : WA} {s : Ha08.St} (h : WorldAt CC CL CN CW H W s) (j : Nat) : WorldAt CC CL CN CW (upd H W.ll (.lst ((lRefs W.Ls).eraseIdx j))) { W with Ls := W.Ls.eraseIdx j } { s with air := s.air.eraseIdx j } := by
  have fr : Fr H (upd H W.ll (.lst ((lRefs W.Ls).eraseIdx j))) [W.ll] := fr_upd (by simp)
  refine h.letters fr ?_ ((h.ls.imp_mem fun L l' hL q => h.letter_keep fr hL q).erase j) fun L hL => h.d4 L (NN.erase_mem hL)
  rw [upd_same]
  unfold lRefs
  rw [map_erase, map_erase]
theorem WorldAt.at_ {H : Hp} {W : WA} {s : Ha08.St} (h : WorldAt CC CL CN CW H W s) {n : Nat} (h1 : 1 ≤ n) (h2 : n ≤ s.nodes.length) : ∃ N, W.Ns[n - 1]? = some N ∧ N ∈ W.Ns ∧ NodeAt CC CN H N n (Ha08.node s n) := by
  have hl : n - 1 < W.Ns.length := by rw [h.len]; omega
  refine ⟨_, List.getElem?_eq_getElem hl, List.getElem_mem hl, ?_⟩
  have := h.ns (n - 1) _ _ (List.getElem?_eq_getElem hl) (NN.node_at h1 h2)
  rw [Nat.sub_add_cancel h1] at this
  exact this
/-- the n-th node was changed -/
theorem WorldAt.put {H H' : Hp} {W : WA} {s : Ha08.St} (h : WorldAt CC CL CN CW H W s) {n : Nat} {N N' : NA} {x' : Ha08.Node} (h1 : 1 ≤ n) (h2 : n ≤ s.nodes.length) (hi : W.Ns[n - 1]? = some N) (hN : NodeAt CC CN H' N' n x') (ha : N'.a = N.a) (hf : ∀ f ∈ N'.fp, f ∈ N.fp ∨ H f = none) (fr : Fr H H' N.fp) :
    WorldAt CC CL CN CW H' { W with Ns := W.Ns.set (n - 1) N' } (Ha08.setNode s n x') := by
  obtain ⟨i, rfl⟩ : ∃ i, n = i + 1 := ⟨n - 1, by omega⟩
  exact h.node hi (NN.node_at h1 h2) hN ha hf fr
/-- .. and lies where it lay -/
theorem WorldAt.put_ {H H' : Hp} {W : WA} {s : Ha08.St} (h : WorldAt CC CL CN CW H W s) {n : Nat} {N : NA} {x' : Ha08.Node} {f : List Addr} (h1 : 1 ≤ n) (h2 : n ≤ s.nodes.length) (hi : W.Ns[n - 1]? = some N) (hN : NodeAt CC CN H' N n x') (fr : Fr H H' f) (hf : ∀ a ∈ f, a ∈ N.fp) :
    WorldAt CC CL CN CW H' W (Ha08.setNode s n x') := by
  have := h.put h1 h2 hi hN rfl (fun f q => Or.inl q) (fr.more hf)
  rw [NN.set_self hi] at this
  exact this
end
end NH
set_option Elab.async false
set_option linter.all false
set_option maxRecDepth 100000
set_option maxHeartbeats 4000000
namespace NH
open PySem PySem.Spec PyProof.Rows L2
abbrev tW_ : Nat := 19
abbrev sWInit : Stmt := inClass (top tW_) 0
abbrev sIsNode : Stmt := inClass (top tW_) 1
abbrev sIsProc : Stmt := inClass (top tW_) 2
abbrev sIsLetter : Stmt := inClass (top tW_) 3
abbrev sTwo : Stmt := inClass (top tW_) 4
abbrev sNodeAt : Stmt := inClass (top tW_) 5
abbrev sFull : Stmt := inClass (top tW_) 6
abbrev sSend : Stmt := inClass (top tW_) 7
abbrev sBeginW : Stmt := inClass (top tW_) 9
/-! ### 16. From one state of the world to the next -/
def WA.fp (W : WA) : List Addr := W.w :: W.nl :: W.ll :: (W.Ns.flatMap NA.fp ++ W.Ls.map (·.kl))
theorem mem_wfp {W : WA} {f : Addr} : f ∈ W.fp ↔ f = W.w ∨ f = W.nl ∨ f = W.ll ∨ (∃ N ∈ W.Ns, f ∈ N.fp) ∨ ∃ L ∈ W.Ls, L.kl = f := by
  unfold WA.fp
  simp
structure Stp (H : Hp) (W : WA) (H' : Hp) (W' : WA) : Prop where
  w : W'.w = W.w
  sub : ∀ f ∈ W'.fp, f ∈ W.fp ∨ H f = none
  fr : Fr H H' W.fp
section
variable {CC CL CN CW : Addr}
theorem Stp.refl (H : Hp) (W : WA) : Stp H W H W := ⟨rfl, fun _ h => Or.inl h, Fr.refl _ _⟩
theorem Stp.trans {H H1 H2 : Hp} {W W1 W2 : WA} (a : Stp H W H1 W1) (b : Stp H1 W1 H2 W2) : Stp H W H2 W2 := by
  refine ⟨b.w.trans a.w, fun f hf => ?_, fun c o h n => ?_⟩
  · rcases b.sub f hf with q | q
    · exact a.sub f q
    · by_cases hn : f ∈ W.fp
      · exact Or.inl hn
      · exact Or.inr (a.fr.free q hn)
  · refine b.fr c o (a.fr c o h n) fun q => ?_
    rcases a.sub c q with r | r
    · exact n r
    · rw [r] at h; cases h
theorem Stp.same {H H' : Hp} {W : WA} (a : Same H H') : Stp H W H' W := ⟨rfl, fun _ h => Or.inl h, .same a⟩
theorem Stp.node {H H' : Hp} {W : WA} {i : Nat} {N N' : NA} (hi : W.Ns[i]? = some N) (hf : ∀ f ∈ N'.fp, f ∈ N.fp ∨ H f = none) (fr : Fr H H' N.fp) : Stp H W H' { W with Ns := W.Ns.set i N' } := by
  have hm := List.mem_of_getElem? hi
  refine ⟨rfl, fun f q => ?_, fr.more fun f q => mem_wfp.mpr (Or.inr (Or.inr (Or.inr (Or.inl ⟨N, hm, q⟩))))⟩
  rcases mem_wfp.mp q with q | q | q | ⟨M, hM, q⟩ | q
  · exact Or.inl (mem_wfp.mpr (Or.inl q))
  · exact Or.inl (mem_wfp.mpr (Or.inr (Or.inl q)))
  · exact Or.inl (mem_wfp.mpr (Or.inr (Or.inr (Or.inl q))))
  · rcases set_mem hM with rfl | hM
    · rcases hf f (by assumption) with q | q
      · exact Or.inl (mem_wfp.mpr (Or.inr (Or.inr (Or.inr (Or.inl ⟨N, hm, q⟩)))))
      · exact Or.inr q
    · exact Or.inl (mem_wfp.mpr (Or.inr (Or.inr (Or.inr (Or.inl ⟨M, hM, q⟩)))))
  · exact Or.inl (mem_wfp.mpr (Or.inr (Or.inr (Or.inr (Or.inr q)))))
theorem Stp.node_ {H H' : Hp} {W : WA} {i : Nat} {N : NA} {f : List Addr} (hi : W.Ns[i]? = some N) (fr : Fr H H' f) (hf : ∀ a ∈ f, a ∈ N.fp) : Stp H W H' W :=
  ⟨rfl, fun _ h => Or.inl h, fr.more fun a q => mem_wfp.mpr (Or.inr (Or.inr (Or.inr (Or.inl ⟨N, List.mem_of_getElem? hi, hf a q⟩))))⟩
theorem Stp.air {H H' : Hp} {W : WA} {Ls : List LA} (fr : Fr H H' [W.ll]) (hL : ∀ L : LA, L ∈ Ls → L ∈ W.Ls ∨ H L.kl = none) : Stp H W H' { W with Ls := Ls } := by
  refine ⟨rfl, fun f h => ?_, fr.more fun a q => mem_wfp.mpr (by simp at q; simp [q])⟩
  rcases mem_wfp.mp h with q | q | q | q | ⟨L, hl, rfl⟩
  · exact Or.inl (mem_wfp.mpr (Or.inl q))
  · exact Or.inl (mem_wfp.mpr (Or.inr (Or.inl q)))
  · exact Or.inl (mem_wfp.mpr (Or.inr (Or.inr (Or.inl q))))
  · exact Or.inl (mem_wfp.mpr (Or.inr (Or.inr (Or.inr (Or.inl q)))))
  · rcases hL L hl with r | r
    · exact Or.inl (mem_wfp.mpr (Or.inr (Or.inr (Or.inr (Or.inr ⟨L, r, rfl⟩)))))
    · exact Or.inr r
theorem WorldAt.tracked {H : Hp} {W : WA} {s : Ha08.St} (h : WorldAt CC CL CN CW H W s) {f : Addr} (hf : f ∈ W.fp) : ∃ o, H f = some o := by
  rcases mem_wfp.mp hf with rfl | rfl | rfl | ⟨N, hN, q⟩ | ⟨L, hL, rfl⟩
  · obtain ⟨dx, e⟩ := h.ob
    exact ⟨_, e⟩
  · exact ⟨_, h.nl⟩
  · exact ⟨_, h.ll⟩
  · obtain ⟨i, hi⟩ := List.getElem?_of_mem hN
    have hlt := (List.getElem?_eq_some_iff.mp hi).1
    rw [h.len] at hlt
    obtain ⟨o, e, _⟩ := (h.ns i N _ hi (List.getElem?_eq_getElem hlt)).tracked q
    exact ⟨o, e⟩
  · obtain ⟨l, _, hl⟩ := h.ls.mem_left hL
    obtain ⟨as, e, _⟩ := hl.ks
    exact ⟨_, e⟩
/-- a list that is no part of the world was changed -/
theorem WorldAt.aside {H H' : Hp} {W : WA} {s : Ha08.St} {t : Addr} {xs : List V} (h : WorldAt CC CL CN CW H W s) (fr : Fr H H' [t]) (ht : H t = some (.lst xs)) (hn : t ∉ W.fp) : WorldAt CC CL CN CW H' W s := by
  obtain ⟨dx, ob⟩ := h.ob
  have ne : ∀ {f : Addr}, f ∈ W.fp → f ∉ [t] := fun {f} q r => by
    simp at r
    exact hn (r ▸ q)
  have nc : ∀ a c, ClaimAt CC H a c → a ∉ [t] := fun a c q => by simpa using q.not_lst ht
  refine ⟨⟨dx, fr _ _ ob (ne (mem_wfp.mpr (Or.inl rfl)))⟩, fr _ _ h.nl (ne (mem_wfp.mpr (Or.inr (Or.inl rfl)))), h.len, fun i N x hi hx => ?_, fr _ _ h.ll (ne (mem_wfp.mpr (Or.inr (Or.inr (Or.inl rfl))))), h.ls.imp_mem fun L l hL q => ?_, h.d1, h.d2, h.d3, h.d4⟩
  · exact (h.ns i N x hi hx).keep fr (fun a q => ne (mem_wfp.mpr (Or.inr (Or.inr (Or.inr (Or.inl ⟨N, List.mem_of_getElem? hi, q⟩)))))) nc (fun a ys q => by simpa using ne_of q ht (by intro z; cases z))
  · obtain ⟨dl, hl⟩ := q.ob
    exact q.keep fr (by simpa using ne_of hl ht (by intro z; cases z)) (ne (mem_wfp.mpr (Or.inr (Or.inr (Or.inr (Or.inr ⟨L, hL, rfl⟩)))))) nc
/-- what a call hands back: a list of numbers; the world is as the specification says -/
def Ret (CC CL CN CW : Addr) (H : Hp) (W : WA) (s : Ha08.St) (c : Ha08.Call) (Q : VK) : Prop := ∀ (p : Addr) (H' : Hp) (W' : WA), Stp H W H' W' → WorldAt CC CL CN CW H' W' (Ha08.step s c).1 → H' p = some (.lst ((Ha08.step s c).2.map V.int)) → p ∉ W'.fp → (p ∈ W.fp ∨ H p = none) → Q (.ref p) H'
theorem Ret.new {H H1 : Hp} {W W1 : WA} {s : Ha08.St} {c : Ha08.Call} {Q : VK} {p : Addr} {vs : List V} (r : Ret CC CL CN CW H W s c Q) (st : Stp H W H1 W1) (hw : WorldAt CC CL CN CW H1 W1 (Ha08.step s c).1) (hp : H1 p = none) (e : (Ha08.step s c).2.map V.int = vs) : Q (.ref p) (upd H1 p (.lst vs)) := by
  refine r p _ W1 (st.trans (.same (same_new hp))) (hw.same (same_new hp)) (by rw [upd_same, e]) (fun q => ?_) ?_
  · obtain ⟨o, h⟩ := hw.tracked q
    rw [hp] at h
    cases h
  · by_cases hn : p ∈ W.fp
    · exact Or.inl hn
    · exact Or.inr (st.fr.free hp hn)
/-- nothing is changed -/
theorem Ret.stay {H : Hp} {W : WA} {s : Ha08.St} {c : Ha08.Call} {Q : VK} {p : Addr} {vs : List V} (r : Ret CC CL CN CW H W s c Q) (hw : WorldAt CC CL CN CW H W s) (es : (Ha08.step s c).1 = s) (hp : H p = none) (e : (Ha08.step s c).2.map V.int = vs) : Q (.ref p) (upd H p (.lst vs)) :=
  r.new (Stp.refl H W) (by rw [es]; exact hw) hp e
end
/-! ### 17. World: small ones -/
def spIsNode (CC CL CN CW : Addr) : Sp := fun vs H Q _ => ∃ (W : WA) (s : Ha08.St) (n : Nat), vs = [.ref W.w, .int n] ∧ WorldAt CC CL CN CW H W s ∧ Q (.bl (Ha08.isNode s n)) H
def spIsLetter (CC CL CN CW : Addr) : Sp := fun vs H Q _ => ∃ (W : WA) (s : Ha08.St) (k : Nat), vs = [.ref W.w, .int k] ∧ WorldAt CC CL CN CW H W s ∧ Q (.bl (decide (1 ≤ k) && decide (k ≤ s.air.length))) H
def spIsProc (CC CL CN CW : Addr) : Sp := fun vs H Q _ => ∃ (W : WA) (s : Ha08.St) (n p : Nat), vs = [.ref W.w, .int n, .int p] ∧ WorldAt CC CL CN CW H W s ∧ Q (.bl (Ha08.isNode s n && (decide (1 ≤ p) && decide (p ≤ 9)))) H
def spTwo (CC CL CN CW : Addr) : Sp := fun vs H Q _ => ∃ (W : WA) (s : Ha08.St) (n m : Nat), vs = [.ref W.w, .int n, .int m] ∧ WorldAt CC CL CN CW H W s ∧ Q (.bl (Ha08.isNode s n && (Ha08.isNode s m && !decide (n = m)))) H
def spNodeAt (CC CL CN CW : Addr) : Sp := fun vs H Q _ => ∃ (W : WA) (s : Ha08.St) (n : Nat) (N : NA), vs = [.ref W.w, .int n] ∧ WorldAt CC CL CN CW H W s ∧ 1 ≤ n ∧ W.Ns[n - 1]? = some N ∧ Q (.ref N.a) H
def spFull (CC CL CN CW : Addr) : Sp := fun vs H Q _ => ∃ (W : WA) (s : Ha08.St), vs = [.ref W.w] ∧ WorldAt CC CL CN CW H W s ∧ Q (.bl (decide (Ha08.AIR ≤ s.air.length))) H
def spSend (CC CL CN CW : Addr) : Sp := fun vs H Q _ => ∃ (W : WA) (s : Ha08.St) (n m : Nat), vs = [.ref W.w, .int n, .int m] ∧ WorldAt CC CL CN CW H W s ∧ 1 ≤ n ∧ n ≤ s.nodes.length ∧ s.air.length ≤ 1000 ∧
  ∀ (H' : Hp) (Ls : List LA), WorldAt CC CL CN CW H' { W with Ls := Ls } (Ha08.tells s n m) → Stp H W H' { W with Ls := Ls } → Q .non H'
section
variable {P : Program} {w : World} {K : PySem.W.Frag} {mg : Str → Option Value} {base : Heap} {CC CL CN CW : Addr}
theorem scIN : FnScope ["self", "n"] ["self", "n"] (defScope sIsNode) := ⟨rfl, rfl, rfl, by decide +kernel, rfl, by decide +kernel, by decide +kernel⟩
theorem nRefs_len {Ns : List NA} : (nRefs Ns).length = Ns.length := by simp [nRefs]
theorem lRefs_len {Ls : List LA} : (lRefs Ls).length = Ls.length := by simp [lRefs]
theorem ok_isNode {f : Addr} {fd : FuncData} (F : Fun K "is_node" "World.is_node" sIsNode f fd) (T : Txt K mg CC CL CN CW) : FnOk P w K mg base CX0 1 f fd ["self", "n"] (spIsNode CC CL CN CW) := by
  refine F.ok scIN (fun vs H Q E h => ?_) (fun cdv A outer s H vs Q E hr h => ?_)
  · obtain ⟨W, s, n, rfl, _⟩ := h
    rfl
  · obtain ⟨W, s, n, rfl, hW, k⟩ := h
    obtain ⟨dx, ob⟩ := hW.ob
    refine ⟨_, pss_one (ps_ret (pe_chain op_le op_le pe_int (pv 1) (pe_callB call_len_seq (by rfl) T.len PySem.boot_len (pa_cons (pe_fld (pv 0) rfl) pa_nil)))), ?_⟩
    refine ⟨_, rfl, _, _, rfl, rfl, _, rfl, ?_⟩
    unfold Ha08.isNode at k
    by_cases h1 : 1 ≤ n
    · refine iteY (by simp; omega) ?_
      refine ⟨_, rfl, W.w, CW, dx, _, _, rfl, ob, T.clW, T.wNodes, wF_nodes _ _, W.nl, _, rfl, .inl (SqL.of hW.nl), _, _, rfl, rfl, ?_⟩
      rw [nRefs_len, hW.len]
      rw [decide_eq_true h1, Bool.true_and] at k
      have e : decide ((n : Int) ≤ (s.nodes.length : Int)) = decide (n ≤ s.nodes.length) := by
        by_cases q : n ≤ s.nodes.length
        · simp [q]
        · have : ¬ ((n : Int) ≤ (s.nodes.length : Int)) := by omega
          simp [q]
      rw [← e] at k
      exact k
    · refine iteN (by simp; omega) ?_
      rw [decide_eq_false h1, Bool.false_and] at k
      exact k
theorem scIL : FnScope ["self", "k"] ["self", "k"] (defScope sIsLetter) := ⟨rfl, rfl, rfl, by decide +kernel, rfl, by decide +kernel, by decide +kernel⟩
theorem ok_isLetter {f : Addr} {fd : FuncData} (F : Fun K "is_letter" "World.is_letter" sIsLetter f fd) (T : Txt K mg CC CL CN CW) : FnOk P w K mg base CX0 1 f fd ["self", "k"] (spIsLetter CC CL CN CW) := by
  refine F.ok scIL (fun vs H Q E h => ?_) (fun cdv A outer s H vs Q E hr h => ?_)
  · obtain ⟨W, s, n, rfl, _⟩ := h
    rfl
  · obtain ⟨W, s, n, rfl, hW, k⟩ := h
    obtain ⟨dx, ob⟩ := hW.ob
    refine ⟨_, pss_one (ps_ret (pe_chain op_le op_le pe_int (pv 1) (pe_callB call_len_seq (by rfl) T.len PySem.boot_len (pa_cons (pe_fld (pv 0) rfl) pa_nil)))), ?_⟩
    refine ⟨_, rfl, _, _, rfl, rfl, _, rfl, ?_⟩
    by_cases h1 : 1 ≤ n
    · refine iteY (by simp; omega) ?_
      refine ⟨_, rfl, W.w, CW, dx, _, _, rfl, ob, T.clW, T.wLetters, wF_letters _ _, W.ll, _, rfl, .inl (SqL.of hW.ll), _, _, rfl, rfl, ?_⟩
      rw [lRefs_len, hW.ls.len]
      rw [decide_eq_true h1, Bool.true_and] at k
      have e : decide ((n : Int) ≤ (s.air.length : Int)) = decide (n ≤ s.air.length) := by
        by_cases q : n ≤ s.air.length
        · simp [q]
        · have : ¬ ((n : Int) ≤ (s.air.length : Int)) := by omega
          simp [q]
      rw [← e] at k
      exact k
    · refine iteN (by simp; omega) ?_
      rw [decide_eq_false h1, Bool.false_and] at k
      exact k
theorem scIP : FnScope ["self", "n", "p"] ["self", "n", "p"] (defScope sIsProc) := ⟨rfl, rfl, rfl, by decide +kernel, rfl, by decide +kernel, by decide +kernel⟩
theorem le_cast (a b : Nat) : decide ((a : Int) ≤ (b : Int)) = decide (a ≤ b) := by
  by_cases q : a ≤ b
  · simp [q]
  · simp [q]
theorem ok_isProc {f fN : Addr} {fd fdN : FuncData} (F : Fun K "is_process" "World.is_process" sIsProc f fd) (T : Txt K mg CC CL CN CW) (GN : FnOk P w K mg base CX0 1 fN fdN ["self", "n"] (spIsNode CC CL CN CW)) (bN : Binds K fdN ["self", "n"] []) (mN : Meth K CW "is_node" fN) : FnOk P w K mg base CX0 2 f fd ["self", "n", "p"] (spIsProc CC CL CN CW) := by
  refine F.ok scIP (fun vs H Q E h => ?_) (fun cdv A outer s H vs Q E hr h => ?_)
  · obtain ⟨W, s, n, p, rfl, _⟩ := h
    rfl
  · obtain ⟨W, s, n, p, rfl, hW, k⟩ := h
    obtain ⟨dx, ob⟩ := hW.ob
    obtain ⟨t9, h9⟩ := T.kLP
    refine ⟨_, pss_one (ps_ret (pe_and (pe_meth (pv 0) T.clW mN GN hr bN .nil pass0 (pa_cons (pv 1) pa_nil)) (pe_one (pe_chain op_le op_le pe_int (pv 2) (pe_glob (v := .int 9) (by rfl) h9 ⟨_, rfl⟩))))), ?_⟩
    refine ⟨_, rfl, W.w, dx, _, rfl, ob, wF_none _ _, _, rfl, W, s, n, rfl, hW, _, rfl, ?_⟩
    cases e : Ha08.isNode s n with
    | false =>
      rw [e, Bool.false_and] at k
      exact iteF k
    | true =>
      rw [e, Bool.true_and] at k
      refine iteT ?_
      refine ⟨_, rfl, _, _, rfl, rfl, _, rfl, ?_⟩
      by_cases h1 : 1 ≤ p
      · refine iteY (by simp; omega) ?_
        rw [decide_eq_true h1, Bool.true_and] at k
        refine ⟨_, _, rfl, rfl, ?_⟩
        have e2 : decide ((p : Int) ≤ 9) = decide (p ≤ 9) := le_cast p 9
        rw [← e2] at k
        exact k
      · refine iteN (by simp; omega) ?_
        rw [decide_eq_false h1, Bool.false_and] at k
        exact k
theorem scTw : FnScope ["self", "n", "m"] ["self", "n", "m"] (defScope sTwo) := ⟨rfl, rfl, rfl, by decide +kernel, rfl, by decide +kernel, by decide +kernel⟩
theorem eqI_cast (a b : Nat) : decide (V.int (a : Int) = V.int (b : Int)) = decide (a = b) := by
  by_cases h : a = b
  · rw [eqI_true h, decide_eq_true h]
  · rw [eqI_false h, decide_eq_false h]
theorem ok_two {f fN : Addr} {fd fdN : FuncData} (F : Fun K "are_two_nodes" "World.are_two_nodes" sTwo f fd) (T : Txt K mg CC CL CN CW) (GN : FnOk P w K mg base CX0 1 fN fdN ["self", "n"] (spIsNode CC CL CN CW)) (bN : Binds K fdN ["self", "n"] []) (mN : Meth K CW "is_node" fN) : FnOk P w K mg base CX0 2 f fd ["self", "n", "m"] (spTwo CC CL CN CW) := by
  refine F.ok scTw (fun vs H Q E h => ?_) (fun cdv A outer s H vs Q E hr h => ?_)
  · obtain ⟨W, s, n, m, rfl, _⟩ := h
    rfl
  · obtain ⟨W, s, n, m, rfl, hW, k⟩ := h
    obtain ⟨dx, ob⟩ := hW.ob
    refine ⟨_, pss_one (ps_ret (pe_and (pe_meth (pv 0) T.clW mN GN hr bN .nil pass0 (pa_cons (pv 1) pa_nil)) (pe_and (pe_meth (pv 0) T.clW mN GN hr bN .nil pass0 (pa_cons (pv 2) pa_nil)) (pe_one (pe_cmpR op_ne (pv 1) (pv 2) (nomark _)))))), ?_⟩
    refine ⟨_, rfl, W.w, dx, _, rfl, ob, wF_none _ _, _, rfl, W, s, n, rfl, hW, _, rfl, ?_⟩
    cases e : Ha08.isNode s n with
    | false =>
      rw [e, Bool.false_and] at k
      exact iteF k
    | true =>
      rw [e, Bool.true_and] at k
      refine iteT ?_
      refine ⟨_, rfl, W.w, dx, _, rfl, ob, wF_none _ _, _, rfl, W, s, m, rfl, hW, _, rfl, ?_⟩
      cases e : Ha08.isNode s m with
      | false =>
        rw [e, Bool.false_and] at k
        exact iteF k
      | true =>
        rw [e, Bool.true_and] at k
        refine iteT ?_
        refine ⟨_, rfl, _, rfl, rfl, ?_⟩
        rw [eqI_cast]
        exact k
theorem scNA : FnScope ["self", "n"] ["self", "n"] (defScope sNodeAt) := ⟨rfl, rfl, rfl, by decide +kernel, rfl, by decide +kernel, by decide +kernel⟩
theorem nRefs_at {Ns : List NA} {i : Nat} {N : NA} (h : Ns[i]? = some N) : (nRefs Ns)[i]? = some (V.ref N.a) := by
  unfold nRefs
  exact at_ref (by rw [List.getElem?_map, h]; rfl)
theorem ok_nodeAt {f : Addr} {fd : FuncData} (F : Fun K "node_at" "World.node_at" sNodeAt f fd) (T : Txt K mg CC CL CN CW) : FnOk P w K mg base CX0 1 f fd ["self", "n"] (spNodeAt CC CL CN CW) := by
  refine F.ok scNA (fun vs H Q E h => ?_) (fun cdv A outer s H vs Q E hr h => ?_)
  · obtain ⟨W, s, n, N, rfl, _⟩ := h
    rfl
  · obtain ⟨W, s, n, N, rfl, hW, h1, hN, k⟩ := h
    obtain ⟨dx, ob⟩ := hW.ob
    refine ⟨_, pss_one (ps_ret (pe_ix ix_list (pe_fld (pv 0) rfl) (pe_op op_sub (pv 1) pe_int) (fun _ _ => rfl))), ?_⟩
    exact ⟨_, rfl, W.w, CW, dx, _, _, rfl, ob, T.clW, T.wNodes, wF_nodes _ _, _, rfl, _, _, rfl, rfl, W.nl, _, _, _, rfl, rfl, SqL.of hW.nl, at_of (j := n - 1) (by omega) (nRefs_at hN), k⟩
theorem scFu : FnScope ["self"] ["self"] (defScope sFull) := ⟨rfl, rfl, rfl, by decide +kernel, rfl, by decide +kernel, by decide +kernel⟩
theorem ok_full {f : Addr} {fd : FuncData} (F : Fun K "is_full_of_letters" "World.is_full_of_letters" sFull f fd) (T : Txt K mg CC CL CN CW) : FnOk P w K mg base CX0 1 f fd ["self"] (spFull CC CL CN CW) := by
  refine F.ok scFu (fun vs H Q E h => ?_) (fun cdv A outer s H vs Q E hr h => ?_)
  · obtain ⟨W, s, rfl, _⟩ := h
    rfl
  · obtain ⟨W, s, rfl, hW, k⟩ := h
    obtain ⟨dx, ob⟩ := hW.ob
    obtain ⟨t, h100⟩ := T.kML
    refine ⟨_, pss_one (ps_ret (pe_cmpR op_ge (pe_callB call_len_seq (by rfl) T.len PySem.boot_len (pa_cons (pe_fld (pv 0) rfl) pa_nil)) (pe_glob (v := .int 100) (by rfl) h100 ⟨_, rfl⟩) (nomark _))), ?_⟩
    refine ⟨_, rfl, W.w, CW, dx, _, _, rfl, ob, T.clW, T.wLetters, wF_letters _ _, W.ll, _, rfl, .inl (SqL.of hW.ll), _, _, rfl, rfl, ?_⟩
    rw [lRefs_len, hW.ls.len]
    have e2 : decide ((100 : Int) ≤ (s.air.length : Int)) = decide (Ha08.AIR ≤ s.air.length) := le_cast 100 s.air.length
    rw [← e2] at k
    exact k
theorem scSe : FnScope ["self", "n", "m"] ["self", "n", "m"] (defScope sSend) := ⟨rfl, rfl, rfl, by decide +kernel, rfl, by decide +kernel, by decide +kernel⟩
theorem ok_send {f fA fL : Addr} {fd fdA fdL : FuncData} (F : Fun K "send_letter" "World.send_letter" sSend f fd) (T : Txt K mg CC CL CN CW) (GA : FnOk P w K mg base CX0 1 fA fdA ["self", "n"] (spNodeAt CC CL CN CW)) (bA : Binds K fdA ["self", "n"] []) (mA : Meth K CW "node_at" fA)
    (GL : FnOk P w K mg base CX0 3 fL fdL ["self", "receiver"] (spWrite CC CL CN)) (bL : Binds K fdL ["self", "receiver"] []) (mL : Meth K CN "write_letter" fL) : FnOk P w K mg base CX0 4 f fd ["self", "n", "m"] (spSend CC CL CN CW) := by
  refine F.ok scSe (fun vs H Q E h => ?_) (fun cdv A outer s H vs Q E hr h => ?_)
  · obtain ⟨W, s, n, m, rfl, _⟩ := h
    rfl
  · obtain ⟨W, s, n, m, rfl, hW, h1, h2, hlen, k⟩ := h
    obtain ⟨dx, ob⟩ := hW.ob
    obtain ⟨N, hN, hm, hNA⟩ := hW.at_ h1 h2
    obtain ⟨dn, obn⟩ := hNA.ob
    have hr1 : Room 1 _ := hr.mono (by decide)
    refine ⟨_, pss_one (ps_expr (pe_bm PySem.F.plainAttrs_list PySem.F.slot_list_append PySem.F.type_list_append mt_append (pe_fld (pv 0) rfl) (pa_cons (pe_meth (pe_meth (pv 0) T.clW mA GA hr1 bA .nil pass0 (pa_cons (pv 1) pa_nil)) T.clN mL GL hr bL .nil pass0 (pa_cons (pv 2) pa_nil)) pa_nil))), ?_⟩
    refine ⟨_, rfl, W.w, CW, dx, _, _, rfl, ob, T.clW, T.wLetters, wF_letters _ _, .inl ⟨rfl, _, SqL.of hW.ll⟩, _, rfl, W.w, dx, _, rfl, ob, wF_none _ _, _, rfl, W, s, n, N, rfl, hW, h1, hN, N.a, dn, _, rfl, obn, nF_none _ _ _ _ _, _, rfl, N, n, m, _, rfl, hNA, fun a kl H' ha hkl sm hL => ?_⟩
    refine ⟨W.ll, _, _, rfl, rfl, sm _ _ hW.ll, ?_, ?_⟩
    · rw [lRefs_len, hW.ls.len]
      exact small1000 hlen
    · refine k _ _ (hW.send sm ha hkl hL) ⟨rfl, fun f q => ?_, (Fr.same sm).trans ((fr_upd (by simp)).more (f := [W.ll]) fun a q => mem_wfp.mpr (by simp at q; simp [q]))⟩
      have := (Stp.air (H := H) (H' := H) (W := W) (Ls := W.Ls ++ [⟨a, kl⟩]) (Fr.refl _ _) fun L hL => by
        rcases List.mem_append.mp hL with r | r
        · exact Or.inl r
        · simp at r
          subst r
          exact Or.inr hkl)
      exact this.sub f q
end
end NH
set_option Elab.async false
set_option linter.all false
set_option maxRecDepth 100000
set_option maxHeartbeats 4000000
namespace NH
open PySem PySem.Spec PyProof.Rows L2
/-! ### 18. begin -/
def spBeginW (CC CL CN CW : Addr) : Sp := fun vs H Q _ => ∃ (W : WA) (s : Ha08.St) (n : Nat), vs = [.ref W.w, .int n] ∧ WorldAt CC CL CN CW H W s ∧ Ret CC CL CN CW H W s (.begin_ n) Q
def spWInit (CC CL CN CW : Addr) : Sp := fun vs H Q _ => ∃ (p dx : Addr), vs = [.ref p] ∧ H p = some (.ins CW dx []) ∧
  ∀ (H' : Hp) (W : WA), W.w = p → WorldAt CC CL CN CW H' W Ha08.init → (∀ f ∈ W.fp, f = p ∨ H f = none) → (∀ b o, H b = some o → b ≠ p → H' b = some o) → Q .non H'
/-- nodes made one behind another -/
structure Made (CC CN : Addr) (n : Nat) (H : Hp) (D : Addr) (i : Nat) (H' : Hp) (Ns : List NA) : Prop where
  hD : H D = none
  len : Ns.length = i
  lst : H' D = some (.lst (nRefs Ns))
  sm : Same H H'
  at_ : ∀ (j : Nat) (N : NA), Ns[j]? = some N → NodeAt CC CN H' N (j + 1) ⟨0, [], Ha08.nodesOf n, []⟩
  new : ∀ (N : NA), N ∈ Ns → ∀ f ∈ N.fp, H f = none ∧ f ≠ D
  dis : ∀ (a b : Nat) (N M : NA), a ≠ b → Ns[a]? = some N → Ns[b]? = some M → ∀ f ∈ N.fp, f ∉ M.fp
theorem snoc_ix {α : Type} {l : List α} {j : Nat} {x y : α} (h : (l ++ [x])[j]? = some y) : (j < l.length ∧ l[j]? = some y) ∨ (j = l.length ∧ y = x) := by
  rw [List.getElem?_append] at h
  split at h
  · rename_i q
    exact Or.inl ⟨q, h⟩
  · rename_i q
    by_cases e : j - l.length = 0
    · rw [e] at h
      exact Or.inr ⟨by omega, (Option.some.inj h).symm⟩
    · have : [x][j - l.length]? = none := List.getElem?_eq_none_iff.mpr (by simp; omega)
      rw [this] at h
      cases h
theorem Made.more {CC CN : Addr} {n : Nat} {H H1 H2 : Hp} {D x : Addr} {i : Nat} {Ns : List NA} {N : NA} {o1 o2 : HO} {dx : Addr} (m : Made CC CN n H D i H1 Ns) (hx : H1 x = none) (hdx : H1 dx = none) (ne : dx ≠ x) (ha : N.a = x) (hN : NodeAt CC CN H2 N (i + 1) ⟨0, [], Ha08.nodesOf n, []⟩)
    (hf : ∀ f ∈ N.fp, f = x ∨ (upd (upd H1 dx o1) x o2) f = none) (kp : ∀ b o, (upd (upd H1 dx o1) x o2) b = some o → b ≠ x → H2 b = some o) : Made CC CN n H D (i + 1) (upd H2 D (.lst (nRefs Ns ++ [V.ref x]))) (Ns ++ [N]) := by
  have s12 : Same H1 H2 := fun b o e => kp b o (by rw [upd_ne (ne_of_none e hx), upd_ne (ne_of_none e hdx)]; exact e) (ne_of_none e hx)
  have hfn : ∀ f ∈ N.fp, H1 f = none := fun f q => by
    rcases hf f q with rfl | q
    · exact hx
    · by_cases e1 : f = x
      · rw [e1]; exact hx
      · rw [upd_ne e1] at q
        by_cases e2 : f = dx
        · rw [e2]; exact hdx
        · rw [upd_ne e2] at q
          exact q
  have hD2 : H2 D = some (.lst (nRefs Ns)) := s12 _ _ m.lst
  have hDf : ∀ f ∈ N.fp, f ≠ D := fun f q e => by
    have := hfn f q
    rw [e, m.lst] at this
    cases this
  have fr : Fr H2 (upd H2 D (.lst (nRefs Ns ++ [V.ref x]))) [D] := fr_upd (by simp)
  have kN : ∀ {M : NA} {k : Nat} {z : Ha08.Node}, (∀ f ∈ M.fp, f ≠ D) → NodeAt CC CN H2 M k z → NodeAt CC CN (upd H2 D (.lst (nRefs Ns ++ [V.ref x]))) M k z := fun {M k z} hM q =>
    q.keep fr (fun a r => by simpa using hM a r) (fun a c r => by simpa using r.not_lst hD2) (fun a xs r => by simpa using ne_of r hD2 (by intro z; cases z))
  have old : ∀ (j : Nat) (M : NA), Ns[j]? = some M → ∀ f ∈ M.fp, ∃ o, H1 f = some o := fun j M hM f q => by
    obtain ⟨o, e, _⟩ := (m.at_ j M hM).tracked q
    exact ⟨o, e⟩
  refine ⟨m.hD, by simp [m.len], ?_, fun b o e => ?_, fun j M hM => ?_, fun M hM f q => ?_, fun a b M M' hab hM hM' f q => ?_⟩
  · rw [upd_same]
    simp [nRefs, ha]
  · rw [upd_ne (ne_of_none e m.hD)]
    exact s12 _ _ (m.sm b o e)
  · rcases snoc_ix hM with ⟨_, hM⟩ | ⟨e, rfl⟩
    · exact kN (fun f q => (m.new M (List.mem_of_getElem? hM) f q).2) ((m.at_ j M hM).same s12)
    · rw [e, m.len]
      exact kN hDf hN
  · rcases List.mem_append.mp hM with hM | hM
    · exact m.new M hM f q
    · simp at hM
      subst hM
      exact ⟨m.sm.free (hfn f q), hDf f q⟩
  · rcases snoc_ix hM with ⟨_, hM2⟩ | ⟨e, eM⟩
    · rcases snoc_ix hM' with ⟨_, hM3⟩ | ⟨e', eM⟩
      · exact m.dis a b M M' hab hM2 hM3 f q
      · intro r
        obtain ⟨o, e⟩ := old a M hM2 f q
        rw [hfn f (eM ▸ r)] at e
        cases e
    · rcases snoc_ix hM' with ⟨_, hM3⟩ | ⟨e', _⟩
      · intro r
        obtain ⟨o, e⟩ := old b M' hM3 f r
        rw [hfn f (eM ▸ q)] at e
        cases e
      · exact absurd (e.trans e'.symm) hab
theorem yes_intro {σ : L2.St} {H : Hp} {Q : Bool → Hp → Prop} (h : Q true H) : tYes σ H Q := h
theorem fresh_len (n : Nat) : (Ha08.fresh n).nodes.length = n := by simp [Ha08.fresh, NN.len_nodesOf]
theorem fresh_at {n i : Nat} {x : Ha08.Node} (h : (Ha08.fresh n).nodes[i]? = some x) : x = ⟨0, [], Ha08.nodesOf n, []⟩ := by
  simp [Ha08.fresh] at h
  exact h.2.symm
section
variable {P : Program} {w : World} {K : PySem.W.Frag} {mg : Str → Option Value} {base : Heap} {CC CL CN CW : Addr}
theorem scBW : FnScope ["self", "n", "number"] ["self", "n"] (defScope sBeginW) := ⟨rfl, rfl, rfl, by decide +kernel, rfl, by decide +kernel, by decide +kernel⟩
theorem begin_no {s : Ha08.St} {n : Nat} (h : n < 2 ∨ 4 < n) : Ha08.step s (.begin_ n) = (s, [-1]) := if_pos h
theorem begin_yes {s : Ha08.St} {n : Nat} (h : ¬ (n < 2 ∨ 4 < n)) : Ha08.step s (.begin_ n) = (Ha08.fresh n, [0]) := if_neg h
theorem wF_put1 (nl ll D : Addr) : putF "nodes" (.ref D) (wF nl ll) = wF D ll := rfl
theorem wF_put2 (nl ll L : Addr) : putF "letters" (.ref L) (wF nl ll) = wF nl L := rfl
theorem ok_beginW {f fI : Addr} {fd fdI : FuncData} (F : Fun K "begin" "World.begin" sBeginW f fd) (T : Txt K mg CC CL CN CW) (M : Mk K CN fI) (GI : FnOk P w K mg base CX0 1 fI fdI ["self", "number", "nodes"] (spNInit CC CN)) (bI : Binds K fdI ["self", "number", "nodes"] []) : FnOk P w K mg base CX0 3 f fd ["self", "n"] (spBeginW CC CL CN CW) := by
  refine F.ok scBW (fun vs H Q E h => ?_) (fun cdv A outer s H vs Q E hr h => ?_)
  · obtain ⟨W, s, n, rfl, _⟩ := h
    rfl
  · obtain ⟨W, s, n, rfl, hW, k⟩ := h
    obtain ⟨dx, ob⟩ := hW.ob
    obtain ⟨t2, h2⟩ := T.kLeast
    obtain ⟨t4, h4⟩ := T.kMost
    obtain ⟨t1, h1⟩ := T.kNS
    refine ⟨_, pss_cons (ps_if (PW.pt (pw_or (pt_cmpR op_lt (pv 1) (pe_glob (v := .int 2) (by rfl) h2 ⟨_, rfl⟩) (nomark _)) (pw_or1 (pt_cmpR op_gt (pv 1) (pe_glob (v := .int 4) (by rfl) h4 ⟨_, rfl⟩) (nomark _)))))
        (pss_one (ps_ret (pe_lst (pa_cons (pe_glob (v := .int (-1)) (by rfl) h1 ⟨_, rfl⟩) pa_nil)))) pss_nil)
      (pss_cons (ps_fld (pv 0) (pe_lc (own := [("number", 2)]) (g := gName 2) (tt := tYes) (te := tMake CN (spNInit CC CN) [] E0 (tCons (tVar 2) (tCons (tVar 1) tNil))) rfl scBW.nd (pi_range2 (by rfl) T.range (pa_cons pe_int (pa_cons (pe_op op_add (pv 1) pe_int) pa_nil))) (blkOk_by (N := ["self", "n", "number"]) (sc := defScope sBeginW) (by decide +kernel))
          (fun _ _ _ _ _ => pg_name (i := 2) scBW.nd rfl (Or.inl rfl)) (fun _ _ _ _ _ => pts_nil) (fun _ _ _ _ _ => pe_make M GI hr (by rfl) T.gN bI .nil pass0 (pa_cons (pv 2) (pa_cons (pv 1) pa_nil)))) rfl)
      (pss_cons (ps_fld (pv 0) (pe_lst pa_nil) rfl)
      (pss_one (ps_ret (pe_lst (pa_cons pe_int pa_nil)))))), ?_⟩
    have no : (n < 2 ∨ 4 < n) → ∀ p, H p = none → Q (.ref p) (upd H p (.lst [.int (-1)])) := fun hn p hp => k.stay hW (by rw [begin_no hn]) hp (by rw [begin_no hn]; rfl)
    refine ⟨_, rfl, _, _, rfl, rfl, _, rfl, ?_⟩
    by_cases ha : n < 2
    · refine iteY (by simp; omega) ?_
      refine iteT ?_
      exact ⟨(by show 1 ≤ sizeLine; decide), fun p hp => no (Or.inl ha) p hp⟩
    refine iteN (by simp; omega) ?_
    refine ⟨_, rfl, _, _, rfl, rfl, _, rfl, ?_⟩
    by_cases hb : 4 < n
    · refine iteY (by simp; omega) ?_
      exact ⟨(by show 1 ≤ sizeLine; decide), fun p hp => no (Or.inr hb) p hp⟩
    refine iteN (by simp; omega) ?_
    have en : ((n : Int) + 1 - 1).toNat = n := by omega
    refine ⟨_, rfl, _, _, rfl, rfl, 1, (n : Int) + 1, rfl, ⟨by omega, by omega, by omega, by omega⟩, fun D hD => ?_⟩
    refine lc_range (lo := 1) (n := ((n : Int) + 1 - 1).toNat) (fun i H' => ∃ Ns, Made CC CN n H D i H' Ns)
      ⟨[], hD, rfl, upd_same, same_new hD, (fun j N q => by simp at q), (fun N q => by cases q), (fun a b N M _ q => by simp at q)⟩ ?_ ?_
    · rintro i H' hi ⟨Ns, m⟩
      rw [en] at hi
      refine ⟨rfl, ?_⟩
      refine yes_intro ?_
      refine iteT ?_
      refine ⟨_, rfl, _, rfl, ?_⟩
      intro x d nx nd ne
      refine ⟨x, d, i + 1, n, ?_, upd_same, by omega, fun H2 N hNa hN hf kp => ⟨rfl, ?_⟩⟩
      · have : (1 : Int) + (i : Int) = ((i + 1 : Nat) : Int) := by omega
        rw [← this]
        rfl
      · have s12 : Same H' H2 := Same.made nx nd kp
        refine ⟨nRefs Ns, s12 _ _ m.lst, ?_, Ns ++ [N], m.more nx nd ne hNa hN hf kp⟩
        rw [nRefs_len, m.len]
        exact small1000 (by omega)
    · rintro H' ⟨Ns, m⟩
      rw [en] at m
      -- self.nodes = D
      refine ⟨_, rfl, W.w, CW, dx, _, rfl, m.sm _ _ ob, T.clW, T.wNodes, (by show 2 < 1000; decide), Nat.zero_le _, fun L hL => ?_⟩
      have hLw : W.w ≠ L := ne_of_none upd_same hL
      refine ⟨_, rfl, W.w, CW, dx, _, rfl, (by rw [upd_ne hLw, upd_same]), T.clW, T.wLetters, (by show 2 < 1000; decide), (by show 1 ≤ sizeLine; decide), fun p hp => ?_⟩
      have hDw : D ≠ W.w := (ne_of_none ob hD).symm
      have hL' : H' L = none := by
        rw [upd_ne hLw.symm] at hL
        exact hL
      have hDL : D ≠ L := ne_of_none m.lst hL'
      have hnw : ∀ N : NA, N ∈ Ns → ∀ f ∈ N.fp, f ≠ W.w ∧ f ≠ L := fun N hN f q => by
        refine ⟨fun e => ?_, fun e => ?_⟩
        · have := (m.new N hN f q).1
          rw [e, ob] at this
          cases this
        · obtain ⟨j, hj⟩ := List.getElem?_of_mem hN
          obtain ⟨o, e2, _⟩ := (m.at_ j N hj).tracked q
          rw [e, hL'] at e2
          cases e2
      generalize hH2 : upd (upd (upd H' W.w (.ins CW dx (putF "nodes" (.ref D) (wF W.nl W.ll)))) L (.lst [])) W.w (.ins CW dx (putF "letters" (.ref L) (putF "nodes" (.ref D) (wF W.nl W.ll)))) = H2 at hp ⊢
      have hfr : Fr H' H2 [W.w] := by
        rw [← hH2]
        exact ((fr_upd (by simp)).new (by rw [upd_ne hLw.symm]; exact hL')).upd (by simp)
      have hW2 : WorldAt CC CL CN CW H2 ⟨W.w, D, L, Ns, []⟩ (Ha08.fresh n) := by
        refine ⟨⟨dx, ?_⟩, hfr _ _ m.lst (by simpa using hDw), by rw [fresh_len]; exact m.len, fun i N x hi hx => ?_, ?_, .nil, m.dis, fun N hN => ⟨fun q => (m.new N hN _ q).2 rfl, fun q => (hnw N hN _ q).2 rfl⟩, hDL, fun L q => (by cases q)⟩
        · rw [← hH2]
          exact upd_same
        · rw [fresh_at hx]
          refine (m.at_ i N hi).keep hfr (fun a q => by simpa using (hnw N (List.mem_of_getElem? hi) a q).1) (fun a c q => ?_) (fun a xs q => ?_)
          · obtain ⟨dc, hc⟩ := q
            intro z
            simp at z
            rw [z, m.sm _ _ ob] at hc
            cases hc
          · simpa using ne_of q (m.sm _ _ ob) (by intro z; cases z)
        · show H2 L = _
          rw [← hH2, upd_ne hLw.symm, upd_same]
          rfl
      have hst : Stp H W H2 ⟨W.w, D, L, Ns, []⟩ := by
        refine ⟨rfl, fun f q => ?_, (Fr.same m.sm).trans (hfr.more fun a q => mem_wfp.mpr (by simp at q; exact Or.inl q))⟩
        rcases mem_wfp.mp q with q | q | q | ⟨N, hN, q⟩ | ⟨L, hL, _⟩
        · exact Or.inl (mem_wfp.mpr (Or.inl q))
        · exact Or.inr (by rw [q]; exact hD)
        · exact Or.inr (by rw [q]; exact m.sm.free hL')
        · exact Or.inr (m.new N hN f q).1
        · cases hL
      exact k.new hst (by rw [begin_yes (by omega)]; exact hW2) hp (by rw [begin_yes (by omega)]; rfl)
theorem scWI : FnScope ["self"] ["self"] (defScope sWInit) := ⟨rfl, rfl, rfl, by decide +kernel, rfl, by decide +kernel, by decide +kernel⟩
theorem ok_winit {f fB : Addr} {fd fdB : FuncData} (F : Fun K "__init__" "World.__init__" sWInit f fd) (T : Txt K mg CC CL CN CW) (GB : FnOk P w K mg base CX0 3 fB fdB ["self", "n"] (spBeginW CC CL CN CW)) (bB : Binds K fdB ["self", "n"] []) (mB : Meth K CW "begin" fB) : FnOk P w K mg base CX0 4 f fd ["self"] (spWInit CC CL CN CW) := by
  refine F.ok scWI (fun vs H Q E h => ?_) (fun cdv A outer s H vs Q E hr h => ?_)
  · obtain ⟨p, dx, rfl, _⟩ := h
    rfl
  · obtain ⟨p, dx, rfl, hp, k⟩ := h
    obtain ⟨t3, h3⟩ := T.k3
    refine ⟨_, pss_cons (ps_fld (pv 0) (pe_lst pa_nil) rfl) (pss_cons (ps_fld (pv 0) (pe_lst pa_nil) rfl)
      (pss_one (ps_expr (pe_meth (pv 0) T.clW mB GB hr bB .nil pass0 (pa_cons (pe_glob (v := .int 3) (by rfl) h3 ⟨_, rfl⟩) pa_nil))))), ?_⟩
    refine ⟨Nat.zero_le _, fun nl hnl => ?_⟩
    have pn : p ≠ nl := ne_of_none hp hnl
    refine ⟨_, rfl, p, CW, dx, [], rfl, (by rw [upd_ne pn]; exact hp), T.clW, T.wNodes, (by show 0 < 1000; decide), Nat.zero_le _, fun ll hll => ?_⟩
    have pl : p ≠ ll := ne_of_none upd_same hll
    have nll : nl ≠ ll := ne_of_none (show upd _ p _ nl = some _ by rw [upd_ne pn.symm, upd_same]) hll
    refine ⟨_, rfl, p, CW, dx, _, rfl, (by rw [upd_ne pl, upd_same]), T.clW, T.wLetters, (by show 1 < 1000; decide), ?_⟩
    have fll : H ll = none := by
      rw [upd_ne pl.symm, upd_ne nll.symm] at hll
      exact hll
    generalize hH1 : upd (upd (upd (upd H nl (.lst [])) p (.ins CW dx (putF "nodes" (.ref nl) []))) ll (.lst [])) p (.ins CW dx (putF "letters" (.ref ll) (putF "nodes" (.ref nl) []))) = H1
    have ob1 : H1 p = some (.ins CW dx (wF nl ll)) := by rw [← hH1]; exact upd_same
    have kp1 : ∀ b o, H b = some o → b ≠ p → H1 b = some o := fun b o e hb => by
      rw [← hH1, upd_ne hb, upd_ne (ne_of_none e fll), upd_ne hb, upd_ne (ne_of_none e hnl)]
      exact e
    have hW1 : WorldAt CC CL CN CW H1 ⟨p, nl, ll, [], []⟩ ⟨[], []⟩ := by
      refine ⟨⟨dx, ob1⟩, ?_, rfl, (fun i N x q => by simp at q), ?_, .nil, (fun i j N M _ q => by simp at q), (fun N q => by cases q), nll, (fun L q => by cases q)⟩
      · show H1 nl = _
        rw [← hH1, upd_ne pn.symm, upd_ne nll, upd_ne pn.symm, upd_same]
        rfl
      · show H1 ll = _
        rw [← hH1, upd_ne pl.symm, upd_same]
        rfl
    refine ⟨_, rfl, p, dx, _, rfl, ob1, wF_none _ _, ⟨p, nl, ll, [], []⟩, ⟨[], []⟩, 3, rfl, hW1, fun q H' W' st hW' hq hqn hqf => ?_⟩
    refine k H' W' st.w hW' (fun f hf => ?_) (fun b o e hb => ?_)
    · rcases st.sub f hf with r | r
      · rcases mem_wfp.mp r with r | r | r | ⟨N, hN, _⟩ | ⟨L, hL, _⟩
        · exact Or.inl r
        · exact Or.inr (by rw [r]; exact hnl)
        · exact Or.inr (by rw [r]; exact fll)
        · cases hN
        · cases hL
      · by_cases e : f = p
        · exact Or.inl e
        · refine Or.inr ?_
          cases ef : H f with
          | none => rfl
          | some o => rw [kp1 f o ef e] at r; cases r
    · refine st.fr b o (kp1 b o e hb) fun r => ?_
      rcases mem_wfp.mp r with r | r | r | ⟨N, hN, _⟩ | ⟨L, hL, _⟩
      · exact hb r
      · exact (ne_of_none e hnl) r
      · exact (ne_of_none e fll) r
      · cases hN
      · cases hL
end
end NH
set_option Elab.async false
set_option linter.all false
set_option maxRecDepth 100000
set_option maxHeartbeats 4000000
namespace NH
open PySem PySem.Spec PyProof.Rows L2
abbrev sClaim : Stmt := inClass (top tW_) 10
abbrev sFree : Stmt := inClass (top tW_) 11
abbrev sDies : Stmt := inClass (top tW_) 12
/-! ### 19. claim, free, dies -/
/-- how far the world may have come -/
def Fair (s : Ha08.St) : Prop := ∃ g k L, NN.Inv g k L s ∧ k < 100 ∧ L ≤ 10000000
theorem Fair.few {s : Ha08.St} (h : Fair s) {n : Nat} (h1 : 1 ≤ n) (h2 : n ≤ s.nodes.length) : ∃ g : Nat → Nat → Nat × Nat, NN.Kn g (Ha08.node s n).claims ∧ (Ha08.node s n).claims.length ≤ 808 ∧ (Ha08.node s n).lost.length ≤ 10000000 ∧ n ∈ (Ha08.node s n).reach ∧ (Ha08.node s n).reach.Nodup ∧ (Ha08.node s n).reach.length ≤ 4 ∧ (∀ c ∈ (Ha08.node s n).claims, c.name ≤ 9) := by
  obtain ⟨g, k, L, I, hk, hL⟩ := h
  have N := I.at h1 h2
  refine ⟨g, N.kn, Nat.le_trans (NN.list_few I N.cl N.kn) (by omega), Nat.le_trans N.lost hL, N.rs, N.rn, ?_, fun c hc => (N.cl c hc).nm⟩
  have hs : (Ha08.node s n).reach.length ≤ 5 - 1 := by
    have : ∀ (m : Nat) (l : List Nat), l.Nodup → (∀ a ∈ l, 1 ≤ a ∧ a ≤ m) → l.length ≤ m := by
      intro m
      induction m with
      | zero =>
        intro l _ hl
        cases l with
        | nil => simp
        | cons a l => have := hl a (by simp); omega
      | succ m ih =>
        intro l hn hl
        have h1 := ih (l.filter fun a => a != m + 1) (hn.sublist List.filter_sublist) (fun a ha => by
          have := List.mem_filter.mp ha
          have h2 := hl a this.1
          have h3 : a ≠ m + 1 := by simpa using this.2
          omega)
        have h2 : l.length ≤ (l.filter fun a => a != m + 1).length + 1 := by
          clear hl h1 ih
          induction l with
          | nil => simp
          | cons a l ih =>
            obtain ⟨ha, hn⟩ := List.nodup_cons.mp hn
            by_cases e : a = m + 1
            · subst e
              have : (l.filter fun b => b != m + 1) = l := List.filter_eq_self.mpr fun b hb => by
                simp
                rintro rfl
                exact ha hb
              simp [this]
            · have := ih hn
              simp [e]
              omega
        omega
    have := this s.nodes.length _ N.rn N.rb
    have := I.hi
    omega
  omega
theorem proc_false {s : Ha08.St} {n p : Nat} (h : (Ha08.isNode s n && (decide (1 ≤ p) && decide (p ≤ 9))) = false) : Ha08.isNode s n = false ∨ p = 0 ∨ 9 < p := by
  cases e : Ha08.isNode s n with
  | false => exact Or.inl rfl
  | true =>
    rw [e] at h
    simp at h
    omega
theorem proc_true {s : Ha08.St} {n p : Nat} (h : (Ha08.isNode s n && (decide (1 ≤ p) && decide (p ≤ 9))) = true) : Ha08.isNode s n = true ∧ (1 ≤ n ∧ n ≤ s.nodes.length) ∧ 1 ≤ p ∧ p ≤ 9 := by
  simp at h
  exact ⟨h.1, NN.isNode_iff.mp h.1, h.2⟩
theorem claim_no {s : Ha08.St} {n p nm : Nat} (h : Ha08.isNode s n = false ∨ p = 0 ∨ 9 < p ∨ 9 < nm) : Ha08.step s (.claim n p nm) = (s, [-1]) := if_pos h
theorem free_no {s : Ha08.St} {n p nm : Nat} (h : Ha08.isNode s n = false ∨ p = 0 ∨ 9 < p ∨ 9 < nm) : Ha08.step s (.free n p nm) = (s, [-1]) := if_pos h
theorem dies_no {s : Ha08.St} {n p : Nat} (h : Ha08.isNode s n = false ∨ p = 0 ∨ 9 < p) : Ha08.step s (.dies n p) = (s, [-1]) := if_pos h
theorem bad_of {s : Ha08.St} {n p nm : Nat} (h : Ha08.isNode s n = false ∨ p = 0 ∨ 9 < p) : Ha08.isNode s n = false ∨ p = 0 ∨ 9 < p ∨ 9 < nm := by
  rcases h with q | q | q
  · exact Or.inl q
  · exact Or.inr (Or.inl q)
  · exact Or.inr (Or.inr (Or.inl q))
theorem not_bad2 {s : Ha08.St} {n p : Nat} (h1 : Ha08.isNode s n = true) (h2 : 1 ≤ p) (h3 : p ≤ 9) : ¬ (Ha08.isNode s n = false ∨ p = 0 ∨ 9 < p) := by
  rintro (q | q | q)
  · rw [h1] at q; cases q
  all_goals omega
theorem not_bad {s : Ha08.St} {n p nm : Nat} (h1 : Ha08.isNode s n = true) (h2 : 1 ≤ p) (h3 : p ≤ 9) (h4 : nm ≤ 9) : ¬ (Ha08.isNode s n = false ∨ p = 0 ∨ 9 < p ∨ 9 < nm) := by
  rintro (q | q | q | q)
  · rw [h1] at q; cases q
  all_goals omega
theorem claim_held {s : Ha08.St} {n p nm : Nat} {c : Ha08.Claim} (h : ¬ (Ha08.isNode s n = false ∨ p = 0 ∨ 9 < p ∨ 9 < nm)) (hc : Ha08.holder (Ha08.node s n) nm = some c) : Ha08.step s (.claim n p nm) = (s, [0, (c.node : Int), (c.proc : Int)]) := by
  dsimp only [Ha08.step]
  rw [if_neg h, hc]
  rfl
theorem claim_full {s : Ha08.St} {n p nm : Nat} (h : ¬ (Ha08.isNode s n = false ∨ p = 0 ∨ 9 < p ∨ 9 < nm)) (hc : Ha08.holder (Ha08.node s n) nm = none) (hf : 40 ≤ (Ha08.node s n).claims.length) : Ha08.step s (.claim n p nm) = (s, [-6]) := by
  dsimp only [Ha08.step]
  rw [if_neg h, hc]
  exact if_pos hf
theorem claim_new {s : Ha08.St} {n p nm : Nat} (h : ¬ (Ha08.isNode s n = false ∨ p = 0 ∨ 9 < p ∨ 9 < nm)) (hc : Ha08.holder (Ha08.node s n) nm = none) (hf : ¬ 40 ≤ (Ha08.node s n).claims.length) : Ha08.step s (.claim n p nm) = (Ha08.setNode s n (Ha08.claims_ (Ha08.node s n) n p nm), [(((Ha08.node s n).count + 1 : Nat) : Int)]) := by
  dsimp only [Ha08.step]
  rw [if_neg h, hc]
  exact if_neg hf
theorem free_yes {s : Ha08.St} {n p nm : Nat} (h : ¬ (Ha08.isNode s n = false ∨ p = 0 ∨ 9 < p ∨ 9 < nm)) : Ha08.step s (.free n p nm) = (Ha08.setNode s n (((Ha08.own (Ha08.node s n) n p).filter fun c => c.name == nm).foldl Ha08.givesUp (Ha08.node s n)), [(((Ha08.own (Ha08.node s n) n p).filter fun c => c.name == nm).length : Int)]) := if_neg h
theorem dies_yes {s : Ha08.St} {n p : Nat} (h : ¬ (Ha08.isNode s n = false ∨ p = 0 ∨ 9 < p)) : Ha08.step s (.dies n p) = (Ha08.setNode s n ((Ha08.own (Ha08.node s n) n p).foldl Ha08.givesUp (Ha08.node s n)), [((Ha08.own (Ha08.node s n) n p).length : Int)]) := if_neg h
theorem gives_own (x : Ha08.Node) (n p : Nat) (ns : List Nat) : gives n p ns x.claims = (Ha08.own x n p).filter fun c => ns.contains c.name := by
  unfold gives NN.owns Ha08.own
  rw [List.filter_filter, List.filter_filter]
  refine List.filter_congr fun c _ => ?_
  cases c.gone <;> cases (c.node == n) <;> cases (c.proc == p) <;> simp
theorem gives_one (x : Ha08.Node) (n p nm : Nat) : gives n p [nm] x.claims = (Ha08.own x n p).filter fun c => c.name == nm := by
  rw [gives_own]
  refine List.filter_congr fun c _ => ?_
  by_cases h : c.name = nm <;> simp [h]
theorem gives_all (x : Ha08.Node) (n p : Nat) (h : ∀ c ∈ x.claims, c.name ≤ 9) : gives n p (List.range 10) x.claims = Ha08.own x n p := by
  rw [gives_own]
  refine List.filter_eq_self.mpr fun c hc => ?_
  have := h c (List.mem_filter.mp hc).1
  simp
  omega
def spClaim (CC CL CN CW : Addr) : Sp := fun vs H Q _ => ∃ (W : WA) (s : Ha08.St) (n p nm : Nat), vs = [.ref W.w, .int n, .int p, .int nm] ∧ WorldAt CC CL CN CW H W s ∧ Fair s ∧ Ret CC CL CN CW H W s (.claim n p nm) Q
def spFree (CC CL CN CW : Addr) : Sp := fun vs H Q _ => ∃ (W : WA) (s : Ha08.St) (n p nm : Nat), vs = [.ref W.w, .int n, .int p, .int nm] ∧ WorldAt CC CL CN CW H W s ∧ Fair s ∧ Ret CC CL CN CW H W s (.free n p nm) Q
def spDies (CC CL CN CW : Addr) : Sp := fun vs H Q _ => ∃ (W : WA) (s : Ha08.St) (n p : Nat), vs = [.ref W.w, .int n, .int p] ∧ WorldAt CC CL CN CW H W s ∧ Fair s ∧ Ret CC CL CN CW H W s (.dies n p) Q
section
variable {P : Program} {w : World} {K : PySem.W.Frag} {mg : Str → Option Value} {base : Heap} {CC CL CN CW : Addr}
theorem scCl : FnScope ["self", "n", "p", "name", "node", "holder"] ["self", "n", "p", "name"] (defScope sClaim) := ⟨rfl, rfl, rfl, by decide +kernel, rfl, by decide +kernel, by decide +kernel⟩
theorem ok_claim {f fP fA fH fM : Addr} {fd fdP fdA fdH fdM : FuncData} (F : Fun K "claim" "World.claim" sClaim f fd) (T : Txt K mg CC CL CN CW)
    (GP : FnOk P w K mg base CX0 2 fP fdP ["self", "n", "p"] (spIsProc CC CL CN CW)) (bP : Binds K fdP ["self", "n", "p"] []) (mP : Meth K CW "is_process" fP)
    (GA : FnOk P w K mg base CX0 1 fA fdA ["self", "n"] (spNodeAt CC CL CN CW)) (bA : Binds K fdA ["self", "n"] []) (mA : Meth K CW "node_at" fA)
    (GH : FnOk P w K mg base CX0 3 fH fdH ["self", "name"] (spHolder CC CN)) (bH : Binds K fdH ["self", "name"] []) (mH : Meth K CN "holder" fH)
    (GM : FnOk P w K mg base CX0 3 fM fdM ["self", "process", "name"] (spMake CC CN)) (bM : Binds K fdM ["self", "process", "name"] []) (mM : Meth K CN "make_claim" fM) : FnOk P w K mg base CX0 4 f fd ["self", "n", "p", "name"] (spClaim CC CL CN CW) := by
  refine F.ok scCl (fun vs H Q E h => ?_) (fun cdv A outer s H vs Q E hr h => ?_)
  · obtain ⟨W, s, n, p, nm, rfl, _⟩ := h
    rfl
  · obtain ⟨W, s, n, p, nm, rfl, hW, hfair, k⟩ := h
    obtain ⟨dx, ob⟩ := hW.ob
    obtain ⟨t9, h9⟩ := T.kLN
    obtain ⟨t1, hm1⟩ := T.kNS
    obtain ⟨t40, h40⟩ := T.kMC
    obtain ⟨t6, hm6⟩ := T.kFu
    have hr1 : Room 1 _ := hr.mono (by decide)
    have hr2 : Room 2 _ := hr.mono (by decide)
    refine ⟨_, pss_cons (ps_if (PW.pt (pw_or (pt_not (pt_val (pe_meth (pv 0) T.clW mP GP hr2 bP .nil pass0 (pa_cons (pv 1) (pa_cons (pv 2) pa_nil))))) (pw_or1 (pt_cmpR op_gt (pv 3) (pe_glob (v := .int 9) (by rfl) h9 ⟨_, rfl⟩) (nomark _)))))
        (pss_one (ps_ret (pe_lst (pa_cons (pe_glob (v := .int (-1)) (by rfl) hm1 ⟨_, rfl⟩) pa_nil)))) pss_nil)
      (pss_cons (ps_set (i := 4) scCl.nd rfl (Or.inl rfl) (pe_meth (pv 0) T.clW mA GA hr1 bA .nil pass0 (pa_cons (pv 1) pa_nil)))
      (pss_cons (ps_set (i := 5) scCl.nd rfl (Or.inl rfl) (pe_meth (pv 4) T.clN mH GH hr bH .nil pass0 (pa_cons (pv 3) pa_nil)))
      (pss_cons (ps_if (pt_cmpR op_notN (pv 5) pe_non (nomark _)) (pss_one (ps_ret (pe_lst (pa_cons pe_int (pa_cons (pe_fld (pv 5) rfl) (pa_cons (pe_fld (pv 5) rfl) pa_nil)))))) pss_nil)
      (pss_cons (ps_if (pt_cmpR op_ge (pe_callB call_len_seq (by rfl) T.len PySem.boot_len (pa_cons (pe_fld (pv 4) rfl) pa_nil)) (pe_glob (v := .int 40) (by rfl) h40 ⟨_, rfl⟩) (nomark _)) (pss_one (ps_ret (pe_lst (pa_cons (pe_glob (v := .int (-6)) (by rfl) hm6 ⟨_, rfl⟩) pa_nil)))) pss_nil)
      (pss_one (ps_ret (pe_lst (pa_cons (pe_meth (pv 4) T.clN mM GM hr bM .nil pass0 (pa_cons (pv 2) (pa_cons (pv 3) pa_nil))) pa_nil)))))))), ?_⟩
    have no : (Ha08.isNode s n = false ∨ p = 0 ∨ 9 < p ∨ 9 < nm) → ∀ q, H q = none → Q (.ref q) (upd H q (.lst [.int (-1)])) := fun hn q hq => k.stay hW (by rw [claim_no hn]) hq (by rw [claim_no hn]; rfl)
    refine ⟨_, rfl, W.w, dx, _, rfl, ob, wF_none _ _, _, rfl, _, rfl, W, s, n, p, rfl, hW, _, rfl, ?_⟩
    cases e : (Ha08.isNode s n && (decide (1 ≤ p) && decide (p ≤ 9))) with
    | false =>
      refine iteT ?_
      refine iteT ?_
      exact ⟨(by show 1 ≤ sizeLine; decide), fun q hq => no (bad_of (proc_false e)) q hq⟩
    | true =>
      refine iteF ?_
      obtain ⟨hin, ⟨h1, h2⟩, h3, h4⟩ := proc_true e
      refine ⟨_, rfl, _, _, rfl, rfl, _, rfl, ?_⟩
      by_cases hnm : 9 < nm
      · refine iteY (by simp; omega) ?_
        exact ⟨(by show 1 ≤ sizeLine; decide), fun q hq => no (by omega) q hq⟩
      refine iteN (by simp; omega) ?_
      have hg := not_bad hin h3 h4 (show nm ≤ 9 by omega)
      obtain ⟨N, hN, hNm, hNA⟩ := hW.at_ h1 h2
      obtain ⟨dn, obn⟩ := hNA.ob
      refine ⟨_, rfl, W.w, dx, _, rfl, ob, wF_none _ _, _, rfl, W, s, n, N, rfl, hW, h1, hN, ?_⟩
      refine ⟨_, rfl, N.a, dn, _, rfl, obn, nF_none _ _ _ _ _, _, rfl, N, n, nm, _, rfl, hNA, fun ca c hc hca => ?_, fun hc => ?_⟩
      · obtain ⟨dc, hcd⟩ := hca
        refine ⟨_, rfl, rfl, _, rfl, ?_⟩
        refine iteY (by simp) ?_
        refine ⟨_, rfl, ca, CC, dc, _, _, rfl, hcd, T.clC, T.cNode, cF_node c, _, rfl, ca, CC, dc, _, _, rfl, hcd, T.clC, T.cProc, cF_proc c, (by show 3 ≤ sizeLine; decide), fun q hq => ?_⟩
        exact k.stay hW (by rw [claim_held hg hc]) hq (by rw [claim_held hg hc]; rfl)
      · refine ⟨_, rfl, rfl, _, rfl, ?_⟩
        refine iteN (by simp) ?_
        obtain ⟨as, hk, kt⟩ := hNA.ks
        refine ⟨_, rfl, N.a, CN, dn, _, _, rfl, obn, T.clN, T.nKnown, nF_known _ _ _ _ _, N.kl, _, rfl, .inl (SqL.of hk), _, _, rfl, rfl, _, rfl, ?_⟩
        rw [List.length_map, kt.len]
        by_cases h40 : 40 ≤ (Ha08.node s n).claims.length
        · refine iteY (by simp; omega) ?_
          exact ⟨(by show 1 ≤ sizeLine; decide), fun q hq => k.stay hW (by rw [claim_full hg hc h40]) hq (by rw [claim_full hg hc h40]; rfl)⟩
        · refine iteN (by simp; omega) ?_
          obtain ⟨g, kk, L, I, hkk, hL⟩ := hfair
          have I2 := NN.claim_inv I h1 h2 h3 h4 (show nm ≤ 9 by omega)
          have N2 := (I.put (c := ⟨(Ha08.node s n).count + 1, n, p, nm, false⟩) (Nat.lt_succ_self _)).at h1 h2
          refine ⟨_, rfl, N.a, dn, _, rfl, obn, nF_none _ _ _ _ _, _, rfl, _, rfl, N, n, p, nm, _, NN.put g ⟨(Ha08.node s n).count + 1, n, p, nm, false⟩, rfl, hNA, N2.kn, ?_, by omega, fun H' hN' fr => ?_⟩
          · unfold NN.Agr NN.put
            simp
          · refine ⟨(by show 1 ≤ sizeLine; decide), fun q hq => ?_⟩
            have hsub : ∀ a ∈ [N.a, N.kl], a ∈ N.fp := by simp [NA.fp]
            exact k.new (Stp.node_ hN fr hsub) (by rw [claim_new hg hc h40]; exact hW.put_ h1 h2 hN hN' fr hsub) hq (by rw [claim_new hg hc h40]; rfl)
theorem scFr : FnScope ["self", "n", "p", "name"] ["self", "n", "p", "name"] (defScope sFree) := ⟨rfl, rfl, rfl, by decide +kernel, rfl, by decide +kernel, by decide +kernel⟩
theorem ok_free {f fP fA fG : Addr} {fd fdP fdA fdG : FuncData} (F : Fun K "free" "World.free" sFree f fd) (T : Txt K mg CC CL CN CW)
    (GP : FnOk P w K mg base CX0 2 fP fdP ["self", "n", "p"] (spIsProc CC CL CN CW)) (bP : Binds K fdP ["self", "n", "p"] []) (mP : Meth K CW "is_process" fP)
    (GA : FnOk P w K mg base CX0 1 fA fdA ["self", "n"] (spNodeAt CC CL CN CW)) (bA : Binds K fdA ["self", "n"] []) (mA : Meth K CW "node_at" fA)
    (GG : FnOk P w K mg base CX0 4 fG fdG ["self", "process", "names"] (spGive CC CN)) (bG : Binds K fdG ["self", "process", "names"] []) (mG : Meth K CN "give_up" fG) : FnOk P w K mg base CX0 5 f fd ["self", "n", "p", "name"] (spFree CC CL CN CW) := by
  refine F.ok scFr (fun vs H Q E h => ?_) (fun cdv A outer s H vs Q E hr h => ?_)
  · obtain ⟨W, s, n, p, nm, rfl, _⟩ := h
    rfl
  · obtain ⟨W, s, n, p, nm, rfl, hW, hfair, k⟩ := h
    obtain ⟨dx, ob⟩ := hW.ob
    obtain ⟨t9, h9⟩ := T.kLN
    obtain ⟨t1, hm1⟩ := T.kNS
    have hr1 : Room 1 _ := hr.mono (by decide)
    have hr2 : Room 2 _ := hr.mono (by decide)
    refine ⟨_, pss_cons (ps_if (PW.pt (pw_or (pt_not (pt_val (pe_meth (pv 0) T.clW mP GP hr2 bP .nil pass0 (pa_cons (pv 1) (pa_cons (pv 2) pa_nil))))) (pw_or1 (pt_cmpR op_gt (pv 3) (pe_glob (v := .int 9) (by rfl) h9 ⟨_, rfl⟩) (nomark _)))))
        (pss_one (ps_ret (pe_lst (pa_cons (pe_glob (v := .int (-1)) (by rfl) hm1 ⟨_, rfl⟩) pa_nil)))) pss_nil)
      (pss_one (ps_ret (pe_lst (pa_cons (pe_meth (pe_meth (pv 0) T.clW mA GA hr1 bA .nil pass0 (pa_cons (pv 1) pa_nil)) T.clN mG GG hr bG .nil pass0 (pa_cons (pv 2) (pa_cons (pe_lst (pa_cons (pv 3) pa_nil)) pa_nil))) pa_nil)))), ?_⟩
    have no : (Ha08.isNode s n = false ∨ p = 0 ∨ 9 < p ∨ 9 < nm) → ∀ q, H q = none → Q (.ref q) (upd H q (.lst [.int (-1)])) := fun hn q hq => k.stay hW (by rw [free_no hn]) hq (by rw [free_no hn]; rfl)
    refine ⟨_, rfl, W.w, dx, _, rfl, ob, wF_none _ _, _, rfl, _, rfl, W, s, n, p, rfl, hW, _, rfl, ?_⟩
    cases e : (Ha08.isNode s n && (decide (1 ≤ p) && decide (p ≤ 9))) with
    | false =>
      refine iteT ?_
      refine iteT ?_
      exact ⟨(by show 1 ≤ sizeLine; decide), fun q hq => no (bad_of (proc_false e)) q hq⟩
    | true =>
      refine iteF ?_
      obtain ⟨hin, ⟨h1, h2⟩, h3, h4⟩ := proc_true e
      refine ⟨_, rfl, _, _, rfl, rfl, _, rfl, ?_⟩
      by_cases hnm : 9 < nm
      · refine iteY (by simp; omega) ?_
        exact ⟨(by show 1 ≤ sizeLine; decide), fun q hq => no (by omega) q hq⟩
      refine iteN (by simp; omega) ?_
      have hg := not_bad hin h3 h4 (show nm ≤ 9 by omega)
      obtain ⟨N, hN, hNm, hNA⟩ := hW.at_ h1 h2
      obtain ⟨dn, obn⟩ := hNA.ob
      obtain ⟨g, hkn, hlen, _⟩ := hfair.few h1 h2
      refine ⟨_, rfl, W.w, dx, _, rfl, ob, wF_none _ _, _, rfl, W, s, n, N, rfl, hW, h1, hN, N.a, dn, _, rfl, obn, nF_none _ _ _ _ _, _, rfl, _, rfl, (by show 1 ≤ sizeLine; decide), fun l hl => ?_⟩
      have sm : Same H (upd H l (.lst [.int nm])) := same_new hl
      have hkl : l ≠ N.kl := by
        obtain ⟨as, hk, _⟩ := hNA.ks
        exact (ne_of_none hk hl).symm
      refine ⟨N, n, p, _, l, [nm], g, rfl, hNA.same sm, upd_same, hkl, hkn, by omega, fun H' hN' fr => ?_⟩
      refine ⟨(by show 1 ≤ sizeLine; decide), fun q hq => ?_⟩
      have fr' : Fr H H' [N.kl] := (Fr.same sm).trans fr
      have hsub : ∀ a ∈ [N.kl], a ∈ N.fp := by simp [NA.fp]
      rw [gives_one] at hN' ⊢
      exact k.new (Stp.node_ hN fr' hsub) (by rw [free_yes hg]; exact hW.put_ h1 h2 hN hN' fr' hsub) hq (by rw [free_yes hg]; rfl)
theorem scDi : FnScope ["self", "n", "p"] ["self", "n", "p"] (defScope sDies) := ⟨rfl, rfl, rfl, by decide +kernel, rfl, by decide +kernel, by decide +kernel⟩
theorem rg_ten : rgV 0 (9 + 1) = natV (List.range 10) := by
  unfold rgV natV
  rfl
theorem ok_dies {f fP fA fG : Addr} {fd fdP fdA fdG : FuncData} (F : Fun K "dies" "World.dies" sDies f fd) (T : Txt K mg CC CL CN CW)
    (GP : FnOk P w K mg base CX0 2 fP fdP ["self", "n", "p"] (spIsProc CC CL CN CW)) (bP : Binds K fdP ["self", "n", "p"] []) (mP : Meth K CW "is_process" fP)
    (GA : FnOk P w K mg base CX0 1 fA fdA ["self", "n"] (spNodeAt CC CL CN CW)) (bA : Binds K fdA ["self", "n"] []) (mA : Meth K CW "node_at" fA)
    (GG : FnOk P w K mg base CX0 4 fG fdG ["self", "process", "names"] (spGive CC CN)) (bG : Binds K fdG ["self", "process", "names"] []) (mG : Meth K CN "give_up" fG) : FnOk P w K mg base CX0 5 f fd ["self", "n", "p"] (spDies CC CL CN CW) := by
  refine F.ok scDi (fun vs H Q E h => ?_) (fun cdv A outer s H vs Q E hr h => ?_)
  · obtain ⟨W, s, n, p, rfl, _⟩ := h
    rfl
  · obtain ⟨W, s, n, p, rfl, hW, hfair, k⟩ := h
    obtain ⟨dx, ob⟩ := hW.ob
    obtain ⟨t9, h9⟩ := T.kLN
    obtain ⟨t1, hm1⟩ := T.kNS
    have hr1 : Room 1 _ := hr.mono (by decide)
    have hr2 : Room 2 _ := hr.mono (by decide)
    refine ⟨_, pss_cons (ps_if (pt_not (pt_val (pe_meth (pv 0) T.clW mP GP hr2 bP .nil pass0 (pa_cons (pv 1) (pa_cons (pv 2) pa_nil)))))
        (pss_one (ps_ret (pe_lst (pa_cons (pe_glob (v := .int (-1)) (by rfl) hm1 ⟨_, rfl⟩) pa_nil)))) pss_nil)
      (pss_one (ps_ret (pe_lst (pa_cons (pe_meth (pe_meth (pv 0) T.clW mA GA hr1 bA .nil pass0 (pa_cons (pv 1) pa_nil)) T.clN mG GG hr bG .nil pass0 (pa_cons (pv 2) (pa_cons (pe_listRg rfl (by rfl) T.list (prg_1 (by rfl) T.range (pe_op op_add (pe_glob (v := .int 9) (by rfl) h9 ⟨_, rfl⟩) pe_int))) pa_nil))) pa_nil)))), ?_⟩
    refine ⟨_, rfl, W.w, dx, _, rfl, ob, wF_none _ _, _, rfl, _, rfl, W, s, n, p, rfl, hW, _, rfl, ?_⟩
    cases e : (Ha08.isNode s n && (decide (1 ≤ p) && decide (p ≤ 9))) with
    | false =>
      refine iteT ?_
      exact ⟨(by show 1 ≤ sizeLine; decide), fun q hq => k.stay hW (by rw [dies_no (proc_false e)]) hq (by rw [dies_no (proc_false e)]; rfl)⟩
    | true =>
      refine iteF ?_
      obtain ⟨hin, ⟨h1, h2⟩, h3, h4⟩ := proc_true e
      have hg := not_bad2 hin h3 h4
      obtain ⟨N, hN, hNm, hNA⟩ := hW.at_ h1 h2
      obtain ⟨dn, obn⟩ := hNA.ob
      obtain ⟨g, hkn, hlen, _, _, _, _, hnames⟩ := hfair.few h1 h2
      refine ⟨_, rfl, W.w, dx, _, rfl, ob, wF_none _ _, _, rfl, W, s, n, N, rfl, hW, h1, hN, N.a, dn, _, rfl, obn, nF_none _ _ _ _ _, _, rfl, _, _, rfl, rfl, _, rfl, RgOk.of_le (by omega) (by omega) (by omega) (by omega), fun l hl => ?_⟩
      have sm : Same H (upd H l (.lst (natV (List.range 10)))) := same_new hl
      have hkl : l ≠ N.kl := by
        obtain ⟨as, hk, _⟩ := hNA.ks
        exact (ne_of_none hk hl).symm
      refine ⟨N, n, p, _, l, List.range 10, g, rfl, hNA.same sm, upd_same, hkl, hkn, by omega, fun H' hN' fr => ?_⟩
      refine ⟨(by show 1 ≤ sizeLine; decide), fun q hq => ?_⟩
      have fr' : Fr H H' [N.kl] := (Fr.same sm).trans fr
      have hsub : ∀ a ∈ [N.kl], a ∈ N.fp := by simp [NA.fp]
      rw [gives_all _ _ _ hnames] at hN' ⊢
      exact k.new (Stp.node_ hN fr' hsub) (by rw [dies_yes hg]; exact hW.put_ h1 h2 hN hN' fr' hsub) hq (by rw [dies_yes hg]; rfl)
end
end NH
set_option Elab.async false
set_option linter.all false
set_option maxRecDepth 100000
set_option maxHeartbeats 4000000
namespace NH
open PySem PySem.Spec PyProof.Rows L2
abbrev sPart : Stmt := inClass (top tW_) 13
abbrev sMeet : Stmt := inClass (top tW_) 14
abbrev sTell : Stmt := inClass (top tW_) 15
/-! ### 20. part, meet, tell, take -/
theorem two_false {s : Ha08.St} {n m : Nat} (h : (Ha08.isNode s n && (Ha08.isNode s m && !decide (n = m))) = false) : Ha08.isNode s n = false ∨ Ha08.isNode s m = false ∨ n = m := by
  cases e : Ha08.isNode s n with
  | false => exact Or.inl rfl
  | true =>
    cases e2 : Ha08.isNode s m with
    | false => exact Or.inr (Or.inl rfl)
    | true =>
      rw [e, e2] at h
      simp at h
      exact Or.inr (Or.inr h)
theorem two_true {s : Ha08.St} {n m : Nat} (h : (Ha08.isNode s n && (Ha08.isNode s m && !decide (n = m))) = true) : ¬ (Ha08.isNode s n = false ∨ Ha08.isNode s m = false ∨ n = m) ∧ (1 ≤ n ∧ n ≤ s.nodes.length) ∧ (1 ≤ m ∧ m ≤ s.nodes.length) ∧ n ≠ m := by
  simp at h
  obtain ⟨h1, h2, h3⟩ := h
  refine ⟨?_, NN.isNode_iff.mp h1, NN.isNode_iff.mp h2, h3⟩
  rw [h1, h2]
  simp [h3]
theorem part_no {s : Ha08.St} {n m : Nat} (h : Ha08.isNode s n = false ∨ Ha08.isNode s m = false ∨ n = m) : Ha08.step s (.part n m) = (s, [-1]) := if_pos h
theorem meet_no {s : Ha08.St} {n m : Nat} (h : Ha08.isNode s n = false ∨ Ha08.isNode s m = false ∨ n = m) : Ha08.step s (.meet n m) = (s, [-1]) := if_pos h
theorem tell_no {s : Ha08.St} {n m : Nat} (h : Ha08.isNode s n = false ∨ Ha08.isNode s m = false ∨ n = m) : Ha08.step s (.tell n m) = (s, [-1]) := if_pos h
theorem part_yes {s : Ha08.St} {n m : Nat} (h : ¬ (Ha08.isNode s n = false ∨ Ha08.isNode s m = false ∨ n = m)) : Ha08.step s (.part n m) = (Ha08.setNode s n { Ha08.node s n with reach := (Ha08.node s n).reach.filter fun k => k != m }, [(Ha08.flag ((Ha08.node s n).reach.contains m) : Int)]) := if_neg h
def more (x : Ha08.Node) (m : Nat) : Ha08.Node := { x with reach := if x.reach.contains m = true then x.reach else x.reach ++ [m] }
theorem meet_yes {s : Ha08.St} {n m : Nat} (h : ¬ (Ha08.isNode s n = false ∨ Ha08.isNode s m = false ∨ n = m)) : Ha08.step s (.meet n m) =
    (if Ha08.AIR ≤ s.air.length then Ha08.setNode s n (Ha08.looks n (more (Ha08.node s n) m)) else Ha08.tells (Ha08.setNode s n (Ha08.looks n (more (Ha08.node s n) m))) n m, [(Ha08.flag ((Ha08.node s n).reach.contains m) : Int)]) := if_neg h
theorem tell_far {s : Ha08.St} {n m : Nat} (h : ¬ (Ha08.isNode s n = false ∨ Ha08.isNode s m = false ∨ n = m)) (hr : (Ha08.node s n).reach.contains m = false) : Ha08.step s (.tell n m) = (s, [-4]) := (if_neg h).trans (if_pos hr)
theorem tell_full {s : Ha08.St} {n m : Nat} (h : ¬ (Ha08.isNode s n = false ∨ Ha08.isNode s m = false ∨ n = m)) (hr : (Ha08.node s n).reach.contains m = true) (hf : Ha08.AIR ≤ s.air.length) : Ha08.step s (.tell n m) = (s, [-6]) := (if_neg h).trans ((if_neg (by rw [hr]; simp)).trans (if_pos hf))
theorem tell_yes {s : Ha08.St} {n m : Nat} (h : ¬ (Ha08.isNode s n = false ∨ Ha08.isNode s m = false ∨ n = m)) (hr : (Ha08.node s n).reach.contains m = true) (hf : ¬ Ha08.AIR ≤ s.air.length) : Ha08.step s (.tell n m) = (Ha08.tells s n m, [((Ha08.node s n).claims.length : Int)]) := (if_neg h).trans ((if_neg (by rw [hr]; simp)).trans (if_neg hf))
theorem take_no {s : Ha08.St} {k : Nat} (h : k < 1 ∨ s.air.length < k) : Ha08.step s (.take k) = (s, [-5]) := by
  dsimp only [Ha08.step]
  split
  · rfl
  · rename_i l e
    have := (List.getElem?_eq_some_iff.mp e).1
    rw [if_pos (by omega)]
theorem take_yes {s : Ha08.St} {k : Nat} {l : Ha08.Letter} (h1 : 1 ≤ k) (hl : s.air[k - 1]? = some l) : Ha08.step s (.take k) = (Ha08.arrives { s with air := s.air.eraseIdx (k - 1) } l, [(l.to_ : Int), (((Ha08.node (Ha08.arrives s l) l.to_).lost.length - (Ha08.node s l.to_).lost.length : Nat) : Int)]) := by
  dsimp only [Ha08.step]
  rw [hl]
  exact if_neg (by omega)
theorem Fair.letter {s : Ha08.St} (h : Fair s) {l : Ha08.Letter} (hl : l ∈ s.air) : 1 ≤ l.to_ ∧ l.to_ ≤ s.nodes.length ∧ ∃ g : Nat → Nat → Nat × Nat, NN.Kn g (Ha08.node s l.to_).claims ∧ (∀ c ∈ l.claims, NN.Agr g c) ∧ (Ha08.node s l.to_).claims.length ≤ 808 ∧ l.claims.length ≤ 808 := by
  obtain ⟨g, k, L, I, hk, hL⟩ := h
  have A := I.air l hl
  have N := I.at A.t1 A.t2
  exact ⟨A.t1, A.t2, g, N.kn, fun c hc => (A.cl c hc).agr, Nat.le_trans (NN.list_few I N.cl N.kn) (by omega), Nat.le_trans (NN.list_few I A.cl A.kn) (by omega)⟩
theorem Fair.air {s : Ha08.St} (h : Fair s) : s.air.length ≤ 100 := by
  obtain ⟨g, k, L, I, hk, hL⟩ := h
  have := I.alen
  omega
def spPart (CC CL CN CW : Addr) : Sp := fun vs H Q _ => ∃ (W : WA) (s : Ha08.St) (n m : Nat), vs = [.ref W.w, .int n, .int m] ∧ WorldAt CC CL CN CW H W s ∧ Fair s ∧ Ret CC CL CN CW H W s (.part n m) Q
def spMeet (CC CL CN CW : Addr) : Sp := fun vs H Q _ => ∃ (W : WA) (s : Ha08.St) (n m : Nat), vs = [.ref W.w, .int n, .int m] ∧ WorldAt CC CL CN CW H W s ∧ Fair s ∧ Ret CC CL CN CW H W s (.meet n m) Q
def spTell (CC CL CN CW : Addr) : Sp := fun vs H Q _ => ∃ (W : WA) (s : Ha08.St) (n m : Nat), vs = [.ref W.w, .int n, .int m] ∧ WorldAt CC CL CN CW H W s ∧ Fair s ∧ Ret CC CL CN CW H W s (.tell n m) Q
def spTake (CC CL CN CW : Addr) : Sp := fun vs H Q _ => ∃ (W : WA) (s : Ha08.St) (k : Nat), vs = [.ref W.w, .int k] ∧ WorldAt CC CL CN CW H W s ∧ Fair s ∧ Ret CC CL CN CW H W s (.take k) Q
section
variable {P : Program} {w : World} {K : PySem.W.Frag} {mg : Str → Option Value} {base : Heap} {CC CL CN CW : Addr}
theorem scPa : FnScope ["self", "n", "m", "reached"] ["self", "n", "m"] (defScope sPart) := ⟨rfl, rfl, rfl, by decide +kernel, rfl, by decide +kernel, by decide +kernel⟩
theorem ok_part {f fT fA fR fC : Addr} {fd fdT fdA fdR fdC : FuncData} (F : Fun K "part" "World.part" sPart f fd) (T : Txt K mg CC CL CN CW)
    (GT : FnOk P w K mg base CX0 2 fT fdT ["self", "n", "m"] (spTwo CC CL CN CW)) (bT : Binds K fdT ["self", "n", "m"] []) (mT : Meth K CW "are_two_nodes" fT)
    (GA : FnOk P w K mg base CX0 1 fA fdA ["self", "n"] (spNodeAt CC CL CN CW)) (bA : Binds K fdA ["self", "n"] []) (mA : Meth K CW "node_at" fA)
    (GR : FnOk P w K mg base CX0 1 fR fdR ["self", "other"] (spReaches CC CN)) (bR : Binds K fdR ["self", "other"] []) (mR : Meth K CN "reaches" fR)
    (GC : FnOk P w K mg base CX0 1 fC fdC ["self", "other"] (spCease CC CN)) (bC : Binds K fdC ["self", "other"] []) (mC : Meth K CN "cease_to_reach" fC) : FnOk P w K mg base CX0 3 f fd ["self", "n", "m"] (spPart CC CL CN CW) := by
  refine F.ok scPa (fun vs H Q E h => ?_) (fun cdv A outer s H vs Q E hr h => ?_)
  · obtain ⟨W, s, n, m, rfl, _⟩ := h
    rfl
  · obtain ⟨W, s, n, m, rfl, hW, hfair, k⟩ := h
    obtain ⟨dx, ob⟩ := hW.ob
    obtain ⟨t1, hm1⟩ := T.kNS
    have hr1 : Room 1 _ := hr.mono (by decide)
    refine ⟨_, pss_cons (ps_if (pt_not (pt_val (pe_meth (pv 0) T.clW mT GT hr bT .nil pass0 (pa_cons (pv 1) (pa_cons (pv 2) pa_nil)))))
        (pss_one (ps_ret (pe_lst (pa_cons (pe_glob (v := .int (-1)) (by rfl) hm1 ⟨_, rfl⟩) pa_nil)))) pss_nil)
      (pss_cons (ps_set (i := 3) scPa.nd rfl (Or.inl rfl) (pe_meth (pe_meth (pv 0) T.clW mA GA hr1 bA .nil pass0 (pa_cons (pv 1) pa_nil)) T.clN mR GR hr1 bR .nil pass0 (pa_cons (pv 2) pa_nil)))
      (pss_cons (ps_expr (pe_meth (pe_meth (pv 0) T.clW mA GA hr1 bA .nil pass0 (pa_cons (pv 1) pa_nil)) T.clN mC GC hr1 bC .nil pass0 (pa_cons (pv 2) pa_nil)))
      (pss_one (ps_ret (pe_lst (pa_cons (pe_ifExp (pt_val (pv 3)) pe_int pe_int) pa_nil)))))), ?_⟩
    refine ⟨_, rfl, W.w, dx, _, rfl, ob, wF_none _ _, _, rfl, _, rfl, W, s, n, m, rfl, hW, _, rfl, ?_⟩
    cases e : (Ha08.isNode s n && (Ha08.isNode s m && !decide (n = m))) with
    | false =>
      refine iteT ?_
      exact ⟨(by show 1 ≤ sizeLine; decide), fun q hq => k.stay hW (by rw [part_no (two_false e)]) hq (by rw [part_no (two_false e)]; rfl)⟩
    | true =>
      refine iteF ?_
      obtain ⟨hg, ⟨h1, h2⟩, ⟨h3, h4⟩, h5⟩ := two_true e
      obtain ⟨N, hN, hNm, hNA⟩ := hW.at_ h1 h2
      obtain ⟨dn, obn⟩ := hNA.ob
      obtain ⟨g, _, _, _, _, hnd, _⟩ := hfair.few h1 h2
      refine ⟨_, rfl, W.w, dx, _, rfl, ob, wF_none _ _, _, rfl, W, s, n, N, rfl, hW, h1, hN, N.a, dn, _, rfl, obn, nF_none _ _ _ _ _, _, rfl, N, n, m, _, rfl, hNA, ?_⟩
      refine ⟨_, rfl, W.w, dx, _, rfl, ob, wF_none _ _, _, rfl, W, s, n, N, rfl, hW, h1, hN, N.a, dn, _, rfl, obn, nF_none _ _ _ _ _, _, rfl, N, n, m, _, rfl, hNA, hnd, fun H' hN' fr => ?_⟩
      have hsub : ∀ a ∈ [N.rl], a ∈ N.fp := by simp [NA.fp]
      have fin : ∀ q, H' q = none → Q (.ref q) (upd H' q (.lst [.int (Ha08.flag ((Ha08.node s n).reach.contains m))])) := fun q hq => k.new (Stp.node_ hN fr hsub) (by rw [part_yes hg]; exact hW.put_ h1 h2 hN hN' fr hsub) hq (by rw [part_yes hg]; rfl)
      refine ⟨_, rfl, _, rfl, ?_⟩
      cases ec : (Ha08.node s n).reach.contains m with
      | true =>
        rw [ec] at fin
        exact iteT ⟨(by show 1 ≤ sizeLine; decide), fun q hq => fin q hq⟩
      | false =>
        rw [ec] at fin
        exact iteF ⟨(by show 1 ≤ sizeLine; decide), fun q hq => fin q hq⟩
theorem scMe : FnScope ["self", "n", "m", "node", "reached"] ["self", "n", "m"] (defScope sMeet) := ⟨rfl, rfl, rfl, by decide +kernel, rfl, by decide +kernel, by decide +kernel⟩
theorem ok_meet {f fT fA fR fB fL fF fS : Addr} {fd fdT fdA fdR fdB fdL fdF fdS : FuncData} (F : Fun K "meet" "World.meet" sMeet f fd) (T : Txt K mg CC CL CN CW)
    (GT : FnOk P w K mg base CX0 2 fT fdT ["self", "n", "m"] (spTwo CC CL CN CW)) (bT : Binds K fdT ["self", "n", "m"] []) (mT : Meth K CW "are_two_nodes" fT)
    (GA : FnOk P w K mg base CX0 1 fA fdA ["self", "n"] (spNodeAt CC CL CN CW)) (bA : Binds K fdA ["self", "n"] []) (mA : Meth K CW "node_at" fA)
    (GR : FnOk P w K mg base CX0 1 fR fdR ["self", "other"] (spReaches CC CN)) (bR : Binds K fdR ["self", "other"] []) (mR : Meth K CN "reaches" fR)
    (GB : FnOk P w K mg base CX0 1 fB fdB ["self", "other"] (spBegin CC CN)) (bB : Binds K fdB ["self", "other"] []) (mB : Meth K CN "begin_to_reach" fB)
    (GL : FnOk P w K mg base CX0 4 fL fdL ["self"] (spLook CC CN)) (bL : Binds K fdL ["self"] []) (mL : Meth K CN "look_through_own" fL)
    (GF : FnOk P w K mg base CX0 1 fF fdF ["self"] (spFull CC CL CN CW)) (bF : Binds K fdF ["self"] []) (mF : Meth K CW "is_full_of_letters" fF)
    (GS : FnOk P w K mg base CX0 4 fS fdS ["self", "n", "m"] (spSend CC CL CN CW)) (bS : Binds K fdS ["self", "n", "m"] []) (mS : Meth K CW "send_letter" fS) : FnOk P w K mg base CX0 5 f fd ["self", "n", "m"] (spMeet CC CL CN CW) := by
  refine F.ok scMe (fun vs H Q E h => ?_) (fun cdv A outer s H vs Q E hr h => ?_)
  · obtain ⟨W, s, n, m, rfl, _⟩ := h
    rfl
  · obtain ⟨W, s, n, m, rfl, hW, hfair, k⟩ := h
    obtain ⟨dx, ob⟩ := hW.ob
    obtain ⟨t1, hm1⟩ := T.kNS
    have hr1 : Room 1 _ := hr.mono (by decide)
    have hr2 : Room 2 _ := hr.mono (by decide)
    refine ⟨_, pss_cons (ps_if (pt_not (pt_val (pe_meth (pv 0) T.clW mT GT hr2 bT .nil pass0 (pa_cons (pv 1) (pa_cons (pv 2) pa_nil)))))
        (pss_one (ps_ret (pe_lst (pa_cons (pe_glob (v := .int (-1)) (by rfl) hm1 ⟨_, rfl⟩) pa_nil)))) pss_nil)
      (pss_cons (ps_set (i := 3) scMe.nd rfl (Or.inl rfl) (pe_meth (pv 0) T.clW mA GA hr1 bA .nil pass0 (pa_cons (pv 1) pa_nil)))
      (pss_cons (ps_set (i := 4) scMe.nd rfl (Or.inl rfl) (pe_meth (pv 3) T.clN mR GR hr1 bR .nil pass0 (pa_cons (pv 2) pa_nil)))
      (pss_cons (ps_expr (pe_meth (pv 3) T.clN mB GB hr1 bB .nil pass0 (pa_cons (pv 2) pa_nil)))
      (pss_cons (ps_expr (pe_meth0 (pv 3) T.clN mL GL hr bL .nil pass0))
      (pss_cons (ps_if (pt_not (pt_val (pe_meth0 (pv 0) T.clW mF GF hr1 bF .nil pass0))) (pss_one (ps_expr (pe_meth (pv 0) T.clW mS GS hr bS .nil pass0 (pa_cons (pv 1) (pa_cons (pv 2) pa_nil))))) pss_nil)
      (pss_one (ps_ret (pe_lst (pa_cons (pe_ifExp (pt_val (pv 4)) pe_int pe_int) pa_nil))))))))), ?_⟩
    refine ⟨_, rfl, W.w, dx, _, rfl, ob, wF_none _ _, _, rfl, _, rfl, W, s, n, m, rfl, hW, _, rfl, ?_⟩
    cases e : (Ha08.isNode s n && (Ha08.isNode s m && !decide (n = m))) with
    | false =>
      refine iteT ?_
      exact ⟨(by show 1 ≤ sizeLine; decide), fun q hq => k.stay hW (by rw [meet_no (two_false e)]) hq (by rw [meet_no (two_false e)]; rfl)⟩
    | true =>
      refine iteF ?_
      obtain ⟨hg, ⟨h1, h2⟩, ⟨h3, h4⟩, h5⟩ := two_true e
      obtain ⟨N, hN, hNm, hNA⟩ := hW.at_ h1 h2
      obtain ⟨dn, obn⟩ := hNA.ob
      obtain ⟨g, hkn, hlen, hlost, hself, hnd, hrl, _⟩ := hfair.few h1 h2
      refine ⟨_, rfl, W.w, dx, _, rfl, ob, wF_none _ _, _, rfl, W, s, n, N, rfl, hW, h1, hN, ?_⟩
      refine ⟨_, rfl, N.a, dn, _, rfl, obn, nF_none _ _ _ _ _, _, rfl, N, n, m, _, rfl, hNA, ?_⟩
      refine ⟨_, rfl, N.a, dn, _, rfl, obn, nF_none _ _ _ _ _, _, rfl, N, n, m, _, rfl, hNA, by omega, fun H1 hN1 fr1 => ?_⟩
      have hN1 : NodeAt CC CN H1 N n (more (Ha08.node s n) m) := hN1
      obtain ⟨dn1, obn1⟩ := hN1.ob
      have hself2 : n ∈ (more (Ha08.node s n) m).reach := by
        unfold more
        show n ∈ (if _ then _ else _)
        split
        · exact hself
        · simp [hself]
      refine ⟨_, rfl, N.a, dn1, _, rfl, obn1, nF_none _ _ _ _ _, N, n, _, g, rfl, hN1, hkn, hself2, Nat.le_trans hlen (by omega), Nat.le_trans hlost (by omega), fun H2 es hN2 hes fr2 => ?_⟩
      have fr1' : Fr H H1 N.fp := fr1.more (by simp [NA.fp])
      have fr2' : Fr H1 H2 N.fp := fr2.more (by
        intro a ha
        simp at ha
        unfold NA.fp
        simp
        rcases ha with rfl | rfl | ha
        · exact Or.inr (Or.inl rfl)
        · exact Or.inr (Or.inr (Or.inr (Or.inl rfl)))
        · exact Or.inr (Or.inr (Or.inr (Or.inr ha))))
      have fr := fr1'.trans fr2'
      have hsub : ∀ f ∈ ({ N with es := es } : NA).fp, f ∈ N.fp ∨ H f = none := fun f hf => by
        by_cases hq : f ∈ N.fp
        · exact Or.inl hq
        · refine Or.inr ?_
          unfold NA.fp at hf hq
          simp at hf hq
          rcases hf with q | q | q | q | q
          · exact absurd q hq.1
          · exact absurd q hq.2.1
          · exact absurd q hq.2.2.1
          · exact absurd q hq.2.2.2.1
          · rcases hes f q with r | r
            · exact absurd r hq.2.2.2.2
            · refine fr1'.free r ?_
              unfold NA.fp
              simp
              exact hq
      have hW2 := hW.put h1 h2 hN hN2 rfl hsub fr
      have st2 : Stp H W H2 _ := Stp.node hN hsub fr
      obtain ⟨dw, obw⟩ := hW2.ob
      refine ⟨_, rfl, W.w, dw, _, rfl, obw, wF_none _ _, { W with Ns := W.Ns.set (n - 1) { N with es := es } }, _, rfl, hW2, _, rfl, ?_⟩
      refine' by_tail (C := fun H3 => ∃ W3, Stp H W H3 W3 ∧ WorldAt CC CL CN CW H3 W3 (Ha08.step s (.meet n m)).1) ?tail fun fin => ?main
      case main =>
        cases ef : decide (Ha08.AIR ≤ s.air.length) with
        | true =>
          have hf : Ha08.AIR ≤ s.air.length := of_decide_eq_true ef
          refine iteN (by show (!decide (Ha08.AIR ≤ s.air.length)) = false; rw [ef]; rfl) (fin H2 ⟨_, st2, ?_⟩)
          rw [meet_yes hg, if_pos hf]
          exact hW2
        | false =>
          have hf : ¬ Ha08.AIR ≤ s.air.length := of_decide_eq_false ef
          refine iteY (by show (!decide (Ha08.AIR ≤ s.air.length)) = true; rw [ef]; rfl) ?_
          refine ⟨_, rfl, W.w, dw, _, rfl, obw, wF_none _ _, _, rfl, _, rfl, { W with Ns := W.Ns.set (n - 1) { N with es := es } }, _, n, m, rfl, hW2, h1, by rw [NN.set_len]; exact h2, Nat.le_trans hfair.air (by omega), fun H3 Ls hW3 st3 => ?_⟩
          refine fin H3 ⟨_, st2.trans st3, ?_⟩
          rw [meet_yes hg, if_neg hf]
          exact hW3
      case tail =>
        rintro H3 ⟨W3, st3, hW3⟩
        have fl : ∀ q, H3 q = none → Q (.ref q) (upd H3 q (.lst [.int (Ha08.flag ((Ha08.node s n).reach.contains m))])) := fun q hq => k.new st3 hW3 hq (by rw [meet_yes hg]; rfl)
        refine ⟨_, rfl, _, rfl, ?_⟩
        cases ec : (Ha08.node s n).reach.contains m with
        | true =>
          rw [ec] at fl
          exact iteT ⟨(by show 1 ≤ sizeLine; decide), fun q hq => fl q hq⟩
        | false =>
          rw [ec] at fl
          exact iteF ⟨(by show 1 ≤ sizeLine; decide), fun q hq => fl q hq⟩
theorem scTe : FnScope ["self", "n", "m", "node"] ["self", "n", "m"] (defScope sTell) := ⟨rfl, rfl, rfl, by decide +kernel, rfl, by decide +kernel, by decide +kernel⟩
theorem ok_tell {f fT fA fR fF fS : Addr} {fd fdT fdA fdR fdF fdS : FuncData} (F : Fun K "tell" "World.tell" sTell f fd) (T : Txt K mg CC CL CN CW)
    (GT : FnOk P w K mg base CX0 2 fT fdT ["self", "n", "m"] (spTwo CC CL CN CW)) (bT : Binds K fdT ["self", "n", "m"] []) (mT : Meth K CW "are_two_nodes" fT)
    (GA : FnOk P w K mg base CX0 1 fA fdA ["self", "n"] (spNodeAt CC CL CN CW)) (bA : Binds K fdA ["self", "n"] []) (mA : Meth K CW "node_at" fA)
    (GR : FnOk P w K mg base CX0 1 fR fdR ["self", "other"] (spReaches CC CN)) (bR : Binds K fdR ["self", "other"] []) (mR : Meth K CN "reaches" fR)
    (GF : FnOk P w K mg base CX0 1 fF fdF ["self"] (spFull CC CL CN CW)) (bF : Binds K fdF ["self"] []) (mF : Meth K CW "is_full_of_letters" fF)
    (GS : FnOk P w K mg base CX0 4 fS fdS ["self", "n", "m"] (spSend CC CL CN CW)) (bS : Binds K fdS ["self", "n", "m"] []) (mS : Meth K CW "send_letter" fS) : FnOk P w K mg base CX0 5 f fd ["self", "n", "m"] (spTell CC CL CN CW) := by
  refine F.ok scTe (fun vs H Q E h => ?_) (fun cdv A outer s H vs Q E hr h => ?_)
  · obtain ⟨W, s, n, m, rfl, _⟩ := h
    rfl
  · obtain ⟨W, s, n, m, rfl, hW, hfair, k⟩ := h
    obtain ⟨dx, ob⟩ := hW.ob
    obtain ⟨t1, hm1⟩ := T.kNS
    obtain ⟨t4, hm4⟩ := T.kNR
    obtain ⟨t6, hm6⟩ := T.kFu
    have hr1 : Room 1 _ := hr.mono (by decide)
    have hr2 : Room 2 _ := hr.mono (by decide)
    refine ⟨_, pss_cons (ps_if (pt_not (pt_val (pe_meth (pv 0) T.clW mT GT hr2 bT .nil pass0 (pa_cons (pv 1) (pa_cons (pv 2) pa_nil)))))
        (pss_one (ps_ret (pe_lst (pa_cons (pe_glob (v := .int (-1)) (by rfl) hm1 ⟨_, rfl⟩) pa_nil)))) pss_nil)
      (pss_cons (ps_set (i := 3) scTe.nd rfl (Or.inl rfl) (pe_meth (pv 0) T.clW mA GA hr1 bA .nil pass0 (pa_cons (pv 1) pa_nil)))
      (pss_cons (ps_if (pt_not (pt_val (pe_meth (pv 3) T.clN mR GR hr1 bR .nil pass0 (pa_cons (pv 2) pa_nil)))) (pss_one (ps_ret (pe_lst (pa_cons (pe_glob (v := .int (-4)) (by rfl) hm4 ⟨_, rfl⟩) pa_nil)))) pss_nil)
      (pss_cons (ps_if (pt_val (pe_meth0 (pv 0) T.clW mF GF hr1 bF .nil pass0)) (pss_one (ps_ret (pe_lst (pa_cons (pe_glob (v := .int (-6)) (by rfl) hm6 ⟨_, rfl⟩) pa_nil)))) pss_nil)
      (pss_cons (ps_expr (pe_meth (pv 0) T.clW mS GS hr bS .nil pass0 (pa_cons (pv 1) (pa_cons (pv 2) pa_nil))))
      (pss_one (ps_ret (pe_lst (pa_cons (pe_callB call_len_seq (by rfl) T.len PySem.boot_len (pa_cons (pe_fld (pv 3) rfl) pa_nil)) pa_nil)))))))), ?_⟩
    refine ⟨_, rfl, W.w, dx, _, rfl, ob, wF_none _ _, _, rfl, _, rfl, W, s, n, m, rfl, hW, _, rfl, ?_⟩
    cases e : (Ha08.isNode s n && (Ha08.isNode s m && !decide (n = m))) with
    | false =>
      refine iteT ?_
      exact ⟨(by show 1 ≤ sizeLine; decide), fun q hq => k.stay hW (by rw [tell_no (two_false e)]) hq (by rw [tell_no (two_false e)]; rfl)⟩
    | true =>
      refine iteF ?_
      obtain ⟨hg, ⟨h1, h2⟩, ⟨h3, h4⟩, h5⟩ := two_true e
      obtain ⟨N, hN, hNm, hNA⟩ := hW.at_ h1 h2
      obtain ⟨dn, obn⟩ := hNA.ob
      refine ⟨_, rfl, W.w, dx, _, rfl, ob, wF_none _ _, _, rfl, W, s, n, N, rfl, hW, h1, hN, ?_⟩
      refine ⟨_, rfl, N.a, dn, _, rfl, obn, nF_none _ _ _ _ _, _, rfl, N, n, m, _, rfl, hNA, _, rfl, ?_⟩
      cases ec : (Ha08.node s n).reach.contains m with
      | false =>
        refine iteT ?_
        exact ⟨(by show 1 ≤ sizeLine; decide), fun q hq => k.stay hW (by rw [tell_far hg ec]) hq (by rw [tell_far hg ec]; rfl)⟩
      | true =>
        refine iteF ?_
        refine ⟨_, rfl, W.w, dx, _, rfl, ob, wF_none _ _, W, _, rfl, hW, _, rfl, ?_⟩
        by_cases hf : Ha08.AIR ≤ s.air.length
        · refine iteY (decide_eq_true hf) ?_
          exact ⟨(by show 1 ≤ sizeLine; decide), fun q hq => k.stay hW (by rw [tell_full hg ec hf]) hq (by rw [tell_full hg ec hf]; rfl)⟩
        · refine iteN (decide_eq_false hf) ?_
          refine ⟨_, rfl, W.w, dx, _, rfl, ob, wF_none _ _, _, rfl, _, rfl, W, s, n, m, rfl, hW, h1, h2, Nat.le_trans hfair.air (by omega), fun H3 Ls hW3 st3 => ?_⟩
          obtain ⟨N3, hN3, _, hNA3⟩ := hW3.at_ (n := n) h1 h2
          have eN : N3 = N := Option.some.inj (hN3.symm.trans hN)
          subst eN
          obtain ⟨dn3, obn3⟩ := hNA3.ob
          obtain ⟨as, hk, kt⟩ := hNA3.ks
          refine ⟨_, rfl, N3.a, CN, dn3, _, _, rfl, obn3, T.clN, T.nKnown, nF_known _ _ _ _ _, N3.kl, _, rfl, .inl (SqL.of hk), (by show 1 ≤ sizeLine; decide), fun q hq => ?_⟩
          rw [List.length_map, kt.len]
          exact k.new st3 (by rw [tell_yes hg ec hf]; exact hW3) hq (by rw [tell_yes hg ec hf]; rfl)
theorem seq_ix {i : Int} {j len : Nat} (e : i = (j : Int)) (h : j < len) : seqIndex? i len = some j := by
  unfold seqIndex?
  rw [e]
  have h1 : ¬ ((j : Int) < 0) := by omega
  simp [h1, h]
theorem lRefs_at {Ls : List LA} {i : Nat} {L : LA} (h : Ls[i]? = some L) : (lRefs Ls)[i]? = some (V.ref L.a) := by
  unfold lRefs
  exact at_ref (by rw [List.getElem?_map, h]; rfl)
/-- a letter arrives: what the node's receive leaves -/
theorem WorldAt.arrives {H H' : Hp} {W : WA} {s : Ha08.St} {l : Ha08.Letter} {N : NA} {es : List (Nat × Addr)} (h : WorldAt CC CL CN CW H W s) (h1 : 1 ≤ l.to_) (h2 : l.to_ ≤ s.nodes.length) (hN : W.Ns[l.to_ - 1]? = some N)
    (hN' : NodeAt CC CN H' { N with es := es } l.to_ (Ha08.looks l.to_ (NN.gets (Ha08.node s l.to_) l))) (hes : ∀ f ∈ es.map (·.2), f ∈ N.ls ∨ H f = none) (fr : Fr H H' N.fp) :
    WorldAt CC CL CN CW H' { W with Ns := W.Ns.set (l.to_ - 1) { N with es := es } } (Ha08.arrives s l) ∧ Stp H W H' { W with Ns := W.Ns.set (l.to_ - 1) { N with es := es } } := by
  have hsub : ∀ f ∈ ({ N with es := es } : NA).fp, f ∈ N.fp ∨ H f = none := fun f hf => by
    unfold NA.fp at hf ⊢
    simp at hf ⊢
    rcases hf with q | q | q | q | q
    · exact Or.inl (Or.inl q)
    · exact Or.inl (Or.inr (Or.inl q))
    · exact Or.inl (Or.inr (Or.inr (Or.inl q)))
    · exact Or.inl (Or.inr (Or.inr (Or.inr (Or.inl q))))
    · rcases hes f q with r | r
      · exact Or.inl (Or.inr (Or.inr (Or.inr (Or.inr r))))
      · exact Or.inr r
  exact ⟨h.put h1 h2 hN hN' rfl hsub fr, Stp.node hN hsub fr⟩
theorem arrives_lost {s : Ha08.St} {l : Ha08.Letter} (h1 : 1 ≤ l.to_) (h2 : l.to_ ≤ s.nodes.length) : Ha08.node (Ha08.arrives s l) l.to_ = Ha08.looks l.to_ (NN.gets (Ha08.node s l.to_) l) := by
  rw [NN.arrives_eq, NN.node_set h1 h2 h1, if_pos rfl]
end
end NH
set_option Elab.async false
set_option linter.all false
set_option maxRecDepth 100000
set_option maxHeartbeats 4000000
namespace NH
open PySem PySem.Spec PyProof.Rows L2
abbrev sDeliver : Stmt := inClass (top tW_) 8
abbrev sTake : Stmt := inClass (top tW_) 16
abbrev sKeep : Stmt := inClass (top tW_) 17
abbrev sLose : Stmt := inClass (top tW_) 18
abbrev sTurns : Stmt := inClass (top tW_) 19
/-! ### 22. deliver, take, keep, lose, turns -/
theorem letter_false {s : Ha08.St} {k : Nat} (h : (decide (1 ≤ k) && decide (k ≤ s.air.length)) = false) : k < 1 ∨ s.air.length < k := by
  simp at h
  omega
theorem letter_true {s : Ha08.St} {k : Nat} (h : (decide (1 ≤ k) && decide (k ≤ s.air.length)) = true) : 1 ≤ k ∧ k ≤ s.air.length := by
  simpa using h
theorem keep_no {s : Ha08.St} {k : Nat} (h : k < 1 ∨ s.air.length < k) : Ha08.step s (.keep k) = (s, [-5]) := by
  dsimp only [Ha08.step]
  split
  · rfl
  · rename_i l e
    have := (List.getElem?_eq_some_iff.mp e).1
    rw [if_pos (by omega)]
theorem lose_no {s : Ha08.St} {k : Nat} (h : k < 1 ∨ s.air.length < k) : Ha08.step s (.lose k) = (s, [-5]) := by
  dsimp only [Ha08.step]
  split
  · rfl
  · rename_i l e
    have := (List.getElem?_eq_some_iff.mp e).1
    rw [if_pos (by omega)]
theorem keep_yes {s : Ha08.St} {k : Nat} {l : Ha08.Letter} (h1 : 1 ≤ k) (hl : s.air[k - 1]? = some l) : Ha08.step s (.keep k) = (Ha08.arrives s l, [(l.to_ : Int), (((Ha08.node (Ha08.arrives s l) l.to_).lost.length - (Ha08.node s l.to_).lost.length : Nat) : Int)]) := by
  dsimp only [Ha08.step]
  rw [hl]
  exact if_neg (by omega)
theorem lose_yes {s : Ha08.St} {k : Nat} {l : Ha08.Letter} (h1 : 1 ≤ k) (hl : s.air[k - 1]? = some l) : Ha08.step s (.lose k) = ({ s with air := s.air.eraseIdx (k - 1) }, [(l.to_ : Int)]) := by
  dsimp only [Ha08.step]
  rw [hl]
  exact if_neg (by omega)
theorem turns_no {s : Ha08.St} {n : Nat} (h : 500 < n) : Ha08.step s (.turns n) = (s, [-1]) := if_pos h
theorem turns_yes {s : Ha08.St} {n : Nat} (h : ¬ 500 < n) : Ha08.step s (.turns n) = ((Ha08.rounds n s).1, [((Ha08.rounds n s).2 : Int)]) := if_neg h
theorem rounds_nil {s : Ha08.St} (n : Nat) (h : s.air = []) : Ha08.rounds n s = (s, 0) := by
  cases n with
  | zero => rfl
  | succ n =>
    unfold Ha08.rounds
    rw [h]
theorem rounds_cons {s : Ha08.St} {l : Ha08.Letter} {r : List Ha08.Letter} (n : Nat) (h : s.air = l :: r) : Ha08.rounds (n + 1) s = ((Ha08.rounds n (Ha08.arrives { s with air := r } l)).1, (Ha08.rounds n (Ha08.arrives { s with air := r } l)).2 + 1) := by
  conv => lhs; unfold Ha08.rounds
  rw [h]
/-- what a letter that arrives asks of the world -/
structure Fit (s : Ha08.St) (l : Ha08.Letter) : Prop where
  t1 : 1 ≤ l.to_
  t2 : l.to_ ≤ s.nodes.length
  ag : ∃ g : Nat → Nat → Nat × Nat, NN.Kn g (Ha08.node s l.to_).claims ∧ ∀ c ∈ l.claims, NN.Agr g c
  me : l.to_ ∈ (Ha08.node s l.to_).reach
  n1 : (Ha08.node s l.to_).claims.length ≤ 1000
  n2 : l.claims.length ≤ 1000
  n3 : (Ha08.node s l.to_).lost.length ≤ 12000000
theorem fit_inv {g : Nat → Nat → Nat × Nat} {k L : Nat} {s : Ha08.St} {l : Ha08.Letter} (I : NN.Inv g k L s) (hk : k < 100) (hL : L ≤ 12000000) (hl : l ∈ s.air) : Fit s l := by
  have A := I.air l hl
  have N := I.at A.t1 A.t2
  exact ⟨A.t1, A.t2, ⟨g, N.kn, fun c hc => (A.cl c hc).agr⟩, N.rs, Nat.le_trans (NN.list_few I N.cl N.kn) (by omega), Nat.le_trans (NN.list_few I A.cl A.kn) (by omega), Nat.le_trans N.lost hL⟩
theorem Fair.fit {s : Ha08.St} {l : Ha08.Letter} (h : Fair s) (hl : l ∈ s.air) : Fit s l := by
  obtain ⟨g, k, L, I, hk, hL⟩ := h
  exact fit_inv I hk (by omega) hl
def spDeliver (CC CL CN CW : Addr) : Sp := fun vs H Q _ => ∃ (W : WA) (s : Ha08.St) (L : LA) (l : Ha08.Letter), vs = [.ref W.w, .ref L.a] ∧ WorldAt CC CL CN CW H W s ∧ LetterAt CC CL H L.a L.kl l ∧ (∀ N ∈ W.Ns, L.kl ∉ N.fp) ∧ Fit s l ∧
  ∀ (H' : Hp) (W' : WA), Stp H W H' W' → WorldAt CC CL CN CW H' W' (Ha08.arrives s l) → Q (.int ((Ha08.node (Ha08.arrives s l) l.to_).lost.length - (Ha08.node s l.to_).lost.length : Nat)) H'
def spKeep (CC CL CN CW : Addr) : Sp := fun vs H Q _ => ∃ (W : WA) (s : Ha08.St) (k : Nat), vs = [.ref W.w, .int k] ∧ WorldAt CC CL CN CW H W s ∧ Fair s ∧ Ret CC CL CN CW H W s (.keep k) Q
def spLose (CC CL CN CW : Addr) : Sp := fun vs H Q _ => ∃ (W : WA) (s : Ha08.St) (k : Nat), vs = [.ref W.w, .int k] ∧ WorldAt CC CL CN CW H W s ∧ Fair s ∧ Ret CC CL CN CW H W s (.lose k) Q
def spTurns (CC CL CN CW : Addr) : Sp := fun vs H Q _ => ∃ (W : WA) (s : Ha08.St) (n : Nat), vs = [.ref W.w, .int n] ∧ WorldAt CC CL CN CW H W s ∧ Fair s ∧ Ret CC CL CN CW H W s (.turns n) Q
section
variable {P : Program} {w : World} {K : PySem.W.Frag} {mg : Str → Option Value} {base : Heap} {CC CL CN CW : Addr}
theorem scDe : FnScope ["self", "letter"] ["self", "letter"] (defScope sDeliver) := ⟨rfl, rfl, rfl, by decide +kernel, rfl, by decide +kernel, by decide +kernel⟩
theorem ok_deliver {f fA fR : Addr} {fd fdA fdR : FuncData} (F : Fun K "deliver" "World.deliver" sDeliver f fd) (T : Txt K mg CC CL CN CW)
    (GA : FnOk P w K mg base CX0 1 fA fdA ["self", "n"] (spNodeAt CC CL CN CW)) (bA : Binds K fdA ["self", "n"] []) (mA : Meth K CW "node_at" fA)
    (GR : FnOk P w K mg base CX0 5 fR fdR ["self", "letter"] (spReceive CC CL CN)) (bR : Binds K fdR ["self", "letter"] []) (mR : Meth K CN "receive" fR) : FnOk P w K mg base CX0 6 f fd ["self", "letter"] (spDeliver CC CL CN CW) := by
  refine F.ok scDe (fun vs H Q E h => ?_) (fun cdv A outer s H vs Q E hr h => ?_)
  · obtain ⟨W, s, L, l, rfl, _⟩ := h
    rfl
  · obtain ⟨W, s, L, l, rfl, hW, hLA, hd, ⟨t1, t2, ⟨g, hkn, hag⟩, hself, n1, n2, n3⟩, k⟩ := h
    obtain ⟨dx, ob⟩ := hW.ob
    obtain ⟨dl, obl⟩ := hLA.ob
    have hr1 : Room 1 _ := hr.mono (by decide)
    refine ⟨_, pss_one (ps_ret (pe_meth (pe_meth (pv 0) T.clW mA GA hr1 bA .nil pass0 (pa_cons (pe_fld (pv 1) rfl) pa_nil)) T.clN mR GR hr bR .nil pass0 (pa_cons (pv 1) pa_nil))), ?_⟩
    obtain ⟨N, hN, hNm, hNA⟩ := hW.at_ (n := l.to_) t1 t2
    obtain ⟨dn, obn⟩ := hNA.ob
    have hlk : L.kl ≠ N.kl := fun e => hd N hNm (by rw [e]; simp [NA.fp])
    refine ⟨_, rfl, W.w, dx, _, rfl, ob, wF_none _ _, _, rfl, L.a, CL, dl, _, _, rfl, obl, T.clL, T.lRecv, lF_recv _ _ _ _, W, s, l.to_, N, rfl, hW, t1, hN, N.a, dn, _, rfl, obn, nF_none _ _ _ _ _, _, rfl, N, l.to_, _, L.a, L.kl, l, g, rfl, hNA, hLA, hlk, hkn, hag, hself, n1, n2, n3, fun H2 es hN2 hes fr2 => ?_⟩
    obtain ⟨hW2, st2⟩ := hW.arrives t1 t2 hN hN2 hes fr2
    rw [arrives_lost t1 t2] at k
    exact k H2 _ st2 hW2
theorem scTk : FnScope ["self", "k", "letter"] ["self", "k"] (defScope sTake) := ⟨rfl, rfl, rfl, by decide +kernel, rfl, by decide +kernel, by decide +kernel⟩
theorem ok_take {f fI fD : Addr} {fd fdI fdD : FuncData} (F : Fun K "take" "World.take" sTake f fd) (T : Txt K mg CC CL CN CW)
    (GI : FnOk P w K mg base CX0 1 fI fdI ["self", "k"] (spIsLetter CC CL CN CW)) (bI : Binds K fdI ["self", "k"] []) (mI : Meth K CW "is_letter" fI)
    (GD : FnOk P w K mg base CX0 6 fD fdD ["self", "letter"] (spDeliver CC CL CN CW)) (bD : Binds K fdD ["self", "letter"] []) (mD : Meth K CW "deliver" fD) : FnOk P w K mg base CX0 7 f fd ["self", "k"] (spTake CC CL CN CW) := by
  refine F.ok scTk (fun vs H Q E h => ?_) (fun cdv A outer s H vs Q E hr h => ?_)
  · obtain ⟨W, s, j, rfl, _⟩ := h
    rfl
  · obtain ⟨W, s, j, rfl, hW, hfair, k⟩ := h
    obtain ⟨dx, ob⟩ := hW.ob
    obtain ⟨t5, hm5⟩ := T.kNL
    have hr1 : Room 1 _ := hr.mono (by decide)
    refine ⟨_, pss_cons (ps_if (pt_not (pt_val (pe_meth (pv 0) T.clW mI GI hr1 bI .nil pass0 (pa_cons (pv 1) pa_nil))))
        (pss_one (ps_ret (pe_lst (pa_cons (pe_glob (v := .int (-5)) (by rfl) hm5 ⟨_, rfl⟩) pa_nil)))) pss_nil)
      (pss_cons (ps_set (i := 2) scTk.nd rfl (Or.inl rfl) (pe_bm PySem.F.plainAttrs_list PySem.F.slot_list_pop PySem.F.type_list_pop mt_popAt (pe_fld (pv 0) rfl) (pa_cons (pe_op op_sub (pv 1) pe_int) pa_nil)))
      (pss_one (ps_ret (pe_lst (pa_cons (pe_fld (pv 2) rfl) (pa_cons (pe_meth (pv 0) T.clW mD GD hr bD .nil pass0 (pa_cons (pv 2) pa_nil)) pa_nil)))))), ?_⟩
    refine ⟨_, rfl, W.w, dx, _, rfl, ob, wF_none _ _, _, rfl, W, s, j, rfl, hW, _, rfl, ?_⟩
    cases e : (decide (1 ≤ j) && decide (j ≤ s.air.length)) with
    | false =>
      refine iteT ?_
      have hn := letter_false e
      exact ⟨(by show 1 ≤ sizeLine; decide), fun q hq => k.stay hW (by rw [take_no hn]) hq (by rw [take_no hn]; rfl)⟩
    | true =>
      refine iteF ?_
      obtain ⟨h1, h2⟩ := letter_true e
      have hlt : j - 1 < s.air.length := by omega
      obtain ⟨l, hl⟩ : ∃ l, s.air[j - 1]? = some l := ⟨_, List.getElem?_eq_getElem hlt⟩
      obtain ⟨L, hL, hLA⟩ := hW.ls.got hl
      have ft := hfair.fit (List.mem_of_getElem? hl)
      have hair := hfair.air
      refine ⟨_, rfl, W.w, CW, dx, _, _, rfl, ob, T.clW, T.wLetters, wF_letters _ _, .inl ⟨rfl, _, SqL.of hW.ll⟩, _, rfl, _, _, rfl, rfl, W.ll, _, _, j - 1, _, rfl, rfl, hW.ll, by omega, by omega, seq_ix (by omega) (by rw [lRefs_len, hW.ls.len]; exact hlt), lRefs_at hL, ?_⟩
      have fr0 : Fr H (upd H W.ll (.lst ((lRefs W.Ls).eraseIdx (j - 1)))) [W.ll] := fr_upd (by simp)
      have hW1 := hW.drop (j - 1)
      have hLA1 := hW.letter_keep fr0 (List.mem_of_getElem? hL) hLA
      have st1 : Stp H W _ { W with Ls := W.Ls.eraseIdx (j - 1) } := Stp.air fr0 fun L hL => Or.inl (NN.erase_mem hL)
      generalize upd H W.ll (.lst ((lRefs W.Ls).eraseIdx (j - 1))) = H1 at hW1 hLA1 st1 ⊢
      obtain ⟨dw, obw⟩ := hW1.ob
      obtain ⟨dl, obl⟩ := hLA1.ob
      refine ⟨_, rfl, L.a, CL, dl, _, _, rfl, obl, T.clL, T.lRecv, lF_recv _ _ _ _, ?_⟩
      refine ⟨_, rfl, W.w, dw, _, rfl, obw, wF_none _ _, _, rfl, { W with Ls := W.Ls.eraseIdx (j - 1) }, { s with air := s.air.eraseIdx (j - 1) }, L, l, rfl, hW1, hLA1, (hW.d4 L (List.mem_of_getElem? hL)).2.2, ⟨ft.t1, ft.t2, ft.ag, ft.me, ft.n1, ft.n2, ft.n3⟩, fun H2 W2 st2 hW2 => ?_⟩
      refine ⟨(by show 2 ≤ sizeLine; decide), fun q hq => ?_⟩
      refine k.new (st1.trans st2) ?_ hq ?_
      · rw [take_yes h1 hl]
        exact hW2
      · rw [take_yes h1 hl, arrives_lost ft.t1 ft.t2, arrives_lost (s := { s with air := s.air.eraseIdx (j - 1) }) ft.t1 ft.t2]
        rfl
theorem scKe : FnScope ["self", "k", "letter"] ["self", "k"] (defScope sKeep) := ⟨rfl, rfl, rfl, by decide +kernel, rfl, by decide +kernel, by decide +kernel⟩
theorem ok_keep {f fI fD : Addr} {fd fdI fdD : FuncData} (F : Fun K "keep" "World.keep" sKeep f fd) (T : Txt K mg CC CL CN CW)
    (GI : FnOk P w K mg base CX0 1 fI fdI ["self", "k"] (spIsLetter CC CL CN CW)) (bI : Binds K fdI ["self", "k"] []) (mI : Meth K CW "is_letter" fI)
    (GD : FnOk P w K mg base CX0 6 fD fdD ["self", "letter"] (spDeliver CC CL CN CW)) (bD : Binds K fdD ["self", "letter"] []) (mD : Meth K CW "deliver" fD) : FnOk P w K mg base CX0 7 f fd ["self", "k"] (spKeep CC CL CN CW) := by
  refine F.ok scKe (fun vs H Q E h => ?_) (fun cdv A outer s H vs Q E hr h => ?_)
  · obtain ⟨W, s, j, rfl, _⟩ := h
    rfl
  · obtain ⟨W, s, j, rfl, hW, hfair, k⟩ := h
    obtain ⟨dx, ob⟩ := hW.ob
    obtain ⟨t5, hm5⟩ := T.kNL
    have hr1 : Room 1 _ := hr.mono (by decide)
    refine ⟨_, pss_cons (ps_if (pt_not (pt_val (pe_meth (pv 0) T.clW mI GI hr1 bI .nil pass0 (pa_cons (pv 1) pa_nil))))
        (pss_one (ps_ret (pe_lst (pa_cons (pe_glob (v := .int (-5)) (by rfl) hm5 ⟨_, rfl⟩) pa_nil)))) pss_nil)
      (pss_cons (ps_set (i := 2) scKe.nd rfl (Or.inl rfl) (pe_ix ix_list (pe_fld (pv 0) rfl) (pe_op op_sub (pv 1) pe_int) (fun _ _ => rfl)))
      (pss_one (ps_ret (pe_lst (pa_cons (pe_fld (pv 2) rfl) (pa_cons (pe_meth (pv 0) T.clW mD GD hr bD .nil pass0 (pa_cons (pv 2) pa_nil)) pa_nil)))))), ?_⟩
    refine ⟨_, rfl, W.w, dx, _, rfl, ob, wF_none _ _, _, rfl, W, s, j, rfl, hW, _, rfl, ?_⟩
    cases e : (decide (1 ≤ j) && decide (j ≤ s.air.length)) with
    | false =>
      refine iteT ?_
      have hn := letter_false e
      exact ⟨(by show 1 ≤ sizeLine; decide), fun q hq => k.stay hW (by rw [keep_no hn]) hq (by rw [keep_no hn]; rfl)⟩
    | true =>
      refine iteF ?_
      obtain ⟨h1, h2⟩ := letter_true e
      have hlt : j - 1 < s.air.length := by omega
      obtain ⟨l, hl⟩ : ∃ l, s.air[j - 1]? = some l := ⟨_, List.getElem?_eq_getElem hlt⟩
      obtain ⟨L, hL, hLA⟩ := hW.ls.got hl
      have ft := hfair.fit (List.mem_of_getElem? hl)
      obtain ⟨dl, obl⟩ := hLA.ob
      refine ⟨_, rfl, W.w, CW, dx, _, _, rfl, ob, T.clW, T.wLetters, wF_letters _ _, _, rfl, _, _, rfl, rfl, W.ll, _, _, _, rfl, rfl, SqL.of hW.ll, at_of (j := j - 1) (by omega) (lRefs_at hL), ?_⟩
      refine ⟨_, rfl, L.a, CL, dl, _, _, rfl, obl, T.clL, T.lRecv, lF_recv _ _ _ _, ?_⟩
      refine ⟨_, rfl, W.w, dx, _, rfl, ob, wF_none _ _, _, rfl, W, s, L, l, rfl, hW, hLA, (hW.d4 L (List.mem_of_getElem? hL)).2.2, ft, fun H2 W2 st2 hW2 => ?_⟩
      refine ⟨(by show 2 ≤ sizeLine; decide), fun q hq => ?_⟩
      exact k.new st2 (by rw [keep_yes h1 hl]; exact hW2) hq (by rw [keep_yes h1 hl]; rfl)
theorem scLs : FnScope ["self", "k"] ["self", "k"] (defScope sLose) := ⟨rfl, rfl, rfl, by decide +kernel, rfl, by decide +kernel, by decide +kernel⟩
theorem ok_lose {f fI : Addr} {fd fdI : FuncData} (F : Fun K "lose" "World.lose" sLose f fd) (T : Txt K mg CC CL CN CW)
    (GI : FnOk P w K mg base CX0 1 fI fdI ["self", "k"] (spIsLetter CC CL CN CW)) (bI : Binds K fdI ["self", "k"] []) (mI : Meth K CW "is_letter" fI) : FnOk P w K mg base CX0 2 f fd ["self", "k"] (spLose CC CL CN CW) := by
  refine F.ok scLs (fun vs H Q E h => ?_) (fun cdv A outer s H vs Q E hr h => ?_)
  · obtain ⟨W, s, j, rfl, _⟩ := h
    rfl
  · obtain ⟨W, s, j, rfl, hW, hfair, k⟩ := h
    obtain ⟨dx, ob⟩ := hW.ob
    obtain ⟨t5, hm5⟩ := T.kNL
    refine ⟨_, pss_cons (ps_if (pt_not (pt_val (pe_meth (pv 0) T.clW mI GI hr bI .nil pass0 (pa_cons (pv 1) pa_nil))))
        (pss_one (ps_ret (pe_lst (pa_cons (pe_glob (v := .int (-5)) (by rfl) hm5 ⟨_, rfl⟩) pa_nil)))) pss_nil)
      (pss_one (ps_ret (pe_lst (pa_cons (pe_fld (pe_bm PySem.F.plainAttrs_list PySem.F.slot_list_pop PySem.F.type_list_pop mt_popAt (pe_fld (pv 0) rfl) (pa_cons (pe_op op_sub (pv 1) pe_int) pa_nil)) rfl) pa_nil)))), ?_⟩
    refine ⟨_, rfl, W.w, dx, _, rfl, ob, wF_none _ _, _, rfl, W, s, j, rfl, hW, _, rfl, ?_⟩
    cases e : (decide (1 ≤ j) && decide (j ≤ s.air.length)) with
    | false =>
      refine iteT ?_
      have hn := letter_false e
      exact ⟨(by show 1 ≤ sizeLine; decide), fun q hq => k.stay hW (by rw [lose_no hn]) hq (by rw [lose_no hn]; rfl)⟩
    | true =>
      refine iteF ?_
      obtain ⟨h1, h2⟩ := letter_true e
      have hlt : j - 1 < s.air.length := by omega
      obtain ⟨l, hl⟩ : ∃ l, s.air[j - 1]? = some l := ⟨_, List.getElem?_eq_getElem hlt⟩
      obtain ⟨L, hL, hLA⟩ := hW.ls.got hl
      have hair := hfair.air
      refine ⟨_, rfl, W.w, CW, dx, _, _, rfl, ob, T.clW, T.wLetters, wF_letters _ _, .inl ⟨rfl, _, SqL.of hW.ll⟩, _, rfl, _, _, rfl, rfl, W.ll, _, _, j - 1, _, rfl, rfl, hW.ll, by omega, by omega, seq_ix (by omega) (by rw [lRefs_len, hW.ls.len]; exact hlt), lRefs_at hL, ?_⟩
      have fr0 : Fr H (upd H W.ll (.lst ((lRefs W.Ls).eraseIdx (j - 1)))) [W.ll] := fr_upd (by simp)
      have hW1 := hW.drop (j - 1)
      have hLA1 := hW.letter_keep fr0 (List.mem_of_getElem? hL) hLA
      have st1 : Stp H W _ { W with Ls := W.Ls.eraseIdx (j - 1) } := Stp.air fr0 fun L hL => Or.inl (NN.erase_mem hL)
      generalize upd H W.ll (.lst ((lRefs W.Ls).eraseIdx (j - 1))) = H1 at hW1 hLA1 st1 ⊢
      obtain ⟨dl, obl⟩ := hLA1.ob
      refine ⟨L.a, CL, dl, _, _, rfl, obl, T.clL, T.lRecv, lF_recv _ _ _ _, (by show 1 ≤ sizeLine; decide), fun q hq => ?_⟩
      exact k.new st1 (by rw [lose_yes h1 hl]; exact hW1) hq (by rw [lose_yes h1 hl]; rfl)
theorem scTu : FnScope ["self", "n", "arrived"] ["self", "n"] (defScope sTurns) := ⟨rfl, rfl, rfl, by decide +kernel, rfl, by decide +kernel, by decide +kernel⟩
theorem erase_zero {α : Type} {l : List α} {x : α} {r : List α} (h : l = x :: r) : l.eraseIdx 0 = r := by rw [h]; rfl
theorem ok_turns {f fD : Addr} {fd fdD : FuncData} (F : Fun K "turns" "World.turns" sTurns f fd) (T : Txt K mg CC CL CN CW)
    (GD : FnOk P w K mg base CX0 6 fD fdD ["self", "letter"] (spDeliver CC CL CN CW)) (bD : Binds K fdD ["self", "letter"] []) (mD : Meth K CW "deliver" fD) : FnOk P w K mg base CX0 7 f fd ["self", "n"] (spTurns CC CL CN CW) := by
  refine F.ok scTu (fun vs H Q E h => ?_) (fun cdv A outer s H vs Q E hr h => ?_)
  · obtain ⟨W, s, n, rfl, _⟩ := h
    rfl
  · obtain ⟨W, s, n, rfl, hW, hfair, k⟩ := h
    obtain ⟨dx, ob⟩ := hW.ob
    obtain ⟨t1, hm1⟩ := T.kNS
    obtain ⟨t500, h500⟩ := T.kMT
    refine ⟨_, pss_cons (ps_if (pt_cmpR op_gt (pv 1) (pe_glob (v := .int 500) (by rfl) h500 ⟨_, rfl⟩) (nomark _))
        (pss_one (ps_ret (pe_lst (pa_cons (pe_glob (v := .int (-1)) (by rfl) hm1 ⟨_, rfl⟩) pa_nil)))) pss_nil)
      (pss_cons (ps_set (i := 2) scTu.nd rfl (Or.inl rfl) pe_int)
      (pss_cons (ps_while PassesOwn.never (PW.pt (pw_and (pt_cmpR op_lt (pv 2) (pv 1) (nomark _)) (pw_and1 (pt_cmpR op_gt (pe_callB call_len_seq (by rfl) T.len PySem.boot_len (pa_cons (pe_fld (pv 0) rfl) pa_nil)) pe_int (nomark _)))))
        (pss_cons (ps_expr (pe_meth (pv 0) T.clW mD GD hr bD .nil pass0 (pa_cons (pe_bm PySem.F.plainAttrs_list PySem.F.slot_list_pop PySem.F.type_list_pop mt_popAt (pe_fld (pv 0) rfl) (pa_cons pe_int pa_nil)) pa_nil)))
        (pss_one (ps_set (i := 2) scTu.nd rfl (Or.inl rfl) (pe_op op_add (pv 2) pe_int)))))
      (pss_one (ps_ret (pe_lst (pa_cons (pv 2) pa_nil)))))), ?_⟩
    refine ⟨_, rfl, _, _, rfl, rfl, _, rfl, ?_⟩
    by_cases hb : 500 < n
    · refine iteY (by simp; omega) ?_
      exact ⟨(by show 1 ≤ sizeLine; decide), fun q hq => k.stay hW (by rw [turns_no hb]) hq (by rw [turns_no hb]; rfl)⟩
    refine iteN (by simp; omega) ?_
    obtain ⟨g, kk, L0, I0, hkk, hL0⟩ := hfair
    have hal := I0.alen
    refine ⟨fun m σ H' => ∃ (i : Nat) (W1 : WA) (s1 : Ha08.St) (L : Nat), i ≤ n ∧ m = n - i ∧ σ = [some (.ref W.w), some (.int n), some (.int i)] ∧ Stp H W H' W1 ∧ WorldAt CC CL CN CW H' W1 s1 ∧ NN.Inv g kk L s1 ∧ L + 1000 * s1.air.length ≤ 11000000 ∧
        (Ha08.rounds n s).1 = (Ha08.rounds (n - i) s1).1 ∧ (Ha08.rounds n s).2 = (Ha08.rounds (n - i) s1).2 + i,
      ⟨_, 0, W, s, L0, Nat.zero_le _, rfl, rfl, Stp.refl _ _, hW, I0, by omega, rfl, rfl⟩, ?_⟩
    rintro m σ H' ⟨i, W1, s1, L, hin, rfl, rfl, st1, hW1, I1, hL1, r1, r2⟩
    obtain ⟨dw, obw⟩ := hW1.ob
    have ew : W1.w = W.w := st1.w
    rw [ew] at obw
    refine ⟨_, rfl, _, rfl, _, _, rfl, rfl, _, rfl, ?_⟩
    by_cases hlt : i < n
    · refine iteY (by simp; omega) ?_
      refine ⟨_, rfl, W.w, CW, dw, _, _, rfl, obw, T.clW, T.wLetters, wF_letters _ _, W1.ll, _, rfl, .inl (SqL.of hW1.ll), _, _, rfl, rfl, _, rfl, ?_⟩
      rw [lRefs_len, hW1.ls.len]
      cases ea : s1.air with
      | nil =>
        refine iteN (by simp) ?_
        rw [rounds_nil _ ea] at r1 r2
        refine ⟨_, rfl, (by show 1 ≤ sizeLine; decide), fun q hq => ?_⟩
        exact k.new st1 (by rw [turns_yes hb]; show WorldAt CC CL CN CW H' W1 (Ha08.rounds n s).1; rw [r1]; exact hW1) hq (by rw [turns_yes hb, r2]; simp)
      | cons l r =>
        refine iteY (by simp) ?_
        have hl0 : s1.air[0]? = some l := by rw [ea]; rfl
        obtain ⟨Lt, hLt, hLA⟩ := hW1.ls.got hl0
        have hmem : l ∈ s1.air := by rw [ea]; simp
        have hr0 : r.length + 1 = s1.air.length := by rw [ea]; rfl
        have ft := fit_inv I1 hkk (by omega) hmem
        refine ⟨fun σ' H9 => ∃ (W9 : WA), σ' = [some (.ref W.w), some (.int n), some (.int (i + 1 : Nat))] ∧ Stp H W H9 W9 ∧ WorldAt CC CL CN CW H9 W9 (Ha08.arrives { s1 with air := r } l), ?_, ?_⟩
        · rintro σ' H9 ⟨W9, e9, st9, hW9⟩
          obtain ⟨d, hd⟩ : ∃ d, n - i = d + 1 := ⟨n - i - 1, by omega⟩
          rw [hd, rounds_cons d ea] at r1 r2
          have ed : n - (i + 1) = d := by omega
          refine ⟨n - (i + 1), by omega, i + 1, W9, _, L + 1000, by omega, rfl, e9, st9, hW9, NN.arrives_inv (I1.airs (a := r) (fun x q => by rw [ea]; simp [q]) (by have := I1.alen; omega)) (by omega) ((I1.air l hmem).mono (Nat.le_refl _) rfl fun _ _ => Nat.le_refl _), ?_, by rw [ed]; exact r1, by rw [ed, r2]; simp only []; omega⟩
          show L + 1000 + 1000 * r.length ≤ 11000000
          omega
        · have fr0 : Fr H' (upd H' W1.ll (.lst ((lRefs W1.Ls).eraseIdx 0))) [W1.ll] := fr_upd (by simp)
          have hW2 := hW1.drop 0
          rw [erase_zero ea] at hW2
          have hLA2 := hW1.letter_keep fr0 (List.mem_of_getElem? hLt) hLA
          have st2 : Stp H' W1 _ { W1 with Ls := W1.Ls.eraseIdx 0 } := Stp.air fr0 fun L hL => Or.inl (NN.erase_mem hL)
          refine ⟨_, rfl, W.w, dw, _, rfl, obw, wF_none _ _, _, rfl, W.w, CW, dw, _, _, rfl, obw, T.clW, T.wLetters, wF_letters _ _, .inl ⟨rfl, _, SqL.of hW1.ll⟩, W1.ll, _, _, 0, _, rfl, rfl, hW1.ll, by decide, by decide, seq_ix rfl (by rw [lRefs_len, hW1.ls.len]; omega), lRefs_at hLt, ?_⟩
          refine ⟨{ W1 with Ls := W1.Ls.eraseIdx 0 }, { s1 with air := r }, Lt, l, by rw [← ew]; rfl, hW2, hLA2, (hW1.d4 Lt (List.mem_of_getElem? hLt)).2.2, ⟨ft.t1, ft.t2, ft.ag, ft.me, ft.n1, ft.n2, ft.n3⟩, fun H3 W3 st3 hW3 => ?_⟩
          exact ⟨_, rfl, _, _, rfl, rfl, W3, rfl, (st1.trans st2).trans st3, hW3⟩
    · refine iteN (by simp; omega) ?_
      refine iteF ?_
      have ei : n - i = 0 := by omega
      rw [ei] at r1 r2
      refine ⟨_, rfl, (by show 1 ≤ sizeLine; decide), fun q hq => ?_⟩
      exact k.new st1 (by rw [turns_yes hb]; show WorldAt CC CL CN CW H' W1 (Ha08.rounds n s).1; rw [r1]; exact hW1) hq (by rw [turns_yes hb, r2]; simp [Ha08.rounds])
end
end NH
set_option Elab.async false
set_option linter.all false
set_option maxRecDepth 100000
set_option maxHeartbeats 4000000
namespace NH
open PySem PySem.Spec PyProof.Rows L2
abbrev sLosses : Stmt := inClass (top tN_) 11
abbrev sWho : Stmt := inClass (top tW_) 20
abbrev sNames : Stmt := inClass (top tW_) 21
abbrev sLostW : Stmt := inClass (top tW_) 22
abbrev sClaimsW : Stmt := inClass (top tW_) 23
abbrev sAir : Stmt := inClass (top tW_) 24
/-! ### 23. Questions: who, names, lost, claims, air -/
theorem who_no {s : Ha08.St} {n nm : Nat} (h : Ha08.isNode s n = false ∨ 9 < nm) : Ha08.step s (.who n nm) = (s, [-1]) := congrArg (Prod.mk s) (if_pos h)
theorem who_some {s : Ha08.St} {n nm : Nat} {c : Ha08.Claim} (h : ¬ (Ha08.isNode s n = false ∨ 9 < nm)) (hc : Ha08.holder (Ha08.node s n) nm = some c) : Ha08.step s (.who n nm) = (s, [1, (c.node : Int), (c.proc : Int), (c.count : Int)]) := by
  dsimp only [Ha08.step]
  rw [if_neg h, hc]
  rfl
theorem who_none {s : Ha08.St} {n nm : Nat} (h : ¬ (Ha08.isNode s n = false ∨ 9 < nm)) (hc : Ha08.holder (Ha08.node s n) nm = none) : Ha08.step s (.who n nm) = (s, [0]) := by
  dsimp only [Ha08.step]
  rw [if_neg h, hc]
theorem names_no {s : Ha08.St} {n : Nat} (h : Ha08.isNode s n = false) : Ha08.step s (.names n) = (s, [-1]) := congrArg (Prod.mk s) (if_pos h)
theorem names_yes {s : Ha08.St} {n : Nat} (h : Ha08.isNode s n = true) : Ha08.step s (.names n) = (s, Ha08.ints ((Ha08.nameList (Ha08.node s n)).length :: (Ha08.nameList (Ha08.node s n)).flatMap fun c => [c.name, c.node, c.proc])) := congrArg (Prod.mk s) (if_neg (by rw [h]; simp))
theorem lost_no {s : Ha08.St} {n p : Nat} (h : Ha08.isNode s n = false ∨ p = 0 ∨ 9 < p) : Ha08.step s (.lost n p) = (s, [-1]) := congrArg (Prod.mk s) (if_pos h)
theorem lost_yes {s : Ha08.St} {n p : Nat} (h : ¬ (Ha08.isNode s n = false ∨ p = 0 ∨ 9 < p)) : Ha08.step s (.lost n p) = (s, Ha08.ints ((lossOf (Ha08.node s n).lost p).length :: (lossOf (Ha08.node s n).lost p).flatMap fun x => [x.name, x.count])) := congrArg (Prod.mk s) (if_neg h)
theorem claims_no {s : Ha08.St} {n : Nat} (h : Ha08.isNode s n = false) : Ha08.step s (.claims n) = (s, [-1]) := congrArg (Prod.mk s) (if_pos h)
theorem claims_yes {s : Ha08.St} {n : Nat} (h : Ha08.isNode s n = true) : Ha08.step s (.claims n) = (s, Ha08.ints ((Ha08.node s n).count :: (Ha08.node s n).reach.length :: (Ha08.node s n).reach ++ (Ha08.node s n).claims.length :: (Ha08.node s n).claims.flatMap Ha08.claimTold)) := congrArg (Prod.mk s) (if_neg (by rw [h]; simp))
theorem ints_map (l : List Nat) : (Ha08.ints l).map V.int = natV l := by
  unfold Ha08.ints natV
  rw [List.map_map]
  rfl
theorem natV_app (a b : List Nat) : natV (a ++ b) = natV a ++ natV b := by
  unfold natV
  rw [List.map_append]
theorem natV_len (a : List Nat) : (natV a).length = a.length := by simp [natV]
theorem flat_len {α : Type} (f : α → List Nat) (k : Nat) (h : ∀ a, (f a).length = k) : ∀ l : List α, (l.flatMap f).length = k * l.length
  | [] => rfl
  | a :: l => by
    rw [List.flatMap_cons, List.length_append, h, flat_len f k h l, List.length_cons, Nat.mul_add]
    omega
theorem flat_snoc {α : Type} (f : α → List Nat) {l : List α} {i : Nat} {x : α} (h : l[i]? = some x) : (l.take (i + 1)).flatMap f = (l.take i).flatMap f ++ f x := by
  rw [take_snoc h, List.flatMap_append]
  simp
/-- all that stood stands, where a new thing is written to -/
theorem same_put {H H' : Hp} {t : Addr} {o : HO} (ht : H t = none) (sm : Same H H') : Same H (upd H' t o) := fun b u e => by
  rw [upd_ne (ne_of_none e ht)]
  exact sm b u e
def spWho (CC CL CN CW : Addr) : Sp := fun vs H Q _ => ∃ (W : WA) (s : Ha08.St) (n nm : Nat), vs = [.ref W.w, .int n, .int nm] ∧ WorldAt CC CL CN CW H W s ∧ Fair s ∧ Ret CC CL CN CW H W s (.who n nm) Q
def spNames (CC CL CN CW : Addr) : Sp := fun vs H Q _ => ∃ (W : WA) (s : Ha08.St) (n : Nat), vs = [.ref W.w, .int n] ∧ WorldAt CC CL CN CW H W s ∧ Fair s ∧ Ret CC CL CN CW H W s (.names n) Q
def spLostW (CC CL CN CW : Addr) : Sp := fun vs H Q _ => ∃ (W : WA) (s : Ha08.St) (n p : Nat), vs = [.ref W.w, .int n, .int p] ∧ WorldAt CC CL CN CW H W s ∧ Fair s ∧ (Ha08.step s (.lost n p)).2.length ≤ 10000000 ∧ Ret CC CL CN CW H W s (.lost n p) Q
def spClaimsW (CC CL CN CW : Addr) : Sp := fun vs H Q _ => ∃ (W : WA) (s : Ha08.St) (n : Nat), vs = [.ref W.w, .int n] ∧ WorldAt CC CL CN CW H W s ∧ Fair s ∧ Ret CC CL CN CW H W s (.claims n) Q
def spAir (CC CL CN CW : Addr) : Sp := fun vs H Q _ => ∃ (W : WA) (s : Ha08.St), vs = [.ref W.w] ∧ WorldAt CC CL CN CW H W s ∧ Fair s ∧ Ret CC CL CN CW H W s .air Q
def spLosses (CC CN : Addr) : Sp := fun vs H Q _ => ∃ (N : NA) (n p : Nat) (x : Ha08.Node), vs = [.ref N.a, .int p] ∧ NodeAt CC CN H N n x ∧
  ∀ (q : Addr) (H' : Hp) (ts : List Addr), H q = none → Same H H' → H' q = some (.lst (ts.map V.ref)) → Two (LossAt H') ts (lossOf x.lost p) → Q (.ref q) H'
section
variable {P : Program} {w : World} {K : PySem.W.Frag} {mg : Str → Option Value} {base : Heap} {CC CL CN CW : Addr}
theorem Ret.told {H H' : Hp} {W : WA} {s : Ha08.St} {c : Ha08.Call} {Q : VK} {t : Addr} {l : List Nat} (r : Ret CC CL CN CW H W s c Q) (hw : WorldAt CC CL CN CW H W s) (ht : H t = none) (sm : Same H H') (hl : H' t = some (.lst (natV l))) (e : Ha08.step s c = (s, Ha08.ints l)) : Q (.ref t) H' := by
  refine r t H' W (Stp.same sm) (by rw [e]; exact hw.same sm) (by rw [e, hl]; show _ = some (HO.lst ((Ha08.ints l).map V.int)); rw [ints_map]) (fun q => ?_) (Or.inr ht)
  obtain ⟨o, h⟩ := hw.tracked q
  rw [ht] at h
  cases h
/-! #### who -/
theorem scWo : FnScope ["self", "n", "name", "holder"] ["self", "n", "name"] (defScope sWho) := ⟨rfl, rfl, rfl, by decide +kernel, rfl, by decide +kernel, by decide +kernel⟩
theorem ok_who {f fI fA fH : Addr} {fd fdI fdA fdH : FuncData} (F : Fun K "who" "World.who" sWho f fd) (T : Txt K mg CC CL CN CW)
    (GI : FnOk P w K mg base CX0 1 fI fdI ["self", "n"] (spIsNode CC CL CN CW)) (bI : Binds K fdI ["self", "n"] []) (mI : Meth K CW "is_node" fI)
    (GA : FnOk P w K mg base CX0 1 fA fdA ["self", "n"] (spNodeAt CC CL CN CW)) (bA : Binds K fdA ["self", "n"] []) (mA : Meth K CW "node_at" fA)
    (GH : FnOk P w K mg base CX0 3 fH fdH ["self", "name"] (spHolder CC CN)) (bH : Binds K fdH ["self", "name"] []) (mH : Meth K CN "holder" fH) : FnOk P w K mg base CX0 4 f fd ["self", "n", "name"] (spWho CC CL CN CW) := by
  refine F.ok scWo (fun vs H Q E h => ?_) (fun cdv A outer s H vs Q E hr h => ?_)
  · obtain ⟨W, s, n, nm, rfl, _⟩ := h
    rfl
  · obtain ⟨W, s, n, nm, rfl, hW, hfair, k⟩ := h
    obtain ⟨dx, ob⟩ := hW.ob
    obtain ⟨t9, h9⟩ := T.kLN
    obtain ⟨t1, hm1⟩ := T.kNS
    have hr1 : Room 1 _ := hr.mono (by decide)
    refine ⟨_, pss_cons (ps_if (PW.pt (pw_or (pt_not (pt_val (pe_meth (pv 0) T.clW mI GI hr1 bI .nil pass0 (pa_cons (pv 1) pa_nil)))) (pw_or1 (pt_cmpR op_gt (pv 2) (pe_glob (v := .int 9) (by rfl) h9 ⟨_, rfl⟩) (nomark _)))))
        (pss_one (ps_ret (pe_lst (pa_cons (pe_glob (v := .int (-1)) (by rfl) hm1 ⟨_, rfl⟩) pa_nil)))) pss_nil)
      (pss_cons (ps_set (i := 3) scWo.nd rfl (Or.inl rfl) (pe_meth (pe_meth (pv 0) T.clW mA GA hr1 bA .nil pass0 (pa_cons (pv 1) pa_nil)) T.clN mH GH hr bH .nil pass0 (pa_cons (pv 2) pa_nil)))
      (pss_cons (ps_if (pt_cmpR op_isN (pv 3) pe_non (nomark _)) (pss_one (ps_ret (pe_lst (pa_cons pe_int pa_nil)))) pss_nil)
      (pss_one (ps_ret (pe_lst (pa_cons pe_int (pa_cons (pe_fld (pv 3) rfl) (pa_cons (pe_fld (pv 3) rfl) (pa_cons (pe_fld (pv 3) rfl) pa_nil))))))))), ?_⟩
    have no : (Ha08.isNode s n = false ∨ 9 < nm) → ∀ q, H q = none → Q (.ref q) (upd H q (.lst [.int (-1)])) := fun hn q hq => k.stay hW (by rw [who_no hn]) hq (by rw [who_no hn]; rfl)
    refine ⟨_, rfl, W.w, dx, _, rfl, ob, wF_none _ _, _, rfl, W, s, n, rfl, hW, _, rfl, ?_⟩
    cases e : Ha08.isNode s n with
    | false =>
      refine iteT ?_
      refine iteT ?_
      exact ⟨(by show 1 ≤ sizeLine; decide), fun q hq => no (Or.inl e) q hq⟩
    | true =>
      refine iteF ?_
      obtain ⟨h1, h2⟩ := NN.isNode_iff.mp e
      refine ⟨_, rfl, _, _, rfl, rfl, _, rfl, ?_⟩
      by_cases hnm : 9 < nm
      · refine iteY (by simp; omega) ?_
        exact ⟨(by show 1 ≤ sizeLine; decide), fun q hq => no (Or.inr hnm) q hq⟩
      refine iteN (by simp; omega) ?_
      have hg : ¬ (Ha08.isNode s n = false ∨ 9 < nm) := by rw [e]; simp; omega
      obtain ⟨N, hN, hNm, hNA⟩ := hW.at_ h1 h2
      obtain ⟨dn, obn⟩ := hNA.ob
      refine ⟨_, rfl, W.w, dx, _, rfl, ob, wF_none _ _, _, rfl, W, s, n, N, rfl, hW, h1, hN, N.a, dn, _, rfl, obn, nF_none _ _ _ _ _, _, rfl, N, n, nm, _, rfl, hNA, fun ca c hc hca => ?_, fun hc => ?_⟩
      · obtain ⟨dc, hcd⟩ := hca
        refine ⟨_, rfl, rfl, _, rfl, ?_⟩
        refine iteN (by simp) ?_
        refine ⟨_, rfl, ca, CC, dc, _, _, rfl, hcd, T.clC, T.cNode, cF_node c, _, rfl, ca, CC, dc, _, _, rfl, hcd, T.clC, T.cProc, cF_proc c, _, rfl, ca, CC, dc, _, _, rfl, hcd, T.clC, T.cCount, cF_count c, (by show 4 ≤ sizeLine; decide), fun q hq => ?_⟩
        exact k.stay hW (by rw [who_some hg hc]) hq (by rw [who_some hg hc]; rfl)
      · refine ⟨_, rfl, rfl, _, rfl, ?_⟩
        refine iteY (by simp) ?_
        exact ⟨(by show 1 ≤ sizeLine; decide), fun q hq => k.stay hW (by rw [who_none hg hc]) hq (by rw [who_none hg hc]; rfl)⟩
/-! #### air -/
theorem scAi : FnScope ["self", "told", "letter"] ["self"] (defScope sAir) := ⟨rfl, rfl, rfl, by decide +kernel, rfl, by decide +kernel, by decide +kernel⟩
def airTold (l : Ha08.Letter) : List Nat := [l.from_, l.to_, l.count, l.claims.length]
theorem air_yes {s : Ha08.St} : Ha08.step s .air = (s, Ha08.ints (s.air.length :: s.air.flatMap airTold)) := rfl
theorem ok_air {f : Addr} {fd : FuncData} (F : Fun K "air" "World.air" sAir f fd) (T : Txt K mg CC CL CN CW) : FnOk P w K mg base CX0 1 f fd ["self"] (spAir CC CL CN CW) := by
  refine F.ok scAi (fun vs H Q E h => ?_) (fun cdv A outer s H vs Q E hr h => ?_)
  · obtain ⟨W, s, rfl, _⟩ := h
    rfl
  · obtain ⟨W, s, rfl, hW, hfair, k⟩ := h
    obtain ⟨dx, ob⟩ := hW.ob
    have hair := hfair.air
    refine ⟨_, pss_cons (ps_set (i := 1) scAi.nd rfl (Or.inl rfl) (pe_lst (pa_cons (pe_callB call_len_seq (by rfl) T.len PySem.boot_len (pa_cons (pe_fld (pv 0) rfl) pa_nil)) pa_nil)))
      (pss_cons (ps_for PassesOwn.never rfl (pi_list (pe_fld (pv 0) rfl)) (pg_name (i := 2) scAi.nd rfl (Or.inl rfl))
        (pss_one (ps_expr (pe_bm PySem.F.plainAttrs_list PySem.F.slot_list_extend PySem.F.type_list_extend mt_extend (pv 1) (pa_cons (pe_lst (pa_cons (pe_fld (pv 2) rfl) (pa_cons (pe_fld (pv 2) rfl) (pa_cons (pe_fld (pv 2) rfl) (pa_cons (pe_callB call_len_seq (by rfl) T.len PySem.boot_len (pa_cons (pe_fld (pv 2) rfl) pa_nil)) pa_nil))))) pa_nil)))))
      (pss_one (ps_ret (pv 1)))), ?_⟩
    refine ⟨_, rfl, W.w, CW, dx, _, _, rfl, ob, T.clW, T.wLetters, wF_letters _ _, W.ll, _, rfl, .inl (SqL.of hW.ll), (by show 1 ≤ sizeLine; decide), fun t ht => ?_⟩
    rw [lRefs_len, hW.ls.len]
    have s0 : Same H (upd H t (.lst [V.int (s.air.length : Int)])) := same_new ht
    refine ⟨_, rfl, W.w, CW, dx, _, _, rfl, s0 _ _ ob, T.clW, T.wLetters, wF_letters _ _, W.ll, rfl, ⟨_, SqL.of (s0 _ _ hW.ll)⟩, for_list (K := K) (a := W.ll) (xs := lRefs W.Ls)
      (fun i σ H' => ∃ v : Option V, σ = [some (.ref W.w), some (.ref t), v] ∧ Same H H' ∧ H' t = some (.lst (natV (s.air.length :: (s.air.take i).flatMap airTold))))
      ⟨none, rfl, s0, upd_same⟩ (fun i σ H' _ ⟨_, _, e, _⟩ => SqL.of (e _ _ hW.ll)) ?_ ?_⟩
    · rintro i y σ H' hi ⟨v, rfl, sm, htl⟩
      obtain ⟨la, hla, rfl⟩ := ref_at hi
      rw [List.getElem?_map] at hla
      obtain ⟨L, hL, rfl⟩ : ∃ L, W.Ls[i]? = some L ∧ L.a = la := by
        cases e : W.Ls[i]? with
        | none => rw [e] at hla; cases hla
        | some L => rw [e] at hla; exact ⟨L, rfl, Option.some.inj hla⟩
      obtain ⟨l, hl, hLA⟩ := hW.ls.get hL
      obtain ⟨dl, obl⟩ := hLA.ob
      obtain ⟨as, hks, kt⟩ := hLA.ks
      have hil := (List.getElem?_eq_some_iff.mp hl).1
      have obl' := sm _ _ obl
      refine ⟨_, rfl, .inl ⟨rfl, _, SqL.of htl⟩, ?_⟩
      refine ⟨_, rfl, L.a, CL, dl, _, _, rfl, obl', T.clL, T.lSend, lF_send _ _ _ _, _, rfl, L.a, CL, dl, _, _, rfl, obl', T.clL, T.lRecv, lF_recv _ _ _ _, _, rfl, L.a, CL, dl, _, _, rfl, obl', T.clL, T.lCount, lF_count _ _ _ _, _, rfl, L.a, CL, dl, _, _, rfl, obl', T.clL, T.lKnown, lF_known _ _ _ _, L.kl, _, rfl, .inl (SqL.of (sm _ _ hks)), (by show 4 ≤ sizeLine; decide), fun q hq => ?_⟩
      rw [List.length_map, kt.len]
      have hqt : t ≠ q := ne_of_none htl hq
      refine ⟨t, q, _, _, rfl, rfl, (by rw [upd_ne hqt]; exact htl), upd_same, ?_, ?_⟩
      · rw [natV_len, List.length_cons, flat_len airTold 4 (fun _ => rfl), List.length_take]
        have hz : (10000 : Nat) ≤ sizeLine := by decide
        show 4 * min i s.air.length + 1 + 4 ≤ sizeLine
        omega
      · refine ⟨some (.ref L.a), rfl, same_put ht (sm.trans (same_new hq)), ?_⟩
        rw [upd_same, flat_snoc airTold hl, ← List.cons_append, natV_app]
        rfl
    · rintro σ H' ⟨v, rfl, sm, htl⟩
      rw [lRefs_len, hW.ls.len, List.take_length] at htl
      exact ⟨_, rfl, k.told hW ht sm htl air_yes⟩
/-! #### claims -/
theorem scCs : FnScope ["self", "n", "node", "told", "claim"] ["self", "n"] (defScope sClaimsW) := ⟨rfl, rfl, rfl, by decide +kernel, rfl, by decide +kernel, by decide +kernel⟩
theorem ok_claims {f fI fA : Addr} {fd fdI fdA : FuncData} (F : Fun K "claims" "World.claims" sClaimsW f fd) (T : Txt K mg CC CL CN CW)
    (GI : FnOk P w K mg base CX0 1 fI fdI ["self", "n"] (spIsNode CC CL CN CW)) (bI : Binds K fdI ["self", "n"] []) (mI : Meth K CW "is_node" fI)
    (GA : FnOk P w K mg base CX0 1 fA fdA ["self", "n"] (spNodeAt CC CL CN CW)) (bA : Binds K fdA ["self", "n"] []) (mA : Meth K CW "node_at" fA) : FnOk P w K mg base CX0 2 f fd ["self", "n"] (spClaimsW CC CL CN CW) := by
  refine F.ok scCs (fun vs H Q E h => ?_) (fun cdv A outer s H vs Q E hr h => ?_)
  · obtain ⟨W, s, n, rfl, _⟩ := h
    rfl
  · obtain ⟨W, s, n, rfl, hW, hfair, k⟩ := h
    obtain ⟨dx, ob⟩ := hW.ob
    obtain ⟨t1, hm1⟩ := T.kNS
    refine ⟨_, pss_cons (ps_if (pt_not (pt_val (pe_meth (pv 0) T.clW mI GI hr bI .nil pass0 (pa_cons (pv 1) pa_nil))))
        (pss_one (ps_ret (pe_lst (pa_cons (pe_glob (v := .int (-1)) (by rfl) hm1 ⟨_, rfl⟩) pa_nil)))) pss_nil)
      (pss_cons (ps_set (i := 2) scCs.nd rfl (Or.inl rfl) (pe_meth (pv 0) T.clW mA GA hr bA .nil pass0 (pa_cons (pv 1) pa_nil)))
      (pss_cons (ps_set (i := 3) scCs.nd rfl (Or.inl rfl) (pe_op op_cat (pe_op op_cat (pe_lst (pa_cons (pe_fld (pv 2) rfl) (pa_cons (pe_callB call_len_seq (by rfl) T.len PySem.boot_len (pa_cons (pe_fld (pv 2) rfl) pa_nil)) pa_nil))) (pe_fld (pv 2) rfl)) (pe_lst (pa_cons (pe_callB call_len_seq (by rfl) T.len PySem.boot_len (pa_cons (pe_fld (pv 2) rfl) pa_nil)) pa_nil))))
      (pss_cons (ps_for PassesOwn.never rfl (pi_list (pe_fld (pv 2) rfl)) (pg_name (i := 4) scCs.nd rfl (Or.inl rfl))
        (pss_one (ps_expr (pe_bm PySem.F.plainAttrs_list PySem.F.slot_list_extend PySem.F.type_list_extend mt_extend (pv 3) (pa_cons (pe_lst (pa_cons (pe_fld (pv 4) rfl) (pa_cons (pe_fld (pv 4) rfl) (pa_cons (pe_fld (pv 4) rfl) (pa_cons (pe_fld (pv 4) rfl) (pa_cons (pe_ifExp (pt_val (pe_fld (pv 4) rfl)) pe_int pe_int) pa_nil)))))) pa_nil)))))
      (pss_one (ps_ret (pv 3)))))), ?_⟩
    refine ⟨_, rfl, W.w, dx, _, rfl, ob, wF_none _ _, _, rfl, W, s, n, rfl, hW, _, rfl, ?_⟩
    cases e : Ha08.isNode s n with
    | false =>
      refine iteT ?_
      exact ⟨(by show 1 ≤ sizeLine; decide), fun q hq => k.stay hW (by rw [claims_no e]) hq (by rw [claims_no e]; rfl)⟩
    | true =>
      refine iteF ?_
      obtain ⟨h1, h2⟩ := NN.isNode_iff.mp e
      obtain ⟨N, hN, hNm, hNA⟩ := hW.at_ h1 h2
      obtain ⟨g, hkn, hlen, hlost, hself, hnd, hrl, _⟩ := hfair.few h1 h2
      have hey := claims_yes e
      generalize Ha08.node s n = x at hNA hlen hrl hey
      obtain ⟨dn, obn⟩ := hNA.ob
      obtain ⟨as, hk, kt⟩ := hNA.ks
      have hz : (10000 : Nat) ≤ sizeLine := by decide
      refine ⟨_, rfl, W.w, dx, _, rfl, ob, wF_none _ _, _, rfl, W, s, n, N, rfl, hW, h1, hN, ?_⟩
      refine ⟨_, rfl, N.a, CN, dn, _, _, rfl, obn, T.clN, T.nCount, nF_count _ _ _ _ _, _, rfl, N.a, CN, dn, _, _, rfl, obn, T.clN, T.nReached, nF_reached _ _ _ _ _, N.rl, _, rfl, .inl (SqL.of hNA.rs), (by show 2 ≤ sizeLine; decide), fun p1 hp1 => ?_⟩
      rw [natV_len]
      have s1 : Same H (upd H p1 (.lst [V.int (x.count : Int), V.int (x.reach.length : Int)])) := same_new hp1
      refine ⟨_, rfl, N.a, CN, dn, _, _, rfl, s1 _ _ obn, T.clN, T.nReached, nF_reached _ _ _ _ _, p1, N.rl, _, _, rfl, rfl, upd_same, s1 _ _ hNA.rs, ?_, fun p2 hp2 => ?_⟩
      · rw [natV_len]
        show 2 + x.reach.length ≤ sizeLine
        omega
      have s2 := s1.trans (same_new (o := .lst ([V.int (x.count : Int), V.int (x.reach.length : Int)] ++ natV x.reach)) hp2)
      have e2 : upd (upd H p1 (.lst [V.int (x.count : Int), V.int (x.reach.length : Int)])) p2 (.lst ([V.int (x.count : Int), V.int (x.reach.length : Int)] ++ natV x.reach)) p2 = some (.lst (natV (x.count :: x.reach.length :: x.reach))) := upd_same
      generalize upd (upd H p1 (.lst [V.int (x.count : Int), V.int (x.reach.length : Int)])) p2 (.lst ([V.int (x.count : Int), V.int (x.reach.length : Int)] ++ natV x.reach)) = H2 at s2 e2 ⊢
      refine ⟨_, rfl, N.a, CN, dn, _, _, rfl, s2 _ _ obn, T.clN, T.nKnown, nF_known _ _ _ _ _, N.kl, _, rfl, .inl (SqL.of (s2 _ _ hk)), (by show 1 ≤ sizeLine; decide), fun p3 hp3 => ?_⟩
      rw [List.length_map, kt.len]
      have s3 : Same H2 (upd H2 p3 (.lst [V.int (x.claims.length : Int)])) := same_new hp3
      refine ⟨p2, p3, _, _, rfl, rfl, s3 _ _ e2, upd_same, ?_, fun t ht => ?_⟩
      · rw [natV_len]
        show x.reach.length + 1 + 1 + 1 ≤ sizeLine
        omega
      have e4 : natV (x.count :: x.reach.length :: x.reach) ++ [V.int (x.claims.length : Int)] = natV (x.count :: x.reach.length :: x.reach ++ [x.claims.length]) := by
        rw [natV_app]
        rfl
      rw [e4]
      have s4 := (s2.trans s3).trans (same_new (o := .lst (natV (x.count :: x.reach.length :: x.reach ++ [x.claims.length]))) ht)
      have htH : H t = none := (s2.trans s3).free ht
      have et : upd (upd H2 p3 (.lst [V.int (x.claims.length : Int)])) t (.lst (natV (x.count :: x.reach.length :: x.reach ++ [x.claims.length]))) t = some (.lst (natV (x.count :: x.reach.length :: x.reach ++ [x.claims.length]))) := upd_same
      generalize upd (upd H2 p3 (.lst [V.int (x.claims.length : Int)])) t (.lst (natV (x.count :: x.reach.length :: x.reach ++ [x.claims.length]))) = H4 at s4 et ⊢
      refine ⟨_, rfl, N.a, CN, dn, _, _, rfl, s4 _ _ obn, T.clN, T.nKnown, nF_known _ _ _ _ _, N.kl, rfl, ⟨_, SqL.of (s4 _ _ hk)⟩, for_list (K := K) (a := N.kl) (xs := as.map V.ref)
        (fun i σ H' => ∃ v : Option V, σ = [some (.ref W.w), some (.int n), some (.ref N.a), some (.ref t), v] ∧ Same H H' ∧ H' t = some (.lst (natV (x.count :: x.reach.length :: x.reach ++ [x.claims.length] ++ (x.claims.take i).flatMap Ha08.claimTold))))
        ⟨none, rfl, s4, by simpa using et⟩ (fun i σ H' _ ⟨_, _, e, _⟩ => SqL.of (e _ _ hk)) ?_ ?_⟩
      · rintro i y σ H' hi ⟨v, rfl, sm, htl⟩
        obtain ⟨ca, hca, rfl⟩ := ref_at hi
        obtain ⟨c, hc, dc, hcd⟩ := kt.get hca
        have hil := (List.getElem?_eq_some_iff.mp hc).1
        have hcd' := sm _ _ hcd
        have fin : ∀ q, H' q = none → ∃ v : Option V, [some (V.ref W.w), some (V.int n), some (V.ref N.a), some (V.ref t), some (V.ref ca)] = [some (.ref W.w), some (.int n), some (.ref N.a), some (.ref t), v] ∧ Same H (upd (upd H' q (.lst (natV (Ha08.claimTold c)))) t (.lst (natV (x.count :: x.reach.length :: x.reach ++ [x.claims.length] ++ (x.claims.take i).flatMap Ha08.claimTold) ++ natV (Ha08.claimTold c)))) ∧
            upd (upd H' q (.lst (natV (Ha08.claimTold c)))) t (.lst (natV (x.count :: x.reach.length :: x.reach ++ [x.claims.length] ++ (x.claims.take i).flatMap Ha08.claimTold) ++ natV (Ha08.claimTold c))) t = some (.lst (natV (x.count :: x.reach.length :: x.reach ++ [x.claims.length] ++ (x.claims.take (i + 1)).flatMap Ha08.claimTold))) := fun q hq => by
          refine ⟨some (.ref ca), rfl, same_put htH (sm.trans (same_new hq)), ?_⟩
          rw [upd_same, flat_snoc Ha08.claimTold hc, ← natV_app]
          simp
        have hsz : (natV (x.count :: x.reach.length :: x.reach ++ [x.claims.length] ++ (x.claims.take i).flatMap Ha08.claimTold)).length + 5 ≤ sizeLine := by
          rw [natV_len, List.length_append, flat_len Ha08.claimTold 5 (fun _ => rfl), List.length_take]
          simp
          omega
        have hh : ∀ q, H' q = none → ∀ o : HO, upd H' q o t = some (.lst (natV (x.count :: x.reach.length :: x.reach ++ [x.claims.length] ++ (x.claims.take i).flatMap Ha08.claimTold))) := fun q hq o => by
          rw [upd_ne (ne_of_none htl hq)]
          exact htl
        refine ⟨_, rfl, .inl ⟨rfl, _, SqL.of htl⟩, ?_⟩
        refine ⟨_, rfl, ca, CC, dc, _, _, rfl, hcd', T.clC, T.cName, cF_name c, _, rfl, ca, CC, dc, _, _, rfl, hcd', T.clC, T.cCount, cF_count c, _, rfl, ca, CC, dc, _, _, rfl, hcd', T.clC, T.cNode, cF_node c, _, rfl, ca, CC, dc, _, _, rfl, hcd', T.clC, T.cProc, cF_proc c, _, rfl, ca, CC, dc, _, _, rfl, hcd', T.clC, T.cGone, cF_gone c, _, rfl, ?_⟩
        cases eg : c.gone with
        | true =>
          refine iteT ⟨(by show 5 ≤ sizeLine; decide), fun q hq => ⟨t, q, _, _, rfl, rfl, hh q hq _, upd_same, hsz, ?_⟩⟩
          have := fin q hq
          have ec : Ha08.claimTold c = [c.name, c.count, c.node, c.proc, 1] := by unfold Ha08.claimTold; rw [eg]; rfl
          rw [ec] at this
          exact this
        | false =>
          refine iteF ⟨(by show 5 ≤ sizeLine; decide), fun q hq => ⟨t, q, _, _, rfl, rfl, hh q hq _, upd_same, hsz, ?_⟩⟩
          have := fin q hq
          have ec : Ha08.claimTold c = [c.name, c.count, c.node, c.proc, 0] := by unfold Ha08.claimTold; rw [eg]; rfl
          rw [ec] at this
          exact this
      · rintro σ H' ⟨v, rfl, sm, htl⟩
        rw [List.length_map, kt.len, List.take_length] at htl
        refine ⟨_, rfl, k.told hW htH sm htl ?_⟩
        rw [hey]
        simp
end
end NH
set_option Elab.async false
set_option linter.all false
set_option maxRecDepth 100000
set_option maxHeartbeats 4000000
namespace NH
open PySem PySem.Spec PyProof.Rows L2
/-! ### 24. lost, names -/
section
variable {P : Program} {w : World} {K : PySem.W.Frag} {mg : Str → Option Value} {base : Heap} {CC CL CN CW : Addr}
theorem scLf : FnScope ["self", "process"] ["self", "process"] (defScope sLosses) := ⟨rfl, rfl, rfl, by decide +kernel, rfl, by decide +kernel, by decide +kernel⟩
theorem ok_losses {f : Addr} {fd : FuncData} (F : Fun K "losses_of" "Node.losses_of" sLosses f fd) (T : Txt K mg CC CL CN CW) : FnOk P w K mg base CX0 1 f fd ["self", "process"] (spLosses CC CN) := by
  refine F.ok scLf (fun vs H Q E h => ?_) (fun cdv A outer s H vs Q E hr h => ?_)
  · obtain ⟨N, n, p, x, rfl, _⟩ := h
    rfl
  · obtain ⟨N, n, p, x, rfl, hN, k⟩ := h
    obtain ⟨dx, ob⟩ := hN.ob
    refine ⟨_, pss_one (ps_ret (pe_callTy call_list_of (by rfl) T.list (by decide +kernel) (pa_cons (pe_dget2 (hu_of hr) (pe_fld (pv 0) rfl) (pv 1) (pe_lst pa_nil) ⟨rfl, rfl, rfl, rfl⟩) pa_nil))), ?_⟩
    have hds : H N.ld = some (.dK (lossK N.es)) := hN.ds
    refine ⟨_, rfl, N.a, CN, dx, _, _, rfl, ob, T.clN, T.nLosses, nF_losses _ _ _ _ _, N.ld, rfl, Or.inl ⟨_, Or.inl hds⟩, _, rfl, Nat.zero_le _, fun e he => ?_⟩
    have s1 : Same H (upd H e (.lst [])) := same_new he
    refine ⟨valV (lossK N.es) (Sum.inl (p : Int)), DGet.k (k := Sum.inl (p : Int)) (s1 _ _ hds), ?_⟩
    cases hv : valV (lossK N.es) (Sum.inl (p : Int)) with
    | some v =>
      obtain ⟨l, rfl, hle⟩ := val_some hv
      obtain ⟨ts, hlt, htt⟩ := hN.ls p l hle
      refine ⟨l, _, rfl, .inl (SqL.of (s1 _ _ hlt)), fun q hq => ?_⟩
      have s2 := s1.trans (same_new (o := .lst (ts.map V.ref)) hq)
      exact k q _ ts (s1.free hq) s2 upd_same (htt.imp fun a b r => s2 _ _ r)
    | none =>
      refine ⟨e, [], rfl, .inl (SqL.of upd_same), fun q hq => ?_⟩
      refine k q _ [] (s1.free hq) (s1.trans (same_new hq)) upd_same ?_
      rw [hN.no p (val_none hv)]
      exact .nil
def lossTold (x : Ha08.Lost) : List Nat := [x.name, x.count]
theorem scLw : FnScope ["self", "n", "p", "losses", "told", "loss"] ["self", "n", "p"] (defScope sLostW) := ⟨rfl, rfl, rfl, by decide +kernel, rfl, by decide +kernel, by decide +kernel⟩
theorem ok_lostW {f fP fA fL : Addr} {fd fdP fdA fdL : FuncData} (F : Fun K "lost" "World.lost" sLostW f fd) (T : Txt K mg CC CL CN CW)
    (GP : FnOk P w K mg base CX0 2 fP fdP ["self", "n", "p"] (spIsProc CC CL CN CW)) (bP : Binds K fdP ["self", "n", "p"] []) (mP : Meth K CW "is_process" fP)
    (GA : FnOk P w K mg base CX0 1 fA fdA ["self", "n"] (spNodeAt CC CL CN CW)) (bA : Binds K fdA ["self", "n"] []) (mA : Meth K CW "node_at" fA)
    (GL : FnOk P w K mg base CX0 1 fL fdL ["self", "process"] (spLosses CC CN)) (bL : Binds K fdL ["self", "process"] []) (mL : Meth K CN "losses_of" fL) : FnOk P w K mg base CX0 3 f fd ["self", "n", "p"] (spLostW CC CL CN CW) := by
  refine F.ok scLw (fun vs H Q E h => ?_) (fun cdv A outer s H vs Q E hr h => ?_)
  · obtain ⟨W, s, n, p, rfl, _⟩ := h
    rfl
  · obtain ⟨W, s, n, p, rfl, hW, hfair, hshort, k⟩ := h
    obtain ⟨dx, ob⟩ := hW.ob
    obtain ⟨t1, hm1⟩ := T.kNS
    have hr1 : Room 1 _ := hr.mono (by decide)
    refine ⟨_, pss_cons (ps_if (pt_not (pt_val (pe_meth (pv 0) T.clW mP GP hr bP .nil pass0 (pa_cons (pv 1) (pa_cons (pv 2) pa_nil)))))
        (pss_one (ps_ret (pe_lst (pa_cons (pe_glob (v := .int (-1)) (by rfl) hm1 ⟨_, rfl⟩) pa_nil)))) pss_nil)
      (pss_cons (ps_set (i := 3) scLw.nd rfl (Or.inl rfl) (pe_meth (pe_meth (pv 0) T.clW mA GA hr1 bA .nil pass0 (pa_cons (pv 1) pa_nil)) T.clN mL GL hr1 bL .nil pass0 (pa_cons (pv 2) pa_nil)))
      (pss_cons (ps_set (i := 4) scLw.nd rfl (Or.inl rfl) (pe_lst (pa_cons (pe_callB call_len_seq (by rfl) T.len PySem.boot_len (pa_cons (pv 3) pa_nil)) pa_nil)))
      (pss_cons (ps_for PassesOwn.never rfl (pi_list (pv 3)) (pg_name (i := 5) scLw.nd rfl (Or.inl rfl))
        (pss_one (ps_expr (pe_bm PySem.F.plainAttrs_list PySem.F.slot_list_extend PySem.F.type_list_extend mt_extend (pv 4) (pa_cons (pe_lst (pa_cons (pe_ix ix_tup (pv 5) pe_int (fun _ _ => rfl)) (pa_cons (pe_ix ix_tup (pv 5) pe_int (fun _ _ => rfl)) pa_nil))) pa_nil)))))
      (pss_one (ps_ret (pv 4)))))), ?_⟩
    refine ⟨_, rfl, W.w, dx, _, rfl, ob, wF_none _ _, _, rfl, _, rfl, W, s, n, p, rfl, hW, _, rfl, ?_⟩
    cases e : (Ha08.isNode s n && (decide (1 ≤ p) && decide (p ≤ 9))) with
    | false =>
      refine iteT ?_
      exact ⟨(by show 1 ≤ sizeLine; decide), fun q hq => k.stay hW (by rw [lost_no (proc_false e)]) hq (by rw [lost_no (proc_false e)]; rfl)⟩
    | true =>
      refine iteF ?_
      obtain ⟨hin, ⟨h1, h2⟩, h3, h4⟩ := proc_true e
      have hey := lost_yes (not_bad2 hin h3 h4)
      obtain ⟨N, hN, hNm, hNA⟩ := hW.at_ h1 h2
      obtain ⟨dn, obn⟩ := hNA.ob
      have hz : (10000000 : Nat) < sizeLine := by decide
      refine ⟨_, rfl, W.w, dx, _, rfl, ob, wF_none _ _, _, rfl, W, s, n, N, rfl, hW, h1, hN, N.a, dn, _, rfl, obn, nF_none _ _ _ _ _, _, rfl, N, n, p, _, rfl, hNA, fun lo H1 ts hlo s1 hll htt => ?_⟩
      generalize lossOf (Ha08.node s n).lost p = ls at hey htt
      have hlen : 2 * ls.length + 1 ≤ 10000000 := by
        rw [hey] at hshort
        have e9 : (Ha08.ints (ls.length :: ls.flatMap fun x => [x.name, x.count])).length = 2 * ls.length + 1 := by
          unfold Ha08.ints
          rw [List.length_map, List.length_cons, flat_len _ 2 (fun _ => rfl)]
        have h9 : (Ha08.ints (ls.length :: ls.flatMap fun x => [x.name, x.count])).length ≤ 10000000 := hshort
        omega
      refine ⟨_, rfl, lo, _, rfl, .inl (SqL.of hll), (by show 1 ≤ sizeLine; decide), fun t ht => ?_⟩
      rw [List.length_map, htt.len]
      have s2 : Same H1 (upd H1 t (.lst [V.int (ls.length : Int)])) := same_new ht
      have htH : H t = none := s1.free ht
      have et : upd H1 t (.lst [V.int (ls.length : Int)]) t = some (.lst (natV [ls.length])) := upd_same
      refine ⟨_, rfl, lo, rfl, ⟨_, SqL.of (s2 _ _ hll)⟩, for_list (K := K) (a := lo) (xs := ts.map V.ref)
        (fun i σ H' => ∃ v : Option V, σ = [some (.ref W.w), some (.int n), some (.int p), some (.ref lo), some (.ref t), v] ∧ Same H1 H' ∧ H' t = some (.lst (natV (ls.length :: (ls.take i).flatMap lossTold))))
        ⟨none, rfl, s2, et⟩ (fun i σ H' _ ⟨_, _, e, _⟩ => SqL.of (e _ _ hll)) ?_ ?_⟩
      · rintro i y σ H' hi ⟨v, rfl, sm, htl⟩
        obtain ⟨ca, hca, rfl⟩ := ref_at hi
        obtain ⟨c, hc, hcd⟩ := htt.get hca
        have hil := (List.getElem?_eq_some_iff.mp hc).1
        have hcd' : H' ca = some (.tup [.int c.name, .int c.count]) := sm _ _ hcd
        refine ⟨_, rfl, .inl ⟨rfl, _, SqL.of htl⟩, ?_⟩
        refine ⟨_, rfl, ca, _, _, _, rfl, rfl, SqT.of hcd', at_of (j := 0) rfl rfl, _, rfl, ca, _, _, _, rfl, rfl, SqT.of hcd', at_of (j := 1) rfl rfl, (by show 2 ≤ sizeLine; decide), fun q hq => ?_⟩
        have hqt : t ≠ q := ne_of_none htl hq
        refine ⟨t, q, _, _, rfl, rfl, (by rw [upd_ne hqt]; exact htl), upd_same, ?_, ?_⟩
        · rw [natV_len, List.length_cons, flat_len lossTold 2 (fun _ => rfl), List.length_take]
          show 2 * min i ls.length + 1 + 2 ≤ sizeLine
          omega
        · refine ⟨some (.ref ca), rfl, same_put ht (sm.trans (same_new hq)), ?_⟩
          rw [upd_same, flat_snoc lossTold hc, ← List.cons_append, natV_app]
          rfl
      · rintro σ H' ⟨v, rfl, sm, htl⟩
        rw [List.length_map, htt.len, List.take_length] at htl
        exact ⟨_, rfl, k.told hW htH (s1.trans sm) htl hey⟩
/-! #### names -/
/-- what holder answers -/
def HoldV (CC : Addr) (H : Hp) (v : V) (o : Option Ha08.Claim) : Prop := match o with
  | none => v = .non
  | some c => ∃ a, v = .ref a ∧ ClaimAt CC H a c
theorem range_snoc {α : Type} (f : Nat → α) (i : Nat) : (List.range (i + 1)).map f = (List.range i).map f ++ [f i] := by
  rw [List.range_succ, List.map_append]
  rfl
def holds (x : Ha08.Node) (i : Nat) : List (Option Ha08.Claim) := (List.range i).map (Ha08.holder x)
def kept (l : List (Option Ha08.Claim)) : List Ha08.Claim := l.flatMap Option.toList
theorem kept_all (x : Ha08.Node) : kept (holds x 10) = Ha08.nameList x := by
  unfold kept holds Ha08.nameList
  rw [List.flatMap_map]
theorem kept_snoc {l : List (Option Ha08.Claim)} {i : Nat} {o : Option Ha08.Claim} (h : l[i]? = some o) : kept (l.take (i + 1)) = kept (l.take i) ++ o.toList := by
  unfold kept
  rw [take_snoc h, List.flatMap_append]
  simp
theorem kept_len : ∀ (l : List (Option Ha08.Claim)), (kept l).length ≤ l.length
  | [] => Nat.le_refl _
  | o :: l => by
    have := kept_len l
    unfold kept at this ⊢
    rw [List.flatMap_cons, List.length_append, List.length_cons]
    have h1 : o.toList.length ≤ 1 := by cases o <;> simp
    omega
theorem holds_len (x : Ha08.Node) (i : Nat) : (holds x i).length = i := by simp [holds]
def nameTold (c : Ha08.Claim) : List Nat := [c.name, c.node, c.proc]
theorem scNm : FnScope ["self", "n", "node", "found", "held", "told", "holder", "name"] ["self", "n"] (defScope sNames) := ⟨rfl, rfl, rfl, by decide +kernel, rfl, by decide +kernel, by decide +kernel⟩
theorem ok_names {f fI fA fH : Addr} {fd fdI fdA fdH : FuncData} (F : Fun K "names" "World.names" sNames f fd) (T : Txt K mg CC CL CN CW)
    (GI : FnOk P w K mg base CX0 1 fI fdI ["self", "n"] (spIsNode CC CL CN CW)) (bI : Binds K fdI ["self", "n"] []) (mI : Meth K CW "is_node" fI)
    (GA : FnOk P w K mg base CX0 1 fA fdA ["self", "n"] (spNodeAt CC CL CN CW)) (bA : Binds K fdA ["self", "n"] []) (mA : Meth K CW "node_at" fA)
    (GH : FnOk P w K mg base CX0 3 fH fdH ["self", "name"] (spHolder CC CN)) (bH : Binds K fdH ["self", "name"] []) (mH : Meth K CN "holder" fH) : FnOk P w K mg base CX0 4 f fd ["self", "n"] (spNames CC CL CN CW) := by
  refine F.ok scNm (fun vs H Q E h => ?_) (fun cdv A outer s H vs Q E hr h => ?_)
  · obtain ⟨W, s, n, rfl, _⟩ := h
    rfl
  · obtain ⟨W, s, n, rfl, hW, hfair, k⟩ := h
    obtain ⟨dx, ob⟩ := hW.ob
    obtain ⟨t1, hm1⟩ := T.kNS
    obtain ⟨t9, h9⟩ := T.kLN
    have hr1 : Room 1 _ := hr.mono (by decide)
    refine ⟨_, pss_cons (ps_if (pt_not (pt_val (pe_meth (pv 0) T.clW mI GI hr1 bI .nil pass0 (pa_cons (pv 1) pa_nil))))
        (pss_one (ps_ret (pe_lst (pa_cons (pe_glob (v := .int (-1)) (by rfl) hm1 ⟨_, rfl⟩) pa_nil)))) pss_nil)
      (pss_cons (ps_set (i := 2) scNm.nd rfl (Or.inr rfl) (pe_meth (pv 0) T.clW mA GA hr1 bA .nil pass0 (pa_cons (pv 1) pa_nil)))
      (pss_cons (ps_setLc (i := 3) (own := [("name", 7)]) (g := gName 7) (tt := tYes) (te := tMeth CN "holder" (spHolder CC CN) [] E0 (tVar 2) (tCons (tVar 7) tNil)) (by rfl) scNm.nd rfl rfl (sw_true rfl rfl rfl (by decide +kernel)) (pi_range1 (by rfl) T.range (pa_cons (pe_op op_add (pe_glob (v := .int 9) (by rfl) h9 ⟨_, rfl⟩) pe_int) pa_nil)) (blkOk_by (N := ["self", "n", "node", "found", "held", "told", "holder", "name"]) (sc := defScope sNames) (by decide +kernel))
          (fun _ _ _ _ _ => pg_name (i := 7) scNm.nd rfl (Or.inl rfl)) (fun _ _ _ _ _ => pts_nil) (fun _ _ _ _ _ => pe_meth (pv 2) T.clN mH GH hr bH .nil pass0 (pa_cons (pv 7) pa_nil)))
      (pss_cons (ps_setLc (i := 4) (own := [("holder", 6)]) (g := gName 6) (tt := tTest (tOp (fun x y H Q => y = .non ∧ Q (.bl (!decide (x = .non))) H) (tVar 6) (tC .non))) (te := tVar 6) (by rfl) scNm.nd rfl rfl (sw_true rfl rfl rfl (by decide +kernel)) (pi_list (pv 3)) (blkOk_by (N := ["self", "n", "node", "found", "held", "told", "holder", "name"]) (sc := defScope sNames) (by decide +kernel))
          (fun _ _ _ _ _ => pg_name (i := 6) scNm.nd rfl (Or.inl rfl)) (fun _ _ _ _ _ => pts_one (pt_cmpR op_notN (pv 6) pe_non (nomark _))) (fun _ _ _ _ _ => pv 6))
      (pss_cons (ps_set (i := 5) scNm.nd rfl (Or.inl rfl) (pe_lst (pa_cons (pe_callB call_len_seq (by rfl) T.len PySem.boot_len (pa_cons (pv 4) pa_nil)) pa_nil)))
      (pss_cons (ps_for PassesOwn.never rfl (pi_list (pv 4)) (pg_name (i := 6) scNm.nd rfl (Or.inl rfl))
        (pss_one (ps_expr (pe_bm PySem.F.plainAttrs_list PySem.F.slot_list_extend PySem.F.type_list_extend mt_extend (pv 5) (pa_cons (pe_lst (pa_cons (pe_fld (pv 6) rfl) (pa_cons (pe_fld (pv 6) rfl) (pa_cons (pe_fld (pv 6) rfl) pa_nil)))) pa_nil)))))
      (pss_one (ps_ret (pv 5)))))))), ?_⟩
    refine ⟨_, rfl, W.w, dx, _, rfl, ob, wF_none _ _, _, rfl, W, s, n, rfl, hW, _, rfl, ?_⟩
    cases e : Ha08.isNode s n with
    | false =>
      refine iteT ?_
      exact ⟨(by show 1 ≤ sizeLine; decide), fun q hq => k.stay hW (by rw [names_no e]) hq (by rw [names_no e]; rfl)⟩
    | true =>
      refine iteF ?_
      obtain ⟨h1, h2⟩ := NN.isNode_iff.mp e
      obtain ⟨N, hN, hNm, hNA⟩ := hW.at_ h1 h2
      have hey := names_yes e
      generalize Ha08.node s n = x at hNA hey
      obtain ⟨dn, obn⟩ := hNA.ob
      have hz : (10000 : Nat) < sizeLine := by decide
      refine ⟨_, rfl, W.w, dx, _, rfl, ob, wF_none _ _, _, rfl, W, s, n, N, rfl, hW, h1, hN, ?_⟩
      refine ⟨_, _, rfl, rfl, (9 : Int) + 1, rfl, by decide, by decide, fun D hD => ?_⟩
      refine lc_range (lo := 0) (n := ((9 : Int) + 1).toNat) (fun i H' => ∃ fs : List V, H' = upd H D (.lst fs) ∧ Two (HoldV CC H) fs (holds x i))
        ⟨[], rfl, .nil⟩ ?_ ?_
      · rintro i H' hi ⟨fs, rfl, tf⟩
        have hi10 : i < 10 := hi
        have sD : ∀ {o : HO}, Same H (upd H D o) := fun {o} => same_new hD
        refine ⟨rfl, ?_⟩
        refine yes_intro ?_
        refine iteT ?_
        have hfl : fs.length < sizeLine := by
          rw [tf.len, holds_len]
          omega
        have next : ∀ v, HoldV CC H v (Ha08.holder x i) → ∃ acc, upd H D (.lst fs) D = some (.lst acc) ∧ acc.length < sizeLine ∧ ∃ fs', upd (upd H D (.lst fs)) D (.lst (acc ++ [v])) = upd H D (.lst fs') ∧ Two (HoldV CC H) fs' (holds x (i + 1)) := fun v hv => by
          refine ⟨fs, upd_same, hfl, fs ++ [v], by rw [upd_upd], ?_⟩
          unfold holds
          rw [range_snoc]
          exact tf.append (.one hv)
        refine ⟨_, rfl, N.a, dn, _, rfl, sD _ _ obn, nF_none _ _ _ _ _, _, rfl, N, n, i, x, ?_, hNA.same sD, fun ca c hc hca => ?_, fun hc => ?_⟩
        · have : (0 : Int) + (i : Int) = (i : Int) := by omega
          rw [this]
          rfl
        · refine next (.ref ca) ?_
          rw [hc]
          obtain ⟨as, hk, kt⟩ := hNA.ks
          obtain ⟨dc, hcd⟩ := hca
          refine ⟨ca, rfl, dc, ?_⟩
          rw [upd_ne (fun q => by rw [q, upd_same] at hcd; cases hcd)] at hcd
          exact hcd
        · refine next .non ?_
          rw [hc]
          rfl
      · rintro H' ⟨fs, rfl, tf⟩
        have hfs : Two (HoldV CC H) fs (holds x 10) := tf
        have s1 : Same H (upd H D (.lst fs)) := same_new hD
        have eD : upd H D (.lst fs) D = some (.lst fs) := upd_same
        generalize upd H D (.lst fs) = H1 at s1 eD ⊢
        refine ⟨_, rfl, D, rfl, ⟨_, SqL.of eD⟩, fun D2 hD2 => ?_⟩
        have s2 : ∀ {o : HO}, Same H1 (upd H1 D2 o) := fun {o} => same_new hD2
        refine lc_list (K := K) (a := D) (xs := fs) (fun i H' => ∃ as : List Addr, H' = upd H1 D2 (.lst (as.map V.ref)) ∧ Two (ClaimAt CC H) as (kept ((holds x 10).take i)))
          ⟨[], rfl, .nil⟩ (fun i H' _ ⟨bs, e, _⟩ => by rw [e]; exact s2.seq (SqL.of eD)) ?_ ?_
        · rintro i y H' hi ⟨as, rfl, ta⟩
          obtain ⟨o, ho, hv⟩ := hfs.get hi
          have hl : as.length < sizeLine := by
            rw [ta.len]
            have h1 := kept_len ((holds x 10).take i)
            rw [List.length_take, holds_len] at h1
            omega
          refine ⟨rfl, ?_⟩
          refine ⟨_, rfl, rfl, _, rfl, ?_⟩
          cases o with
          | none =>
            have hv : y = .non := hv
            subst hv
            refine iteN (by simp) ?_
            refine ⟨as, rfl, ?_⟩
            rw [kept_snoc ho]
            simpa using ta
          | some c =>
            obtain ⟨a, rfl, hca⟩ := hv
            refine iteY (by simp) ?_
            refine ⟨_, rfl, _, upd_same, by rw [List.length_map]; exact hl, as ++ [a], by rw [upd_upd, List.map_append]; rfl, ?_⟩
            rw [kept_snoc ho]
            exact ta.append (.one hca)
        · rintro H' ⟨as, rfl, ta⟩
          have et2 : (holds x 10).take fs.length = holds x 10 := by rw [hfs.len, List.take_length]
          rw [et2, kept_all] at ta
          have hnl : (Ha08.nameList x).length ≤ 10 := by
            rw [← kept_all]
            have := kept_len (holds x 10)
            rw [holds_len] at this
            exact this
          have s3 : Same H (upd H1 D2 (.lst (as.map V.ref))) := s1.trans s2
          have eD2 : upd H1 D2 (.lst (as.map V.ref)) D2 = some (.lst (as.map V.ref)) := upd_same
          generalize upd H1 D2 (.lst (as.map V.ref)) = H3 at s3 eD2 ⊢
          refine ⟨_, rfl, D2, _, rfl, .inl (SqL.of eD2), (by show 1 ≤ sizeLine; decide), fun t ht => ?_⟩
          rw [List.length_map, ta.len]
          generalize Ha08.nameList x = ls at hey ta hnl
          have s4 : Same H3 (upd H3 t (.lst [V.int (ls.length : Int)])) := same_new ht
          have htH : H t = none := s3.free ht
          have et : upd H3 t (.lst [V.int (ls.length : Int)]) t = some (.lst (natV [ls.length])) := upd_same
          refine ⟨_, rfl, D2, rfl, ⟨_, SqL.of (s4 _ _ eD2)⟩, for_list (K := K) (a := D2) (xs := as.map V.ref)
            (fun i σ H' => ∃ v : Option V, σ = [some (.ref W.w), some (.int n), some (.ref N.a), some (.ref D), some (.ref D2), some (.ref t), v, none] ∧ Same H3 H' ∧ H' t = some (.lst (natV (ls.length :: (ls.take i).flatMap nameTold))))
            ⟨none, rfl, s4, et⟩ (fun i σ H' _ ⟨_, _, e, _⟩ => SqL.of (e _ _ eD2)) ?_ ?_⟩
          · rintro i y σ H' hi ⟨v, rfl, sm, htl⟩
            obtain ⟨ca, hca, rfl⟩ := ref_at hi
            obtain ⟨c, hc, dc, hcd⟩ := ta.get hca
            have hil := (List.getElem?_eq_some_iff.mp hc).1
            have hcd' := (s3.trans sm) _ _ hcd
            refine ⟨_, rfl, .inl ⟨rfl, _, SqL.of htl⟩, ?_⟩
            refine ⟨_, rfl, ca, CC, dc, _, _, rfl, hcd', T.clC, T.cName, cF_name c, _, rfl, ca, CC, dc, _, _, rfl, hcd', T.clC, T.cNode, cF_node c, _, rfl, ca, CC, dc, _, _, rfl, hcd', T.clC, T.cProc, cF_proc c, (by show 3 ≤ sizeLine; decide), fun q hq => ?_⟩
            have hqt : t ≠ q := ne_of_none htl hq
            refine ⟨t, q, _, _, rfl, rfl, (by rw [upd_ne hqt]; exact htl), upd_same, ?_, ?_⟩
            · rw [natV_len, List.length_cons, flat_len nameTold 3 (fun _ => rfl), List.length_take]
              show 3 * min i ls.length + 1 + 3 ≤ sizeLine
              omega
            · refine ⟨some (.ref ca), rfl, same_put ht (sm.trans (same_new hq)), ?_⟩
              rw [upd_same, flat_snoc nameTold hc, ← List.cons_append, natV_app]
              rfl
          · rintro σ H' ⟨v, rfl, sm, htl⟩
            rw [List.length_map, ta.len, List.take_length] at htl
            exact ⟨_, rfl, k.told hW htH (s3.trans sm) htl hey⟩
end
end NH
set_option Elab.async false
set_option linter.all false
set_option maxRecDepth 100000
set_option maxHeartbeats 4000000
namespace NH
open PySem PySem.Spec PyProof.Rows L2
abbrev sNodesOf : Stmt := top 37
abbrev sLettersOf : Stmt := top 38
abbrev sQuestionsOf : Stmt := top 39
abbrev sAnswer : Stmt := top 40
/-! ### 25. One call -/
/-- the promise of answer: one call -/
def spAnswer (CC CL CN CW : Addr) : Sp := fun vs H Q _ => ∃ (W : WA) (s : Ha08.St) (p : Int) (na : Addr) (args : List Int) (c : Ha08.Call), vs = [.ref W.w, .int p, .ref na] ∧ WorldAt CC CL CN CW H W s ∧ Fair s ∧ H na = some (.lst (args.map V.int)) ∧ Ha08Neutral.callOf [p :: args] = some c ∧ (Ha08.step s c).2.length ≤ 10000000 ∧ Ret CC CL CN CW H W s c Q
/-- .. a call with a number from lo to hi -/
def spPick (lo hi : Int) (CC CL CN CW : Addr) : Sp := fun vs H Q _ => ∃ (W : WA) (s : Ha08.St) (p : Int) (na : Addr) (args : List Int) (c : Ha08.Call), vs = [.ref W.w, .int p, .ref na] ∧ WorldAt CC CL CN CW H W s ∧ Fair s ∧ H na = some (.lst (args.map V.int)) ∧ Ha08Neutral.callOf [p :: args] = some c ∧ (Ha08.step s c).2.length ≤ 10000000 ∧ lo ≤ p ∧ p ≤ hi ∧ Ret CC CL CN CW H W s c Q
section
variable {P : Program} {w : World} {K : PySem.W.Frag} {mg : Str → Option Value} {base : Heap} {CC CL CN CW : Addr}
theorem scNo : FnScope ["world", "call", "numbers"] ["world", "call", "numbers"] (defScope sNodesOf) := ⟨rfl, rfl, rfl, by decide +kernel, rfl, by decide +kernel, by decide +kernel⟩
theorem ok_nodesOf {f f0 f1 f2 f3 f4 f5 f6 : Addr} {fd fd0 fd1 fd2 fd3 fd4 fd5 fd6 : FuncData} (F : Fun K "answer_of_nodes" "answer_of_nodes" sNodesOf f fd) (T : Txt K mg CC CL CN CW)
    (G0 : FnOk P w K mg base CX0 3 f0 fd0 ["self", "n"] (spBeginW CC CL CN CW)) (b0 : Binds K fd0 ["self", "n"] []) (m0 : Meth K CW "begin" f0)
    (G1 : FnOk P w K mg base CX0 4 f1 fd1 ["self", "n", "p", "name"] (spClaim CC CL CN CW)) (b1 : Binds K fd1 ["self", "n", "p", "name"] []) (m1 : Meth K CW "claim" f1)
    (G2 : FnOk P w K mg base CX0 5 f2 fd2 ["self", "n", "p", "name"] (spFree CC CL CN CW)) (b2 : Binds K fd2 ["self", "n", "p", "name"] []) (m2 : Meth K CW "free" f2)
    (G3 : FnOk P w K mg base CX0 5 f3 fd3 ["self", "n", "p"] (spDies CC CL CN CW)) (b3 : Binds K fd3 ["self", "n", "p"] []) (m3 : Meth K CW "dies" f3)
    (G4 : FnOk P w K mg base CX0 3 f4 fd4 ["self", "n", "m"] (spPart CC CL CN CW)) (b4 : Binds K fd4 ["self", "n", "m"] []) (m4 : Meth K CW "part" f4)
    (G5 : FnOk P w K mg base CX0 5 f5 fd5 ["self", "n", "m"] (spMeet CC CL CN CW)) (b5 : Binds K fd5 ["self", "n", "m"] []) (m5 : Meth K CW "meet" f5)
    (G6 : FnOk P w K mg base CX0 5 f6 fd6 ["self", "n", "m"] (spTell CC CL CN CW)) (b6 : Binds K fd6 ["self", "n", "m"] []) (m6 : Meth K CW "tell" f6) : FnOk P w K mg base CX0 6 f fd ["world", "call", "numbers"] (spPick 0 6 CC CL CN CW) := by
  refine F.ok scNo (fun vs H Q E h => ?_) (fun cdv A outer s H vs Q E hr h => ?_)
  · obtain ⟨W, s, p, na, args, c, rfl, _⟩ := h
    rfl
  · obtain ⟨W, s, p, na, args, c, rfl, hW, hfair, hna, hc, hshort, hlo, hhi, k⟩ := h
    obtain ⟨dx, ob⟩ := hW.ob
    obtain ⟨t0, q0⟩ := T.h0
    obtain ⟨t1, q1⟩ := T.h1
    obtain ⟨t2, q2⟩ := T.h2
    obtain ⟨t3, q3⟩ := T.h3
    obtain ⟨t4, q4⟩ := T.h4
    obtain ⟨t5, q5⟩ := T.h5
    have hr3 : Room 3 _ := hr.mono (by decide)
    have hr4 : Room 4 _ := hr.mono (by decide)
    have hr5 : Room 5 _ := hr
    refine ⟨_, pss_cons (ps_if (pt_cmpR op_eq (pv 1) (pe_glob (v := .int 0) (by rfl) q0 ⟨_, rfl⟩) (nomark _)) (pss_one (ps_ret (pe_meth (pv 0) T.clW m0 G0 hr3 b0 .nil pass0 (pa_cons (pe_ix ix_list (pv 2) pe_int (fun _ _ => rfl)) pa_nil)))) pss_nil)
      (pss_cons (ps_if (pt_cmpR op_eq (pv 1) (pe_glob (v := .int 1) (by rfl) q1 ⟨_, rfl⟩) (nomark _)) (pss_one (ps_ret (pe_meth (pv 0) T.clW m1 G1 hr4 b1 .nil pass0 (pa_cons (pe_ix ix_list (pv 2) pe_int (fun _ _ => rfl)) (pa_cons (pe_ix ix_list (pv 2) pe_int (fun _ _ => rfl)) (pa_cons (pe_ix ix_list (pv 2) pe_int (fun _ _ => rfl)) pa_nil)))))) pss_nil)
      (pss_cons (ps_if (pt_cmpR op_eq (pv 1) (pe_glob (v := .int 2) (by rfl) q2 ⟨_, rfl⟩) (nomark _)) (pss_one (ps_ret (pe_meth (pv 0) T.clW m2 G2 hr5 b2 .nil pass0 (pa_cons (pe_ix ix_list (pv 2) pe_int (fun _ _ => rfl)) (pa_cons (pe_ix ix_list (pv 2) pe_int (fun _ _ => rfl)) (pa_cons (pe_ix ix_list (pv 2) pe_int (fun _ _ => rfl)) pa_nil)))))) pss_nil)
      (pss_cons (ps_if (pt_cmpR op_eq (pv 1) (pe_glob (v := .int 3) (by rfl) q3 ⟨_, rfl⟩) (nomark _)) (pss_one (ps_ret (pe_meth (pv 0) T.clW m3 G3 hr5 b3 .nil pass0 (pa_cons (pe_ix ix_list (pv 2) pe_int (fun _ _ => rfl)) (pa_cons (pe_ix ix_list (pv 2) pe_int (fun _ _ => rfl)) pa_nil))))) pss_nil)
      (pss_cons (ps_if (pt_cmpR op_eq (pv 1) (pe_glob (v := .int 4) (by rfl) q4 ⟨_, rfl⟩) (nomark _)) (pss_one (ps_ret (pe_meth (pv 0) T.clW m4 G4 hr3 b4 .nil pass0 (pa_cons (pe_ix ix_list (pv 2) pe_int (fun _ _ => rfl)) (pa_cons (pe_ix ix_list (pv 2) pe_int (fun _ _ => rfl)) pa_nil))))) pss_nil)
      (pss_cons (ps_if (pt_cmpR op_eq (pv 1) (pe_glob (v := .int 5) (by rfl) q5 ⟨_, rfl⟩) (nomark _)) (pss_one (ps_ret (pe_meth (pv 0) T.clW m5 G5 hr5 b5 .nil pass0 (pa_cons (pe_ix ix_list (pv 2) pe_int (fun _ _ => rfl)) (pa_cons (pe_ix ix_list (pv 2) pe_int (fun _ _ => rfl)) pa_nil))))) pss_nil)
      (pss_one (ps_ret (pe_meth (pv 0) T.clW m6 G6 hr5 b6 .nil pass0 (pa_cons (pe_ix ix_list (pv 2) pe_int (fun _ _ => rfl)) (pa_cons (pe_ix ix_list (pv 2) pe_int (fun _ _ => rfl)) pa_nil)))))))))), ?_⟩
    rcases NN.call_cases hc with ⟨n, rfl, rfl, rfl⟩ | ⟨n, q, j, rfl, rfl, rfl⟩ | ⟨n, q, j, rfl, rfl, rfl⟩ | ⟨n, q, rfl, rfl, rfl⟩ | ⟨n, m, rfl, rfl, rfl⟩ | ⟨n, m, rfl, rfl, rfl⟩ | ⟨n, m, rfl, rfl, rfl⟩ | ⟨j, rfl, rfl, rfl⟩ | ⟨j, rfl, rfl, rfl⟩ | ⟨j, rfl, rfl, rfl⟩ | ⟨n, rfl, rfl, rfl⟩ | ⟨n, j, rfl, rfl, rfl⟩ | ⟨n, rfl, rfl, rfl⟩ | ⟨n, q, rfl, rfl, rfl⟩ | ⟨n, rfl, rfl, rfl⟩ | ⟨rfl, rfl, rfl⟩
    · refine ⟨_, rfl, rfl, _, rfl, ?_⟩
      refine iteY (by simp) ?_
      have hna : H na = some (.lst [V.int (n : Int)]) := hna
      exact ⟨_, rfl, W.w, dx, _, rfl, ob, wF_none _ _, _, rfl, na, _, _, _, rfl, rfl, SqL.of hna, at_of (j := 0) rfl rfl, W, s, n, rfl, hW, k⟩
    · refine ⟨_, rfl, rfl, _, rfl, ?_⟩
      refine iteN (by simp) ?_
      refine ⟨_, rfl, rfl, _, rfl, ?_⟩
      refine iteY (by simp) ?_
      have hna : H na = some (.lst [V.int (n : Int), V.int (q : Int), V.int (j : Int)]) := hna
      exact ⟨_, rfl, W.w, dx, _, rfl, ob, wF_none _ _, _, rfl, na, _, _, _, rfl, rfl, SqL.of hna, at_of (j := 0) rfl rfl, _, rfl, na, _, _, _, rfl, rfl, SqL.of hna, at_of (j := 1) rfl rfl, _, rfl, na, _, _, _, rfl, rfl, SqL.of hna, at_of (j := 2) rfl rfl, W, s, n, q, j, rfl, hW, hfair, k⟩
    · refine ⟨_, rfl, rfl, _, rfl, ?_⟩
      refine iteN (by simp) ?_
      refine ⟨_, rfl, rfl, _, rfl, ?_⟩
      refine iteN (by simp) ?_
      refine ⟨_, rfl, rfl, _, rfl, ?_⟩
      refine iteY (by simp) ?_
      have hna : H na = some (.lst [V.int (n : Int), V.int (q : Int), V.int (j : Int)]) := hna
      exact ⟨_, rfl, W.w, dx, _, rfl, ob, wF_none _ _, _, rfl, na, _, _, _, rfl, rfl, SqL.of hna, at_of (j := 0) rfl rfl, _, rfl, na, _, _, _, rfl, rfl, SqL.of hna, at_of (j := 1) rfl rfl, _, rfl, na, _, _, _, rfl, rfl, SqL.of hna, at_of (j := 2) rfl rfl, W, s, n, q, j, rfl, hW, hfair, k⟩
    · refine ⟨_, rfl, rfl, _, rfl, ?_⟩
      refine iteN (by simp) ?_
      refine ⟨_, rfl, rfl, _, rfl, ?_⟩
      refine iteN (by simp) ?_
      refine ⟨_, rfl, rfl, _, rfl, ?_⟩
      refine iteN (by simp) ?_
      refine ⟨_, rfl, rfl, _, rfl, ?_⟩
      refine iteY (by simp) ?_
      have hna : H na = some (.lst [V.int (n : Int), V.int (q : Int)]) := hna
      exact ⟨_, rfl, W.w, dx, _, rfl, ob, wF_none _ _, _, rfl, na, _, _, _, rfl, rfl, SqL.of hna, at_of (j := 0) rfl rfl, _, rfl, na, _, _, _, rfl, rfl, SqL.of hna, at_of (j := 1) rfl rfl, W, s, n, q, rfl, hW, hfair, k⟩
    · refine ⟨_, rfl, rfl, _, rfl, ?_⟩
      refine iteN (by simp) ?_
      refine ⟨_, rfl, rfl, _, rfl, ?_⟩
      refine iteN (by simp) ?_
      refine ⟨_, rfl, rfl, _, rfl, ?_⟩
      refine iteN (by simp) ?_
      refine ⟨_, rfl, rfl, _, rfl, ?_⟩
      refine iteN (by simp) ?_
      refine ⟨_, rfl, rfl, _, rfl, ?_⟩
      refine iteY (by simp) ?_
      have hna : H na = some (.lst [V.int (n : Int), V.int (m : Int)]) := hna
      exact ⟨_, rfl, W.w, dx, _, rfl, ob, wF_none _ _, _, rfl, na, _, _, _, rfl, rfl, SqL.of hna, at_of (j := 0) rfl rfl, _, rfl, na, _, _, _, rfl, rfl, SqL.of hna, at_of (j := 1) rfl rfl, W, s, n, m, rfl, hW, hfair, k⟩
    · refine ⟨_, rfl, rfl, _, rfl, ?_⟩
      refine iteN (by simp) ?_
      refine ⟨_, rfl, rfl, _, rfl, ?_⟩
      refine iteN (by simp) ?_
      refine ⟨_, rfl, rfl, _, rfl, ?_⟩
      refine iteN (by simp) ?_
      refine ⟨_, rfl, rfl, _, rfl, ?_⟩
      refine iteN (by simp) ?_
      refine ⟨_, rfl, rfl, _, rfl, ?_⟩
      refine iteN (by simp) ?_
      refine ⟨_, rfl, rfl, _, rfl, ?_⟩
      refine iteY (by simp) ?_
      have hna : H na = some (.lst [V.int (n : Int), V.int (m : Int)]) := hna
      exact ⟨_, rfl, W.w, dx, _, rfl, ob, wF_none _ _, _, rfl, na, _, _, _, rfl, rfl, SqL.of hna, at_of (j := 0) rfl rfl, _, rfl, na, _, _, _, rfl, rfl, SqL.of hna, at_of (j := 1) rfl rfl, W, s, n, m, rfl, hW, hfair, k⟩
    · refine ⟨_, rfl, rfl, _, rfl, ?_⟩
      refine iteN (by simp) ?_
      refine ⟨_, rfl, rfl, _, rfl, ?_⟩
      refine iteN (by simp) ?_
      refine ⟨_, rfl, rfl, _, rfl, ?_⟩
      refine iteN (by simp) ?_
      refine ⟨_, rfl, rfl, _, rfl, ?_⟩
      refine iteN (by simp) ?_
      refine ⟨_, rfl, rfl, _, rfl, ?_⟩
      refine iteN (by simp) ?_
      refine ⟨_, rfl, rfl, _, rfl, ?_⟩
      refine iteN (by simp) ?_
      have hna : H na = some (.lst [V.int (n : Int), V.int (m : Int)]) := hna
      exact ⟨_, rfl, W.w, dx, _, rfl, ob, wF_none _ _, _, rfl, na, _, _, _, rfl, rfl, SqL.of hna, at_of (j := 0) rfl rfl, _, rfl, na, _, _, _, rfl, rfl, SqL.of hna, at_of (j := 1) rfl rfl, W, s, n, m, rfl, hW, hfair, k⟩
    · omega
    · omega
    · omega
    · omega
    · omega
    · omega
    · omega
    · omega
    · omega
theorem scLt : FnScope ["world", "call", "numbers"] ["world", "call", "numbers"] (defScope sLettersOf) := ⟨rfl, rfl, rfl, by decide +kernel, rfl, by decide +kernel, by decide +kernel⟩
theorem ok_lettersOf {f f7 f8 f9 f10 : Addr} {fd fd7 fd8 fd9 fd10 : FuncData} (F : Fun K "answer_of_letters" "answer_of_letters" sLettersOf f fd) (T : Txt K mg CC CL CN CW)
    (G7 : FnOk P w K mg base CX0 7 f7 fd7 ["self", "k"] (spTake CC CL CN CW)) (b7 : Binds K fd7 ["self", "k"] []) (m7 : Meth K CW "take" f7)
    (G8 : FnOk P w K mg base CX0 7 f8 fd8 ["self", "k"] (spKeep CC CL CN CW)) (b8 : Binds K fd8 ["self", "k"] []) (m8 : Meth K CW "keep" f8)
    (G9 : FnOk P w K mg base CX0 2 f9 fd9 ["self", "k"] (spLose CC CL CN CW)) (b9 : Binds K fd9 ["self", "k"] []) (m9 : Meth K CW "lose" f9)
    (G10 : FnOk P w K mg base CX0 7 f10 fd10 ["self", "n"] (spTurns CC CL CN CW)) (b10 : Binds K fd10 ["self", "n"] []) (m10 : Meth K CW "turns" f10) : FnOk P w K mg base CX0 8 f fd ["world", "call", "numbers"] (spPick 7 10 CC CL CN CW) := by
  refine F.ok scLt (fun vs H Q E h => ?_) (fun cdv A outer s H vs Q E hr h => ?_)
  · obtain ⟨W, s, p, na, args, c, rfl, _⟩ := h
    rfl
  · obtain ⟨W, s, p, na, args, c, rfl, hW, hfair, hna, hc, hshort, hlo, hhi, k⟩ := h
    obtain ⟨dx, ob⟩ := hW.ob
    obtain ⟨t7, q7⟩ := T.h7
    obtain ⟨t8, q8⟩ := T.h8
    obtain ⟨t9, q9⟩ := T.h9
    have hr2 : Room 2 _ := hr.mono (by decide)
    have hr7 : Room 7 _ := hr
    refine ⟨_, pss_cons (ps_if (pt_cmpR op_eq (pv 1) (pe_glob (v := .int 7) (by rfl) q7 ⟨_, rfl⟩) (nomark _)) (pss_one (ps_ret (pe_meth (pv 0) T.clW m7 G7 hr7 b7 .nil pass0 (pa_cons (pe_ix ix_list (pv 2) pe_int (fun _ _ => rfl)) pa_nil)))) pss_nil)
      (pss_cons (ps_if (pt_cmpR op_eq (pv 1) (pe_glob (v := .int 8) (by rfl) q8 ⟨_, rfl⟩) (nomark _)) (pss_one (ps_ret (pe_meth (pv 0) T.clW m8 G8 hr7 b8 .nil pass0 (pa_cons (pe_ix ix_list (pv 2) pe_int (fun _ _ => rfl)) pa_nil)))) pss_nil)
      (pss_cons (ps_if (pt_cmpR op_eq (pv 1) (pe_glob (v := .int 9) (by rfl) q9 ⟨_, rfl⟩) (nomark _)) (pss_one (ps_ret (pe_meth (pv 0) T.clW m9 G9 hr2 b9 .nil pass0 (pa_cons (pe_ix ix_list (pv 2) pe_int (fun _ _ => rfl)) pa_nil)))) pss_nil)
      (pss_one (ps_ret (pe_meth (pv 0) T.clW m10 G10 hr7 b10 .nil pass0 (pa_cons (pe_ix ix_list (pv 2) pe_int (fun _ _ => rfl)) pa_nil)))))), ?_⟩
    rcases NN.call_cases hc with ⟨n, rfl, rfl, rfl⟩ | ⟨n, q, j, rfl, rfl, rfl⟩ | ⟨n, q, j, rfl, rfl, rfl⟩ | ⟨n, q, rfl, rfl, rfl⟩ | ⟨n, m, rfl, rfl, rfl⟩ | ⟨n, m, rfl, rfl, rfl⟩ | ⟨n, m, rfl, rfl, rfl⟩ | ⟨j, rfl, rfl, rfl⟩ | ⟨j, rfl, rfl, rfl⟩ | ⟨j, rfl, rfl, rfl⟩ | ⟨n, rfl, rfl, rfl⟩ | ⟨n, j, rfl, rfl, rfl⟩ | ⟨n, rfl, rfl, rfl⟩ | ⟨n, q, rfl, rfl, rfl⟩ | ⟨n, rfl, rfl, rfl⟩ | ⟨rfl, rfl, rfl⟩
    · omega
    · omega
    · omega
    · omega
    · omega
    · omega
    · omega
    · refine ⟨_, rfl, rfl, _, rfl, ?_⟩
      refine iteY (by simp) ?_
      have hna : H na = some (.lst [V.int (j : Int)]) := hna
      exact ⟨_, rfl, W.w, dx, _, rfl, ob, wF_none _ _, _, rfl, na, _, _, _, rfl, rfl, SqL.of hna, at_of (j := 0) rfl rfl, W, s, j, rfl, hW, hfair, k⟩
    · refine ⟨_, rfl, rfl, _, rfl, ?_⟩
      refine iteN (by simp) ?_
      refine ⟨_, rfl, rfl, _, rfl, ?_⟩
      refine iteY (by simp) ?_
      have hna : H na = some (.lst [V.int (j : Int)]) := hna
      exact ⟨_, rfl, W.w, dx, _, rfl, ob, wF_none _ _, _, rfl, na, _, _, _, rfl, rfl, SqL.of hna, at_of (j := 0) rfl rfl, W, s, j, rfl, hW, hfair, k⟩
    · refine ⟨_, rfl, rfl, _, rfl, ?_⟩
      refine iteN (by simp) ?_
      refine ⟨_, rfl, rfl, _, rfl, ?_⟩
      refine iteN (by simp) ?_
      refine ⟨_, rfl, rfl, _, rfl, ?_⟩
      refine iteY (by simp) ?_
      have hna : H na = some (.lst [V.int (j : Int)]) := hna
      exact ⟨_, rfl, W.w, dx, _, rfl, ob, wF_none _ _, _, rfl, na, _, _, _, rfl, rfl, SqL.of hna, at_of (j := 0) rfl rfl, W, s, j, rfl, hW, hfair, k⟩
    · refine ⟨_, rfl, rfl, _, rfl, ?_⟩
      refine iteN (by simp) ?_
      refine ⟨_, rfl, rfl, _, rfl, ?_⟩
      refine iteN (by simp) ?_
      refine ⟨_, rfl, rfl, _, rfl, ?_⟩
      refine iteN (by simp) ?_
      have hna : H na = some (.lst [V.int (n : Int)]) := hna
      exact ⟨_, rfl, W.w, dx, _, rfl, ob, wF_none _ _, _, rfl, na, _, _, _, rfl, rfl, SqL.of hna, at_of (j := 0) rfl rfl, W, s, n, rfl, hW, hfair, k⟩
    · omega
    · omega
    · omega
    · omega
    · omega
theorem scQu : FnScope ["world", "call", "numbers"] ["world", "call", "numbers"] (defScope sQuestionsOf) := ⟨rfl, rfl, rfl, by decide +kernel, rfl, by decide +kernel, by decide +kernel⟩
theorem ok_questionsOf {f f11 f12 f13 f14 f15 : Addr} {fd fd11 fd12 fd13 fd14 fd15 : FuncData} (F : Fun K "answer_of_questions" "answer_of_questions" sQuestionsOf f fd) (T : Txt K mg CC CL CN CW)
    (G11 : FnOk P w K mg base CX0 4 f11 fd11 ["self", "n", "name"] (spWho CC CL CN CW)) (b11 : Binds K fd11 ["self", "n", "name"] []) (m11 : Meth K CW "who" f11)
    (G12 : FnOk P w K mg base CX0 4 f12 fd12 ["self", "n"] (spNames CC CL CN CW)) (b12 : Binds K fd12 ["self", "n"] []) (m12 : Meth K CW "names" f12)
    (G13 : FnOk P w K mg base CX0 3 f13 fd13 ["self", "n", "p"] (spLostW CC CL CN CW)) (b13 : Binds K fd13 ["self", "n", "p"] []) (m13 : Meth K CW "lost" f13)
    (G14 : FnOk P w K mg base CX0 2 f14 fd14 ["self", "n"] (spClaimsW CC CL CN CW)) (b14 : Binds K fd14 ["self", "n"] []) (m14 : Meth K CW "claims" f14)
    (G15 : FnOk P w K mg base CX0 1 f15 fd15 ["self"] (spAir CC CL CN CW)) (b15 : Binds K fd15 ["self"] []) (m15 : Meth K CW "air" f15) : FnOk P w K mg base CX0 5 f fd ["world", "call", "numbers"] (spPick 11 15 CC CL CN CW) := by
  refine F.ok scQu (fun vs H Q E h => ?_) (fun cdv A outer s H vs Q E hr h => ?_)
  · obtain ⟨W, s, p, na, args, c, rfl, _⟩ := h
    rfl
  · obtain ⟨W, s, p, na, args, c, rfl, hW, hfair, hna, hc, hshort, hlo, hhi, k⟩ := h
    obtain ⟨dx, ob⟩ := hW.ob
    obtain ⟨t11, q11⟩ := T.h11
    obtain ⟨t12, q12⟩ := T.h12
    obtain ⟨t13, q13⟩ := T.h13
    obtain ⟨t14, q14⟩ := T.h14
    have hr1 : Room 1 _ := hr.mono (by decide)
    have hr2 : Room 2 _ := hr.mono (by decide)
    have hr3 : Room 3 _ := hr.mono (by decide)
    have hr4 : Room 4 _ := hr
    refine ⟨_, pss_cons (ps_if (pt_cmpR op_eq (pv 1) (pe_glob (v := .int 11) (by rfl) q11 ⟨_, rfl⟩) (nomark _)) (pss_one (ps_ret (pe_meth (pv 0) T.clW m11 G11 hr4 b11 .nil pass0 (pa_cons (pe_ix ix_list (pv 2) pe_int (fun _ _ => rfl)) (pa_cons (pe_ix ix_list (pv 2) pe_int (fun _ _ => rfl)) pa_nil))))) pss_nil)
      (pss_cons (ps_if (pt_cmpR op_eq (pv 1) (pe_glob (v := .int 12) (by rfl) q12 ⟨_, rfl⟩) (nomark _)) (pss_one (ps_ret (pe_meth (pv 0) T.clW m12 G12 hr4 b12 .nil pass0 (pa_cons (pe_ix ix_list (pv 2) pe_int (fun _ _ => rfl)) pa_nil)))) pss_nil)
      (pss_cons (ps_if (pt_cmpR op_eq (pv 1) (pe_glob (v := .int 13) (by rfl) q13 ⟨_, rfl⟩) (nomark _)) (pss_one (ps_ret (pe_meth (pv 0) T.clW m13 G13 hr3 b13 .nil pass0 (pa_cons (pe_ix ix_list (pv 2) pe_int (fun _ _ => rfl)) (pa_cons (pe_ix ix_list (pv 2) pe_int (fun _ _ => rfl)) pa_nil))))) pss_nil)
      (pss_cons (ps_if (pt_cmpR op_eq (pv 1) (pe_glob (v := .int 14) (by rfl) q14 ⟨_, rfl⟩) (nomark _)) (pss_one (ps_ret (pe_meth (pv 0) T.clW m14 G14 hr2 b14 .nil pass0 (pa_cons (pe_ix ix_list (pv 2) pe_int (fun _ _ => rfl)) pa_nil)))) pss_nil)
      (pss_one (ps_ret (pe_meth0 (pv 0) T.clW m15 G15 hr1 b15 .nil pass0)))))), ?_⟩
    rcases NN.call_cases hc with ⟨n, rfl, rfl, rfl⟩ | ⟨n, q, j, rfl, rfl, rfl⟩ | ⟨n, q, j, rfl, rfl, rfl⟩ | ⟨n, q, rfl, rfl, rfl⟩ | ⟨n, m, rfl, rfl, rfl⟩ | ⟨n, m, rfl, rfl, rfl⟩ | ⟨n, m, rfl, rfl, rfl⟩ | ⟨j, rfl, rfl, rfl⟩ | ⟨j, rfl, rfl, rfl⟩ | ⟨j, rfl, rfl, rfl⟩ | ⟨n, rfl, rfl, rfl⟩ | ⟨n, j, rfl, rfl, rfl⟩ | ⟨n, rfl, rfl, rfl⟩ | ⟨n, q, rfl, rfl, rfl⟩ | ⟨n, rfl, rfl, rfl⟩ | ⟨rfl, rfl, rfl⟩
    · omega
    · omega
    · omega
    · omega
    · omega
    · omega
    · omega
    · omega
    · omega
    · omega
    · omega
    · refine ⟨_, rfl, rfl, _, rfl, ?_⟩
      refine iteY (by simp) ?_
      have hna : H na = some (.lst [V.int (n : Int), V.int (j : Int)]) := hna
      exact ⟨_, rfl, W.w, dx, _, rfl, ob, wF_none _ _, _, rfl, na, _, _, _, rfl, rfl, SqL.of hna, at_of (j := 0) rfl rfl, _, rfl, na, _, _, _, rfl, rfl, SqL.of hna, at_of (j := 1) rfl rfl, W, s, n, j, rfl, hW, hfair, k⟩
    · refine ⟨_, rfl, rfl, _, rfl, ?_⟩
      refine iteN (by simp) ?_
      refine ⟨_, rfl, rfl, _, rfl, ?_⟩
      refine iteY (by simp) ?_
      have hna : H na = some (.lst [V.int (n : Int)]) := hna
      exact ⟨_, rfl, W.w, dx, _, rfl, ob, wF_none _ _, _, rfl, na, _, _, _, rfl, rfl, SqL.of hna, at_of (j := 0) rfl rfl, W, s, n, rfl, hW, hfair, k⟩
    · refine ⟨_, rfl, rfl, _, rfl, ?_⟩
      refine iteN (by simp) ?_
      refine ⟨_, rfl, rfl, _, rfl, ?_⟩
      refine iteN (by simp) ?_
      refine ⟨_, rfl, rfl, _, rfl, ?_⟩
      refine iteY (by simp) ?_
      have hna : H na = some (.lst [V.int (n : Int), V.int (q : Int)]) := hna
      exact ⟨_, rfl, W.w, dx, _, rfl, ob, wF_none _ _, _, rfl, na, _, _, _, rfl, rfl, SqL.of hna, at_of (j := 0) rfl rfl, _, rfl, na, _, _, _, rfl, rfl, SqL.of hna, at_of (j := 1) rfl rfl, W, s, n, q, rfl, hW, hfair, hshort, k⟩
    · refine ⟨_, rfl, rfl, _, rfl, ?_⟩
      refine iteN (by simp) ?_
      refine ⟨_, rfl, rfl, _, rfl, ?_⟩
      refine iteN (by simp) ?_
      refine ⟨_, rfl, rfl, _, rfl, ?_⟩
      refine iteN (by simp) ?_
      refine ⟨_, rfl, rfl, _, rfl, ?_⟩
      refine iteY (by simp) ?_
      have hna : H na = some (.lst [V.int (n : Int)]) := hna
      exact ⟨_, rfl, W.w, dx, _, rfl, ob, wF_none _ _, _, rfl, na, _, _, _, rfl, rfl, SqL.of hna, at_of (j := 0) rfl rfl, W, s, n, rfl, hW, hfair, k⟩
    · refine ⟨_, rfl, rfl, _, rfl, ?_⟩
      refine iteN (by simp) ?_
      refine ⟨_, rfl, rfl, _, rfl, ?_⟩
      refine iteN (by simp) ?_
      refine ⟨_, rfl, rfl, _, rfl, ?_⟩
      refine iteN (by simp) ?_
      refine ⟨_, rfl, rfl, _, rfl, ?_⟩
      refine iteN (by simp) ?_
      exact ⟨_, rfl, W.w, dx, _, rfl, ob, wF_none _ _, W, s, rfl, hW, hfair, k⟩
theorem scAw : FnScope ["world", "call", "numbers"] ["world", "call", "numbers"] (defScope sAnswer) := ⟨rfl, rfl, rfl, by decide +kernel, rfl, by decide +kernel, by decide +kernel⟩
theorem ok_answer {f fN fL fQ : Addr} {fd fdN fdL fdQ : FuncData} (F : Fun K "answer" "answer" sAnswer f fd) (T : Txt K mg CC CL CN CW)
    (GN : FnOk P w K mg base CX0 6 fN fdN ["world", "call", "numbers"] (spPick 0 6 CC CL CN CW)) (bN : Binds K fdN ["world", "call", "numbers"] []) (gN : mg "answer_of_nodes" = some (.ref fN)) (kN : PySem.W.keepIn K (.ref fN) = true)
    (GL : FnOk P w K mg base CX0 8 fL fdL ["world", "call", "numbers"] (spPick 7 10 CC CL CN CW)) (bL : Binds K fdL ["world", "call", "numbers"] []) (gL : mg "answer_of_letters" = some (.ref fL)) (kL : PySem.W.keepIn K (.ref fL) = true)
    (GQ : FnOk P w K mg base CX0 5 fQ fdQ ["world", "call", "numbers"] (spPick 11 15 CC CL CN CW)) (bQ : Binds K fdQ ["world", "call", "numbers"] []) (gQ : mg "answer_of_questions" = some (.ref fQ)) (kQ : PySem.W.keepIn K (.ref fQ) = true) : FnOk P w K mg base CX0 9 f fd ["world", "call", "numbers"] (spAnswer CC CL CN CW) := by
  refine F.ok scAw (fun vs H Q E h => ?_) (fun cdv A outer s H vs Q E hr h => ?_)
  · obtain ⟨W, s, p, na, args, c, rfl, _⟩ := h
    rfl
  · obtain ⟨W, s, p, na, args, c, rfl, hW, hfair, hna, hc, hshort, k⟩ := h
    obtain ⟨t6, q6⟩ := T.h6
    obtain ⟨t10, q10⟩ := T.h10
    have hr6 : Room 6 _ := hr.mono (by decide)
    have hr5 : Room 5 _ := hr.mono (by decide)
    refine ⟨_, pss_cons (ps_if (pt_cmpR op_le (pv 1) (pe_glob (v := .int 6) (by rfl) q6 ⟨_, rfl⟩) (nomark _)) (pss_one (ps_ret (pe_call GN hr6 rfl gN kN bN .nil pass0 (pa_cons (pv 0) (pa_cons (pv 1) (pa_cons (pv 2) pa_nil)))))) pss_nil)
      (pss_cons (ps_if (pt_cmpR op_le (pv 1) (pe_glob (v := .int 10) (by rfl) q10 ⟨_, rfl⟩) (nomark _)) (pss_one (ps_ret (pe_call GL hr rfl gL kL bL .nil pass0 (pa_cons (pv 0) (pa_cons (pv 1) (pa_cons (pv 2) pa_nil)))))) pss_nil)
      (pss_one (ps_ret (pe_call GQ hr5 rfl gQ kQ bQ .nil pass0 (pa_cons (pv 0) (pa_cons (pv 1) (pa_cons (pv 2) pa_nil))))))), ?_⟩
    have hp : 0 ≤ p ∧ p ≤ 15 := by
      rcases NN.call_cases hc with ⟨n, rfl, _, _⟩ | ⟨n, q, j, rfl, _, _⟩ | ⟨n, q, j, rfl, _, _⟩ | ⟨n, q, rfl, _, _⟩ | ⟨n, m, rfl, _, _⟩ | ⟨n, m, rfl, _, _⟩ | ⟨n, m, rfl, _, _⟩ | ⟨j, rfl, _, _⟩ | ⟨j, rfl, _, _⟩ | ⟨j, rfl, _, _⟩ | ⟨n, rfl, _, _⟩ | ⟨n, j, rfl, _, _⟩ | ⟨n, rfl, _, _⟩ | ⟨n, q, rfl, _, _⟩ | ⟨n, rfl, _, _⟩ | ⟨rfl, _, _⟩
      all_goals omega
    refine ⟨_, rfl, _, _, rfl, rfl, _, rfl, ?_⟩
    by_cases h6 : p ≤ 6
    · refine iteY (decide_eq_true h6) ?_
      exact ⟨_, rfl, _, rfl, _, rfl, W, s, p, na, args, c, rfl, hW, hfair, hna, hc, hshort, hp.1, h6, k⟩
    refine iteN (decide_eq_false h6) ?_
    refine ⟨_, rfl, _, _, rfl, rfl, _, rfl, ?_⟩
    by_cases h10 : p ≤ 10
    · refine iteY (decide_eq_true h10) ?_
      exact ⟨_, rfl, _, rfl, _, rfl, W, s, p, na, args, c, rfl, hW, hfair, hna, hc, hshort, by omega, h10, k⟩
    refine iteN (decide_eq_false h10) ?_
    exact ⟨_, rfl, _, rfl, _, rfl, W, s, p, na, args, c, rfl, hW, hfair, hna, hc, hshort, by omega, hp.2, k⟩
end
end NH
set_option Elab.async false
set_option linter.all false
set_option maxRecDepth 100000
set_option maxHeartbeats 4000000
namespace NH
open PySem PySem.Spec PyProof.Rows L2
abbrev sAnswers : Stmt := top 41
/-! ### 21. The whole list -/
def spAns (K : PySem.W.Frag) : Sp := fun vs H Q _ => ∃ (a : Addr) (ns : List Int), vs = [.ref a] ∧ SqL K H a (ns.map V.int) ∧ PyHa08.answers_asked ns = true ∧ ns.length ≤ 400 ∧ ∀ (H' : Hp) (p : Addr), H' p = some (.lst ((PyHa08.answers ns).map V.int)) → Q (.ref p) H'
/-- what is asked of a list, in parts -/
theorem asked_parts {ns : List Int} (h : PyHa08.answers_asked ns = true) : ∃ cs, PyFlat.calls PyHa08.shape ns.length ns = some cs ∧ cs.length ≤ 100 ∧ (∀ c ∈ cs, ∃ x, Ha08Neutral.callOf c = some x) ∧
    PyHa08.answers ns = PyFlat.told (PyFlat.played Ha08Neutral.step Ha08Neutral.start cs) ∧ (PyHa08.answers ns).length ≤ 10000000 := by
  unfold PyHa08.answers_asked at h
  split at h
  · cases h
  · rename_i raw e
    have em : raw.map PyHa08.whole = raw := by
      conv => rhs; rw [← List.map_id raw]
      exact List.map_congr_left fun c _ => NN.whole_id c
    simp only [Bool.and_eq_true] at h
    obtain ⟨⟨⟨⟨h1, h2⟩, h3⟩, h4⟩, h5⟩ := h
    rw [em] at h4
    refine ⟨raw, e, of_decide_eq_true h2, fun c hc => ?_, ?_, of_decide_eq_true h5⟩
    · unfold Ha08Neutral.asked at h4
      simp only [Bool.and_eq_true] at h4
      have := List.all_eq_true.mp h4.1 c hc
      exact Option.isSome_iff_exists.mp this
    · unfold PyHa08.answers PyHa08.calls
      rw [e]
      simp only [em]
theorem played_cons {s : Ha08.St} {c : List (List Int)} {x : Ha08.Call} {cs : List (List (List Int))} (h : Ha08Neutral.callOf c = some x) :
    PyFlat.told (PyFlat.played Ha08Neutral.step s (c :: cs)) = ((Ha08.step s x).2.length : Int) :: (Ha08.step s x).2 ++ PyFlat.told (PyFlat.played Ha08Neutral.step (Ha08.step s x).1 cs) := by
  have e : Ha08Neutral.step s c = Ha08.step s x := by
    unfold Ha08Neutral.step
    rw [h]
  show PyFlat.told ((Ha08Neutral.step s c).2 :: PyFlat.played Ha08Neutral.step (Ha08Neutral.step s c).1 cs) = _
  rw [e]
  unfold PyFlat.told
  rw [List.flatMap_cons]
theorem cut_args (ns : List Int) (pl a : Nat) (h : pl + 1 + a ≤ ns.length) : cutV (ns.map V.int) (some ((pl : Int) + 1)) (some ((pl : Int) + 1 + (a : Int))) = ((ns.drop (pl + 1)).take a).map V.int := by
  have e1 : HT.sIx (ns.map V.int).length 0 (some ((pl : Int) + 1)) = pl + 1 := by
    rw [List.length_map]
    have : ((pl : Int) + 1) = ((pl + 1 : Nat) : Int) := by omega
    rw [this, HT.sIx_nat]
    omega
  have e2 : HT.sIx (ns.map V.int).length (ns.map V.int).length (some ((pl : Int) + 1 + (a : Int))) = pl + 1 + a := by
    rw [List.length_map]
    have : ((pl : Int) + 1 + (a : Int)) = ((pl + 1 + a : Nat) : Int) := by omega
    rw [this, HT.sIx_nat]
    omega
  unfold cutV
  rw [e1, e2, Nat.add_sub_cancel_left, List.map_take, List.map_drop]
theorem natV_ix {l : List Nat} {j a : Nat} (h : l[j]? = some a) : (natV l)[j]? = some (V.int a) := natV_at.mpr h
section
variable {P : Program} {w : World} {K : PySem.W.Frag} {mg : Str → Option Value} {base : Heap} {CC CL CN CW : Addr}
theorem scAs : FnScope ["calls", "world", "told", "place", "call", "behind", "numbers"] ["calls"] (defScope sAnswers) := ⟨rfl, rfl, rfl, by decide +kernel, rfl, by decide +kernel, by decide +kernel⟩
theorem ok_answers {f fI fA : Addr} {fd fdI fdA : FuncData} (F : Fun K "answers" "answers" sAnswers f fd) (T : Txt K mg CC CL CN CW)
    (M : Mk K CW fI) (GI : FnOk P w K mg base CX0 4 fI fdI ["self"] (spWInit CC CL CN CW)) (bI : Binds K fdI ["self"] [])
    (GA : FnOk P w K mg base CX0 9 fA fdA ["world", "call", "numbers"] (spAnswer CC CL CN CW)) (bA : Binds K fdA ["world", "call", "numbers"] []) (gA : mg "answer" = some (.ref fA)) (kA : PySem.W.keepIn K (.ref fA) = true) : FnOk P w K mg base CX0 10 f fd ["calls"] (spAns K) := by
  refine F.ok scAs (fun vs H Q E h => ?_) (fun cdv A outer s H vs Q E hr h => ?_)
  · obtain ⟨a, ns, rfl, _⟩ := h
    rfl
  · obtain ⟨a, ns, rfl, hS, hask, hlen, k⟩ := h
    obtain ⟨cs0, hcs0, hc100, hcall0, hans, hshort⟩ := asked_parts hask
    obtain ⟨nb, gNB, hNB⟩ := T.kNB
    have hr5 : Room 5 _ := hr.mono (by decide)
    refine ⟨_, pss_cons (ps_set (i := 1) scAs.nd rfl (Or.inl rfl) (pe_make0 M GI hr5 rfl T.gW bI .nil pass0))
      (pss_cons (ps_set (i := 2) scAs.nd rfl (Or.inl rfl) (pe_lst pa_nil))
      (pss_cons (ps_set (i := 3) scAs.nd rfl (Or.inl rfl) pe_int)
      (pss_cons (ps_while PassesOwn.never (pt_cmpR op_lt (pv 3) (pe_callB call_len_seq (by rfl) T.len PySem.boot_len (pa_cons (pv 0) pa_nil)) (nomark _))
        (pss_cons (ps_set (i := 4) scAs.nd rfl (Or.inl rfl) (pe_ix ix_list (pv 0) (pv 3) (fun _ _ => rfl)))
        (pss_cons (ps_set (i := 5) scAs.nd rfl (Or.inl rfl) (pe_op op_add (pe_op op_add (pv 3) pe_int) (pe_ix ix_tup (pe_glob (v := .ref nb) (by rfl) gNB rfl) (pv 4) (fun _ _ => rfl))))
        (pss_cons (ps_set (i := 6) scAs.nd rfl (Or.inl rfl) (pe_call GA hr rfl gA kA bA .nil pass0 (pa_cons (pv 1) (pa_cons (pv 4) (pa_cons (pe_slice sl_list (pv 0) (po_some (pe_op op_add (pv 3) pe_int)) (po_some (pv 5))) pa_nil)))))
        (pss_cons (ps_expr (pe_bm PySem.F.plainAttrs_list PySem.F.slot_list_append PySem.F.type_list_append mt_append (pv 2) (pa_cons (pe_callB call_len_seq (by rfl) T.len PySem.boot_len (pa_cons (pv 6) pa_nil)) pa_nil)))
        (pss_cons (ps_expr (pe_bm PySem.F.plainAttrs_list PySem.F.slot_list_extend PySem.F.type_list_extend mt_extend (pv 2) (pa_cons (pv 6) pa_nil)))
        (pss_one (ps_set (i := 3) scAs.nd rfl (Or.inl rfl) (pv 5)))))))))
      (pss_one (ps_ret (pv 2)))))), ?_⟩
    intro x d nx nd ne
    refine ⟨x, d, rfl, upd_same, fun H1 W1 hw1 hW1 hf1 kp1 => ⟨rfl, ?_⟩⟩
    have s1 : Same H H1 := Same.made nx nd kp1
    have fp1 : ∀ g ∈ W1.fp, H g = none := fun g hg => by
      rcases hf1 g hg with rfl | q
      · exact nx
      · by_cases e1 : g = x
        · rw [e1]; exact nx
        · rw [upd_ne e1] at q
          by_cases e2 : g = d
          · rw [e2]; exact nd
          · rw [upd_ne e2] at q
            exact q
    refine ⟨Nat.zero_le _, fun t ht => ?_⟩
    have s2 : Same H1 (upd H1 t (.lst [])) := same_new ht
    have tW : t ∉ W1.fp := fun q => by
      obtain ⟨o, e⟩ := hW1.tracked q
      rw [ht] at e
      cases e
    refine ⟨fun m σ H' => ∃ (pl kk : Nat) (W : WA) (st : Ha08.St) (cs : List (List (List Int))) (out : List Int) (g : Nat → Nat → Nat × Nat) (v4 v5 v6 : Option V) (fl : Nat), pl ≤ ns.length ∧ m = ns.length - pl ∧ σ = [some (.ref a), some (.ref W.w), some (.ref t), some (.int pl), v4, v5, v6] ∧
        Same H H' ∧ WorldAt CC CL CN CW H' W st ∧ (∀ g ∈ W.fp, H g = none) ∧ t ∉ W.fp ∧ H' t = some (.lst (out.map V.int)) ∧ NN.Inv g kk (kk * 100000) st ∧ kk + cs.length ≤ 100 ∧ PyFlat.calls PyHa08.shape fl (ns.drop pl) = some cs ∧ (∀ c ∈ cs, ∃ x, Ha08Neutral.callOf c = some x) ∧
        PyHa08.answers ns = out ++ PyFlat.told (PyFlat.played Ha08Neutral.step st cs),
      ⟨_, 0, 0, W1, Ha08.init, cs0, [], fun _ _ => (0, 0), none, none, none, ns.length, Nat.zero_le _, rfl, (by rw [hw1]; rfl), s1.trans s2, hW1.same s2, fp1, tW, upd_same, NN.init_inv _, (by omega), hcs0, hcall0, hans⟩, ?_⟩
    rintro m σ H' ⟨pl, kk, W, st, cs, out, g, v4, v5, v6, fl, hpl, rfl, rfl, sm, hW, hWf, htW, htl, hI, hkc, hcs, hcc, hA⟩
    have hS' : SqL K H' a (ns.map V.int) := sm.seq hS
    refine ⟨_, rfl, _, rfl, a, _, rfl, .inl hS', _, _, rfl, rfl, _, rfl, ?_⟩
    rw [List.length_map]
    by_cases hlt : pl < ns.length
    · refine iteY (by simp; omega) ?_
      obtain ⟨p, hp⟩ : ∃ p, ns[pl]? = some p := ⟨_, List.getElem?_eq_getElem hlt⟩
      have hdr : ns.drop pl = p :: ns.drop (pl + 1) := by
        rw [List.drop_eq_getElem_cons hlt, (List.getElem?_eq_some_iff.mp hp).2]
      rw [hdr] at hcs
      obtain ⟨fl', b, cs', hb, hp0, hbl, rfl, hcs'⟩ := NN.calls_cons hcs
      rw [List.length_drop] at hbl
      obtain ⟨c, hc⟩ := hcc [p :: (ns.drop (pl + 1)).take b] (by simp)
      refine ⟨fun σ' H9 => ∃ (W9 : WA) (g9 : Nat → Nat → Nat × Nat) (v4 v5 v6 : Option V), σ' = [some (.ref a), some (.ref W9.w), some (.ref t), some (.int (pl + 1 + b : Nat)), v4, v5, v6] ∧
          Same H H9 ∧ WorldAt CC CL CN CW H9 W9 (Ha08.step st c).1 ∧ (∀ g ∈ W9.fp, H g = none) ∧ t ∉ W9.fp ∧ H9 t = some (.lst ((out ++ ((Ha08.step st c).2.length : Int) :: (Ha08.step st c).2).map V.int)) ∧ NN.Inv g9 (kk + 1) ((kk + 1) * 100000) (Ha08.step st c).1, ?_, ?_⟩
      · rintro σ' H9 ⟨W9, g9, v4, v5, v6, e1, e2, e3, e4, e5, e6, e7⟩
        refine ⟨ns.length - (pl + 1 + b), by omega, pl + 1 + b, kk + 1, W9, _, cs', _, g9, v4, v5, v6, fl', by omega, rfl, e1, e2, e3, e4, e5, e6, e7, ?_, ?_, fun c' hc' => hcc c' (by simp [hc']), ?_⟩
        · simp at hkc
          omega
        · rw [List.drop_drop] at hcs'
          exact hcs'
        · rw [hA, played_cons hc, List.append_assoc]
      · refine ⟨_, rfl, _, rfl, a, _, _, _, rfl, rfl, hS', at_of rfl (by rw [List.getElem?_map, hp]; rfl), ?_⟩
        refine ⟨_, rfl, _, _, rfl, rfl, _, rfl, nb, _, _, _, rfl, rfl, hNB H', at_of (j := p.toNat) (by omega) (natV_ix hb), _, _, rfl, rfl, ?_⟩
        refine ⟨_, rfl, _, rfl, _, rfl, _, rfl, _, _, rfl, rfl, _, rfl, _, rfl, _, rfl, a, _, rfl, hS', fun na hna => ?_⟩
        rw [cut_args ns pl b (by omega)]
        have hone : (Ha08.step st c).2.length ≤ 10000000 := by
          rw [hA, played_cons hc] at hshort
          simp at hshort
          omega
        have s3 : Same H' (upd H' na (.lst (((ns.drop (pl + 1)).take b).map V.int))) := same_new hna
        refine ⟨W, st, p, na, (ns.drop (pl + 1)).take b, c, rfl, hW.same s3, ⟨g, kk, _, hI, by simp at hkc; omega, by simp at hkc; omega⟩, upd_same, hc, hone, fun q H4 W4 st4 hW4 hq hqW hqn => ?_⟩
        have ht3 := s3 _ _ htl
        have ht4 : H4 t = some (.lst (out.map V.int)) := st4.fr _ _ ht3 htW
        have hqt : q ≠ t := by
          rintro rfl
          rcases hqn with r | r
          · exact htW r
          · rw [ht3] at r; cases r
        have htW4 : t ∉ W4.fp := fun r => by
          rcases st4.sub t r with r | r
          · exact htW r
          · rw [ht3] at r; cases r
        have hall : (out ++ ((Ha08.step st c).2.length : Int) :: (Ha08.step st c).2).length ≤ 10000000 := by
          rw [hA, played_cons hc] at hshort
          simp at hshort ⊢
          omega
        obtain ⟨g9, hI9⟩ := NN.step_inv hI (by simp at hkc; omega) c
        have hsz : (10000000 : Nat) < sizeLine := by decide
        refine ⟨_, rfl, .inl ⟨rfl, _, SqL.of ht4⟩, _, rfl, q, _, rfl, .inl (SqL.of hq), t, _, _, rfl, rfl, ht4, ?_, ?_⟩
        · rw [List.length_map]
          simp at hall
          omega
        rw [List.length_map]
        have f5 : Fr H4 (upd H4 t (.lst (out.map V.int ++ [V.int ((Ha08.step st c).2.length : Int)]))) [t] := fr_upd (by simp)
        refine ⟨_, rfl, .inl ⟨rfl, _, SqL.of upd_same⟩, _, rfl, t, q, _, _, rfl, rfl, upd_same, f5 _ _ hq (by simpa using hqt), ?_, ?_⟩
        · simp at hall ⊢
          omega
        rw [upd_upd]
        have f6 : Fr H4 (upd H4 t (.lst (out.map V.int ++ [V.int ((Ha08.step st c).2.length : Int)] ++ (Ha08.step st c).2.map V.int))) [t] := fr_upd (by simp)
        refine ⟨_, rfl, W4, g9, some (.int p), some (.int ((pl : Int) + 1 + (b : Int))), some (.ref q), ?_, ?_, hW4.aside f6 ht4 htW4, ?_, htW4, ?_, ?_⟩
        · have e : ((pl + 1 + b : Nat) : Int) = (pl : Int) + 1 + (b : Int) := by omega
          rw [st4.w, e]
          rfl
        · intro b' o hb'
          refine f6 _ _ (st4.fr _ _ (s3 _ _ (sm _ _ hb')) fun r => ?_) (fun r => ?_)
          · rw [hWf b' r] at hb'; cases hb'
          · simp at r
            rw [r, s1.free ht] at hb'
            cases hb'
        · intro f hf
          rcases st4.sub f hf with r | r
          · exact hWf f r
          · exact (sm.trans s3).free r
        · rw [upd_same]
          simp
        · have e : (kk + 1) * 100000 = kk * 100000 + 100000 := by omega
          rw [e]
          exact hI9
    · refine iteN (by simp; omega) ?_
      have e : pl = ns.length := by omega
      subst e
      rw [List.drop_length] at hcs
      have := NN.calls_nil hcs
      subst this
      refine ⟨_, rfl, k H' t ?_⟩
      rw [hA]
      unfold PyFlat.played PyFlat.told
      simpa using htl
end
end NH
set_option Elab.async false
set_option linter.all false
set_option maxRecDepth 100000
set_option maxHeartbeats 4000000
namespace NH
open PySem PySem.Spec PyProof.Rows L2
/-! ### 30. What the top has written -/
def intOf : Value → Option Int
  | .int i _ => some i
  | _ => none
theorem vals_of : ∀ {l : List Nat} {us : List Value}, us.map intOf = l.map (fun (n : Nat) => some (n : Int)) → Vals (natV l) us
  | [], [], _ => .nil
  | [], _ :: _, h => by simp at h
  | _ :: _, [], h => by simp at h
  | n :: l, u :: us, h => by
    simp only [List.map_cons, List.cons.injEq] at h
    refine .cons ?_ (vals_of h.2)
    have h1 := h.1
    unfold intOf at h1
    split at h1
    · cases h1
      exact ⟨_, rfl⟩
    · cases h1
theorem all_mk {P : Program} {w : World} {K : PySem.W.Frag} {h : Heap} {mg : Str → Option Value} {fa CC CL CN CW : Addr} (X : K.In h) (G : h.Ns mainGlobals mg) (hfa : mg "answers" = some (.ref fa))
    {f_ci : Addr} {od_ci an_ci : Option Addr} {sl_ci : Array (Option Value)} {oc_ci kV_ci dc_ci pm_ci cd_ci ct_ci : Value}
    {f_st : Addr} {od_st an_st : Option Addr} {sl_st : Array (Option Value)} {oc_st kV_st dc_st pm_st cd_st ct_st : Value}
    {f_wh : Addr} {od_wh an_wh : Option Addr} {sl_wh : Array (Option Value)} {oc_wh kV_wh dc_wh pm_wh cd_wh ct_wh : Value}
    {f_li : Addr} {od_li an_li : Option Addr} {sl_li : Array (Option Value)} {oc_li kV_li dc_li pm_li cd_li ct_li : Value}
    {f_ni : Addr} {od_ni an_ni : Option Addr} {sl_ni : Array (Option Value)} {oc_ni kV_ni dc_ni pm_ni cd_ni ct_ni : Value}
    {f_re : Addr} {od_re an_re : Option Addr} {sl_re : Array (Option Value)} {oc_re kV_re dc_re pm_re cd_re ct_re : Value}
    {f_be : Addr} {od_be an_be : Option Addr} {sl_be : Array (Option Value)} {oc_be kV_be dc_be pm_be cd_be ct_be : Value}
    {f_ce : Addr} {od_ce an_ce : Option Addr} {sl_ce : Array (Option Value)} {oc_ce kV_ce dc_ce pm_ce cd_ce ct_ce : Value}
    {f_sd : Addr} {od_sd an_sd : Option Addr} {sl_sd : Array (Option Value)} {oc_sd kV_sd dc_sd pm_sd cd_sd ct_sd : Value}
    {f_ho : Addr} {od_ho an_ho : Option Addr} {sl_ho : Array (Option Value)} {oc_ho kV_ho dc_ho pm_ho cd_ho ct_ho : Value}
    {f_ow : Addr} {od_ow an_ow : Option Addr} {sl_ow : Array (Option Value)} {oc_ow kV_ow dc_ow pm_ow cd_ow ct_ow : Value}
    {f_mk : Addr} {od_mk an_mk : Option Addr} {sl_mk : Array (Option Value)} {oc_mk kV_mk dc_mk pm_mk cd_mk ct_mk : Value}
    {f_le : Addr} {od_le an_le : Option Addr} {sl_le : Array (Option Value)} {oc_le kV_le dc_le pm_le cd_le ct_le : Value}
    {f_gi : Addr} {od_gi an_gi : Option Addr} {sl_gi : Array (Option Value)} {oc_gi kV_gi dc_gi pm_gi cd_gi ct_gi : Value}
    {f_lo : Addr} {od_lo an_lo : Option Addr} {sl_lo : Array (Option Value)} {oc_lo kV_lo dc_lo pm_lo cd_lo ct_lo : Value}
    {f_lf : Addr} {od_lf an_lf : Option Addr} {sl_lf : Array (Option Value)} {oc_lf kV_lf dc_lf pm_lf cd_lf ct_lf : Value}
    {f_wr : Addr} {od_wr an_wr : Option Addr} {sl_wr : Array (Option Value)} {oc_wr kV_wr dc_wr pm_wr cd_wr ct_wr : Value}
    {f_rc : Addr} {od_rc an_rc : Option Addr} {sl_rc : Array (Option Value)} {oc_rc kV_rc dc_rc pm_rc cd_rc ct_rc : Value}
    {f_wi : Addr} {od_wi an_wi : Option Addr} {sl_wi : Array (Option Value)} {oc_wi kV_wi dc_wi pm_wi cd_wi ct_wi : Value}
    {f_in : Addr} {od_in an_in : Option Addr} {sl_in : Array (Option Value)} {oc_in kV_in dc_in pm_in cd_in ct_in : Value}
    {f_ip : Addr} {od_ip an_ip : Option Addr} {sl_ip : Array (Option Value)} {oc_ip kV_ip dc_ip pm_ip cd_ip ct_ip : Value}
    {f_il : Addr} {od_il an_il : Option Addr} {sl_il : Array (Option Value)} {oc_il kV_il dc_il pm_il cd_il ct_il : Value}
    {f_tw : Addr} {od_tw an_tw : Option Addr} {sl_tw : Array (Option Value)} {oc_tw kV_tw dc_tw pm_tw cd_tw ct_tw : Value}
    {f_na : Addr} {od_na an_na : Option Addr} {sl_na : Array (Option Value)} {oc_na kV_na dc_na pm_na cd_na ct_na : Value}
    {f_fu : Addr} {od_fu an_fu : Option Addr} {sl_fu : Array (Option Value)} {oc_fu kV_fu dc_fu pm_fu cd_fu ct_fu : Value}
    {f_se : Addr} {od_se an_se : Option Addr} {sl_se : Array (Option Value)} {oc_se kV_se dc_se pm_se cd_se ct_se : Value}
    {f_de : Addr} {od_de an_de : Option Addr} {sl_de : Array (Option Value)} {oc_de kV_de dc_de pm_de cd_de ct_de : Value}
    {f_bw : Addr} {od_bw an_bw : Option Addr} {sl_bw : Array (Option Value)} {oc_bw kV_bw dc_bw pm_bw cd_bw ct_bw : Value}
    {f_cl : Addr} {od_cl an_cl : Option Addr} {sl_cl : Array (Option Value)} {oc_cl kV_cl dc_cl pm_cl cd_cl ct_cl : Value}
    {f_fr : Addr} {od_fr an_fr : Option Addr} {sl_fr : Array (Option Value)} {oc_fr kV_fr dc_fr pm_fr cd_fr ct_fr : Value}
    {f_di : Addr} {od_di an_di : Option Addr} {sl_di : Array (Option Value)} {oc_di kV_di dc_di pm_di cd_di ct_di : Value}
    {f_pa : Addr} {od_pa an_pa : Option Addr} {sl_pa : Array (Option Value)} {oc_pa kV_pa dc_pa pm_pa cd_pa ct_pa : Value}
    {f_me : Addr} {od_me an_me : Option Addr} {sl_me : Array (Option Value)} {oc_me kV_me dc_me pm_me cd_me ct_me : Value}
    {f_te : Addr} {od_te an_te : Option Addr} {sl_te : Array (Option Value)} {oc_te kV_te dc_te pm_te cd_te ct_te : Value}
    {f_tk : Addr} {od_tk an_tk : Option Addr} {sl_tk : Array (Option Value)} {oc_tk kV_tk dc_tk pm_tk cd_tk ct_tk : Value}
    {f_ke : Addr} {od_ke an_ke : Option Addr} {sl_ke : Array (Option Value)} {oc_ke kV_ke dc_ke pm_ke cd_ke ct_ke : Value}
    {f_ls : Addr} {od_ls an_ls : Option Addr} {sl_ls : Array (Option Value)} {oc_ls kV_ls dc_ls pm_ls cd_ls ct_ls : Value}
    {f_tu : Addr} {od_tu an_tu : Option Addr} {sl_tu : Array (Option Value)} {oc_tu kV_tu dc_tu pm_tu cd_tu ct_tu : Value}
    {f_wo : Addr} {od_wo an_wo : Option Addr} {sl_wo : Array (Option Value)} {oc_wo kV_wo dc_wo pm_wo cd_wo ct_wo : Value}
    {f_nm : Addr} {od_nm an_nm : Option Addr} {sl_nm : Array (Option Value)} {oc_nm kV_nm dc_nm pm_nm cd_nm ct_nm : Value}
    {f_lw : Addr} {od_lw an_lw : Option Addr} {sl_lw : Array (Option Value)} {oc_lw kV_lw dc_lw pm_lw cd_lw ct_lw : Value}
    {f_cw : Addr} {od_cw an_cw : Option Addr} {sl_cw : Array (Option Value)} {oc_cw kV_cw dc_cw pm_cw cd_cw ct_cw : Value}
    {f_ai : Addr} {od_ai an_ai : Option Addr} {sl_ai : Array (Option Value)} {oc_ai kV_ai dc_ai pm_ai cd_ai ct_ai : Value}
    {f_an : Addr} {od_an an_an : Option Addr} {sl_an : Array (Option Value)} {oc_an kV_an dc_an pm_an cd_an ct_an : Value}
    {f_al : Addr} {od_al an_al : Option Addr} {sl_al : Array (Option Value)} {oc_al kV_al dc_al pm_al cd_al ct_al : Value}
    {f_aq : Addr} {od_aq an_aq : Option Addr} {sl_aq : Array (Option Value)} {oc_aq kV_aq dc_aq pm_aq cd_aq ct_aq : Value}
    {f_aw : Addr} {od_aw an_aw : Option Addr} {sl_aw : Array (Option Value)} {oc_aw kV_aw dc_aw pm_aw cd_aw ct_aw : Value}
    {f_as : Addr} {od_as an_as : Option Addr} {sl_as : Array (Option Value)} {oc_as kV_as dc_as pm_as cd_as ct_as : Value}
    {t_NODES_AT_FIRST : Tok}
    {t_LEAST_NODES : Tok}
    {t_MOST_NODES : Tok}
    {t_LAST_PROCESS : Tok}
    {t_LAST_NAME : Tok}
    {t_MOST_CLAIMS : Tok}
    {t_MOST_LETTERS : Tok}
    {t_MOST_TURNS : Tok}
    {t_NO_SUCH : Tok}
    {t_NOT_REACHED : Tok}
    {t_NO_LETTER : Tok}
    {t_FULL : Tok}
    {t_BEGIN : Tok}
    {t_CLAIM : Tok}
    {t_FREE : Tok}
    {t_DIES : Tok}
    {t_PART : Tok}
    {t_MEET : Tok}
    {t_TELL : Tok}
    {t_TAKE : Tok}
    {t_KEEP : Tok}
    {t_LOSE : Tok}
    {t_TURNS : Tok}
    {t_WHO : Tok}
    {t_NAMES : Tok}
    {t_LOST : Tok}
    {t_CLAIMS : Tok}
    {nb : Addr} {nbd : Option Addr} {nbi : Array Value} {nbn : Nat} {nbs : Array (Option Value)}
    (gC : PySem.W.nsIn K mainGlobals "Claim" = some (some (.ref CC)))
    (pgC : PySem.W.plainGet K CC Str.empty = true)
    (hdC : PySem.W.hasDictIn K CC = true)
    (poC : PySem.W.plainOver K CC = true)
    (saC : PySem.W.findIn K (.ref CC) "__setattr__" = some (some (.builtin "object.__setattr__")))
    (mkC : PySem.W.makesIn K CC = true)
    (kcC : PySem.W.keepIn K (.ref CC) = true)
    (nC_count : PySem.W.findIn K (.ref CC) "count" = some none)
    (nC_node : PySem.W.findIn K (.ref CC) "node" = some none)
    (nC_process : PySem.W.findIn K (.ref CC) "process" = some none)
    (nC_name : PySem.W.findIn K (.ref CC) "name" = some none)
    (nC_given_up : PySem.W.findIn K (.ref CC) "given_up" = some none)
    (gL : PySem.W.nsIn K mainGlobals "Letter" = some (some (.ref CL)))
    (pgL : PySem.W.plainGet K CL Str.empty = true)
    (hdL : PySem.W.hasDictIn K CL = true)
    (poL : PySem.W.plainOver K CL = true)
    (saL : PySem.W.findIn K (.ref CL) "__setattr__" = some (some (.builtin "object.__setattr__")))
    (mkL : PySem.W.makesIn K CL = true)
    (kcL : PySem.W.keepIn K (.ref CL) = true)
    (nL_sender : PySem.W.findIn K (.ref CL) "sender" = some none)
    (nL_receiver : PySem.W.findIn K (.ref CL) "receiver" = some none)
    (nL_known : PySem.W.findIn K (.ref CL) "known" = some none)
    (nL_count : PySem.W.findIn K (.ref CL) "count" = some none)
    (gN : PySem.W.nsIn K mainGlobals "Node" = some (some (.ref CN)))
    (pgN : PySem.W.plainGet K CN Str.empty = true)
    (hdN : PySem.W.hasDictIn K CN = true)
    (poN : PySem.W.plainOver K CN = true)
    (saN : PySem.W.findIn K (.ref CN) "__setattr__" = some (some (.builtin "object.__setattr__")))
    (mkN : PySem.W.makesIn K CN = true)
    (kcN : PySem.W.keepIn K (.ref CN) = true)
    (nN_number : PySem.W.findIn K (.ref CN) "number" = some none)
    (nN_count : PySem.W.findIn K (.ref CN) "count" = some none)
    (nN_known : PySem.W.findIn K (.ref CN) "known" = some none)
    (nN_reached : PySem.W.findIn K (.ref CN) "reached" = some none)
    (nN_losses : PySem.W.findIn K (.ref CN) "losses" = some none)
    (gW : PySem.W.nsIn K mainGlobals "World" = some (some (.ref CW)))
    (pgW : PySem.W.plainGet K CW Str.empty = true)
    (hdW : PySem.W.hasDictIn K CW = true)
    (poW : PySem.W.plainOver K CW = true)
    (saW : PySem.W.findIn K (.ref CW) "__setattr__" = some (some (.builtin "object.__setattr__")))
    (mkW : PySem.W.makesIn K CW = true)
    (kcW : PySem.W.keepIn K (.ref CW) = true)
    (nW_nodes : PySem.W.findIn K (.ref CW) "nodes" = some none)
    (nW_letters : PySem.W.findIn K (.ref CW) "letters" = some none)
    (a_ci : PySem.W.findIn K (.ref CC) "__init__" = some (some (.ref f_ci)))
    (i_ci : PySem.W.isFn K (.ref f_ci) = true)
    (l_ci : K.lookup f_ci = some ⟨oc_ci, od_ci, .func (PySem.W.fnOf "__init__" "Claim.__init__" (defArgs sCInit) (defBody sCInit) (defScope sCInit) .none kV_ci dc_ci pm_ci an_ci cd_ci ct_ci), sl_ci⟩)
    (c_ci : PySem.W.codeIn K cd_ci "Claim.__init__" = true)
    (k_ci : PySem.W.keepIn K (.ref f_ci) = true)
    (a_st : PySem.W.findIn K (.ref CC) "stamp" = some (some (.ref f_st)))
    (i_st : PySem.W.isFn K (.ref f_st) = true)
    (l_st : K.lookup f_st = some ⟨oc_st, od_st, .func (PySem.W.fnOf "stamp" "Claim.stamp" (defArgs sStamp) (defBody sStamp) (defScope sStamp) .none kV_st dc_st pm_st an_st cd_st ct_st), sl_st⟩)
    (c_st : PySem.W.codeIn K cd_st "Claim.stamp" = true)
    (k_st : PySem.W.keepIn K (.ref f_st) = true)
    (a_wh : PySem.W.findIn K (.ref CC) "when_given_up" = some (some (.ref f_wh)))
    (i_wh : PySem.W.isFn K (.ref f_wh) = true)
    (l_wh : K.lookup f_wh = some ⟨oc_wh, od_wh, .func (PySem.W.fnOf "when_given_up" "Claim.when_given_up" (defArgs sWhen) (defBody sWhen) (defScope sWhen) .none kV_wh dc_wh pm_wh an_wh cd_wh ct_wh), sl_wh⟩)
    (c_wh : PySem.W.codeIn K cd_wh "Claim.when_given_up" = true)
    (k_wh : PySem.W.keepIn K (.ref f_wh) = true)
    (a_li : PySem.W.findIn K (.ref CL) "__init__" = some (some (.ref f_li)))
    (i_li : PySem.W.isFn K (.ref f_li) = true)
    (l_li : K.lookup f_li = some ⟨oc_li, od_li, .func (PySem.W.fnOf "__init__" "Letter.__init__" (defArgs sLInit) (defBody sLInit) (defScope sLInit) .none kV_li dc_li pm_li an_li cd_li ct_li), sl_li⟩)
    (c_li : PySem.W.codeIn K cd_li "Letter.__init__" = true)
    (k_li : PySem.W.keepIn K (.ref f_li) = true)
    (a_ni : PySem.W.findIn K (.ref CN) "__init__" = some (some (.ref f_ni)))
    (i_ni : PySem.W.isFn K (.ref f_ni) = true)
    (l_ni : K.lookup f_ni = some ⟨oc_ni, od_ni, .func (PySem.W.fnOf "__init__" "Node.__init__" (defArgs sNInit) (defBody sNInit) (defScope sNInit) .none kV_ni dc_ni pm_ni an_ni cd_ni ct_ni), sl_ni⟩)
    (c_ni : PySem.W.codeIn K cd_ni "Node.__init__" = true)
    (k_ni : PySem.W.keepIn K (.ref f_ni) = true)
    (a_re : PySem.W.findIn K (.ref CN) "reaches" = some (some (.ref f_re)))
    (i_re : PySem.W.isFn K (.ref f_re) = true)
    (l_re : K.lookup f_re = some ⟨oc_re, od_re, .func (PySem.W.fnOf "reaches" "Node.reaches" (defArgs sReaches) (defBody sReaches) (defScope sReaches) .none kV_re dc_re pm_re an_re cd_re ct_re), sl_re⟩)
    (c_re : PySem.W.codeIn K cd_re "Node.reaches" = true)
    (k_re : PySem.W.keepIn K (.ref f_re) = true)
    (a_be : PySem.W.findIn K (.ref CN) "begin_to_reach" = some (some (.ref f_be)))
    (i_be : PySem.W.isFn K (.ref f_be) = true)
    (l_be : K.lookup f_be = some ⟨oc_be, od_be, .func (PySem.W.fnOf "begin_to_reach" "Node.begin_to_reach" (defArgs sBegin) (defBody sBegin) (defScope sBegin) .none kV_be dc_be pm_be an_be cd_be ct_be), sl_be⟩)
    (c_be : PySem.W.codeIn K cd_be "Node.begin_to_reach" = true)
    (k_be : PySem.W.keepIn K (.ref f_be) = true)
    (a_ce : PySem.W.findIn K (.ref CN) "cease_to_reach" = some (some (.ref f_ce)))
    (i_ce : PySem.W.isFn K (.ref f_ce) = true)
    (l_ce : K.lookup f_ce = some ⟨oc_ce, od_ce, .func (PySem.W.fnOf "cease_to_reach" "Node.cease_to_reach" (defArgs sCease) (defBody sCease) (defScope sCease) .none kV_ce dc_ce pm_ce an_ce cd_ce ct_ce), sl_ce⟩)
    (c_ce : PySem.W.codeIn K cd_ce "Node.cease_to_reach" = true)
    (k_ce : PySem.W.keepIn K (.ref f_ce) = true)
    (a_sd : PySem.W.findIn K (.ref CN) "stands" = some (some (.ref f_sd)))
    (i_sd : PySem.W.isFn K (.ref f_sd) = true)
    (l_sd : K.lookup f_sd = some ⟨oc_sd, od_sd, .func (PySem.W.fnOf "stands" "Node.stands" (defArgs sStands) (defBody sStands) (defScope sStands) .none kV_sd dc_sd pm_sd an_sd cd_sd ct_sd), sl_sd⟩)
    (c_sd : PySem.W.codeIn K cd_sd "Node.stands" = true)
    (k_sd : PySem.W.keepIn K (.ref f_sd) = true)
    (a_ho : PySem.W.findIn K (.ref CN) "holder" = some (some (.ref f_ho)))
    (i_ho : PySem.W.isFn K (.ref f_ho) = true)
    (l_ho : K.lookup f_ho = some ⟨oc_ho, od_ho, .func (PySem.W.fnOf "holder" "Node.holder" (defArgs sHolder) (defBody sHolder) (defScope sHolder) .none kV_ho dc_ho pm_ho an_ho cd_ho ct_ho), sl_ho⟩)
    (c_ho : PySem.W.codeIn K cd_ho "Node.holder" = true)
    (k_ho : PySem.W.keepIn K (.ref f_ho) = true)
    (a_ow : PySem.W.findIn K (.ref CN) "own_claims" = some (some (.ref f_ow)))
    (i_ow : PySem.W.isFn K (.ref f_ow) = true)
    (l_ow : K.lookup f_ow = some ⟨oc_ow, od_ow, .func (PySem.W.fnOf "own_claims" "Node.own_claims" (defArgs sOwn) (defBody sOwn) (defScope sOwn) .none kV_ow dc_ow pm_ow an_ow cd_ow ct_ow), sl_ow⟩)
    (c_ow : PySem.W.codeIn K cd_ow "Node.own_claims" = true)
    (k_ow : PySem.W.keepIn K (.ref f_ow) = true)
    (a_mk : PySem.W.findIn K (.ref CN) "make_claim" = some (some (.ref f_mk)))
    (i_mk : PySem.W.isFn K (.ref f_mk) = true)
    (l_mk : K.lookup f_mk = some ⟨oc_mk, od_mk, .func (PySem.W.fnOf "make_claim" "Node.make_claim" (defArgs sMake) (defBody sMake) (defScope sMake) .none kV_mk dc_mk pm_mk an_mk cd_mk ct_mk), sl_mk⟩)
    (c_mk : PySem.W.codeIn K cd_mk "Node.make_claim" = true)
    (k_mk : PySem.W.keepIn K (.ref f_mk) = true)
    (a_le : PySem.W.findIn K (.ref CN) "learn" = some (some (.ref f_le)))
    (i_le : PySem.W.isFn K (.ref f_le) = true)
    (l_le : K.lookup f_le = some ⟨oc_le, od_le, .func (PySem.W.fnOf "learn" "Node.learn" (defArgs sLearn) (defBody sLearn) (defScope sLearn) .none kV_le dc_le pm_le an_le cd_le ct_le), sl_le⟩)
    (c_le : PySem.W.codeIn K cd_le "Node.learn" = true)
    (k_le : PySem.W.keepIn K (.ref f_le) = true)
    (a_gi : PySem.W.findIn K (.ref CN) "give_up" = some (some (.ref f_gi)))
    (i_gi : PySem.W.isFn K (.ref f_gi) = true)
    (l_gi : K.lookup f_gi = some ⟨oc_gi, od_gi, .func (PySem.W.fnOf "give_up" "Node.give_up" (defArgs sGive) (defBody sGive) (defScope sGive) .none kV_gi dc_gi pm_gi an_gi cd_gi ct_gi), sl_gi⟩)
    (c_gi : PySem.W.codeIn K cd_gi "Node.give_up" = true)
    (k_gi : PySem.W.keepIn K (.ref f_gi) = true)
    (a_lo : PySem.W.findIn K (.ref CN) "look_through_own" = some (some (.ref f_lo)))
    (i_lo : PySem.W.isFn K (.ref f_lo) = true)
    (l_lo : K.lookup f_lo = some ⟨oc_lo, od_lo, .func (PySem.W.fnOf "look_through_own" "Node.look_through_own" (defArgs sLook) (defBody sLook) (defScope sLook) .none kV_lo dc_lo pm_lo an_lo cd_lo ct_lo), sl_lo⟩)
    (c_lo : PySem.W.codeIn K cd_lo "Node.look_through_own" = true)
    (k_lo : PySem.W.keepIn K (.ref f_lo) = true)
    (a_lf : PySem.W.findIn K (.ref CN) "losses_of" = some (some (.ref f_lf)))
    (i_lf : PySem.W.isFn K (.ref f_lf) = true)
    (l_lf : K.lookup f_lf = some ⟨oc_lf, od_lf, .func (PySem.W.fnOf "losses_of" "Node.losses_of" (defArgs sLosses) (defBody sLosses) (defScope sLosses) .none kV_lf dc_lf pm_lf an_lf cd_lf ct_lf), sl_lf⟩)
    (c_lf : PySem.W.codeIn K cd_lf "Node.losses_of" = true)
    (k_lf : PySem.W.keepIn K (.ref f_lf) = true)
    (a_wr : PySem.W.findIn K (.ref CN) "write_letter" = some (some (.ref f_wr)))
    (i_wr : PySem.W.isFn K (.ref f_wr) = true)
    (l_wr : K.lookup f_wr = some ⟨oc_wr, od_wr, .func (PySem.W.fnOf "write_letter" "Node.write_letter" (defArgs sWrite) (defBody sWrite) (defScope sWrite) .none kV_wr dc_wr pm_wr an_wr cd_wr ct_wr), sl_wr⟩)
    (c_wr : PySem.W.codeIn K cd_wr "Node.write_letter" = true)
    (k_wr : PySem.W.keepIn K (.ref f_wr) = true)
    (a_rc : PySem.W.findIn K (.ref CN) "receive" = some (some (.ref f_rc)))
    (i_rc : PySem.W.isFn K (.ref f_rc) = true)
    (l_rc : K.lookup f_rc = some ⟨oc_rc, od_rc, .func (PySem.W.fnOf "receive" "Node.receive" (defArgs sReceive) (defBody sReceive) (defScope sReceive) .none kV_rc dc_rc pm_rc an_rc cd_rc ct_rc), sl_rc⟩)
    (c_rc : PySem.W.codeIn K cd_rc "Node.receive" = true)
    (k_rc : PySem.W.keepIn K (.ref f_rc) = true)
    (a_wi : PySem.W.findIn K (.ref CW) "__init__" = some (some (.ref f_wi)))
    (i_wi : PySem.W.isFn K (.ref f_wi) = true)
    (l_wi : K.lookup f_wi = some ⟨oc_wi, od_wi, .func (PySem.W.fnOf "__init__" "World.__init__" (defArgs sWInit) (defBody sWInit) (defScope sWInit) .none kV_wi dc_wi pm_wi an_wi cd_wi ct_wi), sl_wi⟩)
    (c_wi : PySem.W.codeIn K cd_wi "World.__init__" = true)
    (k_wi : PySem.W.keepIn K (.ref f_wi) = true)
    (a_in : PySem.W.findIn K (.ref CW) "is_node" = some (some (.ref f_in)))
    (i_in : PySem.W.isFn K (.ref f_in) = true)
    (l_in : K.lookup f_in = some ⟨oc_in, od_in, .func (PySem.W.fnOf "is_node" "World.is_node" (defArgs sIsNode) (defBody sIsNode) (defScope sIsNode) .none kV_in dc_in pm_in an_in cd_in ct_in), sl_in⟩)
    (c_in : PySem.W.codeIn K cd_in "World.is_node" = true)
    (k_in : PySem.W.keepIn K (.ref f_in) = true)
    (a_ip : PySem.W.findIn K (.ref CW) "is_process" = some (some (.ref f_ip)))
    (i_ip : PySem.W.isFn K (.ref f_ip) = true)
    (l_ip : K.lookup f_ip = some ⟨oc_ip, od_ip, .func (PySem.W.fnOf "is_process" "World.is_process" (defArgs sIsProc) (defBody sIsProc) (defScope sIsProc) .none kV_ip dc_ip pm_ip an_ip cd_ip ct_ip), sl_ip⟩)
    (c_ip : PySem.W.codeIn K cd_ip "World.is_process" = true)
    (k_ip : PySem.W.keepIn K (.ref f_ip) = true)
    (a_il : PySem.W.findIn K (.ref CW) "is_letter" = some (some (.ref f_il)))
    (i_il : PySem.W.isFn K (.ref f_il) = true)
    (l_il : K.lookup f_il = some ⟨oc_il, od_il, .func (PySem.W.fnOf "is_letter" "World.is_letter" (defArgs sIsLetter) (defBody sIsLetter) (defScope sIsLetter) .none kV_il dc_il pm_il an_il cd_il ct_il), sl_il⟩)
    (c_il : PySem.W.codeIn K cd_il "World.is_letter" = true)
    (k_il : PySem.W.keepIn K (.ref f_il) = true)
    (a_tw : PySem.W.findIn K (.ref CW) "are_two_nodes" = some (some (.ref f_tw)))
    (i_tw : PySem.W.isFn K (.ref f_tw) = true)
    (l_tw : K.lookup f_tw = some ⟨oc_tw, od_tw, .func (PySem.W.fnOf "are_two_nodes" "World.are_two_nodes" (defArgs sTwo) (defBody sTwo) (defScope sTwo) .none kV_tw dc_tw pm_tw an_tw cd_tw ct_tw), sl_tw⟩)
    (c_tw : PySem.W.codeIn K cd_tw "World.are_two_nodes" = true)
    (k_tw : PySem.W.keepIn K (.ref f_tw) = true)
    (a_na : PySem.W.findIn K (.ref CW) "node_at" = some (some (.ref f_na)))
    (i_na : PySem.W.isFn K (.ref f_na) = true)
    (l_na : K.lookup f_na = some ⟨oc_na, od_na, .func (PySem.W.fnOf "node_at" "World.node_at" (defArgs sNodeAt) (defBody sNodeAt) (defScope sNodeAt) .none kV_na dc_na pm_na an_na cd_na ct_na), sl_na⟩)
    (c_na : PySem.W.codeIn K cd_na "World.node_at" = true)
    (k_na : PySem.W.keepIn K (.ref f_na) = true)
    (a_fu : PySem.W.findIn K (.ref CW) "is_full_of_letters" = some (some (.ref f_fu)))
    (i_fu : PySem.W.isFn K (.ref f_fu) = true)
    (l_fu : K.lookup f_fu = some ⟨oc_fu, od_fu, .func (PySem.W.fnOf "is_full_of_letters" "World.is_full_of_letters" (defArgs sFull) (defBody sFull) (defScope sFull) .none kV_fu dc_fu pm_fu an_fu cd_fu ct_fu), sl_fu⟩)
    (c_fu : PySem.W.codeIn K cd_fu "World.is_full_of_letters" = true)
    (k_fu : PySem.W.keepIn K (.ref f_fu) = true)
    (a_se : PySem.W.findIn K (.ref CW) "send_letter" = some (some (.ref f_se)))
    (i_se : PySem.W.isFn K (.ref f_se) = true)
    (l_se : K.lookup f_se = some ⟨oc_se, od_se, .func (PySem.W.fnOf "send_letter" "World.send_letter" (defArgs sSend) (defBody sSend) (defScope sSend) .none kV_se dc_se pm_se an_se cd_se ct_se), sl_se⟩)
    (c_se : PySem.W.codeIn K cd_se "World.send_letter" = true)
    (k_se : PySem.W.keepIn K (.ref f_se) = true)
    (a_de : PySem.W.findIn K (.ref CW) "deliver" = some (some (.ref f_de)))
    (i_de : PySem.W.isFn K (.ref f_de) = true)
    (l_de : K.lookup f_de = some ⟨oc_de, od_de, .func (PySem.W.fnOf "deliver" "World.deliver" (defArgs sDeliver) (defBody sDeliver) (defScope sDeliver) .none kV_de dc_de pm_de an_de cd_de ct_de), sl_de⟩)
    (c_de : PySem.W.codeIn K cd_de "World.deliver" = true)
    (k_de : PySem.W.keepIn K (.ref f_de) = true)
    (a_bw : PySem.W.findIn K (.ref CW) "begin" = some (some (.ref f_bw)))
    (i_bw : PySem.W.isFn K (.ref f_bw) = true)
    (l_bw : K.lookup f_bw = some ⟨oc_bw, od_bw, .func (PySem.W.fnOf "begin" "World.begin" (defArgs sBeginW) (defBody sBeginW) (defScope sBeginW) .none kV_bw dc_bw pm_bw an_bw cd_bw ct_bw), sl_bw⟩)
    (c_bw : PySem.W.codeIn K cd_bw "World.begin" = true)
    (k_bw : PySem.W.keepIn K (.ref f_bw) = true)
    (a_cl : PySem.W.findIn K (.ref CW) "claim" = some (some (.ref f_cl)))
    (i_cl : PySem.W.isFn K (.ref f_cl) = true)
    (l_cl : K.lookup f_cl = some ⟨oc_cl, od_cl, .func (PySem.W.fnOf "claim" "World.claim" (defArgs sClaim) (defBody sClaim) (defScope sClaim) .none kV_cl dc_cl pm_cl an_cl cd_cl ct_cl), sl_cl⟩)
    (c_cl : PySem.W.codeIn K cd_cl "World.claim" = true)
    (k_cl : PySem.W.keepIn K (.ref f_cl) = true)
    (a_fr : PySem.W.findIn K (.ref CW) "free" = some (some (.ref f_fr)))
    (i_fr : PySem.W.isFn K (.ref f_fr) = true)
    (l_fr : K.lookup f_fr = some ⟨oc_fr, od_fr, .func (PySem.W.fnOf "free" "World.free" (defArgs sFree) (defBody sFree) (defScope sFree) .none kV_fr dc_fr pm_fr an_fr cd_fr ct_fr), sl_fr⟩)
    (c_fr : PySem.W.codeIn K cd_fr "World.free" = true)
    (k_fr : PySem.W.keepIn K (.ref f_fr) = true)
    (a_di : PySem.W.findIn K (.ref CW) "dies" = some (some (.ref f_di)))
    (i_di : PySem.W.isFn K (.ref f_di) = true)
    (l_di : K.lookup f_di = some ⟨oc_di, od_di, .func (PySem.W.fnOf "dies" "World.dies" (defArgs sDies) (defBody sDies) (defScope sDies) .none kV_di dc_di pm_di an_di cd_di ct_di), sl_di⟩)
    (c_di : PySem.W.codeIn K cd_di "World.dies" = true)
    (k_di : PySem.W.keepIn K (.ref f_di) = true)
    (a_pa : PySem.W.findIn K (.ref CW) "part" = some (some (.ref f_pa)))
    (i_pa : PySem.W.isFn K (.ref f_pa) = true)
    (l_pa : K.lookup f_pa = some ⟨oc_pa, od_pa, .func (PySem.W.fnOf "part" "World.part" (defArgs sPart) (defBody sPart) (defScope sPart) .none kV_pa dc_pa pm_pa an_pa cd_pa ct_pa), sl_pa⟩)
    (c_pa : PySem.W.codeIn K cd_pa "World.part" = true)
    (k_pa : PySem.W.keepIn K (.ref f_pa) = true)
    (a_me : PySem.W.findIn K (.ref CW) "meet" = some (some (.ref f_me)))
    (i_me : PySem.W.isFn K (.ref f_me) = true)
    (l_me : K.lookup f_me = some ⟨oc_me, od_me, .func (PySem.W.fnOf "meet" "World.meet" (defArgs sMeet) (defBody sMeet) (defScope sMeet) .none kV_me dc_me pm_me an_me cd_me ct_me), sl_me⟩)
    (c_me : PySem.W.codeIn K cd_me "World.meet" = true)
    (k_me : PySem.W.keepIn K (.ref f_me) = true)
    (a_te : PySem.W.findIn K (.ref CW) "tell" = some (some (.ref f_te)))
    (i_te : PySem.W.isFn K (.ref f_te) = true)
    (l_te : K.lookup f_te = some ⟨oc_te, od_te, .func (PySem.W.fnOf "tell" "World.tell" (defArgs sTell) (defBody sTell) (defScope sTell) .none kV_te dc_te pm_te an_te cd_te ct_te), sl_te⟩)
    (c_te : PySem.W.codeIn K cd_te "World.tell" = true)
    (k_te : PySem.W.keepIn K (.ref f_te) = true)
    (a_tk : PySem.W.findIn K (.ref CW) "take" = some (some (.ref f_tk)))
    (i_tk : PySem.W.isFn K (.ref f_tk) = true)
    (l_tk : K.lookup f_tk = some ⟨oc_tk, od_tk, .func (PySem.W.fnOf "take" "World.take" (defArgs sTake) (defBody sTake) (defScope sTake) .none kV_tk dc_tk pm_tk an_tk cd_tk ct_tk), sl_tk⟩)
    (c_tk : PySem.W.codeIn K cd_tk "World.take" = true)
    (k_tk : PySem.W.keepIn K (.ref f_tk) = true)
    (a_ke : PySem.W.findIn K (.ref CW) "keep" = some (some (.ref f_ke)))
    (i_ke : PySem.W.isFn K (.ref f_ke) = true)
    (l_ke : K.lookup f_ke = some ⟨oc_ke, od_ke, .func (PySem.W.fnOf "keep" "World.keep" (defArgs sKeep) (defBody sKeep) (defScope sKeep) .none kV_ke dc_ke pm_ke an_ke cd_ke ct_ke), sl_ke⟩)
    (c_ke : PySem.W.codeIn K cd_ke "World.keep" = true)
    (k_ke : PySem.W.keepIn K (.ref f_ke) = true)
    (a_ls : PySem.W.findIn K (.ref CW) "lose" = some (some (.ref f_ls)))
    (i_ls : PySem.W.isFn K (.ref f_ls) = true)
    (l_ls : K.lookup f_ls = some ⟨oc_ls, od_ls, .func (PySem.W.fnOf "lose" "World.lose" (defArgs sLose) (defBody sLose) (defScope sLose) .none kV_ls dc_ls pm_ls an_ls cd_ls ct_ls), sl_ls⟩)
    (c_ls : PySem.W.codeIn K cd_ls "World.lose" = true)
    (k_ls : PySem.W.keepIn K (.ref f_ls) = true)
    (a_tu : PySem.W.findIn K (.ref CW) "turns" = some (some (.ref f_tu)))
    (i_tu : PySem.W.isFn K (.ref f_tu) = true)
    (l_tu : K.lookup f_tu = some ⟨oc_tu, od_tu, .func (PySem.W.fnOf "turns" "World.turns" (defArgs sTurns) (defBody sTurns) (defScope sTurns) .none kV_tu dc_tu pm_tu an_tu cd_tu ct_tu), sl_tu⟩)
    (c_tu : PySem.W.codeIn K cd_tu "World.turns" = true)
    (k_tu : PySem.W.keepIn K (.ref f_tu) = true)
    (a_wo : PySem.W.findIn K (.ref CW) "who" = some (some (.ref f_wo)))
    (i_wo : PySem.W.isFn K (.ref f_wo) = true)
    (l_wo : K.lookup f_wo = some ⟨oc_wo, od_wo, .func (PySem.W.fnOf "who" "World.who" (defArgs sWho) (defBody sWho) (defScope sWho) .none kV_wo dc_wo pm_wo an_wo cd_wo ct_wo), sl_wo⟩)
    (c_wo : PySem.W.codeIn K cd_wo "World.who" = true)
    (k_wo : PySem.W.keepIn K (.ref f_wo) = true)
    (a_nm : PySem.W.findIn K (.ref CW) "names" = some (some (.ref f_nm)))
    (i_nm : PySem.W.isFn K (.ref f_nm) = true)
    (l_nm : K.lookup f_nm = some ⟨oc_nm, od_nm, .func (PySem.W.fnOf "names" "World.names" (defArgs sNames) (defBody sNames) (defScope sNames) .none kV_nm dc_nm pm_nm an_nm cd_nm ct_nm), sl_nm⟩)
    (c_nm : PySem.W.codeIn K cd_nm "World.names" = true)
    (k_nm : PySem.W.keepIn K (.ref f_nm) = true)
    (a_lw : PySem.W.findIn K (.ref CW) "lost" = some (some (.ref f_lw)))
    (i_lw : PySem.W.isFn K (.ref f_lw) = true)
    (l_lw : K.lookup f_lw = some ⟨oc_lw, od_lw, .func (PySem.W.fnOf "lost" "World.lost" (defArgs sLostW) (defBody sLostW) (defScope sLostW) .none kV_lw dc_lw pm_lw an_lw cd_lw ct_lw), sl_lw⟩)
    (c_lw : PySem.W.codeIn K cd_lw "World.lost" = true)
    (k_lw : PySem.W.keepIn K (.ref f_lw) = true)
    (a_cw : PySem.W.findIn K (.ref CW) "claims" = some (some (.ref f_cw)))
    (i_cw : PySem.W.isFn K (.ref f_cw) = true)
    (l_cw : K.lookup f_cw = some ⟨oc_cw, od_cw, .func (PySem.W.fnOf "claims" "World.claims" (defArgs sClaimsW) (defBody sClaimsW) (defScope sClaimsW) .none kV_cw dc_cw pm_cw an_cw cd_cw ct_cw), sl_cw⟩)
    (c_cw : PySem.W.codeIn K cd_cw "World.claims" = true)
    (k_cw : PySem.W.keepIn K (.ref f_cw) = true)
    (a_ai : PySem.W.findIn K (.ref CW) "air" = some (some (.ref f_ai)))
    (i_ai : PySem.W.isFn K (.ref f_ai) = true)
    (l_ai : K.lookup f_ai = some ⟨oc_ai, od_ai, .func (PySem.W.fnOf "air" "World.air" (defArgs sAir) (defBody sAir) (defScope sAir) .none kV_ai dc_ai pm_ai an_ai cd_ai ct_ai), sl_ai⟩)
    (c_ai : PySem.W.codeIn K cd_ai "World.air" = true)
    (k_ai : PySem.W.keepIn K (.ref f_ai) = true)
    (a_an : PySem.W.nsIn K mainGlobals "answer_of_nodes" = some (some (.ref f_an)))
    (l_an : K.lookup f_an = some ⟨oc_an, od_an, .func (PySem.W.fnOf "answer_of_nodes" "answer_of_nodes" (defArgs sNodesOf) (defBody sNodesOf) (defScope sNodesOf) .none kV_an dc_an pm_an an_an cd_an ct_an), sl_an⟩)
    (c_an : PySem.W.codeIn K cd_an "answer_of_nodes" = true)
    (k_an : PySem.W.keepIn K (.ref f_an) = true)
    (a_al : PySem.W.nsIn K mainGlobals "answer_of_letters" = some (some (.ref f_al)))
    (l_al : K.lookup f_al = some ⟨oc_al, od_al, .func (PySem.W.fnOf "answer_of_letters" "answer_of_letters" (defArgs sLettersOf) (defBody sLettersOf) (defScope sLettersOf) .none kV_al dc_al pm_al an_al cd_al ct_al), sl_al⟩)
    (c_al : PySem.W.codeIn K cd_al "answer_of_letters" = true)
    (k_al : PySem.W.keepIn K (.ref f_al) = true)
    (a_aq : PySem.W.nsIn K mainGlobals "answer_of_questions" = some (some (.ref f_aq)))
    (l_aq : K.lookup f_aq = some ⟨oc_aq, od_aq, .func (PySem.W.fnOf "answer_of_questions" "answer_of_questions" (defArgs sQuestionsOf) (defBody sQuestionsOf) (defScope sQuestionsOf) .none kV_aq dc_aq pm_aq an_aq cd_aq ct_aq), sl_aq⟩)
    (c_aq : PySem.W.codeIn K cd_aq "answer_of_questions" = true)
    (k_aq : PySem.W.keepIn K (.ref f_aq) = true)
    (a_aw : PySem.W.nsIn K mainGlobals "answer" = some (some (.ref f_aw)))
    (l_aw : K.lookup f_aw = some ⟨oc_aw, od_aw, .func (PySem.W.fnOf "answer" "answer" (defArgs sAnswer) (defBody sAnswer) (defScope sAnswer) .none kV_aw dc_aw pm_aw an_aw cd_aw ct_aw), sl_aw⟩)
    (c_aw : PySem.W.codeIn K cd_aw "answer" = true)
    (k_aw : PySem.W.keepIn K (.ref f_aw) = true)
    (a_as : PySem.W.nsIn K mainGlobals "answers" = some (some (.ref f_as)))
    (l_as : K.lookup f_as = some ⟨oc_as, od_as, .func (PySem.W.fnOf "answers" "answers" (defArgs sAnswers) (defBody sAnswers) (defScope sAnswers) .none kV_as dc_as pm_as an_as cd_as ct_as), sl_as⟩)
    (c_as : PySem.W.codeIn K cd_as "answers" = true)
    (k_as : PySem.W.keepIn K (.ref f_as) = true)
    (z_len : PySem.W.nsIn K mainGlobals "len" = some none)
    (z_list : PySem.W.nsIn K mainGlobals "list" = some none)
    (z_range : PySem.W.nsIn K mainGlobals "range" = some none)
    (z_max : PySem.W.nsIn K mainGlobals "max" = some none)
    (v_NODES_AT_FIRST : PySem.W.nsIn K mainGlobals "NODES_AT_FIRST" = some (some (.int (3) t_NODES_AT_FIRST)))
    (v_LEAST_NODES : PySem.W.nsIn K mainGlobals "LEAST_NODES" = some (some (.int (2) t_LEAST_NODES)))
    (v_MOST_NODES : PySem.W.nsIn K mainGlobals "MOST_NODES" = some (some (.int (4) t_MOST_NODES)))
    (v_LAST_PROCESS : PySem.W.nsIn K mainGlobals "LAST_PROCESS" = some (some (.int (9) t_LAST_PROCESS)))
    (v_LAST_NAME : PySem.W.nsIn K mainGlobals "LAST_NAME" = some (some (.int (9) t_LAST_NAME)))
    (v_MOST_CLAIMS : PySem.W.nsIn K mainGlobals "MOST_CLAIMS" = some (some (.int (40) t_MOST_CLAIMS)))
    (v_MOST_LETTERS : PySem.W.nsIn K mainGlobals "MOST_LETTERS" = some (some (.int (100) t_MOST_LETTERS)))
    (v_MOST_TURNS : PySem.W.nsIn K mainGlobals "MOST_TURNS" = some (some (.int (500) t_MOST_TURNS)))
    (v_NO_SUCH : PySem.W.nsIn K mainGlobals "NO_SUCH" = some (some (.int (-1) t_NO_SUCH)))
    (v_NOT_REACHED : PySem.W.nsIn K mainGlobals "NOT_REACHED" = some (some (.int (-4) t_NOT_REACHED)))
    (v_NO_LETTER : PySem.W.nsIn K mainGlobals "NO_LETTER" = some (some (.int (-5) t_NO_LETTER)))
    (v_FULL : PySem.W.nsIn K mainGlobals "FULL" = some (some (.int (-6) t_FULL)))
    (v_BEGIN : PySem.W.nsIn K mainGlobals "BEGIN" = some (some (.int (0) t_BEGIN)))
    (v_CLAIM : PySem.W.nsIn K mainGlobals "CLAIM" = some (some (.int (1) t_CLAIM)))
    (v_FREE : PySem.W.nsIn K mainGlobals "FREE" = some (some (.int (2) t_FREE)))
    (v_DIES : PySem.W.nsIn K mainGlobals "DIES" = some (some (.int (3) t_DIES)))
    (v_PART : PySem.W.nsIn K mainGlobals "PART" = some (some (.int (4) t_PART)))
    (v_MEET : PySem.W.nsIn K mainGlobals "MEET" = some (some (.int (5) t_MEET)))
    (v_TELL : PySem.W.nsIn K mainGlobals "TELL" = some (some (.int (6) t_TELL)))
    (v_TAKE : PySem.W.nsIn K mainGlobals "TAKE" = some (some (.int (7) t_TAKE)))
    (v_KEEP : PySem.W.nsIn K mainGlobals "KEEP" = some (some (.int (8) t_KEEP)))
    (v_LOSE : PySem.W.nsIn K mainGlobals "LOSE" = some (some (.int (9) t_LOSE)))
    (v_TURNS : PySem.W.nsIn K mainGlobals "TURNS" = some (some (.int (10) t_TURNS)))
    (v_WHO : PySem.W.nsIn K mainGlobals "WHO" = some (some (.int (11) t_WHO)))
    (v_NAMES : PySem.W.nsIn K mainGlobals "NAMES" = some (some (.int (12) t_NAMES)))
    (v_LOST : PySem.W.nsIn K mainGlobals "LOST" = some (some (.int (13) t_LOST)))
    (v_CLAIMS : PySem.W.nsIn K mainGlobals "CLAIMS" = some (some (.int (14) t_CLAIMS)))
    (g_nb : PySem.W.nsIn K mainGlobals "NUMBERS_BEHIND" = some (some (.ref nb)))
    (l_nb : K.lookup nb = some ⟨.type "tuple", nbd, .seq nbi nbn, nbs⟩)
    (w_nb : nbi.toList.map intOf = NN.behind.map fun (n : Nat) => some (n : Int))
    : ∃ fd : FuncData, (∀ (s : Shared) (us : List Value), us.length = (["calls"] : List Str).length → BindsTo s fd ⟨us, []⟩ ((["calls"] : List Str).zip us)) ∧ ∀ base : Heap, K.In base → base.Ns mainGlobals mg → FnOk P w K mg base CX0 10 fa fd ["calls"] (spAns K) := by
  have e := hfa.symm.trans (PySem.W.mg_of X G a_as)
  cases e
  have hz : nbi.size ≤ sizeLine := by
    have e := congrArg List.length w_nb
    simp only [List.length_map, Array.length_toList] at e
    rw [e]
    decide
  have T : Txt K mg CC CL CN CW := ⟨⟨pgC, hdC, poC, saC⟩, ⟨pgL, hdL, poL, saL⟩, ⟨pgN, hdN, poN, saN⟩, ⟨pgW, hdW, poW, saW⟩, nC_count, nC_node, nC_process, nC_name, nC_given_up, nL_sender, nL_receiver, nL_known, nL_count, nN_number, nN_count, nN_known, nN_reached, nN_losses, nW_nodes, nW_letters, PySem.W.mg_of X G gC, PySem.W.mg_of X G gL, PySem.W.mg_of X G gN, PySem.W.mg_of X G gW, PySem.W.mg_none_of X G z_len, PySem.W.mg_none_of X G z_list, PySem.W.mg_none_of X G z_range, PySem.W.mg_none_of X G z_max, ⟨_, PySem.W.mg_of X G v_NODES_AT_FIRST⟩, ⟨_, PySem.W.mg_of X G v_LEAST_NODES⟩, ⟨_, PySem.W.mg_of X G v_MOST_NODES⟩, ⟨_, PySem.W.mg_of X G v_LAST_PROCESS⟩, ⟨_, PySem.W.mg_of X G v_LAST_NAME⟩, ⟨_, PySem.W.mg_of X G v_MOST_CLAIMS⟩, ⟨_, PySem.W.mg_of X G v_MOST_LETTERS⟩, ⟨_, PySem.W.mg_of X G v_MOST_TURNS⟩, ⟨_, PySem.W.mg_of X G v_NO_SUCH⟩, ⟨_, PySem.W.mg_of X G v_NOT_REACHED⟩, ⟨_, PySem.W.mg_of X G v_NO_LETTER⟩, ⟨_, PySem.W.mg_of X G v_FULL⟩, ⟨_, PySem.W.mg_of X G v_BEGIN⟩, ⟨_, PySem.W.mg_of X G v_CLAIM⟩, ⟨_, PySem.W.mg_of X G v_FREE⟩, ⟨_, PySem.W.mg_of X G v_DIES⟩, ⟨_, PySem.W.mg_of X G v_PART⟩, ⟨_, PySem.W.mg_of X G v_MEET⟩, ⟨_, PySem.W.mg_of X G v_TELL⟩, ⟨_, PySem.W.mg_of X G v_TAKE⟩, ⟨_, PySem.W.mg_of X G v_KEEP⟩, ⟨_, PySem.W.mg_of X G v_LOSE⟩, ⟨_, PySem.W.mg_of X G v_TURNS⟩, ⟨_, PySem.W.mg_of X G v_WHO⟩, ⟨_, PySem.W.mg_of X G v_NAMES⟩, ⟨_, PySem.W.mg_of X G v_LOST⟩, ⟨_, PySem.W.mg_of X G v_CLAIMS⟩, ⟨nb, PySem.W.mg_of X G g_nb, fun H => .inr ⟨_, nbi, nbn, l_nb, rfl, rfl, hz, vals_of w_nb⟩⟩⟩
  have F_ci := fun_mk (st := sCInit) l_ci c_ci k_ci
  have b_ci := F_ci.binds (ps := ["self", "count", "node", "process", "name", "given_up"]) fun _ _ _ _ _ _ us hl => match us, hl with | [_, _, _, _, _, _], _ => rfl
  have M_ci : Mk K CC f_ci := ⟨mkC, a_ci, i_ci, kcC⟩
  have F_st := fun_mk (st := sStamp) l_st c_st k_st
  have b_st := F_st.binds (ps := ["self"]) fun _ _ _ _ _ _ us hl => match us, hl with | [_], _ => rfl
  have m_st : Meth K CC "stamp" f_st := ⟨a_st, i_st, k_st⟩
  have F_wh := fun_mk (st := sWhen) l_wh c_wh k_wh
  have b_wh := F_wh.binds (ps := ["self"]) fun _ _ _ _ _ _ us hl => match us, hl with | [_], _ => rfl
  have m_wh : Meth K CC "when_given_up" f_wh := ⟨a_wh, i_wh, k_wh⟩
  have F_li := fun_mk (st := sLInit) l_li c_li k_li
  have b_li := F_li.binds (ps := ["self", "sender", "receiver", "known", "count"]) fun _ _ _ _ _ _ us hl => match us, hl with | [_, _, _, _, _], _ => rfl
  have M_li : Mk K CL f_li := ⟨mkL, a_li, i_li, kcL⟩
  have F_ni := fun_mk (st := sNInit) l_ni c_ni k_ni
  have b_ni := F_ni.binds (ps := ["self", "number", "nodes"]) fun _ _ _ _ _ _ us hl => match us, hl with | [_, _, _], _ => rfl
  have M_ni : Mk K CN f_ni := ⟨mkN, a_ni, i_ni, kcN⟩
  have F_re := fun_mk (st := sReaches) l_re c_re k_re
  have b_re := F_re.binds (ps := ["self", "other"]) fun _ _ _ _ _ _ us hl => match us, hl with | [_, _], _ => rfl
  have m_re : Meth K CN "reaches" f_re := ⟨a_re, i_re, k_re⟩
  have F_be := fun_mk (st := sBegin) l_be c_be k_be
  have b_be := F_be.binds (ps := ["self", "other"]) fun _ _ _ _ _ _ us hl => match us, hl with | [_, _], _ => rfl
  have m_be : Meth K CN "begin_to_reach" f_be := ⟨a_be, i_be, k_be⟩
  have F_ce := fun_mk (st := sCease) l_ce c_ce k_ce
  have b_ce := F_ce.binds (ps := ["self", "other"]) fun _ _ _ _ _ _ us hl => match us, hl with | [_, _], _ => rfl
  have m_ce : Meth K CN "cease_to_reach" f_ce := ⟨a_ce, i_ce, k_ce⟩
  have F_sd := fun_mk (st := sStands) l_sd c_sd k_sd
  have b_sd := F_sd.binds (ps := ["self", "claim"]) fun _ _ _ _ _ _ us hl => match us, hl with | [_, _], _ => rfl
  have m_sd : Meth K CN "stands" f_sd := ⟨a_sd, i_sd, k_sd⟩
  have F_ho := fun_mk (st := sHolder) l_ho c_ho k_ho
  have b_ho := F_ho.binds (ps := ["self", "name"]) fun _ _ _ _ _ _ us hl => match us, hl with | [_, _], _ => rfl
  have m_ho : Meth K CN "holder" f_ho := ⟨a_ho, i_ho, k_ho⟩
  have F_ow := fun_mk (st := sOwn) l_ow c_ow k_ow
  have b_ow := F_ow.binds (ps := ["self"]) fun _ _ _ _ _ _ us hl => match us, hl with | [_], _ => rfl
  have m_ow : Meth K CN "own_claims" f_ow := ⟨a_ow, i_ow, k_ow⟩
  have F_mk := fun_mk (st := sMake) l_mk c_mk k_mk
  have b_mk := F_mk.binds (ps := ["self", "process", "name"]) fun _ _ _ _ _ _ us hl => match us, hl with | [_, _, _], _ => rfl
  have m_mk : Meth K CN "make_claim" f_mk := ⟨a_mk, i_mk, k_mk⟩
  have F_le := fun_mk (st := sLearn) l_le c_le k_le
  have b_le := F_le.binds (ps := ["self", "claim"]) fun _ _ _ _ _ _ us hl => match us, hl with | [_, _], _ => rfl
  have m_le : Meth K CN "learn" f_le := ⟨a_le, i_le, k_le⟩
  have F_gi := fun_mk (st := sGive) l_gi c_gi k_gi
  have b_gi := F_gi.binds (ps := ["self", "process", "names"]) fun _ _ _ _ _ _ us hl => match us, hl with | [_, _, _], _ => rfl
  have m_gi : Meth K CN "give_up" f_gi := ⟨a_gi, i_gi, k_gi⟩
  have F_lo := fun_mk (st := sLook) l_lo c_lo k_lo
  have b_lo := F_lo.binds (ps := ["self"]) fun _ _ _ _ _ _ us hl => match us, hl with | [_], _ => rfl
  have m_lo : Meth K CN "look_through_own" f_lo := ⟨a_lo, i_lo, k_lo⟩
  have F_lf := fun_mk (st := sLosses) l_lf c_lf k_lf
  have b_lf := F_lf.binds (ps := ["self", "process"]) fun _ _ _ _ _ _ us hl => match us, hl with | [_, _], _ => rfl
  have m_lf : Meth K CN "losses_of" f_lf := ⟨a_lf, i_lf, k_lf⟩
  have F_wr := fun_mk (st := sWrite) l_wr c_wr k_wr
  have b_wr := F_wr.binds (ps := ["self", "receiver"]) fun _ _ _ _ _ _ us hl => match us, hl with | [_, _], _ => rfl
  have m_wr : Meth K CN "write_letter" f_wr := ⟨a_wr, i_wr, k_wr⟩
  have F_rc := fun_mk (st := sReceive) l_rc c_rc k_rc
  have b_rc := F_rc.binds (ps := ["self", "letter"]) fun _ _ _ _ _ _ us hl => match us, hl with | [_, _], _ => rfl
  have m_rc : Meth K CN "receive" f_rc := ⟨a_rc, i_rc, k_rc⟩
  have F_wi := fun_mk (st := sWInit) l_wi c_wi k_wi
  have b_wi := F_wi.binds (ps := ["self"]) fun _ _ _ _ _ _ us hl => match us, hl with | [_], _ => rfl
  have M_wi : Mk K CW f_wi := ⟨mkW, a_wi, i_wi, kcW⟩
  have F_in := fun_mk (st := sIsNode) l_in c_in k_in
  have b_in := F_in.binds (ps := ["self", "n"]) fun _ _ _ _ _ _ us hl => match us, hl with | [_, _], _ => rfl
  have m_in : Meth K CW "is_node" f_in := ⟨a_in, i_in, k_in⟩
  have F_ip := fun_mk (st := sIsProc) l_ip c_ip k_ip
  have b_ip := F_ip.binds (ps := ["self", "n", "p"]) fun _ _ _ _ _ _ us hl => match us, hl with | [_, _, _], _ => rfl
  have m_ip : Meth K CW "is_process" f_ip := ⟨a_ip, i_ip, k_ip⟩
  have F_il := fun_mk (st := sIsLetter) l_il c_il k_il
  have b_il := F_il.binds (ps := ["self", "k"]) fun _ _ _ _ _ _ us hl => match us, hl with | [_, _], _ => rfl
  have m_il : Meth K CW "is_letter" f_il := ⟨a_il, i_il, k_il⟩
  have F_tw := fun_mk (st := sTwo) l_tw c_tw k_tw
  have b_tw := F_tw.binds (ps := ["self", "n", "m"]) fun _ _ _ _ _ _ us hl => match us, hl with | [_, _, _], _ => rfl
  have m_tw : Meth K CW "are_two_nodes" f_tw := ⟨a_tw, i_tw, k_tw⟩
  have F_na := fun_mk (st := sNodeAt) l_na c_na k_na
  have b_na := F_na.binds (ps := ["self", "n"]) fun _ _ _ _ _ _ us hl => match us, hl with | [_, _], _ => rfl
  have m_na : Meth K CW "node_at" f_na := ⟨a_na, i_na, k_na⟩
  have F_fu := fun_mk (st := sFull) l_fu c_fu k_fu
  have b_fu := F_fu.binds (ps := ["self"]) fun _ _ _ _ _ _ us hl => match us, hl with | [_], _ => rfl
  have m_fu : Meth K CW "is_full_of_letters" f_fu := ⟨a_fu, i_fu, k_fu⟩
  have F_se := fun_mk (st := sSend) l_se c_se k_se
  have b_se := F_se.binds (ps := ["self", "n", "m"]) fun _ _ _ _ _ _ us hl => match us, hl with | [_, _, _], _ => rfl
  have m_se : Meth K CW "send_letter" f_se := ⟨a_se, i_se, k_se⟩
  have F_de := fun_mk (st := sDeliver) l_de c_de k_de
  have b_de := F_de.binds (ps := ["self", "letter"]) fun _ _ _ _ _ _ us hl => match us, hl with | [_, _], _ => rfl
  have m_de : Meth K CW "deliver" f_de := ⟨a_de, i_de, k_de⟩
  have F_bw := fun_mk (st := sBeginW) l_bw c_bw k_bw
  have b_bw := F_bw.binds (ps := ["self", "n"]) fun _ _ _ _ _ _ us hl => match us, hl with | [_, _], _ => rfl
  have m_bw : Meth K CW "begin" f_bw := ⟨a_bw, i_bw, k_bw⟩
  have F_cl := fun_mk (st := sClaim) l_cl c_cl k_cl
  have b_cl := F_cl.binds (ps := ["self", "n", "p", "name"]) fun _ _ _ _ _ _ us hl => match us, hl with | [_, _, _, _], _ => rfl
  have m_cl : Meth K CW "claim" f_cl := ⟨a_cl, i_cl, k_cl⟩
  have F_fr := fun_mk (st := sFree) l_fr c_fr k_fr
  have b_fr := F_fr.binds (ps := ["self", "n", "p", "name"]) fun _ _ _ _ _ _ us hl => match us, hl with | [_, _, _, _], _ => rfl
  have m_fr : Meth K CW "free" f_fr := ⟨a_fr, i_fr, k_fr⟩
  have F_di := fun_mk (st := sDies) l_di c_di k_di
  have b_di := F_di.binds (ps := ["self", "n", "p"]) fun _ _ _ _ _ _ us hl => match us, hl with | [_, _, _], _ => rfl
  have m_di : Meth K CW "dies" f_di := ⟨a_di, i_di, k_di⟩
  have F_pa := fun_mk (st := sPart) l_pa c_pa k_pa
  have b_pa := F_pa.binds (ps := ["self", "n", "m"]) fun _ _ _ _ _ _ us hl => match us, hl with | [_, _, _], _ => rfl
  have m_pa : Meth K CW "part" f_pa := ⟨a_pa, i_pa, k_pa⟩
  have F_me := fun_mk (st := sMeet) l_me c_me k_me
  have b_me := F_me.binds (ps := ["self", "n", "m"]) fun _ _ _ _ _ _ us hl => match us, hl with | [_, _, _], _ => rfl
  have m_me : Meth K CW "meet" f_me := ⟨a_me, i_me, k_me⟩
  have F_te := fun_mk (st := sTell) l_te c_te k_te
  have b_te := F_te.binds (ps := ["self", "n", "m"]) fun _ _ _ _ _ _ us hl => match us, hl with | [_, _, _], _ => rfl
  have m_te : Meth K CW "tell" f_te := ⟨a_te, i_te, k_te⟩
  have F_tk := fun_mk (st := sTake) l_tk c_tk k_tk
  have b_tk := F_tk.binds (ps := ["self", "k"]) fun _ _ _ _ _ _ us hl => match us, hl with | [_, _], _ => rfl
  have m_tk : Meth K CW "take" f_tk := ⟨a_tk, i_tk, k_tk⟩
  have F_ke := fun_mk (st := sKeep) l_ke c_ke k_ke
  have b_ke := F_ke.binds (ps := ["self", "k"]) fun _ _ _ _ _ _ us hl => match us, hl with | [_, _], _ => rfl
  have m_ke : Meth K CW "keep" f_ke := ⟨a_ke, i_ke, k_ke⟩
  have F_ls := fun_mk (st := sLose) l_ls c_ls k_ls
  have b_ls := F_ls.binds (ps := ["self", "k"]) fun _ _ _ _ _ _ us hl => match us, hl with | [_, _], _ => rfl
  have m_ls : Meth K CW "lose" f_ls := ⟨a_ls, i_ls, k_ls⟩
  have F_tu := fun_mk (st := sTurns) l_tu c_tu k_tu
  have b_tu := F_tu.binds (ps := ["self", "n"]) fun _ _ _ _ _ _ us hl => match us, hl with | [_, _], _ => rfl
  have m_tu : Meth K CW "turns" f_tu := ⟨a_tu, i_tu, k_tu⟩
  have F_wo := fun_mk (st := sWho) l_wo c_wo k_wo
  have b_wo := F_wo.binds (ps := ["self", "n", "name"]) fun _ _ _ _ _ _ us hl => match us, hl with | [_, _, _], _ => rfl
  have m_wo : Meth K CW "who" f_wo := ⟨a_wo, i_wo, k_wo⟩
  have F_nm := fun_mk (st := sNames) l_nm c_nm k_nm
  have b_nm := F_nm.binds (ps := ["self", "n"]) fun _ _ _ _ _ _ us hl => match us, hl with | [_, _], _ => rfl
  have m_nm : Meth K CW "names" f_nm := ⟨a_nm, i_nm, k_nm⟩
  have F_lw := fun_mk (st := sLostW) l_lw c_lw k_lw
  have b_lw := F_lw.binds (ps := ["self", "n", "p"]) fun _ _ _ _ _ _ us hl => match us, hl with | [_, _, _], _ => rfl
  have m_lw : Meth K CW "lost" f_lw := ⟨a_lw, i_lw, k_lw⟩
  have F_cw := fun_mk (st := sClaimsW) l_cw c_cw k_cw
  have b_cw := F_cw.binds (ps := ["self", "n"]) fun _ _ _ _ _ _ us hl => match us, hl with | [_, _], _ => rfl
  have m_cw : Meth K CW "claims" f_cw := ⟨a_cw, i_cw, k_cw⟩
  have F_ai := fun_mk (st := sAir) l_ai c_ai k_ai
  have b_ai := F_ai.binds (ps := ["self"]) fun _ _ _ _ _ _ us hl => match us, hl with | [_], _ => rfl
  have m_ai : Meth K CW "air" f_ai := ⟨a_ai, i_ai, k_ai⟩
  have F_an := fun_mk (st := sNodesOf) l_an c_an k_an
  have b_an := F_an.binds (ps := ["world", "call", "numbers"]) fun _ _ _ _ _ _ us hl => match us, hl with | [_, _, _], _ => rfl
  have F_al := fun_mk (st := sLettersOf) l_al c_al k_al
  have b_al := F_al.binds (ps := ["world", "call", "numbers"]) fun _ _ _ _ _ _ us hl => match us, hl with | [_, _, _], _ => rfl
  have F_aq := fun_mk (st := sQuestionsOf) l_aq c_aq k_aq
  have b_aq := F_aq.binds (ps := ["world", "call", "numbers"]) fun _ _ _ _ _ _ us hl => match us, hl with | [_, _, _], _ => rfl
  have F_aw := fun_mk (st := sAnswer) l_aw c_aw k_aw
  have b_aw := F_aw.binds (ps := ["world", "call", "numbers"]) fun _ _ _ _ _ _ us hl => match us, hl with | [_, _, _], _ => rfl
  have F_as := fun_mk (st := sAnswers) l_as c_as k_as
  have b_as := F_as.binds (ps := ["calls"]) fun _ _ _ _ _ _ us hl => match us, hl with | [_], _ => rfl
  refine ⟨PySem.W.fnOf "answers" "answers" (defArgs sAnswers) (defBody sAnswers) (defScope sAnswers) .none kV_as dc_as pm_as an_as cd_as ct_as, fun s us hu => match us, hu with | [_], _ => .of_eq rfl, fun base _ _ => ?_⟩
  have G_ci := ok_cinit (P := P) (w := w) (base := base) F_ci T
  have G_st := ok_stamp (P := P) (w := w) (base := base) F_st T
  have G_wh := ok_when (P := P) (w := w) (base := base) F_wh T M_ci F_ci b_ci
  have G_li := ok_linit (P := P) (w := w) (base := base) F_li T
  have G_ni := ok_ninit (P := P) (w := w) (base := base) F_ni T
  have G_re := ok_reaches (P := P) (w := w) (base := base) F_re T
  have G_be := ok_begin (P := P) (w := w) (base := base) F_be T
  have G_ce := ok_cease (P := P) (w := w) (base := base) F_ce T
  have G_sd := ok_stands (P := P) (w := w) (base := base) F_sd T F_re b_re m_re
  have G_ho := ok_holder F_ho T G_sd b_sd m_sd
  have G_ow := ok_own (P := P) (w := w) (base := base) F_ow T
  have G_le := ok_learn F_le T G_st b_st m_st
  have G_mk := ok_make F_mk T M_ci G_ci b_ci G_le b_le m_le
  have G_gi := ok_give F_gi T G_ow b_ow m_ow G_le b_le m_le G_wh b_wh m_wh
  have G_lo := ok_look F_lo T G_ow b_ow m_ow G_le b_le m_le G_wh b_wh m_wh G_ho b_ho m_ho G_st b_st m_st
  have G_wr := ok_write F_wr T M_li G_li b_li
  have G_rc := ok_receive F_rc T G_le b_le m_le G_lo b_lo m_lo
  have G_in := ok_isNode (P := P) (w := w) (base := base) F_in T
  have G_ip := ok_isProc F_ip T G_in b_in m_in
  have G_tw := ok_two F_tw T G_in b_in m_in
  have G_na := ok_nodeAt (P := P) (w := w) (base := base) F_na T
  have G_fu := ok_full (P := P) (w := w) (base := base) F_fu T
  have G_se := ok_send F_se T G_na b_na m_na G_wr b_wr m_wr
  have G_bw := ok_beginW F_bw T M_ni G_ni b_ni
  have G_wi := ok_winit F_wi T G_bw b_bw m_bw
  have G_cl := ok_claim F_cl T G_ip b_ip m_ip G_na b_na m_na G_ho b_ho m_ho G_mk b_mk m_mk
  have G_fr := ok_free F_fr T G_ip b_ip m_ip G_na b_na m_na G_gi b_gi m_gi
  have G_di := ok_dies F_di T G_ip b_ip m_ip G_na b_na m_na G_gi b_gi m_gi
  have G_pa := ok_part F_pa T G_tw b_tw m_tw G_na b_na m_na G_re b_re m_re G_ce b_ce m_ce
  have G_me := ok_meet F_me T G_tw b_tw m_tw G_na b_na m_na G_re b_re m_re G_be b_be m_be G_lo b_lo m_lo G_fu b_fu m_fu G_se b_se m_se
  have G_te := ok_tell F_te T G_tw b_tw m_tw G_na b_na m_na G_re b_re m_re G_fu b_fu m_fu G_se b_se m_se
  have G_il := ok_isLetter (P := P) (w := w) (base := base) F_il T
  have G_de := ok_deliver F_de T G_na b_na m_na G_rc b_rc m_rc
  have G_tk := ok_take F_tk T G_il b_il m_il G_de b_de m_de
  have G_ke := ok_keep F_ke T G_il b_il m_il G_de b_de m_de
  have G_ls := ok_lose F_ls T G_il b_il m_il
  have G_tu := ok_turns F_tu T G_de b_de m_de
  have G_wo := ok_who F_wo T G_in b_in m_in G_na b_na m_na G_ho b_ho m_ho
  have G_nm := ok_names F_nm T G_in b_in m_in G_na b_na m_na G_ho b_ho m_ho
  have G_lf := ok_losses (P := P) (w := w) (base := base) F_lf T
  have G_lw := ok_lostW F_lw T G_ip b_ip m_ip G_na b_na m_na G_lf b_lf m_lf
  have G_cw := ok_claims F_cw T G_in b_in m_in G_na b_na m_na
  have G_ai := ok_air (P := P) (w := w) (base := base) F_ai T
  have G_an := ok_nodesOf F_an T G_bw b_bw m_bw G_cl b_cl m_cl G_fr b_fr m_fr G_di b_di m_di G_pa b_pa m_pa G_me b_me m_me G_te b_te m_te
  have G_al := ok_lettersOf F_al T G_tk b_tk m_tk G_ke b_ke m_ke G_ls b_ls m_ls G_tu b_tu m_tu
  have G_aq := ok_questionsOf F_aq T G_wo b_wo m_wo G_nm b_nm m_nm G_lw b_lw m_lw G_cw b_cw m_cw G_ai b_ai m_ai
  have G_aw := ok_answer F_aw T G_an b_an (PySem.W.mg_of X G a_an) k_an G_al b_al (PySem.W.mg_of X G a_al) k_al G_aq b_aq (PySem.W.mg_of X G a_aq) k_aq
  exact ok_answers F_as T M_wi G_wi b_wi G_aw b_aw (PySem.W.mg_of X G a_aw) k_aw
end NH
open PySem PySem.W PyProof.Rows
set_option maxRecDepth 100000 in
set_option maxHeartbeats 0 in
theorem PySem.Challenge.cw_nodenames_s01_answers_holds : PySem.Challenge.rw_nodenames_s01_answers.Holds := by
  w_on; k_headS; (case hw => exact ⟨[.list [.int 15]], by decide +kernel, by decide +kernel⟩)
  k_fillS
  refine L2.walk_specK (r := PySem.Challenge.rw_nodenames_s01_answers) (k := 10) (CX := L2.CX0) (ps := ["calls"]) (sp := NH.spAns) (by decide +kernel) rfl rfl ⟨rfl, by decide, by decide⟩ (fun w h Y => PySem.W.kIn_of Y) ?F ?S (fun _ _ _ _ z => z)
  case F =>
    intro w mg fa h Y KX G hmg
    refine' NH.all_mk KX G hmg ?gC ?pgC ?hdC ?poC ?saC ?mkC ?kcC ?nC_count ?nC_node ?nC_process ?nC_name ?nC_given_up ?gL ?pgL ?hdL ?poL ?saL ?mkL ?kcL ?nL_sender ?nL_receiver ?nL_known ?nL_count ?gN ?pgN ?hdN ?poN ?saN ?mkN ?kcN ?nN_number ?nN_count ?nN_known ?nN_reached ?nN_losses ?gW ?pgW ?hdW ?poW ?saW ?mkW ?kcW ?nW_nodes ?nW_letters ?a_ci ?i_ci ?l_ci ?c_ci ?k_ci ?a_st ?i_st ?l_st ?c_st ?k_st ?a_wh ?i_wh ?l_wh ?c_wh ?k_wh ?a_li ?i_li ?l_li ?c_li ?k_li ?a_ni ?i_ni ?l_ni ?c_ni ?k_ni ?a_re ?i_re ?l_re ?c_re ?k_re ?a_be ?i_be ?l_be ?c_be ?k_be ?a_ce ?i_ce ?l_ce ?c_ce ?k_ce ?a_sd ?i_sd ?l_sd ?c_sd ?k_sd ?a_ho ?i_ho ?l_ho ?c_ho ?k_ho ?a_ow ?i_ow ?l_ow ?c_ow ?k_ow ?a_mk ?i_mk ?l_mk ?c_mk ?k_mk ?a_le ?i_le ?l_le ?c_le ?k_le ?a_gi ?i_gi ?l_gi ?c_gi ?k_gi ?a_lo ?i_lo ?l_lo ?c_lo ?k_lo ?a_lf ?i_lf ?l_lf ?c_lf ?k_lf ?a_wr ?i_wr ?l_wr ?c_wr ?k_wr ?a_rc ?i_rc ?l_rc ?c_rc ?k_rc ?a_wi ?i_wi ?l_wi ?c_wi ?k_wi ?a_in ?i_in ?l_in ?c_in ?k_in ?a_ip ?i_ip ?l_ip ?c_ip ?k_ip ?a_il ?i_il ?l_il ?c_il ?k_il ?a_tw ?i_tw ?l_tw ?c_tw ?k_tw ?a_na ?i_na ?l_na ?c_na ?k_na ?a_fu ?i_fu ?l_fu ?c_fu ?k_fu ?a_se ?i_se ?l_se ?c_se ?k_se ?a_de ?i_de ?l_de ?c_de ?k_de ?a_bw ?i_bw ?l_bw ?c_bw ?k_bw ?a_cl ?i_cl ?l_cl ?c_cl ?k_cl ?a_fr ?i_fr ?l_fr ?c_fr ?k_fr ?a_di ?i_di ?l_di ?c_di ?k_di ?a_pa ?i_pa ?l_pa ?c_pa ?k_pa ?a_me ?i_me ?l_me ?c_me ?k_me ?a_te ?i_te ?l_te ?c_te ?k_te ?a_tk ?i_tk ?l_tk ?c_tk ?k_tk ?a_ke ?i_ke ?l_ke ?c_ke ?k_ke ?a_ls ?i_ls ?l_ls ?c_ls ?k_ls ?a_tu ?i_tu ?l_tu ?c_tu ?k_tu ?a_wo ?i_wo ?l_wo ?c_wo ?k_wo ?a_nm ?i_nm ?l_nm ?c_nm ?k_nm ?a_lw ?i_lw ?l_lw ?c_lw ?k_lw ?a_cw ?i_cw ?l_cw ?c_cw ?k_cw ?a_ai ?i_ai ?l_ai ?c_ai ?k_ai ?a_an ?l_an ?c_an ?k_an ?a_al ?l_al ?c_al ?k_al ?a_aq ?l_aq ?c_aq ?k_aq ?a_aw ?l_aw ?c_aw ?k_aw ?a_as ?l_as ?c_as ?k_as ?z_len ?z_list ?z_range ?z_max ?v_NODES_AT_FIRST ?v_LEAST_NODES ?v_MOST_NODES ?v_LAST_PROCESS ?v_LAST_NAME ?v_MOST_CLAIMS ?v_MOST_LETTERS ?v_MOST_TURNS ?v_NO_SUCH ?v_NOT_REACHED ?v_NO_LETTER ?v_FULL ?v_BEGIN ?v_CLAIM ?v_FREE ?v_DIES ?v_PART ?v_MEET ?v_TELL ?v_TAKE ?v_KEEP ?v_LOSE ?v_TURNS ?v_WHO ?v_NAMES ?v_LOST ?v_CLAIMS ?g_nb ?l_nb ?w_nb
    (case gC => k_is)
    (case pgC => k_is)
    (case hdC => k_is)
    (case poC => k_is)
    (case saC => k_is)
    (case mkC => k_is)
    (case kcC => k_is)
    (case nC_count => k_is)
    (case nC_node => k_is)
    (case nC_process => k_is)
    (case nC_name => k_is)
    (case nC_given_up => k_is)
    (case gL => k_is)
    (case pgL => k_is)
    (case hdL => k_is)
    (case poL => k_is)
    (case saL => k_is)
    (case mkL => k_is)
    (case kcL => k_is)
    (case nL_sender => k_is)
    (case nL_receiver => k_is)
    (case nL_known => k_is)
    (case nL_count => k_is)
    (case gN => k_is)
    (case pgN => k_is)
    (case hdN => k_is)
    (case poN => k_is)
    (case saN => k_is)
    (case mkN => k_is)
    (case kcN => k_is)
    (case nN_number => k_is)
    (case nN_count => k_is)
    (case nN_known => k_is)
    (case nN_reached => k_is)
    (case nN_losses => k_is)
    (case gW => k_is)
    (case pgW => k_is)
    (case hdW => k_is)
    (case poW => k_is)
    (case saW => k_is)
    (case mkW => k_is)
    (case kcW => k_is)
    (case nW_nodes => k_is)
    (case nW_letters => k_is)
    (case a_ci => k_is)
    (case i_ci => k_is)
    (case l_ci => k_is)
    (case c_ci => k_is)
    (case k_ci => k_is)
    (case a_st => k_is)
    (case i_st => k_is)
    (case l_st => k_is)
    (case c_st => k_is)
    (case k_st => k_is)
    (case a_wh => k_is)
    (case i_wh => k_is)
    (case l_wh => k_is)
    (case c_wh => k_is)
    (case k_wh => k_is)
    (case a_li => k_is)
    (case i_li => k_is)
    (case l_li => k_is)
    (case c_li => k_is)
    (case k_li => k_is)
    (case a_ni => k_is)
    (case i_ni => k_is)
    (case l_ni => k_is)
    (case c_ni => k_is)
    (case k_ni => k_is)
    (case a_re => k_is)
    (case i_re => k_is)
    (case l_re => k_is)
    (case c_re => k_is)
    (case k_re => k_is)
    (case a_be => k_is)
    (case i_be => k_is)
    (case l_be => k_is)
    (case c_be => k_is)
    (case k_be => k_is)
    (case a_ce => k_is)
    (case i_ce => k_is)
    (case l_ce => k_is)
    (case c_ce => k_is)
    (case k_ce => k_is)
    (case a_sd => k_is)
    (case i_sd => k_is)
    (case l_sd => k_is)
    (case c_sd => k_is)
    (case k_sd => k_is)
    (case a_ho => k_is)
    (case i_ho => k_is)
    (case l_ho => k_is)
    (case c_ho => k_is)
    (case k_ho => k_is)
    (case a_ow => k_is)
    (case i_ow => k_is)
    (case l_ow => k_is)
    (case c_ow => k_is)
    (case k_ow => k_is)
    (case a_mk => k_is)
    (case i_mk => k_is)
    (case l_mk => k_is)
    (case c_mk => k_is)
    (case k_mk => k_is)
    (case a_le => k_is)
    (case i_le => k_is)
    (case l_le => k_is)
    (case c_le => k_is)
    (case k_le => k_is)
    (case a_gi => k_is)
    (case i_gi => k_is)
    (case l_gi => k_is)
    (case c_gi => k_is)
    (case k_gi => k_is)
    (case a_lo => k_is)
    (case i_lo => k_is)
    (case l_lo => k_is)
    (case c_lo => k_is)
    (case k_lo => k_is)
    (case a_lf => k_is)
    (case i_lf => k_is)
    (case l_lf => k_is)
    (case c_lf => k_is)
    (case k_lf => k_is)
    (case a_wr => k_is)
    (case i_wr => k_is)
    (case l_wr => k_is)
    (case c_wr => k_is)
    (case k_wr => k_is)
    (case a_rc => k_is)
    (case i_rc => k_is)
    (case l_rc => k_is)
    (case c_rc => k_is)
    (case k_rc => k_is)
    (case a_wi => k_is)
    (case i_wi => k_is)
    (case l_wi => k_is)
    (case c_wi => k_is)
    (case k_wi => k_is)
    (case a_in => k_is)
    (case i_in => k_is)
    (case l_in => k_is)
    (case c_in => k_is)
    (case k_in => k_is)
    (case a_ip => k_is)
    (case i_ip => k_is)
    (case l_ip => k_is)
    (case c_ip => k_is)
    (case k_ip => k_is)
    (case a_il => k_is)
    (case i_il => k_is)
    (case l_il => k_is)
    (case c_il => k_is)
    (case k_il => k_is)
    (case a_tw => k_is)
    (case i_tw => k_is)
    (case l_tw => k_is)
    (case c_tw => k_is)
    (case k_tw => k_is)
    (case a_na => k_is)
    (case i_na => k_is)
    (case l_na => k_is)
    (case c_na => k_is)
    (case k_na => k_is)
    (case a_fu => k_is)
    (case i_fu => k_is)
    (case l_fu => k_is)
    (case c_fu => k_is)
    (case k_fu => k_is)
    (case a_se => k_is)
    (case i_se => k_is)
    (case l_se => k_is)
    (case c_se => k_is)
    (case k_se => k_is)
    (case a_de => k_is)
    (case i_de => k_is)
    (case l_de => k_is)
    (case c_de => k_is)
    (case k_de => k_is)
    (case a_bw => k_is)
    (case i_bw => k_is)
    (case l_bw => k_is)
    (case c_bw => k_is)
    (case k_bw => k_is)
    (case a_cl => k_is)
    (case i_cl => k_is)
    (case l_cl => k_is)
    (case c_cl => k_is)
    (case k_cl => k_is)
    (case a_fr => k_is)
    (case i_fr => k_is)
    (case l_fr => k_is)
    (case c_fr => k_is)
    (case k_fr => k_is)
    (case a_di => k_is)
    (case i_di => k_is)
    (case l_di => k_is)
    (case c_di => k_is)
    (case k_di => k_is)
    (case a_pa => k_is)
    (case i_pa => k_is)
    (case l_pa => k_is)
    (case c_pa => k_is)
    (case k_pa => k_is)
    (case a_me => k_is)
    (case i_me => k_is)
    (case l_me => k_is)
    (case c_me => k_is)
    (case k_me => k_is)
    (case a_te => k_is)
    (case i_te => k_is)
    (case l_te => k_is)
    (case c_te => k_is)
    (case k_te => k_is)
    (case a_tk => k_is)
    (case i_tk => k_is)
    (case l_tk => k_is)
    (case c_tk => k_is)
    (case k_tk => k_is)
    (case a_ke => k_is)
    (case i_ke => k_is)
    (case l_ke => k_is)
    (case c_ke => k_is)
    (case k_ke => k_is)
    (case a_ls => k_is)
    (case i_ls => k_is)
    (case l_ls => k_is)
    (case c_ls => k_is)
    (case k_ls => k_is)
    (case a_tu => k_is)
    (case i_tu => k_is)
    (case l_tu => k_is)
    (case c_tu => k_is)
    (case k_tu => k_is)
    (case a_wo => k_is)
    (case i_wo => k_is)
    (case l_wo => k_is)
    (case c_wo => k_is)
    (case k_wo => k_is)
    (case a_nm => k_is)
    (case i_nm => k_is)
    (case l_nm => k_is)
    (case c_nm => k_is)
    (case k_nm => k_is)
    (case a_lw => k_is)
    (case i_lw => k_is)
    (case l_lw => k_is)
    (case c_lw => k_is)
    (case k_lw => k_is)
    (case a_cw => k_is)
    (case i_cw => k_is)
    (case l_cw => k_is)
    (case c_cw => k_is)
    (case k_cw => k_is)
    (case a_ai => k_is)
    (case i_ai => k_is)
    (case l_ai => k_is)
    (case c_ai => k_is)
    (case k_ai => k_is)
    (case a_an => k_is)
    (case l_an => k_is)
    (case c_an => k_is)
    (case k_an => k_is)
    (case a_al => k_is)
    (case l_al => k_is)
    (case c_al => k_is)
    (case k_al => k_is)
    (case a_aq => k_is)
    (case l_aq => k_is)
    (case c_aq => k_is)
    (case k_aq => k_is)
    (case a_aw => k_is)
    (case l_aw => k_is)
    (case c_aw => k_is)
    (case k_aw => k_is)
    (case a_as => k_is)
    (case l_as => k_is)
    (case c_as => k_is)
    (case k_as => k_is)
    (case z_len => k_is)
    (case z_list => k_is)
    (case z_range => k_is)
    (case z_max => k_is)
    (case v_NODES_AT_FIRST => k_is)
    (case v_LEAST_NODES => k_is)
    (case v_MOST_NODES => k_is)
    (case v_LAST_PROCESS => k_is)
    (case v_LAST_NAME => k_is)
    (case v_MOST_CLAIMS => k_is)
    (case v_MOST_LETTERS => k_is)
    (case v_MOST_TURNS => k_is)
    (case v_NO_SUCH => k_is)
    (case v_NOT_REACHED => k_is)
    (case v_NO_LETTER => k_is)
    (case v_FULL => k_is)
    (case v_BEGIN => k_is)
    (case v_CLAIM => k_is)
    (case v_FREE => k_is)
    (case v_DIES => k_is)
    (case v_PART => k_is)
    (case v_MEET => k_is)
    (case v_TELL => k_is)
    (case v_TAKE => k_is)
    (case v_KEEP => k_is)
    (case v_LOSE => k_is)
    (case v_TURNS => k_is)
    (case v_WHO => k_is)
    (case v_NAMES => k_is)
    (case v_LOST => k_is)
    (case v_CLAIMS => k_is)
    (case g_nb => k_is)
    (case l_nb => k_is)
    (case w_nb => rfl)
  case S =>
    intro K H xs a hO hwi hask hx
    cases hx with
    | cons h1 h2 =>
      cases h2
      cases h1 with
      | lst hs ha =>
        have e := L2.ints_dw a.1 _ ha
        subst e
        have q : ((Codec.inLen 0 400 a.1 && a.1.all (Codec.inInt 0 4294967295)) && true) = true := hwi
        rw [Bool.and_eq_true, Bool.and_eq_true] at q
        exact ⟨_, a.1, rfl, hs, hask, (Codec.inNat_iff.mp q.1.1).2, fun H' p hp => .lst (L2.SqL.of hp) (L2.dw_ints _)⟩
