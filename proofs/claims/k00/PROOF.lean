import PyProof.Rows.All
import Wide.All
import OpenK.AllK
import Wide.FinOn
import HandS.ForMost
import HandS.Walk
import HandS.IsInst
import HandS.RaiseMore
import PySem.Challenge.RW_stopsheld_k00_words_exact
set_option Elab.async false
set_option maxRecDepth 100000
namespace DL
open PySem L2

/-- data, without addresses: lists and dicts are values of their own -/
inductive D where
  | non | bl (b : Bool) | int (i : Int) | str (s : Str)
  | tup (ds : List D) | lst (ds : List D) | fz (ds : List D) | dct (ks : List Key) (ds : List D)

mutual
def D.imm : D → Bool
  | .tup ds => D.immL ds
  | .lst _ => false
  | .fz ds => D.immL ds
  | .dct _ _ => false
  | .non => true
  | .bl _ => true
  | .int _ => true
  | .str _ => true
def D.immL : List D → Bool
  | [] => true
  | d :: ds => d.imm && D.immL ds
end
theorem immL_all : ∀ ds : List D, D.immL ds = ds.all D.imm
  | [] => by simp [D.immL]
  | d :: ds => by simp [D.immL, immL_all ds]

abbrev Reg := Addr → Prop
def Ex (H H' : Hp) : Prop := ∀ a o, H a = some o → H' a = some o
theorem Ex.refl (H : Hp) : Ex H H := fun _ _ h => h
theorem Ex.trans {H H1 H2 : Hp} (a : Ex H H1) (b : Ex H1 H2) : Ex H H2 := fun x o h => b x o (a x o h)
theorem Ex.new {H : Hp} {p : Addr} {o : HO} (h : H p = none) : Ex H (upd H p o) := fun a u e => by
  rw [upd_ne (ne_of_none e h)]
  exact e
theorem Ex.back {H H' : Hp} {p : Addr} (e : Ex H H') (h : H' p = none) : H p = none := by
  cases h1 : H p with
  | none => rfl
  | some o => rw [e p o h1] at h; cases h
theorem Ex.there {H H' : Hp} {p : Addr} (e : Ex H H') (h : H p ≠ none) : H' p ≠ none := fun z => h (e.back z)
/-- what may be changed -/
def Mu : Option HO → Prop
  | some (.lst _) => True
  | some (.dK _) => True
  | _ => False
theorem Mu.some {o : Option HO} (h : Mu o) : o ≠ none := by
  intro e; rw [e] at h; exact h

mutual
inductive Own (K : PySem.W.Frag) (H : Hp) : V → D → Reg → Prop
  | non {S} : Own K H .non .non S
  | bl {S b} : Own K H (.bl b) (.bl b) S
  | int {S i} : Own K H (.int i) (.int i) S
  | str {S z} : Own K H (.str z) (.str z) S
  | tup {S a vs ds} : SqT K H a vs → OwnL K H vs ds S → Own K H (.ref a) (.tup ds) S
  | lst {S S' a vs ds} : H a = some (.lst vs) → S a → OwnL K H vs ds S' → (∀ x, S' x → S x ∧ x ≠ a) → Own K H (.ref a) (.lst ds) S
  | fz {S a vs ds} : ((∃ o, H a = some (.frz o (.lst vs))) ∨ (∀ H', SqL K H' a vs)) → OwnL K H vs ds S → Own K H (.ref a) (.fz ds) S
  | dct {S S' a kvs ds} : H a = some (.dK kvs) → S a → (kvs.map (·.1)).Nodup → OwnL K H (kvs.map (·.2)) ds S' → (∀ x, S' x → S x ∧ x ≠ a) → Own K H (.ref a) (.dct (kvs.map (·.1)) ds) S
inductive OwnL (K : PySem.W.Frag) (H : Hp) : List V → List D → Reg → Prop
  | nil {S} : OwnL K H [] [] S
  | cons {S S1 S2 v d vs ds} : Own K H v d S1 → OwnL K H vs ds S2 → (∀ x, S1 x → S2 x → False) → (∀ x, S1 x → S x) → (∀ x, S2 x → S x) → OwnL K H (v :: vs) (d :: ds) S
end

section
variable {K : PySem.W.Frag} {H H' : Hp}
theorem sqt_keep {a : Addr} {vs : List V} (k : ∀ a o, H a = some o → ¬ Mu (some o) → H' a = some o) (h : SqT K H a vs) : SqT K H' a vs := by
  rcases h with (h | ⟨o, h⟩) | h
  · exact .inl (.inl (k _ _ h (fun z => z)))
  · exact .inl (.inr ⟨o, k _ _ h (fun z => z)⟩)
  · exact .inr h
mutual
theorem Own.mono : ∀ (d : D) {v : V} {S S' : Reg}, Own K H v d S → (∀ x, S x → S' x) → Own K H v d S'
  | .non, _, _, _, h, _ => by cases h; exact .non
  | .bl _, _, _, _, h, _ => by cases h; exact .bl
  | .int _, _, _, _, h, _ => by cases h; exact .int
  | .str _, _, _, _, h, _ => by cases h; exact .str
  | .tup ds, _, _, _, h, m => by
    cases h with
    | tup h1 h2 => exact .tup h1 (OwnL.mono ds h2 m)
  | .lst ds, _, _, _, h, m => by
    cases h with
    | lst h1 h2 h3 h4 => exact .lst h1 (m _ h2) h3 fun x hx => ⟨m _ (h4 x hx).1, (h4 x hx).2⟩
  | .fz ds, _, _, _, h, m => by
    cases h with
    | fz h1 h2 => exact .fz h1 (OwnL.mono ds h2 m)
  | .dct _ ds, _, _, _, h, m => by
    cases h with
    | dct h1 h2 h5 h3 h4 => exact .dct h1 (m _ h2) h5 h3 fun x hx => ⟨m _ (h4 x hx).1, (h4 x hx).2⟩
theorem OwnL.mono : ∀ (ds : List D) {vs : List V} {S S' : Reg}, OwnL K H vs ds S → (∀ x, S x → S' x) → OwnL K H vs ds S'
  | [], _, _, _, h, _ => by cases h; exact .nil
  | d :: ds, _, _, _, h, m => by
    cases h with
    | cons h1 h2 h3 h4 h5 => exact .cons h1 h2 h3 (fun x hx => m _ (h4 x hx)) (fun x hx => m _ (h5 x hx))
end
/-- what was, is: the regions' own objects and all that never changes -/
def Keeps (S : Reg) (H H' : Hp) : Prop := ∀ a o, H a = some o → (S a ∨ ¬ Mu (some o)) → H' a = some o
theorem Keeps.mono {S S' : Reg} (k : Keeps S H H') (m : ∀ x, S' x → S x) : Keeps S' H H' := fun a o e h => k a o e (h.imp_left (m a))
theorem Ex.keeps {S : Reg} (e : Ex H H') : Keeps S H H' := fun a o h _ => e a o h
mutual
theorem Own.keep : ∀ (d : D) {v : V} {S : Reg}, Own K H v d S → Keeps S H H' → Own K H' v d S
  | .non, _, _, h, _ => by cases h; exact .non
  | .bl _, _, _, h, _ => by cases h; exact .bl
  | .int _, _, _, h, _ => by cases h; exact .int
  | .str _, _, _, h, _ => by cases h; exact .str
  | .tup ds, _, _, h, m => by
    cases h with
    | tup h1 h2 => exact .tup (sqt_keep (fun a o e n => m a o e (.inr n)) h1) (OwnL.keep ds h2 m)
  | .lst ds, _, _, h, m => by
    cases h with
    | lst h1 h2 h3 h4 => exact .lst (m _ _ h1 (.inl h2)) h2 (OwnL.keep ds h3 (m.mono fun x hx => (h4 x hx).1)) h4
  | .fz ds, _, _, h, m => by
    cases h with
    | fz h1 h2 =>
      refine .fz ?_ (OwnL.keep ds h2 m)
      rcases h1 with ⟨o, e⟩ | h1
      · exact .inl ⟨o, m _ _ e (.inr fun z => z)⟩
      · exact .inr h1
  | .dct _ ds, _, _, h, m => by
    cases h with
    | dct h1 h2 h5 h3 h4 => exact .dct (m _ _ h1 (.inl h2)) h2 h5 (OwnL.keep ds h3 (m.mono fun x hx => (h4 x hx).1)) h4
theorem OwnL.keep : ∀ (ds : List D) {vs : List V} {S : Reg}, OwnL K H vs ds S → Keeps S H H' → OwnL K H' vs ds S
  | [], _, _, h, _ => by cases h; exact .nil
  | d :: ds, _, _, h, m => by
    cases h with
    | cons h1 h2 h3 h4 h5 => exact .cons (Own.keep d h1 (m.mono h4)) (OwnL.keep ds h2 (m.mono h5)) h3 h4 h5
end
abbrev No : Reg := fun _ => False
mutual
theorem Own.imm : ∀ (d : D) {v : V} {S : Reg}, Own K H v d S → d.imm = true → Own K H v d No
  | .non, _, _, h, _ => by cases h; exact .non
  | .bl _, _, _, h, _ => by cases h; exact .bl
  | .int _, _, _, h, _ => by cases h; exact .int
  | .str _, _, _, h, _ => by cases h; exact .str
  | .tup ds, _, _, h, m => by
    cases h with
    | tup h1 h2 => exact .tup h1 (OwnL.imm ds h2 m)
  | .lst ds, _, _, h, m => nomatch m
  | .fz ds, _, _, h, m => by
    cases h with
    | fz h1 h2 => exact .fz h1 (OwnL.imm ds h2 m)
  | .dct _ ds, _, _, h, m => nomatch m
theorem OwnL.imm : ∀ (ds : List D) {vs : List V} {S : Reg}, OwnL K H vs ds S → D.immL ds = true → OwnL K H vs ds No
  | [], _, _, h, _ => by cases h; exact .nil
  | d :: ds, _, _, h, m => by
    have m' : (d.imm && D.immL ds) = true := m
    rw [Bool.and_eq_true] at m'
    cases h with
    | cons h1 h2 h3 h4 h5 => exact .cons (Own.imm d h1 m'.1) (OwnL.imm ds h2 m'.2) (fun _ z _ => z) (fun _ z => z) (fun _ z => z)
end
theorem OwnL.length : ∀ {ds : List D} {vs : List V} {S : Reg}, OwnL K H vs ds S → vs.length = ds.length
  | [], _, _, h => by cases h; rfl
  | d :: ds, _, _, h => by
    cases h with
    | cons h1 h2 h3 h4 h5 => simp [h2.length]
theorem OwnL.get : ∀ {ds : List D} {vs : List V} {S : Reg} {i : Nat} {d : D}, OwnL K H vs ds S → ds[i]? = some d → ∃ v S', vs[i]? = some v ∧ Own K H v d S' ∧ ∀ x, S' x → S x
  | [], _, _, _, _, h, e => by simp at e
  | d :: ds, _, _, 0, _, h, e => by
    cases h with
    | cons h1 h2 h3 h4 h5 =>
      simp at e; subst e
      exact ⟨_, _, rfl, h1, h4⟩
  | d :: ds, _, _, i + 1, _, h, e => by
    cases h with
    | cons h1 h2 h3 h4 h5 =>
      obtain ⟨v, S', e1, o, m⟩ := h2.get (i := i) (by simpa using e)
      exact ⟨v, S', by simpa using e1, o, fun x hx => h5 x (m x hx)⟩
theorem OwnL.append : ∀ {ds es : List D} {vs ws : List V} {S1 S2 : Reg}, OwnL K H vs ds S1 → OwnL K H ws es S2 → (∀ x, S1 x → S2 x → False) → OwnL K H (vs ++ ws) (ds ++ es) (fun x => S1 x ∨ S2 x)
  | [], _, _, _, _, _, h, g, _ => by cases h; exact g.mono _ fun _ z => .inr z
  | d :: ds, _, _, _, _, _, h, g, dj => by
    cases h with
    | cons h1 h2 h3 h4 h5 =>
      refine .cons h1 (h2.append g fun x a b => dj x (h5 x a) b) (fun x a b => ?_) (fun x a => .inl (h4 x a)) (fun x b => b.imp_left (h5 x))
      rcases b with b | b
      · exact h3 x a b
      · exact dj x (h4 x a) b
theorem OwnL.set : ∀ {ds : List D} {vs : List V} {S : Reg} {i : Nat} {d : D} {v : V} {S1 : Reg}, OwnL K H vs ds S → Own K H v d S1 → (∀ x, S x → S1 x → False) → OwnL K H (vs.set i v) (ds.set i d) (fun x => S x ∨ S1 x)
  | [], _, _, _, _, _, _, h, _, _ => by cases h; exact .nil
  | d :: ds, _, _, 0, _, _, _, h, g, dj => by
    cases h with
    | cons h1 h2 h3 h4 h5 => exact .cons g h2 (fun x a b => dj x (h5 x b) a) (fun x a => .inr a) (fun x a => .inl (h5 x a))
  | d :: ds, _, _, i + 1, _, _, _, h, g, dj => by
    cases h with
    | cons h1 h2 h3 h4 h5 =>
      refine .cons h1 (h2.set (i := i) g fun x a b => dj x (h5 x a) b) (fun x a b => ?_) (fun x a => .inl (h4 x a)) (fun x b => b.imp_left (h5 x))
      rcases b with b | b
      · exact h3 x a b
      · exact dj x (h4 x a) b
/-- immutable items from anywhere -/
theorem OwnL.consI {v : V} {d : D} {vs : List V} {ds : List D} (h : Own K H v d No) (g : OwnL K H vs ds No) : OwnL K H (v :: vs) (d :: ds) No :=
  .cons h g (fun _ z _ => z) (fun _ z => z) (fun _ z => z)
theorem Own.any {d : D} {v : V} {S : Reg} (h : Own K H v d No) : Own K H v d S := h.mono _ fun _ z => z.elim
theorem OwnL.any {ds : List D} {vs : List V} {S : Reg} (h : OwnL K H vs ds No) : OwnL K H vs ds S := h.mono _ fun _ z => z.elim
end
end DL
set_option Elab.async false
set_option linter.all false
set_option maxRecDepth 100000
namespace DL
open PySem L2

abbrev En := List (Option D)
/-- what is read alone, by slots; the slots that stay as they are -/
structure Rc where
  ro : En
  pin : List Nat
def roAt (R : Rc) (i : Nat) : Option D := match R.ro[i]? with
  | some (some d) => some d
  | _ => none
def free (R : Rc) (i : Nat) : Bool := (roAt R i).isNone && !R.pin.contains i
def look (R : Rc) (Γ : En) (i : Nat) : Option D := match roAt R i with
  | some d => some d
  | none => match Γ[i]? with
    | some (some d) => some d
    | _ => none

structure St (K : PySem.W.Frag) (σ : L2.St) (H : Hp) (R : Rc) (SR : Reg) (Γ : En) (S : Reg) : Prop where
  len : Γ.length = σ.length
  ro : ∀ i d, roAt R i = some d → ∃ v Sv, σ[i]? = some (some v) ∧ Own K H v d Sv ∧ ∀ x, Sv x → SR x
  own : ∃ Sg : Nat → Reg, (∀ i d, Γ[i]? = some (some d) → ∃ v, σ[i]? = some (some v) ∧ Own K H v d (Sg i)) ∧ (∀ i x, Sg i x → S x) ∧ (∀ i j x, i ≠ j → Sg i x → Sg j x → False)
  dis : ∀ a, SR a → S a → False
  mu : ∀ a, S a → Mu (H a)
  there : ∀ a, SR a → H a ≠ none

structure Step (S : Reg) (H H' : Hp) (S' : Reg) : Prop where
  keep : ∀ a o, H a = some o → ¬ S a → H' a = some o
  dom : ∀ a, H' a = none → H a = none
  grow : ∀ a, S' a → S a ∨ H a = none

section
variable {K : PySem.W.Frag} {σ σ' : L2.St} {H H' H1 H2 : Hp} {R : Rc} {SR S S' S1 S2 : Reg} {Γ Γ' : En}
theorem Step.refl : Step S H H S := ⟨fun _ _ e _ => e, fun _ e => e, fun _ s => .inl s⟩
theorem Step.trans (a : Step S H H1 S1) (b : Step S1 H1 H2 S2) : Step S H H2 S2 :=
  ⟨fun x o e n => b.keep x o (a.keep x o e n) fun z => (a.grow x z).elim n (fun q => by rw [e] at q; cases q), fun x e => a.dom x (b.dom x e), fun x z => (b.grow x z).elim (fun q => a.grow x q) fun q => .inr (a.dom x q)⟩
theorem Step.less (a : Step S H H1 S1) (m : ∀ x, S2 x → S1 x) : Step S H H1 S2 := ⟨a.keep, a.dom, fun x z => a.grow x (m x z)⟩
theorem Step.ex (e : Ex H H') : Step S H H' S := ⟨fun a o h _ => e a o h, fun _ h => e.back h, fun _ s => .inl s⟩
theorem Step.exF (e : Ex H H') (f : ∀ a, S' a → H a = none) : Step S H H' (fun a => S a ∨ S' a) := ⟨fun a o h _ => e a o h, fun _ h => e.back h, fun a s => s.imp_right (f a)⟩
/-- what lies apart is kept -/
theorem Step.keeps {T : Reg} (a : Step S H H1 S1) (mu : ∀ x, S x → Mu (H x)) (d : ∀ x, T x → S x → False) : Keeps T H H1 := fun x o e h =>
  a.keep x o e fun s => h.elim (fun t => d x t s) fun n => n (by rw [← e]; exact mu x s)
/-- .. and stays apart -/
theorem Step.apart {T : Reg} (a : Step S H H1 S1) (d : ∀ x, T x → S x → False) (th : ∀ x, T x → H x ≠ none) : ∀ x, T x → S1 x → False := fun x t s => (a.grow x s).elim (d x t) (th x t)
theorem Step.there {T : Reg} (a : Step S H H1 S1) (th : ∀ x, T x → H x ≠ none) : ∀ x, T x → H1 x ≠ none := fun x t z => th x t (a.dom x z)
theorem Step.mu {T : Reg} (a : Step S H H1 S1) (d : ∀ x, T x → S x → False) (th : ∀ x, T x → Mu (H x)) : ∀ x, T x → Mu (H1 x) := fun x t => by
  cases e : H x with
  | none => exact absurd e (Mu.some (th x t))
  | some o =>
    rw [a.keep x o e (d x t), ← e]
    exact th x t

theorem St.ex (s : St K σ H R SR Γ S) (e : Ex H H') : St K σ H' R SR Γ S := by
  obtain ⟨len, ro, ⟨Sg, o1, o2, o3⟩, dis, mu, there⟩ := s
  refine ⟨len, fun i d h => ?_, ⟨Sg, fun i d h => ?_, o2, o3⟩, dis, fun a z => ?_, fun a z => e.there (there a z)⟩
  · obtain ⟨v, Sv, e1, o, m⟩ := ro i d h
    exact ⟨v, Sv, e1, o.keep _ e.keeps, m⟩
  · obtain ⟨v, e1, o⟩ := o1 i d h
    exact ⟨v, e1, o.keep _ e.keeps⟩
  · have := mu a z
    cases q : H a with
    | none => rw [q] at this; exact this.elim
    | some o => rw [e a o q, ← q]; exact this
theorem St.look (s : St K σ H R SR Γ S) {i : Nat} {d : D} (h : look R Γ i = some d) : ∃ v Sv, σ[i]? = some (some v) ∧ Own K H v d Sv ∧ ∀ x, Sv x → SR x ∨ S x := by
  unfold DL.look at h
  split at h
  · next d' e =>
    cases h
    obtain ⟨v, Sv, e1, o, m⟩ := s.ro i _ e
    exact ⟨v, Sv, e1, o, fun x z => .inl (m x z)⟩
  · split at h
    · next d' e =>
      cases h
      obtain ⟨Sg, o1, o2, o3⟩ := s.own
      obtain ⟨v, e1, o⟩ := o1 i _ e
      exact ⟨v, _, e1, o, fun x z => .inr (o2 i x z)⟩
    · cases h
end

/-! ### judgements: pure expressions (views, or new things), expressions that change, tests, statements -/
abbrev P := Rc → En → Option D
abbrev M := Rc → En → Option (D × En)
abbrev PB := Rc → En → Option Bool
abbrev MB := Rc → En → Option (Bool × En)
inductive Res where
  | nx (Γ : En) | rt (d : D) (Γ : En) | bk (Γ : En) | ct (Γ : En)
abbrev Sm := Rc → En → Option Res

def tV (K : PySem.W.Frag) (fr : Bool) (p : P) : TE := fun σ H Q => ∃ R SR Γ S d, St K σ H R SR Γ S ∧ p R Γ = some d ∧
  ∀ v H' Sv, Own K H' v d Sv → Ex H H' → (∀ a, Sv a → SR a ∨ S a ∨ H a = none) → (fr = true → ∀ a, Sv a → H a = none ∧ Mu (H' a)) → Q v H'
def tM (K : PySem.W.Frag) (m : M) : TE := fun σ H Q => ∃ R SR Γ S d Γ', St K σ H R SR Γ S ∧ m R Γ = some (d, Γ') ∧
  ∀ v H' Sv S', St K σ H' R SR Γ' S' → Own K H' v d Sv → (∀ a, Sv a → S' a → False) → (∀ a, Sv a → Mu (H' a)) → Step S H H' (fun a => S' a ∨ Sv a) → Q v H'
def tVB (K : PySem.W.Frag) (p : PB) : TT := fun σ H Q => ∃ R SR Γ S b, St K σ H R SR Γ S ∧ p R Γ = some b ∧ ∀ H', Ex H H' → Q b H'
def tMB (K : PySem.W.Frag) (m : MB) : TT := fun σ H Q => ∃ R SR Γ S b Γ', St K σ H R SR Γ S ∧ m R Γ = some (b, Γ') ∧
  ∀ H' S', St K σ H' R SR Γ' S' → Step S H H' S' → Q b H'
def SameR (R : Rc) (σ σ' : L2.St) : Prop := ∀ i, free R i = false → σ'[i]? = σ[i]?
def Post (K : PySem.W.Frag) (σ : L2.St) (H : Hp) (R : Rc) (SR S : Reg) (D : Ends) : Res → Prop
  | .nx Γ' => ∀ σ' H' S', St K σ' H' R SR Γ' S' → SameR R σ σ' → Step S H H' S' → D.nx σ' H'
  | .bk Γ' => ∀ σ' H' S', St K σ' H' R SR Γ' S' → SameR R σ σ' → Step S H H' S' → D.bk σ' H'
  | .ct Γ' => ∀ σ' H' S', St K σ' H' R SR Γ' S' → SameR R σ σ' → Step S H H' S' → D.ct σ' H'
  | .rt d Γ' => ∀ v σ' H' Sv S', St K σ' H' R SR Γ' S' → SameR R σ σ' → Own K H' v d Sv → (∀ a, Sv a → S' a → False) → (∀ a, Sv a → Mu (H' a)) → Step S H H' (fun a => S' a ∨ Sv a) → D.rt v H'
def tS (K : PySem.W.Frag) (m : Sm) : TS := fun D σ H => ∃ R SR Γ S r, St K σ H R SR Γ S ∧ m R Γ = some r ∧ Post K σ H R SR S D r

theorem SameR.refl {R : Rc} {σ : L2.St} : SameR R σ σ := fun _ _ => rfl
theorem SameR.trans {R : Rc} {σ σ1 σ2 : L2.St} (a : SameR R σ σ1) (b : SameR R σ1 σ2) : SameR R σ σ2 := fun i h => (b i h).trans (a i h)
theorem Post.trans {K : PySem.W.Frag} {σ σ1 : L2.St} {H H1 : Hp} {R : Rc} {SR S S1 : Reg} {D : Ends} {r : Res} (h : Post K σ H R SR S D r) (sr : SameR R σ σ1) (st : Step S H H1 S1) : Post K σ1 H1 R SR S1 D r := by
  cases r with
  | nx Γ => exact fun σ' H' S' a b c => h σ' H' S' a (sr.trans b) (st.trans c)
  | bk Γ => exact fun σ' H' S' a b c => h σ' H' S' a (sr.trans b) (st.trans c)
  | ct Γ => exact fun σ' H' S' a b c => h σ' H' S' a (sr.trans b) (st.trans c)
  | rt d Γ => exact fun v σ' H' Sv S' a b o d m c => h v σ' H' Sv S' a (sr.trans b) o d m (st.trans c)

theorem PE.weak {X : Cx} {e : Expr} {t t' : TE} (h : PE X e t) (w : ∀ σ H Q, t' σ H Q → t σ H Q) : PE X e t' := ⟨fun pins s σ H Q I k => h.run pins s σ H Q I (w σ H Q k)⟩
theorem PT.weak {X : Cx} {e : Expr} {t t' : TT} (h : PT X e t) (w : ∀ σ H Q, t' σ H Q → t σ H Q) : PT X e t' := ⟨fun pins s σ H Q I k => h.run pins s σ H Q I (w σ H Q k)⟩
theorem PA.weak {X : Cx} {e : List Expr} {t t' : TA} (h : PA X e t) (w : ∀ σ H Q, t' σ H Q → t σ H Q) : PA X e t' := ⟨fun pos pins s σ H Q I k => h.run pos pins s σ H Q I (w σ H Q k)⟩
theorem PS.weak {X : Cx} {e : Stmt} {t t' : TS} (h : PS X e t) (w : ∀ D σ H, t' D σ H → t D σ H) : PS X e t' := ⟨fun pins s σ H D I k => h.run pins s σ H D I (w D σ H k)⟩
theorem PSs.weak {X : Cx} {e : List Stmt} {t t' : TS} (h : PSs X e t) (w : ∀ D σ H, t' D σ H → t D σ H) : PSs X e t' := ⟨fun pins s σ H D I k => h.run pins s σ H D I (w D σ H k)⟩
theorem PG.weak {X : Cx} {e : Expr} {t t' : TG} (h : PG X e t) (w : ∀ v σ H Q, t' v σ H Q → t v σ H Q) : PG X e t' := ⟨fun pins s σ H v u Q I r k => h.run pins s σ H v u Q I r (w v σ H Q k)⟩
theorem PI.weak {X : Cx} {tg e : Expr} {t t' : TI} (h : PI X tg e t) (w : ∀ σ H Q, t' σ H Q → t σ H Q) : PI X tg e t' := ⟨fun pins s σ H Q I k => h.run pins s σ H Q I (w σ H Q k)⟩

/-- functions of data: they read, and give something new or unchanging -/
def OwnW (K : PySem.W.Frag) (H : Hp) (T : Reg) : List V → List D → Prop
  | [], [] => True
  | v :: vs, d :: ds => (∃ S, Own K H v d S ∧ ∀ a, S a → T a) ∧ OwnW K H T vs ds
  | _, _ => False
abbrev OwnV (K : PySem.W.Frag) (H : Hp) : List V → List D → Prop := OwnW K H fun _ => True
def rD (K : PySem.W.Frag) (φ : List D → Option D) : List V → Hp → VK → Prop := fun vs H Q => ∃ ds d, OwnV K H vs ds ∧ φ ds = some d ∧
  ∀ v H' Sv, Own K H' v d Sv → Ex H H' → (∀ a, Sv a → H a = none ∧ Mu (H' a)) → Q v H'
def rD2 (K : PySem.W.Frag) (f : D → D → Option D) : R2 := fun x y H Q => ∃ dx dy Sx Sy d, Own K H x dx Sx ∧ Own K H y dy Sy ∧ f dx dy = some d ∧
  ∀ v H' Sv, Own K H' v d Sv → Ex H H' → (∀ a, Sv a → H a = none ∧ Mu (H' a)) → Q v H'
def rD1 (K : PySem.W.Frag) (f : D → Option D) : V → Hp → VK → Prop := fun x H Q => ∃ dx Sx d, Own K H x dx Sx ∧ f dx = some d ∧
  ∀ v H' Sv, Own K H' v d Sv → Ex H H' → (∀ a, Sv a → H a = none ∧ Mu (H' a)) → Q v H'
theorem OwnW.ex {K : PySem.W.Frag} {H H' : Hp} {T : Reg} (e : Ex H H') : ∀ {vs : List V} {ds : List D}, OwnW K H T vs ds → OwnW K H' T vs ds
  | [], [], _ => trivial
  | _ :: _, _ :: _, ⟨⟨S, o, m⟩, r⟩ => ⟨⟨S, o.keep _ e.keeps, m⟩, r.ex e⟩
theorem OwnW.mono {K : PySem.W.Frag} {H : Hp} {T T' : Reg} (m : ∀ a, T a → T' a) : ∀ {vs : List V} {ds : List D}, OwnW K H T vs ds → OwnW K H T' vs ds
  | [], [], _ => trivial
  | _ :: _, _ :: _, ⟨⟨S, o, h⟩, r⟩ => ⟨⟨S, o, fun a z => m a (h a z)⟩, OwnW.mono m r⟩
theorem OwnW.any {K : PySem.W.Frag} {H : Hp} {T : Reg} {vs : List V} {ds : List D} (h : OwnW K H T vs ds) : OwnV K H vs ds := h.mono fun _ _ => trivial

/-! ### pure expressions -/
section
variable {X : Cx} {a b c e : Expr} {pos : Pos} {f1 f2 f3 : Bool} {qa qb qc : P}
def pName (i : Nat) : P := fun R Γ => look R Γ i
theorem v_name (i : Nat) {x : Str} (hN : X.N[i]? = some x := by rfl) (hv : Vis X.env.scope x := by first | exact Or.inl rfl | exact Or.inr (Or.inl rfl) | exact Or.inr (Or.inr rfl)) (hd : (x == ("__debug__" : Str)) = false := by decide)
    (hcd : (x == ("__classdict__" : Str)) = false := by decide) : PE X (.Name x pos) (tV X.K false (pName i)) :=
  PE.weak (pv i hN hv hd hcd) fun σ H Q ⟨R, SR, Γ, S, d, s, h, k⟩ => by
    obtain ⟨v, Sv, e1, o, m⟩ := s.look h
    exact ⟨v, e1, k v H Sv o (Ex.refl H) (fun x z => (m x z).imp_right .inl) (fun z => nomatch z)⟩
def pC (d : D) : P := fun _ _ => some d
theorem v_int {i : Int} {j} : PE X (.Constant (.int i) j pos) (tV X.K true (pC (.int i))) := PE.weak pe_int fun σ H Q ⟨R, SR, Γ, S, d, s, h, k⟩ => by
  cases h; exact k _ H No .int (Ex.refl H) (fun _ z => z.elim) (fun _ _ z => z.elim)
theorem v_str {z : Str} {j} : PE X (.Constant (.str z) j pos) (tV X.K true (pC (.str z))) := PE.weak pe_str fun σ H Q ⟨R, SR, Γ, S, d, s, h, k⟩ => by
  cases h; exact k _ H No .str (Ex.refl H) (fun _ z => z.elim) (fun _ _ z => z.elim)
theorem v_bl {z : Bool} {j} : PE X (.Constant (.bool z) j pos) (tV X.K true (pC (.bl z))) := PE.weak pe_bl fun σ H Q ⟨R, SR, Γ, S, d, s, h, k⟩ => by
  cases h; exact k _ H No .bl (Ex.refl H) (fun _ z => z.elim) (fun _ _ z => z.elim)
theorem v_non {j} : PE X (.Constant .none j pos) (tV X.K true (pC .non)) := PE.weak pe_non fun σ H Q ⟨R, SR, Γ, S, d, s, h, k⟩ => by
  cases h; exact k _ H No .non (Ex.refl H) (fun _ z => z.elim) (fun _ _ z => z.elim)
/-- a module's constant that is no object -/
theorem v_globI {x : Str} {i : Int} {t : Tok} (hm : X.mg x = some (.int i t)) (hg : Gl X x := by rfl) (hd : (x == ("__debug__" : Str)) = false := by decide) : PE X (.Name x pos) (tV X.K true (pC (.int i))) :=
  PE.weak (pe_glob (v := .int i) hg hm ⟨_, rfl⟩ hd) fun σ H Q ⟨R, SR, Γ, S, d, s, h, k⟩ => by
    cases h; exact k _ H No .int (Ex.refl H) (fun _ z => z.elim) (fun _ _ z => z.elim)
theorem v_globS {x : Str} {i : Str} {t : Tok} (hm : X.mg x = some (.str i t)) (hg : Gl X x := by rfl) (hd : (x == ("__debug__" : Str)) = false := by decide) : PE X (.Name x pos) (tV X.K true (pC (.str i))) :=
  PE.weak (pe_glob (v := .str i) hg hm ⟨_, rfl⟩ hd) fun σ H Q ⟨R, SR, Γ, S, d, s, h, k⟩ => by
    cases h; exact k _ H No .str (Ex.refl H) (fun _ z => z.elim) (fun _ _ z => z.elim)
/-- only what never changes may be kept twice -/
def pImm (p : P) : P := fun R Γ => match p R Γ with
  | some d => if d.imm = true then some d else none
  | none => none
theorem v_imm (h : PE X e (tV X.K false qa)) : PE X e (tV X.K true (pImm qa)) := PE.weak h fun σ H Q ⟨R, SR, Γ, S, d, s, e, k⟩ => by
  unfold pImm at e
  split at e
  · next d' e' =>
    split at e
    · next im =>
      cases e
      exact ⟨R, SR, Γ, S, d, s, e', fun v H' Sv o x _ _ => k v H' No (o.imm _ im) x (fun _ z => z.elim) (fun _ _ z => z.elim)⟩
    · cases e
  · cases e
theorem v_weak {f : Bool} (h : PE X e (tV X.K f qa)) : PE X e (tV X.K false qa) := PE.weak h fun σ H Q ⟨R, SR, Γ, S, d, s, e, k⟩ =>
  ⟨R, SR, Γ, S, d, s, e, fun v H' Sv o x g _ => k v H' Sv o x g (fun z => nomatch z)⟩
def pOp2 (f : D → D → Option D) (p q : P) : P := fun R Γ => match p R Γ with
  | some x => match q R Γ with
    | some y => f x y
    | none => none
  | none => none
theorem op2_weak {f : D → D → Option D} {σ : L2.St} {H : Hp} {Q : VK} {p q : P} (h : tV X.K true (pOp2 f p q) σ H Q) : tOp (rD2 X.K f) (tV X.K f1 p) (tV X.K f2 q) σ H Q := by
  obtain ⟨R, SR, Γ, S, d, s, e, k⟩ := h
  unfold pOp2 at e
  split at e
  · next x ex =>
    split at e
    · next y ey =>
      refine ⟨R, SR, Γ, S, x, s, ex, fun v H1 Sv o1 x1 _ _ => ⟨R, SR, Γ, S, y, s.ex x1, ey, fun w H2 Sw o2 x2 _ _ => ⟨x, y, _, _, d, o1.keep _ x2.keeps, o2, e, fun z H3 Sz o3 x3 g => ?_⟩⟩⟩
      exact k z H3 Sz o3 ((x1.trans x2).trans x3) (fun a q => .inr (.inr ((x1.trans x2).back (g a q).1))) fun _ a q => ⟨(x1.trans x2).back (g a q).1, (g a q).2⟩
    · cases e
  · cases e
theorem v_op {op : Operator} {f : D → D → Option D} (h : OpR X (binaryOp op) (rD2 X.K f)) (ha : PE X a (tV X.K f1 qa)) (hb : PE X b (tV X.K f2 qb)) : PE X (.BinOp a op b pos) (tV X.K true (pOp2 f qa qb)) :=
  PE.weak (pe_op h ha hb) fun _ _ _ h => op2_weak h
theorem v_cmp {op : CmpOp} {f : D → D → Option D} (h : OpR X (compareOp op) (rD2 X.K f)) (ha : PE X a (tV X.K f1 qa)) (hb : PE X b (tV X.K f2 qb)) (hm : behindInMarks op b = false := by first | exact nomark _ | rfl) : PE X (.Compare a [op] [b] pos) (tV X.K true (pOp2 f qa qb)) :=
  PE.weak (pe_cmpR h ha hb hm) fun _ _ _ h => op2_weak h
def pOp1 (f : D → Option D) (p : P) : P := fun R Γ => match p R Γ with
  | some x => f x
  | none => none
theorem un_weak {f : D → Option D} {σ : L2.St} {H : Hp} {Q : VK} {p : P} (h : tV X.K true (pOp1 f p) σ H Q) : tUn (rD1 X.K f) (tV X.K f1 p) σ H Q := by
  obtain ⟨R, SR, Γ, S, d, s, e, k⟩ := h
  unfold pOp1 at e
  split at e
  · next x ex =>
    refine ⟨R, SR, Γ, S, x, s, ex, fun v H1 Sv o1 x1 _ _ => ⟨x, _, d, o1, e, fun z H3 Sz o3 x3 g => ?_⟩⟩
    exact k z H3 Sz o3 (x1.trans x3) (fun a q => .inr (.inr (x1.back (g a q).1))) fun _ a q => ⟨x1.back (g a q).1, (g a q).2⟩
  · cases e
theorem v_un {op : UnaryOp} {f : D → Option D} {p : P} (h : UnR X (unaryOp op) (rD1 X.K f)) (ha : PE X a (tV X.K f1 p)) : PE X (.UnaryOp op a pos) (tV X.K true (pOp1 f p)) :=
  PE.weak (pe_un h ha) fun _ _ _ h => un_weak h
end
end DL
set_option Elab.async false
set_option linter.all false
set_option maxRecDepth 100000
namespace DL
open PySem PySem.Spec PyProof.Rows L2

/-! ### defs that are called where nothing is being shown (repr of a list asks for that) -/
structure FnG (P : Program) (w : World) (K : PySem.W.Frag) (mg : Str → Option Value) (base : Heap) (k : Nat) (f : Addr) (fd : FuncData) (ps : List Str) (sp : Sp) : Prop where
  len : ∀ vs H Q E, sp vs H Q E → vs.length = ps.length
  run : ∀ (A : Around) (fr : List Env) (z : Shared) (H : Hp) (ar : Args) (us : List Value) (vs : List V) (Q : VK) (E : XK), A.guards = some [] → Room k A → Env0 P w K mg base A fr z H →
    BindsTo z fd ar (ps.zip us) → Vals vs us → sp vs H Q E → codeAny (model P w) A (.call (.ref f) ar) (CR CX0 fr P w H z Q E) z
theorem FnG.imp {P : Program} {w : World} {K : PySem.W.Frag} {mg : Str → Option Value} {base : Heap} {k : Nat} {f : Addr} {fd : FuncData} {ps : List Str} {sp sp' : Sp} (F : FnG P w K mg base k f fd ps sp) (h : ∀ vs H Q E, sp' vs H Q E → sp vs H Q E) : FnG P w K mg base k f fd ps sp' :=
  ⟨fun vs H Q E z => F.len vs H Q E (h _ _ _ _ z), fun A fr z H ar us vs Q E g r e b v s => F.run A fr z H ar us vs Q E g r e b v (h _ _ _ _ s)⟩
theorem FnG.mono {P : Program} {w : World} {K : PySem.W.Frag} {mg : Str → Option Value} {base : Heap} {j k : Nat} {f : Addr} {fd : FuncData} {ps : List Str} {sp : Sp} (F : FnG P w K mg base j f fd ps sp) (h : j ≤ k) : FnG P w K mg base k f fd ps sp :=
  ⟨F.len, fun A fr z H ar us vs Q E g r e b v s => F.run A fr z H ar us vs Q E g (r.mono h) e b v s⟩
section
variable {X : Cx} {k : Nat} {f : Addr} {fd : FuncData} {ps : List Str} {sp : Sp} {x : Str} {p pos : Pos} {e : Expr} {es : List Expr} {t : TA}
def tCallG (sp : Sp) (t : TA) : TE := fun σ H Q => t σ H fun vs H1 => sp vs H1 Q E0
theorem run_fnG {pins : List (Addr × Obj)} {σ : L2.St} {H : Hp} {z : Shared} {Q : VK} {us : List Value} {vs : List V} (F : FnG X.prog X.w X.K X.mg X.base k f fd ps sp) (hgd : X.A.guards = some []) (hr : Room k X.A)
    (hb : Binds X.K fd ps []) (I : L2.Inv X pins σ H z) (r : Vals vs us) (h : sp vs H Q E0) : wpAny (model X.prog X.w) X.A (call (.ref f) us) (EP X pins σ Q) X.xe z := by
  have hl : us.length = ps.length := by rw [← r.length]; exact F.len _ _ _ _ h
  have hb' := hb z us I.kIn (by simpa using hl)
  rw [List.append_nil] at hb'
  refine wpAny_call (codeAny_mono (F.run X.A X.stack z H ⟨us, []⟩ us vs Q E0 hgd hr I.env0 hb' r h) fun r' z' hq => ?_)
  cases r' with
  | error e => exact hq.elim
  | ok fl => cases fl with
    | ret u => exact I.after hq
    | next => cases hq
    | brk => cases hq
    | cont => cases hq
theorem pe_callG (F : FnG X.prog X.w X.K X.mg X.base k f fd ps sp) (hgd : X.A.guards = some []) (hr : Room k X.A) (hg : Gl X x) (hm : X.mg x = some (.ref f)) (hk : PySem.W.keepIn X.K (.ref f) = true)
    (hb : Binds X.K fd ps []) (ha : PA X (e :: es) t) (hdb : (x == ("__debug__" : Str)) = false := by decide) (he : starEach (e :: es) X.env = (false, eval e X.env) :: starEach es X.env := by rfl)
    (hpl : (backTo pos (starEach es X.env)).any (·.1) = false := by rfl) : PE X (.Call (.Name x p) (e :: es) [] pos) (tCallG sp t) :=
  ⟨fun pins z σ H Q I h => wpAny_Call_Name_kw (ld_glob I hg hm (PySem.W.callWith_K (h₀ := X.base) I.ok.mod.kin hk
    (thn (ha.run pos pins z σ H _ I h) fun us z1 ⟨vs, H1, I1, r, q⟩ => ⟨I1.kIn, run_fnG F hgd hr hb I1 r q⟩) he hpl) hdb)⟩
end
/-- the rule for a def, by its body -/
theorem fn_body {P : Program} {w : World} {K : PySem.W.Frag} {mg : Str → Option Value} {base : Heap} {x qual : Str} {st : Stmt} {f : Addr} {fd : FuncData} {N ps : List Str} {k : Nat} {sp : Sp} (F : Fun K x qual st f fd) (S : FnScope N ps (defScope st))
    (len : ∀ vs H Q E, sp vs H Q E → vs.length = ps.length)
    (body : ∀ (cdv : Value) (A : Around) (fr : List Env) (z : Shared) (H : Hp) (vs : List V) (Q : VK) (E : XK), A.guards = some [] → Room k (A.deeper (envOfC qual (defScope st) z.heap.objs.size f cdv)) → sp vs H Q E →
      ∃ t, PSs (cxOf CX0 P w K mg base N qual (defScope st) f cdv A fr z H E).nox (defBody st) t ∧ t { nx := fun _ H' => Q .non H', rt := Q } (start N vs) H) : FnG P w K mg base (k + 1) f fd ps sp := by
  obtain ⟨oc, od, kV, doc, pm, an, cdv, ct, osl, rfl, lk, hcd⟩ := F.ex
  refine ⟨len, fun A fr z H ar us vs Q E hgd hr e0 hb r hsp => ?_⟩
  have hl := len _ _ _ _ hsp
  have KZ : K.In z.heap := e0.mod.kin.keeps fun b o h => (e0.bs b o h).1
  have lim : z.heap.NoLimit := e0.mod.nolimit.keeps fun b o h => (e0.bs b o h).1
  have knd : ∀ y ∈ ps.zip us, (defScope st).names.lookup y.1 = some .local ∨ ((defScope st).names.lookup y.1 = some .cell ∧ ((cellsFrom (z.heap.objs.size + 1) (defScope st).names []).lookup y.1).isSome = true) := fun ⟨n, v⟩ hy =>
    (S.par n (List.of_mem_zip hy).1).imp_right fun q => ⟨q, PySem.W.cellsFrom_some _ _ _ (.inl q)⟩
  refine codeAny_call_function hr.depth (KZ _ _ lk) rfl S.co S.gen rfl (PySem.W.codeRec_of KZ hcd) (hb _ _ _ _ (wpAny_newFunctionEnv_cells S.kind knd fun env he z1 q => ?_))
  subst he
  refine ⟨lim.keeps q.toInCall.keep, codeAny_func ?_⟩
  obtain ⟨t, ht, hq⟩ := body cdv A fr z H vs Q E hgd (hr.deeper _) hsp
  have I : L2.Inv (cxOf CX0 P w K mg base N qual (defScope st) f cdv A fr z H E) [] (start N vs) H z1 := inv_start S hr.hd e0 hl r q
  refine wpAny_mono (ht.nox.run [] z1 (start N vs) H _ I hq) (fun fl z' hs => ?_) fun e z' hs => hs
  have fin : ∀ {σ' : L2.St} {H' : Hp} {v : V} {u : Value}, L2.Inv (cxOf CX0 P w K mg base N qual (defScope st) f cdv A fr z H E) [] σ' H' z' → RelV v u → Q v H' → CE fr P w H z Q u z' :=
    fun {σ' H' v u} J rv q => ⟨v, H', J.os, J.bare, J.base, J.hok, rv, q⟩
  cases fl with
  | ret u => obtain ⟨v, σ', H', J, rv, q⟩ := hs; exact fin J rv q
  | next => obtain ⟨σ', H', J, q⟩ := hs; exact fin (v := .non) (u := .none) J rfl q
  | brk => obtain ⟨_, _, _, q⟩ := hs; cases q
  | cont => obtain ⟨_, _, _, q⟩ := hs; cases q

/-! ### the end: the law called upon the script -/
theorem law_from {P : Program} {w : World} {K : PySem.W.Frag} {mg mb : Str → Option Value} {k : Nat} {fa a : Addr} {fd : FuncData} {x : Str} {sp : Sp} {z : Shared} {us : List Value} {H : Hp}
    (kz : K.In z.heap) (gl : z.heap.Ns mainGlobals mg) (bl : z.heap.Ns builtinsNs mb) (bb : ∀ y : Str, y ≠ "__name__" → mb y = bootBuiltins y) (nl : z.heap.NoLimit) (gn : z.gens = #[])
    (ob : z.heap.get? a = some { cls := .type "list", data := .seq us.toArray }) (room : Room k callerA)
    (F : ∀ base : Heap, K.In base → base.Ns mainGlobals mg → FnG P w K mg base k fa fd [x] sp) (bnd : ∀ (s : Shared) (u : Value), BindsTo s fd ⟨[u], []⟩ [(x, u)])
    (good : sp [.ref a] H (fun v _ => v = .bl true) fun _ _ _ => False)
    (only : Only H) (ok : HOk P w H z.heap) (at1 : ∀ b, H b ≠ none → b = a) (noK : H a ≠ none → K.lookup a = none) :
    codeAny (model P w) callerA (.call (.ref fa) ⟨[.ref a], []⟩) (fun r z' => r = .ok (.ret (.bool true)) ∧ OldK z.heap z'.heap ∧ z'.os = z.os ∧ AllBare z'.gens) z := by
  have free : ∀ b, b ≠ a → H b = none := fun b n => by
    cases q : H b with
    | none => rfl
    | some u => exact absurd (at1 b (by rw [q]; simp)) n
  have free2 : ∀ {b : Addr} {o : Obj} {es : Array DictEntry} {ep : Nat}, z.heap.get? b = some o → o.data = .dict es ep → H b = none := fun {b o es ep} e d => free b fun q => by
    rw [q, ob] at e
    cases e
    exact nomatch (show Data.seq us.toArray _ = Data.dict es ep from d)
  have tr : ∀ {b : Addr} {m : Str → Option Value}, z.heap.Ns b m → (hidT z.heap H).Ns b m := fun {b m} ⟨o, es, ep, e, d, r⟩ => ⟨o, es, ep, hidT_get e (free2 e d), d, r⟩
  have kb : K.In (hidT z.heap H) := fun b o e => hidT_get (kz b o e) (by
    by_cases q : b = a
    · cases r : H b with
      | none => rfl
      | some u => rw [q] at e r; rw [noK (by rw [r]; simp)] at e; cases e
    · exact free b q)
  have md : Mod K mg (hidT z.heap H) := ⟨kb, tr gl, ⟨mb, tr bl, bb⟩, nl.elim fun mc h => ⟨mc, tr h.1, h.2⟩⟩
  have e0 : Env0 P w K mg (hidT z.heap H) callerA [] z H := ⟨rfl, md, fun b o e => of_hidT e, Nat.le_of_eq (hidT_size _ _), trivial, fun b hb => (nomatch (show b ∈ ([] : List Addr) from hb)), ok, .of_eq gn⟩
  refine codeAny_mono ((F _ kb (tr gl)).run callerA [] z H ⟨[.ref a], []⟩ [.ref a] [.ref a] _ _ rfl room e0 (bnd z (.ref a)) (.cons rfl .nil) good) fun r z' h => ?_
  cases r with
  | error e => exact h.elim
  | ok fl => cases fl with
    | next => cases h
    | brk => cases h
    | cont => cases h
    | ret u =>
      obtain ⟨v, H', os, bare, un, ok', r', q⟩ := h
      obtain rfl : v = .bl true := q
      obtain rfl : u = Value.bool true := r'
      refine ⟨rfl, OldK.of_keep fun b o e => ?_, os, bare⟩
      cases q : H b with
      | none => exact un.keep b o e q (fun y => nomatch (show b ∈ ([] : List Addr) from y)) (by simp)
      | some y => rcases only b with n | ⟨o1, xs, n⟩
                  · rw [q] at n; cases n
                  · have e1 := (ok b _ n).1
                    have e2 := (ok' b _ (un.frzs b o1 _ n)).1
                    rw [e] at e1; cases e1; exact e2
theorem walkG {l : PySem.W.OpenLaw} {n k : Nat} {q : Program} {loose : List Str} {XP : (Str → Option Value) → Heap → Prop} {YP : World → Heap → Prop} {d : DefRec} {K : Params → PySem.W.Frag} {sp : World → Sp} {x : Str}
    (hn : l.most = some n) (hn2 : n ≤ sizeLine) (hdf : d.params.defaults = []) (room : Room k callerA) (hY : ∀ (w : World) (h : Heap), YP w h → (K w.params).In h)
    (F : ∀ (w : World) (mg : Str → Option Value) (fa : Addr) (h : Heap), (K w.params).In h → h.Ns mainGlobals mg → mg d.name = some (.ref fa) → ∃ fd : FuncData, (∀ (s : Shared) (u : Value), BindsTo s fd ⟨[u], []⟩ [(x, u)]) ∧
      ∀ base : Heap, (K w.params).In base → base.Ns mainGlobals mg → FnG l.prog w (K w.params) mg base k fa fd [x] (sp w))
    (good : ∀ (w : World) (H : Hp) (a : Addr) (ns : List Int), ns.length ≤ n → Own (K w.params) H (.ref a) (.fz (ns.map .int)) No → sp w [.ref a] H (fun v _ => v = .bl true) fun _ _ _ => False) :
    PySem.W.WalkO q loose XP YP l.row.toRowW d [] (fun f vs => PySem.call f vs) := by
  refine Att.attach_call hn hdf fun w s₀ z mg mb fa o pm cd doc a us ns G Y ho hd hcd hmg ob isI len gn => ?_
  have kz := hY w _ Y
  obtain ⟨fd, hb, hF⟩ := F w mg fa _ kz G.T.g hmg
  have rv := vals_ints isI
  have il := isI.length
  have own : ∀ H : Hp, OwnL (K w.params) H (ns.map V.int) (ns.map D.int) No := fun H => by
    clear len isI rv il
    induction ns with
    | nil => exact .nil
    | cons i r ih => exact .consI .int ih
  cases hk : (K w.params).lookup a with
  | some o1 =>
    have e := kz a o1 hk
    rw [ob] at e
    cases e
    have sq : ∀ H', SqL (K w.params) H' a (ns.map V.int) := fun H' => .inr ⟨_, us.toArray, _, hk, rfl, rfl, rfl, by rw [List.size_toArray, il]; exact Nat.le_trans len hn2, by simpa using rv⟩
    exact law_from (H := fun _ => none) kz G.T.g G.T.b G.T.builtins G.T.nolimit gn ob room hF hb (good w _ a ns len (.fz (.inr sq) (own _))) (fun _ => .inl rfl) (fun b u y => nomatch (show (none : Option HO) = some u from y)) (fun b y => absurd rfl y) fun y => absurd rfl y
  | none =>
    refine law_from (H := fun b => if b = a then some (.frz { cls := .type "list", data := .seq us.toArray } (.lst (ns.map V.int))) else none) kz G.T.g G.T.b G.T.builtins G.T.nolimit gn ob room hF hb
      (good w _ a ns len (.fz (.inl ⟨_, if_pos rfl⟩) (own _))) (fun b => ?_) (fun b u y => ?_) (fun b y => ?_) fun _ => hk
    · by_cases c : b = a
      · exact .inr ⟨_, _, if_pos c⟩
      · exact .inl (if_neg c)
    · by_cases c : b = a
      · cases (if_pos c).symm.trans y
        subst c
        exact ⟨ob, by rw [List.length_map]; exact Nat.le_trans len hn2, us, _, rv, ob⟩
      · cases (if_neg c).symm.trans y
    · exact Classical.byContradiction fun c => y (if_neg c)
end DL
set_option Elab.async false
set_option linter.all false
set_option maxRecDepth 100000
namespace DL
open PySem L2

/-! ### argument lists: views; new items -/
abbrev PL := Rc → En → Option (List D)
def tVA (K : PySem.W.Frag) (ps : PL) : TA := fun σ H Q => ∃ R SR Γ S ds, St K σ H R SR Γ S ∧ ps R Γ = some ds ∧ ∀ vs H', OwnW K H' (fun a => SR a ∨ S a ∨ H a = none) vs ds → Ex H H' → Q vs H'
def tFA (K : PySem.W.Frag) (ps : PL) : TA := fun σ H Q => ∃ R SR Γ S ds, St K σ H R SR Γ S ∧ ps R Γ = some ds ∧
  ∀ vs H' Sv, OwnL K H' vs ds Sv → Ex H H' → (∀ a, Sv a → H a = none ∧ Mu (H' a)) → Q vs H'
def psNil : PL := fun _ _ => some []
def psCons (p : P) (ps : PL) : PL := fun R Γ => match p R Γ with
  | some d => match ps R Γ with
    | some ds => some (d :: ds)
    | none => none
  | none => none
section
variable {X : Cx} {a b c e : Expr} {es : List Expr} {pos : Pos} {f1 f2 f3 : Bool} {qa qb qc : P} {ps : PL}
theorem va_nil : PA X [] (tVA X.K psNil) := PA.weak pa_nil fun σ H Q ⟨R, SR, Γ, S, ds, s, h, k⟩ => by
  cases h; exact k [] H trivial (Ex.refl H)
theorem va_cons (he : PE X e (tV X.K f1 qa)) (hr : PA X es (tVA X.K ps)) (hs : starEach (e :: es) X.env = (false, eval e X.env) :: starEach es X.env := by rfl) : PA X (e :: es) (tVA X.K (psCons qa ps)) :=
  PA.weak (pa_cons he hr hs) fun σ H Q ⟨R, SR, Γ, S, ds, s, h, k⟩ => by
    unfold psCons at h
    split at h
    · next d ed =>
      split at h
      · next ds' eds =>
        cases h
        refine ⟨R, SR, Γ, S, _, s, ed, fun v H1 Sv o1 x1 g1 _ => ⟨R, SR, Γ, S, _, s.ex x1, eds, fun vs H2 o2 x2 => ?_⟩⟩
        exact k (v :: vs) H2 ⟨⟨_, o1.keep _ x2.keeps, g1⟩, o2.mono fun a z => z.imp_right fun q => q.imp_right x1.back⟩ (x1.trans x2)
      · cases h
    · cases h
theorem fa_nil : PA X [] (tFA X.K psNil) := PA.weak pa_nil fun σ H Q ⟨R, SR, Γ, S, ds, s, h, k⟩ => by
  cases h; exact k [] H No .nil (Ex.refl H) (fun _ z => z.elim)
theorem fa_cons (he : PE X e (tV X.K true qa)) (hr : PA X es (tFA X.K ps)) (hs : starEach (e :: es) X.env = (false, eval e X.env) :: starEach es X.env := by rfl) : PA X (e :: es) (tFA X.K (psCons qa ps)) :=
  PA.weak (pa_cons he hr hs) fun σ H Q ⟨R, SR, Γ, S, ds, s, h, k⟩ => by
    unfold psCons at h
    split at h
    · next d ed =>
      split at h
      · next ds' eds =>
        cases h
        refine ⟨R, SR, Γ, S, _, s, ed, fun v H1 Sv o1 x1 _ g1 => ⟨R, SR, Γ, S, _, s.ex x1, eds, fun vs H2 Sw o2 x2 g2 => ?_⟩⟩
        refine k (v :: vs) H2 (fun x => Sv x ∨ Sw x) (.cons (o1.keep _ x2.keeps) o2 (fun x z1 z2 => ?_) (fun x z => .inl z) (fun x z => .inr z)) (x1.trans x2) (fun x z => ?_)
        · exact Mu.some (g1 rfl x z1).2 (g2 x z2).1
        · rcases z with z | z
          · refine ⟨(g1 rfl x z).1, ?_⟩
            have m := (g1 rfl x z).2
            cases q : H1 x with
            | none => rw [q] at m; exact m.elim
            | some o => rw [x2 x o q, ← q]; exact m
          · exact ⟨x1.back (g2 x z).1, (g2 x z).2⟩
      · cases h
    · cases h
def pTup (ps : PL) : P := fun R Γ => match ps R Γ with
  | some ds => if ds.length ≤ 100000 then some (.tup ds) else none
  | none => none
def pLst (ps : PL) : P := fun R Γ => match ps R Γ with
  | some ds => if ds.length ≤ 100000 then some (.lst ds) else none
  | none => none
theorem sz5 {n : Nat} (h : n ≤ 100000) : n ≤ sizeLine := Nat.le_trans h (by decide)
theorem v_tup {x1} (h : PA X es (tFA X.K ps)) : PE X (.Tuple es x1 pos) (tV X.K true (pTup ps)) := PE.weak (pe_tup h) fun σ H Q ⟨R, SR, Γ, S, d, s, e, k⟩ => by
  unfold pTup at e
  split at e
  · next ds eds =>
    split at e
    · next hl =>
      cases e
      refine ⟨R, SR, Γ, S, ds, s, eds, fun vs H' Sv o x g => ⟨by rw [o.length]; exact sz5 hl, fun p hp => ?_⟩⟩
      exact k _ _ Sv (.tup (.of upd_same) (o.keep _ (Ex.new hp).keeps)) (x.trans (Ex.new hp)) (fun a z => .inr (.inr (g a z).1)) fun _ a z => ⟨(g a z).1, by
        rw [upd_ne (fun q => by rw [q] at z; have := (g p z).2; rw [hp] at this; exact this.elim)]
        exact (g a z).2⟩
    · cases e
  · cases e
theorem v_lst (h : PA X es (tFA X.K ps)) : PE X (.List es pos) (tV X.K true (pLst ps)) := PE.weak (pe_lst h) fun σ H Q ⟨R, SR, Γ, S, d, s, e, k⟩ => by
  unfold pLst at e
  split at e
  · next ds eds =>
    split at e
    · next hl =>
      cases e
      refine ⟨R, SR, Γ, S, ds, s, eds, fun vs H' Sv o x g => ⟨by rw [o.length]; exact sz5 hl, fun p hp => ?_⟩⟩
      have ne : ∀ a, Sv a → a ≠ p := fun a z q => by rw [q] at z; have := (g p z).2; rw [hp] at this; exact this.elim
      refine k _ _ (fun a => Sv a ∨ a = p) (.lst upd_same (.inr rfl) (o.keep _ (Ex.new hp).keeps) (fun a z => ⟨.inl z, ne a z⟩)) (x.trans (Ex.new hp)) (fun a z => ?_) fun _ a z => ?_
      · rcases z with z | z
        · exact .inr (.inr (g a z).1)
        · rw [z]; exact .inr (.inr (x.back hp))
      · rcases z with z | z
        · exact ⟨(g a z).1, by rw [upd_ne (ne a z)]; exact (g a z).2⟩
        · rw [z]; exact ⟨x.back hp, by rw [upd_same]; trivial⟩
    · cases e
  · cases e

/-! ### calls -/
def pCall (φ : List D → Option D) (ps : PL) : P := fun R Γ => match ps R Γ with
  | some ds => φ ds
  | none => none
theorem call_weak {φ : List D → Option D} {σ : L2.St} {H : Hp} {Q : VK} (h : tV X.K true (pCall φ ps) σ H Q) : tVA X.K ps σ H fun vs H1 => rD X.K φ vs H1 Q := by
  obtain ⟨R, SR, Γ, S, d, s, e, k⟩ := h
  unfold pCall at e
  split at e
  · next ds eds =>
    refine ⟨R, SR, Γ, S, ds, s, eds, fun vs H1 o1 x1 => ⟨ds, d, o1.any, e, fun z H3 Sz o3 x3 g => ?_⟩⟩
    exact k z H3 Sz o3 (x1.trans x3) (fun a q => .inr (.inr (x1.back (g a q).1))) fun _ a q => ⟨x1.back (g a q).1, (g a q).2⟩
  · cases e
theorem v_callB {x : Str} {p : Pos} {id : String} {φ : List D → Option D} (hc : CallR X (.builtin id) (rD X.K φ)) (hm : X.mg x = none) (hv : bootBuiltins x = some (.builtin id)) (ha : PA X (e :: es) (tVA X.K ps)) (hg : Gl X x := by rfl) (hn : x ≠ "__name__" := by decide) (hdb : (x == ("__debug__" : Str)) = false := by decide)
    (he : starEach (e :: es) X.env = (false, eval e X.env) :: starEach es X.env := by rfl) (hpl : (backTo pos (starEach es X.env)).any (·.1) = false := by rfl) : PE X (.Call (.Name x p) (e :: es) [] pos) (tV X.K true (pCall φ ps)) :=
  PE.weak (pe_callB hc hg hm hv ha hn hdb he hpl) fun _ _ _ h => call_weak h
theorem v_callT {x : Str} {p : Pos} {id : String} {φ : List D → Option D} (hc : CallR X (.type id) (rD X.K φ)) (hm : X.mg x = none) (hv : bootBuiltins x = some (.type id)) (ha : PA X (e :: es) (tVA X.K ps)) (hg : Gl X x := by rfl) (hn : x ≠ "__name__" := by decide) (hdb : (x == ("__debug__" : Str)) = false := by decide)
    (he : starEach (e :: es) X.env = (false, eval e X.env) :: starEach es X.env := by rfl) (hpl : (backTo pos (starEach es X.env)).any (·.1) = false := by rfl) : PE X (.Call (.Name x p) (e :: es) [] pos) (tV X.K true (pCall φ ps)) :=
  PE.weak (pe_callTy hc hg hm hv ha hn hdb he hpl) fun _ _ _ h => call_weak h
/-- the promise of a def that reads alone -/
def spP (K : PySem.W.Frag) (n : Nat) (φ : List D → Option D) : Sp := fun vs H Q _ => vs.length = n ∧ rD K φ vs H Q
/-- one of the program's own, as it stands: its promise and all that a call asks -/
structure Own1 (P : Program) (w : World) (K : PySem.W.Frag) (mg : Str → Option Value) (base : Heap) (k : Nat) (x : Str) (n : Nat) (φ : List D → Option D) : Prop where
  ex : ∃ f fd ps, FnG P w K mg base k f fd ps (spP K n φ) ∧ mg x = some (.ref f) ∧ PySem.W.keepIn K (.ref f) = true ∧ Binds K fd ps []
theorem OwnW.length {K : PySem.W.Frag} {H : Hp} {T : Reg} : ∀ {vs : List V} {ds : List D}, OwnW K H T vs ds → vs.length = ds.length
  | [], [], _ => rfl
  | _ :: _, _ :: _, ⟨_, r⟩ => by simp [r.length]
def arity (n : Nat) (φ : List D → Option D) : List D → Option D := fun ds => if ds.length = n then φ ds else none
theorem v_own {k n : Nat} {x : Str} {p : Pos} {φ : List D → Option D} (F : Own1 X.prog X.w X.K X.mg X.base k x n φ) (hgd : X.A.guards = some []) (hr : Room k X.A) (ha : PA X (e :: es) (tVA X.K ps)) (hg : Gl X x := by rfl) (hdb : (x == ("__debug__" : Str)) = false := by decide)
    (he : starEach (e :: es) X.env = (false, eval e X.env) :: starEach es X.env := by rfl) (hpl : (backTo pos (starEach es X.env)).any (·.1) = false := by rfl) : PE X (.Call (.Name x p) (e :: es) [] pos) (tV X.K true (pCall (arity n φ) ps)) := by
  obtain ⟨f, fd, pr, G, hm, kp, b⟩ := F.ex
  refine PE.weak (pe_callG G hgd hr hg hm kp b ha hdb he hpl) fun σ H Q h => ?_
  obtain ⟨R, SR, Γ, S, d, s, e, k⟩ := h
  unfold pCall at e
  split at e
  · next ds eds =>
    unfold arity at e
    split at e
    · next hl =>
      refine ⟨R, SR, Γ, S, ds, s, eds, fun vs H1 o1 x1 => ?_⟩
      refine ⟨by rw [o1.length, hl], ds, d, o1.any, e, fun z H3 Sz o3 x3 g => ?_⟩
      exact k z H3 Sz o3 (x1.trans x3) (fun a q => .inr (.inr (x1.back (g a q).1))) fun _ a q => ⟨x1.back (g a q).1, (g a q).2⟩
    · cases e
  · cases e

/-! ### tests -/
def truD : D → Option Bool
  | .non => some false
  | .bl b => some b
  | .int i => some (i != 0)
  | .str z => if z.length ≤ 100000 then some (z.length != 0) else none
  | .tup ds => some (!ds.isEmpty)
  | .lst ds => some (!ds.isEmpty)
  | .fz ds => some (!ds.isEmpty)
  | .dct ks _ => some (!ks.isEmpty)
def pTru (p : P) : PB := fun R Γ => match p R Γ with
  | some d => truD d
  | none => none
theorem isEmpty_len {α β : Type} {xs : List α} {ys : List β} (h : xs.length = ys.length) : xs.isEmpty = ys.isEmpty := by
  cases xs <;> cases ys <;> simp_all
theorem tru_of {K : PySem.W.Frag} {H : Hp} {v : V} {d : D} {S : Reg} {b : Bool} (o : Own K H v d S) (h : truD d = some b) : TruV K v H b := by
  cases o with
  | non => simpa [truD, TruV, eq_comm] using h
  | bl => simpa [truD, TruV, eq_comm] using h
  | int => simpa [truD, TruV, eq_comm] using h
  | str =>
    rename_i z
    have h : (if z.length ≤ 100000 then some (z.length != 0) else none) = some b := h
    split at h
    · next hl =>
      cases h
      refine ⟨sz5 hl, ?_⟩
      cases q : z.length with
      | zero => rfl
      | succ n =>
        have e1 : (n + 1 != 0) = true := by simp
        have e2 : ((((n + 1 : Nat) : Int)) != 0) = true := by simp; omega
        rw [e1, e2]
    · cases h
  | tup h1 h2 => exact .inr (.inl ⟨_, h1, by rw [isEmpty_len h2.length]; exact (Option.some.inj h).symm⟩)
  | lst h1 h2 h3 h4 => exact .inl ⟨_, .of h1, by rw [isEmpty_len h3.length]; exact (Option.some.inj h).symm⟩
  | fz h1 h2 =>
    refine .inl ⟨_, ?_, by rw [isEmpty_len h2.length]; exact (Option.some.inj h).symm⟩
    rcases h1 with ⟨o, e⟩ | h1
    · exact .inl (.inr ⟨o, e⟩)
    · exact h1 H
  | dct h1 h2 h5 h3 h4 => exact .inr (.inr ⟨_, h1, by rw [← isEmpty_len (List.length_map (as := _) (f := fun x : Key × V => x.1))]; exact (Option.some.inj h).symm⟩)
theorem vt_val (h : PE X e (tV X.K f1 qa)) (he : ∀ whole, isTrue e X.env whole = (do let v ← whole; standAt e.pos; holding [v] (truthy v)) := by intro _; rfl) : PT X e (tVB X.K (pTru qa)) :=
  PT.weak (pt_truth h he) fun σ H Q ⟨R, SR, Γ, S, b, s, e, k⟩ => by
    unfold pTru at e
    split at e
    · next d ed => exact ⟨R, SR, Γ, S, d, s, ed, fun v H' Sv o x _ _ => ⟨b, tru_of o e, k H' x⟩⟩
    · cases e
def blD : Option D → Option Bool
  | some (.bl b) => some b
  | _ => none
theorem blD_some {o : Option D} {b : Bool} (h : blD o = some b) : o = some (.bl b) := by
  unfold blD at h
  split at h
  · cases h; rfl
  · cases h
def pB (p : P) : PB := fun R Γ => blD (p R Γ)
theorem test_of {σ : L2.St} {H : Hp} {Q : Bool → Hp → Prop} {p : P} {t : TE} (h : tVB X.K (pB p) σ H Q) (w : ∀ Q' : VK, tV X.K true p σ H Q' → t σ H Q') : tTest t σ H Q := by
  obtain ⟨R, SR, Γ, S, b, s, e, k⟩ := h
  exact w _ ⟨R, SR, Γ, S, .bl b, s, blD_some e, fun v H' Sv o x _ _ => by cases o; exact ⟨b, rfl, k H' x⟩⟩
theorem vt_cmp {op : CmpOp} {f : D → D → Option D} (h : OpR X (compareOp op) (rD2 X.K f)) (ha : PE X a (tV X.K f1 qa)) (hb : PE X b (tV X.K f2 qb)) (hm : behindInMarks op b = false := by first | exact nomark _ | rfl) : PT X (.Compare a [op] [b] pos) (tVB X.K (pB (pOp2 f qa qb))) :=
  PT.weak (pt_cmpR h ha hb hm) fun _ _ _ h => test_of h fun _ h => op2_weak h
def pChain (f g : D → D → Option D) (p q r : P) : P := fun R Γ => match p R Γ, q R Γ with
  | some x, some y => match f x y with
    | some (.bl true) => match r R Γ with
      | some z => g y z
      | none => none
    | some (.bl false) => some (.bl false)
    | _ => none
  | _, _ => none
theorem chain_weak {f g : D → D → Option D} {σ : L2.St} {H : Hp} {Q : VK} (h : tV X.K true (pChain f g qa qb qc) σ H Q) : tChain (rD2 X.K f) (rD2 X.K g) (tV X.K f1 qa) (tV X.K f2 qb) (tV X.K f3 qc) σ H Q := by
  obtain ⟨R, SR, Γ, S, d, s, e, k⟩ := h
  unfold pChain at e
  split at e
  · next x y ex ey =>
    refine ⟨R, SR, Γ, S, x, s, ex, fun v H1 Sv o1 x1 _ _ => ⟨R, SR, Γ, S, y, s.ex x1, ey, fun w H2 Sw o2 x2 _ _ => ?_⟩⟩
    have o1' := o1.keep _ (S := Sv) (H' := H2) x2.keeps
    split at e
    · next ef =>
      refine ⟨x, y, _, _, _, o1', o2, ef, fun z H3 Sz o3 x3 g3 => ?_⟩
      cases o3
      refine ⟨true, rfl, ?_⟩
      refine iteT ?_
      split at e
      · next z ez =>
        refine ⟨R, SR, Γ, S, z, s.ex ((x1.trans x2).trans x3), ez, fun u H4 Su o4 x4 _ _ => ⟨y, z, _, _, d, o2.keep _ (x3.trans x4).keeps, o4, e, fun t H5 St' o5 x5 g5 => ?_⟩⟩
        have xx := ((x1.trans x2).trans x3).trans x4
        exact k t H5 St' o5 (xx.trans x5) (fun a q => .inr (.inr (xx.back (g5 a q).1))) fun _ a q => ⟨xx.back (g5 a q).1, (g5 a q).2⟩
      · cases e
    · next ef =>
      refine ⟨x, y, _, _, _, o1', o2, ef, fun z H3 Sz o3 x3 g3 => ?_⟩
      cases o3
      refine ⟨false, rfl, ?_⟩
      refine iteF ?_
      cases e
      exact k _ H3 No .bl ((x1.trans x2).trans x3) (fun _ z => z.elim) (fun _ _ z => z.elim)
    · cases e
  · cases e
theorem v_chain {op op' : CmpOp} {f g : D → D → Option D} (h : OpR X (compareOp op) (rD2 X.K f)) (h' : OpR X (compareOp op') (rD2 X.K g)) (ha : PE X a (tV X.K f1 qa)) (hb : PE X b (tV X.K f2 qb)) (hc : PE X c (tV X.K f3 qc))
    (hm : lastMarks [op, op'] [b, c] = false := by with_unfolding_all rfl) : PE X (.Compare a [op, op'] [b, c] pos) (tV X.K true (pChain f g qa qb qc)) := PE.weak (pe_chain h h' ha hb hc hm) fun _ _ _ h => chain_weak h
theorem vt_chain {op op' : CmpOp} {f g : D → D → Option D} (h : OpR X (compareOp op) (rD2 X.K f)) (h' : OpR X (compareOp op') (rD2 X.K g)) (ha : PE X a (tV X.K f1 qa)) (hb : PE X b (tV X.K f2 qb)) (hc : PE X c (tV X.K f3 qc))
    (hm : lastMarks [op, op'] [b, c] = false := by with_unfolding_all rfl) : PT X (.Compare a [op, op'] [b, c] pos) (tVB X.K (pB (pChain f g qa qb qc))) := PT.weak (pt_chain h h' ha hb hc hm) fun _ _ _ h => test_of h fun _ h => chain_weak h
def bNot (p : PB) : PB := fun R Γ => match p R Γ with
  | some b => some (!b)
  | none => none
def bAnd (p q : PB) : PB := fun R Γ => match p R Γ with
  | some true => q R Γ
  | some false => some false
  | none => none
def bOr (p q : PB) : PB := fun R Γ => match p R Γ with
  | some true => some true
  | some false => q R Γ
  | none => none
variable {ba bb : PB} {rest : List Expr}
theorem vt_not (h : PT X a (tVB X.K ba)) : PT X (.UnaryOp .Not a pos) (tVB X.K (bNot ba)) := PT.weak (pt_not h) fun σ H Q ⟨R, SR, Γ, S, b, s, e, k⟩ => by
  unfold bNot at e
  split at e
  · next b' eb =>
    cases e
    exact ⟨R, SR, Γ, S, b', s, eb, k⟩
  · cases e
theorem PW.weak {e : Expr} {t t' : TT} (h : PW X e t) (w : ∀ σ H Q, t' σ H Q → t σ H Q) : PW X e t' := ⟨fun wh pins s σ H Q I k => h.run wh pins s σ H Q I (w σ H Q k)⟩
theorem wand_weak {σ : L2.St} {H : Hp} {Q : Bool → Hp → Prop} (h : tVB X.K (bAnd ba bb) σ H Q) : tAnd (tVB X.K ba) (tVB X.K bb) σ H Q := by
  obtain ⟨R, SR, Γ, S, b, s, e, k⟩ := h
  unfold bAnd at e
  split at e
  · next e1 =>
    refine ⟨R, SR, Γ, S, true, s, e1, fun H' x => ?_⟩
    refine iteT ?_
    exact ⟨R, SR, Γ, S, b, s.ex x, e, fun H2 x2 => k H2 (x.trans x2)⟩
  · next e1 =>
    cases e
    refine ⟨R, SR, Γ, S, false, s, e1, fun H' x => ?_⟩
    refine iteF ?_
    exact k H' x
  · cases e
theorem wor_weak {σ : L2.St} {H : Hp} {Q : Bool → Hp → Prop} (h : tVB X.K (bOr ba bb) σ H Q) : tOr (tVB X.K ba) (tVB X.K bb) σ H Q := by
  obtain ⟨R, SR, Γ, S, b, s, e, k⟩ := h
  unfold bOr at e
  split at e
  · next e1 =>
    cases e
    refine ⟨R, SR, Γ, S, true, s, e1, fun H' x => ?_⟩
    refine iteT ?_
    exact k H' x
  · next e1 =>
    refine ⟨R, SR, Γ, S, false, s, e1, fun H' x => ?_⟩
    refine iteF ?_
    exact ⟨R, SR, Γ, S, b, s.ex x, e, fun H2 x2 => k H2 (x.trans x2)⟩
  · cases e
theorem vw_and1 (h : PT X a (tVB X.K ba)) : PW X (.BoolOp .And [a] pos) (tVB X.K ba) := pw_and1 h
theorem vw_and (h : PT X a (tVB X.K ba)) (h2 : PW X (.BoolOp .And (b :: rest) pos) (tVB X.K bb)) : PW X (.BoolOp .And (a :: b :: rest) pos) (tVB X.K (bAnd ba bb)) := PW.weak (pw_and h h2) fun _ _ _ h => wand_weak h
theorem vw_or1 (h : PT X a (tVB X.K ba)) : PW X (.BoolOp .Or [a] pos) (tVB X.K ba) := pw_or1 h
theorem vw_or (h : PT X a (tVB X.K ba)) (h2 : PW X (.BoolOp .Or (b :: rest) pos) (tVB X.K bb)) : PW X (.BoolOp .Or (a :: b :: rest) pos) (tVB X.K (bOr ba bb)) := PW.weak (pw_or h h2) fun _ _ _ h => wor_weak h
theorem vt_w (h : PW X a (tVB X.K ba)) : PT X a (tVB X.K ba) := h.pt
/-- bools as values -/
def pOfB (p : PB) : P := fun R Γ => match p R Γ with
  | some b => some (.bl b)
  | none => none
theorem v_one {op} (h : PE X a (tV X.K true (pOfB ba))) : PE X (.BoolOp op [a] pos) (tV X.K true (pOfB ba)) := pe_one h
theorem v_ofB (h : PE X a (tV X.K true qa)) : PE X a (tV X.K true (pOfB (pB qa))) := PE.weak h fun σ H Q ⟨R, SR, Γ, S, d, s, e, k⟩ => by
  unfold pOfB at e
  split at e
  · next b eb =>
    cases e
    exact ⟨R, SR, Γ, S, .bl b, s, blD_some eb, k⟩
  · cases e
theorem v_and (h : PE X a (tV X.K true (pOfB ba))) (h2 : PE X (.BoolOp .And (b :: rest) pos) (tV X.K true (pOfB bb))) : PE X (.BoolOp .And (a :: b :: rest) pos) (tV X.K true (pOfB (bAnd ba bb))) := PE.weak (pe_and h h2) fun σ H Q ⟨R, SR, Γ, S, d, s, e, k⟩ => by
  unfold pOfB bAnd at e
  split at e
  · next b' eb =>
    cases e
    split at eb
    · next e1 =>
      refine ⟨R, SR, Γ, S, .bl true, s, by simp [pOfB, e1], fun v H1 Sv o x1 _ _ => ?_⟩
      cases o
      refine ⟨true, rfl, ?_⟩
      refine iteT ?_
      refine ⟨R, SR, Γ, S, .bl b', s.ex x1, by simp [pOfB, eb], fun v H2 Sv o x2 g g2 => k v H2 Sv o (x1.trans x2) (fun a z => (g a z).imp_right fun q => q.imp_right x1.back) fun t a z => ⟨x1.back (g2 t a z).1, (g2 t a z).2⟩⟩
    · next e1 =>
      cases eb
      refine ⟨R, SR, Γ, S, .bl false, s, by simp [pOfB, e1], fun v H1 Sv o x1 _ _ => ?_⟩
      cases o
      refine ⟨false, rfl, ?_⟩
      refine iteF ?_
      exact k _ H1 No .bl x1 (fun _ z => z.elim) (fun _ _ z => z.elim)
    · cases eb
  · cases e
theorem v_or (h : PE X a (tV X.K true (pOfB ba))) (h2 : PE X (.BoolOp .Or (b :: rest) pos) (tV X.K true (pOfB bb))) : PE X (.BoolOp .Or (a :: b :: rest) pos) (tV X.K true (pOfB (bOr ba bb))) := PE.weak (pe_or h h2) fun σ H Q ⟨R, SR, Γ, S, d, s, e, k⟩ => by
  unfold pOfB bOr at e
  split at e
  · next b' eb =>
    cases e
    split at eb
    · next e1 =>
      cases eb
      refine ⟨R, SR, Γ, S, .bl true, s, by simp [pOfB, e1], fun v H1 Sv o x1 _ _ => ?_⟩
      cases o
      refine ⟨true, rfl, ?_⟩
      refine iteT ?_
      exact k _ H1 No .bl x1 (fun _ z => z.elim) (fun _ _ z => z.elim)
    · next e1 =>
      refine ⟨R, SR, Γ, S, .bl false, s, by simp [pOfB, e1], fun v H1 Sv o x1 _ _ => ?_⟩
      cases o
      refine ⟨false, rfl, ?_⟩
      refine iteF ?_
      refine ⟨R, SR, Γ, S, .bl b', s.ex x1, by simp [pOfB, eb], fun v H2 Sv o x2 g g2 => k v H2 Sv o (x1.trans x2) (fun a z => (g a z).imp_right fun q => q.imp_right x1.back) fun t a z => ⟨x1.back (g2 t a z).1, (g2 t a z).2⟩⟩
    · cases eb
  · cases e
def pIf (t : PB) (p q : P) : P := fun R Γ => match t R Γ with
  | some true => p R Γ
  | some false => q R Γ
  | none => none
theorem v_if (ht : PT X c (tVB X.K ba)) (ha : PE X a (tV X.K f1 qa)) (hb : PE X b (tV X.K f1 qb)) : PE X (.IfExp c a b pos) (tV X.K f1 (pIf ba qa qb)) := PE.weak (pe_ifExp ht ha hb) fun σ H Q ⟨R, SR, Γ, S, d, s, e, k⟩ => by
  unfold pIf at e
  split at e
  · next e1 =>
    refine ⟨R, SR, Γ, S, true, s, e1, fun H1 x1 => ?_⟩
    refine iteT ?_
    exact ⟨R, SR, Γ, S, d, s.ex x1, e, fun v H2 Sv o x2 g g2 => k v H2 Sv o (x1.trans x2) (fun a z => (g a z).imp_right fun q => q.imp_right x1.back) fun t a z => ⟨x1.back (g2 t a z).1, (g2 t a z).2⟩⟩
  · next e1 =>
    refine ⟨R, SR, Γ, S, false, s, e1, fun H1 x1 => ?_⟩
    refine iteF ?_
    exact ⟨R, SR, Γ, S, d, s.ex x1, e, fun v H2 Sv o x2 g g2 => k v H2 Sv o (x1.trans x2) (fun a z => (g a z).imp_right fun q => q.imp_right x1.back) fun t a z => ⟨x1.back (g2 t a z).1, (g2 t a z).2⟩⟩
  · cases e
end
end DL
set_option Elab.async false
set_option linter.all false
set_option maxRecDepth 100000
namespace DL
open PySem PySem.Spec PyProof.Rows L2

/-! ### operators by data -/
section
variable {X : Cx}
/-- a result that is a scalar -/
theorem two_of {f : Value → Value → Sem Value} {g : D → D → Option D} (h : ∀ (dx dy d : D), g dx dy = some d → ∀ (H : Hp) (x y : V) (Sx Sy : Reg), Own X.K H x dx Sx → Own X.K H y dy Sy →
    ∀ (pins : List (Addr × Obj)) (s : Shared) (σ : L2.St) (v u : Value) (Q : VK), L2.Inv X pins σ H s → RelV x v → RelV y u → (∀ z H' Sz, Own X.K H' z d Sz → Ex H H' → (∀ a, Sz a → H a = none ∧ Mu (H' a)) → Q z H') →
      wpAny (model X.prog X.w) X.A (f v u) (EP X pins σ Q) X.xe s) : OpR X f (rD2 X.K g) := fun pins s σ H x y v u Q I rx ry ⟨dx, dy, Sx, Sy, d, ox, oy, e, k⟩ =>
  h dx dy d e H x y Sx Sy ox oy pins s σ v u Q I rx ry k
theorem give {K : PySem.W.Frag} {H : Hp} {d : D} {v : V} {Q : VK} (k : ∀ z H' Sz, Own K H' z d Sz → Ex H H' → (∀ a, Sz a → H a = none ∧ Mu (H' a)) → Q z H') (o : Own K H v d No) : Q v H := k v H No o (Ex.refl H) fun _ z => z.elim
/-- .. a new list -/
theorem giveL {K : PySem.W.Frag} {H : Hp} {ds : List D} {vs : List V} {Q : VK} (k : ∀ z H' Sz, Own K H' z (.lst ds) Sz → Ex H H' → (∀ a, Sz a → H a = none ∧ Mu (H' a)) → Q z H') (o : OwnL K H vs ds No) : ∀ p, H p = none → Q (.ref p) (upd H p (.lst vs)) := fun p hp =>
  k _ _ (fun a => a = p) (.lst upd_same rfl (o.keep _ (Ex.new hp).keeps) fun _ z => z.elim) (Ex.new hp) fun a z => by rw [z]; exact ⟨hp, by rw [upd_same]; trivial⟩
theorem giveT {K : PySem.W.Frag} {H : Hp} {ds : List D} {vs : List V} {Q : VK} (k : ∀ z H' Sz, Own K H' z (.tup ds) Sz → Ex H H' → (∀ a, Sz a → H a = none ∧ Mu (H' a)) → Q z H') (o : OwnL K H vs ds No) : ∀ p, H p = none → Q (.ref p) (upd H p (.tup vs)) := fun p hp =>
  k _ _ No (.tup (.of upd_same) (o.keep _ (Ex.new hp).keeps)) (Ex.new hp) fun a z => z.elim

def fAdd : D → D → Option D
  | .int i, .int j => some (.int (i + j))
  | .str i, .str j => if i.length + j.length ≤ 100000 then some (.str (i ++ j)) else none
  | .lst xs, .lst ys => if D.immL xs = true ∧ D.immL ys = true ∧ xs.length + ys.length ≤ 100000 then some (.lst (xs ++ ys)) else none
  | .tup xs, .tup ys => if D.immL xs = true ∧ D.immL ys = true ∧ xs.length + ys.length ≤ 100000 ∧ xs ≠ [] ∧ ys ≠ [] then some (.tup (xs ++ ys)) else none
  | _, _ => none
theorem o_add : OpR X (binaryOp .Add) (rD2 X.K fAdd) := two_of fun dx dy d e H x y Sx Sy ox oy pins s σ v u Q I rx ry k => by
  cases ox with
  | int => cases oy with
    | int => cases e; exact op_add pins s σ H _ _ v u Q I rx ry ⟨_, _, rfl, rfl, give k .int⟩
    | _ => exact nomatch e
  | str => cases oy with
    | str =>
      rename_i i j
      have e : (if i.length + j.length ≤ 100000 then some (D.str (i ++ j)) else none) = some d := e
      split at e
      · next hl => cases e; exact op_add_str pins s σ H _ _ v u Q I rx ry ⟨_, _, rfl, rfl, sz5 hl, give k .str⟩
      · cases e
    | _ => exact nomatch e
  | lst h1 h2 h3 h4 => cases oy with
    | lst g1 g2 g3 g4 =>
      rename_i xs _ _ _ ys
      have e : (if D.immL xs = true ∧ D.immL ys = true ∧ xs.length + ys.length ≤ 100000 then some (D.lst (xs ++ ys)) else none) = some d := e
      split at e
      · next hl =>
        cases e
        have a1 := h3.imm _ hl.1
        have a2 := g3.imm _ hl.2.1
        refine op_cat pins s σ H _ _ v u Q I rx ry ⟨_, _, _, _, rfl, rfl, h1, g1, by rw [a1.length, a2.length]; exact sz5 hl.2.2, giveL k ?_⟩
        exact (a1.append a2 fun _ z _ => z).imm _ (by rw [immL_all, List.all_append, ← immL_all, ← immL_all, hl.1, hl.2.1]; rfl)
      · cases e
    | _ => exact nomatch e
  | tup h1 h2 => cases oy with
    | tup g1 g2 =>
      rename_i xs _ _ ys
      have e : (if D.immL xs = true ∧ D.immL ys = true ∧ xs.length + ys.length ≤ 100000 ∧ xs ≠ [] ∧ ys ≠ [] then some (D.tup (xs ++ ys)) else none) = some d := e
      split at e
      · next hl =>
        cases e
        have a1 := h2.imm _ hl.1
        have a2 := g2.imm _ hl.2.1
        have l1 := a1.length
        have l2 := a2.length
        refine op_catT pins s σ H _ _ v u Q I rx ry ⟨_, _, _, _, rfl, rfl, h1, g1, ?_, by rw [l1, l2]; exact sz5 hl.2.2.1, ?_, fun _ => giveT k ?_⟩
        · intro q; rw [q] at l1; exact hl.2.2.2.1 (List.eq_nil_of_length_eq_zero l1.symm)
        · intro q; rw [q] at l2; exact absurd (List.eq_nil_of_length_eq_zero l2.symm) hl.2.2.2.2
        · exact (a1.append a2 fun _ z _ => z).imm _ (by rw [immL_all, List.all_append, ← immL_all, ← immL_all, hl.1, hl.2.1]; rfl)
      · cases e
    | _ => exact nomatch e
  | _ => cases oy <;> exact nomatch e
def fSub : D → D → Option D
  | .int i, .int j => some (.int (i - j))
  | _, _ => none
theorem o_sub : OpR X (binaryOp .Sub) (rD2 X.K fSub) := two_of fun dx dy d e H x y Sx Sy ox oy pins s σ v u Q I rx ry k => by
  cases ox with
  | int => cases oy with
    | int => cases e; exact op_sub pins s σ H _ _ v u Q I rx ry ⟨_, _, rfl, rfl, give k .int⟩
    | _ => exact nomatch e
  | _ => cases oy <;> exact nomatch e
/-- one of the two is of moderate size -/
def mulOk (i j : Int) : Bool := Nat.ble i.natAbs 18446744073709551615 || Nat.ble j.natAbs 18446744073709551615
theorem mulOk_c {i j : Int} (h : mulOk i j = true) : CMul i j := by
  have h' : (-18446744073709551616 < i ∧ i < 18446744073709551616) ∨ (-18446744073709551616 < j ∧ j < 18446744073709551616) := by
    unfold mulOk at h
    rw [Bool.or_eq_true] at h
    exact h.imp (fun h => by have := Nat.le_of_ble_eq_true h; omega) fun h => by have := Nat.le_of_ble_eq_true h; omega
  exact h'
def fMul : D → D → Option D
  | .int i, .int j => if mulOk i j = true then some (.int (i * j)) else none
  | _, _ => none
theorem o_mul : OpR X (binaryOp .Mult) (rD2 X.K fMul) := two_of fun dx dy d e H x y Sx Sy ox oy pins s σ v u Q I rx ry k => by
  cases ox with
  | int => cases oy with
    | int =>
      rename_i i j
      have e : (if mulOk i j = true then some (D.int (i * j)) else none) = some d := e
      split at e
      · next hl => cases e; exact op_mul pins s σ H _ _ v u Q I rx ry ⟨_, _, rfl, rfl, mulOk_c hl, give k .int⟩
      · cases e
    | _ => exact nomatch e
  | _ => cases oy <;> exact nomatch e
def fMod : D → D → Option D
  | .int i, .int j => if 0 < j then some (.int (i % j)) else none
  | _, _ => none
theorem o_mod : OpR X (binaryOp .Mod) (rD2 X.K fMod) := two_of fun dx dy d e H x y Sx Sy ox oy pins s σ v u Q I rx ry k => by
  cases ox with
  | int => cases oy with
    | int =>
      rename_i i j
      have e : (if 0 < j then some (D.int (i % j)) else none) = some d := e
      split at e
      · next hl => cases e; exact op_mod pins s σ H _ _ v u Q I rx ry ⟨_, _, rfl, rfl, hl, give k .int⟩
      · cases e
    | _ => exact nomatch e
  | _ => cases oy <;> exact nomatch e
def fDiv : D → D → Option D
  | .int i, .int j => if 0 < j ∧ Nat.ble j.natAbs 1073741823 = true then some (.int (i / j)) else none
  | _, _ => none
theorem o_div : OpR X (binaryOp .FloorDiv) (rD2 X.K fDiv) := two_of fun dx dy d e H x y Sx Sy ox oy pins s σ v u Q I rx ry k => by
  cases ox with
  | int => cases oy with
    | int =>
      rename_i i j
      have e : (if 0 < j ∧ Nat.ble j.natAbs 1073741823 = true then some (D.int (i / j)) else none) = some d := e
      split at e
      · next hl => cases e; exact op_fdiv pins s σ H _ _ v u Q I rx ry ⟨_, _, rfl, rfl, ⟨hl.1, by have := Nat.le_of_ble_eq_true hl.2; omega⟩, give k .int⟩
      · cases e
    | _ => exact nomatch e
  | _ => cases oy <;> exact nomatch e
def powOk (i j : Int) : Bool := decide (0 ≤ j) && (Nat.ble j.natAbs 1000000 && Nat.ble i.natAbs 18446744073709551615)
theorem powOk_c {i j : Int} (h : powOk i j = true) : CPow i j := by
  have h' : 0 ≤ j ∧ j ≤ 1000000 ∧ i.natAbs < 18446744073709551616 := by
    unfold powOk at h
    rw [Bool.and_eq_true, Bool.and_eq_true, decide_eq_true_eq] at h
    have h1 := Nat.le_of_ble_eq_true h.2.1
    have h2 := Nat.le_of_ble_eq_true h.2.2
    exact ⟨h.1, by omega, by omega⟩
  exact h'
def fPow : D → D → Option D
  | .int i, .int j => if powOk i j = true then some (.int (i ^ j.toNat)) else none
  | _, _ => none
theorem o_pow : OpR X (binaryOp .Pow) (rD2 X.K fPow) := two_of fun dx dy d e H x y Sx Sy ox oy pins s σ v u Q I rx ry k => by
  cases ox with
  | int => cases oy with
    | int =>
      rename_i i j
      have e : (if powOk i j = true then some (D.int (i ^ j.toNat)) else none) = some d := e
      split at e
      · next hl => cases e; exact op_pow pins s σ H _ _ v u Q I rx ry ⟨_, _, rfl, rfl, powOk_c hl, give k .int⟩
      · cases e
    | _ => exact nomatch e
  | _ => cases oy <;> exact nomatch e
def fNeg : D → Option D
  | .int i => some (.int (-i))
  | _ => none
theorem o_neg : UnR X (unaryOp .USub) (rD1 X.K fNeg) := fun pins s σ H x v Q I rx ⟨dx, Sx, d, ox, e, k⟩ => by
  cases ox with
  | int => cases e; exact un_neg pins s σ H _ v Q I rx ⟨_, rfl, give k .int⟩
  | _ => exact nomatch e

/-! ### comparisons -/
def eqS : D → D → Option Bool
  | .non, .non => some true
  | .non, .int _ => some false
  | .int _, .non => some false
  | .non, .bl _ => some false
  | .bl _, .non => some false
  | .non, .str _ => some false
  | .str _, .non => some false
  | .int i, .int j => some (decide (i = j))
  | .bl i, .bl j => some (decide (i = j))
  | .str i, .str j => some (decide (i = j))
  | .int _, .str _ => some false
  | .str _, .int _ => some false
  | .bl _, .str _ => some false
  | .str _, .bl _ => some false
  | _, _ => none
def bD (b : Bool) : D := .bl b
def fEq (x y : D) : Option D := (eqS x y).map bD
def fNe (x y : D) : Option D := (eqS x y).map fun b => bD (!b)
theorem o_eq : OpR X (compareOp .Eq) (rD2 X.K fEq) := two_of fun dx dy d e H x y Sx Sy ox oy pins s σ v u Q I rx ry k => by
  cases ox <;> cases oy <;> first
    | (cases e; done)
    | (cases e; refine op_eq pins s σ H _ _ v u Q I rx ry ⟨rfl, ?_⟩
       first
         | exact give k .bl
         | (rename_i i j; have q : decide (i = j) = decide (V.int i = V.int j) := by simp
            rw [← q]; exact give k .bl)
         | (rename_i i j; have q : decide (i = j) = decide (V.str i = V.str j) := by simp
            rw [← q]; exact give k .bl)
         | (rename_i i j; have q : decide (i = j) = decide (V.bl i = V.bl j) := by simp
            rw [← q]; exact give k .bl))
theorem o_ne : OpR X (compareOp .NotEq) (rD2 X.K fNe) := two_of fun dx dy d e H x y Sx Sy ox oy pins s σ v u Q I rx ry k => by
  cases ox <;> cases oy <;> first
    | (cases e; done)
    | (cases e; refine op_ne pins s σ H _ _ v u Q I rx ry ⟨rfl, ?_⟩
       first
         | exact give k .bl
         | (rename_i i j; have q : decide (i = j) = decide (V.int i = V.int j) := by simp
            rw [← q]; exact give k .bl)
         | (rename_i i j; have q : decide (i = j) = decide (V.str i = V.str j) := by simp
            rw [← q]; exact give k .bl)
         | (rename_i i j; have q : decide (i = j) = decide (V.bl i = V.bl j) := by simp
            rw [← q]; exact give k .bl))
def fLt : D → D → Option D
  | .int i, .int j => some (.bl (decide (i < j)))
  | _, _ => none
def fLe : D → D → Option D
  | .int i, .int j => some (.bl (decide (i ≤ j)))
  | _, _ => none
def fGt : D → D → Option D
  | .int i, .int j => some (.bl (decide (j < i)))
  | _, _ => none
def fGe : D → D → Option D
  | .int i, .int j => some (.bl (decide (j ≤ i)))
  | _, _ => none
theorem o_lt : OpR X (compareOp .Lt) (rD2 X.K fLt) := two_of fun dx dy d e H x y Sx Sy ox oy pins s σ v u Q I rx ry k => by
  cases ox <;> cases oy <;> first
    | (cases e; done)
    | (cases e; exact op_lt pins s σ H _ _ v u Q I rx ry ⟨_, _, rfl, rfl, give k .bl⟩)
theorem o_le : OpR X (compareOp .LtE) (rD2 X.K fLe) := two_of fun dx dy d e H x y Sx Sy ox oy pins s σ v u Q I rx ry k => by
  cases ox <;> cases oy <;> first
    | (cases e; done)
    | (cases e; exact op_le pins s σ H _ _ v u Q I rx ry ⟨_, _, rfl, rfl, give k .bl⟩)
theorem o_gt : OpR X (compareOp .Gt) (rD2 X.K fGt) := two_of fun dx dy d e H x y Sx Sy ox oy pins s σ v u Q I rx ry k => by
  cases ox <;> cases oy <;> first
    | (cases e; done)
    | (cases e; exact op_gt pins s σ H _ _ v u Q I rx ry ⟨_, _, rfl, rfl, give k .bl⟩)
theorem o_ge : OpR X (compareOp .GtE) (rD2 X.K fGe) := two_of fun dx dy d e H x y Sx Sy ox oy pins s σ v u Q I rx ry k => by
  cases ox <;> cases oy <;> first
    | (cases e; done)
    | (cases e; exact op_ge pins s σ H _ _ v u Q I rx ry ⟨_, _, rfl, rfl, give k .bl⟩)
def isNone : D → Bool
  | .non => true
  | _ => false
def fIs : D → D → Option D
  | x, .non => some (.bl (isNone x))
  | _, _ => none
def fIsNot : D → D → Option D
  | x, .non => some (.bl (!isNone x))
  | _, _ => none
theorem none_dec {K : PySem.W.Frag} {H : Hp} {x : V} {d : D} {S : Reg} (o : Own K H x d S) : decide (x = .non) = isNone d := by
  cases o <;> simp [isNone]
theorem o_is : OpR X (compareOp .Is) (rD2 X.K fIs) := two_of fun dx dy d e H x y Sx Sy ox oy pins s σ v u Q I rx ry k => by
  cases oy with
  | non =>
    have e : some (D.bl (isNone dx)) = some d := by cases dx <;> exact e
    cases e
    exact op_isN pins s σ H _ _ v u Q I rx ry ⟨rfl, by rw [none_dec ox]; exact give k .bl⟩
  | _ => cases dx <;> exact nomatch e
theorem o_isnot : OpR X (compareOp .IsNot) (rD2 X.K fIsNot) := two_of fun dx dy d e H x y Sx Sy ox oy pins s σ v u Q I rx ry k => by
  cases oy with
  | non =>
    have e : some (D.bl (!isNone dx)) = some d := by cases dx <;> exact e
    cases e
    exact op_notN pins s σ H _ _ v u Q I rx ry ⟨rfl, by rw [none_dec ox]; exact give k .bl⟩
  | _ => cases dx <;> exact nomatch e
/-- in: a flat thing among flat things; one sign in a text -/
def flatD : D → Bool
  | .non => true
  | .bl _ => true
  | .int _ => true
  | .str _ => true
  | _ => false
def toV : D → V
  | .non => .non
  | .bl b => .bl b
  | .int i => .int i
  | .str z => .str z
  | _ => .non
theorem flat_own {K : PySem.W.Frag} {H : Hp} {x : V} {d : D} {S : Reg} (o : Own K H x d S) (f : flatD d = true) : x = toV d ∧ flatV x = true := by
  cases o <;> first
    | exact ⟨rfl, rfl⟩
    | exact nomatch f
theorem flat_ownL {K : PySem.W.Frag} {H : Hp} : ∀ {ds : List D} {vs : List V} {S : Reg}, OwnL K H vs ds S → ds.all flatD = true → vs = ds.map toV ∧ vs.all flatV = true
  | [], _, _, h, _ => by cases h; exact ⟨rfl, rfl⟩
  | d :: ds, _, _, h, f => by
    rw [List.all_cons, Bool.and_eq_true] at f
    cases h with
    | cons h1 h2 _ _ _ =>
      obtain ⟨e1, f1⟩ := flat_own h1 f.1
      obtain ⟨e2, f2⟩ := flat_ownL h2 f.2
      exact ⟨by rw [e1, e2]; rfl, by rw [List.all_cons, f1, f2]; rfl⟩
def inD (x : D) (ds : List D) : Bool := inV (toV x) (ds.map toV)
def sign1 (w : Str) : Option Nat := match w.cps.toList with
  | [c] => some c
  | _ => none
def inF (x y : D) : Option Bool := match y with
  | .lst ds => if flatD x = true ∧ ds.all flatD = true then some (inD x ds) else none
  | .tup ds => if flatD x = true ∧ ds.all flatD = true then some (inD x ds) else none
  | .fz ds => if flatD x = true ∧ ds.all flatD = true then some (inD x ds) else none
  | .str z => match x with
    | .str w => (sign1 w).map fun c => decide (c ∈ z.cps.toList)
    | _ => none
  | _ => none
def fIn (x y : D) : Option D := (inF x y).map bD
def fNotIn (x y : D) : Option D := (inF x y).map fun b => bD (!b)
theorem own_seq {K : PySem.W.Frag} {H : Hp} {y : V} {ds : List D} {S : Reg} (o : Own K H y (.lst ds) S ∨ Own K H y (.tup ds) S ∨ Own K H y (.fz ds) S) : ∃ p vs S', y = .ref p ∧ (SqL K H p vs ∨ SqT K H p vs) ∧ OwnL K H vs ds S' := by
  rcases o with o | o | o
  · cases o with
    | lst h1 h2 h3 h4 => exact ⟨_, _, _, rfl, .inl (.of h1), h3⟩
  · cases o with
    | tup h1 h2 => exact ⟨_, _, _, rfl, .inr h1, h2⟩
  · cases o with
    | fz h1 h2 =>
      refine ⟨_, _, _, rfl, .inl ?_, h2⟩
      rcases h1 with ⟨o, e⟩ | h1
      · exact .inl (.inr ⟨o, e⟩)
      · exact h1 H
theorem str1 {w : Str} {c : Nat} (h : sign1 w = some c) : w = ⟨#[c]⟩ := by
  have h : w.cps.toList = [c] := by
    unfold sign1 at h
    split at h
    · next c' hc => cases h; exact hc
    · cases h
  cases w with
  | mk a =>
    have : a = #[c] := by
      apply Array.toList_inj.mp
      simpa using h
    rw [this]
theorem in_any {neg : Bool} {op : CmpOp} (h1 : OpR X (compareOp op) (rIn X.K neg)) (h2 : ∀ (pins : List (Addr × Obj)) (s : Shared) (σ : L2.St) (H : Hp) (c : Nat) (z : Str) (v u : Value) (Q : VK), L2.Inv X pins σ H s → RelV (.str ⟨#[c]⟩) v → RelV (.str z) u → Q (.bl (if neg then !decide (c ∈ z.cps.toList) else decide (c ∈ z.cps.toList))) H →
      wpAny (model X.prog X.w) X.A (compareOp op v u) (EP X pins σ Q) X.xe s) : OpR X (compareOp op) (rD2 X.K fun x y => (inF x y).map fun b => bD (if neg then !b else b)) := two_of fun dx dy d e H x y Sx Sy ox oy pins s σ v u Q I rx ry k => by
  have seq : ∀ {ds : List D}, (Own X.K H y (.lst ds) Sy ∨ Own X.K H y (.tup ds) Sy ∨ Own X.K H y (.fz ds) Sy) → (if flatD dx = true ∧ ds.all flatD = true then some (inD dx ds) else none).map (fun b => bD (if neg then !b else b)) = some d →
      wpAny (model X.prog X.w) X.A (compareOp op v u) (EP X pins σ Q) X.xe s := fun {ds} o e => by
    by_cases hf : flatD dx = true ∧ ds.all flatD = true
    · rw [if_pos hf] at e
      cases e
      obtain ⟨p, vs, S', rfl, hs, ol⟩ := own_seq o
      obtain ⟨e1, f1⟩ := flat_own ox hf.1
      obtain ⟨e2, f2⟩ := flat_ownL ol hf.2
      refine h1 pins s σ H _ _ v u Q I rx ry ⟨p, vs, rfl, hs, f1, f2, ?_⟩
      rw [e1, e2]
      exact give k .bl
    · rw [if_neg hf] at e
      cases e
  cases dy with
  | lst ds => exact seq (.inl oy) e
  | tup ds => exact seq (.inr (.inl oy)) e
  | fz ds => exact seq (.inr (.inr oy)) e
  | str z =>
    cases oy
    cases ox with
    | str =>
      rename_i w
      have e : ((sign1 w).map fun c => decide (c ∈ z.cps.toList)).map (fun b => bD (if neg then !b else b)) = some d := e
      cases hc : sign1 w with
      | none => rw [hc] at e; cases e
      | some c =>
        rw [hc] at e
        cases e
        obtain rfl := str1 hc
        exact h2 pins s σ H c z v u Q I rx ry (give k .bl)
    | _ => exact nomatch e
  | _ => exact nomatch e
theorem o_in : OpR X (compareOp .In) (rD2 X.K fIn) := in_any (neg := false) op_in_seq fun pins s σ H c z v u Q I rx ry q => op_in_sign pins s σ H _ _ v u Q I rx ry ⟨c, z, rfl, rfl, q⟩
theorem o_notin : OpR X (compareOp .NotIn) (rD2 X.K fNotIn) := in_any (neg := true) op_notIn_seq fun pins s σ H c z v u Q I rx ry q => op_notIn_sign pins s σ H _ _ v u Q I rx ry ⟨c, z, rfl, rfl, q⟩
end
end DL
set_option Elab.async false
set_option linter.all false
set_option maxRecDepth 100000
namespace DL
open PySem PySem.Spec PyProof.Rows L2

/-! ### items -/
def ixD : D → D → Option D
  | .lst ds, .int i => atI ds i
  | .tup ds, .int i => atI ds i
  | .fz ds, .int i => atI ds i
  | .str z, .int i => if z.length ≤ 100000 then (atI z.cps.toList i).map fun c => .str ⟨#[c]⟩ else none
  | _, _ => none
def rIxD (K : PySem.W.Frag) : R2 := fun x y H Q => ∃ dx Sx dy Sy d, Own K H x dx Sx ∧ Own K H y dy Sy ∧ ixD dx dy = some d ∧ ∀ v Sv, Own K H v d Sv → (∀ a, Sv a → Sx a) → Q v H
theorem OwnL.atI {K : PySem.W.Frag} {H : Hp} {vs : List V} {ds : List D} {S : Reg} {i : Int} {d : D} (o : OwnL K H vs ds S) (e : L2.atI ds i = some d) : ∃ v S', L2.atI vs i = some v ∧ Own K H v d S' ∧ ∀ x, S' x → S x := by
  unfold L2.atI at e ⊢
  rw [o.length]
  cases q : ixN ds.length i with
  | none => rw [q] at e; cases e
  | some j =>
    rw [q] at e
    exact o.get e
section
variable {X : Cx} {a b e : Expr} {es : List Expr} {pos : Pos} {f1 f2 : Bool} {qa qb : P} {ps : PL}
theorem ix_D : IxR X (rIxD X.K) := fun value slice pins s σ H x y v u Q I rx ry ⟨dx, Sx, dy, Sy, d, ox, oy, e, k⟩ hs => by
  cases oy with
  | int => cases ox with
    | lst h1 h2 h3 h4 =>
      obtain ⟨z, S', e1, o, m⟩ := h3.atI e
      exact ix_list value slice pins s σ H _ _ v u Q I rx ry ⟨_, _, _, z, rfl, rfl, .of h1, e1, k z S' o fun a q => (h4 a (m a q)).1⟩ hs
    | tup h1 h2 =>
      obtain ⟨z, S', e1, o, m⟩ := h2.atI e
      exact ix_tup value slice pins s σ H _ _ v u Q I rx ry ⟨_, _, _, z, rfl, rfl, h1, e1, k z S' o m⟩ hs
    | fz h1 h2 =>
      obtain ⟨z, S', e1, o, m⟩ := h2.atI e
      refine ix_list value slice pins s σ H _ _ v u Q I rx ry ⟨_, _, _, z, rfl, rfl, ?_, e1, k z S' o m⟩ hs
      rcases h1 with ⟨o, e⟩ | h1
      · exact .inl (.inr ⟨o, e⟩)
      · exact h1 H
    | str =>
      rename_i z _
      rename_i i _
      have e : (if z.length ≤ 100000 then (L2.atI z.cps.toList i).map fun c => D.str ⟨#[c]⟩ else none) = some d := e
      split at e
      · next hl =>
        cases q : L2.atI z.cps.toList i with
        | none => rw [q] at e; cases e
        | some c =>
          rw [q] at e
          cases e
          exact ix_str value slice pins s σ H _ _ v u Q I rx ry ⟨_, _, c, rfl, rfl, sz5 hl, q, k _ No .str fun _ z => z.elim⟩ hs
      · cases e
    | _ => exact nomatch e
  | _ => cases ox <;> exact nomatch e
theorem v_ix (ha : PE X a (tV X.K f1 qa)) (hb : PE X b (tV X.K f2 qb)) (hp : PlainIx b := by exact fun _ _ => rfl) : PE X (.Subscript a b pos) (tV X.K f1 (pOp2 ixD qa qb)) :=
  PE.weak (pe_ix ix_D ha hb hp) fun σ H Q ⟨R, SR, Γ, S, d, s, e, k⟩ => by
    unfold pOp2 at e
    split at e
    · next x ex =>
      split at e
      · next y ey =>
        refine ⟨R, SR, Γ, S, x, s, ex, fun v H1 Sv o1 x1 g1 g1' => ⟨R, SR, Γ, S, y, s.ex x1, ey, fun w H2 Sw o2 x2 _ _ => ⟨x, _, y, _, d, o1.keep _ x2.keeps, o2, e, fun z Sz oz m => ?_⟩⟩⟩
        refine k z H2 Sz oz (x1.trans x2) (fun a q => g1 a (m a q)) fun t a q => ⟨(g1' t a (m a q)).1, ?_⟩
        have mu := (g1' t a (m a q)).2
        cases r : H1 a with
        | none => rw [r] at mu; exact mu.elim
        | some o => rw [x2 a o r, ← r]; exact mu
      · cases e
    · cases e
/-! ### dicts by their keys -/
def keyD : D → Option Key
  | .int i => some (.inl i)
  | .str z => some (.inr z)
  | _ => none
def getK : List Key → List D → Key → Option D
  | k :: ks, d :: ds, j => if k = j then some d else getK ks ds j
  | _, _, _ => none
def fGet (x y : D) : Option D := match x, keyD y with
  | .dct ks ds, some k => getK ks ds k
  | _, _ => none
theorem getK_own {K : PySem.W.Frag} {H : Hp} {k : Key} {d : D} : ∀ {kvs : List (Key × V)} {ds : List D} {S : Reg}, OwnL K H (kvs.map (·.2)) ds S → getK (kvs.map (·.1)) ds k = some d → ∃ v S', valV kvs k = some v ∧ Own K H v d S' ∧ ∀ x, S' x → S x
  | [], _, _, h, e => by cases h; cases e
  | (k', v') :: r, _, _, h, e => by
    rw [List.map_cons] at h
    cases h with
    | cons h1 h2 h3 h4 h5 =>
      by_cases q : k' = k
      · have e' := (if_pos q).symm.trans e
        cases e'
        exact ⟨v', _, valV_pos q, h1, h4⟩
      · have e' := (if_neg q).symm.trans e
        obtain ⟨v, S', e1, o, m⟩ := getK_own h2 e'
        refine ⟨v, S', ?_, o, fun x z => h5 x (m x z)⟩
        rw [← e1]
        simp [valV, List.find?_cons, q]
theorem v_dget (hu : X.A.units + 1 < cLine) (ha : PE X a (tV X.K f1 qa)) (hb : PE X b (tV X.K f2 qb)) (hp : NoSl b := by exact fun _ _ => rfl) : PE X (.Subscript a b pos) (tV X.K f1 (pOp2 fGet qa qb)) :=
  PE.weak (pe_dget hu ha hb hp) fun σ H Q ⟨R, SR, Γ, S, d, s, e, k⟩ => by
    unfold pOp2 at e
    split at e
    · next x ex =>
      split at e
      · next y ey =>
        refine ⟨R, SR, Γ, S, x, s, ex, fun v H1 Sv o1 x1 g1 g1' => ⟨R, SR, Γ, S, y, s.ex x1, ey, fun w H2 Sw o2 x2 _ _ => ?_⟩⟩
        unfold fGet at e
        split at e
        · next ks ds key kd =>
          have o1' := o1.keep _ (H' := H2) x2.keeps
          cases o1' with
          | dct h1 h2 h5 h3 h4 =>
            obtain ⟨z, S', ez, oz, m⟩ := getK_own h3 e
            have hw : w = kV key := by
              unfold keyD at kd
              split at kd
              · cases kd; cases o2; rfl
              · cases kd; cases o2; rfl
              · cases kd
            refine ⟨_, z, rfl, ?_, k z H2 S' oz (x1.trans x2) (fun a q => g1 a (h4 a (m a q)).1) fun t a q => ⟨(g1' t a (h4 a (m a q)).1).1, ?_⟩⟩
            · rw [hw, ← ez]; exact .k h1
            · have mu := (g1' t a (h4 a (m a q)).1).2
              cases r : H1 a with
              | none => rw [r] at mu; exact mu.elim
              | some o => rw [x2 a o r, ← r]; exact mu
        · cases e
      · cases e
    · cases e
/-! a display of a dict -/
def trsOf (K : PySem.W.Frag) : List (P × P) → List (TE × TE)
  | [] => []
  | (p, q) :: r => (tV K false p, tV K true q) :: trsOf K r
def pPairs : List (P × P) → Rc → En → Option (List Key × List D)
  | [], _, _ => some ([], [])
  | (p, q) :: r, R, Γ => match p R Γ with
    | some x => match keyD x with
      | some k => match q R Γ with
        | some d => match pPairs r R Γ with
          | some (ks, ds) => some (k :: ks, d :: ds)
          | none => none
        | none => none
      | none => none
    | none => none
theorem dp_nil : PPs X pos [] [] (trsOf X.K []) := pps_nil
theorem dp_cons {k v : Expr} {ks : List (Option Expr)} {vs : List Expr} {p q : P} {r : List (P × P)} (hk : PE X k (tV X.K f1 p)) (hv : PE X v (tV X.K true q)) (hr : PPs X pos ks vs (trsOf X.K r)) : PPs X pos (some k :: ks) (v :: vs) (trsOf X.K ((p, q) :: r)) := pps_cons (v_weak hk) hv hr
theorem pairs_of {K : PySem.W.Frag} {σ : L2.St} {R : Rc} {SR : Reg} {Γ : En} {S : Reg} : ∀ (r : List (P × P)) {H : Hp} {ks : List Key} {ds : List D} {Q : List (V × V) → Hp → Prop}, St K σ H R SR Γ S → pPairs r R Γ = some (ks, ds) →
    (∀ (kvs : List (Key × V)) H' Sv, kvs.map (·.1) = ks → OwnL K H' (kvs.map (·.2)) ds Sv → Ex H H' → (∀ a, Sv a → H a = none ∧ Mu (H' a)) → Q (kvs.map fun kv => (kV kv.1, kv.2)) H') → tPairs (trsOf K r) σ H Q
  | [], H, ks, ds, Q, s, e, k => by cases e; exact k [] H No rfl .nil (Ex.refl H) fun _ z => z.elim
  | (p, q) :: r, H, ks, ds, Q, s, e, k => by
    unfold pPairs at e
    split at e
    · next x ex =>
      split at e
      · next key ek =>
        split at e
        · next d ed =>
          split at e
          · next ks' ds' er =>
            cases e
            refine ⟨R, SR, Γ, S, x, s, ex, fun v H1 Sv o1 x1 _ _ => ⟨R, SR, Γ, S, d, s.ex x1, ed, fun w H2 Sw o2 x2 _ g2 => ?_⟩⟩
            refine pairs_of r (s.ex (x1.trans x2)) er fun kvs H3 S3 hk o3 x3 g3 => ?_
            have hv : v = kV key := by
              unfold keyD at ek
              split at ek
              · cases ek; cases o1; rfl
              · cases ek; cases o1; rfl
              · cases ek
            rw [hv]
            refine k ((key, w) :: kvs) H3 (fun a => Sw a ∨ S3 a) (by rw [List.map_cons, hk]) (.cons (o2.keep _ x3.keeps) o3 (fun a z1 z2 => ?_) (fun a z => .inl z) fun a z => .inr z) ((x1.trans x2).trans x3) fun a z => ?_
            · exact Mu.some (g2 rfl a z1).2 (g3 a z2).1
            · rcases z with z | z
              · refine ⟨x1.back (g2 rfl a z).1, ?_⟩
                have mu := (g2 rfl a z).2
                cases r : H2 a with
                | none => rw [r] at mu; exact mu.elim
                | some o => rw [x3 a o r, ← r]; exact mu
              · exact ⟨(x1.trans x2).back (g3 a z).1, (g3 a z).2⟩
          · cases e
        · cases e
      · cases e
    · cases e
theorem merge_nodup : ∀ (more acc : List (Key × V)), ((acc ++ more).map (·.1)).Nodup → mergeK acc more = acc ++ more
  | [], acc, _ => by simp [mergeK]
  | (k, v) :: r, acc, h => by
    have h1 : valV acc k = none := by
      cases q : valV acc k with
      | none => rfl
      | some w =>
        have hm : k ∈ acc.map (·.1) := by
          unfold valV at q
          cases f : acc.find? (fun kv => decide (kv.1 = k)) with
          | none => rw [f] at q; cases q
          | some kv =>
            have := List.find?_some f
            exact List.mem_map.mpr ⟨kv, List.mem_of_find?_eq_some f, by simpa using this⟩
        rw [List.map_append, List.map_cons] at h
        exact absurd rfl ((List.nodup_append.mp h).2.2 k hm k List.mem_cons_self)
    have e : putK acc k v = acc ++ [(k, v)] := putK_new _ h1
    show mergeK (putK acc k v) r = _
    rw [e, merge_nodup r (acc ++ [(k, v)]) (by simpa using h)]
    simp
def pDct (r : List (P × P)) : P := fun R Γ => match pPairs r R Γ with
  | some (ks, ds) => if ks.Nodup ∧ ks.length ≤ 15 then some (.dct ks ds) else none
  | none => none
theorem v_dct {keys : List (Option Expr)} {values : List Expr} {r : List (P × P)} (h : PPs X pos keys values (trsOf X.K r)) (hall : keys.all (·.isSome) = true := by rfl) (hl : keys.length = values.length := by rfl) (h0 : keys ≠ [] := by exact fun z => nomatch z)
    (h15 : keys.length ≤ 15 := by decide) : PE X (.Dict keys values pos) (tV X.K true (pDct r)) :=
  PE.weak (pe_disp h hall hl h0 h15) fun σ H Q ⟨R, SR, Γ, S, d, s, e, k⟩ => by
    unfold pDct at e
    split at e
    · next ks ds ep =>
      split at e
      · next hn =>
        cases e
        intro p hp
        refine pairs_of r (s.ex (Ex.new hp)) ep fun kvs H' Sv hk o x g => ?_
        have hpn : ∀ a, Sv a → a ≠ p := fun a z q => by have := (g a z).1; rw [q, upd_same] at this; cases this
        have hHp : H' p = some (.dK []) := x p _ upd_same
        subst hk
        refine ⟨hHp, kvs, rfl, by simpa using hn.2, ?_⟩
        rw [merge_nodup kvs [] (by simpa using hn.1), List.nil_append]
        refine k _ _ (fun a => Sv a ∨ a = p) (.dct upd_same (.inr rfl) hn.1 (o.keep _ fun a u ea z => ?_) (fun a z => ⟨.inl z, hpn a z⟩)) (fun a u ea => ?_) (fun a z => ?_) fun _ a z => ?_
        · by_cases q : a = p
          · subst q
            rcases z with z | z
            · exact absurd rfl (hpn a z)
            · rw [hHp] at ea; cases ea; exact absurd trivial z
          · rw [upd_ne q]; exact ea
        · have q : a ≠ p := ne_of_none ea hp
          rw [upd_ne q]
          exact x a u (by rw [upd_ne q]; exact ea)
        · rcases z with z | z
          · have q := (g a z).1
            rw [upd_ne (hpn a z)] at q
            exact .inr (.inr q)
          · rw [z]; exact .inr (.inr hp)
        · rcases z with z | z
          · have q := (g a z).1
            rw [upd_ne (hpn a z)] at q
            exact ⟨q, by rw [upd_ne (hpn a z)]; exact (g a z).2⟩
          · rw [z]; exact ⟨hp, by rw [upd_same]; trivial⟩
      · cases e
    · cases e

/-! ### built-ins -/
theorem call_of {f : Value} {φ : List D → Option D} (h : ∀ (ds : List D) (d : D), φ ds = some d → ∀ (H : Hp) (vs : List V), OwnV X.K H vs ds → ∀ (pins : List (Addr × Obj)) (s : Shared) (σ : L2.St) (us : List Value) (Q : VK), L2.Inv X pins σ H s → Vals vs us →
    (∀ z H' Sz, Own X.K H' z d Sz → Ex H H' → (∀ a, Sz a → H a = none ∧ Mu (H' a)) → Q z H') → wpAny (model X.prog X.w) X.A (call f us) (EP X pins σ Q) X.xe s) : CallR X f (rD X.K φ) := fun pins s σ H vs us Q I r ⟨ds, d, o, e, k⟩ =>
  h ds d e H vs o pins s σ us Q I r k
theorem OwnW.one {K : PySem.W.Frag} {H : Hp} {T : Reg} {vs : List V} {d : D} (o : OwnW K H T vs [d]) : ∃ v S, vs = [v] ∧ Own K H v d S := by
  cases vs with
  | nil => exact o.elim
  | cons v r =>
    cases r with
    | nil => exact ⟨v, o.1.choose, rfl, o.1.choose_spec.1⟩
    | cons w t => exact o.2.elim
def φLen : List D → Option D
  | [.str z] => if z.length ≤ 100000 then some (.int (z.length : Int)) else none
  | [.tup ds] => some (.int (ds.length : Int))
  | [.lst ds] => some (.int (ds.length : Int))
  | [.fz ds] => some (.int (ds.length : Int))
  | _ => none
theorem c_len : CallR X (.builtin "len") (rD X.K φLen) := call_of fun ds d e H vs o pins s σ us Q I r k => by
  have seq : ∀ {ds : List D} {y : V} {S : Reg}, (Own X.K H y (.lst ds) S ∨ Own X.K H y (.tup ds) S ∨ Own X.K H y (.fz ds) S) → vs = [y] → d = .int (ds.length : Int) → wpAny (model X.prog X.w) X.A (call (.builtin "len") us) (EP X pins σ Q) X.xe s := fun {ds y S} h1 h2 h3 => by
    obtain ⟨p, xs, S', rfl, hs, ol⟩ := own_seq h1
    subst h2; subst h3
    refine call_len_seq pins s σ H _ us Q I r ⟨p, xs, rfl, hs, ?_⟩
    rw [ol.length]
    exact give k .int
  unfold φLen at e
  split at e
  · have oo := o.one
    clear o
    obtain ⟨v, S, rfl, o⟩ := oo
    split at e
    · next hl =>
      cases e; cases o
      exact call_len pins s σ H _ us Q I r ⟨_, _, rfl, ⟨sz5 hl, rfl⟩, give k .int⟩
    · cases e
  · have oo := o.one
    clear o
    obtain ⟨v, S, rfl, o⟩ := oo
    cases e; exact seq (.inr (.inl o)) rfl rfl
  · have oo := o.one
    clear o
    obtain ⟨v, S, rfl, o⟩ := oo
    cases e; exact seq (.inl o) rfl rfl
  · have oo := o.one
    clear o
    obtain ⟨v, S, rfl, o⟩ := oo
    cases e; exact seq (.inr (.inr o)) rfl rfl
  · cases e
def φInt : List D → Option D
  | [.int i] => some (.int i)
  | [.bl b] => some (.int (if b = true then 1 else 0))
  | _ => none
theorem c_int : CallR X (.type "int") (rD X.K φInt) := call_of fun ds d e H vs o pins s σ us Q I r k => by
  unfold φInt at e
  split at e
  · have oo := o.one
    clear o
    obtain ⟨v, S, rfl, o⟩ := oo
    cases e; cases o
    exact call_int1 pins s σ H _ us Q I r (.inl ⟨_, rfl, give k .int⟩)
  · have oo := o.one
    clear o
    obtain ⟨v, S, rfl, o⟩ := oo
    cases e; cases o
    exact call_int1 pins s σ H _ us Q I r (.inr ⟨_, rfl, give k .int⟩)
  · cases e
/-! data for the library's own rules -/
mutual
def D.plain : D → Bool
  | .dct _ _ => false
  | .tup ds => D.plainL ds
  | .lst ds => D.plainL ds
  | .fz ds => D.plainL ds
  | .non => true
  | .bl _ => true
  | .int _ => true
  | .str _ => true
def D.plainL : List D → Bool
  | [] => true
  | d :: ds => d.plain && D.plainL ds
end
mutual
def D.py : D → PyData
  | .dct _ _ => .none
  | .tup ds => .tuple (D.pyL ds)
  | .lst ds => .list (D.pyL ds)
  | .fz ds => .list (D.pyL ds)
  | .non => .none
  | .bl b => .bool b
  | .int i => .int i
  | .str z => .str z
def D.pyL : List D → List PyData
  | [] => []
  | d :: ds => d.py :: D.pyL ds
end
mutual
theorem dp_of {K : PySem.W.Frag} {H : Hp} : ∀ (d : D) {v : V} {S : Reg}, Own K H v d S → d.plain = true → Dp K H v d.py
  | .non, _, _, h, _ => by cases h; exact .non
  | .bl _, _, _, h, _ => by cases h; exact .bl _
  | .int _, _, _, h, _ => by cases h; exact .int _
  | .str _, _, _, h, _ => by cases h; exact .str _
  | .tup ds, _, _, h, m => by
    cases h with
    | tup h1 h2 => exact .tup h1 (dps_of ds h2 m)
  | .lst ds, _, _, h, m => by
    cases h with
    | lst h1 h2 h3 h4 => exact .lst (.of h1) (dps_of ds h3 m)
  | .fz ds, _, _, h, m => by
    cases h with
    | fz h1 h2 =>
      refine .lst ?_ (dps_of ds h2 m)
      rcases h1 with ⟨o, e⟩ | h1
      · exact .inl (.inr ⟨o, e⟩)
      · exact h1 H
  | .dct _ _, _, _, _, m => nomatch m
theorem dps_of {K : PySem.W.Frag} {H : Hp} : ∀ (ds : List D) {vs : List V} {S : Reg}, OwnL K H vs ds S → D.plainL ds = true → DpAll K H vs (D.pyL ds)
  | [], _, _, h, _ => by cases h; exact .nil
  | d :: ds, _, _, h, m => by
    have m' : (d.plain && D.plainL ds) = true := m
    rw [Bool.and_eq_true] at m'
    cases h with
    | cons h1 h2 _ _ _ => exact .cons (dp_of d h1 m'.1) (dps_of ds h2 m'.2)
end
def reprOk (d : D) : Bool := d.plain && d.py.showable && decide (d.py.depth ≤ 100) && !d.py.hasDict && decide (d.py.shown.length ≤ 100000)
def φRepr : List D → Option D
  | [d] => if reprOk d = true then some (.str d.py.shown) else none
  | _ => none
theorem c_repr (hgd : X.A.guards = some []) {kk : Nat} (hr : Room kk X.A) : CallR X (.builtin "repr") (rD X.K φRepr) := call_of fun ds d e H vs o pins s σ us Q I r k => by
  unfold φRepr at e
  split at e
  · next d1 =>
    have oo := o.one
    clear o
    obtain ⟨v, S, rfl, o⟩ := oo
    split at e
    · next hk =>
      cases e
      unfold reprOk at hk
      simp only [Bool.and_eq_true, decide_eq_true_eq, Bool.not_eq_true'] at hk
      obtain ⟨⟨⟨⟨k1, k2⟩, k3⟩, k4⟩, k5⟩ := hk
      have dp := dp_of d1 o k1
      obtain ⟨u, rfl, ru⟩ := vals1 r
      have big : ∀ (a : Addr), u = .ref a → wpAny (model X.prog X.w) X.A (call (.builtin "repr") [u]) (EP X pins σ Q) X.xe s := fun a ea => by
        obtain ⟨as, rd⟩ := dp.reads I _ _ _ ru
        subst ea
        refine repr_of_reads' rd k2 (fun z => by rw [k4] at z; cases z) hgd (by have := hr.un; omega) (fun _ _ e => e) (fun h' t tk hk => ⟨.str _, H, I.kept hk, ⟨_, rfl⟩, give k .str⟩) (sz5 k5)
      cases o with
      | non => cases ru; exact P.repr_of_none ⟨.str _, H, I.tok _, ⟨_, rfl⟩, give k .str⟩
      | bl =>
        cases ru
        refine P.repr_of_bool ⟨.str _, H, I.tok _, ⟨_, rfl⟩, ?_⟩
        refine cast ?_ (give k .str)
        congr 2
        try (split <;> rfl)
      | int =>
        obtain ⟨t, rfl⟩ := ru
        refine P.repr_of_int (by simpa [D.py, PyData.showable] using k2) ⟨.str _, H, I.tok _, ⟨_, rfl⟩, ?_⟩
        refine cast ?_ (give k .str)
        simp only [D.py, PyData.shown]
      | str =>
        obtain ⟨t, rfl⟩ := ru
        refine P.repr_of_str ⟨.str _, H, I.tok _, ⟨_, rfl⟩, ?_⟩ (by have := sz5 k5; simpa only [D.py, PyData.shown] using this)
        refine cast ?_ (give k .str)
        simp only [D.py, PyData.shown]
      | tup h1 h2 => exact big _ ru
      | lst h1 h2 h3 h4 => exact big _ ru
      | fz h1 h2 => exact big _ ru
      | dct => cases k1
    · cases e
  · cases e
/-- all, any of a list of bools -/
def bools : List D → Option (List Bool)
  | [] => some []
  | .bl b :: r => (bools r).map (b :: ·)
  | _ => none
theorem bools_own {K : PySem.W.Frag} {H : Hp} : ∀ {ds : List D} {vs : List V} {S : Reg} {bs : List Bool}, OwnL K H vs ds S → bools ds = some bs → vs = bs.map V.bl
  | [], _, _, _, h, e => by cases h; cases e; rfl
  | d :: r, _, _, _, h, e => by
    cases h with
    | cons h1 h2 _ _ _ =>
      cases h1 with
      | bl =>
        have e : (bools r).map (_ :: ·) = some _ := e
        cases q : bools r with
        | none => rw [q] at e; cases e
        | some bs' =>
          rw [q] at e
          cases e
          rw [bools_own h2 q]
          rfl
      | _ => cases e
def φAll : List D → Option D
  | [.lst ds] => (bools ds).map fun bs => .bl (bs.all id)
  | _ => none
def φAny : List D → Option D
  | [.lst ds] => (bools ds).map fun bs => .bl (bs.any id)
  | _ => none
theorem c_all (hc : X.calm = true) : CallR X (.builtin "all") (rD X.K φAll) := call_of fun ds d e H vs o pins s σ us Q I r k => by
  unfold φAll at e
  split at e
  · next xs =>
    have oo := o.one
    clear o
    obtain ⟨v, S, rfl, o⟩ := oo
    cases q : bools xs with
    | none => rw [q] at e; cases e
    | some bs =>
      rw [q] at e
      cases e
      cases o with
      | lst h1 h2 h3 h4 =>
        have := bools_own h3 q
        subst this
        exact cr_all hc pins s σ H _ us Q I r ⟨_, bs, rfl, .of h1, give k .bl⟩
  · cases e
theorem c_any (hc : X.calm = true) : CallR X (.builtin "any") (rD X.K φAny) := call_of fun ds d e H vs o pins s σ us Q I r k => by
  unfold φAny at e
  split at e
  · next xs =>
    have oo := o.one
    clear o
    obtain ⟨v, S, rfl, o⟩ := oo
    cases q : bools xs with
    | none => rw [q] at e; cases e
    | some bs =>
      rw [q] at e
      cases e
      cases o with
      | lst h1 h2 h3 h4 =>
        have := bools_own h3 q
        subst this
        exact cr_any hc pins s σ H _ us Q I r ⟨_, bs, rfl, .of h1, give k .bl⟩
  · cases e
/-- isinstance(x, int) -/
def fIsInt : D → Option D
  | .int _ => some (.bl true)
  | _ => none
theorem v_isInt {p p2 : Pos} (hm : X.mg "isinstance" = none) (hi : X.mg "int" = none) (ha : PE X a (tV X.K f1 qa)) (hg : Gl X "isinstance" := by rfl) (hgi : Gl X "int" := by rfl) (he : starEach (a :: [Expr.Name "int" p2]) X.env = (false, eval a X.env) :: starEach [Expr.Name "int" p2] X.env := by rfl)
    (h2 : starEach [Expr.Name "int" p2] X.env = (false, eval (Expr.Name "int" p2) X.env) :: starEach [] X.env := by rfl) (hpl : (backTo pos (starEach [Expr.Name "int" p2] X.env)).any (·.1) = false := by rfl) : PE X (.Call (.Name "isinstance" p) [a, .Name "int" p2] [] pos) (tV X.K true (pOp1 fIsInt qa)) :=
  PE.weak (pe_callB call_isi hg hm (by decide +kernel) (pa_cons ha (pa_cons (pe_bltn (v := .ty "int") hgi hi boot_int rfl) pa_nil h2) he) (by decide) (by decide) he hpl) fun σ H Q ⟨R, SR, Γ, S, d, s, e, k⟩ => by
    unfold pOp1 at e
    split at e
    · next x ex =>
      refine ⟨R, SR, Γ, S, x, s, ex, fun v H1 Sv o1 x1 _ _ => ?_⟩
      cases x with
      | int i =>
        cases e
        cases o1
        exact ⟨.int i, .ty "int", .type "int", .type "int", true, rfl, .ty _, .base (.int i), kit_ty (by decide +kernel), k _ H1 No .bl x1 (fun _ z => z.elim) (fun _ _ z => z.elim)⟩
      | _ => cases e
    · cases e
end
end DL
set_option Elab.async false
set_option linter.all false
set_option maxRecDepth 100000
namespace DL
open PySem PySem.Spec PyProof.Rows L2

section
variable {K : PySem.W.Frag} {σ σ' : L2.St} {H H' H1 H2 H3 : Hp} {R : Rc} {SR S S' S1 S2 T : Reg} {Γ Γ' : En} {i : Nat} {d : D} {v : V}
mutual
theorem Own.dom : ∀ (d : D) {v : V} {S : Reg}, Own K H v d S → Own K H v d fun a => S a ∧ H a ≠ none
  | .non, _, _, h => by cases h; exact .non
  | .bl _, _, _, h => by cases h; exact .bl
  | .int _, _, _, h => by cases h; exact .int
  | .str _, _, _, h => by cases h; exact .str
  | .tup ds, _, _, h => by
    cases h with
    | tup h1 h2 => exact .tup h1 (OwnL.dom ds h2)
  | .lst ds, _, _, h => by
    cases h with
    | lst h1 h2 h3 h4 => exact .lst h1 ⟨h2, by rw [h1]; simp⟩ (OwnL.dom ds h3) fun x z => ⟨⟨(h4 x z.1).1, z.2⟩, (h4 x z.1).2⟩
  | .fz ds, _, _, h => by
    cases h with
    | fz h1 h2 => exact .fz h1 (OwnL.dom ds h2)
  | .dct _ ds, _, _, h => by
    cases h with
    | dct h1 h2 h5 h3 h4 => exact .dct h1 ⟨h2, by rw [h1]; simp⟩ h5 (OwnL.dom ds h3) fun x z => ⟨⟨(h4 x z.1).1, z.2⟩, (h4 x z.1).2⟩
theorem OwnL.dom : ∀ (ds : List D) {vs : List V} {S : Reg}, OwnL K H vs ds S → OwnL K H vs ds fun a => S a ∧ H a ≠ none
  | [], _, _, h => by cases h; exact .nil
  | d :: ds, _, _, h => by
    cases h with
    | cons h1 h2 h3 h4 h5 => exact .cons (Own.dom d h1) (OwnL.dom ds h2) (fun x a b => h3 x a.1 b.1) (fun x a => ⟨h4 x a.1, a.2⟩) (fun x a => ⟨h5 x a.1, a.2⟩)
end
theorem Step.frame (t : Step S H H1 S1) : Step (fun a => S a ∨ T a) H H1 (fun a => S1 a ∨ T a) :=
  ⟨fun a o e n => t.keep a o e fun z => n (.inl z), t.dom, fun a z => z.elim (fun z => (t.grow a z).imp_left .inl) fun z => .inl (.inr z)⟩
theorem Step.wide (t : Step S H H1 S1) (m : ∀ a, S a → S2 a) : Step S2 H H1 S1 := ⟨fun a o e n => t.keep a o e fun z => n (m a z), t.dom, fun a z => (t.grow a z).imp_left (m a)⟩
theorem set_same {α : Type} {l : List α} {i : Nat} {x : α} (h : l[i]? = some x) : l.set i x = l := by
  apply List.ext_getElem?
  intro j
  by_cases q : i = j
  · subst q
    rw [h]
    have hi : i < l.length := (List.getElem?_eq_some_iff.mp h).1
    rw [List.getElem?_set_self hi]
  · rw [List.getElem?_set_ne q]
theorem sameR_set {x : Option V} (f : free R i = true) : SameR R σ (σ.set i x) := fun j h => by
  have : i ≠ j := fun q => by rw [q, h] at f; cases f
  rw [List.getElem?_set_ne this]
theorem free_ro (f : free R i = true) : roAt R i = none := by
  unfold free at f
  rw [Bool.and_eq_true] at f
  exact Option.isNone_iff_eq_none.mp f.1
theorem St.take (s : St K σ H R SR Γ S) (h : Γ[i]? = some (some d)) : ∃ v Si So, σ[i]? = some (some v) ∧ Own K H v d Si ∧ St K σ H R SR (Γ.set i none) So ∧ (∀ a, Si a → So a → False) ∧ (∀ a, Si a → S a) ∧ (∀ a, So a → S a) := by
  obtain ⟨Sg, o1, o2, o3⟩ := s.own
  obtain ⟨v, e, o⟩ := o1 i d h
  refine ⟨v, Sg i, fun a => ∃ j, j ≠ i ∧ Sg j a, e, o, ⟨by rw [List.length_set]; exact s.len, s.ro, ⟨fun j a => j ≠ i ∧ Sg j a, fun j d' hj => ?_, fun j x z => ⟨j, z.1, z.2⟩, fun j k x n z1 z2 => o3 j k x n z1.2 z2.2⟩, ?_, ?_, s.there⟩, ?_, fun a z => o2 i a z, ?_⟩
  · by_cases q : i = j
    · subst q
      by_cases hl : i < Γ.length
      · rw [List.getElem?_set_self hl] at hj; cases hj
      · rw [List.getElem?_eq_none (by rw [List.length_set]; omega)] at hj; cases hj
    · rw [List.getElem?_set_ne q] at hj
      obtain ⟨v', e', o'⟩ := o1 j d' hj
      exact ⟨v', e', o'.mono _ fun x z => ⟨fun q' => q q'.symm, z⟩⟩
  · rintro a z ⟨j, _, z2⟩
    exact s.dis a z (o2 j a z2)
  · rintro a ⟨j, _, z⟩
    exact s.mu a (o2 j a z)
  · rintro a z ⟨j, n, z2⟩
    exact o3 j i a n z2 z
  · rintro a ⟨j, _, z⟩
    exact o2 j a z
theorem St.put {Si : Reg} (s : St K σ H R SR Γ S) (hi : i < Γ.length) (hr : roAt R i = none) (o : Own K H v d Si) (dj : ∀ a, Si a → S a → False) (ds : ∀ a, SR a → Si a → False) (mu : ∀ a, Si a → Mu (H a)) :
    St K (σ.set i (some v)) H R SR (Γ.set i (some d)) (fun a => S a ∨ Si a) := by
  obtain ⟨Sg, o1, o2, o3⟩ := s.own
  have hs : i < σ.length := by rw [← s.len]; exact hi
  refine ⟨by rw [List.length_set, List.length_set]; exact s.len, fun j d' hj => ?_, ⟨fun j a => if j = i then Si a else Sg j a, fun j d' hj => ?_, fun j x z => ?_, fun j k x n z1 z2 => ?_⟩, fun a z => ?_, fun a z => z.elim (s.mu a) (mu a), s.there⟩
  · have q : i ≠ j := fun q => by rw [q, hj] at hr; cases hr
    rw [List.getElem?_set_ne q]
    exact s.ro j d' hj
  · by_cases q : j = i
    · subst q
      rw [List.getElem?_set_self hi] at hj
      cases hj
      rw [List.getElem?_set_self hs]
      exact ⟨v, rfl, o.mono _ fun x z => by show if j = j then Si x else Sg j x; rw [if_pos rfl]; exact z⟩
    · rw [List.getElem?_set_ne (Ne.symm q)] at hj ⊢
      obtain ⟨v', e', o'⟩ := o1 j d' hj
      exact ⟨v', e', o'.mono _ fun x z => by show if j = i then Si x else Sg j x; rw [if_neg q]; exact z⟩
  · have z : if j = i then Si x else Sg j x := z
    by_cases q : j = i
    · rw [if_pos q] at z; exact .inr z
    · rw [if_neg q] at z; exact .inl (o2 j x z)
  · have z1 : if j = i then Si x else Sg j x := z1
    have z2 : if k = i then Si x else Sg k x := z2
    by_cases q1 : j = i
    · rw [if_pos q1] at z1
      have q2 : k ≠ i := fun q2 => n (q1.trans q2.symm)
      rw [if_neg q2] at z2
      exact dj x z1 (o2 k x z2)
    · rw [if_neg q1] at z1
      by_cases q2 : k = i
      · rw [if_pos q2] at z2; exact dj x z2 (o2 j x z1)
      · rw [if_neg q2] at z2; exact o3 j k x n z1 z2
  · exact fun q => q.elim (s.dis a z) (ds a z)
theorem St.keepS {T' : Reg} (s : St K σ H R SR Γ S) (t : Step T H H' T') (dj : ∀ a, S a → T a → False) (mu : ∀ a, T a → Mu (H a)) (dr : ∀ a, SR a → T a → False) : St K σ H' R SR Γ S := by
  obtain ⟨Sg, o1, o2, o3⟩ := s.own
  refine ⟨s.len, fun j d hj => ?_, ⟨Sg, fun j d hj => ?_, o2, o3⟩, s.dis, t.mu dj s.mu, t.there s.there⟩
  · obtain ⟨v, Sv, e, o, m⟩ := s.ro j d hj
    exact ⟨v, Sv, e, o.keep _ (t.keeps mu fun x z1 z2 => dr x (m x z1) z2), m⟩
  · obtain ⟨v, e, o⟩ := o1 j d hj
    exact ⟨v, e, o.keep _ (t.keeps mu fun x z1 z2 => dj x (o2 j x z1) z2)⟩
/-- the part of the state that a region covers may be said smaller -/
theorem St.drop (s : St K σ H R SR Γ S) : St K σ H R SR (Γ.set i none) S := by
  obtain ⟨Sg, o1, o2, o3⟩ := s.own
  refine ⟨by rw [List.length_set]; exact s.len, s.ro, ⟨Sg, fun j d hj => ?_, o2, o3⟩, s.dis, s.mu, s.there⟩
  by_cases q : i = j
  · subst q
    by_cases hl : i < Γ.length
    · rw [List.getElem?_set_self hl] at hj; cases hj
    · rw [List.getElem?_eq_none (by rw [List.length_set]; omega)] at hj; cases hj
  · rw [List.getElem?_set_ne q] at hj
    exact o1 j d hj
theorem OwnL.views : ∀ {ds : List D} {vs : List V} {S : Reg}, OwnL K H vs ds S → OwnV K H vs ds
  | [], _, _, h => by cases h; trivial
  | d :: ds, _, _, h => by
    cases h with
    | cons h1 h2 h3 h4 h5 => exact ⟨⟨_, h1, fun _ _ => trivial⟩, h2.views⟩
end

/-! ### expressions that change -/
section
variable {X : Cx} {a b c e : Expr} {es rest : List Expr} {pos : Pos} {f1 : Bool} {qa : P} {ba : PB} {ma mb : M} {ta tb : MB}
def mP (p : P) : M := fun R Γ => match p R Γ with
  | some d => some (d, Γ)
  | none => none
theorem m_of (h : PE X e (tV X.K true qa)) : PE X e (tM X.K (mP qa)) := PE.weak h fun σ H Q ⟨R, SR, Γ, S, d, Γ', s, e, k⟩ => by
  unfold mP at e
  split at e
  · next x ex =>
    cases e
    exact ⟨R, SR, Γ, S, d, s, ex, fun v H' Sv o x _ g => k v H' Sv S (s.ex x) o (fun a z y => Mu.some (s.mu a y) (g rfl a z).1) (fun a z => (g rfl a z).2) (Step.exF x fun a z => (g rfl a z).1)⟩
  · cases e
def mMove (i : Nat) : M := fun R Γ => match roAt R i, Γ[i]? with
  | none, some (some d) => some (d, Γ.set i none)
  | _, _ => none
theorem m_move (i : Nat) {x : Str} (hN : X.N[i]? = some x := by rfl) (hv : Vis X.env.scope x := by first | exact Or.inl rfl | exact Or.inr (Or.inl rfl) | exact Or.inr (Or.inr rfl)) (hd : (x == ("__debug__" : Str)) = false := by decide)
    (hcd : (x == ("__classdict__" : Str)) = false := by decide) : PE X (.Name x pos) (tM X.K (mMove i)) :=
  PE.weak (pv i hN hv hd hcd) fun σ H Q ⟨R, SR, Γ, S, d, Γ', s, e, k⟩ => by
    unfold mMove at e
    split at e
    · next d' hr hg =>
      cases e
      obtain ⟨v, Si, So, e1, o, s', dj, m1, m2⟩ := s.take hg
      exact ⟨v, e1, k v H Si So s' o dj (fun a z => s.mu a (m1 a z)) (Step.refl.less fun x z => z.elim (m2 x) (m1 x))⟩
    · cases e
def mOp2 (f : D → D → Option D) (m n : M) : M := fun R Γ => match m R Γ with
  | some (x, Γ1) => match n R Γ1 with
    | some (y, Γ2) => match f x y with
      | some z => some (z, Γ2)
      | none => none
    | none => none
  | none => none
theorem mop2_weak {f : D → D → Option D} {σ : L2.St} {H : Hp} {Q : VK} (h : tM X.K (mOp2 f ma mb) σ H Q) : tOp (rD2 X.K f) (tM X.K ma) (tM X.K mb) σ H Q := by
  obtain ⟨R, SR, Γ, S, d, Γ', s, e, k⟩ := h
  unfold mOp2 at e
  split at e
  · next x Γ1 e1 =>
    split at e
    · next y Γ2 e2 =>
      split at e
      · next z ez =>
        cases e
        refine ⟨R, SR, Γ, S, x, Γ1, s, e1, fun v H1 Sv S1 s1 o1 d1 mu1 t1 => ⟨R, SR, Γ1, S1, y, Γ', s1, e2, fun w H2 Sw S2 s2 o2 d2 mu2 t2 => ⟨x, y, _, _, d, o1.keep _ (t2.keeps s1.mu d1), o2, ez, fun u H3 Su o3 x3 g3 => ?_⟩⟩⟩
        refine k u H3 Su S2 (s2.ex x3) o3 (fun a z y => Mu.some (s2.mu a y) (g3 a z).1) (fun a z => (g3 a z).2) ?_
        exact ((t1.less fun _ z => .inl z).trans (t2.less fun _ z => .inl z)).trans (Step.exF x3 fun a z => (g3 a z).1)
      · cases e
    · cases e
  · cases e
theorem m_op {op : Operator} {f : D → D → Option D} (h : OpR X (binaryOp op) (rD2 X.K f)) (ha : PE X a (tM X.K ma)) (hb : PE X b (tM X.K mb)) : PE X (.BinOp a op b pos) (tM X.K (mOp2 f ma mb)) := PE.weak (pe_op h ha hb) fun _ _ _ h => mop2_weak h
theorem m_cmp {op : CmpOp} {f : D → D → Option D} (h : OpR X (compareOp op) (rD2 X.K f)) (ha : PE X a (tM X.K ma)) (hb : PE X b (tM X.K mb)) (hm : behindInMarks op b = false := by first | exact nomark _ | rfl) : PE X (.Compare a [op] [b] pos) (tM X.K (mOp2 f ma mb)) :=
  PE.weak (pe_cmpR h ha hb hm) fun _ _ _ h => mop2_weak h
def mOp1 (f : D → Option D) (m : M) : M := fun R Γ => match m R Γ with
  | some (x, Γ1) => match f x with
    | some z => some (z, Γ1)
    | none => none
  | none => none
theorem m_un {op : UnaryOp} {f : D → Option D} (h : UnR X (unaryOp op) (rD1 X.K f)) (ha : PE X a (tM X.K ma)) : PE X (.UnaryOp op a pos) (tM X.K (mOp1 f ma)) := PE.weak (pe_un h ha) fun σ H Q ⟨R, SR, Γ, S, d, Γ', s, e, k⟩ => by
  unfold mOp1 at e
  split at e
  · next x Γ1 e1 =>
    split at e
    · next z ez =>
      cases e
      refine ⟨R, SR, Γ, S, x, Γ', s, e1, fun v H1 Sv S1 s1 o1 d1 mu1 t1 => ⟨x, _, d, o1, ez, fun u H3 Su o3 x3 g3 => ?_⟩⟩
      exact k u H3 Su S1 (s1.ex x3) o3 (fun a z y => Mu.some (s1.mu a y) (g3 a z).1) (fun a z => (g3 a z).2) ((t1.less fun _ z => .inl z).trans (Step.exF x3 fun a z => (g3 a z).1))
    · cases e
  · cases e
/-- an item of what was just made -/
theorem m_ix (ha : PE X a (tM X.K ma)) (hb : PE X b (tM X.K mb)) (hp : PlainIx b := by exact fun _ _ => rfl) : PE X (.Subscript a b pos) (tM X.K (mOp2 ixD ma mb)) := PE.weak (pe_ix ix_D ha hb hp) fun σ H Q ⟨R, SR, Γ, S, d, Γ', s, e, k⟩ => by
  unfold mOp2 at e
  split at e
  · next x Γ1 e1 =>
    split at e
    · next y Γ2 e2 =>
      split at e
      · next z ez =>
        cases e
        refine ⟨R, SR, Γ, S, x, Γ1, s, e1, fun v H1 Sv S1 s1 o1 d1 mu1 t1 => ⟨R, SR, Γ1, S1, y, Γ', s1, e2, fun w H2 Sw S2 s2 o2 d2 mu2 t2 => ⟨x, _, y, _, d, o1.keep _ (t2.keeps s1.mu d1), o2, ez, fun u Su o3 m3 => ?_⟩⟩⟩
        have t2' := t2.less (S2 := S2) fun _ z => .inl z
        refine k u H2 Su S2 s2 o3 (fun a z y => t2'.apart d1 (fun x q => Mu.some (mu1 x q)) a (m3 a z) y) (fun a z => t2'.mu d1 mu1 a (m3 a z)) ?_
        exact (t1.trans (t2'.frame (T := Sv))).less fun a z => z.imp_right (m3 a)
      · cases e
    · cases e
  · cases e
abbrev ML := Rc → En → Option (List D × En)
def tMA (K : PySem.W.Frag) (ms : ML) : TA := fun σ H Q => ∃ R SR Γ S ds Γ', St K σ H R SR Γ S ∧ ms R Γ = some (ds, Γ') ∧
  ∀ vs H' Sv S', St K σ H' R SR Γ' S' → OwnL K H' vs ds Sv → (∀ a, Sv a → S' a → False) → (∀ a, Sv a → Mu (H' a)) → Step S H H' (fun a => S' a ∨ Sv a) → Q vs H'
def msNil : ML := fun _ Γ => some ([], Γ)
def msCons (m : M) (ms : ML) : ML := fun R Γ => match m R Γ with
  | some (d, Γ1) => match ms R Γ1 with
    | some (ds, Γ2) => some (d :: ds, Γ2)
    | none => none
  | none => none
theorem ma_nil : PA X [] (tMA X.K msNil) := PA.weak pa_nil fun σ H Q ⟨R, SR, Γ, S, ds, Γ', s, h, k⟩ => by
  cases h; exact k [] H No S s .nil (fun _ z => z.elim) (fun _ z => z.elim) (Step.refl.less fun x z => z.elim id fun z => z.elim)
variable {ms : ML}
theorem ma_cons (he : PE X e (tM X.K ma)) (hr : PA X es (tMA X.K ms)) (hs : starEach (e :: es) X.env = (false, eval e X.env) :: starEach es X.env := by rfl) : PA X (e :: es) (tMA X.K (msCons ma ms)) :=
  PA.weak (pa_cons he hr hs) fun σ H Q ⟨R, SR, Γ, S, ds, Γ', s, h, k⟩ => by
    unfold msCons at h
    split at h
    · next d Γ1 ed =>
      split at h
      · next ds' Γ2 eds =>
        cases h
        refine ⟨R, SR, Γ, S, _, _, s, ed, fun v H1 Sv S1 s1 o1 d1 mu1 t1 => ⟨R, SR, Γ1, S1, _, _, s1, eds, fun vs H2 Sw S2 s2 o2 d2 mu2 t2 => ?_⟩⟩
        have ap : ∀ a, Sv a → S2 a ∨ Sw a → False := fun a z q => t2.apart d1 (fun x q => Mu.some (mu1 x q)) a z q
        refine k (v :: vs) H2 (fun a => Sv a ∨ Sw a) S2 s2 (.cons (o1.keep _ (t2.keeps s1.mu d1)) o2 (fun x z1 z2 => ap x z1 (.inr z2)) (fun x z => .inl z) fun x z => .inr z) (fun a z q => ?_) (fun a z => ?_) ?_
        · exact z.elim (fun z => ap a z (.inl q)) fun z => d2 a z q
        · exact z.elim (fun z => t2.mu d1 mu1 a z) (mu2 a)
        · exact (t1.trans (t2.frame (T := Sv))).less fun a z => z.elim (fun z => .inl (.inl z)) fun z => z.elim .inr fun z => .inl (.inr z)
      · cases h
    · cases h
def mTup (ms : ML) : M := fun R Γ => match ms R Γ with
  | some (ds, Γ1) => if ds.length ≤ 100000 then some (.tup ds, Γ1) else none
  | none => none
def mLst (ms : ML) : M := fun R Γ => match ms R Γ with
  | some (ds, Γ1) => if ds.length ≤ 100000 then some (.lst ds, Γ1) else none
  | none => none
theorem m_tup {x1} (h : PA X es (tMA X.K ms)) : PE X (.Tuple es x1 pos) (tM X.K (mTup ms)) := PE.weak (pe_tup h) fun σ H Q ⟨R, SR, Γ, S, d, Γ', s, e, k⟩ => by
  unfold mTup at e
  split at e
  · next ds Γ1 eds =>
    split at e
    · next hl =>
      cases e
      refine ⟨R, SR, Γ, S, ds, _, s, eds, fun vs H' Sv S' s' o dj mu t => ⟨by rw [o.length]; exact sz5 hl, fun p hp => ?_⟩⟩
      have ne : ∀ a, Sv a → a ≠ p := fun a z q => by rw [q] at z; have := mu p z; rw [hp] at this; exact this.elim
      refine k _ _ Sv S' (s'.ex (Ex.new hp)) (.tup (.of upd_same) (o.keep _ (Ex.new hp).keeps)) dj (fun a z => by rw [upd_ne (ne a z)]; exact mu a z) (t.trans (Step.ex (Ex.new hp)))
    · cases e
  · cases e
theorem m_lst (h : PA X es (tMA X.K ms)) : PE X (.List es pos) (tM X.K (mLst ms)) := PE.weak (pe_lst h) fun σ H Q ⟨R, SR, Γ, S, d, Γ', s, e, k⟩ => by
  unfold mLst at e
  split at e
  · next ds Γ1 eds =>
    split at e
    · next hl =>
      cases e
      refine ⟨R, SR, Γ, S, ds, _, s, eds, fun vs H' Sv S' s' o dj mu t => ⟨by rw [o.length]; exact sz5 hl, fun p hp => ?_⟩⟩
      have ne : ∀ a, Sv a → a ≠ p := fun a z q => by rw [q] at z; have := mu p z; rw [hp] at this; exact this.elim
      have ne' : ∀ a, S' a → a ≠ p := fun a z q => by rw [q] at z; have := s'.mu p z; rw [hp] at this; exact this.elim
      refine k _ _ (fun a => Sv a ∨ a = p) S' (s'.ex (Ex.new hp)) (.lst upd_same (.inr rfl) (o.keep _ (Ex.new hp).keeps) (fun a z => ⟨.inl z, ne a z⟩)) (fun a z q => ?_) (fun a z => ?_) ?_
      · exact z.elim (fun z => dj a z q) (ne' a q)
      · rcases z with z | z
        · rw [upd_ne (ne a z)]; exact mu a z
        · rw [z, upd_same]; trivial
      · exact (t.trans (Step.exF (S' := fun a => a = p) (Ex.new hp) fun a z => by rw [z]; exact hp)).less fun a z => z.elim (fun z => .inl (.inl z)) fun z => z.elim (fun z => .inl (.inr z)) .inr
    · cases e
  · cases e
def mCall (φ : List D → Option D) (ms : ML) : M := fun R Γ => match ms R Γ with
  | some (ds, Γ1) => match φ ds with
    | some d => some (d, Γ1)
    | none => none
  | none => none
theorem mcall_weak {φ : List D → Option D} {σ : L2.St} {H : Hp} {Q : VK} (h : tM X.K (mCall φ ms) σ H Q) : tMA X.K ms σ H fun vs H1 => rD X.K φ vs H1 Q := by
  obtain ⟨R, SR, Γ, S, d, Γ', s, e, k⟩ := h
  unfold mCall at e
  split at e
  · next ds Γ1 eds =>
    split at e
    · next z ez =>
      cases e
      refine ⟨R, SR, Γ, S, ds, _, s, eds, fun vs H1 Sv S1 s1 o dj mu t => ⟨ds, d, o.views, ez, fun u H3 Su o3 x3 g3 => ?_⟩⟩
      exact k u H3 Su S1 (s1.ex x3) o3 (fun a z y => Mu.some (s1.mu a y) (g3 a z).1) (fun a z => (g3 a z).2) ((t.less fun _ z => .inl z).trans (Step.exF x3 fun a z => (g3 a z).1))
    · cases e
  · cases e
theorem m_callB {x : Str} {p : Pos} {id : String} {φ : List D → Option D} (hc : CallR X (.builtin id) (rD X.K φ)) (hm : X.mg x = none) (hv : bootBuiltins x = some (.builtin id)) (ha : PA X (e :: es) (tMA X.K ms)) (hg : Gl X x := by rfl) (hn : x ≠ "__name__" := by decide) (hdb : (x == ("__debug__" : Str)) = false := by decide)
    (he : starEach (e :: es) X.env = (false, eval e X.env) :: starEach es X.env := by rfl) (hpl : (backTo pos (starEach es X.env)).any (·.1) = false := by rfl) : PE X (.Call (.Name x p) (e :: es) [] pos) (tM X.K (mCall φ ms)) :=
  PE.weak (pe_callB hc hg hm hv ha hn hdb he hpl) fun _ _ _ h => mcall_weak h
theorem m_callT {x : Str} {p : Pos} {id : String} {φ : List D → Option D} (hc : CallR X (.type id) (rD X.K φ)) (hm : X.mg x = none) (hv : bootBuiltins x = some (.type id)) (ha : PA X (e :: es) (tMA X.K ms)) (hg : Gl X x := by rfl) (hn : x ≠ "__name__" := by decide) (hdb : (x == ("__debug__" : Str)) = false := by decide)
    (he : starEach (e :: es) X.env = (false, eval e X.env) :: starEach es X.env := by rfl) (hpl : (backTo pos (starEach es X.env)).any (·.1) = false := by rfl) : PE X (.Call (.Name x p) (e :: es) [] pos) (tM X.K (mCall φ ms)) :=
  PE.weak (pe_callTy hc hg hm hv ha hn hdb he hpl) fun _ _ _ h => mcall_weak h
theorem m_own {k n : Nat} {x : Str} {p : Pos} {φ : List D → Option D} (F : Own1 X.prog X.w X.K X.mg X.base k x n φ) (hgd : X.A.guards = some []) (hr : Room k X.A) (ha : PA X (e :: es) (tMA X.K ms)) (hg : Gl X x := by rfl) (hdb : (x == ("__debug__" : Str)) = false := by decide)
    (he : starEach (e :: es) X.env = (false, eval e X.env) :: starEach es X.env := by rfl) (hpl : (backTo pos (starEach es X.env)).any (·.1) = false := by rfl) : PE X (.Call (.Name x p) (e :: es) [] pos) (tM X.K (mCall (arity n φ) ms)) := by
  obtain ⟨f, fd, pr, G, hm, kp, b⟩ := F.ex
  refine PE.weak (pe_callG G hgd hr hg hm kp b ha hdb he hpl) fun σ H Q h => ?_
  obtain ⟨R, SR, Γ, S, ds, Γ', s, eds, k⟩ := mcall_weak h
  refine ⟨R, SR, Γ, S, ds, Γ', s, eds, fun vs H1 Sv S1 s1 o dj mu t => ?_⟩
  obtain ⟨ds', d, ov, e, kk⟩ := k vs H1 Sv S1 s1 o dj mu t
  unfold arity at e
  split at e
  · next hl => exact ⟨by rw [ov.length, hl], ds', d, ov, e, kk⟩
  · cases e
/-! a call that changes what its first argument names -/
def spM (K : PySem.W.Frag) (n : Nat) (φ : D → List D → Option (D × D)) : Sp := fun vs H Q _ => vs.length = n ∧ ∃ vb vr db dr Sb SV d db', vs = vb :: vr ∧ Own K H vb db Sb ∧ (∀ a, Sb a → Mu (H a)) ∧ OwnW K H SV vr dr ∧ (∀ a, SV a → Sb a → False) ∧ (∀ a, SV a → H a ≠ none) ∧ φ db dr = some (d, db') ∧
  ∀ v H' Sv Sb', Own K H' v d Sv → Own K H' vb db' Sb' → (∀ a, Sv a → Sb' a → False) → (∀ a, Sv a → Mu (H' a)) → (∀ a, Sb' a → Mu (H' a)) → Step Sb H H' (fun a => Sb' a ∨ Sv a) → Q v H'
structure Own2 (P : Program) (w : World) (K : PySem.W.Frag) (mg : Str → Option Value) (base : Heap) (k : Nat) (x : Str) (n : Nat) (φ : D → List D → Option (D × D)) : Prop where
  ex : ∃ f fd ps, FnG P w K mg base k f fd ps (spM K n φ) ∧ mg x = some (.ref f) ∧ PySem.W.keepIn K (.ref f) = true ∧ Binds K fd ps []
def mCallE (n i : Nat) (φ : D → List D → Option (D × D)) (ps : PL) : M := fun R Γ => match roAt R i, Γ[i]? with
  | none, some (some b) => match ps R (Γ.set i none) with
    | some ds => if ds.length + 1 = n then match φ b ds with
        | some (d, b') => some (d, Γ.set i (some b'))
        | none => none
      else none
    | none => none
  | _, _ => none
theorem OwnW.dom {K : PySem.W.Frag} {H : Hp} {T : Reg} : ∀ {vs : List V} {ds : List D}, OwnW K H T vs ds → OwnW K H (fun a => T a ∧ H a ≠ none) vs ds
  | [], [], _ => trivial
  | _ :: _, d :: _, ⟨⟨S, o, m⟩, r⟩ => ⟨⟨_, o.dom _, fun a z => ⟨m a z.1, z.2⟩⟩, r.dom⟩
theorem m_callE {k n : Nat} {x y : Str} {p py : Pos} {φ : D → List D → Option (D × D)} {ps : PL} (i : Nat) (F : Own2 X.prog X.w X.K X.mg X.base k x n φ) (hgd : X.A.guards = some []) (hr : Room k X.A) (ha : PA X es (tVA X.K ps)) (hN : X.N[i]? = some y := by rfl)
    (hv : Vis X.env.scope y := by first | exact Or.inl rfl | exact Or.inr (Or.inl rfl) | exact Or.inr (Or.inr rfl)) (hg : Gl X x := by rfl) (hdb : (x == ("__debug__" : Str)) = false := by decide) (hdy : (y == ("__debug__" : Str)) = false := by decide) (hcy : (y == ("__classdict__" : Str)) = false := by decide)
    (he : starEach (.Name y py :: es) X.env = (false, eval (.Name y py) X.env) :: starEach es X.env := by rfl) (hpl : (backTo pos (starEach es X.env)).any (·.1) = false := by rfl) : PE X (.Call (.Name x p) (.Name y py :: es) [] pos) (tM X.K (mCallE n i φ ps)) := by
  obtain ⟨f, fd, pr, G, hm, kp, b⟩ := F.ex
  refine PE.weak (pe_callG G hgd hr hg hm kp b (pa_cons (pv i hN hv hdy hcy) ha he) hdb he hpl) fun σ H Q ⟨R, SR, Γ, S, d, Γ', s, e, k⟩ => ?_
  unfold mCallE at e
  split at e
  · next b0 hro hgi =>
    split at e
    · next ds eds =>
      split at e
      · next hn =>
        split at e
        · next d1 b1 ef =>
          cases e
          obtain ⟨v, Si, So, e1, o, s', dj, m1, m2⟩ := s.take hgi
          refine ⟨v, e1, R, SR, _, So, ds, s', eds, fun vs H1 ow x1 => ?_⟩
          have mu1 : ∀ a, Si a → Mu (H1 a) := fun a z => (s.ex x1).mu a (m1 a z)
          refine ⟨by simp [ow.length]; omega, v, vs, b0, ds, Si, fun a => (SR a ∨ So a ∨ H a = none) ∧ H1 a ≠ none, d, b1, rfl, o.keep _ x1.keeps, mu1, ow.dom, fun a z q => ?_, fun a z => z.2, ef, fun u H2 Sv Sb' ou ob dv muv mub t => ?_⟩
          · rcases z.1 with z | z | z
            · exact s.dis a z (m1 a q)
            · exact dj a q z
            · exact Mu.some (s.mu a (m1 a q)) z
          · have hi : i < Γ.length := by rw [s.len]; exact (List.getElem?_eq_some_iff.mp e1).1
            have sO : St X.K σ H1 R SR (Γ.set i none) So := s'.ex x1
            have k1 := sO.keepS t (fun a z q => dj a q z) mu1 fun a z q => s.dis a z (m1 a q)
            have ap : ∀ a, So a → Sb' a ∨ Sv a → False := fun a z q => t.apart (fun x z q => dj x q z) (fun x q => Mu.some (sO.mu x q)) a z q
            have apR : ∀ a, SR a → Sb' a ∨ Sv a → False := fun a z q => t.apart (fun x z q => s.dis x z (m1 x q)) sO.there a z q
            have p1 := k1.put (i := i) (by rw [List.length_set]; exact hi) hro ob (fun a z q => ap a q (.inl z)) (fun a z q => apR a z (.inl q)) mub
            rw [List.set_set, set_same e1] at p1
            refine k u H2 Sv _ p1 ou (fun a z q => q.elim (fun q => ap a q (.inr z)) (dv a z)) muv ?_
            have t1 : Step S H H1 S := Step.ex x1
            exact (t1.trans ((t.frame (T := So)).wide fun a z => z.elim (m1 a) (m2 a))).less fun a z => z.elim (fun z => z.elim .inr fun z => .inl (.inl z)) fun z => .inl (.inr z)
        · cases e
      · cases e
    · cases e
  · cases e
/-! ### tests that change -/
def mB (p : PB) : MB := fun R Γ => match p R Γ with
  | some b => some (b, Γ)
  | none => none
theorem mt_of (h : PT X e (tVB X.K ba)) : PT X e (tMB X.K (mB ba)) := PT.weak h fun σ H Q ⟨R, SR, Γ, S, b, Γ', s, e, k⟩ => by
  unfold mB at e
  split at e
  · next x ex =>
    cases e
    exact ⟨R, SR, Γ, S, b, s, ex, fun H' x => k H' S (s.ex x) (Step.ex x)⟩
  · cases e
def mTru (m : M) : MB := fun R Γ => match m R Γ with
  | some (d, Γ1) => match truD d with
    | some b => some (b, Γ1)
    | none => none
  | none => none
theorem mt_val (h : PE X e (tM X.K ma)) (he : ∀ whole, isTrue e X.env whole = (do let v ← whole; standAt e.pos; holding [v] (truthy v)) := by intro _; rfl) : PT X e (tMB X.K (mTru ma)) := PT.weak (pt_truth h he) fun σ H Q ⟨R, SR, Γ, S, b, Γ', s, e, k⟩ => by
  unfold mTru at e
  split at e
  · next d Γ1 ed =>
    split at e
    · next b' eb =>
      cases e
      exact ⟨R, SR, Γ, S, d, _, s, ed, fun v H' Sv S' s' o _ _ t => ⟨b, tru_of o eb, k H' S' s' (t.less fun _ z => .inl z)⟩⟩
    · cases e
  · cases e
def mBl (m : M) : MB := fun R Γ => match m R Γ with
  | some (.bl b, Γ1) => some (b, Γ1)
  | _ => none
theorem mt_cmp {op : CmpOp} {f : D → D → Option D} (h : OpR X (compareOp op) (rD2 X.K f)) (ha : PE X a (tM X.K ma)) (hb : PE X b (tM X.K mb)) (hm : behindInMarks op b = false := by first | exact nomark _ | rfl) : PT X (.Compare a [op] [b] pos) (tMB X.K (mBl (mOp2 f ma mb))) :=
  PT.weak (pt_cmpR h ha hb hm) fun σ H Q ⟨R, SR, Γ, S, b, Γ', s, e, k⟩ => by
    unfold mBl at e
    split at e
    · next b1 Γ1 ed =>
      cases e
      refine mop2_weak ⟨R, SR, Γ, S, _, _, s, ed, fun v H' Sv S' s' o _ _ t => ?_⟩
      cases o
      exact ⟨b, rfl, k H' S' s' (t.less fun _ z => .inl z)⟩
    · cases e
def mbNot (p : MB) : MB := fun R Γ => match p R Γ with
  | some (b, Γ1) => some (!b, Γ1)
  | none => none
def mbAnd (p q : MB) : MB := fun R Γ => match p R Γ with
  | some (true, Γ1) => q R Γ1
  | some (false, Γ1) => some (false, Γ1)
  | none => none
def mbOr (p q : MB) : MB := fun R Γ => match p R Γ with
  | some (true, Γ1) => some (true, Γ1)
  | some (false, Γ1) => q R Γ1
  | none => none
theorem mt_not (h : PT X a (tMB X.K ta)) : PT X (.UnaryOp .Not a pos) (tMB X.K (mbNot ta)) := PT.weak (pt_not h) fun σ H Q ⟨R, SR, Γ, S, b, Γ', s, e, k⟩ => by
  unfold mbNot at e
  split at e
  · next b' Γ1 eb =>
    cases e
    exact ⟨R, SR, Γ, S, b', _, s, eb, k⟩
  · cases e
theorem mand_weak {σ : L2.St} {H : Hp} {Q : Bool → Hp → Prop} (h : tMB X.K (mbAnd ta tb) σ H Q) : tAnd (tMB X.K ta) (tMB X.K tb) σ H Q := by
  obtain ⟨R, SR, Γ, S, b, Γ', s, e, k⟩ := h
  unfold mbAnd at e
  split at e
  · next Γ1 e1 =>
    refine ⟨R, SR, Γ, S, true, Γ1, s, e1, fun H' S' s' t => ?_⟩
    refine iteT ?_
    exact ⟨R, SR, Γ1, S', b, Γ', s', e, fun H2 S2 s2 t2 => k H2 S2 s2 (t.trans t2)⟩
  · next Γ1 e1 =>
    cases e
    refine ⟨R, SR, Γ, S, false, _, s, e1, fun H' S' s' t => ?_⟩
    refine iteF ?_
    exact k H' S' s' t
  · cases e
theorem mor_weak {σ : L2.St} {H : Hp} {Q : Bool → Hp → Prop} (h : tMB X.K (mbOr ta tb) σ H Q) : tOr (tMB X.K ta) (tMB X.K tb) σ H Q := by
  obtain ⟨R, SR, Γ, S, b, Γ', s, e, k⟩ := h
  unfold mbOr at e
  split at e
  · next Γ1 e1 =>
    cases e
    refine ⟨R, SR, Γ, S, true, _, s, e1, fun H' S' s' t => ?_⟩
    refine iteT ?_
    exact k H' S' s' t
  · next Γ1 e1 =>
    refine ⟨R, SR, Γ, S, false, Γ1, s, e1, fun H' S' s' t => ?_⟩
    refine iteF ?_
    exact ⟨R, SR, Γ1, S', b, Γ', s', e, fun H2 S2 s2 t2 => k H2 S2 s2 (t.trans t2)⟩
  · cases e
theorem mw_and1 (h : PT X a (tMB X.K ta)) : PW X (.BoolOp .And [a] pos) (tMB X.K ta) := pw_and1 h
theorem mw_and (h : PT X a (tMB X.K ta)) (h2 : PW X (.BoolOp .And (b :: rest) pos) (tMB X.K tb)) : PW X (.BoolOp .And (a :: b :: rest) pos) (tMB X.K (mbAnd ta tb)) := PW.weak (pw_and h h2) fun _ _ _ h => mand_weak h
theorem mw_or1 (h : PT X a (tMB X.K ta)) : PW X (.BoolOp .Or [a] pos) (tMB X.K ta) := pw_or1 h
theorem mw_or (h : PT X a (tMB X.K ta)) (h2 : PW X (.BoolOp .Or (b :: rest) pos) (tMB X.K tb)) : PW X (.BoolOp .Or (a :: b :: rest) pos) (tMB X.K (mbOr ta tb)) := PW.weak (pw_or h h2) fun _ _ _ h => mor_weak h
theorem mt_w (h : PW X a (tMB X.K ta)) : PT X a (tMB X.K ta) := h.pt
def mIf (t : MB) (m n : M) : M := fun R Γ => match t R Γ with
  | some (true, Γ1) => m R Γ1
  | some (false, Γ1) => n R Γ1
  | none => none
theorem m_if (ht : PT X c (tMB X.K ta)) (ha : PE X a (tM X.K ma)) (hb : PE X b (tM X.K mb)) : PE X (.IfExp c a b pos) (tM X.K (mIf ta ma mb)) := PE.weak (pe_ifExp ht ha hb) fun σ H Q ⟨R, SR, Γ, S, d, Γ', s, e, k⟩ => by
  unfold mIf at e
  split at e
  · next Γ1 e1 =>
    refine ⟨R, SR, Γ, S, true, Γ1, s, e1, fun H1 S1 s1 t1 => ?_⟩
    refine iteT ?_
    exact ⟨R, SR, Γ1, S1, d, Γ', s1, e, fun v H2 Sv S2 s2 o dj mu t2 => k v H2 Sv S2 s2 o dj mu (t1.trans t2)⟩
  · next Γ1 e1 =>
    refine ⟨R, SR, Γ, S, false, Γ1, s, e1, fun H1 S1 s1 t1 => ?_⟩
    refine iteF ?_
    exact ⟨R, SR, Γ1, S1, d, Γ', s1, e, fun v H2 Sv S2 s2 o dj mu t2 => k v H2 Sv S2 s2 o dj mu (t1.trans t2)⟩
  · cases e
end
end DL
set_option Elab.async false
set_option linter.all false
set_option maxRecDepth 100000
namespace DL
open PySem PySem.Spec PyProof.Rows L2

/-! ### statements -/
section
variable {X : Cx} {a b c e : Expr} {es : List Expr} {pos : Pos} {st : Stmt} {rest ss1 ss2 : List Stmt} {ma mb : M} {ta tb : MB} {sa sb : Sm}
def mNext : Sm := fun _ Γ => some (.nx Γ)
def mSeq (m n : Sm) : Sm := fun R Γ => match m R Γ with
  | some (.nx Γ1) => n R Γ1
  | r => r
theorem sq_nil : PSs X [] (tS X.K mNext) := PSs.weak pss_nil fun D σ H ⟨R, SR, Γ, S, r, s, e, k⟩ => by
  cases e
  exact k σ H S s SameR.refl Step.refl
theorem sq_one (h : PS X st (tS X.K sa)) : PSs X [st] (tS X.K sa) := pss_one h
theorem sq_cons (h1 : PS X st (tS X.K sa)) (h2 : PSs X rest (tS X.K sb)) : PSs X (st :: rest) (tS X.K (mSeq sa sb)) := PSs.weak (pss_cons h1 h2) fun D σ H ⟨R, SR, Γ, S, r, s, e, k⟩ => by
  unfold mSeq at e
  split at e
  · next Γ1 e1 => exact ⟨R, SR, Γ, S, _, s, e1, fun σ' H' S' s' sr t => ⟨R, SR, Γ1, S', r, s', e, k.trans sr t⟩⟩
  · next o hn =>
    refine ⟨R, SR, Γ, S, r, s, e, ?_⟩
    cases r with
    | nx Γ1 => exact absurd e (hn Γ1)
    | _ => exact k
theorem s_pass : PS X (.Pass pos) (tS X.K mNext) := PS.weak ps_pass fun D σ H ⟨R, SR, Γ, S, r, s, e, k⟩ => by cases e; exact k σ H S s SameR.refl Step.refl
def mBreak : Sm := fun _ Γ => some (.bk Γ)
def mCont : Sm := fun _ Γ => some (.ct Γ)
theorem s_break : PS X (.Break pos) (tS X.K mBreak) := PS.weak ps_break fun D σ H ⟨R, SR, Γ, S, r, s, e, k⟩ => by cases e; exact k σ H S s SameR.refl Step.refl
theorem s_continue : PS X (.Continue pos) (tS X.K mCont) := PS.weak ps_continue fun D σ H ⟨R, SR, Γ, S, r, s, e, k⟩ => by cases e; exact k σ H S s SameR.refl Step.refl
def mRet (m : M) : Sm := fun R Γ => match m R Γ with
  | some (d, Γ1) => some (.rt d Γ1)
  | none => none
theorem s_ret (h : PE X e (tM X.K ma)) : PS X (.Return (some e) pos) (tS X.K (mRet ma)) := PS.weak (ps_ret h) fun D σ H ⟨R, SR, Γ, S, r, s, e, k⟩ => by
  unfold mRet at e
  split at e
  · next d Γ1 e1 =>
    cases e
    exact ⟨R, SR, Γ, S, d, Γ1, s, e1, fun v H' Sv S' s' o dj mu t => k v σ H' Sv S' s' SameR.refl o dj mu t⟩
  · cases e
def mDrop (m : M) : Sm := fun R Γ => match m R Γ with
  | some (_, Γ1) => some (.nx Γ1)
  | none => none
theorem s_expr (h : PE X e (tM X.K ma)) (hs : swapsWith e none pos.line X.env = pure false := by rfl) : PS X (.Expr e pos) (tS X.K (mDrop ma)) := PS.weak (ps_expr h hs) fun D σ H ⟨R, SR, Γ, S, r, s, e, k⟩ => by
  unfold mDrop at e
  split at e
  · next d Γ1 e1 =>
    cases e
    exact ⟨R, SR, Γ, S, d, Γ1, s, e1, fun v H' Sv S' s' o dj mu t => k σ H' S' s' SameR.refl (t.less fun _ z => .inl z)⟩
  · cases e
theorem s_doc {z : Str} {j pos'} : PS X (.Expr (.Constant (.str z) j pos) pos') (tS X.K mNext) := PS.weak ps_doc fun D σ H ⟨R, SR, Γ, S, r, s, e, k⟩ => by cases e; exact k σ H S s SameR.refl Step.refl
/-- a local name -/
def okSet (R : Rc) (Γ : En) (i : Nat) : Bool := free R i && decide (i < Γ.length)
theorem put_name {K : PySem.W.Frag} {σ : L2.St} {H : Hp} {R : Rc} {SR S Sv : Reg} {Γ : En} {i : Nat} {d : D} {v : V} (s : St K σ H R SR Γ S) (f : free R i = true) (hi : i < Γ.length) (o : Own K H v d Sv) (dj : ∀ a, Sv a → S a → False) (dR : ∀ a, SR a → Sv a → False) (mu : ∀ a, Sv a → Mu (H a)) :
    St K (σ.set i (some v)) H R SR (Γ.set i (some d)) (fun a => S a ∨ Sv a) ∧ SameR R σ (σ.set i (some v)) := ⟨s.put hi (free_ro f) o dj dR mu, sameR_set f⟩
def mSet (i : Nat) (m : M) : Sm := fun R Γ => if okSet R Γ i = true then match m R Γ with
    | some (d, Γ1) => some (.nx (Γ1.set i (some d)))
    | none => none
  else none
theorem set_weak {i : Nat} {D : Ends} {σ : L2.St} {H : Hp} (h : tS X.K (mSet i ma) D σ H) : tAsg (tM X.K ma) (gName i) D σ H := by
  obtain ⟨R, SR, Γ, S, r, s, e, k⟩ := h
  unfold mSet at e
  split at e
  · next ok =>
    unfold okSet at ok
    rw [Bool.and_eq_true, decide_eq_true_eq] at ok
    split at e
    · next d Γ1 e1 =>
      cases e
      refine ⟨R, SR, Γ, S, d, Γ1, s, e1, fun v H' Sv S' s' o dj mu t => ?_⟩
      have dR : ∀ a, SR a → Sv a → False := fun a z q => t.apart s.dis s.there a z (.inr q)
      obtain ⟨p1, p2⟩ := put_name (i := i) s' ok.1 (by rw [s'.len, ← s.len]; exact ok.2) o dj dR mu
      exact k _ H' _ p1 p2 t
    · cases e
  · cases e
theorem s_set {i : Nat} {x : Str} {pos' : Pos} (hN : X.N.Nodup) (h : PE X e (tM X.K ma)) (hi : X.N[i]? = some x := by rfl) (hx : Loc X.env.scope x := by first | exact Or.inl rfl | exact Or.inr rfl) (hs : swapsWith e (some (.Name x pos')) pos.line X.env = pure false := by rfl)
    (hf : X.fn x = true ∨ X.env.scope.names.lookup x = some .local := by first | exact .inl rfl | exact .inr rfl | assumption) : PS X (.Assign [.Name x pos'] e pos) (tS X.K (mSet i ma)) := PS.weak (ps_set hN hi hx h hs hf) fun D σ H h => set_weak h
def mIfS (t : MB) (m n : Sm) : Sm := fun R Γ => match t R Γ with
  | some (true, Γ1) => m R Γ1
  | some (false, Γ1) => n R Γ1
  | none => none
theorem s_if (ht : PT X c (tMB X.K ta)) (h1 : PSs X ss1 (tS X.K sa)) (h2 : PSs X ss2 (tS X.K sb)) : PS X (.If c ss1 ss2 pos) (tS X.K (mIfS ta sa sb)) := PS.weak (ps_if ht h1 h2) fun D σ H ⟨R, SR, Γ, S, r, s, e, k⟩ => by
  unfold mIfS at e
  split at e
  · next Γ1 e1 => exact ⟨R, SR, Γ, S, true, Γ1, s, e1, fun H' S' s' t => iteT ⟨R, SR, Γ1, S', r, s', e, k.trans SameR.refl t⟩⟩
  · next Γ1 e1 => exact ⟨R, SR, Γ, S, false, Γ1, s, e1, fun H' S' s' t => iteF ⟨R, SR, Γ1, S', r, s', e, k.trans SameR.refl t⟩⟩
  · cases e
/-! while -/
def wN (t : MB) (m : Sm) (R : Rc) : Nat → En → Option Res
  | 0, _ => none
  | n + 1, Γ => match t R Γ with
    | some (true, Γ1) => match m R Γ1 with
      | some (.nx Γ2) => wN t m R n Γ2
      | some (.ct Γ2) => wN t m R n Γ2
      | some (.bk Γ2) => some (.nx Γ2)
      | some (.rt d Γ2) => some (.rt d Γ2)
      | none => none
    | some (false, Γ1) => some (.nx Γ1)
    | none => none
theorem wN_mono {t : MB} {m : Sm} {R : Rc} : ∀ {n : Nat} {Γ : En} {r : Res}, wN t m R n Γ = some r → wN t m R (n + 1) Γ = some r
  | 0, _, _, h => nomatch h
  | n + 1, Γ, r, h => by
    unfold wN at h ⊢
    cases ht : t R Γ with
    | none => rw [ht] at h; cases h
    | some p =>
      obtain ⟨b, Γ1⟩ := p
      rw [ht] at h
      cases b with
      | false => exact h
      | true =>
        simp only at h ⊢
        cases hm : m R Γ1 with
        | none => rw [hm] at h; cases h
        | some q =>
          rw [hm] at h
          cases q with
          | nx Γ2 => exact wN_mono (n := n) h
          | ct Γ2 => exact wN_mono (n := n) h
          | bk Γ2 => exact h
          | rt d Γ2 => exact h
theorem wN_le {t : MB} {m : Sm} {R : Rc} {n k : Nat} {Γ : En} {r : Res} (h : wN t m R n Γ = some r) (l : n ≤ k) : wN t m R k Γ = some r := by
  induction l with
  | refl => exact h
  | step _ ih => exact wN_mono ih
open Classical in
noncomputable def mWhile (t : MB) (m : Sm) : Sm := fun R Γ => if h : ∃ n r, wN t m R n Γ = some r then some h.choose_spec.choose else none
theorem mWhile_of {t : MB} {m : Sm} {R : Rc} {Γ : En} {n : Nat} {r : Res} (h : wN t m R n Γ = some r) : mWhile t m R Γ = some r := by
  have hh : ∃ n r, wN t m R n Γ = some r := ⟨n, r, h⟩
  unfold mWhile
  rw [dif_pos hh]
  have h2 := hh.choose_spec.choose_spec
  have a := wN_le h (Nat.le_max_left n hh.choose)
  have b := wN_le h2 (Nat.le_max_right n hh.choose)
  rw [a] at b
  exact b.symm
theorem mWhile_ex {t : MB} {m : Sm} {R : Rc} {Γ : En} {r : Res} (h : mWhile t m R Γ = some r) : ∃ n, wN t m R n Γ = some r := by
  unfold mWhile at h
  split at h
  · next hh => cases h; exact ⟨_, hh.choose_spec.choose_spec⟩
  · cases h
theorem s_while (hp : PassesOwn (model X.prog X.w) X.A X.env X.xe) (ht : PT X c (tMB X.K ta)) (hb : PSs X ss1 (tS X.K sa)) : PS X (.While c ss1 [] pos) (tS X.K (mWhile ta sa)) := PS.weak (ps_while hp ht hb) fun D σ H ⟨R, SR, Γ, S, r, s, e, k⟩ => by
  obtain ⟨n, hn⟩ := mWhile_ex e
  clear e
  refine ⟨fun m σ H => ∃ Γ S, St X.K σ H R SR Γ S ∧ wN ta sa R m Γ = some r ∧ Post X.K σ H R SR S D r, ⟨n, Γ, S, s, hn, k⟩, ?_⟩
  rintro m σ H ⟨Γ, S, s, hn, k⟩
  cases m with
  | zero => cases hn
  | succ m =>
    unfold wN at hn
    split at hn
    · next Γ1 e1 =>
      refine ⟨R, SR, Γ, S, true, Γ1, s, e1, fun H' S' s' t => iteT ⟨_, fun σ' H' w => ⟨m, Nat.lt_succ_self m, w⟩, ?_⟩⟩
      have k' := k.trans SameR.refl t
      split at hn
      · next Γ2 e2 => exact ⟨R, SR, Γ1, S', _, s', e2, fun σ2 H2 S2 s2 sr t2 => ⟨Γ2, S2, s2, hn, k'.trans sr t2⟩⟩
      · next Γ2 e2 => exact ⟨R, SR, Γ1, S', _, s', e2, fun σ2 H2 S2 s2 sr t2 => ⟨Γ2, S2, s2, hn, k'.trans sr t2⟩⟩
      · next Γ2 e2 => cases hn; exact ⟨R, SR, Γ1, S', _, s', e2, k'⟩
      · next d Γ2 e2 => cases hn; exact ⟨R, SR, Γ1, S', _, s', e2, k'⟩
      · cases hn
    · next Γ1 e1 =>
      cases hn
      exact ⟨R, SR, Γ, S, false, Γ1, s, e1, fun H' S' s' t => iteF (k σ H' S' s' SameR.refl t)⟩
    · cases hn
/-! targets of data that never changes -/
abbrev Tg := D → Rc → En → Option En
def gI (K : PySem.W.Frag) (t : Tg) : TG := fun v σ H Q => ∃ R SR Γ S d Γ', St K σ H R SR Γ S ∧ (∃ Sv, Own K H v d Sv) ∧ t d R Γ = some Γ' ∧ ∀ σ', St K σ' H R SR Γ' S → SameR R σ σ' → Q σ' H
def tgName (i : Nat) : Tg := fun d R Γ => if okSet R Γ i = true ∧ d.imm = true then some (Γ.set i (some d)) else none
theorem g_name {i : Nat} {x : Str} (hN : X.N.Nodup) (hi : X.N[i]? = some x := by rfl) (hx : Loc X.env.scope x := by first | exact Or.inl rfl | exact Or.inr rfl) (hf : X.fn x = true ∨ X.env.scope.names.lookup x = some .local := by first | exact .inl rfl | exact .inr rfl | assumption) : PG X (.Name x pos) (gI X.K (tgName i)) :=
  PG.weak (pg_name hN hi hx hf) fun v σ H Q ⟨R, SR, Γ, S, d, Γ', s, ⟨Sv, o⟩, e, k⟩ => by
    unfold tgName at e
    split at e
    · next ok =>
      cases e
      obtain ⟨ok, im⟩ := ok
      unfold okSet at ok
      rw [Bool.and_eq_true, decide_eq_true_eq] at ok
      obtain ⟨p1, p2⟩ := put_name (Sv := No) s ok.1 ok.2 (o.imm _ im) (fun _ z => z.elim) (fun _ _ z => z.elim) (fun _ z => z.elim)
      have p1' : St X.K (σ.set i (some v)) H R SR (Γ.set i (some d)) S := by
        have e : (fun a => S a ∨ No a) = S := by funext a; simp [No]
        rw [e] at p1
        exact p1
      exact k _ p1' p2
    · cases e
abbrev Tgs := List D → Rc → En → Option En
def gIs (K : PySem.W.Frag) (t : Tgs) : TGs := fun vs σ H Q => ∃ R SR Γ S ds Γ', St K σ H R SR Γ S ∧ (∃ Sv, OwnL K H vs ds Sv) ∧ t ds R Γ = some Γ' ∧ ∀ σ', St K σ' H R SR Γ' S → SameR R σ σ' → Q σ' H
def tgNil : Tgs := fun ds _ Γ => match ds with
  | [] => some Γ
  | _ => none
def tgCons (t : Tg) (u : Tgs) : Tgs := fun ds R Γ => match ds with
  | d :: r => match t d R Γ with
    | some Γ1 => u r R Γ1
    | none => none
  | _ => none
variable {tga : Tg} {tgs : Tgs}
theorem gs_nil : PGs X [] (gIs X.K tgNil) := ⟨fun pins s σ H vs us Q I r ⟨R, SR, Γ, S, ds, Γ', st, ⟨Sv, o⟩, e, k⟩ => by
  refine pgs_nil.run pins s σ H vs us Q I r ?_
  cases ds with
  | nil => cases o; cases e; exact ⟨rfl, k σ st SameR.refl⟩
  | cons => cases e⟩
theorem gs_cons (h1 : PG X e (gI X.K tga)) (h2 : PGs X es (gIs X.K tgs)) (hs : (assignEach (e :: es) X.env).map (·.2) = assign e X.env :: (assignEach es X.env).map (·.2) := by rfl) : PGs X (e :: es) (gIs X.K (tgCons tga tgs)) := ⟨fun pins s σ H vs us Q I r ⟨R, SR, Γ, S, ds, Γ', st, ⟨Sv, o⟩, e, k⟩ => by
  refine (pgs_cons h1 h2 hs).run pins s σ H vs us Q I r ?_
  cases ds with
  | nil => cases e
  | cons d ds =>
    have e : (match tga d R Γ with | some Γ1 => tgs ds R Γ1 | none => none) = some Γ' := e
    split at e
    · next Γ1 e1 =>
      cases o with
      | cons o1 o2 o3 o4 o5 => exact ⟨_, _, rfl, R, SR, Γ, S, d, Γ1, st, ⟨_, o1⟩, e1, fun σ' s' sr => ⟨R, SR, Γ1, S, ds, Γ', s', ⟨_, o2⟩, e, fun σ2 s2 sr2 => k σ2 s2 (sr.trans sr2)⟩⟩
    · cases e⟩
def tgTup (n : Nat) (t : Tgs) : Tg := fun d R Γ => match d with
  | .tup ds => if ds.length = n then t ds R Γ else none
  | _ => none
theorem g_tup {k n : Nat} (hc : X.calm = true) (h : PGs X es (gIs X.K tgs)) (hn : (assignEach es X.env).length = n := by rfl) (hst : (assignEach es X.env).findIdx? (·.1) = none := by rfl) : PG X (.Tuple es k pos) (gI X.K (tgTup n tgs)) :=
  PG.weak (pg_tup hc h hn hst) fun v σ H Q ⟨R, SR, Γ, S, d, Γ', s, ⟨Sv, o⟩, e, k⟩ => by
    unfold tgTup at e
    split at e
    · next ds =>
      split at e
      · next hl =>
        cases o with
        | tup h1 h2 => exact ⟨_, _, rfl, h1, by rw [h2.length]; exact hl, R, SR, Γ, S, ds, Γ', s, ⟨_, h2⟩, e, k⟩
      · cases e
    · cases e
/-- a, b = e -/
def mAsgT (t : Tg) (m : M) : Sm := fun R Γ => match m R Γ with
  | some (d, Γ1) => match t d R Γ1 with
    | some Γ2 => some (.nx Γ2)
    | none => none
  | none => none
theorem s_asgT {tg : Expr} (h : PE X e (tM X.K ma)) (hg : PG X tg (gI X.K tga)) (hs : swapsWithSole [tg] e pos.line X.env = pure false := by rfl) (hw : swappedStores [tg] e X.env = pure none := by rfl) (h1 : (assignEach [tg] X.env).map (·.2) = [assign tg X.env] := by rfl) :
    PS X (.Assign [tg] e pos) (tS X.K (mAsgT tga ma)) := PS.weak (ps_asg h hg hs hw h1) fun D σ H ⟨R, SR, Γ, S, r, s, e, k⟩ => by
  unfold mAsgT at e
  split at e
  · next d Γ1 e1 =>
    split at e
    · next Γ2 e2 =>
      cases e
      refine ⟨R, SR, Γ, S, d, Γ1, s, e1, fun v H' Sv S' s' o dj mu t => ?_⟩
      exact ⟨R, SR, Γ1, S', d, Γ2, s', ⟨Sv, o⟩, e2, fun σ' s2 sr => k σ' H' S' s2 sr (t.less fun _ z => .inl z)⟩
    · cases e
  · cases e
/-! what a loop walks -/
structure ItOk (K : PySem.W.Frag) (J : It) (ds : List D) (Sl : Reg) (G : Hp → Prop) : Prop where
  goes : ∀ i H, i < ds.length → G H → J.go i H
  stops : ∀ H, G H → J.stop ds.length H
  yld : ∀ (i : Nat) d H x H', ds[i]? = some d → G H → J.yld i H x H' → G H' ∧ Ex H H' ∧ ∃ Sx, Own K H' x d Sx ∧ ∀ a, Sx a → Sl a
  stable : ∀ H H', G H → Keeps Sl H H' → G H'
abbrev Pit := Rc → En → Option (List D)
def tI (K : PySem.W.Frag) (pit : Pit) : TI := fun σ H Q => ∃ R SR Γ S ds, St K σ H R SR Γ S ∧ pit R Γ = some ds ∧ ∀ J H1 Sl G, ItOk K J ds Sl G → G H1 → Ex H H1 → (∀ a, Sl a → SR a ∨ S a ∨ H a = none) → (∀ a, Sl a → H1 a ≠ none) → Q J H1
def seqD : D → Option (List D)
  | .lst ds => some ds
  | .tup ds => some ds
  | .fz ds => some ds
  | .str z => some (z.cps.toList.map fun c => .str ⟨#[c]⟩)
  | _ => none
def pSeq (p : P) : Pit := fun R Γ => match p R Γ with
  | some d => seqD d
  | none => none
theorem OwnL.getV {K : PySem.W.Frag} {H : Hp} {ds : List D} {vs : List V} {S : Reg} {i : Nat} {d : D} {v : V} (o : OwnL K H vs ds S) (e : ds[i]? = some d) (ev : vs[i]? = some v) : ∃ S', Own K H v d S' ∧ ∀ x, S' x → S x := by
  obtain ⟨v', S', e', o', m⟩ := o.get e
  rw [ev] at e'; cases e'
  exact ⟨S', o', m⟩
theorem it_list {K : PySem.W.Frag} {a : Addr} {vs : List V} {ds : List D} {Sl : Reg} (ha : ∀ H H', SqL K H a vs → Keeps Sl H H' → SqL K H' a vs) : ItOk K (Itl K a) ds Sl (fun H => SqL K H a vs ∧ OwnL K H vs ds Sl) where
  goes := fun i H hi ⟨q, o⟩ => ⟨vs, vs[i]'(by rw [o.length]; exact hi), q, by simp⟩
  stops := fun H ⟨q, o⟩ => ⟨vs, q, by rw [o.length]; exact Nat.le_refl _⟩
  yld := fun i d H x H' e ⟨q, o⟩ y => by
    obtain ⟨rfl, y⟩ := y
    exact ⟨⟨q, o⟩, Ex.refl _, o.getV e (y vs q)⟩
  stable := fun H H' ⟨q, o⟩ k => ⟨ha H H' q k, o.keep _ k⟩
theorem it_tup {K : PySem.W.Frag} {a : Addr} {vs : List V} {ds : List D} {Sl : Reg} : ItOk K (Itt K a) ds Sl (fun H => SqT K H a vs ∧ OwnL K H vs ds Sl) where
  goes := fun i H hi ⟨q, o⟩ => ⟨vs, vs[i]'(by rw [o.length]; exact hi), q, by simp⟩
  stops := fun H ⟨q, o⟩ => ⟨vs, q, by rw [o.length]; exact Nat.le_refl _⟩
  yld := fun i d H x H' e ⟨q, o⟩ y => by
    obtain ⟨rfl, y⟩ := y
    exact ⟨⟨q, o⟩, Ex.refl _, o.getV e (y vs q)⟩
  stable := fun H H' ⟨q, o⟩ k => ⟨sqt_keep (fun a o e n => k a o e (.inr n)) q, o.keep _ k⟩
theorem fz_sq {K : PySem.W.Frag} {H : Hp} {a : Addr} {vs : List V} (h : (∃ o, H a = some (.frz o (.lst vs))) ∨ (∀ H', SqL K H' a vs)) : SqL K H a vs := by
  rcases h with ⟨o, e⟩ | h
  · exact .inl (.inr ⟨o, e⟩)
  · exact h H
theorem it_fz {K : PySem.W.Frag} {a : Addr} {vs : List V} {ds : List D} {Sl : Reg} : ItOk K (Itl K a) ds Sl (fun H => ((∃ o, H a = some (.frz o (.lst vs))) ∨ (∀ H', SqL K H' a vs)) ∧ OwnL K H vs ds Sl) where
  goes := fun i H hi ⟨q, o⟩ => ⟨vs, vs[i]'(by rw [o.length]; exact hi), fz_sq q, by simp⟩
  stops := fun H ⟨q, o⟩ => ⟨vs, fz_sq q, by rw [o.length]; exact Nat.le_refl _⟩
  yld := fun i d H x H' e ⟨q, o⟩ y => by
    obtain ⟨rfl, y⟩ := y
    exact ⟨⟨q, o⟩, Ex.refl _, o.getV e (y vs (fz_sq q))⟩
  stable := fun H H' ⟨q, o⟩ k => ⟨q.imp_left fun ⟨o, e⟩ => ⟨o, k _ _ e (.inr fun z => z)⟩, o.keep _ k⟩
theorem PI.or {X : Cx} {tg e : Expr} {t u : TI} (h1 : PI X tg e t) (h2 : PI X tg e u) : PI X tg e (fun σ H Q => t σ H Q ∨ u σ H Q) := ⟨fun pins s σ H Q I k => k.elim (h1.run pins s σ H Q I) (h2.run pins s σ H Q I)⟩
theorem it_str {K : PySem.W.Frag} {z : Str} : ItOk K (Its z) (z.cps.toList.map fun c => .str ⟨#[c]⟩) No (fun _ => True) where
  goes := fun i H hi _ => by show i < z.cps.size; simpa using hi
  stops := fun H _ => by show z.cps.size ≤ _; simp
  yld := fun i d H x H' e _ y => by
    obtain ⟨rfl, c, hc, rfl⟩ := y
    refine ⟨trivial, Ex.refl _, No, ?_, fun _ z => z⟩
    rw [List.getElem?_map, Array.getElem?_toList, hc] at e
    cases e
    exact .str
  stable := fun _ _ _ _ => trivial
variable {f1 : Bool} {qa qb : P} {tg : Expr}
theorem i_seq (h : PE X e (tV X.K f1 qa)) : PI X tg e (tI X.K (pSeq qa)) := PI.weak (PI.or (PI.or (pi_list h) (pi_tup h)) (pi_str h)) fun σ H Q ⟨R, SR, Γ, S, ds, s, e, k⟩ => by
  unfold pSeq at e
  split at e
  · next d ed =>
    cases d with
    | lst ds' =>
      cases e
      refine .inl (.inl ⟨R, SR, Γ, S, _, s, ed, fun v H1 Sv o x g _ => ?_⟩)
      have od := o.dom
      cases od with
      | lst h1 h2 h3 h4 =>
        rename_i a _ _
        exact ⟨_, rfl, ⟨_, .of h1⟩, k _ H1 (fun x => Sv x ∧ H1 x ≠ none) _ (it_list (ds := ds) (Sl := fun x => Sv x ∧ H1 x ≠ none) fun Ha Hb q kk => by
          rcases q with (q | ⟨o, q⟩) | q
          · exact .of (kk _ _ q (.inl h2))
          · exact .inl (.inr ⟨o, kk _ _ q (.inr fun z => z)⟩)
          · exact .inr q) ⟨.of h1, h3.mono _ fun x z => (h4 x z).1⟩ x (fun a z => g a z.1) (fun a z => z.2)⟩
    | tup ds' =>
      cases e
      refine .inl (.inr ⟨R, SR, Γ, S, _, s, ed, fun v H1 Sv o x g _ => ?_⟩)
      have od := o.dom
      cases od with
      | tup h1 h2 => exact ⟨_, rfl, ⟨_, h1⟩, k _ H1 (fun x => Sv x ∧ H1 x ≠ none) _ it_tup ⟨h1, h2⟩ x (fun a z => g a z.1) (fun a z => z.2)⟩
    | fz ds' =>
      cases e
      refine .inl (.inl ⟨R, SR, Γ, S, _, s, ed, fun v H1 Sv o x g _ => ?_⟩)
      have od := o.dom
      cases od with
      | fz h1 h2 =>
        exact ⟨_, rfl, ⟨_, fz_sq h1⟩, k _ H1 (fun x => Sv x ∧ H1 x ≠ none) _ it_fz ⟨h1, h2⟩ x (fun a z => g a z.1) (fun a z => z.2)⟩
    | str z =>
      cases e
      refine .inr ⟨R, SR, Γ, S, _, s, ed, fun v H1 Sv o x g _ => ?_⟩
      cases o
      exact ⟨z, rfl, k _ H1 No _ it_str trivial x (fun _ z => z.elim) (fun _ z => z.elim)⟩
    | _ => cases e
  · cases e
/-- ranges -/
def rng (lo : Int) (n : Nat) : List D := (List.range n).map fun k => .int (lo + (k : Nat))
theorem it_rng {K : PySem.W.Frag} {lo : Int} {n : Nat} : ItOk K (Itr lo n) (rng lo n) No (fun _ => True) where
  goes := fun i H hi _ => by show i < n; simpa [rng] using hi
  stops := fun H _ => by show n ≤ _; simp [rng]
  yld := fun i d H x H' e _ y => by
    obtain ⟨rfl, rfl⟩ := y
    refine ⟨trivial, Ex.refl _, No, ?_, fun _ z => z⟩
    have e : ((List.range n).map fun k => D.int (lo + (k : Nat)))[i]? = some d := e
    rw [List.getElem?_map] at e
    cases q : (List.range n)[i]? with
    | none => rw [q] at e; cases e
    | some j =>
      rw [q] at e
      cases e
      have hj := (List.getElem?_eq_some_iff.mp q).2
      rw [List.getElem_range] at hj
      rw [hj]
      exact .int
  stable := fun _ _ _ _ => trivial
def small (i : Int) : Bool := Nat.ble i.natAbs 1000000000
theorem small_c {i : Int} (h : small i = true) : -1000000000 ≤ i ∧ i ≤ 1000000000 := by
  have := Nat.le_of_ble_eq_true h
  omega
def pRng1 (p : P) : Pit := fun R Γ => match p R Γ with
  | some (.int j) => if small j = true then some (rng 0 j.toNat) else none
  | _ => none
def pRng2 (p q : P) : Pit := fun R Γ => match p R Γ, q R Γ with
  | some (.int i), some (.int j) => if small i = true ∧ small j = true then some (rng i (j - i).toNat) else none
  | _, _ => none
theorem i_rng1 {p : Pos} (hm : X.mg "range" = none) (ha : PE X a (tV X.K f1 qa)) (hg : Gl X "range" := by rfl) (hs : starEach [a] X.env = [(false, eval a X.env)] := by rfl) : PI X tg (.Call (.Name "range" p) [a] [] pos) (tI X.K (pRng1 qa)) :=
  PI.weak (pi_range1 hg hm (va_cons ha va_nil hs) hs) fun σ H Q ⟨R, SR, Γ, S, ds, s, e, k⟩ => by
    unfold pRng1 at e
    split at e
    · next j ej =>
      split at e
      · next hj =>
        cases e
        have hj := small_c hj
        refine ⟨R, SR, Γ, S, [.int j], s, by simp [psCons, psNil, ej], fun vs H1 o x => ?_⟩
        have oo := OwnW.one o
        clear o
        obtain ⟨v, S', rfl, o⟩ := oo
        cases o
        exact ⟨j, rfl, by omega, by omega, k _ H1 No _ it_rng trivial x (fun _ z => z.elim) (fun _ z => z.elim)⟩
      · cases e
    · cases e
theorem i_rng2 {p : Pos} (hm : X.mg "range" = none) (ha : PE X a (tV X.K f1 qa)) (hb : PE X b (tV X.K false qb)) (hg : Gl X "range" := by rfl) (hs : starEach [a, b] X.env = [(false, eval a X.env), (false, eval b X.env)] := by rfl) (hs2 : starEach [b] X.env = [(false, eval b X.env)] := by rfl) : PI X tg (.Call (.Name "range" p) [a, b] [] pos) (tI X.K (pRng2 qa qb)) :=
  PI.weak (pi_range2 hg hm (va_cons ha (va_cons hb va_nil hs2) (by rw [hs, hs2])) hs hs2) fun σ H Q ⟨R, SR, Γ, S, ds, s, e, k⟩ => by
    unfold pRng2 at e
    split at e
    · next i j ei ej =>
      split at e
      · next hj =>
        cases e
        have h1 := small_c hj.1
        have h2 := small_c hj.2
        refine ⟨R, SR, Γ, S, [.int i, .int j], s, by simp [psCons, psNil, ei, ej], fun vs H1 o x => ?_⟩
        cases vs with
        | nil => exact o.elim
        | cons v vs =>
          obtain ⟨⟨_, o1, _⟩, o2⟩ := o
          obtain ⟨w, S', rfl, o3⟩ := OwnW.one o2
          cases o1
          cases o3
          exact ⟨i, j, rfl, ⟨by omega, by omega, by omega, by omega⟩, k _ H1 No _ it_rng trivial x (fun _ z => z.elim) (fun _ z => z.elim)⟩
      · cases e
    · cases e
/-! for -/
def hideI (Γ : En) : En := Γ.map fun o => match o with
  | some d => if d.imm = true then some d else none
  | none => none
theorem St.hide {K : PySem.W.Frag} {σ : L2.St} {H : Hp} {R : Rc} {SR S : Reg} {Γ : En} (s : St K σ H R SR Γ S) : St K σ H R SR (hideI Γ) No := by
  obtain ⟨Sg, o1, o2, o3⟩ := s.own
  refine ⟨by unfold hideI; rw [List.length_map]; exact s.len, s.ro, ⟨fun _ => No, fun i d h => ?_, fun _ _ z => z, fun _ _ _ _ z => z.elim⟩, fun _ _ z => z, fun _ z => z.elim, s.there⟩
  unfold hideI at h
  rw [List.getElem?_map] at h
  cases q : Γ[i]? with
  | none => rw [q] at h; cases h
  | some o =>
    rw [q] at h
    cases o with
    | none => cases h
    | some d' =>
      have h : (if d'.imm = true then some d' else none) = some d := Option.some.inj h
      split at h
      · next im =>
        cases h
        obtain ⟨v, e, o⟩ := o1 i d q
        exact ⟨v, e, o.imm _ im⟩
      · cases h
def exFor (t : Tg) (m : Sm) (R : Rc) : List D → En → Option Res
  | [], Γ => some (.nx Γ)
  | d :: ds, Γ => match t d R Γ with
    | some Γ1 => match m R Γ1 with
      | some (.nx Γ2) => exFor t m R ds Γ2
      | some (.ct Γ2) => exFor t m R ds Γ2
      | some (.bk Γ2) => some (.nx Γ2)
      | some (.rt d Γ2) => some (.rt d Γ2)
      | none => none
    | none => none
def mFor (pit : Pit) (t : Tg) (m : Sm) : Sm := fun R Γ => match pit R (hideI Γ) with
  | some ds => exFor t m R ds Γ
  | none => none
variable {iter : Expr} {pit : Pit}
theorem s_for (hp : PassesOwn (model X.prog X.w) X.A X.env X.xe) (hc : X.calm = true) (hi : PI X tg iter (tI X.K pit)) (hg : PG X tg (gI X.K tga)) (hb : PSs X ss1 (tS X.K sa)) (hs : ∀ x, foldedSetIterable iter X.env x = pure x := by intro _; rfl) :
    PS X (.For tg iter ss1 [] pos) (tS X.K (mFor pit tga sa)) := PS.weak (ps_for hp hc hi hg hb hs) fun D σ H ⟨R, SR, Γ, S, r, s, e, k⟩ => by
  unfold mFor at e
  split at e
  · next ds eds =>
    refine ⟨R, SR, _, No, ds, s.hide, eds, fun J H1 Sl G it g x hl ht => ?_⟩
    have apl : ∀ a, Sl a → S a → False := fun a z q => by
      rcases hl a z with z | z | z
      · exact s.dis a z q
      · exact z
      · exact Mu.some (s.mu a q) z
    refine ⟨fun i m σ H => m = ds.length - i ∧ i ≤ ds.length ∧ ∃ Γ S, St X.K σ H R SR Γ S ∧ exFor tga sa R (ds.drop i) Γ = some r ∧ Post X.K σ H R SR S D r ∧ G H ∧ (∀ a, Sl a → S a → False) ∧ (∀ a, Sl a → H a ≠ none),
      ⟨ds.length, by simp, Nat.zero_le _, Γ, S, s.ex x, by simpa using e, k.trans SameR.refl (Step.ex x), g, apl, ht⟩, ?_⟩
    clear s e k eds hl apl g ht x
    rintro i m σ H ⟨rfl, hi, Γ, S, s, e, k, g, apl, ht⟩
    by_cases hlt : i < ds.length
    · refine .inr ⟨it.goes i H hlt g, _, fun σ' H' w => ⟨ds.length - (i + 1), by omega, rfl, hlt, w⟩, fun v H' y => ?_⟩
      have hd : ds[i]? = some ds[i] := List.getElem?_eq_getElem hlt
      obtain ⟨g', x', Sx, o, mx⟩ := it.yld i _ H v H' hd g y
      rw [List.drop_eq_getElem_cons hlt] at e
      unfold exFor at e
      split at e
      · next Γ1 e1 =>
        refine ⟨R, SR, Γ, S, _, Γ1, s.ex x', ⟨Sx, o⟩, e1, fun σ2 s2 sr => ?_⟩
        have k' := k.trans sr (Step.ex x')
        have fin : ∀ {Γ2 : En}, exFor tga sa R (ds.drop (i + 1)) Γ2 = some r → ∀ σ3 H3 S3, St X.K σ3 H3 R SR Γ2 S3 → SameR R σ2 σ3 → Step S H' H3 S3 →
            ∃ Γ S, St X.K σ3 H3 R SR Γ S ∧ exFor tga sa R (ds.drop (i + 1)) Γ = some r ∧ Post X.K σ3 H3 R SR S D r ∧ G H3 ∧ (∀ a, Sl a → S a → False) ∧ (∀ a, Sl a → H3 a ≠ none) := fun {Γ2} h σ3 H3 S3 s3 sr3 t3 =>
          ⟨Γ2, S3, s3, h, k'.trans sr3 t3, it.stable _ _ g' (t3.keeps s2.mu apl), t3.apart apl fun a z => x'.there (ht a z), t3.there fun a z => x'.there (ht a z)⟩
        split at e
        · next Γ2 e2 => exact ⟨R, SR, Γ1, S, _, s2, e2, fun σ3 H3 S3 s3 sr3 t3 => fin e σ3 H3 S3 s3 sr3 t3⟩
        · next Γ2 e2 => exact ⟨R, SR, Γ1, S, _, s2, e2, fun σ3 H3 S3 s3 sr3 t3 => fin e σ3 H3 S3 s3 sr3 t3⟩
        · next Γ2 e2 => cases e; exact ⟨R, SR, Γ1, S, _, s2, e2, k'⟩
        · next d Γ2 e2 => cases e; exact ⟨R, SR, Γ1, S, _, s2, e2, k'⟩
        · cases e
      · cases e
    · have q : i = ds.length := by omega
      subst q
      rw [List.drop_length] at e
      cases e
      exact .inl ⟨it.stops H g, k σ H S s SameR.refl Step.refl⟩
  · cases e
/-! a name lent: read alone within -/
def mLend (i : Nat) (m : Sm) : Sm := fun R Γ => match roAt R i, Γ[i]? with
  | none, some (some d) => if i < R.ro.length then match m { R with ro := R.ro.set i (some d) } (Γ.set i none) with
      | some (.nx Γ1) => some (.nx (Γ1.set i (some d)))
      | some (.bk Γ1) => some (.bk (Γ1.set i (some d)))
      | some (.ct Γ1) => some (.ct (Γ1.set i (some d)))
      | some (.rt r Γ1) => some (.rt r (Γ1.set i (some d)))
      | none => none
    else none
  | _, _ => none
theorem s_lend (i : Nat) (h : PS X st (tS X.K sa)) : PS X st (tS X.K (mLend i sa)) := PS.weak h fun D σ H ⟨R, SR, Γ, S, r, s, e, k⟩ => by
  unfold mLend at e
  split at e
  · next d hro hgi =>
    split at e
    · next hl =>
      obtain ⟨v, Si, So, e1, o, s', dj, m1, m2⟩ := s.take hgi
      have hi : i < Γ.length := by rw [s.len]; exact (List.getElem?_eq_some_iff.mp e1).1
      have ro' : ∀ j d', roAt { R with ro := R.ro.set i (some d) } j = some d' → (j = i ∧ d' = d) ∨ (j ≠ i ∧ roAt R j = some d') := fun j d' h => by
        by_cases q : i = j
        · subst q
          refine .inl ⟨rfl, ?_⟩
          have h : (match (R.ro.set i (some d))[i]? with | some (some d) => some d | _ => none) = some d' := h
          rw [List.getElem?_set_self hl] at h
          cases h; rfl
        · refine .inr ⟨Ne.symm q, ?_⟩
          have h : (match (R.ro.set i (some d))[j]? with | some (some d) => some d | _ => none) = some d' := h
          rw [List.getElem?_set_ne q] at h
          exact h
      have roj : ∀ j, j ≠ i → roAt { R with ro := R.ro.set i (some d) } j = roAt R j := fun j q => by
        show (match (R.ro.set i (some d))[j]? with | some (some d) => some d | _ => none) = _
        rw [List.getElem?_set_ne (Ne.symm q)]
        rfl
      have roi : roAt { R with ro := R.ro.set i (some d) } i = some d := by
        show (match (R.ro.set i (some d))[i]? with | some (some d) => some d | _ => none) = _
        rw [List.getElem?_set_self hl]
      have sR : St X.K σ H { R with ro := R.ro.set i (some d) } (fun a => SR a ∨ Si a) (Γ.set i none) So := ⟨s'.len, fun j d' hj => by
          rcases ro' j d' hj with ⟨rfl, rfl⟩ | ⟨q, hj⟩
          · exact ⟨v, Si, e1, o, fun x z => .inr z⟩
          · obtain ⟨v', Sv, e', o', m⟩ := s.ro j d' hj
            exact ⟨v', Sv, e', o', fun x z => .inl (m x z)⟩, s'.own, fun a z q => z.elim (fun z => s'.dis a z q) fun z => dj a z q, s'.mu, fun a z => z.elim (s.there a) fun z => Mu.some (s.mu a (m1 a z))⟩
      -- behind: given back
      have fr : ∀ j, free R j = false → free { R with ro := R.ro.set i (some d) } j = false := fun j h => by
        by_cases q : j = i
        · subst q
          unfold free
          rw [roi]; rfl
        · unfold free at h ⊢
          rw [roj j q]
          exact h
      have back : ∀ {Γ1 : En} {σ' : L2.St} {H' : Hp} {S' T : Reg}, St X.K σ' H' { R with ro := R.ro.set i (some d) } (fun a => SR a ∨ Si a) Γ1 S' → SameR { R with ro := R.ro.set i (some d) } σ σ' → Step So H H' T → (∀ a, S' a → T a) → St X.K σ' H' R SR (Γ1.set i (some d)) (fun a => S' a ∨ Si a) ∧ SameR R σ σ' := fun {Γ1 σ' H' S' T} s1 sr t mT => by
        have ev : σ'[i]? = some (some v) := by rw [sr i (by unfold free; rw [roi]; rfl)]; exact e1
        have apT : ∀ a, Si a → T a → False := t.apart dj fun a z => Mu.some (s.mu a (m1 a z))
        have s2 : St X.K σ' H' R SR Γ1 S' := ⟨s1.len, fun j d' hj => by
            have q : j ≠ i := fun q => by rw [q, hro] at hj; cases hj
            obtain ⟨v1, Sv1, e', _, _⟩ := s1.ro j d' (by rw [roj j q]; exact hj)
            obtain ⟨v2, Sv2, e2, o2, m⟩ := s.ro j d' hj
            have hs : σ'[j]? = σ[j]? := sr j (by unfold free; rw [roj j q, hj]; rfl)
            exact ⟨v2, Sv2, hs.trans e2, o2.keep _ (t.keeps s'.mu fun x z q => s'.dis x (m x z) q), m⟩, s1.own, fun a z q => s1.dis a (.inl z) q, s1.mu, fun a z => s1.there a (.inl z)⟩
        have p := s2.put (i := i) (v := v) (d := d) (Si := Si) (by rw [s1.len]; exact (List.getElem?_eq_some_iff.mp ev).1) hro (o.keep _ (t.keeps s'.mu dj)) (fun a z q => s1.dis a (.inr z) q) (fun a z q => s.dis a z (m1 a q)) (t.mu dj fun a z => s.mu a (m1 a z))
        rw [set_same ev] at p
        exact ⟨p, fun j hj => sr j (fr j hj)⟩
      have wide : ∀ {H' : Hp} {T : Reg}, Step So H H' T → Step S H H' (fun a => T a ∨ Si a) := fun {H' T} t => (t.frame (T := Si)).wide fun a z => z.elim (m2 a) (m1 a)
      split at e
      · next Γ1 eb =>
        cases e
        refine ⟨_, _, _, So, _, sR, eb, fun σ' H' S' s1 sr t => ?_⟩
        obtain ⟨b1, b2⟩ := back s1 sr t fun _ z => z
        exact k σ' H' _ b1 b2 (wide t)
      · next Γ1 eb =>
        cases e
        refine ⟨_, _, _, So, _, sR, eb, fun σ' H' S' s1 sr t => ?_⟩
        obtain ⟨b1, b2⟩ := back s1 sr t fun _ z => z
        exact k σ' H' _ b1 b2 (wide t)
      · next Γ1 eb =>
        cases e
        refine ⟨_, _, _, So, _, sR, eb, fun σ' H' S' s1 sr t => ?_⟩
        obtain ⟨b1, b2⟩ := back s1 sr t fun _ z => z
        exact k σ' H' _ b1 b2 (wide t)
      · next r1 Γ1 eb =>
        cases e
        refine ⟨_, _, _, So, _, sR, eb, fun u σ' H' Sv S' s1 sr o1 d1 mu1 t => ?_⟩
        obtain ⟨b1, b2⟩ := back s1 sr t fun _ z => .inl z
        refine k u σ' H' Sv _ b1 b2 o1 (fun a z q => q.elim (d1 a z) fun q => ?_) mu1 ((wide t).less fun a z => z.elim (fun z => z.elim (fun z => .inl (.inl z)) .inr) fun z => .inl (.inr z))
        exact t.apart dj (fun a z => Mu.some (s.mu a (m1 a z))) a q (.inr z)
      · cases e
    · cases e
  · cases e
/-! lists that change -/
/-- x.append(e) -/
def mAppend (i : Nat) (m : M) : Sm := fun R Γ => match roAt R i, Γ[i]? with
  | none, some (some (.lst _)) => match m R Γ with
    | some (d, Γ1) => match Γ1[i]? with
      | some (some (.lst ds)) => if ds.length < 100000 then some (.nx (Γ1.set i (some (.lst (ds ++ [d]))))) else none
      | _ => none
    | none => none
  | _, _ => none
theorem upd_keeps {H : Hp} {a : Addr} {o : HO} {T : Reg} {vs : List V} (h : H a = some (.lst vs)) (n : ∀ x, T x → x ≠ a) : Keeps T H (upd H a o) := fun x u e z => by
  by_cases q : x = a
  · rcases z with z | z
    · exact absurd q (n x z)
    · rw [q, h] at e; cases e; exact absurd trivial z
  · rw [upd_ne q]; exact e
/-- the list at slot i is changed: what stands there is new, made of what stood there and of what was in hand -/
theorem St.mutL {K : PySem.W.Frag} {σ : L2.St} {H : Hp} {R : Rc} {SR S Sv : Reg} {Γ : En} {i : Nat} {ds : List D} (s : St K σ H R SR Γ S) (hro : roAt R i = none) (h : Γ[i]? = some (some (.lst ds))) (dv : ∀ a, Sv a → S a → False) (dR : ∀ a, SR a → Sv a → False) (mv : ∀ a, Sv a → Mu (H a)) :
    ∃ a vs Se, σ[i]? = some (some (.ref a)) ∧ H a = some (.lst vs) ∧ OwnL K H vs ds Se ∧ (∀ x, Se x → S x) ∧ ∀ (vs' : List V) (ds' : List D) (St' : Reg), OwnL K H vs' ds' St' → (∀ x, St' x → Se x ∨ Sv x) →
      St K σ (upd H a (.lst vs')) R SR (Γ.set i (some (.lst ds'))) (fun x => S x ∨ Sv x) ∧ Step (fun x => S x ∨ Sv x) H (upd H a (.lst vs')) (fun x => S x ∨ Sv x) := by
  obtain ⟨v, Si, So, e1, o, s', dj, m1, m2⟩ := s.take h
  have hi : i < Γ.length := by rw [s.len]; exact (List.getElem?_eq_some_iff.mp e1).1
  cases o with
  | lst h1 h2 h3 h4 =>
    rename_i S' a vs
    refine ⟨a, vs, S', e1, h1, h3, fun x z => m1 x (h4 x z).1, fun vs' ds' St' o' mo => ?_⟩
    have ne : ∀ x, St' x → x ≠ a := fun x z q => by
      rcases mo x z with z | z
      · exact (h4 x z).2 q
      · exact dv x z (q ▸ m1 a h2)
    have t : Step (fun x => x = a) H (upd H a (.lst vs')) (fun x => x = a) := ⟨fun x o e n => by rw [upd_ne n]; exact e, fun x e => by
        by_cases q : x = a
        · rw [q, upd_same] at e; cases e
        · rw [upd_ne q] at e; exact e, fun x z => .inl z⟩
    have mua : ∀ x, x = a → Mu (H x) := fun x z => by rw [z, h1]; trivial
    have sk := s'.keepS t (fun x z q => dj x (q ▸ h2) z) mua fun x z q => s.dis x z (q ▸ m1 a h2)
    have p := sk.put (i := i) (v := .ref a) (d := .lst ds') (Si := fun x => Si x ∨ Sv x) (by rw [List.length_set]; exact hi) hro (.lst upd_same (.inl h2) (o'.keep _ (upd_keeps h1 ne)) fun x z => ⟨(mo x z).imp_left fun z => (h4 x z).1, ne x z⟩)
      (fun x z q => z.elim (fun z => dj x z q) fun z => dv x z (m2 x q)) (fun x z q => q.elim (fun q => s.dis x z (m1 x q)) (dR x z)) (fun x z => by
        by_cases q : x = a
        · rw [q, upd_same]; trivial
        · rw [upd_ne q]; exact z.elim (fun z => s.mu x (m1 x z)) (mv x))
    rw [List.set_set, set_same e1] at p
    refine ⟨?_, t.wide (S2 := fun x => S x ∨ Sv x) (fun x z => .inl (z ▸ m1 a h2)) |>.frame (T := fun x => S x ∨ Sv x) |>.less (fun x z => .inr z) |>.wide fun x z => z.elim id id⟩
    obtain ⟨len, ro, ⟨Sg, q1, q2, q3⟩, dis, mu, there⟩ := p
    refine ⟨len, ro, ⟨Sg, q1, fun i x z => (q2 i x z).elim (fun z => .inl (m2 x z)) fun z => z.imp_left (m1 x), q3⟩, fun x z q => q.elim (s.dis x z) (dR x z), fun x z => ?_, there⟩
    by_cases q : x = a
    · rw [q, upd_same]; trivial
    · rw [upd_ne q]; exact z.elim (s.mu x) (mv x)
theorem s_append (i : Nat) {y : Str} {py apos cpos : Pos} (h : PE X e (tM X.K ma)) (hN : X.N[i]? = some y := by rfl) (hv : Vis X.env.scope y := by first | exact Or.inl rfl | exact Or.inr (Or.inl rfl) | exact Or.inr (Or.inr rfl)) (hdy : (y == ("__debug__" : Str)) = false := by decide) (hcy : (y == ("__classdict__" : Str)) = false := by decide)
    (hb : attributeBase (.Name y py) "append" X.env (eval (.Name y py) X.env) = eval (.Name y py) X.env := by rfl)
    (h30 : ((((backTo cpos (starEach [e] X.env)).all fun x => !x.1) && (backToKw cpos (keywordEach [] X.env)).all fun x => x.1.isSome) && decide (([e].length + ([] : List Keyword).length + if ([] : List Keyword).isEmpty = true then 0 else 1) < 30)) = true := by rfl)
    (hl : (apos.endLine == cpos.line) = true := by rfl) (he : starEach [e] X.env = (false, eval e X.env) :: starEach [] X.env := by rfl) (hpl : (backTo cpos (starEach [] X.env)).any (·.1) = false := by rfl)
    (hs : swapsWith (.Call (.Attribute (.Name y py) "append" apos) [e] [] cpos) none pos.line X.env = pure false := by rfl) :
    PS X (.Expr (.Call (.Attribute (.Name y py) "append" apos) [e] [] cpos) pos) (tS X.K (mAppend i ma)) :=
  PS.weak (ps_expr (pe_bm PySem.F.plainAttrs_list PySem.F.slot_list_append PySem.F.type_list_append mt_append (pv i hN hv hdy hcy) (pa_cons h pa_nil he) hb h30 hl he hpl) hs) fun D σ H ⟨R, SR, Γ, S, r, s, e, k⟩ => by
    unfold mAppend at e
    split at e
    · next ds0 hro hgi =>
      split at e
      · next d Γ1 ed =>
        split at e
        · next ds hg1 =>
          split at e
          · next hlt =>
            cases e
            obtain ⟨v0, Si, So, e1, o, _⟩ := s.take hgi
            cases o with
            | lst g1 g2 g3 g4 =>
              refine ⟨_, e1, .inl ⟨rfl, _, .of g1⟩, R, SR, Γ, S, d, Γ1, s, ed, fun v H' Sv S' s' o dj mu t => ?_⟩
              have dR : ∀ a, SR a → Sv a → False := fun a z q => t.apart s.dis s.there a z (.inr q)
              obtain ⟨a, vs, Se, e2, h1, ol, me, fin⟩ := s'.mutL hro hg1 dj dR mu
              rw [e1] at e2
              cases e2
              obtain ⟨p1, p2⟩ := fin (vs ++ [v]) (ds ++ [d]) (fun x => Se x ∨ Sv x) (ol.append (OwnL.cons (S2 := No) o .nil (fun _ _ z => z) (fun _ z => z) fun _ z => z.elim) fun x z q => dj x q (me x z)) fun x z => z
              exact ⟨_, vs, v, rfl, rfl, h1, Nat.lt_of_lt_of_le (by rw [ol.length]; exact hlt) (by decide), k σ _ _ p1 SameR.refl (t.trans p2)⟩
          · cases e
        · cases e
      · cases e
    · cases e
/-- x[k] = e -/
def mSetIx (i : Nat) (p : P) (m : M) : Sm := fun R Γ => match m R Γ with
  | some (d, Γ1) => match p R Γ1 with
    | some (.int j) => match roAt R i, Γ1[i]? with
      | none, some (some (.lst ds)) => match ixN ds.length j with
        | some n => some (.nx (Γ1.set i (some (.lst (ds.set n d)))))
        | none => none
      | _, _ => none
    | _ => none
  | none => none
theorem s_setix (i : Nat) {y : Str} {py spos : Pos} {ix : Expr} (h : PE X e (tM X.K ma)) (hx : PE X ix (tV X.K f1 qa)) (hN : X.N[i]? = some y := by rfl) (hv : Vis X.env.scope y := by first | exact Or.inl rfl | exact Or.inr (Or.inl rfl) | exact Or.inr (Or.inr rfl)) (hdy : (y == ("__debug__" : Str)) = false := by decide) (hcy : (y == ("__classdict__" : Str)) = false := by decide)
    (ha : ∀ v, assign (.Subscript (.Name y py) ix spos) X.env v = (do
      let ov ← holding [v] (eval (.Name y py) X.env)
      let iv ← holding [v, ov] (eval ix X.env)
      standAt spos
      holding [v, ov, iv] (setItem ov iv v)
      release [v, ov, iv] []) := by intro _; rfl)
    (hs : swapsWithSole [.Subscript (.Name y py) ix spos] e pos.line X.env = pure false := by rfl) (hw : swappedStores [.Subscript (.Name y py) ix spos] e X.env = pure none := by rfl) (h1 : (assignEach [.Subscript (.Name y py) ix spos] X.env).map (·.2) = [assign (.Subscript (.Name y py) ix spos) X.env] := by rfl) :
    PS X (.Assign [.Subscript (.Name y py) ix spos] e pos) (tS X.K (mSetIx i qa ma)) :=
  PS.weak (ps_asg h (pg_sub (pv i hN hv hdy hcy) hx set_list ha) hs hw h1) fun D σ H ⟨R, SR, Γ, S, r, s, e, k⟩ => by
    unfold mSetIx at e
    split at e
    · next d Γ1 ed =>
      split at e
      · next j ej =>
        split at e
        · next ds hro hg1 =>
          split at e
          · next n hn =>
            cases e
            refine ⟨R, SR, Γ, S, d, Γ1, s, ed, fun v H' Sv S' s' o dj mu t => ?_⟩
            have dR : ∀ a, SR a → Sv a → False := fun a z q => t.apart s.dis s.there a z (.inr q)
            obtain ⟨v0, _, _, e1, _⟩ := s'.take hg1
            refine ⟨v0, e1, R, SR, Γ1, S', _, s', ej, fun w H2 Sw ow x2 _ _ => ?_⟩
            cases ow
            have mu2 : ∀ a, Sv a → Mu (H2 a) := fun a z => by
              have q := mu a z
              cases r : H' a with
              | none => rw [r] at q; exact q.elim
              | some u => rw [x2 a u r, ← r]; exact q
            obtain ⟨a, vs, Se, e2, h1, ol, me, fin⟩ := (s'.ex x2).mutL hro hg1 dj dR mu2
            rw [e1] at e2
            cases e2
            obtain ⟨p1, p2⟩ := fin (vs.set n v) (ds.set n d) (fun x => Se x ∨ Sv x) (ol.set (o.keep _ x2.keeps) fun x z q => dj x q (me x z)) fun x z => z
            exact ⟨_, vs, j, n, rfl, rfl, h1, by rw [ol.length]; exact hn, k σ _ _ p1 SameR.refl ((t.trans (Step.ex x2)).trans p2)⟩
          · cases e
        · cases e
      · cases e
    · cases e
end
end DL
set_option Elab.async false
set_option linter.all false
set_option maxRecDepth 100000
namespace DL
open PySem PySem.Spec PyProof.Rows L2

/-! ### comprehensions that read alone -/
def mergeE : En → En → En
  | r :: rs, g :: gs => (match r with
    | some d => some d
    | none => g) :: mergeE rs gs
  | [], gs => gs
  | rs, [] => rs
def wipeE (Γ : En) : List Nat → En
  | [] => Γ
  | v :: vs => (wipeE Γ vs).set v none
theorem mergeE_get : ∀ (rs gs : En) (i : Nat), rs.length ≤ gs.length → (match (mergeE rs gs)[i]? with | some (some d) => some d | _ => none) = look ⟨rs, []⟩ gs i
  | [], gs, i, _ => by
    unfold mergeE look roAt
    rfl
  | r :: rs, [], i, h => by simp at h
  | r :: rs, g :: gs, 0, _ => by
    unfold mergeE look roAt
    cases r with
    | some d => rfl
    | none => rfl
  | r :: rs, g :: gs, i + 1, h => by
    have ih := mergeE_get rs gs i (by simpa using h)
    unfold look roAt at ih ⊢
    simpa [mergeE] using ih
theorem wipe_in {σ : L2.St} : ∀ {vs : List Nat} {i : Nat}, i ∈ vs → (wipe σ vs)[i]? = if i < σ.length then some none else none
  | v :: vs, i, h => by
    unfold wipe
    by_cases q : v = i
    · subst q
      by_cases hl : v < σ.length
      · rw [List.getElem?_set_self (by rw [wipe_length]; exact hl), if_pos hl]
      · rw [List.getElem?_eq_none (by rw [List.length_set, wipe_length]; omega), if_neg hl]
    · rw [List.getElem?_set_ne q]
      exact wipe_in ((List.mem_cons.mp h).resolve_left (Ne.symm q))
theorem wipe_eq {σ σ' : L2.St} {vs : List Nat} (hl : σ'.length = σ.length) (h : ∀ i, i ∉ vs → σ'[i]? = (wipe σ vs)[i]?) : wipe σ' vs = wipe σ vs := by
  apply List.ext_getElem?
  intro i
  by_cases q : i ∈ vs
  · rw [wipe_in q, wipe_in q, hl]
  · rw [wipe_out q, wipe_out q, h i q, wipe_out q]
theorem wipeE_length (Γ : En) : ∀ vs, (wipeE Γ vs).length = Γ.length
  | [] => rfl
  | v :: vs => by unfold wipeE; rw [List.length_set, wipeE_length Γ vs]
theorem wipeE_some {Γ : En} {i : Nat} {d : D} : ∀ {vs : List Nat}, (wipeE Γ vs)[i]? = some (some d) → Γ[i]? = some (some d) ∧ i ∉ vs
  | [], h => ⟨h, by simp⟩
  | v :: vs, h => by
    unfold wipeE at h
    by_cases q : v = i
    · subst q
      by_cases hl : v < (wipeE Γ vs).length
      · rw [List.getElem?_set_self hl] at h; cases h
      · rw [List.getElem?_eq_none (by rw [List.length_set]; omega)] at h; cases h
    · rw [List.getElem?_set_ne q] at h
      obtain ⟨a, b⟩ := wipeE_some h
      exact ⟨a, fun m => (List.mem_cons.mp m).elim (fun e => q e.symm) b⟩
/-- all that may be read, and nothing that may change -/
def allRo (vs : List Nat) (R : Rc) (Γ : En) : Rc := ⟨wipeE (mergeE R.ro Γ) vs, []⟩
def nones (Γ : En) : En := Γ.map fun _ => none
theorem nones_get (Γ : En) (i : Nat) (d : D) : (nones Γ)[i]? ≠ some (some d) := by
  unfold nones
  rw [List.getElem?_map]
  cases Γ[i]? <;> simp
theorem St.allRo {K : PySem.W.Frag} {σ : L2.St} {H : Hp} {R : Rc} {SR S : Reg} {Γ : En} (s : St K σ H R SR Γ S) (vs : List Nat) (hl : R.ro.length ≤ Γ.length) : St K (wipe σ vs) H (DL.allRo vs R Γ) (fun a => SR a ∨ S a) (nones Γ) No := by
  refine ⟨by unfold nones; rw [List.length_map, wipe_length]; exact s.len, fun i d h => ?_, ⟨fun _ => No, fun i d h => absurd h (nones_get Γ i d), fun _ _ z => z, fun _ _ _ _ z => z.elim⟩, fun _ _ z => z, fun _ z => z.elim, fun a z => z.elim (s.there a) fun z => Mu.some (s.mu a z)⟩
  unfold DL.allRo roAt at h
  split at h
  · next d' e =>
    cases h
    obtain ⟨e1, ni⟩ := wipeE_some e
    have e2 := mergeE_get R.ro Γ i hl
    rw [e1] at e2
    obtain ⟨v, Sv, ev, o, m⟩ := s.look (i := i) (d := d) e2.symm
    exact ⟨v, Sv, by rw [wipe_out ni]; exact ev, o, m⟩
  · cases h
/-- targets among what is read alone -/
abbrev TgR := D → Rc → Option Rc
def gR (K : PySem.W.Frag) (t : TgR) (ts : List Nat) : TG := fun v σ H Q => ∃ R SR Γ d Sv R', St K σ H R SR Γ No ∧ (∀ (i : Nat) (d : D), Γ[i]? ≠ some (some d)) ∧ R.ro.length ≤ σ.length ∧ Own K H v d Sv ∧ (∀ a, Sv a → SR a) ∧ t d R = some R' ∧
  ∀ (σ' : L2.St), St K σ' H R' SR Γ No → R'.ro.length ≤ σ'.length → σ'.length = σ.length → (∀ i, i ∉ ts → σ'[i]? = σ[i]?) → Q σ' H
def trName (i : Nat) : TgR := fun d R => if i < R.ro.length then some ⟨R.ro.set i (some d), []⟩ else none
section
variable {X : Cx} {a b c e : Expr} {es : List Expr} {pos : Pos}
theorem gr_name {i : Nat} {x : Str} (hN : X.N.Nodup) (hi : X.N[i]? = some x := by rfl) (hx : Loc X.env.scope x := by first | exact Or.inl rfl | exact Or.inr rfl) (hf : X.fn x = true ∨ X.env.scope.names.lookup x = some .local := by first | exact .inl rfl | exact .inr rfl | assumption) : PG X (.Name x pos) (gR X.K (trName i) [i]) :=
  PG.weak (pg_name hN hi hx hf) fun v σ H Q ⟨R, SR, Γ, d, Sv, R', s, hn, hle, o, m, e, k⟩ => by
    unfold trName at e
    split at e
    · next hl =>
      cases e
      have hs : i < σ.length := Nat.lt_of_lt_of_le hl hle
      refine k _ ⟨by rw [List.length_set]; exact s.len, fun j d' hj => ?_, ⟨fun _ => No, fun j d' hj => absurd hj (hn j d'), fun _ _ z => z, fun _ _ _ _ z => z.elim⟩, fun _ _ z => z, fun _ z => z.elim, s.there⟩ (by simpa using hle) (by rw [List.length_set]) fun j hj => List.getElem?_set_ne fun q => hj (by rw [q]; exact List.mem_singleton_self _)
      by_cases q : i = j
      · subst q
        have hj : (match (R.ro.set i (some d))[i]? with | some (some d) => some d | _ => none) = some d' := hj
        rw [List.getElem?_set_self hl] at hj
        cases hj
        exact ⟨v, Sv, List.getElem?_set_self hs, o, m⟩
      · have hj : (match (R.ro.set i (some d))[j]? with | some (some d) => some d | _ => none) = some d' := hj
        rw [List.getElem?_set_ne q] at hj
        obtain ⟨v', Sv', ev, o', m'⟩ := s.ro j d' hj
        exact ⟨v', Sv', by rw [List.getElem?_set_ne q]; exact ev, o', m'⟩
    · cases e
abbrev TgRs := List D → Rc → Option Rc
def gRs (K : PySem.W.Frag) (t : TgRs) (ts : List Nat) : TGs := fun vs σ H Q => ∃ R SR Γ ds Sv R', St K σ H R SR Γ No ∧ (∀ (i : Nat) (d : D), Γ[i]? ≠ some (some d)) ∧ R.ro.length ≤ σ.length ∧ OwnL K H vs ds Sv ∧ (∀ a, Sv a → SR a) ∧ t ds R = some R' ∧
  ∀ (σ' : L2.St), St K σ' H R' SR Γ No → R'.ro.length ≤ σ'.length → σ'.length = σ.length → (∀ i, i ∉ ts → σ'[i]? = σ[i]?) → Q σ' H
def trNil : TgRs := fun ds R => match ds with
  | [] => some R
  | _ => none
def trCons (t : TgR) (u : TgRs) : TgRs := fun ds R => match ds with
  | d :: r => match t d R with
    | some R1 => u r R1
    | none => none
  | _ => none
variable {tr : TgR} {trs : TgRs} {ts us : List Nat}
theorem grs_nil : PGs X [] (gRs X.K trNil []) := ⟨fun pins s σ H vs vv Q I r ⟨R, SR, Γ, ds, Sv, R', st, hn, hle, o, m, e, k⟩ => by
  refine pgs_nil.run pins s σ H vs vv Q I r ?_
  cases ds with
  | nil => cases o; cases e; exact ⟨rfl, k σ st hle rfl fun _ _ => rfl⟩
  | cons => cases e⟩
theorem grs_cons (h1 : PG X e (gR X.K tr ts)) (h2 : PGs X es (gRs X.K trs us)) (hs : (assignEach (e :: es) X.env).map (·.2) = assign e X.env :: (assignEach es X.env).map (·.2) := by rfl) : PGs X (e :: es) (gRs X.K (trCons tr trs) (ts ++ us)) := ⟨fun pins s σ H vs vv Q I r ⟨R, SR, Γ, ds, Sv, R', st, hn, hle, o, m, e, k⟩ => by
  refine (pgs_cons h1 h2 hs).run pins s σ H vs vv Q I r ?_
  cases ds with
  | nil => cases e
  | cons d ds =>
    have e : (match tr d R with | some R1 => trs ds R1 | none => none) = some R' := e
    split at e
    · next R1 e1 =>
      cases o with
      | cons o1 o2 o3 o4 o5 =>
        exact ⟨_, _, rfl, R, SR, Γ, d, _, R1, st, hn, hle, o1, fun a z => m a (o4 a z), e1, fun σ' s' l' e' n' => ⟨R1, SR, Γ, ds, _, R', s', hn, l', o2, fun a z => m a (o5 a z), e, fun σ2 s2 l2 e2 n2 =>
          k σ2 s2 l2 (e2.trans e') fun i hi => (n2 i fun z => hi (List.mem_append_right _ z)).trans (n' i fun z => hi (List.mem_append_left _ z))⟩⟩
    · cases e⟩
def trTup (n : Nat) (t : TgRs) : TgR := fun d R => match d with
  | .tup ds => if ds.length = n then t ds R else none
  | _ => none
theorem gr_tup {k n : Nat} (hc : X.calm = true) (h : PGs X es (gRs X.K trs ts)) (hn : (assignEach es X.env).length = n := by rfl) (hst : (assignEach es X.env).findIdx? (·.1) = none := by rfl) : PG X (.Tuple es k pos) (gR X.K (trTup n trs) ts) :=
  PG.weak (pg_tup hc h hn hst) fun v σ H Q ⟨R, SR, Γ, d, Sv, R', s, hn, hle, o, m, e, k⟩ => by
    unfold trTup at e
    split at e
    · next ds =>
      split at e
      · next hl =>
        cases o with
        | tup h1 h2 => exact ⟨_, _, rfl, h1, by rw [h2.length]; exact hl, R, SR, Γ, ds, Sv, R', s, hn, hle, h2, m, e, k⟩
      · cases e
    · cases e
/-- what a comprehension gives: each item is dropped or becomes something -/
def compGo (f : D → Option (Option D)) : List D → Option (List D)
  | [] => some []
  | d :: ds => match f d with
    | some (some y) => match compGo f ds with
      | some r => some (y :: r)
      | none => none
    | some none => compGo f ds
    | none => none
def compF (t : TgR) (pb : PB) (pe : P) (R0 : Rc) (N : En) : D → Option (Option D) := fun d => match t d R0 with
  | some R' => match pb R' N with
    | some true => match pe R' N with
      | some y => some (some y)
      | none => none
    | some false => some none
    | none => none
  | none => none
def pComp (vs : List Nat) (pit : Pit) (t : TgR) (pb : PB) (pe : P) : P := fun R Γ => if R.ro.length = Γ.length then match pit R Γ with
    | some ds => match compGo (compF t pb pe (allRo vs R Γ) (nones Γ)) ds with
      | some r => if r.length ≤ 100000 then some (.lst r) else none
      | none => none
    | none => none
  else none
theorem mergeE_length : ∀ (rs gs : En), rs.length = gs.length → (mergeE rs gs).length = gs.length
  | [], gs, _ => by unfold mergeE; rfl
  | r :: rs, [], h => by simp at h
  | r :: rs, g :: gs, h => by unfold mergeE; simp [mergeE_length rs gs (by simpa using h)]
variable {tg iter : Expr} {ifs : List Expr} {pit : Pit} {ba : PB} {qa : P}
theorem ts_nil : PTs X [] (tVB X.K fun _ _ => some true) := ⟨fun pins s σ H Q I ⟨R, SR, Γ, S, b, st, e, k⟩ => by
  cases e
  exact pts_nil.run pins s σ H Q I (k H (Ex.refl H))⟩
theorem ts_one (h : PT X c (tVB X.K ba)) : PTs X [c] (tVB X.K ba) := pts_one h
theorem comp_weak {vs : List Nat} {σ : L2.St} {H : Hp} {Q : VK} (hts : ∀ i ∈ ts, i ∈ vs) (h : tV X.K true (pComp vs pit tr ba qa) σ H Q) : tLc (tI X.K pit) (gR X.K tr ts) (tVB X.K ba) (tV X.K true qa) vs σ H Q := by
  obtain ⟨R, SR, Γ, S, d, s, e, k⟩ := h
  unfold pComp at e
  split at e
  · next hlen =>
    split at e
    · next ds eds =>
      split at e
      · next res eres =>
        split at e
        · next hres =>
          cases e
          refine ⟨R, SR, Γ, S, ds, s, eds, fun J H1 Sl G it g x hl ht Da hDa => ?_⟩
          have sW : ∀ {Hc : Hp}, Ex H1 Hc → St X.K (wipe σ vs) Hc (allRo vs R Γ) (fun a => (SR a ∨ S a) ∨ Sl a) (nones Γ) No := fun {Hc} xc => by
            have q := ((s.ex x).ex xc).allRo vs (Nat.le_of_eq hlen)
            exact ⟨q.len, fun i d h => by obtain ⟨v, Sv, e, o, m⟩ := q.ro i d h; exact ⟨v, Sv, e, o, fun a z => .inl (m a z)⟩, q.own, fun _ _ z => z, q.mu, fun a z => z.elim (q.there a) fun z => xc.there (ht a z)⟩
          refine ⟨fun i m Hc => m = ds.length - i ∧ i ≤ ds.length ∧ ∃ acc accD Sa rest, Hc Da = some (.lst acc) ∧ OwnL X.K Hc acc accD Sa ∧ (∀ a, Sa a → H a = none ∧ Mu (Hc a) ∧ a ≠ Da) ∧ compGo (compF tr ba qa (allRo vs R Γ) (nones Γ)) (ds.drop i) = some rest ∧ accD ++ rest = res ∧ Ex H1 Hc ∧ G Hc,
            ⟨ds.length, by simp, Nat.zero_le _, [], [], No, res, upd_same, .nil, fun _ z => z.elim, by simpa using eres, rfl, Ex.new hDa, it.stable _ _ g (Ex.new hDa).keeps⟩, ?_⟩
          rintro i m Hc ⟨rfl, hi, acc, accD, Sa, rest, hD, ol, fr, er, es, xc, gc⟩
          by_cases hlt : i < ds.length
          · refine .inr ⟨it.goes i Hc hlt gc, _, fun H' w => ⟨ds.length - (i + 1), by omega, rfl, hlt, w⟩, fun v H' y => ?_⟩
            have hd : ds[i]? = some ds[i] := List.getElem?_eq_getElem hlt
            obtain ⟨g', x', Sx, o, mx⟩ := it.yld i _ Hc v H' hd gc y
            rw [List.drop_eq_getElem_cons hlt] at er
            unfold compGo compF at er
            have sw := sW (xc.trans x')
            cases e1 : tr ds[i] (allRo vs R Γ) with
            | none => rw [e1] at er; cases er
            | some R' =>
              rw [e1] at er
              refine ⟨_, _, _, ds[i], Sx, R', sw, nones_get Γ, ?_, o, fun a z => .inr (mx a z), e1, fun σ2 s2 l2 len2 n2 => ?_⟩
              · unfold allRo
                rw [wipeE_length, mergeE_length _ _ hlen, wipe_length, ← s.len]
                exact Nat.le_refl _
              have hw : wipe σ2 vs = wipe σ vs := wipe_eq (by rw [len2, wipe_length]) fun j hj => n2 j fun z => hj (hts j z)
              refine ⟨hw, ?_⟩
              simp only at er
              cases e2 : ba R' (nones Γ) with
              | none => rw [e2] at er; cases er
              | some b =>
                rw [e2] at er
                refine ⟨R', _, _, No, b, s2, e2, fun H3 x3 => ?_⟩
                have keepAcc : ∀ {Hz : Hp}, Ex Hc Hz → OwnL X.K Hz acc accD Sa := fun {Hz} q => ol.keep _ q.keeps
                have muX : ∀ {Hz : Hp} {T : Reg}, Ex Hc Hz → (∀ a, T a → Mu (Hc a)) → ∀ a, T a → Mu (Hz a) := fun {Hz T} q m a z => by
                  have w := m a z
                  cases r : Hc a with
                  | none => rw [r] at w; exact w.elim
                  | some u => rw [q a u r, ← r]; exact w
                cases b with
                | false =>
                  refine iteF ?_
                  exact ⟨acc, accD, Sa, rest, (x'.trans x3) _ _ hD, keepAcc (x'.trans x3), fun a z => ⟨(fr a z).1, muX (x'.trans x3) (fun a z => (fr a z).2.1) a z, (fr a z).2.2⟩, er, es, xc.trans (x'.trans x3), it.stable _ _ g' x3.keeps⟩
                | true =>
                  refine iteT ?_
                  simp only at er
                  cases e3 : qa R' (nones Γ) with
                  | none => rw [e3] at er; cases er
                  | some yd =>
                    rw [e3] at er
                    simp only at er
                    cases e4 : compGo (fun d => compF tr ba qa (allRo vs R Γ) (nones Γ) d) (ds.drop (i + 1)) with
                    | none =>
                      have e4' : compGo (compF tr ba qa (allRo vs R Γ) (nones Γ)) (ds.drop (i + 1)) = none := e4
                      unfold compF at e4'
                      rw [e4'] at er; cases er
                    | some rest' =>
                      have e4' : compGo (compF tr ba qa (allRo vs R Γ) (nones Γ)) (ds.drop (i + 1)) = some rest' := e4
                      have e4'' := e4'
                      unfold compF at e4''
                      rw [e4''] at er
                      cases er
                      refine ⟨R', _, _, No, yd, s2.ex x3, e3, fun v H4 Sv o4 x4 _ g4 => ?_⟩
                      have xz := (x'.trans x3).trans x4
                      have hDz := xz _ _ hD
                      have lenA : acc.length < sizeLine := by
                        rw [ol.length]
                        have : accD.length + (yd :: rest').length ≤ 100000 := by rw [← List.length_append, es]; exact hres
                        simp at this
                        exact Nat.lt_of_lt_of_le (show accD.length < 100000 by omega) (by decide)
                      have neV : ∀ a, Sv a → a ≠ Da := fun a z q => by
                        have w := (g4 rfl a z).1
                        rw [q] at w
                        have := (x'.trans x3) _ _ hD
                        rw [w] at this; cases this
                      have k1 : Keeps (fun a => Sa a ∨ Sv a) H4 (upd H4 Da (.lst (acc ++ [v]))) := upd_keeps hDz fun a z => z.elim (fun z => (fr a z).2.2) (neV a)
                      have dj : ∀ a, Sa a → Sv a → False := fun a z q => Mu.some (muX (x'.trans x3) (fun a z => (fr a z).2.1) a z) (g4 rfl a q).1
                      have hxc : Ex H1 (upd H4 Da (.lst (acc ++ [v]))) := fun a u ea => by
                        rw [upd_ne (ne_of_none ea hDa)]
                        exact xz a u (xc a u ea)
                      refine ⟨acc, hDz, lenA, acc ++ [v], accD ++ [yd], fun a => Sa a ∨ Sv a, rest', upd_same, ((keepAcc xz).append (OwnL.cons (S2 := No) o4 .nil (fun _ _ z => z) (fun _ z => z) fun _ z => z.elim) dj).keep _ k1, fun a z => ?_, rfl, by rw [List.append_assoc]; exact es, hxc, ?_⟩
                      · rcases z with z | z
                        · exact ⟨(fr a z).1, by rw [upd_ne (fr a z).2.2]; exact muX xz (fun a z => (fr a z).2.1) a z, (fr a z).2.2⟩
                        · refine ⟨x.back (xc.back ((x'.trans x3).back (g4 rfl a z).1)), by rw [upd_ne (neV a z)]; exact (g4 rfl a z).2, neV a z⟩
                      · refine it.stable _ _ (it.stable _ _ (it.stable _ _ g' x3.keeps) x4.keeps) (upd_keeps hDz fun a z q => ?_)
                        rw [q] at z
                        exact ht Da z hDa
          · have q : i = ds.length := by omega
            subst q
            rw [List.drop_length] at er
            cases er
            rw [List.append_nil] at es
            subst es
            refine .inl ⟨it.stops Hc gc, k _ Hc (fun a => Sa a ∨ a = Da) (.lst hD (.inr rfl) ol fun a z => ⟨.inl z, (fr a z).2.2⟩) (x.trans xc) (fun a z => ?_) fun _ a z => ?_⟩
            · exact .inr (.inr (z.elim (fun z => (fr a z).1) fun z => by rw [z]; exact x.back hDa))
            · exact z.elim (fun z => ⟨(fr a z).1, (fr a z).2.1⟩) fun z => by rw [z]; exact ⟨x.back hDa, by rw [hD]; trivial⟩
        · cases e
      · cases e
    · cases e
  · cases e
theorem v_comp {elt : Expr} {scope : Scope} {own : List (Str × Nat)} (hc : X.calm = true) (hN : X.N.Nodup) (hi : PI X tg iter (tI X.K pit)) (ok : BlkOk X.N X.env.scope scope own) (hts : ∀ i ∈ ts, i ∈ own.map (·.2))
    (hg : ∀ (s : Shared) (H : Hp) (C : Addr) (cl : List (Str × Addr)) (fp : List Addr), PG (X.blk s H scope (compEnvC scope cl C X.env) fp) tg (gR X.K tr ts)) (ht : ∀ (s : Shared) (H : Hp) (C : Addr) (cl : List (Str × Addr)) (fp : List Addr), PTs (X.blk s H scope (compEnvC scope cl C X.env) fp) ifs (tVB X.K ba))
    (he : ∀ (s : Shared) (H : Hp) (C : Addr) (cl : List (Str × Addr)) (fp : List Addr), PE (X.blk s H scope (compEnvC scope cl C X.env) fp) elt (tV X.K true qa)) (hs : ∀ x, foldedSetIterable iter X.env x = pure x := by intro _; rfl) :
    PE X (.ListComp elt [⟨tg, iter, ifs, 0⟩] scope pos) (tV X.K true (pComp (own.map (·.2)) pit tr ba qa)) := PE.weak (pe_lc hc hN hi ok hg ht he hs) fun _ _ _ h => comp_weak hts h
end
end DL
set_option Elab.async false
set_option linter.all false
set_option maxRecDepth 100000
namespace DL
open PySem PySem.Spec PyProof.Rows L2

/-! ### defs -/
def roInit : List Bool → List D → En
  | true :: ms, d :: ds => some d :: roInit ms ds
  | false :: ms, _ :: ds => none :: roInit ms ds
  | _, _ => []
def ownInit : List Bool → List D → En
  | true :: ms, _ :: ds => none :: ownInit ms ds
  | false :: ms, d :: ds => some d :: ownInit ms ds
  | _, _ => []
def maskOk : List Bool → List D → Bool
  | true :: ms, _ :: ds => maskOk ms ds
  | false :: ms, d :: ds => d.imm && maskOk ms ds
  | [], [] => true
  | _, _ => false
theorem rep_none {k i : Nat} {d : D} : (List.replicate k (none : Option D))[i]? ≠ some (some d) := fun h => by
  rw [List.getElem?_replicate] at h
  split at h <;> cases h
theorem roInit_get : ∀ {ms : List Bool} {ds : List D} {k i : Nat} {d : D}, (roInit ms ds ++ List.replicate k none)[i]? = some (some d) → ds[i]? = some d
  | true :: ms, _ :: ds, k, 0, d, h => by simpa [roInit] using h
  | true :: ms, _ :: ds, k, i + 1, d, h => by
    have := roInit_get (ms := ms) (ds := ds) (k := k) (i := i) (d := d) (by simpa [roInit] using h)
    simpa using this
  | false :: ms, _ :: ds, k, 0, d, h => by simp [roInit] at h
  | false :: ms, _ :: ds, k, i + 1, d, h => by
    have := roInit_get (ms := ms) (ds := ds) (k := k) (i := i) (d := d) (by simpa [roInit] using h)
    simpa using this
  | [], ds, k, i, d, h => absurd (by simpa [roInit] using h) (rep_none (k := k) (i := i) (d := d))
  | true :: _, [], k, i, d, h => absurd (by simpa [roInit] using h) (rep_none (k := k) (i := i) (d := d))
  | false :: _, [], k, i, d, h => absurd (by simpa [roInit] using h) (rep_none (k := k) (i := i) (d := d))
theorem ownInit_get : ∀ {ms : List Bool} {ds : List D} {k i : Nat} {d : D}, maskOk ms ds = true → (ownInit ms ds ++ List.replicate k none)[i]? = some (some d) → ds[i]? = some d ∧ d.imm = true
  | true :: ms, _ :: ds, k, 0, d, _, h => by simp [ownInit] at h
  | true :: ms, _ :: ds, k, i + 1, d, m, h => by
    have := ownInit_get (ms := ms) (ds := ds) (k := k) (i := i) (d := d) m (by simpa [ownInit] using h)
    simpa using this
  | false :: ms, e :: ds, k, 0, d, m, h => by
    have q : e = d := by simpa [ownInit] using h
    have m : (e.imm && maskOk ms ds) = true := m
    rw [Bool.and_eq_true] at m
    subst q
    exact ⟨rfl, m.1⟩
  | false :: ms, e :: ds, k, i + 1, d, m, h => by
    have m : (e.imm && maskOk ms ds) = true := m
    rw [Bool.and_eq_true] at m
    have := ownInit_get (ms := ms) (ds := ds) (k := k) (i := i) (d := d) m.2 (by simpa [ownInit] using h)
    simpa using this
  | [], ds, k, i, d, _, h => absurd (by simpa [ownInit] using h) (rep_none (k := k) (i := i) (d := d))
  | true :: _, [], k, i, d, _, h => absurd (by simpa [ownInit] using h) (rep_none (k := k) (i := i) (d := d))
  | false :: _, [], k, i, d, _, h => absurd (by simpa [ownInit] using h) (rep_none (k := k) (i := i) (d := d))
theorem maskOk_len : ∀ {ms : List Bool} {ds : List D}, maskOk ms ds = true → ms.length = ds.length
  | [], [], _ => rfl
  | true :: ms, _ :: ds, h => by simp [maskOk_len (ms := ms) (ds := ds) h]
  | false :: ms, e :: ds, h => by
    have m : (e.imm && maskOk ms ds) = true := h
    rw [Bool.and_eq_true] at m
    simp [maskOk_len m.2]
  | [], _ :: _, h => nomatch h
  | true :: _, [], h => nomatch h
  | false :: _, [], h => nomatch h
theorem ownInit_len : ∀ {ms : List Bool} {ds : List D}, ms.length = ds.length → (ownInit ms ds).length = ds.length
  | [], [], _ => rfl
  | true :: ms, _ :: ds, h => by simp [ownInit, ownInit_len (ms := ms) (ds := ds) (by simpa using h)]
  | false :: ms, e :: ds, h => by simp [ownInit, ownInit_len (ms := ms) (ds := ds) (by simpa using h)]
  | [], _ :: _, h => by simp at h
  | _ :: _, [], h => by simp at h
theorem OwnW.get {K : PySem.W.Frag} {H : Hp} {T : Reg} : ∀ {vs : List V} {ds : List D} {i : Nat} {d : D}, OwnW K H T vs ds → ds[i]? = some d → ∃ v S, vs[i]? = some v ∧ Own K H v d S ∧ ∀ a, S a → T a
  | [], [], _, _, _, h => by simp at h
  | v :: vs, d :: ds, 0, _, ⟨⟨S, o, m⟩, _⟩, h => by
    cases (show some d = some _ by simpa using h)
    exact ⟨v, S, rfl, o, m⟩
  | v :: vs, d :: ds, i + 1, d', ⟨_, r⟩, h => by
    obtain ⟨v', S, e, o⟩ := r.get (i := i) (by simpa using h)
    exact ⟨v', S, by simpa using e, o⟩
theorem start_get {N : List Str} {vs : List V} {i : Nat} {v : V} (h : vs[i]? = some v) : (L2.start N vs)[i]? = some (some v) := by
  unfold L2.start
  have hi : i < vs.length := (List.getElem?_eq_some_iff.mp h).1
  rw [List.getElem?_append_left (by simpa using hi), List.getElem?_map, h]
  rfl
theorem start_len {N : List Str} {vs : List V} : (L2.start N vs).length = vs.length + (N.length - vs.length) := by
  unfold L2.start; simp

def runP (n : Nat) (ms : List Bool) (m : Sm) (ds : List D) : Option D := if maskOk ms ds = true then
    match m ⟨roInit ms ds ++ List.replicate (n - ds.length) none, []⟩ (ownInit ms ds ++ List.replicate (n - ds.length) none) with
    | some (.rt d _) => some d
    | some (.nx _) => some .non
    | _ => none
  else none
section
variable {P : Program} {w : World} {K : PySem.W.Frag} {mg : Str → Option Value} {base : Heap} {x qual : Str} {st : Stmt} {f : Addr} {fd : FuncData} {N ps : List Str} {k : Nat}
abbrev Cx1 (P : Program) (w : World) (K : PySem.W.Frag) (mg : Str → Option Value) (base : Heap) (N : List Str) (qual : Str) (st : Stmt) (f : Addr) (cdv : Value) (A : Around) (fr : List PySem.Env) (z : Shared) (H : Hp) (E : XK) : Cx := (cxOf CX0 P w K mg base N qual (defScope st) f cdv A fr z H E).nox
theorem fn_pure {m : Sm} (ms : List Bool) (F : Fun K x qual st f fd) (S : FnScope N ps (defScope st)) 
    (body : ∀ (cdv : Value) (A : Around) (fr : List PySem.Env) (z : Shared) (H : Hp) (E : XK), A.guards = some [] → Room k (A.deeper (envOfC qual (defScope st) z.heap.objs.size f cdv)) → PSs (Cx1 P w K mg base N qual st f cdv A fr z H E) (defBody st) (tS K m)) :
    FnG P w K mg base (k + 1) f fd ps (spP K ps.length (runP N.length ms m)) := by
  refine fn_body F S (fun vs H Q E h => h.1) fun cdv A fr z H vs Q E hgd hr ⟨hl, ds, d, ov, e, kk⟩ => ⟨_, body cdv A fr z H E hgd hr, ?_⟩
  unfold runP at e
  split at e
  · next hm =>
    have lv := ov.length
    have ld := maskOk_len hm
    have s0 : St K (L2.start N vs) H ⟨roInit ms ds ++ List.replicate (N.length - ds.length) none, []⟩ (fun a => H a ≠ none) (ownInit ms ds ++ List.replicate (N.length - ds.length) none) No := by
      refine ⟨by rw [start_len, List.length_append, ownInit_len ld, List.length_replicate, lv], fun i d' h => ?_, ⟨fun _ => No, fun i d' h => ?_, fun _ _ z => z, fun _ _ _ _ z => z.elim⟩, fun _ _ z => z, fun _ z => z.elim, fun _ z => z⟩
      · unfold roAt at h
        split at h
        · next e' =>
          cases h
          obtain ⟨v, S', ev, o, _⟩ := ov.get (roInit_get e')
          exact ⟨v, _, start_get ev, o.dom _, fun a z => z.2⟩
        · cases h
      · obtain ⟨h1, h2⟩ := ownInit_get hm h
        obtain ⟨v, S', ev, o, _⟩ := ov.get h1
        exact ⟨v, start_get ev, o.imm _ h2⟩
    have ex : ∀ {H' : Hp} {T : Reg}, Step No H H' T → Ex H H' := fun t a o e => t.keep a o e fun z => z
    split at e
    · next d1 Γ1 e1 =>
      cases e
      refine ⟨_, _, _, No, _, s0, e1, fun v σ' H' Sv S' s' sr o dj mu t => ?_⟩
      exact kk v H' Sv o (ex t) fun a q => ⟨(t.grow a (.inr q)).elim (fun z => z.elim) id, mu a q⟩
    · next Γ1 e1 =>
      cases e
      refine ⟨_, _, _, No, _, s0, e1, fun σ' H' S' s' sr t => ?_⟩
      exact kk .non H' No .non (ex t) fun _ q => q.elim
    · cases e
  · cases e
def runM (n : Nat) (ms : List Bool) (m : Sm) (b : D) (ds : List D) : Option (D × D) := if maskOk ms ds = true then
    match m ⟨none :: (roInit ms ds ++ List.replicate (n - 1 - ds.length) none), [0]⟩ (some b :: (ownInit ms ds ++ List.replicate (n - 1 - ds.length) none)) with
    | some (.rt d (some b' :: _)) => some (d, b')
    | some (.nx (some b' :: _)) => some (.non, b')
    | _ => none
  else none
theorem fn_mut {m : Sm} (ms : List Bool) (F : Fun K x qual st f fd) (S : FnScope N ps (defScope st)) (hN : 0 < N.length)
    (body : ∀ (cdv : Value) (A : Around) (fr : List PySem.Env) (z : Shared) (H : Hp) (E : XK), A.guards = some [] → Room k (A.deeper (envOfC qual (defScope st) z.heap.objs.size f cdv)) → PSs (Cx1 P w K mg base N qual st f cdv A fr z H E) (defBody st) (tS K m)) :
    FnG P w K mg base (k + 1) f fd ps (spM K ps.length (runM N.length ms m)) := by
  refine fn_body F S (fun vs H Q E h => h.1) fun cdv A fr z H vs Q E hgd hr ⟨hl, vb, vr, db, dr, Sb, SV, d, db', ev, ob, mub, ow, dSV, tSV, e, kk⟩ => ⟨_, body cdv A fr z H E hgd hr, ?_⟩
  subst ev
  unfold runM at e
  split at e
  · next hm =>
    have lv := ow.length
    have ld := maskOk_len hm
    have roS : ∀ i d', roAt ⟨none :: (roInit ms dr ++ List.replicate (N.length - 1 - dr.length) none), [0]⟩ i = some d' → ∃ j, i = j + 1 ∧ dr[j]? = some d' := fun i d' h => by
      unfold roAt at h
      split at h
      · next e' =>
        cases h
        cases i with
        | zero => cases e'
        | succ j => exact ⟨j, rfl, roInit_get (k := N.length - 1 - dr.length) (by simpa using e')⟩
      · cases h
    have st0 : ∀ {j : Nat} {v : V}, vr[j]? = some v → (L2.start N (vb :: vr))[j + 1]? = some (some v) := fun h => start_get (by simpa using h)
    have s0 : St K (L2.start N (vb :: vr)) H ⟨none :: (roInit ms dr ++ List.replicate (N.length - 1 - dr.length) none), [0]⟩ SV (some db :: (ownInit ms dr ++ List.replicate (N.length - 1 - dr.length) none)) Sb := by
      refine ⟨by rw [start_len, List.length_cons, List.length_append, ownInit_len ld, List.length_replicate, List.length_cons, lv]; omega, fun i d' h => ?_, ⟨fun i a => i = 0 ∧ Sb a, fun i d' h => ?_, fun _ _ z => z.2, fun i j _ n z1 z2 => n (z1.1.trans z2.1.symm)⟩, dSV, mub, tSV⟩
      · obtain ⟨j, rfl, e'⟩ := roS i d' h
        obtain ⟨v, S', ev, o, mo⟩ := ow.get e'
        exact ⟨v, S', st0 ev, o, mo⟩
      · cases i with
        | zero =>
          cases h
          exact ⟨vb, start_get (by simp), ob.mono _ fun x z => ⟨rfl, z⟩⟩
        | succ j =>
          obtain ⟨h1, h2⟩ := ownInit_get (k := N.length - 1 - dr.length) hm (by simpa using h)
          obtain ⟨v, S', ev, o, _⟩ := ow.get h1
          exact ⟨v, st0 ev, (o.imm _ h2).any⟩
    have pin : free ⟨none :: (roInit ms dr ++ List.replicate (N.length - 1 - dr.length) none), [0]⟩ 0 = false := by
      unfold free
      rw [show (⟨none :: (roInit ms dr ++ List.replicate (N.length - 1 - dr.length) none), [0]⟩ : Rc).pin.contains 0 = true from rfl]
      simp
    split at e
    · next d1 b1 Γ1 e1 =>
      cases e
      refine ⟨_, _, _, Sb, _, s0, e1, fun v σ' H' Sv S' s' sr o dj mu t => ?_⟩
      obtain ⟨v0, Si, So, ev, oi, _, dio, mi, mo⟩ := s'.take (i := 0) (d := db') rfl
      rw [sr 0 pin, start_get (by simp : (vb :: vr)[0]? = some vb)] at ev
      cases ev
      exact kk v H' Sv Si o oi (fun a q1 q2 => dj a q1 (mi a q2)) mu (fun a q => s'.mu a (mi a q)) (t.less fun a q => q.imp_left (mi a))
    · next b1 Γ1 e1 =>
      cases e
      refine ⟨_, _, _, Sb, _, s0, e1, fun σ' H' S' s' sr t => ?_⟩
      obtain ⟨v0, Si, So, ev, oi, _, dio, mi, mo⟩ := s'.take (i := 0) (d := db') rfl
      rw [sr 0 pin, start_get (by simp : (vb :: vr)[0]? = some vb)] at ev
      cases ev
      exact kk .non H' No Si .non oi (fun a q1 => q1.elim) (fun _ q => q.elim) (fun a q => s'.mu a (mi a q)) (t.less fun a q => q.elim (mi a) fun z => z.elim)
    · cases e
  · cases e
theorem Own1.weak {n : Nat} {φ φ' : List D → Option D} (F : Own1 P w K mg base k x n φ) (h : ∀ ds d, φ' ds = some d → φ ds = some d) : Own1 P w K mg base k x n φ' := by
  obtain ⟨f, fd, ps, G, r⟩ := F.ex
  exact ⟨f, fd, ps, G.imp fun vs H Q E ⟨hl, ds, d, ov, e, kk⟩ => ⟨hl, ds, d, ov, h ds d e, kk⟩, r⟩
theorem Own2.weak {n : Nat} {φ φ' : D → List D → Option (D × D)} (F : Own2 P w K mg base k x n φ) (h : ∀ b ds d, φ' b ds = some d → φ b ds = some d) : Own2 P w K mg base k x n φ' := by
  obtain ⟨f, fd, ps, G, r⟩ := F.ex
  exact ⟨f, fd, ps, G.imp fun vs H Q E ⟨hl, vb, vr, db, dr, Sb, SV, d, db', ev, ob, mub, ow, dSV, tSV, e, kk⟩ => ⟨hl, vb, vr, db, dr, Sb, SV, d, db', ev, ob, mub, ow, dSV, tSV, h _ _ _ e, kk⟩, r⟩
theorem Own1.mono {j n : Nat} {φ : List D → Option D} (F : Own1 P w K mg base j x n φ) (h : j ≤ k) : Own1 P w K mg base k x n φ := by
  obtain ⟨f, fd, ps, G, r⟩ := F.ex
  exact ⟨f, fd, ps, G.mono h, r⟩
theorem Own2.mono {j n : Nat} {φ : D → List D → Option (D × D)} (F : Own2 P w K mg base j x n φ) (h : j ≤ k) : Own2 P w K mg base k x n φ := by
  obtain ⟨f, fd, ps, G, r⟩ := F.ex
  exact ⟨f, fd, ps, G.mono h, r⟩
theorem law_good {m : Sm} {n : Nat} (h : ∀ ns : List Int, ns.length ≤ 63 → runP n [true] m [.fz (ns.map .int)] = some (.bl true)) (K : PySem.W.Frag) (H : Hp) (a : Addr) (ns : List Int) (hl : ns.length ≤ 63) (o : Own K H (.ref a) (.fz (ns.map .int)) No) :
    spP K 1 (runP n [true] m) [.ref a] H (fun v _ => v = .bl true) fun _ _ _ => False :=
  ⟨rfl, [.fz (ns.map .int)], .bl true, ⟨⟨No, o, fun _ _ => trivial⟩, trivial⟩, h ns hl, fun v H' Sv o _ _ => by cases o; rfl⟩
end
end DL
set_option Elab.async false
set_option linter.all false
set_option maxRecDepth 100000
namespace DL
open PySem PySem.Spec PyProof.Rows L2

theorem nr {α : Sort u} {a b : α} (h : a = b) : a = b := h
/-! ### reckoning: what each piece means, as binds -/
section
variable {R : Rc} {Γ : En} {p q r : P} {f g : D → D → Option D} {f1 : D → Option D} {ps : PL} {m n : M} {t u : MB} {b c : PB} {s s' : Sm} {ms : ML} {i : Nat} {φ : List D → Option D} {ψ : D → List D → Option (D × D)}
theorem e_pOp2 : pOp2 f p q R Γ = (p R Γ).bind fun x => (q R Γ).bind fun y => f x y := by
  unfold pOp2; cases p R Γ with
  | none => rfl
  | some x => cases q R Γ <;> rfl
theorem e_pOp1 : pOp1 f1 p R Γ = (p R Γ).bind f1 := by unfold pOp1; cases p R Γ <;> rfl
theorem e_pCall : pCall φ ps R Γ = (ps R Γ).bind φ := by unfold pCall; cases ps R Γ <;> rfl
theorem e_psCons : psCons p ps R Γ = (p R Γ).bind fun d => (ps R Γ).bind fun ds => some (d :: ds) := by
  unfold psCons; cases p R Γ with
  | none => rfl
  | some x => cases ps R Γ <;> rfl
theorem e_pTup : pTup ps R Γ = (ps R Γ).bind fun ds => if ds.length ≤ 100000 then some (.tup ds) else none := by unfold pTup; cases ps R Γ <;> rfl
theorem e_pLst : pLst ps R Γ = (ps R Γ).bind fun ds => if ds.length ≤ 100000 then some (.lst ds) else none := by unfold pLst; cases ps R Γ <;> rfl
theorem e_pImm : pImm p R Γ = (p R Γ).bind fun d => if d.imm = true then some d else none := by unfold pImm; cases p R Γ <;> rfl
theorem e_pTru : pTru p R Γ = (p R Γ).bind truD := by unfold pTru; cases p R Γ <;> rfl
theorem e_pB : pB p R Γ = (p R Γ).bind fun d => blD (some d) := by unfold pB; cases p R Γ <;> rfl
theorem e_blD {z : Bool} : blD (some (.bl z)) = some z := nr rfl
theorem e_bNot : bNot b R Γ = (b R Γ).bind fun z => some (!z) := by unfold bNot; cases b R Γ <;> rfl
theorem e_bAnd : bAnd b c R Γ = (b R Γ).bind fun z => if z = true then c R Γ else some false := by
  unfold bAnd; cases b R Γ with
  | none => rfl
  | some z => cases z <;> rfl
theorem e_bOr : bOr b c R Γ = (b R Γ).bind fun z => if z = true then some true else c R Γ := by
  unfold bOr; cases b R Γ with
  | none => rfl
  | some z => cases z <;> rfl
theorem e_pOfB : pOfB b R Γ = (b R Γ).bind fun z => some (.bl z) := by unfold pOfB; cases b R Γ <;> rfl
theorem e_pIf : pIf b p q R Γ = (b R Γ).bind fun z => if z = true then p R Γ else q R Γ := by
  unfold pIf; cases b R Γ with
  | none => rfl
  | some z => cases z <;> rfl
def chainK (g : D → D → Option D) (y : D) (z : Option D) : D → Option D
  | .bl true => z.bind fun z => g y z
  | .bl false => some (.bl false)
  | _ => none
theorem e_chainK {y : D} {z : Option D} {w : Bool} : chainK g y z (.bl w) = if w = true then z.bind (fun z => g y z) else some (.bl false) := by cases w <;> rfl
theorem e_pChain : pChain f g p q r R Γ = (p R Γ).bind fun x => (q R Γ).bind fun y => (f x y).bind (chainK g y (r R Γ)) := by
  unfold pChain
  cases p R Γ with
  | none => rfl
  | some x => cases q R Γ with
    | none => rfl
    | some y =>
      simp only [Option.bind_some]
      cases f x y with
      | none => rfl
      | some d => cases d with
        | bl w => cases w with
          | true => cases r R Γ <;> rfl
          | false => rfl
        | _ => rfl
theorem e_mP : mP p R Γ = (p R Γ).bind fun d => some (d, Γ) := by unfold mP; cases p R Γ <;> rfl
theorem e_mB : mB b R Γ = (b R Γ).bind fun d => some (d, Γ) := by unfold mB; cases b R Γ <;> rfl
theorem e_mOp2 : mOp2 f m n R Γ = (m R Γ).bind fun x => (n R x.2).bind fun y => (f x.1 y.1).bind fun z => some (z, y.2) := by
  unfold mOp2
  cases m R Γ with
  | none => rfl
  | some x =>
    obtain ⟨x, Γ1⟩ := x
    simp only [Option.bind_some]
    cases n R Γ1 with
    | none => rfl
    | some y =>
      obtain ⟨y, Γ2⟩ := y
      simp only [Option.bind_some]
      cases f x y <;> rfl
theorem e_mOp1 : mOp1 f1 m R Γ = (m R Γ).bind fun x => (f1 x.1).bind fun z => some (z, x.2) := by
  unfold mOp1
  cases m R Γ with
  | none => rfl
  | some x =>
    obtain ⟨x, Γ1⟩ := x
    simp only [Option.bind_some]
    cases f1 x <;> rfl
theorem e_msCons : msCons m ms R Γ = (m R Γ).bind fun x => (ms R x.2).bind fun y => some (x.1 :: y.1, y.2) := by
  unfold msCons
  cases m R Γ with
  | none => rfl
  | some x =>
    obtain ⟨x, Γ1⟩ := x
    simp only [Option.bind_some]
    cases ms R Γ1 <;> rfl
theorem e_msNil : msNil R Γ = some ([], Γ) := nr rfl
theorem e_psNil : psNil R Γ = some [] := nr rfl
theorem e_mTup : mTup ms R Γ = (ms R Γ).bind fun x => if x.1.length ≤ 100000 then some (.tup x.1, x.2) else none := by unfold mTup; cases ms R Γ <;> rfl
theorem e_mLst : mLst ms R Γ = (ms R Γ).bind fun x => if x.1.length ≤ 100000 then some (.lst x.1, x.2) else none := by unfold mLst; cases ms R Γ <;> rfl
theorem e_mCall : mCall φ ms R Γ = (ms R Γ).bind fun x => (φ x.1).bind fun d => some (d, x.2) := by
  unfold mCall
  cases ms R Γ with
  | none => rfl
  | some x =>
    obtain ⟨x, Γ1⟩ := x
    simp only [Option.bind_some]
    cases φ x <;> rfl
theorem e_mTru : mTru m R Γ = (m R Γ).bind fun x => (truD x.1).bind fun z => some (z, x.2) := by
  unfold mTru
  cases m R Γ with
  | none => rfl
  | some x =>
    obtain ⟨x, Γ1⟩ := x
    simp only [Option.bind_some]
    cases truD x <;> rfl
theorem e_mBl : mBl m R Γ = (m R Γ).bind fun x => (blD (some x.1)).bind fun z => some (z, x.2) := by
  unfold mBl
  cases m R Γ with
  | none => rfl
  | some x =>
    obtain ⟨x, Γ1⟩ := x
    cases x <;> rfl
theorem e_mbNot : mbNot t R Γ = (t R Γ).bind fun x => some (!x.1, x.2) := by unfold mbNot; cases t R Γ <;> rfl
theorem e_mbAnd : mbAnd t u R Γ = (t R Γ).bind fun x => if x.1 = true then u R x.2 else some (false, x.2) := by
  unfold mbAnd
  cases t R Γ with
  | none => rfl
  | some x => obtain ⟨x, Γ1⟩ := x; cases x <;> rfl
theorem e_mbOr : mbOr t u R Γ = (t R Γ).bind fun x => if x.1 = true then some (true, x.2) else u R x.2 := by
  unfold mbOr
  cases t R Γ with
  | none => rfl
  | some x => obtain ⟨x, Γ1⟩ := x; cases x <;> rfl
theorem e_mIf : mIf t m n R Γ = (t R Γ).bind fun x => if x.1 = true then m R x.2 else n R x.2 := by
  unfold mIf
  cases t R Γ with
  | none => rfl
  | some x => obtain ⟨x, Γ1⟩ := x; cases x <;> rfl
theorem e_mIfS : mIfS t s s' R Γ = (t R Γ).bind fun x => if x.1 = true then s R x.2 else s' R x.2 := by
  unfold mIfS
  cases t R Γ with
  | none => rfl
  | some x => obtain ⟨x, Γ1⟩ := x; cases x <;> rfl
def Res.on (r : Res) (k : En → Option Res) : Option Res := match r with
  | .nx Γ => k Γ
  | r => some r
theorem e_on1 {k : En → Option Res} : (Res.nx Γ).on k = k Γ := nr rfl
theorem e_on2 {k : En → Option Res} {d : D} : (Res.rt d Γ).on k = some (.rt d Γ) := nr rfl
theorem e_on3 {k : En → Option Res} : (Res.bk Γ).on k = some (.bk Γ) := nr rfl
theorem e_on4 {k : En → Option Res} : (Res.ct Γ).on k = some (.ct Γ) := nr rfl
theorem e_mSeq : mSeq s s' R Γ = (s R Γ).bind fun r => r.on fun Γ1 => s' R Γ1 := by
  unfold mSeq
  cases s R Γ with
  | none => rfl
  | some r => cases r <;> rfl
theorem e_mNext : mNext R Γ = some (.nx Γ) := nr rfl
theorem e_mBreak : mBreak R Γ = some (.bk Γ) := nr rfl
theorem e_mCont : mCont R Γ = some (.ct Γ) := nr rfl
theorem e_mRet : mRet m R Γ = (m R Γ).bind fun x => some (.rt x.1 x.2) := by unfold mRet; cases m R Γ <;> rfl
theorem e_mDrop : mDrop m R Γ = (m R Γ).bind fun x => some (.nx x.2) := by unfold mDrop; cases m R Γ <;> rfl
theorem e_mSet : mSet i m R Γ = if okSet R Γ i = true then (m R Γ).bind fun x => some (.nx (x.2.set i (some x.1))) else none := by
  unfold mSet; split
  · cases m R Γ <;> rfl
  · rfl
theorem e_mAsgT {tg : Tg} : mAsgT tg m R Γ = (m R Γ).bind fun x => (tg x.1 R x.2).bind fun Γ2 => some (.nx Γ2) := by
  unfold mAsgT
  cases m R Γ with
  | none => rfl
  | some x =>
    obtain ⟨x, Γ1⟩ := x
    simp only [Option.bind_some]
    cases tg x R Γ1 <;> rfl
/-- a slot of ours -/
def mine (R : Rc) (Γ : En) (i : Nat) : Option D := match roAt R i with
  | some _ => none
  | none => (Γ[i]?).join
theorem mine_iff {d : D} : mine R Γ i = some d ↔ roAt R i = none ∧ Γ[i]? = some (some d) := by
  unfold mine
  cases roAt R i with
  | some x => simp
  | none =>
    cases Γ[i]? with
    | none => simp
    | some o => cases o <;> simp
def lstD : D → Option (List D)
  | .lst ds => some ds
  | _ => none
theorem e_lstD {ds : List D} : lstD (.lst ds) = some ds := nr rfl
def intD : D → Option Int
  | .int j => some j
  | _ => none
theorem e_intD {j : Int} : intD (.int j) = some j := nr rfl
theorem e_mMove : mMove i R Γ = (mine R Γ i).bind fun d => some (d, Γ.set i none) := by
  unfold mMove mine
  cases roAt R i with
  | some x => rfl
  | none =>
    cases Γ[i]? with
    | none => rfl
    | some o => cases o <;> rfl
theorem e_mCallE {k : Nat} : mCallE k i ψ ps R Γ = (mine R Γ i).bind fun b => (ps R (Γ.set i none)).bind fun ds => if ds.length + 1 = k then (ψ b ds).bind fun x => some (x.1, Γ.set i (some x.2)) else none := by
  unfold mCallE mine
  cases roAt R i with
  | some x => rfl
  | none =>
    cases Γ[i]? with
    | none => rfl
    | some o => cases o with
      | none => rfl
      | some b =>
        show (match ps R (Γ.set i none) with | some ds => _ | none => none) = (ps R (Γ.set i none)).bind _
        cases ps R (Γ.set i none) with
        | none => rfl
        | some ds =>
          simp only [Option.bind_some]
          split
          · cases ψ b ds <;> rfl
          · rfl
theorem e_mAppend : mAppend i m R Γ = ((mine R Γ i).bind lstD).bind fun _ => (m R Γ).bind fun x => ((mine R x.2 i).bind lstD).bind fun ds => if ds.length < 100000 then some (.nx (x.2.set i (some (.lst (ds ++ [x.1]))))) else none := by
  unfold mAppend mine
  cases hr : roAt R i with
  | some x => rfl
  | none =>
    cases Γ[i]? with
    | none => rfl
    | some o => cases o with
      | none => rfl
      | some b => cases b with
        | lst ds0 =>
          show (match m R Γ with | some (d, Γ1) => _ | none => none) = (m R Γ).bind _
          cases m R Γ with
          | none => rfl
          | some x =>
            obtain ⟨d, Γ1⟩ := x
            simp only [Option.bind_some]
            cases Γ1[i]? with
            | none => rfl
            | some o => cases o with
              | none => rfl
              | some b => cases b <;> rfl
        | _ => rfl
theorem e_mSetIx : mSetIx i p m R Γ = (m R Γ).bind fun x => ((p R x.2).bind intD).bind fun j => ((mine R x.2 i).bind lstD).bind fun ds => (ixN ds.length j).bind fun n => some (.nx (x.2.set i (some (.lst (ds.set n x.1))))) := by
  unfold mSetIx mine
  cases m R Γ with
  | none => rfl
  | some x =>
    obtain ⟨d, Γ1⟩ := x
    simp only [Option.bind_some]
    cases p R Γ1 with
    | none => rfl
    | some j => cases j with
      | int j =>
        cases roAt R i with
        | some x => rfl
        | none =>
          simp only [e_intD, Option.bind_some]
          cases Γ1[i]? with
          | none => rfl
          | some o => cases o with
            | none => rfl
            | some b => cases b with
              | lst ds =>
                show (match ixN ds.length j with | some n => _ | none => none) = (ixN ds.length j).bind _
                cases ixN ds.length j <;> rfl
              | _ => rfl
      | _ => rfl
/-! functions at their data -/
theorem f_add {i j : Int} : fAdd (.int i) (.int j) = some (.int (i + j)) := nr rfl
theorem f_adds {i j : Str} : fAdd (.str i) (.str j) = if i.length + j.length ≤ 100000 then some (.str (i ++ j)) else none := nr rfl
theorem f_addl {xs ys : List D} : fAdd (.lst xs) (.lst ys) = if D.immL xs = true ∧ D.immL ys = true ∧ xs.length + ys.length ≤ 100000 then some (.lst (xs ++ ys)) else none := nr rfl
theorem f_addt {xs ys : List D} : fAdd (.tup xs) (.tup ys) = if D.immL xs = true ∧ D.immL ys = true ∧ xs.length + ys.length ≤ 100000 ∧ xs ≠ [] ∧ ys ≠ [] then some (.tup (xs ++ ys)) else none := nr rfl
theorem f_sub {i j : Int} : fSub (.int i) (.int j) = some (.int (i - j)) := nr rfl
theorem f_mul {i j : Int} : fMul (.int i) (.int j) = if mulOk i j = true then some (.int (i * j)) else none := nr rfl
theorem mulOk_r {i j : Int} (h : -1000000 ≤ j) (h2 : j ≤ 1000000) : mulOk i j = true := by unfold mulOk; rw [Bool.or_eq_true]; exact .inr (Nat.ble_eq_true_of_le (by omega))
theorem mulOk_l {i j : Int} (h : -1000000 ≤ i) (h2 : i ≤ 1000000) : mulOk i j = true := by unfold mulOk; rw [Bool.or_eq_true]; exact .inl (Nat.ble_eq_true_of_le (by omega))
theorem f_mod {i j : Int} : fMod (.int i) (.int j) = if 0 < j then some (.int (i % j)) else none := nr rfl
theorem f_div {i j : Int} : fDiv (.int i) (.int j) = if 0 < j ∧ Nat.ble j.natAbs 1073741823 = true then some (.int (i / j)) else none := nr rfl
theorem f_pow {i j : Int} : fPow (.int i) (.int j) = if powOk i j = true then some (.int (i ^ j.toNat)) else none := nr rfl
theorem powOk_of {i j : Int} (h : 0 ≤ i) (h2 : i ≤ 1000000) (h3 : 0 ≤ j) (h4 : j ≤ 1000) : powOk i j = true := by unfold powOk; rw [Bool.and_eq_true, Bool.and_eq_true, decide_eq_true_eq]; exact ⟨h3, Nat.ble_eq_true_of_le (by omega), Nat.ble_eq_true_of_le (by omega)⟩
theorem small_of {i : Int} (h : -1000000 ≤ i) (h2 : i ≤ 1000000) : small i = true := Nat.ble_eq_true_of_le (by omega)
theorem divOk_of {j : Int} (h : 0 < j) (h2 : j ≤ 1000000) : Nat.ble j.natAbs 1073741823 = true := Nat.ble_eq_true_of_le (by omega)
theorem f_neg {i : Int} : fNeg (.int i) = some (.int (-i)) := nr rfl
theorem f_eqi {i j : Int} : fEq (.int i) (.int j) = some (.bl (decide (i = j))) := nr rfl
theorem f_eqs {i j : Str} : fEq (.str i) (.str j) = some (.bl (decide (i = j))) := nr rfl
theorem f_eqb {i j : Bool} : fEq (.bl i) (.bl j) = some (.bl (decide (i = j))) := nr rfl
theorem f_nei {i j : Int} : fNe (.int i) (.int j) = some (.bl (!decide (i = j))) := nr rfl
theorem f_nes {i j : Str} : fNe (.str i) (.str j) = some (.bl (!decide (i = j))) := nr rfl
theorem f_neb {i j : Bool} : fNe (.bl i) (.bl j) = some (.bl (!decide (i = j))) := nr rfl
theorem f_lt {i j : Int} : fLt (.int i) (.int j) = some (.bl (decide (i < j))) := nr rfl
theorem f_le {i j : Int} : fLe (.int i) (.int j) = some (.bl (decide (i ≤ j))) := nr rfl
theorem f_gt {i j : Int} : fGt (.int i) (.int j) = some (.bl (decide (j < i))) := nr rfl
theorem f_ge {i j : Int} : fGe (.int i) (.int j) = some (.bl (decide (j ≤ i))) := nr rfl
theorem f_inl {x : D} {ds : List D} : fIn x (.lst ds) = if flatD x = true ∧ ds.all flatD = true then some (.bl (inD x ds)) else none := by
  show (if flatD x = true ∧ ds.all flatD = true then some (inD x ds) else none).map bD = _
  split <;> rfl
theorem f_nil {x : D} {ds : List D} : fNotIn x (.lst ds) = if flatD x = true ∧ ds.all flatD = true then some (.bl (!inD x ds)) else none := by
  show (if flatD x = true ∧ ds.all flatD = true then some (inD x ds) else none).map (fun b => bD (!b)) = _
  split <;> rfl
theorem f_lens {z : Str} : φLen [.str z] = if z.length ≤ 100000 then some (.int (z.length : Int)) else none := nr rfl
theorem f_lent {ds : List D} : φLen [.tup ds] = some (.int (ds.length : Int)) := nr rfl
theorem f_lenl {ds : List D} : φLen [.lst ds] = some (.int (ds.length : Int)) := nr rfl
theorem f_lenf {ds : List D} : φLen [.fz ds] = some (.int (ds.length : Int)) := nr rfl
theorem f_int {i : Int} : φInt [.int i] = some (.int i) := nr rfl
theorem f_intb {b : Bool} : φInt [.bl b] = some (.int (if b = true then 1 else 0)) := nr rfl
theorem f_isint {i : Int} : fIsInt (.int i) = some (.bl true) := nr rfl
theorem f_trub {b : Bool} : truD (.bl b) = some b := nr rfl
theorem f_trui {i : Int} : truD (.int i) = some (i != 0) := nr rfl
theorem f_trul {ds : List D} : truD (.lst ds) = some (!ds.isEmpty) := nr rfl
theorem f_trut {ds : List D} : truD (.tup ds) = some (!ds.isEmpty) := nr rfl
theorem f_ixl {ds : List D} {i : Int} : ixD (.lst ds) (.int i) = atI ds i := nr rfl
theorem f_ixt {ds : List D} {i : Int} : ixD (.tup ds) (.int i) = atI ds i := nr rfl
theorem f_ixf {ds : List D} {i : Int} : ixD (.fz ds) (.int i) = atI ds i := nr rfl
theorem f_ari {k : Nat} {ds : List D} : arity k φ ds = if ds.length = k then φ ds else none := nr rfl
theorem imm_non : D.imm .non = true := nr rfl
theorem imm_bl {b : Bool} : D.imm (.bl b) = true := nr rfl
theorem imm_int {i : Int} : D.imm (.int i) = true := nr rfl
theorem imm_str {z : Str} : D.imm (.str z) = true := nr rfl
theorem imm_tup {ds : List D} : D.imm (.tup ds) = D.immL ds := nr rfl
theorem imm_lst {ds : List D} : D.imm (.lst ds) = false := nr rfl
theorem imm_fz {ds : List D} : D.imm (.fz ds) = D.immL ds := nr rfl
theorem immL_nil : D.immL [] = true := nr rfl
theorem immL_cons {d : D} {ds : List D} : D.immL (d :: ds) = (d.imm && D.immL ds) := nr rfl
theorem immL_ints {xs : List Int} : D.immL (xs.map .int) = true := by rw [immL_all]; simp [imm_int]
theorem at_nat {α : Type} {xs : List α} {k : Nat} : atI xs (k : Int) = xs[k]? := by
  unfold atI ixN
  by_cases h : k < xs.length
  · simp [h]
  · simp [h, List.getElem?_eq_none (Nat.le_of_not_lt h)]
theorem at0 {α : Type} {xs : List α} : atI xs 0 = xs[0]? := at_nat (k := 0)
theorem at1 {α : Type} {xs : List α} : atI xs 1 = xs[1]? := at_nat (k := 1)
theorem at2 {α : Type} {xs : List α} : atI xs 2 = xs[2]? := at_nat (k := 2)
theorem at3 {α : Type} {xs : List α} : atI xs 3 = xs[3]? := at_nat (k := 3)
theorem at4 {α : Type} {xs : List α} : atI xs 4 = xs[4]? := at_nat (k := 4)
theorem at5 {α : Type} {xs : List α} : atI xs 5 = xs[5]? := at_nat (k := 5)
theorem at_of {α : Type} {xs : List α} {i : Int} {k : Nat} (h : i = (k : Int)) : atI xs i = xs[k]? := by rw [h]; exact at_nat
theorem ixN0 {n : Nat} : ixN n 0 = if 0 < n then some 0 else none := by unfold ixN; simp
theorem ixN1 {n : Nat} : ixN n 1 = if 1 < n then some 1 else none := by unfold ixN; simp; split <;> split <;> first | rfl | omega
theorem ixN2 {n : Nat} : ixN n 2 = if 2 < n then some 2 else none := by unfold ixN; simp; split <;> split <;> first | rfl | omega
end
theorem e_pPairs_nil {R : Rc} {Γ : En} : pPairs [] R Γ = some ([], []) := nr rfl
theorem e_pPairs {R : Rc} {Γ : En} {p q : P} {r : List (P × P)} : pPairs ((p, q) :: r) R Γ = ((p R Γ).bind keyD).bind fun k => (q R Γ).bind fun d => (pPairs r R Γ).bind fun x => some (k :: x.1, d :: x.2) := by
  have h : pPairs ((p, q) :: r) R Γ = match p R Γ with
    | some x => match keyD x with
      | some k => match q R Γ with
        | some d => match pPairs r R Γ with
          | some (ks, ds) => some (k :: ks, d :: ds)
          | none => none
        | none => none
      | none => none
    | none => none := rfl
  rw [h]
  generalize pPairs r R Γ = y
  cases p R Γ with
  | none => rfl
  | some x =>
    simp only [Option.bind_some]
    cases keyD x with
    | none => rfl
    | some k =>
      simp only [Option.bind_some]
      cases q R Γ with
      | none => rfl
      | some d => cases y <;> rfl
theorem e_pDct {R : Rc} {Γ : En} {r : List (P × P)} : pDct r R Γ = (pPairs r R Γ).bind fun x => if x.1.Nodup ∧ x.1.length ≤ 15 then some (.dct x.1 x.2) else none := by unfold pDct; cases pPairs r R Γ <;> rfl
theorem f_key {z : Str} : keyD (.str z) = some (.inr z) := nr rfl
theorem f_keyi {z : Int} : keyD (.int z) = some (.inl z) := nr rfl
theorem f_get {ks : List Key} {ds : List D} {z : Str} : fGet (.dct ks ds) (.str z) = getK ks ds (.inr z) := nr rfl
theorem f_geti {ks : List Key} {ds : List D} {z : Int} : fGet (.dct ks ds) (.int z) = getK ks ds (.inl z) := nr rfl
theorem f_getK {k j : Key} {ks : List Key} {d : D} {ds : List D} : getK (k :: ks) (d :: ds) j = if k = j then some d else getK ks ds j := nr rfl
theorem f_repr {d : D} (h : reprOk d = true) : φRepr [d] = some (.str d.py.shown) := if_pos h
theorem reprOk_int {i : Int} (h : i.natAbs.log2 < 1920) : reprOk (.int i) = true := by
  unfold reprOk
  have h1 : (D.int i).py.shown.length ≤ 100000 := by
    simp only [D.py, PyData.shown]
    exact Nat.le_trans (int_text_len_1921 h) (by decide)
  simp only [Bool.and_eq_true, decide_eq_true_eq, Bool.not_eq_true']
  refine ⟨⟨⟨⟨rfl, ?_⟩, ?_⟩, ?_⟩, h1⟩
  · simpa [D.py, PyData.showable] using h
  · simp [D.py, PyData.depth]
  · simp [D.py, PyData.hasDict]
theorem log_of {i : Int} (h : -1000000000 ≤ i) (h2 : i ≤ 1000000000) : i.natAbs.log2 < 1920 := by
  by_cases q : i.natAbs = 0
  · rw [q]; decide
  · have h3 : i.natAbs < 2 ^ 31 := by omega
    have := (Nat.log2_lt q).mpr h3
    omega
theorem str_inj {a b : String} : (Str.ofString a = Str.ofString b) ↔ a = b := by
  refine ⟨fun h => ?_, fun h => by rw [h]⟩
  rw [Str.ofString_eq_toList, Str.ofString_eq_toList] at h
  have h1 : a.toList.map Char.toNat = b.toList.map Char.toNat := by simpa using congrArg (fun z : Str => z.cps.toList) h
  have inj : ∀ (xs ys : List Char), xs.map Char.toNat = ys.map Char.toNat → xs = ys := by
    intro xs
    induction xs with
    | nil => intro ys e; cases ys with
      | nil => rfl
      | cons => simp at e
    | cons c xs ih => intro ys e; cases ys with
      | nil => simp at e
      | cons d ys =>
        simp at e
        rw [ih ys (by simpa using e.2), Char.toNat_inj.mp e.1]
  exact String.toList_inj.mp (inj _ _ h1)
theorem e_compGo {f : D → Option (Option D)} {d : D} {ds : List D} : compGo f (d :: ds) = (f d).bind fun o => (compGo f ds).bind fun r => some (match o with | some y => y :: r | none => r) := by
  have h : compGo f (d :: ds) = match f d with
    | some (some y) => match compGo f ds with
      | some r => some (y :: r)
      | none => none
    | some none => compGo f ds
    | none => none := rfl
  rw [h]
  cases f d with
  | none => rfl
  | some o => cases o with
    | none => cases compGo f ds <;> rfl
    | some y => cases compGo f ds <;> rfl
theorem e_compGo0 {f : D → Option (Option D)} : compGo f [] = some [] := nr rfl
theorem e_compF {t : TgR} {pb : PB} {pe : P} {R0 : Rc} {N : En} {d : D} : compF t pb pe R0 N d = (t d R0).bind fun R' => (pb R' N).bind fun b => if b = true then (pe R' N).bind fun y => some (some y) else some none := by
  unfold compF
  cases t d R0 with
  | none => rfl
  | some R' =>
    simp only [Option.bind_some]
    cases pb R' N with
    | none => rfl
    | some b => cases b with
      | true => cases pe R' N <;> rfl
      | false => rfl
theorem e_pComp {vs : List Nat} {pit : Pit} {t : TgR} {pb : PB} {pe : P} {R : Rc} {Γ : En} : pComp vs pit t pb pe R Γ = if R.ro.length = Γ.length then (pit R Γ).bind fun ds => (compGo (compF t pb pe (allRo vs R Γ) (nones Γ)) ds).bind fun r => if r.length ≤ 100000 then some (.lst r) else none else none := by
  unfold pComp
  split
  · cases pit R Γ with
    | none => rfl
    | some ds =>
      simp only [Option.bind_some]
      cases compGo (compF t pb pe (allRo vs R Γ) (nones Γ)) ds <;> rfl
  · rfl
theorem e_trTup {n : Nat} {t : TgRs} {ds : List D} {R : Rc} : trTup n t (.tup ds) R = if ds.length = n then t ds R else none := nr rfl
theorem e_trCons {t : TgR} {u : TgRs} {d : D} {ds : List D} {R : Rc} : trCons t u (d :: ds) R = (t d R).bind fun R1 => u ds R1 := by
  have h : trCons t u (d :: ds) R = match t d R with | some R1 => u ds R1 | none => none := rfl
  rw [h]; cases t d R <;> rfl
theorem e_trNil {R : Rc} : trNil [] R = some R := nr rfl
theorem e_trName {i : Nat} {d : D} {R : Rc} : trName i d R = if i < R.ro.length then some ⟨R.ro.set i (some d), []⟩ else none := nr rfl
/-- a reckoned truth -/
def isB (o : Option D) (b : Bool) : Bool := match o with
  | some (.bl c) => c == b
  | _ => false
theorem isB_eq {o : Option D} {b : Bool} (h : isB o b = true) : o = some (.bl b) := by
  unfold isB at h
  split at h
  · next c => rw [eq_of_beq h]
  · cases h
/-! loops -/
theorem exFor_nil {t : Tg} {m : Sm} {R : Rc} {Γ : En} : exFor t m R [] Γ = some (.nx Γ) := nr rfl
theorem exFor_cons {t : Tg} {m : Sm} {R : Rc} {d : D} {ds : List D} {Γ Γ1 Γ2 : En} (h1 : t d R Γ = some Γ1) (h2 : m R Γ1 = some (.nx Γ2)) : exFor t m R (d :: ds) Γ = exFor t m R ds Γ2 := by
  show (match t d R Γ with | some Γ1 => (match m R Γ1 with | some (.nx Γ2) => exFor t m R ds Γ2 | some (.ct Γ2) => exFor t m R ds Γ2 | some (.bk Γ2) => some (.nx Γ2) | some (.rt d Γ2) => some (.rt d Γ2) | none => none) | none => none) = _
  rw [h1]; simp only; rw [h2]
/-- an invariant, item by item -/
theorem exFor_inv {t : Tg} {m : Sm} {R : Rc} (I : List D → En → Prop) : ∀ (ds done : List D) {Γ : En}, I done Γ → (∀ done d Γ, d ∈ ds → I done Γ → ∃ Γ1 Γ2, t d R Γ = some Γ1 ∧ (m R Γ1 = some (.nx Γ2) ∨ m R Γ1 = some (.ct Γ2)) ∧ I (done ++ [d]) Γ2) →
    ∃ Γ', exFor t m R ds Γ = some (.nx Γ') ∧ I (done ++ ds) Γ'
  | [], done, Γ, h, _ => ⟨Γ, rfl, by rw [List.append_nil]; exact h⟩
  | d :: ds, done, Γ, h, st => by
    obtain ⟨Γ1, Γ2, h1, h2, h3⟩ := st done d Γ List.mem_cons_self h
    obtain ⟨Γ', e, i⟩ := exFor_inv I ds (done ++ [d]) h3 fun done' d' Γ hd h => st done' d' Γ (List.mem_cons_of_mem _ hd) h
    refine ⟨Γ', ?_, by rw [List.append_assoc] at i; exact i⟩
    show (match t d R Γ with | some Γ1 => (match m R Γ1 with | some (.nx Γ2) => exFor t m R ds Γ2 | some (.ct Γ2) => exFor t m R ds Γ2 | some (.bk Γ2) => some (.nx Γ2) | some (.rt d Γ2) => some (.rt d Γ2) | none => none) | none => none) = _
    rw [h1]
    simp only
    rcases h2 with h2 | h2 <;> rw [h2] <;> exact e
/-- .. knowing how far it is -/
theorem exFor_all {t : Tg} {m : Sm} {R : Rc} (I : List D → En → Prop) (all : List D) {Γ : En} (h0 : I [] Γ) (st : ∀ done d rest Γ, all = done ++ d :: rest → I done Γ → ∃ Γ1 Γ2, t d R Γ = some Γ1 ∧ (m R Γ1 = some (.nx Γ2) ∨ m R Γ1 = some (.ct Γ2)) ∧ I (done ++ [d]) Γ2) :
    ∃ Γ', exFor t m R all Γ = some (.nx Γ') ∧ I all Γ' := by
  have go : ∀ (ds done : List D) (Γ : En), all = done ++ ds → I done Γ → ∃ Γ', exFor t m R ds Γ = some (.nx Γ') ∧ I all Γ' := by
    intro ds
    induction ds with
    | nil => intro done Γ e h; exact ⟨Γ, rfl, by rw [e, List.append_nil]; exact h⟩
    | cons d ds ih =>
      intro done Γ e h
      obtain ⟨Γ1, Γ2, h1, h2, h3⟩ := st done d ds Γ e h
      obtain ⟨Γ', e', i⟩ := ih (done ++ [d]) Γ2 (by rw [e, List.append_assoc]; rfl) h3
      refine ⟨Γ', ?_, i⟩
      show (match t d R Γ with | some Γ1 => (match m R Γ1 with | some (.nx Γ2) => exFor t m R ds Γ2 | some (.ct Γ2) => exFor t m R ds Γ2 | some (.bk Γ2) => some (.nx Γ2) | some (.rt d Γ2) => some (.rt d Γ2) | none => none) | none => none) = _
      rw [h1]
      simp only
      rcases h2 with h2 | h2 <;> rw [h2] <;> exact e'
  exact go all [] Γ rfl h0
theorem rng_length {lo : Int} {n : Nat} : (rng lo n).length = n := by simp [rng]
theorem rng_mid {lo : Int} {n : Nat} {done rest : List D} {d : D} (h : rng lo n = done ++ d :: rest) : d = .int (lo + (done.length : Nat)) ∧ done.length < n := by
  have h1 : (rng lo n)[done.length]? = some d := by rw [h]; simp
  have hl : done.length < n := by
    have := congrArg List.length h
    rw [rng_length] at this
    simp at this
    omega
  unfold rng at h1
  rw [List.getElem?_map, List.getElem?_range hl] at h1
  cases h1
  exact ⟨rfl, hl⟩
theorem e_mFor {pit : Pit} {t : Tg} {m : Sm} {R : Rc} {Γ : En} : mFor pit t m R Γ = (pit R (hideI Γ)).bind fun ds => exFor t m R ds Γ := by unfold mFor; cases pit R (hideI Γ) <;> rfl
theorem e_pSeq {p : P} {R : Rc} {Γ : En} : pSeq p R Γ = (p R Γ).bind seqD := by unfold pSeq; cases p R Γ <;> rfl
theorem e_pRng1 {p : P} {R : Rc} {Γ : En} : pRng1 p R Γ = ((p R Γ).bind intD).bind fun j => if small j = true then some (rng 0 j.toNat) else none := by
  unfold pRng1
  cases p R Γ with
  | none => rfl
  | some d => cases d <;> rfl
theorem e_pRng2 {p q : P} {R : Rc} {Γ : En} : pRng2 p q R Γ = ((p R Γ).bind intD).bind fun i => ((q R Γ).bind intD).bind fun j => if small i = true ∧ small j = true then some (rng i (j - i).toNat) else none := by
  unfold pRng2
  cases p R Γ with
  | none => rfl
  | some d => cases d with
    | int i => cases q R Γ with
      | none => rfl
      | some e => cases e <;> rfl
    | _ => cases q R Γ <;> rfl
theorem mem_rng {lo : Int} {n : Nat} {d : D} : d ∈ rng lo n ↔ ∃ k, k < n ∧ d = .int (lo + (k : Nat)) := by
  unfold rng
  simp only [List.mem_map, List.mem_range]
  exact ⟨fun ⟨k, h, e⟩ => ⟨k, h, e.symm⟩, fun ⟨k, h, e⟩ => ⟨k, h, e.symm⟩⟩
end DL
set_option Elab.async false
set_option linter.all false
set_option maxRecDepth 100000
set_option maxHeartbeats 4000000
namespace K00
open PySem PySem.Spec PyProof.Rows L2 DL
def topS (i : Nat) : Stmt := PySem.Challenge.pw_stopsheld_k00_words_exact.main.body.getD i (.Pass ⟨0, 0, 0, 0⟩)
abbrev s_wrap : Stmt := topS 6
theorem sc_wrap : FnScope ["integer"] ["integer"] (defScope s_wrap) := ⟨rfl, rfl, rfl, by decide +kernel, rfl, by decide +kernel, by decide +kernel⟩
def m_wrap  : Sm := (mRet (mP (pOp2 fSub (pOp2 fMod (pOp2 fAdd (pName 0) (pC (.int (32768)))) (pC (.int (65536)))) (pC (.int (32768))))))
theorem ok_wrap {P : Program} {w : World} {K : PySem.W.Frag} {mg : Str → Option Value} {base : Heap} {f : Addr} {fd : FuncData} {t_WORDS_BELOW_ZERO : Tok} (k_WORDS_BELOW_ZERO : mg "WORDS_BELOW_ZERO" = some (.int (32768) t_WORDS_BELOW_ZERO)) {t_WORDS_IN_ALL : Tok} (k_WORDS_IN_ALL : mg "WORDS_IN_ALL" = some (.int (65536) t_WORDS_IN_ALL))  (F : Fun K "wrap" "wrap" s_wrap f fd) :
    FnG P w K mg base 1 f fd ["integer"] (spP K 1 (runP 1 [true] m_wrap)) := fn_pure [true] F sc_wrap fun cdv A fr z H E hgd hr =>
    (sq_one (s_ret (m_of (v_op o_sub (v_op o_mod (v_op o_add (v_name 0) (v_globI k_WORDS_BELOW_ZERO)) (v_globI k_WORDS_IN_ALL)) (v_globI k_WORDS_BELOW_ZERO)))))
abbrev s_operate : Stmt := topS 7
theorem sc_operate : FnScope ["operation", "a", "b"] ["operation", "a", "b"] (defScope s_operate) := ⟨rfl, rfl, rfl, by decide +kernel, rfl, by decide +kernel, by decide +kernel⟩
def m_operate (φ_wrap : List D → Option D) : Sm := (mSeq (mIfS (mB (pB (pOp2 fEq (pName 0) (pC (.str "add")))))
    (mRet (mP (pCall (arity 1 φ_wrap) (psCons (pOp2 fAdd (pName 1) (pName 2)) psNil))))
    mNext)
    (mSeq (mIfS (mB (pB (pOp2 fEq (pName 0) (pC (.str "sub")))))
    (mRet (mP (pCall (arity 1 φ_wrap) (psCons (pOp2 fSub (pName 1) (pName 2)) psNil))))
    mNext)
    (mSeq (mIfS (mB (pB (pOp2 fEq (pName 0) (pC (.str "mul")))))
    (mRet (mP (pCall (arity 1 φ_wrap) (psCons (pOp2 fMul (pName 1) (pName 2)) psNil))))
    mNext)
    (mSeq (mIfS (mB (pB (pOp2 fEq (pName 0) (pC (.str "less")))))
    (mRet (mP (pIf (pB (pOp2 fLt (pName 1) (pName 2))) (pC (.int 1)) (pC (.int 0)))))
    mNext)
    (mRet (mP (pIf (pB (pOp2 fEq (pName 1) (pName 2))) (pC (.int 1)) (pC (.int 0)))))))))
theorem ok_operate {P : Program} {w : World} {K : PySem.W.Frag} {mg : Str → Option Value} {base : Heap} {f : Addr} {fd : FuncData}  {φ_wrap : List D → Option D} (F_wrap : Own1 P w K mg base 1 "wrap" 1 φ_wrap) (F : Fun K "operate" "operate" s_operate f fd) :
    FnG P w K mg base 2 f fd ["operation", "a", "b"] (spP K 3 (runP 3 [true, true, true] (m_operate φ_wrap))) := fn_pure [true, true, true] F sc_operate fun cdv A fr z H E hgd hr =>
    (sq_cons (s_if (mt_of (vt_cmp o_eq (v_name 0) v_str))
    (sq_one (s_ret (m_of (v_own F_wrap hgd (hr.mono (by decide)) (va_cons (v_op o_add (v_name 1) (v_name 2)) va_nil)))))
    sq_nil)
    (sq_cons (s_if (mt_of (vt_cmp o_eq (v_name 0) v_str))
    (sq_one (s_ret (m_of (v_own F_wrap hgd (hr.mono (by decide)) (va_cons (v_op o_sub (v_name 1) (v_name 2)) va_nil)))))
    sq_nil)
    (sq_cons (s_if (mt_of (vt_cmp o_eq (v_name 0) v_str))
    (sq_one (s_ret (m_of (v_own F_wrap hgd (hr.mono (by decide)) (va_cons (v_op o_mul (v_name 1) (v_name 2)) va_nil)))))
    sq_nil)
    (sq_cons (s_if (mt_of (vt_cmp o_eq (v_name 0) v_str))
    (sq_one (s_ret (m_of (v_if (vt_cmp o_lt (v_name 1) (v_name 2)) v_int v_int))))
    sq_nil)
    (sq_one (s_ret (m_of (v_if (vt_cmp o_eq (v_name 1) (v_name 2)) v_int v_int))))))))
abbrev s_is_name : Stmt := topS 8
theorem sc_is_name : FnScope ["text", "sign"] ["text"] (defScope s_is_name) := ⟨rfl, rfl, rfl, by decide +kernel, rfl, by decide +kernel, by decide +kernel⟩
def m_is_name  : Sm := (mSeq (mIfS (mB (bOr (bNot (pB (pChain fLe fLe (pC (.int 1)) (pCall φLen (psCons (pName 0) psNil)) (pC (.int (6)))))) (pB (pOp2 fEq (pName 0) (pC (.str "else"))))))
    (mRet (mP (pC (.bl false))))
    mNext)
    (mRet (mP (pOfB (bAnd (pB (pOp2 fIn (pOp2 ixD (pName 0) (pC (.int 0))) (pC (.str "abcdefghijklmnopqrstuvwxyz")))) (pB (pCall φAll (psCons (pComp [1] (pSeq (pName 0)) (trName 1) (fun _ _ => some true) (pOfB (bOr (pB (pOp2 fIn (pName 1) (pC (.str "abcdefghijklmnopqrstuvwxyz")))) (pB (pOp2 fIn (pName 1) (pC (.str "0123456789"))))))) psNil))))))))
theorem ok_is_name {P : Program} {w : World} {K : PySem.W.Frag} {mg : Str → Option Value} {base : Heap} {f : Addr} {fd : FuncData} (g_len : mg "len" = none) {t_LONGEST_NAME : Tok} (k_LONGEST_NAME : mg "LONGEST_NAME" = some (.int (6) t_LONGEST_NAME)) {t_LETTERS : Tok} (k_LETTERS : mg "LETTERS" = some (.str "abcdefghijklmnopqrstuvwxyz" t_LETTERS)) {t_DIGITS : Tok} (k_DIGITS : mg "DIGITS" = some (.str "0123456789" t_DIGITS)) (g_all : mg "all" = none)  (F : Fun K "is_name" "is_name" s_is_name f fd) :
    FnG P w K mg base 1 f fd ["text"] (spP K 1 (runP 2 [true] m_is_name)) := fn_pure [true] F sc_is_name fun cdv A fr z H E hgd hr =>
    (sq_cons (s_if (mt_of (vt_w (vw_or (vt_not (vt_chain o_le o_le v_int (v_callB c_len g_len (by decide +kernel) (va_cons (v_name 0) va_nil)) (v_globI k_LONGEST_NAME))) (vw_or1 (vt_cmp o_eq (v_name 0) v_str)))))
    (sq_one (s_ret (m_of v_bl)))
    sq_nil)
    (sq_one (s_ret (m_of (v_and (v_ofB (v_cmp o_in (v_ix (v_name 0) v_int) (v_globS k_LETTERS))) (v_one (v_ofB (v_callB (c_all rfl) g_all (by decide +kernel) (va_cons (v_comp (own := [("sign", 1)]) rfl sc_is_name.nd (i_seq (v_name 0)) (blkOk_by (own := [("sign", 1)]) (N := ["text", "sign"]) (sc := defScope s_is_name) (by decide +kernel)) (by decide) (fun _ _ _ _ _ => (gr_name (i := 1) sc_is_name.nd)) (fun _ _ _ _ _ => ts_nil) (fun _ _ _ _ _ => (v_or (v_ofB (v_cmp o_in (v_name 1) (v_globS k_LETTERS))) (v_one (v_ofB (v_cmp o_in (v_name 1) (v_globS k_DIGITS))))))) va_nil)))))))))
abbrev s__law_cell : Stmt := topS 11
theorem sc__law_cell : FnScope ["script", "k"] ["script", "k"] (defScope s__law_cell) := ⟨rfl, rfl, rfl, by decide +kernel, rfl, by decide +kernel, by decide +kernel⟩
def m__law_cell  : Sm := (mSeq (mIfS (mB (pB (pOp2 fLt (pName 1) (pCall φLen (psCons (pName 0) psNil)))))
    (mRet (mP (pImm (pOp2 ixD (pName 0) (pName 1)))))
    mNext)
    (mRet (mP (pC (.int 0)))))
theorem ok__law_cell {P : Program} {w : World} {K : PySem.W.Frag} {mg : Str → Option Value} {base : Heap} {f : Addr} {fd : FuncData} (g_len : mg "len" = none)  (F : Fun K "_law_cell" "_law_cell" s__law_cell f fd) :
    FnG P w K mg base 1 f fd ["script", "k"] (spP K 2 (runP 2 [true, true] m__law_cell)) := fn_pure [true, true] F sc__law_cell fun cdv A fr z H E hgd hr =>
    (sq_cons (s_if (mt_of (vt_cmp o_lt (v_name 1) (v_callB c_len g_len (by decide +kernel) (va_cons (v_name 0) va_nil))))
    (sq_one (s_ret (m_of (v_imm (v_ix (v_name 0) (v_name 1))))))
    sq_nil)
    (sq_one (s_ret (m_of v_int))))
abbrev s__law_same : Stmt := topS 13
theorem sc__law_same : FnScope ["actual", "due"] ["actual", "due"] (defScope s__law_same) := ⟨rfl, rfl, rfl, by decide +kernel, rfl, by decide +kernel, by decide +kernel⟩
def m__law_same  : Sm := (mRet (mP (pOp2 fEq (pCall φRepr (psCons (pName 0) psNil)) (pCall φRepr (psCons (pName 1) psNil)))))
theorem ok__law_same {P : Program} {w : World} {K : PySem.W.Frag} {mg : Str → Option Value} {base : Heap} {f : Addr} {fd : FuncData} (g_repr : mg "repr" = none)  (F : Fun K "_law_same" "_law_same" s__law_same f fd) :
    FnG P w K mg base 1 f fd ["actual", "due"] (spP K 2 (runP 2 [true, true] m__law_same)) := fn_pure [true, true] F sc__law_same fun cdv A fr z H E hgd hr =>
    (sq_one (s_ret (m_of (v_cmp o_eq (v_callB (c_repr hgd hr) g_repr (by decide +kernel) (va_cons (v_name 0) va_nil)) (v_callB (c_repr hgd hr) g_repr (by decide +kernel) (va_cons (v_name 1) va_nil))))))
abbrev s__law_digits : Stmt := topS 14
theorem sc__law_digits : FnScope ["script", "first", "last", "digits", "k", "cell", "turn", "seed"] ["script", "first", "last"] (defScope s__law_digits) := ⟨rfl, rfl, rfl, by decide +kernel, rfl, by decide +kernel, by decide +kernel⟩
def m__law_digits (φ__law_cell : List D → Option D) : Sm := (mSeq (mSet 3 (mP (pLst psNil)))
    (mSeq (mFor (pRng2 (pName 1) (pName 2)) (tgName 4)
    (mSeq (mSet 5 (mP (pCall (arity 2 φ__law_cell) (psCons (pName 0) (psCons (pName 4) psNil)))))
    (mSeq (mIfS (mB (pB (pOp2 fLt (pName 5) (pC (.int 0)))))
    (mSet 5 (mP (pOp2 fSub (pC (.int 1)) (pOp2 fMul (pC (.int 2)) (pName 5)))))
    mNext)
    (mIfS (mB (pB (pOp2 fGe (pName 5) (pOp2 fPow (pC (.int 10)) (pC (.int 18))))))
    (mFor (pRng1 (pC (.int 60))) (tgName 6)
    (mIfS (mB (pB (pOp2 fGt (pName 5) (pC (.int 0)))))
    (mSeq (mAppend 3 (mP (pOp2 fMod (pCall φInt (psCons (pName 5) psNil)) (pC (.int 1000)))))
    (mSet 5 (mP (pOp2 fDiv (pName 5) (pC (.int 1000))))))
    mNext))
    (mSeq (mSet 7 (mP (pOp2 fMod (pCall φInt (psCons (pOp2 fAdd (pOp2 fAdd (pOp2 fMul (pName 5) (pC (.int 48271))) (pOp2 fMul (pName 4) (pC (.int 69621)))) (pC (.int 11))) psNil)) (pC (.int 2147483647)))))
    (mFor (pRng1 (pC (.int 12))) (tgName 6)
    (mSeq (mSet 7 (mP (pOp2 fMod (pCall φInt (psCons (pOp2 fAdd (pOp2 fAdd (pOp2 fMul (pName 7) (pC (.int 16807))) (pOp2 fMul (pC (.int 7)) (pName 6))) (pC (.int 1))) psNil)) (pC (.int 2147483647)))))
    (mAppend 3 (mP (pOp2 fMod (pCall φInt (psCons (pOp2 fDiv (pName 7) (pC (.int 997))) psNil)) (pC (.int 1000))))))))))))
    (mRet (mMove 3))))
theorem ok__law_digits {P : Program} {w : World} {K : PySem.W.Frag} {mg : Str → Option Value} {base : Heap} {f : Addr} {fd : FuncData} (g_range : mg "range" = none) (g_int : mg "int" = none) {φ__law_cell : List D → Option D} (F__law_cell : Own1 P w K mg base 1 "_law_cell" 2 φ__law_cell) (F : Fun K "_law_digits" "_law_digits" s__law_digits f fd) :
    FnG P w K mg base 2 f fd ["script", "first", "last"] (spP K 3 (runP 8 [true, true, true] (m__law_digits φ__law_cell))) := fn_pure [true, true, true] F sc__law_digits fun cdv A fr z H E hgd hr =>
    (sq_cons (s_set (i := 3) sc__law_digits.nd (m_of (v_lst fa_nil)))
    (sq_cons (s_for PassesOwn.never rfl (i_rng2 g_range (v_name 1) (v_name 2)) (g_name (i := 4) sc__law_digits.nd)
    (sq_cons (s_set (i := 5) sc__law_digits.nd (m_of (v_own F__law_cell hgd (hr.mono (by decide)) (va_cons (v_name 0) (va_cons (v_name 4) va_nil)))))
    (sq_cons (s_if (mt_of (vt_cmp o_lt (v_name 5) v_int))
    (sq_one (s_set (i := 5) sc__law_digits.nd (m_of (v_op o_sub v_int (v_op o_mul v_int (v_name 5))))))
    sq_nil)
    (sq_one (s_if (mt_of (vt_cmp o_ge (v_name 5) (v_op o_pow v_int v_int)))
    (sq_one (s_for PassesOwn.never rfl (i_rng1 g_range v_int) (g_name (i := 6) sc__law_digits.nd)
    (sq_one (s_if (mt_of (vt_cmp o_gt (v_name 5) v_int))
    (sq_cons (s_append 3 (m_of (v_op o_mod (v_callT c_int g_int (by decide +kernel) (va_cons (v_name 5) va_nil)) v_int)))
    (sq_one (s_set (i := 5) sc__law_digits.nd (m_of (v_op o_div (v_name 5) v_int)))))
    sq_nil))))
    (sq_cons (s_set (i := 7) sc__law_digits.nd (m_of (v_op o_mod (v_callT c_int g_int (by decide +kernel) (va_cons (v_op o_add (v_op o_add (v_op o_mul (v_name 5) v_int) (v_op o_mul (v_name 4) v_int)) v_int) va_nil)) v_int)))
    (sq_one (s_for PassesOwn.never rfl (i_rng1 g_range v_int) (g_name (i := 6) sc__law_digits.nd)
    (sq_cons (s_set (i := 7) sc__law_digits.nd (m_of (v_op o_mod (v_callT c_int g_int (by decide +kernel) (va_cons (v_op o_add (v_op o_add (v_op o_mul (v_name 7) v_int) (v_op o_mul v_int (v_name 6))) v_int) va_nil)) v_int)))
    (sq_one (s_append 3 (m_of (v_op o_mod (v_callT c_int g_int (by decide +kernel) (va_cons (v_op o_div (v_name 7) v_int) va_nil)) v_int)))))))))))))
    (sq_one (s_ret (m_move 3)))))
abbrev s__law_draw : Stmt := topS 15
theorem sc__law_draw : FnScope ["box", "many", "at"] ["box", "many"] (defScope s__law_draw) := ⟨rfl, rfl, rfl, by decide +kernel, rfl, by decide +kernel, by decide +kernel⟩
def m__law_draw  : Sm := (mSeq (mSet 2 (mP (pImm (pOp2 ixD (pName 0) (pC (.int 1))))))
    (mSeq (mSetIx 0 (pC (.int 1)) (mP (pOp2 fAdd (pName 2) (pC (.int 1)))))
    (mSeq (mIfS (mB (pB (pOp2 fLt (pName 2) (pCall φLen (psCons (pOp2 ixD (pName 0) (pC (.int 0))) psNil)))))
    (mRet (mP (pOp2 fMod (pCall φInt (psCons (pOp2 ixD (pOp2 ixD (pName 0) (pC (.int 0))) (pName 2)) psNil)) (pName 1))))
    mNext)
    (mRet (mP (pOp2 fMod (pCall φInt (psCons (pOp2 fAdd (pOp2 fMul (pName 2) (pC (.int 7))) (pC (.int 3))) psNil)) (pName 1)))))))
theorem ok__law_draw {P : Program} {w : World} {K : PySem.W.Frag} {mg : Str → Option Value} {base : Heap} {f : Addr} {fd : FuncData} (g_len : mg "len" = none) (g_int : mg "int" = none)  (F : Fun K "_law_draw" "_law_draw" s__law_draw f fd) :
    FnG P w K mg base 1 f fd ["box", "many"] (spM K 2 (runM 3 [true] m__law_draw)) := fn_mut [true] F sc__law_draw (by decide) fun cdv A fr z H E hgd hr =>
    (sq_cons (s_set (i := 2) sc__law_draw.nd (m_of (v_imm (v_ix (v_name 0) v_int))))
    (sq_cons (s_setix 0 (m_of (v_op o_add (v_name 2) v_int)) v_int)
    (sq_cons (s_if (mt_of (vt_cmp o_lt (v_name 2) (v_callB c_len g_len (by decide +kernel) (va_cons (v_ix (v_name 0) v_int) va_nil))))
    (sq_one (s_ret (m_of (v_op o_mod (v_callT c_int g_int (by decide +kernel) (va_cons (v_ix (v_ix (v_name 0) v_int) (v_name 2)) va_nil)) (v_name 1)))))
    sq_nil)
    (sq_one (s_ret (m_of (v_op o_mod (v_callT c_int g_int (by decide +kernel) (va_cons (v_op o_add (v_op o_mul (v_name 2) v_int) v_int) va_nil)) (v_name 1))))))))
abbrev s__law_word : Stmt := topS 30
theorem sc__law_word : FnScope ["box"] ["box"] (defScope s__law_word) := ⟨rfl, rfl, rfl, by decide +kernel, rfl, by decide +kernel, by decide +kernel⟩
def m__law_word (φ__law_draw : D → List D → Option (D × D)) : Sm := (mRet (mOp2 ixD (mLst (msCons (mCallE 2 0 φ__law_draw (psCons (pC (.int 4)) psNil)) (msCons (mOp2 fSub (mCallE 2 0 φ__law_draw (psCons (pC (.int 9)) psNil)) (mP (pC (.int 4)))) (msCons (mP (pC (.int 32767))) (msCons (mP (pOp1 fNeg (pC (.int 32768)))) (msCons (mCallE 2 0 φ__law_draw (psCons (pC (.int 900)) psNil)) msNil)))))) (mCallE 2 0 φ__law_draw (psCons (pC (.int 5)) psNil))))
theorem ok__law_word {P : Program} {w : World} {K : PySem.W.Frag} {mg : Str → Option Value} {base : Heap} {f : Addr} {fd : FuncData}  {φ__law_draw : D → List D → Option (D × D)} (F__law_draw : Own2 P w K mg base 1 "_law_draw" 2 φ__law_draw) (F : Fun K "_law_word" "_law_word" s__law_word f fd) :
    FnG P w K mg base 2 f fd ["box"] (spM K 1 (runM 1 [] (m__law_word φ__law_draw))) := fn_mut [] F sc__law_word (by decide) fun cdv A fr z H E hgd hr =>
    (sq_one (s_ret (m_ix (m_lst (ma_cons (m_callE 0 F__law_draw hgd (hr.mono (by decide)) (va_cons v_int va_nil)) (ma_cons (m_op o_sub (m_callE 0 F__law_draw hgd (hr.mono (by decide)) (va_cons v_int va_nil)) (m_of v_int)) (ma_cons (m_of v_int) (ma_cons (m_of (v_un o_neg v_int)) (ma_cons (m_callE 0 F__law_draw hgd (hr.mono (by decide)) (va_cons v_int va_nil)) ma_nil)))))) (m_callE 0 F__law_draw hgd (hr.mono (by decide)) (va_cons v_int va_nil)))))
abbrev s__law_wrap : Stmt := topS 24
theorem sc__law_wrap : FnScope ["number"] ["number"] (defScope s__law_wrap) := ⟨rfl, rfl, rfl, by decide +kernel, rfl, by decide +kernel, by decide +kernel⟩
def m__law_wrap  : Sm := (mRet (mP (pOp2 fSub (pOp2 fMod (pCall φInt (psCons (pOp2 fAdd (pName 0) (pC (.int 32768))) psNil)) (pC (.int 65536))) (pC (.int 32768)))))
theorem ok__law_wrap {P : Program} {w : World} {K : PySem.W.Frag} {mg : Str → Option Value} {base : Heap} {f : Addr} {fd : FuncData} (g_int : mg "int" = none)  (F : Fun K "_law_wrap" "_law_wrap" s__law_wrap f fd) :
    FnG P w K mg base 1 f fd ["number"] (spP K 1 (runP 1 [true] m__law_wrap)) := fn_pure [true] F sc__law_wrap fun cdv A fr z H E hgd hr =>
    (sq_one (s_ret (m_of (v_op o_sub (v_op o_mod (v_callT c_int g_int (by decide +kernel) (va_cons (v_op o_add (v_name 0) v_int) va_nil)) v_int) v_int))))
abbrev s__law_operated : Stmt := topS 25
theorem sc__law_operated : FnScope ["operation", "a", "b"] ["operation", "a", "b"] (defScope s__law_operated) := ⟨rfl, rfl, rfl, by decide +kernel, rfl, by decide +kernel, by decide +kernel⟩
def m__law_operated (φ__law_wrap : List D → Option D) : Sm := (mSeq (mIfS (mB (pB (pOp2 fEq (pName 0) (pC (.str "less")))))
    (mRet (mP (pCall φInt (psCons (pOp2 fLt (pName 1) (pName 2)) psNil))))
    mNext)
    (mSeq (mIfS (mB (pB (pOp2 fEq (pName 0) (pC (.str "equal")))))
    (mRet (mP (pCall φInt (psCons (pOp2 fEq (pName 1) (pName 2)) psNil))))
    mNext)
    (mRet (mP (pCall (arity 1 φ__law_wrap) (psCons (pOp2 fGet (pDct (((pC (.str "add")), (pOp2 fAdd (pName 1) (pName 2))) :: (((pC (.str "sub")), (pOp2 fSub (pName 1) (pName 2))) :: (((pC (.str "mul")), (pOp2 fMul (pName 1) (pName 2))) :: [])))) (pName 0)) psNil))))))
theorem ok__law_operated {P : Program} {w : World} {K : PySem.W.Frag} {mg : Str → Option Value} {base : Heap} {f : Addr} {fd : FuncData} (g_int : mg "int" = none) {φ__law_wrap : List D → Option D} (F__law_wrap : Own1 P w K mg base 1 "_law_wrap" 1 φ__law_wrap) (F : Fun K "_law_operated" "_law_operated" s__law_operated f fd) :
    FnG P w K mg base 2 f fd ["operation", "a", "b"] (spP K 3 (runP 3 [true, true, true] (m__law_operated φ__law_wrap))) := fn_pure [true, true, true] F sc__law_operated fun cdv A fr z H E hgd hr =>
    (sq_cons (s_if (mt_of (vt_cmp o_eq (v_name 0) v_str))
    (sq_one (s_ret (m_of (v_callT c_int g_int (by decide +kernel) (va_cons (v_cmp o_lt (v_name 1) (v_name 2)) va_nil)))))
    sq_nil)
    (sq_cons (s_if (mt_of (vt_cmp o_eq (v_name 0) v_str))
    (sq_one (s_ret (m_of (v_callT c_int g_int (by decide +kernel) (va_cons (v_cmp o_eq (v_name 1) (v_name 2)) va_nil)))))
    sq_nil)
    (sq_one (s_ret (m_of (v_own F__law_wrap hgd (hr.mono (by decide)) (va_cons (v_dget (hu_of hr) (v_dct (dp_cons v_str (v_op o_add (v_name 1) (v_name 2)) (dp_cons v_str (v_op o_sub (v_name 1) (v_name 2)) (dp_cons v_str (v_op o_mul (v_name 1) (v_name 2)) dp_nil)))) (v_name 0)) va_nil)))))))
abbrev s_law : Stmt := topS 32
theorem sc_law : FnScope ["script", "box", "turn", "rows", "number", "told", "one", "other", "operation", "text"] ["script"] (defScope s_law) := ⟨rfl, rfl, rfl, by decide +kernel, rfl, by decide +kernel, by decide +kernel⟩
def m_law (φ__law_digits : List D → Option D) (φ__law_draw : D → List D → Option (D × D)) (φ_wrap : List D → Option D) (φ__law_word : D → List D → Option (D × D)) (φ__law_same : List D → Option D) (φ__law_operated : List D → Option D) (φ_operate : List D → Option D) (φ_is_name : List D → Option D) : Sm := (mSeq (mSet 1 (mP (pLst (psCons (pCall (arity 3 φ__law_digits) (psCons (pName 0) (psCons (pC (.int 0)) (psCons (pC (.int 20)) psNil)))) (psCons (pC (.int 0)) psNil)))))
    (mSeq (mFor (pRng1 (pC (.int 8))) (tgName 2)
    (mSeq (mSet 4 (mOp2 ixD (mLst (msCons (mOp2 fSub (mCallE 2 1 φ__law_draw (psCons (pC (.int 900)) psNil)) (mP (pC (.int 450)))) (msCons (mOp2 fAdd (mP (pC (.int 32760))) (mCallE 2 1 φ__law_draw (psCons (pC (.int 16)) psNil))) (msCons (mOp2 fAdd (mP (pOp1 fNeg (pC (.int 32776)))) (mCallE 2 1 φ__law_draw (psCons (pC (.int 16)) psNil))) (msCons (mOp2 fAdd (mOp2 fMul (mP (pC (.int 65536))) (mOp2 fSub (mCallE 2 1 φ__law_draw (psCons (pC (.int 9)) psNil)) (mP (pC (.int 4))))) (mCallE 2 1 φ__law_draw (psCons (pC (.int 9)) psNil))) msNil))))) (mCallE 2 1 φ__law_draw (psCons (pC (.int 4)) psNil))))
    (mSeq (mSet 5 (mP (pCall (arity 1 φ_wrap) (psCons (pName 4) psNil))))
    (mSeq (mIfS (mB (bOr (bNot (pTru (pOp1 fIsInt (pName 5)))) (bOr (bNot (pB (pChain fLe fLe (pOp1 fNeg (pC (.int 32768))) (pName 5) (pC (.int 32767))))) (pB (pOp2 fNe (pOp2 fMod (pCall φInt (psCons (pOp2 fSub (pName 4) (pName 5)) psNil)) (pC (.int 65536))) (pC (.int 0)))))))
    (mRet (mP (pC (.bl false))))
    mNext)
    (mSeq (mSet 6 (mCallE 1 1 φ__law_word psNil))
    (mSeq (mSet 7 (mCallE 1 1 φ__law_word psNil))
    (mSeq (mFor (pSeq (pLst (psCons (pC (.str "add")) (psCons (pC (.str "sub")) (psCons (pC (.str "mul")) (psCons (pC (.str "less")) (psCons (pC (.str "equal")) psNil))))))) (tgName 8)
    (mIfS (mB (bNot (pTru (pCall (arity 2 φ__law_same) (psCons (pCall (arity 3 φ_operate) (psCons (pName 8) (psCons (pName 6) (psCons (pName 7) psNil)))) (psCons (pCall (arity 3 φ__law_operated) (psCons (pName 8) (psCons (pName 6) (psCons (pName 7) psNil)))) psNil))))))
    (mRet (mP (pC (.bl false))))
    mNext))
    (mIfS (mB (bOr (pB (pOp2 fNe (pCall (arity 1 φ_wrap) (psCons (pName 6) psNil)) (pName 6))) (pB (pOp2 fNe (pCall (arity 3 φ_operate) (psCons (pC (.str "sub")) (psCons (pCall (arity 3 φ_operate) (psCons (pC (.str "add")) (psCons (pName 6) (psCons (pName 7) psNil)))) (psCons (pName 7) psNil)))) (pName 6)))))
    (mRet (mP (pC (.bl false))))
    mNext))))))))
    (mSeq (mSet 3 (mP (pLst (psCons (pTup (psCons (pC (.str "a")) (psCons (pC (.bl true)) psNil))) (psCons (pTup (psCons (pC (.str "a1b2c3")) (psCons (pC (.bl true)) psNil))) (psCons (pTup (psCons (pC (.str "abcdefg")) (psCons (pC (.bl false)) psNil))) (psCons (pTup (psCons (pC (.str "")) (psCons (pC (.bl false)) psNil))) (psCons (pTup (psCons (pC (.str "1a")) (psCons (pC (.bl false)) psNil))) psNil))))))))
    (mSeq (mSet 3 (mP (pOp2 fAdd (pName 3) (pLst (psCons (pTup (psCons (pC (.str "else")) (psCons (pC (.bl false)) psNil))) (psCons (pTup (psCons (pC (.str "elses")) (psCons (pC (.bl true)) psNil))) (psCons (pTup (psCons (pC (.str "A")) (psCons (pC (.bl false)) psNil))) (psCons (pTup (psCons (pC (.str "a-b")) (psCons (pC (.bl false)) psNil))) (psCons (pTup (psCons (pC (.str "print")) (psCons (pC (.bl true)) psNil))) (psCons (pTup (psCons (pC (.str "block")) (psCons (pC (.bl true)) psNil))) (psCons (pTup (psCons (pC (.str "a b")) (psCons (pC (.bl false)) psNil))) psNil)))))))))))
    (mRet (mP (pOp2 fEq (pCall φLen (psCons (pComp [9, 5] (pSeq (pName 3)) (trTup 2 (trCons (trName 9) (trCons (trName 5) trNil))) (pB (pOp2 fNe (pCall (arity 1 φ_is_name) (psCons (pName 9) psNil)) (pName 5))) (pImm (pName 9))) psNil)) (pC (.int 0)))))))))
theorem ok_law {P : Program} {w : World} {K : PySem.W.Frag} {mg : Str → Option Value} {base : Heap} {f : Addr} {fd : FuncData} (g_range : mg "range" = none) (g_isinstance : mg "isinstance" = none) (g_int : mg "int" = none) (g_len : mg "len" = none) {φ__law_digits : List D → Option D} (F__law_digits : Own1 P w K mg base 2 "_law_digits" 3 φ__law_digits) {φ__law_draw : D → List D → Option (D × D)} (F__law_draw : Own2 P w K mg base 1 "_law_draw" 2 φ__law_draw) {φ_wrap : List D → Option D} (F_wrap : Own1 P w K mg base 1 "wrap" 1 φ_wrap) {φ__law_word : D → List D → Option (D × D)} (F__law_word : Own2 P w K mg base 2 "_law_word" 1 φ__law_word) {φ__law_same : List D → Option D} (F__law_same : Own1 P w K mg base 1 "_law_same" 2 φ__law_same) {φ__law_operated : List D → Option D} (F__law_operated : Own1 P w K mg base 2 "_law_operated" 3 φ__law_operated) {φ_operate : List D → Option D} (F_operate : Own1 P w K mg base 2 "operate" 3 φ_operate) {φ_is_name : List D → Option D} (F_is_name : Own1 P w K mg base 1 "is_name" 1 φ_is_name) (F : Fun K "law" "law" s_law f fd) :
    FnG P w K mg base 3 f fd ["script"] (spP K 1 (runP 10 [true] (m_law φ__law_digits φ__law_draw φ_wrap φ__law_word φ__law_same φ__law_operated φ_operate φ_is_name))) := fn_pure [true] F sc_law fun cdv A fr z H E hgd hr =>
    (sq_cons (s_set (i := 1) sc_law.nd (m_of (v_lst (fa_cons (v_own F__law_digits hgd (hr.mono (by decide)) (va_cons (v_name 0) (va_cons v_int (va_cons v_int va_nil)))) (fa_cons v_int fa_nil)))))
    (sq_cons (s_for PassesOwn.never rfl (i_rng1 g_range v_int) (g_name (i := 2) sc_law.nd)
    (sq_cons (s_set (i := 4) sc_law.nd (m_ix (m_lst (ma_cons (m_op o_sub (m_callE 1 F__law_draw hgd (hr.mono (by decide)) (va_cons v_int va_nil)) (m_of v_int)) (ma_cons (m_op o_add (m_of v_int) (m_callE 1 F__law_draw hgd (hr.mono (by decide)) (va_cons v_int va_nil))) (ma_cons (m_op o_add (m_of (v_un o_neg v_int)) (m_callE 1 F__law_draw hgd (hr.mono (by decide)) (va_cons v_int va_nil))) (ma_cons (m_op o_add (m_op o_mul (m_of v_int) (m_op o_sub (m_callE 1 F__law_draw hgd (hr.mono (by decide)) (va_cons v_int va_nil)) (m_of v_int))) (m_callE 1 F__law_draw hgd (hr.mono (by decide)) (va_cons v_int va_nil))) ma_nil))))) (m_callE 1 F__law_draw hgd (hr.mono (by decide)) (va_cons v_int va_nil))))
    (sq_cons (s_set (i := 5) sc_law.nd (m_of (v_own F_wrap hgd (hr.mono (by decide)) (va_cons (v_name 4) va_nil))))
    (sq_cons (s_if (mt_of (vt_w (vw_or (vt_not (vt_val (v_isInt g_isinstance g_int (v_name 5)))) (vw_or (vt_not (vt_chain o_le o_le (v_un o_neg v_int) (v_name 5) v_int)) (vw_or1 (vt_cmp o_ne (v_op o_mod (v_callT c_int g_int (by decide +kernel) (va_cons (v_op o_sub (v_name 4) (v_name 5)) va_nil)) v_int) v_int))))))
    (sq_one (s_ret (m_of v_bl)))
    sq_nil)
    (sq_cons (s_set (i := 6) sc_law.nd (m_callE 1 F__law_word hgd (hr.mono (by decide)) va_nil))
    (sq_cons (s_set (i := 7) sc_law.nd (m_callE 1 F__law_word hgd (hr.mono (by decide)) va_nil))
    (sq_cons (s_for PassesOwn.never rfl (i_seq (v_lst (fa_cons v_str (fa_cons v_str (fa_cons v_str (fa_cons v_str (fa_cons v_str fa_nil))))))) (g_name (i := 8) sc_law.nd)
    (sq_one (s_if (mt_of (vt_not (vt_val (v_own F__law_same hgd (hr.mono (by decide)) (va_cons (v_own F_operate hgd (hr.mono (by decide)) (va_cons (v_name 8) (va_cons (v_name 6) (va_cons (v_name 7) va_nil)))) (va_cons (v_own F__law_operated hgd (hr.mono (by decide)) (va_cons (v_name 8) (va_cons (v_name 6) (va_cons (v_name 7) va_nil)))) va_nil))))))
    (sq_one (s_ret (m_of v_bl)))
    sq_nil)))
    (sq_one (s_if (mt_of (vt_w (vw_or (vt_cmp o_ne (v_own F_wrap hgd (hr.mono (by decide)) (va_cons (v_name 6) va_nil)) (v_name 6)) (vw_or1 (vt_cmp o_ne (v_own F_operate hgd (hr.mono (by decide)) (va_cons v_str (va_cons (v_own F_operate hgd (hr.mono (by decide)) (va_cons v_str (va_cons (v_name 6) (va_cons (v_name 7) va_nil)))) (va_cons (v_name 7) va_nil)))) (v_name 6))))))
    (sq_one (s_ret (m_of v_bl)))
    sq_nil)))))))))
    (sq_cons (s_set (i := 3) sc_law.nd (m_of (v_lst (fa_cons (v_tup (fa_cons v_str (fa_cons v_bl fa_nil))) (fa_cons (v_tup (fa_cons v_str (fa_cons v_bl fa_nil))) (fa_cons (v_tup (fa_cons v_str (fa_cons v_bl fa_nil))) (fa_cons (v_tup (fa_cons v_str (fa_cons v_bl fa_nil))) (fa_cons (v_tup (fa_cons v_str (fa_cons v_bl fa_nil))) fa_nil))))))))
    (sq_cons (s_set (i := 3) sc_law.nd (m_of (v_op o_add (v_name 3) (v_lst (fa_cons (v_tup (fa_cons v_str (fa_cons v_bl fa_nil))) (fa_cons (v_tup (fa_cons v_str (fa_cons v_bl fa_nil))) (fa_cons (v_tup (fa_cons v_str (fa_cons v_bl fa_nil))) (fa_cons (v_tup (fa_cons v_str (fa_cons v_bl fa_nil))) (fa_cons (v_tup (fa_cons v_str (fa_cons v_bl fa_nil))) (fa_cons (v_tup (fa_cons v_str (fa_cons v_bl fa_nil))) (fa_cons (v_tup (fa_cons v_str (fa_cons v_bl fa_nil))) fa_nil)))))))))))
    (sq_one (s_ret (m_of (v_cmp o_eq (v_callB c_len g_len (by decide +kernel) (va_cons (v_comp (own := [("text", 9), ("told", 5)]) rfl sc_law.nd (i_seq (v_name 3)) (blkOk_by (own := [("text", 9), ("told", 5)]) (N := ["script", "box", "turn", "rows", "number", "told", "one", "other", "operation", "text"]) (sc := defScope s_law) (by decide +kernel)) (by decide) (fun _ _ _ _ _ => (gr_tup rfl (grs_cons (gr_name (i := 9) sc_law.nd) (grs_cons (gr_name (i := 5) sc_law.nd) grs_nil)))) (fun _ _ _ _ _ => (ts_one (vt_cmp o_ne (v_own F_is_name hgd (hr.mono (by decide)) (va_cons (v_name 9) va_nil)) (v_name 5)))) (fun _ _ _ _ _ => (v_imm (v_name 9)))) va_nil)) v_int))))))))
end K00
set_option Elab.async false
set_option linter.all false
set_option maxRecDepth 100000
set_option maxHeartbeats 4000000
namespace K00
open PySem PySem.Spec PyProof.Rows L2 DL
local macro_rules | `(tactic| walk_at "ev") => `(tactic| simp [runP, runM, maskOk, roInit, ownInit, e_mSeq, e_mRet, e_mP, e_mIfS, e_mB, e_mNext, e_mSet, okSet, free, roAt, look, mine, e_pOp1, e_pOp2, pName, pC, e_pCall, e_psCons, e_psNil, e_pB, e_blD, e_bNot, e_bOr, e_bAnd, e_pTru, e_pImm, e_pIf, e_pOfB, e_pChain, e_chainK, f_ari,
  e_pTup, e_pLst, e_mTup, e_mLst, e_mOp2, e_mOp1, e_msCons, e_msNil, e_mMove, e_mSetIx, e_mAppend, e_mCallE, e_mCall, e_mTru, e_mBl, e_mbNot, e_mbAnd, e_mbOr, e_mIf, e_mDrop, e_mAsgT, e_on1, e_on2, e_on3, e_on4, e_lstD, e_intD,
  f_add, f_adds, f_addl, f_addt, f_sub, f_mul, f_mod, f_div, f_pow, mulOk_r, mulOk_l, powOk_of, small_of, divOk_of, f_neg, f_eqi, f_eqs, f_eqb, f_nei, f_nes, f_neb, f_lt, f_le, f_gt, f_ge, f_lens, f_lent, f_lenl, f_lenf, f_int, f_intb, f_isint, f_trub, f_trui, f_trul, f_trut, f_ixl, f_ixt, f_ixf,
  imm_non, imm_bl, imm_int, imm_str, imm_tup, imm_lst, imm_fz, immL_nil, immL_cons, immL_ints, at0, at1, at2, at3, at4, at5, at_nat, ixN0, ixN1, ixN2,
  List.length_cons, List.length_nil, List.length_map, List.getElem?_cons_zero, List.getElem?_cons_succ, List.getElem?_nil, List.set_cons_zero, List.set_cons_succ, List.cons_append, List.nil_append, List.replicate, Option.join_some, Option.join_none, Nat.sub_self, Nat.zero_add, Nat.reduceAdd, Nat.reduceSub, Nat.reduceLeDiff, Nat.reduceLT, if_true, if_false, ite_true, ite_false, decide_true, decide_false, Bool.and_true, Bool.true_and, Bool.not_true, Bool.not_false, Option.isNone_none, Option.isNone_some, List.contains_nil, List.contains_cons, reduceIte, decide_eq_true_eq, Bool.false_eq_true, Bool.and_self, tgName, e_mFor, e_pRng1, e_pRng2, e_pSeq, hideI, seqD, *])
theorem wrap_eq (i : Int) : runP 1 [true] m_wrap [.int i] = some (.int ((i + 32768) % 65536 - 32768)) := by
  unfold m_wrap; walk_at "ev"
theorem cell_eq (ns : List Int) (k : Nat) : runP 2 [true, true] m__law_cell [.fz (ns.map .int), .int k] = some (.int (ns[k]?.getD 0)) := by
  unfold m__law_cell
  by_cases h : k < ns.length
  · have he : ns[k]? = some ns[k] := List.getElem?_eq_getElem h
    walk_at "ev"
  · have he : ns[k]? = none := List.getElem?_eq_none (by omega)
    walk_at "ev"
def drawV (ds : List Int) (i : Nat) (many : Int) : Int := (if i < ds.length then ds[i]?.getD 0 else (i : Int) * 7 + 3) % many
def boxD (ds : List Int) (i : Nat) : D := .lst [.lst (ds.map .int), .int i]
theorem draw_eq (ds : List Int) (i : Nat) (many : Int) (hm : 0 < many) : runM 3 [true] m__law_draw (boxD ds i) [.int many] = some (.int (drawV ds i many), boxD ds (i + 1)) := by
  unfold m__law_draw drawV boxD
  by_cases h : i < ds.length
  · have he : ds[i]? = some ds[i] := List.getElem?_eq_getElem h
    walk_at "ev"
  · walk_at "ev"
theorem drawV_lt (ds : List Int) (i : Nat) {many : Int} (h : 0 < many) : 0 ≤ drawV ds i many ∧ drawV ds i many < many := ⟨Int.emod_nonneg _ (by omega), Int.emod_lt_of_pos _ h⟩
/-! the digits -/
def dBody1 : Sm := (mIfS (mB (pB (pOp2 fGt (pName 5) (pC (.int 0)))))
    (mSeq (mAppend 3 (mP (pOp2 fMod (pCall φInt (psCons (pName 5) psNil)) (pC (.int 1000)))))
    (mSet 5 (mP (pOp2 fDiv (pName 5) (pC (.int 1000))))))
    mNext)
def dBody2 : Sm := (mSeq (mSet 7 (mP (pOp2 fMod (pCall φInt (psCons (pOp2 fAdd (pOp2 fAdd (pOp2 fMul (pName 7) (pC (.int 16807))) (pOp2 fMul (pC (.int 7)) (pName 6))) (pC (.int 1))) psNil)) (pC (.int 2147483647)))))
    (mAppend 3 (mP (pOp2 fMod (pCall φInt (psCons (pOp2 fDiv (pName 7) (pC (.int 997))) psNil)) (pC (.int 1000))))))
def dR (ns : List Int) (a b : Nat) : Rc := ⟨[some (.fz (ns.map .int)), some (.int a), some (.int b), none, none, none, none, none], []⟩
def dG (ds : List Int) (k c t s : Option Int) : En := [none, none, none, some (.lst (ds.map .int)), k.map .int, c.map .int, t.map .int, s.map .int]
theorem d1 (ns : List Int) (a b : Nat) (k : Option Int) (s : Option Int) (ds0 : List Int) (c0 : Int) (t0 : Option Int) (h0 : ds0.length ≤ 90000) :
    ∃ ds c t, exFor (tgName 6) dBody1 (dR ns a b) (rng 0 60) (dG ds0 k (some c0) t0 s) = some (.nx (dG ds k (some c) t s)) ∧ ds.length ≤ ds0.length + 60 := by
  obtain ⟨Γ', e, ds, c, t, rfl, hd⟩ := exFor_all (fun done Γ => ∃ (ds : List Int) (c : Int) (t : Option Int), Γ = dG ds k (some c) t s ∧ ds.length ≤ ds0.length + done.length) (rng 0 60) (R := dR ns a b) (t := tgName 6) (m := dBody1) (Γ := dG ds0 k (some c0) t0 s) ⟨ds0, c0, t0, rfl, by simp⟩ (by
    rintro done d rest Γ hall ⟨ds, c, t, rfl, hd⟩
    obtain ⟨rfl, hl⟩ := rng_mid hall
    refine ⟨dG ds k (some c) (some (0 + (done.length : Nat))) s, ?_⟩
    by_cases hc : 0 < c
    · refine ⟨dG (ds ++ [c % 1000]) k (some (c / 1000)) (some (0 + (done.length : Nat))) s, ?_, .inl ?_, ds ++ [c % 1000], c / 1000, _, rfl, by simp; omega⟩
      · unfold dG dR; walk_at "ev"
      · have hh : ds.length < 100000 := by omega
        unfold dG dR dBody1; walk_at "ev"
    · refine ⟨dG ds k (some c) (some (0 + (done.length : Nat))) s, ?_, .inl ?_, ds, c, _, rfl, by simp; omega⟩
      · unfold dG dR; walk_at "ev"
      · unfold dG dR dBody1; walk_at "ev")
  exact ⟨ds, c, t, e, by simpa [rng_length] using hd⟩
theorem d2 (ns : List Int) (a b : Nat) (k : Int) (s0 : Int) (ds0 : List Int) (c : Option Int) (t0 : Option Int) (h0 : ds0.length ≤ 90000) :
    ∃ ds s t, exFor (tgName 6) dBody2 (dR ns a b) (rng 0 12) (dG ds0 (some k) c t0 (some s0)) = some (.nx (dG ds (some k) c t (some s))) ∧ ds.length ≤ ds0.length + 60 := by
  obtain ⟨Γ', e, ds, s, t, rfl, hd⟩ := exFor_all (fun done Γ => ∃ (ds : List Int) (s : Int) (t : Option Int), Γ = dG ds (some k) c t (some s) ∧ ds.length ≤ ds0.length + done.length) (rng 0 12) (R := dR ns a b) (t := tgName 6) (m := dBody2) (Γ := dG ds0 (some k) c t0 (some s0)) ⟨ds0, s0, t0, rfl, by simp⟩ (by
    rintro done d rest Γ hall ⟨ds, s, t, rfl, hd⟩
    obtain ⟨rfl, hl⟩ := rng_mid hall
    have hh : ds.length < 100000 := by omega
    refine ⟨dG ds (some k) c (some (0 + (done.length : Nat))) (some s), dG (ds ++ [(s * 16807 + 7 * (0 + (done.length : Nat)) + 1) % 2147483647 / 997 % 1000]) (some k) c (some (0 + (done.length : Nat))) (some ((s * 16807 + 7 * (0 + (done.length : Nat)) + 1) % 2147483647)), ?_, .inl ?_, _, _, _, rfl, by simp; omega⟩
    · unfold dG dR; walk_at "ev"
    · unfold dG dR dBody2; walk_at "ev")
  exact ⟨ds, s, t, e, by simp [rng_length] at hd; omega⟩
def dTail : Sm := (mIfS (mB (pB (pOp2 fGe (pName 5) (pOp2 fPow (pC (.int 10)) (pC (.int 18))))))
    (mFor (pRng1 (pC (.int 60))) (tgName 6) dBody1)
    (mSeq (mSet 7 (mP (pOp2 fMod (pCall φInt (psCons (pOp2 fAdd (pOp2 fAdd (pOp2 fMul (pName 5) (pC (.int 48271))) (pOp2 fMul (pName 4) (pC (.int 69621)))) (pC (.int 11))) psNil)) (pC (.int 2147483647)))))
    (mFor (pRng1 (pC (.int 12))) (tgName 6) dBody2)))
def dBody : Sm := (mSeq (mSet 5 (mP (pCall (arity 2 (runP 2 [true, true] m__law_cell)) (psCons (pName 0) (psCons (pName 4) psNil)))))
    (mSeq (mIfS (mB (pB (pOp2 fLt (pName 5) (pC (.int 0)))))
    (mSet 5 (mP (pOp2 fSub (pC (.int 1)) (pOp2 fMul (pC (.int 2)) (pName 5)))))
    mNext) dTail))
theorem d3 (ns : List Int) (a b : Nat) (k0 : Nat) (ds0 : List Int) (c0 t0 s0 : Option Int) (h0 : ds0.length ≤ 80000) :
    ∃ ds c t s, dBody (dR ns a b) (dG ds0 (some k0) c0 t0 s0) = some (.nx (dG ds (some k0) c t s)) ∧ ds.length ≤ ds0.length + 60 := by
  have hc : ∀ c : Int, ∃ ds c' t s, dTail (dR ns a b) (dG ds0 (some k0) (some c) t0 s0) = some (.nx (dG ds (some k0) c' t s)) ∧ ds.length ≤ ds0.length + 60 := by
    intro c
    unfold dTail
    by_cases h : (10 : Int) ^ 18 ≤ c
    · obtain ⟨ds, c', t, e, hd⟩ := d1 ns a b (some k0) s0 ds0 c t0 (by omega)
      refine ⟨ds, some c', t, s0, ?_, hd⟩
      have h2 : (1000000000000000000 : Int) ≤ c := h
      rw [← e]
      unfold dG dR
      walk_at "ev"
    · obtain ⟨ds, s, t, e, hd⟩ := d2 ns a b k0 ((c * 48271 + k0 * 69621 + 11) % 2147483647) ds0 (some c) t0 (by omega)
      refine ⟨ds, some c, t, some s, ?_, hd⟩
      have h2 : ¬ (1000000000000000000 : Int) ≤ c := h
      rw [← e]
      unfold dG dR
      walk_at "ev"
  have ce := cell_eq ns k0
  by_cases h : ns[k0]?.getD 0 < 0
  · obtain ⟨ds, c', t, s, e, hd⟩ := hc (1 - 2 * ns[k0]?.getD 0)
    refine ⟨ds, c', t, s, ?_, hd⟩
    rw [← e]
    clear e hc
    unfold dBody dG dR
    generalize dTail = X
    generalize hv : ns[k0]?.getD 0 = v at *
    generalize hφ : runP 2 [true, true] m__law_cell = φ at *
    walk_at "ev"
  · obtain ⟨ds, c', t, s, e, hd⟩ := hc (ns[k0]?.getD 0)
    refine ⟨ds, c', t, s, ?_, hd⟩
    rw [← e]
    clear e hc
    unfold dBody dG dR
    generalize dTail = X
    generalize hv : ns[k0]?.getD 0 = v at *
    generalize hφ : runP 2 [true, true] m__law_cell = φ at *
    walk_at "ev"
theorem digits_ex (ns : List Int) (a b : Nat) (ha : a ≤ 1000) (hb : b ≤ 1000) : ∃ ds : List Int, runP 8 [true, true, true] (m__law_digits (runP 2 [true, true] m__law_cell)) [.fz (ns.map .int), .int a, .int b] = some (.lst (ds.map .int)) := by
  obtain ⟨Γ', e, ds, kk, c, t, s, rfl, hd⟩ := exFor_all (fun done Γ => ∃ (ds : List Int) (k c t s : Option Int), Γ = dG ds k c t s ∧ ds.length ≤ 60 * done.length) (rng (a : Int) (b - a)) (R := dR ns a b) (t := tgName 4) (m := dBody) (Γ := dG [] none none none none) ⟨[], none, none, none, none, rfl, by simp⟩ (by
    rintro done d rest Γ hall ⟨ds, k, c, t, s, rfl, hd⟩
    obtain ⟨rfl, hl⟩ := rng_mid hall
    have hk : ((a : Int) + (done.length : Nat)) = ((a + done.length : Nat) : Int) := by omega
    obtain ⟨ds', c', t', s', e', hd'⟩ := d3 ns a b (a + done.length) ds c t s (by omega)
    refine ⟨dG ds (some ((a + done.length : Nat) : Int)) c t s, _, ?_, .inl e', ds', _, c', t', s', rfl, by simp; omega⟩
    rw [hk]
    unfold dG dR
    clear e' hd' hd hall hk
    generalize a + done.length = q
    walk_at "ev")
  refine ⟨ds, ?_⟩
  have h1 : small (a : Int) = true := small_of (by omega) (by omega)
  have h2 : small (b : Int) = true := small_of (by omega) (by omega)
  have hm : m__law_digits (runP 2 [true, true] m__law_cell) = mSeq (mSet 3 (mP (pLst psNil))) (mSeq (mFor (pRng2 (pName 1) (pName 2)) (tgName 4) dBody) (mRet (mMove 3))) := rfl
  rw [hm]
  clear hm hd
  unfold dG dR at e
  generalize dBody = X at e
  simp only [Option.map_none, List.map_nil] at e
  walk_at "ev"
end K00
set_option Elab.async false
set_option linter.all false
set_option maxRecDepth 100000
set_option maxHeartbeats 4000000
namespace K00
open PySem PySem.Spec PyProof.Rows L2 DL
local macro_rules | `(tactic| walk_at "ev") => `(tactic| simp [runP, runM, maskOk, roInit, ownInit, e_mSeq, e_mRet, e_mP, e_mIfS, e_mB, e_mNext, e_mSet, okSet, free, roAt, look, mine, e_pOp1, e_pOp2, pName, pC, e_pCall, e_psCons, e_psNil, e_pB, e_blD, e_bNot, e_bOr, e_bAnd, e_pTru, e_pImm, e_pIf, e_pOfB, e_pChain, e_chainK, f_ari,
  e_pTup, e_pLst, e_mTup, e_mLst, e_mOp2, e_mOp1, e_msCons, e_msNil, e_mMove, e_mSetIx, e_mAppend, e_mCallE, e_mCall, e_mTru, e_mBl, e_mbNot, e_mbAnd, e_mbOr, e_mIf, e_mDrop, e_mAsgT, e_on1, e_on2, e_on3, e_on4, e_lstD, e_intD, e_pPairs_nil, e_pPairs, e_pDct, f_key, f_keyi, f_get, f_geti, f_getK, f_repr, str_inj, Sum.inr.injEq, Sum.inl.injEq, List.nodup_cons, List.nodup_nil, List.mem_cons, List.not_mem_nil,
  f_add, f_adds, f_addl, f_addt, f_sub, f_mul, f_mod, f_div, f_pow, mulOk_r, mulOk_l, powOk_of, small_of, divOk_of, f_neg, f_eqi, f_eqs, f_eqb, f_nei, f_nes, f_neb, f_lt, f_le, f_gt, f_ge, f_lens, f_lent, f_lenl, f_lenf, f_int, f_intb, f_isint, f_trub, f_trui, f_trul, f_trut, f_ixl, f_ixt, f_ixf,
  imm_non, imm_bl, imm_int, imm_str, imm_tup, imm_lst, imm_fz, immL_nil, immL_cons, immL_ints, at0, at1, at2, at3, at4, at5, at_nat, ixN0, ixN1, ixN2,
  List.length_cons, List.length_nil, List.length_map, List.getElem?_cons_zero, List.getElem?_cons_succ, List.getElem?_nil, List.set_cons_zero, List.set_cons_succ, List.cons_append, List.nil_append, List.replicate, Option.join_some, Option.join_none, Nat.sub_self, Nat.zero_add, Nat.reduceAdd, Nat.reduceSub, Nat.reduceLeDiff, Nat.reduceLT, if_true, if_false, ite_true, ite_false, decide_true, decide_false, Bool.and_true, Bool.true_and, Bool.not_true, Bool.not_false, Option.isNone_none, Option.isNone_some, List.contains_nil, List.contains_cons, reduceIte, decide_eq_true_eq, Bool.false_eq_true, Bool.and_self, tgName, e_mFor, e_pRng1, e_pRng2, e_pSeq, hideI, seqD, *])
theorem same_eq (x : D) (h : reprOk x = true) : runP 2 [true, true] m__law_same [x, x] = some (.bl true) := by
  unfold m__law_same
  walk_at "ev"
abbrev φw : List D → Option D := runP 1 [true] m_wrap
abbrev φlw : List D → Option D := runP 1 [true] m__law_wrap
def wrapV (i : Int) : Int := (i + 32768) % 65536 - 32768
theorem lwrap_eq (i : Int) : φlw [.int i] = some (.int (wrapV i)) := by
  unfold φlw m__law_wrap wrapV; walk_at "ev"
theorem wrap_eq' (i : Int) : φw [.int i] = some (.int (wrapV i)) := wrap_eq i
def opV (z : Str) (a b : Int) : Int := if z = "add" then wrapV (a + b) else if z = "sub" then wrapV (a - b) else if z = "mul" then wrapV (a * b) else if z = "less" then (if a < b then 1 else 0) else (if a = b then 1 else 0)
theorem operate_eq (z : Str) (a b : Int) (hm : mulOk a b = true) : runP 3 [true, true, true] (m_operate φw) [.str z, .int a, .int b] = some (.int (opV z a b)) := by
  have w1 := wrap_eq' (a + b)
  have w2 := wrap_eq' (a - b)
  have w3 := wrap_eq' (a * b)
  unfold m_operate opV
  generalize φw = φ at *
  by_cases h1 : z = "add"
  · walk_at "ev"
  by_cases h2 : z = "sub"
  · walk_at "ev"
  by_cases h3 : z = "mul"
  · walk_at "ev"
  by_cases h4 : z = "less"
  · by_cases h5 : a < b
    · walk_at "ev"
    · walk_at "ev"
  · by_cases h5 : a = b
    · walk_at "ev"
    · walk_at "ev"
theorem operated_eq (z : Str) (a b : Int) (hm : mulOk a b = true) (hz : z = "add" ∨ z = "sub" ∨ z = "mul" ∨ z = "less" ∨ z = "equal") : runP 3 [true, true, true] (m__law_operated φlw) [.str z, .int a, .int b] = some (.int (opV z a b)) := by
  have w1 := lwrap_eq (a + b)
  have w2 := lwrap_eq (a - b)
  have w3 := lwrap_eq (a * b)
  unfold m__law_operated opV
  generalize φlw = φ at *
  rcases hz with rfl | rfl | rfl | rfl | rfl
  · walk_at "ev"
  · walk_at "ev"
  · walk_at "ev"
  · by_cases h5 : a < b <;> walk_at "ev"
  · by_cases h5 : a = b <;> walk_at "ev"
end K00
set_option Elab.async false
set_option linter.all false
set_option maxRecDepth 100000
set_option maxHeartbeats 4000000
namespace K00
open PySem PySem.Spec PyProof.Rows L2 DL
local macro_rules | `(tactic| walk_at "ev") => `(tactic| simp [runP, runM, maskOk, roInit, ownInit, e_mSeq, e_mRet, e_mP, e_mIfS, e_mB, e_mNext, e_mSet, okSet, free, roAt, look, mine, e_pOp1, e_pOp2, pName, pC, e_pCall, e_psCons, e_psNil, e_pB, e_blD, e_bNot, e_bOr, e_bAnd, e_pTru, e_pImm, e_pIf, e_pOfB, e_pChain, e_chainK, f_ari,
  e_pTup, e_pLst, e_mTup, e_mLst, e_mOp2, e_mOp1, e_msCons, e_msNil, e_mMove, e_mSetIx, e_mAppend, e_mCallE, e_mCall, e_mTru, e_mBl, e_mbNot, e_mbAnd, e_mbOr, e_mIf, e_mDrop, e_mAsgT, e_on1, e_on2, e_on3, e_on4, e_lstD, e_intD, e_pPairs_nil, e_pPairs, e_pDct, f_key, f_keyi, f_get, f_geti, f_getK, f_repr, e_compGo, e_compGo0, e_compF, e_pComp, e_trTup, e_trCons, e_trNil, e_trName, allRo, nones, mergeE, wipeE,  str_inj, Sum.inr.injEq, Sum.inl.injEq, List.nodup_cons, List.nodup_nil, List.mem_cons, List.not_mem_nil,
  f_add, f_adds, f_addl, f_addt, f_sub, f_mul, f_mod, f_div, f_pow, mulOk_r, mulOk_l, powOk_of, small_of, divOk_of, f_neg, f_eqi, f_eqs, f_eqb, f_nei, f_nes, f_neb, f_lt, f_le, f_gt, f_ge, f_lens, f_lent, f_lenl, f_lenf, f_int, f_intb, f_isint, f_trub, f_trui, f_trul, f_trut, f_ixl, f_ixt, f_ixf,
  imm_non, imm_bl, imm_int, imm_str, imm_tup, imm_lst, imm_fz, immL_nil, immL_cons, immL_ints, at0, at1, at2, at3, at4, at5, at_nat, ixN0, ixN1, ixN2,
  List.length_cons, List.length_nil, List.length_map, List.getElem?_cons_zero, List.getElem?_cons_succ, List.getElem?_nil, List.set_cons_zero, List.set_cons_succ, List.cons_append, List.nil_append, List.replicate, Option.join_some, Option.join_none, Nat.sub_self, Nat.zero_add, Nat.reduceAdd, Nat.reduceSub, Nat.reduceLeDiff, Nat.reduceLT, if_true, if_false, ite_true, ite_false, decide_true, decide_false, Bool.and_true, Bool.true_and, Bool.not_true, Bool.not_false, Option.isNone_none, Option.isNone_some, List.contains_nil, List.contains_cons, reduceIte, decide_eq_true_eq, Bool.false_eq_true, Bool.and_self, tgName, e_mFor, e_pRng1, e_pRng2, e_pSeq, hideI, seqD, *])
abbrev φd : D → List D → Option (D × D) := runM 3 [true] m__law_draw
theorem drawN (ds : List Int) (i : Nat) (m : Nat) (h : 0 < m) : ∃ k : Nat, drawV ds i (m : Int) = (k : Int) ∧ k < m := by
  have h1 := drawV_lt ds i (many := (m : Int)) (by omega)
  exact ⟨(drawV ds i m).toNat, by omega, by omega⟩
theorem word_eq (ds : List Int) (i : Nat) : ∃ w : Int, -32768 ≤ w ∧ w ≤ 32767 ∧ runM 1 [] (m__law_word φd) (boxD ds i) [] = some (.int w, boxD ds (i + 4)) := by
  have d1 : φd (boxD ds i) [.int 4] = some (.int (drawV ds i 4), boxD ds (i + 1)) := draw_eq ds i 4 (by decide)
  have d2 : φd (boxD ds (i + 1)) [.int 9] = some (.int (drawV ds (i + 1) 9), boxD ds (i + 2)) := draw_eq ds (i + 1) 9 (by decide)
  have d3 : φd (boxD ds (i + 2)) [.int 900] = some (.int (drawV ds (i + 2) 900), boxD ds (i + 3)) := draw_eq ds (i + 2) 900 (by decide)
  have d4 : φd (boxD ds (i + 3)) [.int 5] = some (.int (drawV ds (i + 3) 5), boxD ds (i + 4)) := draw_eq ds (i + 3) 5 (by decide)
  obtain ⟨k1, e1, h1⟩ : ∃ k : Nat, drawV ds i 4 = (k : Int) ∧ k < 4 := drawN ds i 4 (by decide)
  obtain ⟨k2, e2, h2⟩ : ∃ k : Nat, drawV ds (i + 1) 9 = (k : Int) ∧ k < 9 := drawN ds (i + 1) 9 (by decide)
  obtain ⟨k3, e3, h3⟩ : ∃ k : Nat, drawV ds (i + 2) 900 = (k : Int) ∧ k < 900 := drawN ds (i + 2) 900 (by decide)
  obtain ⟨k4, e4, h4⟩ : ∃ k : Nat, drawV ds (i + 3) 5 = (k : Int) ∧ k < 5 := drawN ds (i + 3) 5 (by decide)
  rw [e1] at d1
  rw [e2] at d2
  rw [e3] at d3
  rw [e4] at d4
  clear e1 e2 e3 e4
  generalize boxD ds i = b0 at *
  generalize boxD ds (i + 1) = b1 at *
  generalize boxD ds (i + 2) = b2 at *
  generalize boxD ds (i + 3) = b3 at *
  generalize boxD ds (i + 4) = b4 at *
  unfold m__law_word
  generalize φd = φ at *
  match k4, h4 with
  | 0, _ => refine ⟨(k1 : Int), by omega, by omega, ?_⟩; walk_at "ev"
  | 1, _ => refine ⟨(k2 : Int) - 4, by omega, by omega, ?_⟩; walk_at "ev"
  | 2, _ => refine ⟨32767, by omega, by omega, ?_⟩; walk_at "ev"
  | 3, _ => refine ⟨-32768, by omega, by omega, ?_⟩; walk_at "ev"
  | 4, _ => refine ⟨(k3 : Int), by omega, by omega, ?_⟩; walk_at "ev"
theorem wrapV_ok (n : Int) : -32768 ≤ wrapV n ∧ wrapV n ≤ 32767 ∧ (n - wrapV n) % 65536 = 0 := by unfold wrapV; omega
theorem wrapV_id {n : Int} (h : -32768 ≤ n) (h2 : n ≤ 32767) : wrapV n = n := by unfold wrapV; omega
theorem opV_ok (z : Str) (a b : Int) : -32768 ≤ opV z a b ∧ opV z a b ≤ 32767 := by
  unfold opV
  have w1 := wrapV_ok (a + b)
  have w2 := wrapV_ok (a - b)
  have w3 := wrapV_ok (a * b)
  split
  · omega
  split
  · omega
  split
  · omega
  split <;> split <;> omega
theorem opV_back {a b : Int} (h1 : -32768 ≤ a) (h2 : a ≤ 32767) (h3 : -32768 ≤ b) (h4 : b ≤ 32767) : opV "sub" (opV "add" a b) b = a := by
  have e1 : opV "add" a b = wrapV (a + b) := if_pos rfl
  have ne : ¬ ("sub" : Str) = "add" := by rw [str_inj]; decide
  have e2 : ∀ x, opV "sub" x b = wrapV (x - b) := fun x => (if_neg ne).trans (if_pos rfl)
  rw [e1, e2]
  unfold wrapV
  omega
abbrev φdig : List D → Option D := runP 8 [true, true, true] (m__law_digits (runP 2 [true, true] m__law_cell))
abbrev φword : D → List D → Option (D × D) := runM 1 [] (m__law_word φd)
abbrev φsame : List D → Option D := runP 2 [true, true] m__law_same
abbrev φopd : List D → Option D := runP 3 [true, true, true] (m__law_operated φlw)
abbrev φop : List D → Option D := runP 3 [true, true, true] (m_operate φw)
abbrev φisn : List D → Option D := runP 2 [true] m_is_name
theorem isn1 : φisn [.str "a"] = some (.bl true) := isB_eq (by decide +kernel)
theorem isn2 : φisn [.str "a1b2c3"] = some (.bl true) := isB_eq (by decide +kernel)
theorem isn3 : φisn [.str "abcdefg"] = some (.bl false) := isB_eq (by decide +kernel)
theorem isn4 : φisn [.str ""] = some (.bl false) := isB_eq (by decide +kernel)
theorem isn5 : φisn [.str "1a"] = some (.bl false) := isB_eq (by decide +kernel)
theorem isn6 : φisn [.str "else"] = some (.bl false) := isB_eq (by decide +kernel)
theorem isn7 : φisn [.str "elses"] = some (.bl true) := isB_eq (by decide +kernel)
theorem isn8 : φisn [.str "A"] = some (.bl false) := isB_eq (by decide +kernel)
theorem isn9 : φisn [.str "a-b"] = some (.bl false) := isB_eq (by decide +kernel)
theorem isn10 : φisn [.str "print"] = some (.bl true) := isB_eq (by decide +kernel)
theorem isn11 : φisn [.str "block"] = some (.bl true) := isB_eq (by decide +kernel)
theorem isn12 : φisn [.str "a b"] = some (.bl false) := isB_eq (by decide +kernel)
end K00
set_option Elab.async false
set_option linter.all false
set_option maxRecDepth 100000
set_option maxHeartbeats 4000000
namespace K00
open PySem PySem.Spec PyProof.Rows L2 DL
local macro_rules | `(tactic| walk_at "ev") => `(tactic| simp [runP, runM, maskOk, roInit, ownInit, e_mSeq, e_mRet, e_mP, e_mIfS, e_mB, e_mNext, e_mSet, okSet, free, roAt, look, mine, e_pOp1, e_pOp2, pName, pC, e_pCall, e_psCons, e_psNil, e_pB, e_blD, e_bNot, e_bOr, e_bAnd, e_pTru, e_pImm, e_pIf, e_pOfB, e_pChain, e_chainK, f_ari,
  e_pTup, e_pLst, e_mTup, e_mLst, e_mOp2, e_mOp1, e_msCons, e_msNil, e_mMove, e_mSetIx, e_mAppend, e_mCallE, e_mCall, e_mTru, e_mBl, e_mbNot, e_mbAnd, e_mbOr, e_mIf, e_mDrop, e_mAsgT, e_on1, e_on2, e_on3, e_on4, e_lstD, e_intD, e_pPairs_nil, e_pPairs, e_pDct, f_key, f_keyi, f_get, f_geti, f_getK, f_repr, e_compGo, e_compGo0, e_compF, e_pComp, e_trTup, e_trCons, e_trNil, e_trName, allRo, nones, mergeE, wipeE,  str_inj, Sum.inr.injEq, Sum.inl.injEq, List.nodup_cons, List.nodup_nil, List.mem_cons, List.not_mem_nil,
  f_add, f_adds, f_addl, f_addt, f_sub, f_mul, f_mod, f_div, f_pow, mulOk_r, mulOk_l, powOk_of, small_of, divOk_of, f_neg, f_eqi, f_eqs, f_eqb, f_nei, f_nes, f_neb, f_lt, f_le, f_gt, f_ge, f_lens, f_lent, f_lenl, f_lenf, f_int, f_intb, f_isint, f_trub, f_trui, f_trul, f_trut, f_ixl, f_ixt, f_ixf,
  imm_non, imm_bl, imm_int, imm_str, imm_tup, imm_lst, imm_fz, immL_nil, immL_cons, immL_ints, at0, at1, at2, at3, at4, at5, at_nat, ixN0, ixN1, ixN2,
  List.length_cons, List.length_nil, List.length_map, List.getElem?_cons_zero, List.getElem?_cons_succ, List.getElem?_nil, List.set_cons_zero, List.set_cons_succ, List.cons_append, List.nil_append, List.replicate, Option.join_some, Option.join_none, Nat.sub_self, Nat.zero_add, Nat.reduceAdd, Nat.reduceSub, Nat.reduceLeDiff, Nat.reduceLT, if_true, if_false, ite_true, ite_false, decide_true, decide_false, Bool.and_true, Bool.true_and, Bool.not_true, Bool.not_false, Option.isNone_none, Option.isNone_some, List.contains_nil, List.contains_cons, reduceIte, decide_eq_true_eq, Bool.false_eq_true, Bool.and_self, tgName, e_mFor, e_pRng1, e_pRng2, e_pSeq, hideI, seqD, *])
/-! the law itself -/
abbrev mLaw : Sm := m_law φdig φd φw φword φsame φopd φop φisn
def lG (b : D) (t n to o ot op : Option D) : En := [none, some b, t, none, n, to, o, ot, op, none]
def lR (ns : List Int) : Rc := ⟨[some (.fz (ns.map .int)), none, none, none, none, none, none, none, none, none], []⟩
def lOps : Sm := (mIfS (mB (bNot (pTru (pCall (arity 2 φsame) (psCons (pCall (arity 3 φop) (psCons (pName 8) (psCons (pName 6) (psCons (pName 7) psNil)))) (psCons (pCall (arity 3 φopd) (psCons (pName 8) (psCons (pName 6) (psCons (pName 7) psNil)))) psNil))))))
    (mRet (mP (pC (.bl false))))
    mNext)
def lNum : M := (mOp2 ixD (mLst (msCons (mOp2 fSub (mCallE 2 1 φd (psCons (pC (.int 900)) psNil)) (mP (pC (.int 450)))) (msCons (mOp2 fAdd (mP (pC (.int 32760))) (mCallE 2 1 φd (psCons (pC (.int 16)) psNil))) (msCons (mOp2 fAdd (mP (pOp1 fNeg (pC (.int 32776)))) (mCallE 2 1 φd (psCons (pC (.int 16)) psNil))) (msCons (mOp2 fAdd (mOp2 fMul (mP (pC (.int 65536))) (mOp2 fSub (mCallE 2 1 φd (psCons (pC (.int 9)) psNil)) (mP (pC (.int 4))))) (mCallE 2 1 φd (psCons (pC (.int 9)) psNil))) msNil))))) (mCallE 2 1 φd (psCons (pC (.int 4)) psNil)))
def lT1 : Sm := (mIfS (mB (bOr (bNot (pTru (pOp1 fIsInt (pName 5)))) (bOr (bNot (pB (pChain fLe fLe (pOp1 fNeg (pC (.int 32768))) (pName 5) (pC (.int 32767))))) (pB (pOp2 fNe (pOp2 fMod (pCall φInt (psCons (pOp2 fSub (pName 4) (pName 5)) psNil)) (pC (.int 65536))) (pC (.int 0)))))))
    (mRet (mP (pC (.bl false))))
    mNext)
def lT2 : Sm := (mIfS (mB (bOr (pB (pOp2 fNe (pCall (arity 1 φw) (psCons (pName 6) psNil)) (pName 6))) (pB (pOp2 fNe (pCall (arity 3 φop) (psCons (pC (.str "sub")) (psCons (pCall (arity 3 φop) (psCons (pC (.str "add")) (psCons (pName 6) (psCons (pName 7) psNil)))) (psCons (pName 7) psNil)))) (pName 6)))))
    (mRet (mP (pC (.bl false))))
    mNext)
def lNames : List D := [.str "add", .str "sub", .str "mul", .str "less", .str "equal"]
def lBody : Sm := mSeq (mSet 4 lNum) (mSeq (mSet 5 (mP (pCall (arity 1 φw) (psCons (pName 4) psNil)))) (mSeq lT1 (mSeq (mSet 6 (mCallE 1 1 φword psNil)) (mSeq (mSet 7 (mCallE 1 1 φword psNil))
  (mSeq (mFor (pSeq (pLst (psCons (pC (.str "add")) (psCons (pC (.str "sub")) (psCons (pC (.str "mul")) (psCons (pC (.str "less")) (psCons (pC (.str "equal")) psNil))))))) (tgName 8) lOps) lT2)))))
theorem num_eq (ds : List Int) (i : Nat) (R : Rc) (t n to o ot op : Option D) (hr : roAt R 1 = none) : ∃ x : Int, lNum R (lG (boxD ds i) t n to o ot op) = some (.int x, lG (boxD ds (i + 6)) t n to o ot op) := by
  have d1 : φd (boxD ds i) [.int 900] = some (.int (drawV ds i 900), boxD ds (i + 1)) := draw_eq ds i 900 (by decide)
  have d2 : φd (boxD ds (i + 1)) [.int 16] = some (.int (drawV ds (i + 1) 16), boxD ds (i + 2)) := draw_eq ds (i + 1) 16 (by decide)
  have d3 : φd (boxD ds (i + 2)) [.int 16] = some (.int (drawV ds (i + 2) 16), boxD ds (i + 3)) := draw_eq ds (i + 2) 16 (by decide)
  have d4 : φd (boxD ds (i + 3)) [.int 9] = some (.int (drawV ds (i + 3) 9), boxD ds (i + 4)) := draw_eq ds (i + 3) 9 (by decide)
  have d5 : φd (boxD ds (i + 4)) [.int 9] = some (.int (drawV ds (i + 4) 9), boxD ds (i + 5)) := draw_eq ds (i + 4) 9 (by decide)
  have d6 : φd (boxD ds (i + 5)) [.int 4] = some (.int (drawV ds (i + 5) 4), boxD ds (i + 6)) := draw_eq ds (i + 5) 4 (by decide)
  obtain ⟨k, e, hk⟩ : ∃ k : Nat, drawV ds (i + 5) 4 = (k : Int) ∧ k < 4 := drawN ds (i + 5) 4 (by decide)
  rw [e] at d6
  clear e
  unfold roAt at hr
  generalize boxD ds i = b0 at *
  generalize boxD ds (i + 1) = b1 at *
  generalize boxD ds (i + 2) = b2 at *
  generalize boxD ds (i + 3) = b3 at *
  generalize boxD ds (i + 4) = b4 at *
  generalize boxD ds (i + 5) = b5 at *
  generalize boxD ds (i + 6) = b6 at *
  generalize drawV ds i 900 = x1 at *
  generalize drawV ds (i + 1) 16 = x2 at *
  generalize drawV ds (i + 2) 16 = x3 at *
  generalize drawV ds (i + 3) 9 = x4 at *
  generalize drawV ds (i + 4) 9 = x5 at *
  unfold lNum lG
  generalize φd = φ at *
  match k, hk with
  | 0, _ => refine ⟨x1 - 450, ?_⟩; walk_at "ev"
  | 1, _ => refine ⟨32760 + x2, ?_⟩; walk_at "ev"
  | 2, _ => refine ⟨-32776 + x3, ?_⟩; walk_at "ev"
  | 3, _ => refine ⟨65536 * (x4 - 4) + x5, ?_⟩; walk_at "ev"
theorem ops_eq (ns : List Int) (b : D) (t n to op : Option D) (x y : Int) (h1 : -32768 ≤ x) (h2 : x ≤ 32767) (h3 : -32768 ≤ y) (h4 : y ≤ 32767) :
    ∃ op', exFor (tgName 8) lOps (lR ns) lNames (lG b t n to (some (.int x)) (some (.int y)) op) = some (.nx (lG b t n to (some (.int x)) (some (.int y)) op')) := by
  have hm : mulOk x y = true := mulOk_l (by omega) (by omega)
  obtain ⟨Γ', e, op', rfl⟩ := exFor_all (fun done Γ => ∃ op, Γ = lG b t n to (some (.int x)) (some (.int y)) op) lNames (R := lR ns) (t := tgName 8) (m := lOps) (Γ := lG b t n to (some (.int x)) (some (.int y)) op) ⟨op, rfl⟩ (by
    rintro done d rest Γ hall ⟨op, rfl⟩
    have hd : d ∈ lNames := by rw [hall]; simp
    obtain ⟨z, rfl, hz⟩ : ∃ z : Str, d = .str z ∧ (z = "add" ∨ z = "sub" ∨ z = "mul" ∨ z = "less" ∨ z = "equal") := by
      simp only [lNames, List.mem_cons, List.not_mem_nil, or_false] at hd
      rcases hd with rfl | rfl | rfl | rfl | rfl
      · exact ⟨_, rfl, .inl rfl⟩
      · exact ⟨_, rfl, .inr (.inl rfl)⟩
      · exact ⟨_, rfl, .inr (.inr (.inl rfl))⟩
      · exact ⟨_, rfl, .inr (.inr (.inr (.inl rfl)))⟩
      · exact ⟨_, rfl, .inr (.inr (.inr (.inr rfl)))⟩
    have o1 : φop [.str z, .int x, .int y] = _ := operate_eq z x y hm
    have o2 : φopd [.str z, .int x, .int y] = _ := operated_eq z x y hm hz
    have w := opV_ok z x y
    have sm : φsame [.int (opV z x y), .int (opV z x y)] = _ := same_eq _ (reprOk_int (log_of (by omega) (by omega)))
    refine ⟨lG b t n to (some (.int x)) (some (.int y)) (some (.str z)), lG b t n to (some (.int x)) (some (.int y)) (some (.str z)), ?_, .inl ?_, _, rfl⟩
    · unfold lG lR; walk_at "ev"
    · clear hz hd hall w hm
      unfold lG lR lOps
      generalize φop = f1 at *
      generalize φopd = f2 at *
      generalize φsame = f3 at *
      generalize opV z x y = v at *
      walk_at "ev")
  exact ⟨op', e⟩
end K00
set_option Elab.async false
set_option linter.all false
set_option maxRecDepth 100000
set_option maxHeartbeats 4000000
namespace K00
open PySem PySem.Spec PyProof.Rows L2 DL
local macro_rules | `(tactic| walk_at "ev") => `(tactic| simp [runP, runM, maskOk, roInit, ownInit, e_mSeq, e_mRet, e_mP, e_mIfS, e_mB, e_mNext, e_mSet, okSet, free, roAt, look, mine, e_pOp1, e_pOp2, pName, pC, e_pCall, e_psCons, e_psNil, e_pB, e_blD, e_bNot, e_bOr, e_bAnd, e_pTru, e_pImm, e_pIf, e_pOfB, e_pChain, e_chainK, f_ari,
  e_pTup, e_pLst, e_mTup, e_mLst, e_mOp2, e_mOp1, e_msCons, e_msNil, e_mMove, e_mSetIx, e_mAppend, e_mCallE, e_mCall, e_mTru, e_mBl, e_mbNot, e_mbAnd, e_mbOr, e_mIf, e_mDrop, e_mAsgT, e_on1, e_on2, e_on3, e_on4, e_lstD, e_intD, e_pPairs_nil, e_pPairs, e_pDct, f_key, f_keyi, f_get, f_geti, f_getK, f_repr, e_compGo, e_compGo0, e_compF, e_pComp, e_trTup, e_trCons, e_trNil, e_trName, allRo, nones, mergeE, wipeE,  str_inj, Sum.inr.injEq, Sum.inl.injEq, List.nodup_cons, List.nodup_nil, List.mem_cons, List.not_mem_nil,
  f_add, f_adds, f_addl, f_addt, f_sub, f_mul, f_mod, f_div, f_pow, mulOk_r, mulOk_l, powOk_of, small_of, divOk_of, f_neg, f_eqi, f_eqs, f_eqb, f_nei, f_nes, f_neb, f_lt, f_le, f_gt, f_ge, f_lens, f_lent, f_lenl, f_lenf, f_int, f_intb, f_isint, f_trub, f_trui, f_trul, f_trut, f_ixl, f_ixt, f_ixf,
  imm_non, imm_bl, imm_int, imm_str, imm_tup, imm_lst, imm_fz, immL_nil, immL_cons, immL_ints, at0, at1, at2, at3, at4, at5, at_nat, ixN0, ixN1, ixN2,
  List.length_cons, List.length_nil, List.length_map, List.getElem?_cons_zero, List.getElem?_cons_succ, List.getElem?_nil, List.set_cons_zero, List.set_cons_succ, List.cons_append, List.nil_append, List.replicate, Option.join_some, Option.join_none, Nat.sub_self, Nat.zero_add, Nat.reduceAdd, Nat.reduceSub, Nat.reduceLeDiff, Nat.reduceLT, if_true, if_false, ite_true, ite_false, decide_true, decide_false, Bool.and_true, Bool.true_and, Bool.not_true, Bool.not_false, Option.isNone_none, Option.isNone_some, List.contains_nil, List.contains_cons, reduceIte, decide_eq_true_eq, Bool.false_eq_true, Bool.and_self, tgName, e_mFor, e_pRng1, e_pRng2, e_pSeq, hideI, seqD, *])
theorem body_eq (ns : List Int) (ds : List Int) (i : Nat) (t n to o ot op : Option D) : ∃ n' to' o' ot' op', lBody (lR ns) (lG (boxD ds i) t n to o ot op) = some (.nx (lG (boxD ds (i + 14)) t n' to' o' ot' op')) := by
  obtain ⟨x, ex⟩ := num_eq ds i (lR ns) t n to o ot op rfl
  obtain ⟨w1, a1, a2, e1⟩ := word_eq ds (i + 6)
  obtain ⟨w2, a3, a4, e2⟩ := word_eq ds (i + 10)
  obtain ⟨op', eo⟩ := ops_eq ns (boxD ds (i + 14)) t (some (.int x)) (some (.int (wrapV x))) op w1 w2 a1 a2 a3 a4
  have e1' : φword (boxD ds (i + 6)) [] = some (.int w1, boxD ds (i + 10)) := e1
  have e2' : φword (boxD ds (i + 10)) [] = some (.int w2, boxD ds (i + 14)) := e2
  have ew := wrap_eq' x
  obtain ⟨k1, k2, k3⟩ := wrapV_ok x
  have ew1 := wrap_eq' w1
  rw [wrapV_id a1 a2] at ew1
  have m1 : mulOk w1 w2 = true := mulOk_l (by omega) (by omega)
  have p1 : φop [.str "add", .int w1, .int w2] = _ := operate_eq "add" w1 w2 m1
  have v1 := opV_ok "add" w1 w2
  have m2 : mulOk (opV "add" w1 w2) w2 = true := mulOk_l (by omega) (by omega)
  have p2 : φop [.str "sub", .int (opV "add" w1 w2), .int w2] = _ := operate_eq "sub" (opV "add" w1 w2) w2 m2
  rw [opV_back a1 a2 a3 a4] at p2
  refine ⟨some (.int x), some (.int (wrapV x)), some (.int w1), some (.int w2), op', ?_⟩
  clear e1 e2 v1 m1 m2
  generalize opV "add" w1 w2 = q at *
  generalize hb0 : boxD ds i = b0 at *
  generalize boxD ds (i + 6) = b1 at *
  generalize boxD ds (i + 10) = b2 at *
  generalize boxD ds (i + 14) = b3 at *
  clear hb0
  unfold lNames lG lR at eo
  unfold lG lR at ex
  unfold lBody lT1 lT2 lG lR
  generalize lOps = X at *
  generalize lNum = Y at *
  generalize φop = f1 at *
  generalize φword = f2 at *
  generalize φw = f3 at *
  generalize wrapV x = wx at *
  walk_at "ev"
theorem law_eq (ns : List Int) (hl : ns.length ≤ 63) : runP 10 [true] mLaw [.fz (ns.map .int)] = some (.bl true) := by
  obtain ⟨ds, ed⟩ := digits_ex ns 0 20 (by decide) (by decide)
  have ed' : φdig [.fz (ns.map .int), .int 0, .int 20] = some (.lst (ds.map .int)) := ed
  obtain ⟨Γ', e, i, t, n, to, o, ot, op, rfl⟩ := exFor_all (fun done Γ => ∃ (i : Nat) (t n to o ot op : Option D), Γ = lG (boxD ds i) t n to o ot op) (rng 0 8) (R := lR ns) (t := tgName 2) (m := lBody) (Γ := lG (boxD ds 0) none none none none none none) ⟨0, _, _, _, _, _, _, rfl⟩ (by
    rintro done d rest Γ hall ⟨i, t, n, to, o, ot, op, rfl⟩
    obtain ⟨rfl, hlt⟩ := rng_mid hall
    obtain ⟨n', to', o', ot', op', e⟩ := body_eq ns ds i (some (.int (0 + (done.length : Nat)))) n to o ot op
    refine ⟨_, _, ?_, .inl e, _, _, _, _, _, _, _, rfl⟩
    clear e
    generalize boxD ds i = b
    unfold lG lR
    walk_at "ev")
  have hm : mLaw = mSeq (mSet 1 (mP (pLst (psCons (pCall (arity 3 φdig) (psCons (pName 0) (psCons (pC (.int 0)) (psCons (pC (.int 20)) psNil)))) (psCons (pC (.int 0)) psNil))))) (mSeq (mFor (pRng1 (pC (.int 8))) (tgName 2) lBody)
    (mSeq (mSet 3 (mP (pLst (psCons (pTup (psCons (pC (.str "a")) (psCons (pC (.bl true)) psNil))) (psCons (pTup (psCons (pC (.str "a1b2c3")) (psCons (pC (.bl true)) psNil))) (psCons (pTup (psCons (pC (.str "abcdefg")) (psCons (pC (.bl false)) psNil))) (psCons (pTup (psCons (pC (.str "")) (psCons (pC (.bl false)) psNil))) (psCons (pTup (psCons (pC (.str "1a")) (psCons (pC (.bl false)) psNil))) psNil))))))))
    (mSeq (mSet 3 (mP (pOp2 fAdd (pName 3) (pLst (psCons (pTup (psCons (pC (.str "else")) (psCons (pC (.bl false)) psNil))) (psCons (pTup (psCons (pC (.str "elses")) (psCons (pC (.bl true)) psNil))) (psCons (pTup (psCons (pC (.str "A")) (psCons (pC (.bl false)) psNil))) (psCons (pTup (psCons (pC (.str "a-b")) (psCons (pC (.bl false)) psNil))) (psCons (pTup (psCons (pC (.str "print")) (psCons (pC (.bl true)) psNil))) (psCons (pTup (psCons (pC (.str "block")) (psCons (pC (.bl true)) psNil))) (psCons (pTup (psCons (pC (.str "a b")) (psCons (pC (.bl false)) psNil))) psNil)))))))))))
    (mRet (mP (pOp2 fEq (pCall φLen (psCons (pComp [9, 5] (pSeq (pName 3)) (trTup 2 (trCons (trName 9) (trCons (trName 5) trNil))) (pB (pOp2 fNe (pCall (arity 1 φisn) (psCons (pName 9) psNil)) (pName 5))) (pImm (pName 9))) psNil)) (pC (.int 0)))))))) := rfl
  have i1 := isn1
  have i2 := isn2
  have i3 := isn3
  have i4 := isn4
  have i5 := isn5
  have i6 := isn6
  have i7 := isn7
  have i8 := isn8
  have i9 := isn9
  have i10 := isn10
  have i11 := isn11
  have i12 := isn12
  rw [hm]
  clear hm ed
  have hb : boxD ds 0 = .lst [.lst (ds.map .int), .int 0] := rfl
  unfold lG lR at e
  rw [hb] at e
  generalize boxD ds i = b at *
  generalize lBody = X at *
  generalize φisn = f1 at *
  generalize φdig = f2 at *
  walk_at "ev"
end K00
set_option Elab.async false
set_option linter.all false
set_option maxRecDepth 100000
set_option maxHeartbeats 4000000
namespace K00
open PySem PySem.Spec PyProof.Rows L2 DL

theorem all_mk {l : PySem.W.OpenLaw} {w : World} {K : PySem.W.Frag} {h : Heap} {mg : Str → Option Value} {fa : Addr} (X : K.In h) (G : h.Ns mainGlobals mg) (hfa : mg "law" = some (.ref fa))
    {f0 : Addr} {od0 an0 : Option Addr} {sl0 : Array (Option Value)} {oc0 kV0 dc0 pm0 cd0 ct0 : Value}
    (a0 : PySem.W.nsIn K mainGlobals "wrap" = some (some (.ref f0))) (l0 : K.lookup f0 = some ⟨oc0, od0, .func (PySem.W.fnOf "wrap" "wrap" (defArgs s_wrap) (defBody s_wrap) (defScope s_wrap) .none kV0 dc0 pm0 an0 cd0 ct0), sl0⟩) (c0 : PySem.W.codeIn K cd0 "wrap" = true) (k0 : PySem.W.keepIn K (.ref f0) = true)
    {f1 : Addr} {od1 an1 : Option Addr} {sl1 : Array (Option Value)} {oc1 kV1 dc1 pm1 cd1 ct1 : Value}
    (a1 : PySem.W.nsIn K mainGlobals "operate" = some (some (.ref f1))) (l1 : K.lookup f1 = some ⟨oc1, od1, .func (PySem.W.fnOf "operate" "operate" (defArgs s_operate) (defBody s_operate) (defScope s_operate) .none kV1 dc1 pm1 an1 cd1 ct1), sl1⟩) (c1 : PySem.W.codeIn K cd1 "operate" = true) (k1 : PySem.W.keepIn K (.ref f1) = true)
    {f2 : Addr} {od2 an2 : Option Addr} {sl2 : Array (Option Value)} {oc2 kV2 dc2 pm2 cd2 ct2 : Value}
    (a2 : PySem.W.nsIn K mainGlobals "is_name" = some (some (.ref f2))) (l2 : K.lookup f2 = some ⟨oc2, od2, .func (PySem.W.fnOf "is_name" "is_name" (defArgs s_is_name) (defBody s_is_name) (defScope s_is_name) .none kV2 dc2 pm2 an2 cd2 ct2), sl2⟩) (c2 : PySem.W.codeIn K cd2 "is_name" = true) (k2 : PySem.W.keepIn K (.ref f2) = true)
    {f3 : Addr} {od3 an3 : Option Addr} {sl3 : Array (Option Value)} {oc3 kV3 dc3 pm3 cd3 ct3 : Value}
    (a3 : PySem.W.nsIn K mainGlobals "_law_cell" = some (some (.ref f3))) (l3 : K.lookup f3 = some ⟨oc3, od3, .func (PySem.W.fnOf "_law_cell" "_law_cell" (defArgs s__law_cell) (defBody s__law_cell) (defScope s__law_cell) .none kV3 dc3 pm3 an3 cd3 ct3), sl3⟩) (c3 : PySem.W.codeIn K cd3 "_law_cell" = true) (k3 : PySem.W.keepIn K (.ref f3) = true)
    {f4 : Addr} {od4 an4 : Option Addr} {sl4 : Array (Option Value)} {oc4 kV4 dc4 pm4 cd4 ct4 : Value}
    (a4 : PySem.W.nsIn K mainGlobals "_law_same" = some (some (.ref f4))) (l4 : K.lookup f4 = some ⟨oc4, od4, .func (PySem.W.fnOf "_law_same" "_law_same" (defArgs s__law_same) (defBody s__law_same) (defScope s__law_same) .none kV4 dc4 pm4 an4 cd4 ct4), sl4⟩) (c4 : PySem.W.codeIn K cd4 "_law_same" = true) (k4 : PySem.W.keepIn K (.ref f4) = true)
    {f5 : Addr} {od5 an5 : Option Addr} {sl5 : Array (Option Value)} {oc5 kV5 dc5 pm5 cd5 ct5 : Value}
    (a5 : PySem.W.nsIn K mainGlobals "_law_digits" = some (some (.ref f5))) (l5 : K.lookup f5 = some ⟨oc5, od5, .func (PySem.W.fnOf "_law_digits" "_law_digits" (defArgs s__law_digits) (defBody s__law_digits) (defScope s__law_digits) .none kV5 dc5 pm5 an5 cd5 ct5), sl5⟩) (c5 : PySem.W.codeIn K cd5 "_law_digits" = true) (k5 : PySem.W.keepIn K (.ref f5) = true)
    {f6 : Addr} {od6 an6 : Option Addr} {sl6 : Array (Option Value)} {oc6 kV6 dc6 pm6 cd6 ct6 : Value}
    (a6 : PySem.W.nsIn K mainGlobals "_law_draw" = some (some (.ref f6))) (l6 : K.lookup f6 = some ⟨oc6, od6, .func (PySem.W.fnOf "_law_draw" "_law_draw" (defArgs s__law_draw) (defBody s__law_draw) (defScope s__law_draw) .none kV6 dc6 pm6 an6 cd6 ct6), sl6⟩) (c6 : PySem.W.codeIn K cd6 "_law_draw" = true) (k6 : PySem.W.keepIn K (.ref f6) = true)
    {f7 : Addr} {od7 an7 : Option Addr} {sl7 : Array (Option Value)} {oc7 kV7 dc7 pm7 cd7 ct7 : Value}
    (a7 : PySem.W.nsIn K mainGlobals "_law_word" = some (some (.ref f7))) (l7 : K.lookup f7 = some ⟨oc7, od7, .func (PySem.W.fnOf "_law_word" "_law_word" (defArgs s__law_word) (defBody s__law_word) (defScope s__law_word) .none kV7 dc7 pm7 an7 cd7 ct7), sl7⟩) (c7 : PySem.W.codeIn K cd7 "_law_word" = true) (k7 : PySem.W.keepIn K (.ref f7) = true)
    {f8 : Addr} {od8 an8 : Option Addr} {sl8 : Array (Option Value)} {oc8 kV8 dc8 pm8 cd8 ct8 : Value}
    (a8 : PySem.W.nsIn K mainGlobals "_law_wrap" = some (some (.ref f8))) (l8 : K.lookup f8 = some ⟨oc8, od8, .func (PySem.W.fnOf "_law_wrap" "_law_wrap" (defArgs s__law_wrap) (defBody s__law_wrap) (defScope s__law_wrap) .none kV8 dc8 pm8 an8 cd8 ct8), sl8⟩) (c8 : PySem.W.codeIn K cd8 "_law_wrap" = true) (k8 : PySem.W.keepIn K (.ref f8) = true)
    {f9 : Addr} {od9 an9 : Option Addr} {sl9 : Array (Option Value)} {oc9 kV9 dc9 pm9 cd9 ct9 : Value}
    (a9 : PySem.W.nsIn K mainGlobals "_law_operated" = some (some (.ref f9))) (l9 : K.lookup f9 = some ⟨oc9, od9, .func (PySem.W.fnOf "_law_operated" "_law_operated" (defArgs s__law_operated) (defBody s__law_operated) (defScope s__law_operated) .none kV9 dc9 pm9 an9 cd9 ct9), sl9⟩) (c9 : PySem.W.codeIn K cd9 "_law_operated" = true) (k9 : PySem.W.keepIn K (.ref f9) = true)
    {f10 : Addr} {od10 an10 : Option Addr} {sl10 : Array (Option Value)} {oc10 kV10 dc10 pm10 cd10 ct10 : Value}
    (a10 : PySem.W.nsIn K mainGlobals "law" = some (some (.ref f10))) (l10 : K.lookup f10 = some ⟨oc10, od10, .func (PySem.W.fnOf "law" "law" (defArgs s_law) (defBody s_law) (defScope s_law) .none kV10 dc10 pm10 an10 cd10 ct10), sl10⟩) (c10 : PySem.W.codeIn K cd10 "law" = true) (k10 : PySem.W.keepIn K (.ref f10) = true)
    (z_all : PySem.W.nsIn K mainGlobals "all" = some none)
    (z_int : PySem.W.nsIn K mainGlobals "int" = some none)
    (z_isinstance : PySem.W.nsIn K mainGlobals "isinstance" = some none)
    (z_len : PySem.W.nsIn K mainGlobals "len" = some none)
    (z_range : PySem.W.nsIn K mainGlobals "range" = some none)
    (z_repr : PySem.W.nsIn K mainGlobals "repr" = some none)
    {t_DIGITS : Tok} (q_DIGITS : PySem.W.nsIn K mainGlobals "DIGITS" = some (some (.str "0123456789" t_DIGITS)))
    {t_LETTERS : Tok} (q_LETTERS : PySem.W.nsIn K mainGlobals "LETTERS" = some (some (.str "abcdefghijklmnopqrstuvwxyz" t_LETTERS)))
    {t_LONGEST_NAME : Tok} (q_LONGEST_NAME : PySem.W.nsIn K mainGlobals "LONGEST_NAME" = some (some (.int (6) t_LONGEST_NAME)))
    {t_WORDS_BELOW_ZERO : Tok} (q_WORDS_BELOW_ZERO : PySem.W.nsIn K mainGlobals "WORDS_BELOW_ZERO" = some (some (.int (32768) t_WORDS_BELOW_ZERO)))
    {t_WORDS_IN_ALL : Tok} (q_WORDS_IN_ALL : PySem.W.nsIn K mainGlobals "WORDS_IN_ALL" = some (some (.int (65536) t_WORDS_IN_ALL)))
    : ∃ fd : FuncData, (∀ (s : Shared) (v : Value), BindsTo s fd ⟨[v], []⟩ [("script", v)]) ∧ ∀ base : Heap, K.In base → base.Ns mainGlobals mg → FnG l.prog w K mg base 3 fa fd ["script"] (spP K 1 (runP 10 [true] mLaw)) := by
  have e := hfa.symm.trans (PySem.W.mg_of X G a10)
  cases e
  have F0 := fun_mk (st := s_wrap) l0 c0 k0
  have b0 := F0.binds (ps := ["integer"]) fun _ _ _ _ _ _ us hl => match us, hl with | [_], _ => rfl
  have F1 := fun_mk (st := s_operate) l1 c1 k1
  have b1 := F1.binds (ps := ["operation", "a", "b"]) fun _ _ _ _ _ _ us hl => match us, hl with | [_, _, _], _ => rfl
  have F2 := fun_mk (st := s_is_name) l2 c2 k2
  have b2 := F2.binds (ps := ["text"]) fun _ _ _ _ _ _ us hl => match us, hl with | [_], _ => rfl
  have F3 := fun_mk (st := s__law_cell) l3 c3 k3
  have b3 := F3.binds (ps := ["script", "k"]) fun _ _ _ _ _ _ us hl => match us, hl with | [_, _], _ => rfl
  have F4 := fun_mk (st := s__law_same) l4 c4 k4
  have b4 := F4.binds (ps := ["actual", "due"]) fun _ _ _ _ _ _ us hl => match us, hl with | [_, _], _ => rfl
  have F5 := fun_mk (st := s__law_digits) l5 c5 k5
  have b5 := F5.binds (ps := ["script", "first", "last"]) fun _ _ _ _ _ _ us hl => match us, hl with | [_, _, _], _ => rfl
  have F6 := fun_mk (st := s__law_draw) l6 c6 k6
  have b6 := F6.binds (ps := ["box", "many"]) fun _ _ _ _ _ _ us hl => match us, hl with | [_, _], _ => rfl
  have F7 := fun_mk (st := s__law_word) l7 c7 k7
  have b7 := F7.binds (ps := ["box"]) fun _ _ _ _ _ _ us hl => match us, hl with | [_], _ => rfl
  have F8 := fun_mk (st := s__law_wrap) l8 c8 k8
  have b8 := F8.binds (ps := ["number"]) fun _ _ _ _ _ _ us hl => match us, hl with | [_], _ => rfl
  have F9 := fun_mk (st := s__law_operated) l9 c9 k9
  have b9 := F9.binds (ps := ["operation", "a", "b"]) fun _ _ _ _ _ _ us hl => match us, hl with | [_, _, _], _ => rfl
  have F10 := fun_mk (st := s_law) l10 c10 k10
  have b10 := F10.binds (ps := ["script"]) fun _ _ _ _ _ _ us hl => match us, hl with | [_], _ => rfl
  refine ⟨PySem.W.fnOf "law" "law" (defArgs s_law) (defBody s_law) (defScope s_law) .none kV10 dc10 pm10 an10 cd10 ct10, fun s v => .of_eq rfl, fun base _ _ => ?_⟩
  have O0 : Own1 l.prog w K mg base 1 "wrap" 1 _ := ⟨⟨_, _, _, ok_wrap (k_WORDS_BELOW_ZERO := PySem.W.mg_of X G q_WORDS_BELOW_ZERO) (k_WORDS_IN_ALL := PySem.W.mg_of X G q_WORDS_IN_ALL)  (F := F0), PySem.W.mg_of X G a0, k0, b0⟩⟩
  have O1 : Own1 l.prog w K mg base 2 "operate" 3 _ := ⟨⟨_, _, _, ok_operate  (F_wrap := O0) (F := F1), PySem.W.mg_of X G a1, k1, b1⟩⟩
  have O2 : Own1 l.prog w K mg base 1 "is_name" 1 _ := ⟨⟨_, _, _, ok_is_name (g_len := PySem.W.mg_none_of X G z_len) (k_LONGEST_NAME := PySem.W.mg_of X G q_LONGEST_NAME) (k_LETTERS := PySem.W.mg_of X G q_LETTERS) (k_DIGITS := PySem.W.mg_of X G q_DIGITS) (g_all := PySem.W.mg_none_of X G z_all)  (F := F2), PySem.W.mg_of X G a2, k2, b2⟩⟩
  have O3 : Own1 l.prog w K mg base 1 "_law_cell" 2 _ := ⟨⟨_, _, _, ok__law_cell (g_len := PySem.W.mg_none_of X G z_len)  (F := F3), PySem.W.mg_of X G a3, k3, b3⟩⟩
  have O4 : Own1 l.prog w K mg base 1 "_law_same" 2 _ := ⟨⟨_, _, _, ok__law_same (g_repr := PySem.W.mg_none_of X G z_repr)  (F := F4), PySem.W.mg_of X G a4, k4, b4⟩⟩
  have O5 : Own1 l.prog w K mg base 2 "_law_digits" 3 _ := ⟨⟨_, _, _, ok__law_digits (g_range := PySem.W.mg_none_of X G z_range) (g_int := PySem.W.mg_none_of X G z_int) (F__law_cell := O3) (F := F5), PySem.W.mg_of X G a5, k5, b5⟩⟩
  have O6 : Own2 l.prog w K mg base 1 "_law_draw" 2 _ := ⟨⟨_, _, _, ok__law_draw (g_len := PySem.W.mg_none_of X G z_len) (g_int := PySem.W.mg_none_of X G z_int)  (F := F6), PySem.W.mg_of X G a6, k6, b6⟩⟩
  have O7 : Own2 l.prog w K mg base 2 "_law_word" 1 _ := ⟨⟨_, _, _, ok__law_word  (F__law_draw := O6) (F := F7), PySem.W.mg_of X G a7, k7, b7⟩⟩
  have O8 : Own1 l.prog w K mg base 1 "_law_wrap" 1 _ := ⟨⟨_, _, _, ok__law_wrap (g_int := PySem.W.mg_none_of X G z_int)  (F := F8), PySem.W.mg_of X G a8, k8, b8⟩⟩
  have O9 : Own1 l.prog w K mg base 2 "_law_operated" 3 _ := ⟨⟨_, _, _, ok__law_operated (g_int := PySem.W.mg_none_of X G z_int) (F__law_wrap := O8) (F := F9), PySem.W.mg_of X G a9, k9, b9⟩⟩
  exact ok_law (g_range := PySem.W.mg_none_of X G z_range) (g_isinstance := PySem.W.mg_none_of X G z_isinstance) (g_int := PySem.W.mg_none_of X G z_int) (g_len := PySem.W.mg_none_of X G z_len) (F__law_digits := O5) (F__law_draw := O6) (F_wrap := O0) (F__law_word := O7) (F__law_same := O4) (F__law_operated := O9) (F_operate := O1) (F_is_name := O2) (F := F10)
theorem walk {l : PySem.W.OpenLaw} {q : Program} {loose : List Str} {XP : (Str → Option Value) → Heap → Prop} {YP : World → Heap → Prop} {d : DefRec} {K : Params → PySem.W.Frag} (hn : l.most = some 63) (hdf : d.params.defaults = []) (hY : ∀ (w : World) (h : Heap), YP w h → (K w.params).In h)
    (F : ∀ (w : World) (mg : Str → Option Value) (fa : Addr) (h : Heap), (K w.params).In h → h.Ns mainGlobals mg → mg d.name = some (.ref fa) → ∃ fd : FuncData, (∀ (s : Shared) (u : Value), BindsTo s fd ⟨[u], []⟩ [("script", u)]) ∧ ∀ base : Heap, (K w.params).In base → base.Ns mainGlobals mg → FnG l.prog w (K w.params) mg base 3 fa fd ["script"] (spP (K w.params) 1 (runP 10 [true] mLaw))) :
    PySem.W.WalkO q loose XP YP l.row.toRowW d [] (fun f vs => PySem.call f vs) :=
  walkG (n := 63) (k := 3) (x := "script") (sp := fun w => spP (K w.params) 1 (runP 10 [true] mLaw)) hn (by decide) hdf ⟨rfl, by decide, by decide⟩ hY F (fun w H a ns hl o => law_good (fun ns h => law_eq ns h) (K w.params) H a ns hl o)
end K00
open PySem PySem.W PyProof.Rows
set_option maxRecDepth 100000 in
set_option maxHeartbeats 0 in
theorem PySem.Challenge.cw_stopsheld_k00_words_exact_holds : PySem.Challenge.rw_stopsheld_k00_words_exact.Holds := by
  w_on; o_law; k_head; (case hw => w_witness2)
  k_fill
  refine K00.walk (l := PySem.Challenge.rw_stopsheld_k00_words_exact) rfl rfl (fun w h Y => PySem.W.kIn_of Y) ?F
  case F =>
    intro w mg fa h KX G hmg
    refine' K00.all_mk KX G hmg ?a0 ?l0 ?c0 ?k0 ?a1 ?l1 ?c1 ?k1 ?a2 ?l2 ?c2 ?k2 ?a3 ?l3 ?c3 ?k3 ?a4 ?l4 ?c4 ?k4 ?a5 ?l5 ?c5 ?k5 ?a6 ?l6 ?c6 ?k6 ?a7 ?l7 ?c7 ?k7 ?a8 ?l8 ?c8 ?k8 ?a9 ?l9 ?c9 ?k9 ?a10 ?l10 ?c10 ?k10 ?z_all ?z_int ?z_isinstance ?z_len ?z_range ?z_repr ?q_DIGITS ?q_LETTERS ?q_LONGEST_NAME ?q_WORDS_BELOW_ZERO ?q_WORDS_IN_ALL
    (case a0 => k_is)
    (case l0 => k_is)
    (case c0 => k_is)
    (case k0 => k_is)
    (case a1 => k_is)
    (case l1 => k_is)
    (case c1 => k_is)
    (case k1 => k_is)
    (case a2 => k_is)
    (case l2 => k_is)
    (case c2 => k_is)
    (case k2 => k_is)
    (case a3 => k_is)
    (case l3 => k_is)
    (case c3 => k_is)
    (case k3 => k_is)
    (case a4 => k_is)
    (case l4 => k_is)
    (case c4 => k_is)
    (case k4 => k_is)
    (case a5 => k_is)
    (case l5 => k_is)
    (case c5 => k_is)
    (case k5 => k_is)
    (case a6 => k_is)
    (case l6 => k_is)
    (case c6 => k_is)
    (case k6 => k_is)
    (case a7 => k_is)
    (case l7 => k_is)
    (case c7 => k_is)
    (case k7 => k_is)
    (case a8 => k_is)
    (case l8 => k_is)
    (case c8 => k_is)
    (case k8 => k_is)
    (case a9 => k_is)
    (case l9 => k_is)
    (case c9 => k_is)
    (case k9 => k_is)
    (case a10 => k_is)
    (case l10 => k_is)
    (case c10 => k_is)
    (case k10 => k_is)
    (case z_all => k_is)
    (case z_int => k_is)
    (case z_isinstance => k_is)
    (case z_len => k_is)
    (case z_range => k_is)
    (case z_repr => k_is)
    (case q_DIGITS => k_is)
    (case q_LETTERS => k_is)
    (case q_LONGEST_NAME => k_is)
    (case q_WORDS_BELOW_ZERO => k_is)
    (case q_WORDS_IN_ALL => k_is)
