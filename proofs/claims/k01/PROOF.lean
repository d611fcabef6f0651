import PyProof.Rows.All
import Wide.All
import OpenK.AllK
import Wide.FinOn
import HandS.Base
import HandS.Call
import HandS.List
import HandS.Words
import HandS.ExcInit
import HandS.ExcIs
import HandS.ExcOwn
import KE.KExcIs
import HandS.Comp
import HandS.Iter
import HandS.Zip
import HandS.IsInst
import HandS.TupAny
import HandS.TupMul
import HandS.Wide
import HandS.WideBits
import HandS.Gcd
import HandS.ExcValue
import HandS.Dict
import HandS.Ends
import HandS.HeadHook1
import PySem.Challenge.RW_sweepends_k01_errors_each_of_its_own
set_option Elab.async false
set_option linter.all false
-- DA
set_option maxRecDepth 100000
namespace DL
open PySem PySem.Spec PyProof.Rows L2

/-- Python data as one term: what a value stands for, heap and all -/
inductive D where
  | non | bl (b : Bool) | int (i : Int) | str (x : Str) | ty (n : String)
  | tup (xs : List D) | lst (xs : List D) | dic (kvs : List (Key × D))
  | ref (a : Addr)
  | scr (ns : List Int)
  | exc (C : Addr) (fs : Option (Str × D))

section
variable (K : PySem.W.Frag) (F : Hp)
mutual
inductive Rep : V → D → Prop
  | non : Rep .non .non
  | bl (b : Bool) : Rep (.bl b) (.bl b)
  | int (i : Int) : Rep (.int i) (.int i)
  | str (x : Str) : Rep (.str x) (.str x)
  | ty (n : String) : Rep (.ty n) (.ty n)
  | tup {a : Addr} {vs : List V} {ds : List D} : SqT K F a vs → Reps vs ds → Rep (.ref a) (.tup ds)
  | lst {a : Addr} {vs : List V} {ds : List D} : F a = some (.lst vs) → Reps vs ds → Rep (.ref a) (.lst ds)
  | dic {a : Addr} {kvs : List (Key × V)} {kds : List (Key × D)} : F a = some (.dK kvs) → RepK kvs kds → Rep (.ref a) (.dic kds)
  | ref (a : Addr) : Rep (.ref a) (.ref a)
  | scr {a : Addr} {ns : List Int} : SqL K F a (ns.map V.int) → Rep (.ref a) (.scr ns)
  | excB {a C : Addr} : F a = some (exo a C none) → Rep (.ref a) (.exc C none)
  | excI {a C dx : Addr} {f : Str} {v : V} {d : D} : F a = some (exo a C (some dx)) → F dx = some (exd dx [(f, v)]) → Rep v d → Rep (.ref a) (.exc C (some (f, d)))
inductive Reps : List V → List D → Prop
  | nil : Reps [] []
  | cons {v : V} {vs : List V} {d : D} {ds : List D} : Rep v d → Reps vs ds → Reps (v :: vs) (d :: ds)
inductive RepK : List (Key × V) → List (Key × D) → Prop
  | nil : RepK [] []
  | cons {k : Key} {v : V} {vs : List (Key × V)} {d : D} {ds : List (Key × D)} : Rep v d → RepK vs ds → RepK ((k, v) :: vs) ((k, d) :: ds)
end
end
def Ex (H H' : Hp) : Prop := ∀ a o, H a = some o → H' a = some o
theorem Ex.refl (H : Hp) : Ex H H := fun _ _ h => h
theorem Ex.trans {H H1 H2 : Hp} (a : Ex H H1) (b : Ex H1 H2) : Ex H H2 := fun x o h => b x o (a x o h)
theorem Ex.new {H : Hp} {p : Addr} {o : HO} (h : H p = none) : Ex H (upd H p o) := fun a u e => by
  rw [upd_ne (ne_of_none e h)]
  exact e
theorem ex_rd {H H' : Hp} {a : Addr} {u : HO} (e : Ex H H') (h : Rd H a u) : Rd H' a u := by
  rcases h with h | ⟨o, h⟩
  · exact Or.inl (e a _ h)
  · exact Or.inr ⟨o, e a _ h⟩
theorem ex_l {K : PySem.W.Frag} {H H' : Hp} {a : Addr} {xs : List V} (e : Ex H H') (h : SqL K H a xs) : SqL K H' a xs := by
  rcases h with h | h
  · exact Or.inl (ex_rd e h)
  · exact Or.inr h
theorem ex_t {K : PySem.W.Frag} {H H' : Hp} {a : Addr} {xs : List V} (e : Ex H H') (h : SqT K H a xs) : SqT K H' a xs := by
  rcases h with h | h
  · exact Or.inl (ex_rd e h)
  · exact Or.inr h
section
variable {K : PySem.W.Frag} {F F' : Hp}
mutual
theorem Rep.mono (e : Ex F F') : ∀ {v : V} {d : D}, Rep K F v d → Rep K F' v d
  | _, _, .non => .non
  | _, _, .bl b => .bl b
  | _, _, .int i => .int i
  | _, _, .str x => .str x
  | _, _, .ty n => .ty n
  | _, _, .tup h r => .tup (ex_t e h) (Reps.mono e r)
  | _, _, .lst h r => .lst (e _ _ h) (Reps.mono e r)
  | _, _, .dic h r => .dic (e _ _ h) (RepK.mono e r)
  | _, _, .ref a => .ref a
  | _, _, .scr h => .scr (ex_l e h)
  | _, _, .excB h => .excB (e _ _ h)
  | _, _, .excI h h2 r => .excI (e _ _ h) (e _ _ h2) (Rep.mono e r)
theorem Reps.mono (e : Ex F F') : ∀ {vs : List V} {ds : List D}, Reps K F vs ds → Reps K F' vs ds
  | _, _, .nil => .nil
  | _, _, .cons h r => .cons (Rep.mono e h) (Reps.mono e r)
theorem RepK.mono (e : Ex F F') : ∀ {vs : List (Key × V)} {ds : List (Key × D)}, RepK K F vs ds → RepK K F' vs ds
  | _, _, .nil => .nil
  | _, _, .cons h r => .cons (Rep.mono e h) (RepK.mono e r)
end
theorem Reps.length : ∀ {vs : List V} {ds : List D}, Reps K F vs ds → vs.length = ds.length
  | _, _, .nil => rfl
  | _, _, .cons _ r => by rw [List.length_cons, List.length_cons, Reps.length r]
theorem Reps.get : ∀ {vs : List V} {ds : List D} {i : Nat} {d : D}, Reps K F vs ds → ds[i]? = some d → ∃ v, vs[i]? = some v ∧ Rep K F v d
  | _, _, _, _, .nil, e => by simp at e
  | _, _, 0, _, .cons r _, e => by
    simp at e
    subst e
    exact ⟨_, rfl, r⟩
  | _, _, i + 1, x, .cons _ t, e => by
    obtain ⟨u, h1, h2⟩ := Reps.get (i := i) (d := x) t (by simpa using e)
    exact ⟨u, by simpa using h1, h2⟩
theorem Reps.getV : ∀ {vs : List V} {ds : List D} {i : Nat} {v : V}, Reps K F vs ds → vs[i]? = some v → ∃ d, ds[i]? = some d ∧ Rep K F v d
  | _, _, _, _, .nil, e => by simp at e
  | _, _, 0, _, .cons r _, e => by
    simp at e
    subst e
    exact ⟨_, rfl, r⟩
  | _, _, i + 1, x, .cons _ t, e => by
    obtain ⟨u, h1, h2⟩ := Reps.getV (i := i) (v := x) t (by simpa using e)
    exact ⟨u, by simpa using h1, h2⟩
theorem Reps.append : ∀ {vs ws : List V} {ds es : List D}, Reps K F vs ds → Reps K F ws es → Reps K F (vs ++ ws) (ds ++ es)
  | _, _, _, _, .nil, s => s
  | _, _, _, _, .cons r t, s => .cons r (Reps.append t s)
theorem Reps.take : ∀ {vs : List V} {ds : List D} (n : Nat), Reps K F vs ds → Reps K F (vs.take n) (ds.take n)
  | _, _, 0, _ => .nil
  | _, _, _ + 1, .nil => .nil
  | _, _, n + 1, .cons r t => .cons r (Reps.take n t)
theorem Reps.drop : ∀ {vs : List V} {ds : List D} (n : Nat), Reps K F vs ds → Reps K F (vs.drop n) (ds.drop n)
  | _, _, 0, r => r
  | _, _, _ + 1, .nil => .nil
  | _, _, n + 1, .cons _ t => Reps.drop n t
theorem Reps.set {v : V} {d : D} (r : Rep K F v d) : ∀ {vs : List V} {ds : List D} (i : Nat), Reps K F vs ds → Reps K F (vs.set i v) (ds.set i d)
  | _, _, _, .nil => .nil
  | _, _, 0, .cons _ t => .cons r t
  | _, _, i + 1, .cons q t => .cons q (Reps.set r i t)
end

/-- the lists that may change -/
abbrev Mem := Addr → Option (List D)
def mset (μ : Mem) (a : Addr) (xs : List D) : Mem := fun b => if b = a then some xs else μ b
theorem mset_same {μ : Mem} {a : Addr} {xs : List D} : mset μ a xs a = some xs := by unfold mset; rw [if_pos rfl]
theorem mset_ne {μ : Mem} {a b : Addr} {xs : List D} (h : b ≠ a) : mset μ a xs b = μ b := by unfold mset; rw [if_neg h]
theorem mset_mset {μ : Mem} {a : Addr} {xs ys : List D} : mset (mset μ a xs) a ys = mset μ a ys := by
  funext b; unfold mset; split <;> rfl
theorem mset_id {μ : Mem} {a : Addr} {xs : List D} (h : μ a = some xs) : mset μ a xs = μ := by
  funext b; unfold mset; split
  · rename_i e; subst e; exact h.symm
  · rfl

/-- the heap H lies as: F what stays as it is, μ the lists that may change -/
structure Lay (K : PySem.W.Frag) (F : Hp) (μ : Mem) (H : Hp) : Prop where
  fz : Ex F H
  mu : ∀ a xs, μ a = some xs → F a = none ∧ ∃ vs, H a = some (.lst vs) ∧ Reps K F vs xs

section
variable {K : PySem.W.Frag} {F : Hp} {μ : Mem} {H : Hp}
theorem Lay.none_mu (l : Lay K F μ H) {p : Addr} (h : H p = none) : μ p = none := by
  cases e : μ p with
  | none => rfl
  | some xs =>
    obtain ⟨_, vs, e2, _⟩ := l.mu p xs e
    rw [h] at e2
    cases e2
theorem Lay.none_F (l : Lay K F μ H) {p : Addr} (h : H p = none) : F p = none := by
  cases e : F p with
  | none => rfl
  | some o =>
    have := l.fz p o e
    rw [h] at this
    cases this
/-- a new thing that stays -/
theorem Lay.new (l : Lay K F μ H) {p : Addr} (h : H p = none) (o : HO) : Lay K (upd F p o) μ (upd H p o) where
  fz := fun a u e => by
    by_cases z : a = p
    · subst z
      rw [upd_same] at e ⊢
      exact e
    · rw [upd_ne z] at e ⊢
      exact l.fz a u e
  mu := fun a xs e => by
    obtain ⟨h1, vs, h2, h3⟩ := l.mu a xs e
    have z : a ≠ p := ne_of_none h2 h
    rw [upd_ne z, upd_ne z]
    exact ⟨h1, vs, h2, h3.mono (Ex.new (l.none_F h))⟩
/-- a new list that may change -/
theorem Lay.newM (l : Lay K F μ H) {p : Addr} (h : H p = none) {vs : List V} {xs : List D} (r : Reps K F vs xs) : Lay K F (mset μ p xs) (upd H p (.lst vs)) where
  fz := fun a u e => by
    rw [upd_ne (ne_of_none (l.fz a u e) h)]
    exact l.fz a u e
  mu := fun a ys e => by
    by_cases z : a = p
    · subst z
      rw [mset_same] at e
      cases e
      exact ⟨l.none_F h, vs, upd_same, r⟩
    · rw [mset_ne z] at e
      obtain ⟨h1, ws, h2, h3⟩ := l.mu a ys e
      exact ⟨h1, ws, by rw [upd_ne z]; exact h2, h3⟩
/-- a list that may change, changed -/
theorem Lay.put (l : Lay K F μ H) {p : Addr} {xs ys : List D} (h : μ p = some xs) {vs : List V} (r : Reps K F vs ys) : Lay K F (mset μ p ys) (upd H p (.lst vs)) where
  fz := fun a u e => by
    obtain ⟨h1, _⟩ := l.mu p xs h
    rw [upd_ne (ne_of_none e h1)]
    exact l.fz a u e
  mu := fun a zs e => by
    by_cases z : a = p
    · subst z
      rw [mset_same] at e
      cases e
      exact ⟨(l.mu a xs h).1, vs, upd_same, r⟩
    · rw [mset_ne z] at e
      obtain ⟨h1, ws, h2, h3⟩ := l.mu a zs e
      exact ⟨h1, ws, by rw [upd_ne z]; exact h2, h3⟩
def mdel (μ : Mem) (a : Addr) : Mem := fun b => if b = a then none else μ b
theorem mdel_mset {μ : Mem} {a : Addr} {xs : List D} (h : μ a = none) : mdel (mset μ a xs) a = μ := by
  funext b; unfold mdel mset; split
  · rename_i e; subst e; exact h.symm
  · rfl
/-- a list that will not change any more -/
theorem Lay.freeze (l : Lay K F μ H) {p : Addr} {xs : List D} (h : μ p = some xs) : ∃ vs, H p = some (.lst vs) ∧ F p = none ∧ Lay K (upd F p (.lst vs)) (mdel μ p) H ∧ Rep K (upd F p (.lst vs)) (.ref p) (.lst xs) := by
  obtain ⟨h1, vs, h2, h3⟩ := l.mu p xs h
  have ex : Ex F (upd F p (.lst vs)) := Ex.new h1
  refine ⟨vs, h2, h1, ⟨fun a u e => ?_, fun a ys e => ?_⟩, .lst upd_same (h3.mono ex)⟩
  · by_cases z : a = p
    · subst z
      rw [upd_same] at e
      cases e
      exact h2
    · rw [upd_ne z] at e
      exact l.fz a u e
  · unfold mdel at e
    split at e
    · cases e
    · rename_i z
      obtain ⟨g1, ws, g2, g3⟩ := l.mu a ys e
      exact ⟨by rw [upd_ne z]; exact g1, ws, g2, g3.mono ex⟩
end

/-! ### slots -/
abbrev DSt := List (Option D)
inductive RepSt (K : PySem.W.Frag) (F : Hp) : L2.St → DSt → Prop
  | nil : RepSt K F [] []
  | no {σ : L2.St} {δ : DSt} {o : Option V} : RepSt K F σ δ → RepSt K F (o :: σ) (none :: δ)
  | so {σ : L2.St} {δ : DSt} {v : V} {d : D} : Rep K F v d → RepSt K F σ δ → RepSt K F (some v :: σ) (some d :: δ)
section
variable {K : PySem.W.Frag} {F F' : Hp}
theorem RepSt.mono (e : Ex F F') : ∀ {σ : L2.St} {δ : DSt}, RepSt K F σ δ → RepSt K F' σ δ
  | _, _, .nil => .nil
  | _, _, .no r => .no (RepSt.mono e r)
  | _, _, .so h r => .so (h.mono e) (RepSt.mono e r)
theorem RepSt.get : ∀ {σ : L2.St} {δ : DSt} {i : Nat} {d : D}, RepSt K F σ δ → δ[i]? = some (some d) → ∃ v, σ[i]? = some (some v) ∧ Rep K F v d
  | _, _, _, _, .nil, e => by simp at e
  | _, _, 0, _, .no _, e => by simp at e
  | _, _, i + 1, d, .no r, e => by
    obtain ⟨v, h1, h2⟩ := RepSt.get (i := i) (d := d) r (by simpa using e)
    exact ⟨v, by simpa using h1, h2⟩
  | _, _, 0, _, .so h _, e => by
    simp at e
    subst e
    exact ⟨_, rfl, h⟩
  | _, _, i + 1, d, .so _ r, e => by
    obtain ⟨v, h1, h2⟩ := RepSt.get (i := i) (d := d) r (by simpa using e)
    exact ⟨v, by simpa using h1, h2⟩
theorem RepSt.set {v : V} {d : D} (h : Rep K F v d) : ∀ {σ : L2.St} {δ : DSt} (i : Nat), RepSt K F σ δ → RepSt K F (σ.set i (some v)) (δ.set i (some d))
  | _, _, _, .nil => .nil
  | _, _, 0, .no r => .so h r
  | _, _, i + 1, .no r => .no (RepSt.set h i r)
  | _, _, 0, .so _ r => .so h r
  | _, _, i + 1, .so g r => .so g (RepSt.set h i r)
theorem RepSt.length : ∀ {σ : L2.St} {δ : DSt}, RepSt K F σ δ → σ.length = δ.length
  | _, _, .nil => rfl
  | _, _, .no r => by rw [List.length_cons, List.length_cons, RepSt.length r]
  | _, _, .so _ r => by rw [List.length_cons, List.length_cons, RepSt.length r]
end

/-! ### readings over D -/
abbrev DK := D → Mem → Prop
abbrev TD := DSt → Mem → DK → Prop
abbrev TDT := DSt → Mem → (Bool → Mem → Prop) → Prop
abbrev TDA := DSt → Mem → (List D → Mem → Prop) → Prop
structure DEnds where
  nx : DSt → Mem → Prop
  rt : DK
  bk : DSt → Mem → Prop := fun _ _ => False
  ct : DSt → Mem → Prop := fun _ _ => False
abbrev TDS := DEnds → DSt → Mem → Prop

/-- what is wanted over H, from what is wanted over D -/
def KOf (K : PySem.W.Frag) (F : Hp) (QD : DK) (Q : VK) : Prop := ∀ v d F' μ' H', Ex F F' → Lay K F' μ' H' → Rep K F' v d → QD d μ' → Q v H'
def eOf (K : PySem.W.Frag) (td : TD) : TE := fun σ H Q => ∃ δ F μ QD, Lay K F μ H ∧ RepSt K F σ δ ∧ td δ μ QD ∧ KOf K F QD Q
def bOf (K : PySem.W.Frag) (td : TDT) : TT := fun σ H Q => ∃ δ F μ QD, Lay K F μ H ∧ RepSt K F σ δ ∧ td δ μ QD ∧ ∀ b F' μ' H', Ex F F' → Lay K F' μ' H' → QD b μ' → Q b H'
def aOf (K : PySem.W.Frag) (td : TDA) : TA := fun σ H Q => ∃ δ F μ QD, Lay K F μ H ∧ RepSt K F σ δ ∧ td δ μ QD ∧ ∀ vs ds F' μ' H', Ex F F' → Lay K F' μ' H' → Reps K F' vs ds → QD ds μ' → Q vs H'
def SOf (K : PySem.W.Frag) (F : Hp) (QD : DSt → Mem → Prop) (Q : L2.St → Hp → Prop) : Prop := ∀ σ δ F' μ' H', Ex F F' → Lay K F' μ' H' → RepSt K F' σ δ → QD δ μ' → Q σ H'
def EOf (K : PySem.W.Frag) (F : Hp) (ED : DEnds) (E : Ends) : Prop := SOf K F ED.nx E.nx ∧ KOf K F ED.rt E.rt ∧ SOf K F ED.bk E.bk ∧ SOf K F ED.ct E.ct
def sOf (K : PySem.W.Frag) (td : TDS) : TS := fun E σ H => ∃ δ F μ ED, Lay K F μ H ∧ RepSt K F σ δ ∧ td ED δ μ ∧ EOf K F ED E
section
variable {K : PySem.W.Frag} {F F' : Hp}
theorem KOf.mono {QD : DK} {Q : VK} (h : KOf K F QD Q) (e : Ex F F') : KOf K F' QD Q := fun v d F'' μ' H' e' l r q => h v d F'' μ' H' (e.trans e') l r q
theorem SOf.mono {QD : DSt → Mem → Prop} {Q : L2.St → Hp → Prop} (h : SOf K F QD Q) (e : Ex F F') : SOf K F' QD Q := fun v d F'' μ' H' e' l r q => h v d F'' μ' H' (e.trans e') l r q
theorem EOf.mono {ED : DEnds} {E : Ends} (h : EOf K F ED E) (e : Ex F F') : EOf K F' ED E := ⟨h.1.mono e, h.2.1.mono e, h.2.2.1.mono e, h.2.2.2.mono e⟩
end

section
variable {X : Cx}
theorem PE.weak {e : Expr} {t u : TE} (h : PE X e t) (k : ∀ σ H Q, u σ H Q → t σ H Q) : PE X e u := ⟨fun pins s σ H Q I q => h.run pins s σ H Q I (k _ _ _ q)⟩
theorem PT.weak {e : Expr} {t u : TT} (h : PT X e t) (k : ∀ σ H Q, u σ H Q → t σ H Q) : PT X e u := ⟨fun pins s σ H Q I q => h.run pins s σ H Q I (k _ _ _ q)⟩
theorem PA.weak {e : List Expr} {t u : TA} (h : PA X e t) (k : ∀ σ H Q, u σ H Q → t σ H Q) : PA X e u := ⟨fun pos pins s σ H Q I q => h.run pos pins s σ H Q I (k _ _ _ q)⟩
theorem PS.weak {e : Stmt} {t u : TS} (h : PS X e t) (k : ∀ D σ H, u D σ H → t D σ H) : PS X e u := ⟨fun pins s σ H D I q => h.run pins s σ H D I (k _ _ _ q)⟩
theorem PSs.weak {e : List Stmt} {t u : TS} (h : PSs X e t) (k : ∀ D σ H, u D σ H → t D σ H) : PSs X e u := ⟨fun pins s σ H D I q => h.run pins s σ H D I (k _ _ _ q)⟩
end

/-- the judgements over D -/
abbrev DE (X : Cx) (e : Expr) (t : TD) : Prop := PE X e (eOf X.K t)
abbrev DT (X : Cx) (e : Expr) (t : TDT) : Prop := PT X e (bOf X.K t)
abbrev DA (X : Cx) (e : List Expr) (t : TDA) : Prop := PA X e (aOf X.K t)
abbrev DS (X : Cx) (e : Stmt) (t : TDS) : Prop := PS X e (sOf X.K t)
abbrev DSs (X : Cx) (e : List Stmt) (t : TDS) : Prop := PSs X e (sOf X.K t)

/-! ### names and constants -/
def dVar (i : Nat) : TD := fun δ μ Q => ∃ d, δ[i]? = some (some d) ∧ Q d μ
def dC (d : D) : TD := fun _ μ Q => Q d μ
section
variable {X : Cx}
theorem de_var (i : Nat) {x : Str} {pos : Pos} (h : PE X (.Name x pos) (tVar i)) : DE X (.Name x pos) (dVar i) := by
  refine PE.weak h fun σ H Q ⟨δ, F, μ, QD, l, r, ⟨d, e, q⟩, k⟩ => ?_
  obtain ⟨v, e1, r1⟩ := r.get e
  exact ⟨v, e1, k v d F μ H (Ex.refl F) l r1 q⟩
theorem de_c {e : Expr} {v : V} {d : D} (h : PE X e (tC v)) (r : ∀ F, Rep X.K F v d) : DE X e (dC d) :=
  PE.weak h fun σ H Q ⟨δ, F, μ, QD, l, rs, q, k⟩ => k v d F μ H (Ex.refl F) l (r F) q
theorem de_int {i j pos} : DE X (.Constant (.int i) j pos) (dC (.int i)) := de_c pe_int fun _ => .int _
theorem de_bl {b j pos} : DE X (.Constant (.bool b) j pos) (dC (.bl b)) := de_c pe_bl fun _ => .bl _
theorem de_non {j pos} : DE X (.Constant .none j pos) (dC .non) := de_c pe_non fun _ => .non
theorem de_str {x j pos} : DE X (.Constant (.str x) j pos) (dC (.str x)) := de_c pe_str fun _ => .str _

/-! ### two-place operations -/
def dOp (r : D → D → Mem → DK → Prop) (ta tb : TD) : TD := fun δ μ Q => ta δ μ fun x μ1 => tb δ μ1 fun y μ2 => r x y μ2 Q
abbrev RD2 := D → D → Mem → DK → Prop
/-- a rule over V serves a rule over D -/
def Lift2 (K : PySem.W.Frag) (r : R2) (rd : RD2) : Prop := ∀ x y dx dy F μ H Q QD, Lay K F μ H → Rep K F x dx → Rep K F y dy → rd dx dy μ QD → KOf K F QD Q → r x y H Q
theorem eOf_op {r : R2} {rd : RD2} {ta tb : TD} {K : PySem.W.Frag} (h : Lift2 K r rd) {σ : L2.St} {H : Hp} {Q : VK} : eOf K (dOp rd ta tb) σ H Q → tOp r (eOf K ta) (eOf K tb) σ H Q := fun ⟨δ, F, μ, QD, l, rs, q, k⟩ =>
  ⟨δ, F, μ, _, l, rs, q, fun x dx F1 μ1 H1 e1 l1 r1 q1 => ⟨δ, F1, μ1, _, l1, rs.mono e1, q1, fun y dy F2 μ2 H2 e2 l2 r2 q2 =>
    h x y dx dy F2 μ2 H2 Q QD l2 (r1.mono e2) r2 q2 (k.mono (e1.trans e2))⟩⟩
variable {a b : Expr} {ta tb : TD} {pos : Pos}
theorem de_op {op : Operator} {r : R2} {rd : RD2} (ho : OpR X (binaryOp op) r) (hl : Lift2 X.K r rd) (ha : DE X a ta) (hb : DE X b tb) : DE X (.BinOp a op b pos) (dOp rd ta tb) :=
  PE.weak (pe_op ho ha hb) fun _ _ _ h => eOf_op hl h
theorem de_cmp {op : CmpOp} {r : R2} {rd : RD2} (ho : OpR X (compareOp op) r) (hl : Lift2 X.K r rd) (ha : DE X a ta) (hb : DE X b tb) (hm : behindInMarks op b = false := by first | exact nomark _ | (with_unfolding_all rfl)) : DE X (.Compare a [op] [b] pos) (dOp rd ta tb) :=
  PE.weak (pe_cmpR ho ha hb hm) fun _ _ _ h => eOf_op hl h
/-- a test by a value -/
def dTest (t : TD) : TDT := fun δ μ Q => t δ μ fun x μ1 => ∃ k, x = .bl k ∧ Q k μ1
theorem rep_bl {K : PySem.W.Frag} {F : Hp} {v : V} {k : Bool} (h : Rep K F v (.bl k)) : v = .bl k := by cases h; rfl
theorem rep_int {K : PySem.W.Frag} {F : Hp} {v : V} {k : Int} (h : Rep K F v (.int k)) : v = .int k := by cases h; rfl
theorem rep_str {K : PySem.W.Frag} {F : Hp} {v : V} {k : Str} (h : Rep K F v (.str k)) : v = .str k := by cases h; rfl
theorem rep_non {K : PySem.W.Frag} {F : Hp} {v : V} (h : Rep K F v .non) : v = .non := by cases h; rfl
theorem rep_ref {K : PySem.W.Frag} {F : Hp} {v : V} {a : Addr} (h : Rep K F v (.ref a)) : v = .ref a := by cases h; rfl
theorem rep_ty {K : PySem.W.Frag} {F : Hp} {v : V} {k : String} (h : Rep K F v (.ty k)) : v = .ty k := by cases h; rfl
theorem eOf_bl {td : TD} {K : PySem.W.Frag} {σ : L2.St} {H : Hp} {Q : Bool → Hp → Prop} : bOf K (dTest td) σ H Q → eOf K td σ H fun x H' => ∃ k, x = .bl k ∧ Q k H' := fun ⟨δ, F, μ, QD, l, rs, q, k⟩ =>
  ⟨δ, F, μ, _, l, rs, q, fun x dx F1 μ1 H1 e1 l1 r1 ⟨c, hc, q1⟩ => by
    subst hc
    exact ⟨c, rep_bl r1, k c F1 μ1 H1 e1 l1 q1⟩⟩
theorem dt_cmp {op : CmpOp} {r : R2} {rd : RD2} (ho : OpR X (compareOp op) r) (hl : Lift2 X.K r rd) (ha : DE X a ta) (hb : DE X b tb) (hm : behindInMarks op b = false := by first | exact nomark _ | (with_unfolding_all rfl)) : DT X (.Compare a [op] [b] pos) (dTest (dOp rd ta tb)) := by
  refine PT.weak (pt_cmpR ho ha hb hm) fun σ H Q h => ?_
  obtain ⟨δ, F, μ, QD, l, rs, q, k⟩ := h
  exact eOf_op hl ⟨δ, F, μ, _, l, rs, q, fun x dx F1 μ1 H1 e1 l1 r1 ⟨c, hc, q1⟩ => by
    subst hc
    exact ⟨c, rep_bl r1, k c F1 μ1 H1 e1 l1 q1⟩⟩
/-- a value's own truth, where it is a bool -/
theorem dt_val (h : DE X a ta) (he : ∀ whole, isTrue a X.env whole = (do let v ← whole; standAt a.pos; holding [v] (truthy v)) := by intro _; rfl) : DT X a (dTest ta) :=
  PT.weak (pt_val h he) fun _ _ _ q => eOf_bl q

/-! ### and, or, not -/
def dAnd (t u : TDT) : TDT := fun δ μ Q => t δ μ fun c μ1 => if c = true then u δ μ1 Q else Q false μ1
def dOr (t u : TDT) : TDT := fun δ μ Q => t δ μ fun c μ1 => if c = true then Q true μ1 else u δ μ1 Q
def dNot (t : TDT) : TDT := fun δ μ Q => t δ μ fun c μ1 => Q (!c) μ1
abbrev DW (X : Cx) (e : Expr) (t : TDT) : Prop := PW X e (bOf X.K t)
theorem PW.weak {e : Expr} {t u : TT} (h : PW X e t) (k : ∀ σ H Q, u σ H Q → t σ H Q) : PW X e u := ⟨fun wh pins s σ H Q I q => h.run wh pins s σ H Q I (k _ _ _ q)⟩
variable {tA tB' : TDT} {rest : List Expr}
theorem dw_and1 (ha : DT X a tA) : DW X (.BoolOp .And [a] pos) tA := pw_and1 ha
theorem dw_or1 (ha : DT X a tA) : DW X (.BoolOp .Or [a] pos) tA := pw_or1 ha
theorem dw_and (ha : DT X a tA) (hb : DW X (.BoolOp .And (b :: rest) pos) tB') : DW X (.BoolOp .And (a :: b :: rest) pos) (dAnd tA tB') := by
  refine PW.weak (pw_and ha hb) fun σ H Q ⟨δ, F, μ, QD, l, rs, q, k⟩ => ?_
  refine ⟨δ, F, μ, _, l, rs, q, fun c F1 μ1 H1 e1 l1 q1 => ?_⟩
  cases c with
  | true => exact ⟨δ, F1, μ1, _, l1, rs.mono e1, q1, fun b F2 μ2 H2 e2 l2 q2 => k b F2 μ2 H2 (e1.trans e2) l2 q2⟩
  | false => exact k false F1 μ1 H1 e1 l1 q1
theorem dw_or (ha : DT X a tA) (hb : DW X (.BoolOp .Or (b :: rest) pos) tB') : DW X (.BoolOp .Or (a :: b :: rest) pos) (dOr tA tB') := by
  refine PW.weak (pw_or ha hb) fun σ H Q ⟨δ, F, μ, QD, l, rs, q, k⟩ => ?_
  refine ⟨δ, F, μ, _, l, rs, q, fun c F1 μ1 H1 e1 l1 q1 => ?_⟩
  cases c with
  | false => exact ⟨δ, F1, μ1, _, l1, rs.mono e1, q1, fun b F2 μ2 H2 e2 l2 q2 => k b F2 μ2 H2 (e1.trans e2) l2 q2⟩
  | true => exact k true F1 μ1 H1 e1 l1 q1
theorem dt_w {e : Expr} (h : DW X e tA) : DT X e tA := h.pt
theorem dt_not (ha : DT X a tA) : DT X (.UnaryOp .Not a pos) (dNot tA) :=
  PT.weak (pt_not ha) fun σ H Q ⟨δ, F, μ, QD, l, rs, q, k⟩ => ⟨δ, F, μ, _, l, rs, q, fun c F1 μ1 H1 e1 l1 q1 => k (!c) F1 μ1 H1 e1 l1 q1⟩
/-- as values -/
def dAndV (ta tb : TD) : TD := fun δ μ Q => ta δ μ fun x μ1 => ∃ c, x = .bl c ∧ if c = true then tb δ μ1 Q else Q (.bl false) μ1
def dOrV (ta tb : TD) : TD := fun δ μ Q => ta δ μ fun x μ1 => ∃ c, x = .bl c ∧ if c = true then Q (.bl true) μ1 else tb δ μ1 Q
def dNotV (ta : TD) : TD := fun δ μ Q => ta δ μ fun x μ1 => ∃ c, x = .bl c ∧ Q (.bl (!c)) μ1
theorem de_one {op} (h : DE X a ta) : DE X (.BoolOp op [a] pos) ta := pe_one h
theorem de_and (ha : DE X a ta) (hb : DE X (.BoolOp .And (b :: rest) pos) tb) : DE X (.BoolOp .And (a :: b :: rest) pos) (dAndV ta tb) := by
  refine PE.weak (pe_and ha hb) fun σ H Q ⟨δ, F, μ, QD, l, rs, q, k⟩ => ?_
  refine ⟨δ, F, μ, _, l, rs, q, fun x dx F1 μ1 H1 e1 l1 r1 ⟨c, hc, q1⟩ => ?_⟩
  subst hc
  refine ⟨c, rep_bl r1, ?_⟩
  cases c with
  | true => exact ⟨δ, F1, μ1, _, l1, rs.mono e1, q1, k.mono e1⟩
  | false => exact k _ _ F1 μ1 H1 e1 l1 (.bl _) q1
theorem de_or (ha : DE X a ta) (hb : DE X (.BoolOp .Or (b :: rest) pos) tb) : DE X (.BoolOp .Or (a :: b :: rest) pos) (dOrV ta tb) := by
  refine PE.weak (pe_or ha hb) fun σ H Q ⟨δ, F, μ, QD, l, rs, q, k⟩ => ?_
  refine ⟨δ, F, μ, _, l, rs, q, fun x dx F1 μ1 H1 e1 l1 r1 ⟨c, hc, q1⟩ => ?_⟩
  subst hc
  refine ⟨c, rep_bl r1, ?_⟩
  cases c with
  | false => exact ⟨δ, F1, μ1, _, l1, rs.mono e1, q1, k.mono e1⟩
  | true => exact k _ _ F1 μ1 H1 e1 l1 (.bl _) q1
theorem de_not (ha : DE X a ta) : DE X (.UnaryOp .Not a pos) (dNotV ta) := by
  refine PE.weak (pe_not ha) fun σ H Q ⟨δ, F, μ, QD, l, rs, q, k⟩ => ?_
  refine ⟨δ, F, μ, _, l, rs, q, fun x dx F1 μ1 H1 e1 l1 r1 ⟨c, hc, q1⟩ => ?_⟩
  subst hc
  exact ⟨c, rep_bl r1, k _ _ F1 μ1 H1 e1 l1 (.bl _) q1⟩
def dIf (t : TDT) (ta tb : TD) : TD := fun δ μ Q => t δ μ fun c μ1 => if c = true then ta δ μ1 Q else tb δ μ1 Q
theorem de_ifExp {c : Expr} (hc : DT X c tA) (ha : DE X a ta) (hb : DE X b tb) : DE X (.IfExp c a b pos) (dIf tA ta tb) := by
  refine PE.weak (pe_ifExp hc ha hb) fun σ H Q ⟨δ, F, μ, QD, l, rs, q, k⟩ => ?_
  refine ⟨δ, F, μ, _, l, rs, q, fun c F1 μ1 H1 e1 l1 q1 => ?_⟩
  cases c with
  | true => exact ⟨δ, F1, μ1, _, l1, rs.mono e1, q1, k.mono e1⟩
  | false => exact ⟨δ, F1, μ1, _, l1, rs.mono e1, q1, k.mono e1⟩

/-! ### argument lists, displays, calls by values -/
def dNil : TDA := fun _ μ Q => Q [] μ
def dCons (ta : TD) (tr : TDA) : TDA := fun δ μ Q => ta δ μ fun x μ1 => tr δ μ1 fun xs μ2 => Q (x :: xs) μ2
variable {es : List Expr} {tr : TDA} {e : Expr}
theorem da_nil : DA X [] dNil := PA.weak pa_nil fun σ H Q ⟨δ, F, μ, QD, l, rs, q, k⟩ => k [] [] F μ H (Ex.refl F) l .nil q
theorem da_cons (ha : DE X e ta) (hr : DA X es tr) (hs : starEach (e :: es) X.env = (false, eval e X.env) :: starEach es X.env := by rfl) : DA X (e :: es) (dCons ta tr) :=
  PA.weak (pa_cons ha hr hs) fun σ H Q ⟨δ, F, μ, QD, l, rs, q, k⟩ => ⟨δ, F, μ, _, l, rs, q, fun x dx F1 μ1 H1 e1 l1 r1 q1 => ⟨δ, F1, μ1, _, l1, rs.mono e1, q1, fun xs ds F2 μ2 H2 e2 l2 r2 q2 =>
    k (x :: xs) (dx :: ds) F2 μ2 H2 (e1.trans e2) l2 (.cons (r1.mono e2) r2) q2⟩⟩
def dTup (t : TDA) : TD := fun δ μ Q => t δ μ fun ds μ1 => ds.length ≤ 1000000 ∧ Q (.tup ds) μ1
def dLst (t : TDA) : TD := fun δ μ Q => t δ μ fun ds μ1 => ds.length ≤ 1000000 ∧ Q (.lst ds) μ1
/-- a new list that may be changed -/
def dLstM (t : TDA) : TD := fun δ μ Q => t δ μ fun ds μ1 => ds.length ≤ 1000000 ∧ ∀ p, μ1 p = none → Q (.ref p) (mset μ1 p ds)
theorem mil_le {n : Nat} (h : n ≤ 1000000) : n ≤ sizeLine := Nat.le_trans h (by rw [sizeLine_eq]; decide)
theorem mil_lt {n : Nat} (h : n ≤ 1000000) : n < sizeLine := Nat.lt_of_le_of_lt h (by rw [sizeLine_eq]; decide)
theorem fin_tup {K : PySem.W.Frag} {F : Hp} {μ : Mem} {H : Hp} {QD : DK} {Q : VK} {vs : List V} {ds : List D} (l : Lay K F μ H) (r : Reps K F vs ds) (q : QD (.tup ds) μ) (k : KOf K F QD Q) : ∀ p, H p = none → Q (.ref p) (upd H p (.tup vs)) := fun p hp =>
  k _ _ _ _ _ (Ex.new (l.none_F hp)) (l.new hp _) (.tup (.inl (.inl upd_same)) (r.mono (Ex.new (l.none_F hp)))) q
theorem fin_lst {K : PySem.W.Frag} {F : Hp} {μ : Mem} {H : Hp} {QD : DK} {Q : VK} {vs : List V} {ds : List D} (l : Lay K F μ H) (r : Reps K F vs ds) (q : QD (.lst ds) μ) (k : KOf K F QD Q) : ∀ p, H p = none → Q (.ref p) (upd H p (.lst vs)) := fun p hp =>
  k _ _ _ _ _ (Ex.new (l.none_F hp)) (l.new hp _) (.lst upd_same (r.mono (Ex.new (l.none_F hp)))) q
theorem fin_lstM {K : PySem.W.Frag} {F : Hp} {μ : Mem} {H : Hp} {QD : DK} {Q : VK} {vs : List V} {ds : List D} (l : Lay K F μ H) (r : Reps K F vs ds) (q : ∀ p, μ p = none → QD (.ref p) (mset μ p ds)) (k : KOf K F QD Q) : ∀ p, H p = none → Q (.ref p) (upd H p (.lst vs)) := fun p hp =>
  k _ _ _ _ _ (Ex.refl F) (l.newM hp r) (.ref p) (q p (l.none_mu hp))
theorem de_tup {x1} (h : DA X es tr) : DE X (.Tuple es x1 pos) (dTup tr) :=
  PE.weak (pe_tup h) fun σ H Q ⟨δ, F, μ, QD, l, rs, q, k⟩ => ⟨δ, F, μ, _, l, rs, q, fun vs ds F1 μ1 H1 e1 l1 r1 ⟨hz, q1⟩ => ⟨by rw [r1.length]; exact mil_le hz, fin_tup l1 r1 q1 (k.mono e1)⟩⟩
theorem de_lst (h : DA X es tr) : DE X (.List es pos) (dLst tr) :=
  PE.weak (pe_lst h) fun σ H Q ⟨δ, F, μ, QD, l, rs, q, k⟩ => ⟨δ, F, μ, _, l, rs, q, fun vs ds F1 μ1 H1 e1 l1 r1 ⟨hz, q1⟩ => ⟨by rw [r1.length]; exact mil_le hz, fin_lst l1 r1 q1 (k.mono e1)⟩⟩
theorem de_lstM (h : DA X es tr) : DE X (.List es pos) (dLstM tr) :=
  PE.weak (pe_lst h) fun σ H Q ⟨δ, F, μ, QD, l, rs, q, k⟩ => ⟨δ, F, μ, _, l, rs, q, fun vs ds F1 μ1 H1 e1 l1 r1 ⟨hz, q1⟩ => ⟨by rw [r1.length]; exact mil_le hz, fin_lstM l1 r1 q1 (k.mono e1)⟩⟩

/-- a rule over lists of V serves one over lists of D -/
abbrev RDA := List D → Mem → DK → Prop
def LiftA (K : PySem.W.Frag) (r : List V → Hp → VK → Prop) (rd : RDA) : Prop := ∀ vs ds F μ H Q QD, Lay K F μ H → Reps K F vs ds → rd ds μ QD → KOf K F QD Q → r vs H Q
def dCB (r : RDA) (t : TDA) : TD := fun δ μ Q => t δ μ fun ds μ1 => r ds μ1 Q
theorem eOf_cb {r : List V → Hp → VK → Prop} {rd : RDA} {K : PySem.W.Frag} (h : LiftA K r rd) {σ : L2.St} {H : Hp} {Q : VK} : eOf K (dCB rd tr) σ H Q → tCB r (aOf K tr) σ H Q := fun ⟨δ, F, μ, QD, l, rs, q, k⟩ =>
  ⟨δ, F, μ, _, l, rs, q, fun vs ds F1 μ1 H1 e1 l1 r1 q1 => h vs ds F1 μ1 H1 Q QD l1 r1 q1 (k.mono e1)⟩
variable {x : Str} {p : Pos} {id T : String} {r : List V → Hp → VK → Prop} {rd : RDA}
theorem de_callB (hc : CallR X (.builtin id) r) (hl : LiftA X.K r rd) (hg : Gl X x) (hm : X.mg x = none) (hv : bootBuiltins x = some (.builtin id)) (ha : DA X (e :: es) tr) (hn : x ≠ "__name__" := by decide) (hdb : (x == ("__debug__" : Str)) = false := by decide)
    (he : starEach (e :: es) X.env = (false, eval e X.env) :: starEach es X.env := by rfl) (hpl : (backTo pos (starEach es X.env)).any (·.1) = false := by rfl) : DE X (.Call (.Name x p) (e :: es) [] pos) (dCB rd tr) :=
  PE.weak (pe_callB hc hg hm hv ha hn hdb he hpl) fun _ _ _ h => eOf_cb hl h
theorem de_callTy (hc : CallR X (.type T) r) (hl : LiftA X.K r rd) (hg : Gl X x) (hm : X.mg x = none) (hv : bootBuiltins x = some (.type T)) (ha : DA X (e :: es) tr) (hn : x ≠ "__name__" := by decide) (hdb : (x == ("__debug__" : Str)) = false := by decide)
    (he : starEach (e :: es) X.env = (false, eval e X.env) :: starEach es X.env := by rfl) (hpl : (backTo pos (starEach es X.env)).any (·.1) = false := by rfl) : DE X (.Call (.Name x p) (e :: es) [] pos) (dCB rd tr) :=
  PE.weak (pe_callTy hc hg hm hv ha hn hdb he hpl) fun _ _ _ h => eOf_cb hl h
end

/-! ### statements -/
def dNext : TDS := fun E δ μ => E.nx δ μ
def dSeq (t u : TDS) : TDS := fun E δ μ => t { E with nx := u E } δ μ
def dIfS (c : TDT) (t u : TDS) : TDS := fun E δ μ => c δ μ fun b μ1 => if b = true then t E δ μ1 else u E δ μ1
def dRet (te : TD) : TDS := fun E δ μ => te δ μ E.rt
def dRetN : TDS := fun E _ μ => E.rt .non μ
def dDrop (te : TD) : TDS := fun E δ μ => te δ μ fun _ μ1 => E.nx δ μ1
def dSet (i : Nat) (te : TD) : TDS := fun E δ μ => te δ μ fun d μ1 => E.nx (δ.set i (some d)) μ1
def dNever : TDS := fun _ _ _ => False
section
variable {X : Cx} {a b c e : Expr} {pos : Pos} {st : Stmt} {rest : List Stmt} {t u : TDS} {te : TD} {tc : TDT}
theorem dss_nil : DSs X [] dNext := PSs.weak pss_nil fun D σ H ⟨δ, F, μ, ED, l, rs, q, k⟩ => k.1 σ δ F μ H (Ex.refl F) l rs q
theorem dss_cons (h1 : DS X st t) (h2 : DSs X rest u) : DSs X (st :: rest) (dSeq t u) :=
  PSs.weak (pss_cons h1 h2) fun D σ H ⟨δ, F, μ, ED, l, rs, q, k⟩ => ⟨δ, F, μ, _, l, rs, q, fun σ1 δ1 F1 μ1 H1 e1 l1 r1 q1 => ⟨δ1, F1, μ1, _, l1, r1, q1, k.mono e1⟩, k.2⟩
theorem dss_one (h1 : DS X st t) : DSs X [st] t := pss_one h1
theorem ds_never : DS X st dNever := PS.weak ps_never fun _ _ _ ⟨_, _, _, _, _, _, q, _⟩ => q
theorem dss_never {sts : List Stmt} : DSs X sts dNever := PSs.weak pss_never fun _ _ _ ⟨_, _, _, _, _, _, q, _⟩ => q
theorem ds_expr (he : DE X e te) (hs : swapsWith e none pos.line X.env = pure false := by rfl) : DS X (.Expr e pos) (dDrop te) :=
  PS.weak (ps_expr he hs) fun D σ H ⟨δ, F, μ, ED, l, rs, q, k⟩ => ⟨δ, F, μ, _, l, rs, q, fun v d F1 μ1 H1 e1 l1 r1 q1 => k.1 σ δ F1 μ1 H1 e1 l1 (rs.mono e1) q1⟩
theorem ds_ret (he : DE X e te) : DS X (.Return (some e) pos) (dRet te) :=
  PS.weak (ps_ret he) fun D σ H ⟨δ, F, μ, ED, l, rs, q, k⟩ => ⟨δ, F, μ, _, l, rs, q, k.2.1⟩
theorem ds_retN : DS X (.Return none pos) dRetN :=
  PS.weak ps_retN fun D σ H ⟨δ, F, μ, ED, l, rs, q, k⟩ => k.2.1 .non .non F μ H (Ex.refl F) l .non q
theorem ds_if {sa sb : List Stmt} (hc : DT X c tc) (ha : DSs X sa t) (hb : DSs X sb u) : DS X (.If c sa sb pos) (dIfS tc t u) :=
  PS.weak (ps_if hc ha hb) fun D σ H ⟨δ, F, μ, ED, l, rs, q, k⟩ => ⟨δ, F, μ, _, l, rs, q, fun c F1 μ1 H1 e1 l1 q1 => by
    cases c with
    | true => exact ⟨δ, F1, μ1, ED, l1, rs.mono e1, q1, k.mono e1⟩
    | false => exact ⟨δ, F1, μ1, ED, l1, rs.mono e1, q1, k.mono e1⟩⟩
theorem ds_set {i : Nat} {x : Str} {pos' : Pos} (hN : X.N.Nodup) (hi : X.N[i]? = some x) (hx : Loc X.env.scope x) (he : DE X e te) (hs : swapsWith e (some (.Name x pos')) pos.line X.env = pure false := by rfl) (hf : X.fn x = true ∨ X.env.scope.names.lookup x = some .local := by first | exact .inl rfl | exact .inr rfl | assumption) :
    DS X (.Assign [.Name x pos'] e pos) (dSet i te) :=
  PS.weak (ps_set hN hi hx he hs hf) fun D σ H ⟨δ, F, μ, ED, l, rs, q, k⟩ => ⟨δ, F, μ, _, l, rs, q, fun v d F1 μ1 H1 e1 l1 r1 q1 => k.1 _ _ F1 μ1 H1 e1 l1 ((rs.mono e1).set r1 i) q1⟩
end

/-! ### a def -/
abbrev SpD := List D → Mem → DK → Prop
def spOf (K : PySem.W.Frag) (spd : SpD) : Sp := fun vs H Q _ => ∃ ds F μ QD, Lay K F μ H ∧ Reps K F vs ds ∧ spd ds μ QD ∧ KOf K F QD Q
def dStart (n : Nat) (ds : List D) : DSt := ds.map some ++ List.replicate (n - ds.length) none
theorem repSt_start {K : PySem.W.Frag} {F : Hp} : ∀ {vs : List V} {ds : List D} (m : Nat), Reps K F vs ds → RepSt K F (vs.map some ++ List.replicate m none) (ds.map some ++ List.replicate m none)
  | _, _, 0, .nil => .nil
  | _, _, m + 1, .nil => by
    rw [List.map_nil, List.map_nil, List.nil_append, List.nil_append, List.replicate_succ, List.replicate_succ]
    have := repSt_start (K := K) (F := F) m .nil
    exact .no this
  | _, _, m, .cons h r => .so h (repSt_start m r)
section
variable {P : Program} {w : World} {K : PySem.W.Frag} {mg : Str → Option Value} {base : Heap}
/-- THE RULE for a def -/
theorem fun_ok {x qual : Str} {st : Stmt} {f : Addr} {fd : FuncData} {N ps : List Str} {k : Nat} {spd : SpD} (F : Fun K x qual st f fd) (S : FnScope N ps (defScope st)) (len : ∀ ds μ Q, spd ds μ Q → ds.length = ps.length) (t : TDS)
    (hbody : ∀ (X : Cx), X.K = K → X.mg = mg → X.base = base → X.prog = P → X.w = w → X.N = N → X.env.scope = defScope st → X.calm = true → Room k X.A → (∀ x, X.fn x = true) → X.ex = [] → DSs X (defBody st) t)
    (hmath : ∀ ds μ Q, spd ds μ Q → t { nx := fun _ μ' => Q .non μ', rt := Q } (dStart N.length ds) μ) : FnOk P w K mg base CX0 (k + 1) f fd ps (spOf K spd) := by
  refine F.ok S (fun vs H Q E h => ?_) (fun cdv A outer s H vs Q E hr h => ?_)
  · obtain ⟨ds, F, μ, QD, l, r, q, k⟩ := h
    rw [r.length]
    exact len _ _ _ q
  · obtain ⟨ds, F, μ, QD, l, r, q, kk⟩ := h
    refine ⟨sOf K t, hbody _ rfl rfl rfl rfl rfl rfl rfl rfl hr (fun _ => rfl) rfl, dStart N.length ds, F, μ, _, l, ?_, hmath _ _ _ q, fun σ δ F1 μ1 H1 e1 l1 r1 q1 => kk _ _ F1 μ1 H1 e1 l1 .non q1, kk, fun _ _ _ _ _ _ _ _ z => z.elim, fun _ _ _ _ _ _ _ _ z => z.elim⟩
    unfold L2.start dStart
    rw [r.length]
    exact repSt_start _ r
end
end DL
-- DB
set_option maxRecDepth 100000
namespace DL
open PySem PySem.Spec PyProof.Rows L2

/-! ### a def's promise where no repr is under way -/
structure FnG (P : Program) (w : World) (K : PySem.W.Frag) (mg : Str → Option Value) (base : Heap) (CX : CXT) (k : Nat) (f : Addr) (fd : FuncData) (ps : List Str) (sp : Sp) : Prop where
  size : ∀ zs H Q E, sp zs H Q E → zs.length = ps.length
  does : ∀ (A : Around) (fs : List Env) (s : Shared) (H : Hp) (args : Args) (us : List Value) (zs : List V) (Q : VK) (E : XK), A.guards = some [] → Room k A → Env0 P w K mg base A fs s H →
    BindsTo s fd args (ps.zip us) → Vals zs us → sp zs H Q E → codeAny (model P w) A (.call (.ref f) args) (CR CX fs P w H s Q E) s
section
variable {P : Program} {w : World} {K : PySem.W.Frag} {mg : Str → Option Value} {base : Heap} {CX : CXT}
theorem FnG.mono {j k : Nat} {f : Addr} {fd : FuncData} {ps : List Str} {sp : Sp} (G : FnG P w K mg base CX j f fd ps sp) (h : j ≤ k) : FnG P w K mg base CX k f fd ps sp :=
  ⟨G.size, fun A fs s H args us zs Q E hg room => G.does A fs s H args us zs Q E hg (room.mono h)⟩
theorem FnG.imp {k : Nat} {f : Addr} {fd : FuncData} {ps : List Str} {sp sp' : Sp} (G : FnG P w K mg base CX k f fd ps sp) (h : ∀ zs H Q E, sp' zs H Q E → sp zs H Q E) : FnG P w K mg base CX k f fd ps sp' :=
  ⟨fun zs H Q E q => G.size zs H Q E (h _ _ _ _ q), fun A fs s H args us zs Q E hg room e0 hb hv hs => G.does A fs s H args us zs Q E hg room e0 hb hv (h _ _ _ _ hs)⟩
/-- a def by its body -/
theorem fng_of {k : Nat} {f : Addr} {nm qual : Str} {pars : Arguments} {code : List Stmt} {sc : Scope} {v1 v2 v3 v4 cdv v5 v6 : Value} {a1 a2 : Option Addr} {osl : Array (Option Value)} {N ps : List Str} {sp : Sp}
    (found : K.lookup f = some ⟨v6, a2, .func (PySem.W.fnOf nm qual pars code sc v1 v2 v3 v4 a1 cdv v5), osl⟩) (hcd : PySem.W.codeIn K cdv qual = true) (S : FnScope N ps sc) (size : ∀ zs H Q E, sp zs H Q E → zs.length = ps.length)
    (go : ∀ (A : Around) (fs : List Env) (s : Shared) (H : Hp) (zs : List V) (Q : VK) (E : XK), A.guards = some [] → Room k (A.deeper (envOfC qual sc s.heap.objs.size f cdv)) → sp zs H Q E →
      ∃ t, PSs (cxOf CX P w K mg base N qual sc f cdv A fs s H E) code t ∧ t { nx := fun _ H' => Q .non H', rt := Q } (L2.start N zs) H) :
    FnG P w K mg base CX (k + 1) f (PySem.W.fnOf nm qual pars code sc v1 v2 v3 v4 a1 cdv v5) ps sp := by
  refine ⟨size, fun A fs s H args us zs Q E hg room e0 hb rel asked => ?_⟩
  have kin : K.In s.heap := e0.mod.kin.keeps fun b o e => (e0.bs b o e).1
  have nolim : s.heap.NoLimit := e0.mod.nolimit.keeps fun b o e => (e0.bs b o e).1
  refine codeAny_call_function room.depth (kin _ _ found) rfl S.co S.gen rfl (PySem.W.codeRec_of kin hcd) (hb _ _ _ _ ?_)
  refine wpAny_newFunctionEnv_cells S.kind (fun y hy => ?_) fun env henv s1 inn => ?_
  · rcases S.par y.1 (List.of_mem_zip hy).1 with here | here
    · exact .inl here
    · exact .inr ⟨here, PySem.W.cellsFrom_some _ _ _ (.inl here)⟩
  · subst henv
    refine ⟨nolim.keeps inn.toInCall.keep, codeAny_func ?_⟩
    obtain ⟨t, ht, hq⟩ := go A fs s H zs Q E hg (room.deeper _) asked
    refine wpAny_mono (ht.run [] s1 (L2.start N zs) H _ (inv_start S room.hd e0 (size _ _ _ _ asked) rel inn) hq) (fun fl s2 end2 => ?_) fun e s2 end2 => end2
    match fl, end2 with
    | .ret u, ⟨v, σ2, H2, J, rv, q⟩ => exact ⟨v, H2, J.os, J.bare, J.base, J.hok, rv, q⟩
    | .next, ⟨σ2, H2, J, q⟩ => exact ⟨.non, H2, J.os, J.bare, J.base, J.hok, rfl, q⟩
    | .brk, ⟨_, _, _, q⟩ => exact q.elim
    | .cont, ⟨_, _, _, q⟩ => exact q.elim
end
section
variable {X : Cx} {CX : CXT} {k : Nat} {f : Addr} {fd : FuncData} {ps ks : List Str} {sp : Sp} {E : XK} {x : Str} {p pos : Pos} {e : Expr} {es : List Expr} {kws : List Keyword} {t tk : TA}
theorem does_call (hgd : X.A.guards = some []) {pins : List (Addr × Obj)} {σ : L2.St} {H : Hp} {s : Shared} {Q : VK} {args : Args} {us : List Value} {zs : List V} (G : FnG X.prog X.w X.K X.mg X.base CX k f fd ps sp) (room : Room k X.A)
    (hb : us.length = ps.length → BindsTo s fd args (ps.zip us)) (out : Passes CX X E) (I : Inv X pins σ H s) (rel : Vals zs us) (asked : sp zs H Q E) :
    codeAny (model X.prog X.w) X.A (.call (.ref f) args) (fun r s' => match r with | .ok (.ret u) => EP X pins σ Q u s' | .ok _ => False | .error v => X.xe v s') s := by
  refine codeAny_mono (G.does X.A X.stack s H args us zs Q E hgd room I.env0 (hb (by rw [← rel.length]; exact G.size _ _ _ _ asked)) rel asked) fun r s2 end2 => ?_
  match r, end2 with
  | .error v, end2 => exact out pins σ H s v s2 I end2
  | .ok (.ret u), end2 => exact I.after end2
  | .ok .next, end2 => exact end2.elim
  | .ok .brk, end2 => exact end2.elim
  | .ok .cont, end2 => exact end2.elim
theorem callG (hgd : X.A.guards = some []) {pins : List (Addr × Obj)} {σ : L2.St} {H : Hp} {s : Shared} {Q : VK} {us : List Value} {zs : List V} (G : FnG X.prog X.w X.K X.mg X.base CX k f fd ps sp) (room : Room k X.A)
    (hb : Binds X.K fd ps []) (out : Passes CX X E) (I : Inv X pins σ H s) (rel : Vals zs us) (asked : sp zs H Q E) : wpAny (model X.prog X.w) X.A (call (.ref f) us) (EP X pins σ Q) X.xe s := by
  refine wpAny_call (codeAny_mono (does_call hgd G room (fun hl => ?_) out I rel asked) fun r s2 end2 => ?_)
  · have := hb s us I.kIn (by rw [List.append_nil]; exact hl)
    rw [List.append_nil] at this
    exact this
  · match r, end2 with
    | .error v, end2 => exact end2
    | .ok (.ret u), end2 => exact end2
    | .ok .next, end2 => exact end2.elim
    | .ok .brk, end2 => exact end2.elim
    | .ok .cont, end2 => exact end2.elim
/-- f(e, ..) -/
theorem pe_callG (hgd : X.A.guards = some []) (G : FnG X.prog X.w X.K X.mg X.base CX k f fd ps sp) (room : Room k X.A) (hg : Gl X x) (hm : X.mg x = some (.ref f)) (hk : PySem.W.keepIn X.K (.ref f) = true) (hb : Binds X.K fd ps []) (out : Passes CX X E)
    (ha : PA X (e :: es) t) (hdb : (x == ("__debug__" : Str)) = false := by decide) (he : starEach (e :: es) X.env = (false, eval e X.env) :: starEach es X.env := by rfl) (hpl : (backTo pos (starEach es X.env)).any (·.1) = false := by rfl) :
    PE X (.Call (.Name x p) (e :: es) [] pos) (tCall sp [] E t) := by
  refine ⟨fun pins s σ H Q I asked => wpAny_Call_Name_kw (ld_glob I hg hm ?_ hdb)⟩
  refine PySem.W.callWith_K (h₀ := X.base) I.ok.mod.kin hk (thn (ha.run pos pins s σ H _ I asked) fun us s1 ⟨zs, H1, I1, rel, q⟩ => ⟨I1.kIn, ?_⟩) he hpl
  have q2 : sp (zs ++ []) H1 Q E := q
  rw [List.append_nil] at q2
  exact callG hgd G room hb out I1 rel q2
end

/-! ### over D -/
def dCall (spd : SpD) (t : TDA) : TD := fun δ μ Q => t δ μ fun ds μ1 => spd ds μ1 Q
def dCallK (spd : SpD) (gD : List D → List D → List D) (t tk : TDA) : TD := fun δ μ Q => t δ μ fun ds μ1 => tk δ μ1 fun zs μ2 => spd (gD ds zs) μ2 Q
/-- a def of the text that keeps a promise over D -/
structure DefOk (P : Program) (w : World) (K : PySem.W.Frag) (mg : Str → Option Value) (base : Heap) (k : Nat) (x : Str) (st : Stmt) (ps : List Str) (spd : SpD) : Prop where
  ex : ∃ (f : Addr) (fd : FuncData), mg x = some (.ref f) ∧ PySem.W.keepIn K (.ref f) = true ∧ Binds K fd ps [] ∧
    (∃ (qual : Str) (v1 v2 v3 v4 v5 : Value) (an : Option Addr), fd = PySem.W.fnOf x qual (defArgs st) (defBody st) (defScope st) .none v1 v2 v3 an v4 v5) ∧
    FnG P w K mg base CX0 k f fd ps (spOf K spd)
section
variable {P : Program} {w : World} {K : PySem.W.Frag} {mg : Str → Option Value} {base : Heap}
theorem DefOk.mono {j k : Nat} {x : Str} {st : Stmt} {ps : List Str} {spd : SpD} (D : DefOk P w K mg base j x st ps spd) (h : j ≤ k) : DefOk P w K mg base k x st ps spd := by
  obtain ⟨f, fd, h1, h2, h3, h4, G⟩ := D.ex
  exact ⟨f, fd, h1, h2, h3, h4, G.mono h⟩
theorem DefOk.imp {k : Nat} {x : Str} {st : Stmt} {ps : List Str} {spd spd' : SpD} (D : DefOk P w K mg base k x st ps spd) (h : ∀ ds μ Q, spd' ds μ Q → spd ds μ Q) : DefOk P w K mg base k x st ps spd' := by
  obtain ⟨f, fd, h1, h2, h3, h4, G⟩ := D.ex
  exact ⟨f, fd, h1, h2, h3, h4, G.imp fun zs H Q E ⟨ds, F, μ, QD, l, r, q, kk⟩ => ⟨ds, F, μ, QD, l, r, h _ _ _ q, kk⟩⟩
/-- what a def's body may lean on -/
structure Here (X : Cx) (P : Program) (w : World) (K : PySem.W.Frag) (mg : Str → Option Value) (base : Heap) (k : Nat) (N : List Str) (sc : Scope) : Prop where
  eP : X.prog = P
  ew : X.w = w
  eK : X.K = K
  emg : X.mg = mg
  eb : X.base = base
  eN : X.N = N
  esc : X.env.scope = sc
  calm : X.calm = true
  gd : X.A.guards = some []
  room : Room k X.A
  fn : ∀ x, X.fn x = true
  ex : X.ex = []
theorem def_ok {x qual : Str} {st : Stmt} {f : Addr} {fd : FuncData} {N ps : List Str} {k : Nat} {spd : SpD} (F : Fun K x qual st f fd) (hm : mg x = some (.ref f)) (hb : Binds K fd ps []) (S : FnScope N ps (defScope st)) (size : ∀ ds μ Q, spd ds μ Q → ds.length = ps.length) (t : TDS)
    (hbody : ∀ (qual : Str) (f : Addr) (cdv : Value) (A : Around) (fs : List Env) (s : Shared) (H : Hp) (E : XK), (cxOf CX0 P w K mg base N qual (defScope st) f cdv A fs s H E).A.guards = some [] → Room k (cxOf CX0 P w K mg base N qual (defScope st) f cdv A fs s H E).A → DSs (cxOf CX0 P w K mg base N qual (defScope st) f cdv A fs s H E).nox (defBody st) t)
    (math : ∀ ds μ Q, spd ds μ Q → t { nx := fun _ μ' => Q .non μ', rt := Q } (dStart N.length ds) μ) : DefOk P w K mg base (k + 1) x st ps spd := by
  obtain ⟨w1, w2, v1, v2, v3, a1, cdv, ct, osl, rfl, found, hcd⟩ := F.ex
  refine ⟨f, _, hm, F.kp, hb, ⟨qual, v1, v2, v3, cdv, ct, a1, rfl⟩, ?_⟩
  refine fng_of found hcd S (fun zs H Q E ⟨ds, F, μ, QD, l, r, q, kk⟩ => by rw [r.length]; exact size _ _ _ q) fun A fs s H zs Q E hg room ⟨ds, F, μ, QD, l, r, q, kk⟩ => ?_
  refine ⟨sOf K t, (hbody _ _ _ _ _ _ _ _ hg room).nox, dStart N.length ds, F, μ, _, l, ?_, math _ _ _ q, fun σ δ F1 μ1 H1 e1 l1 r1 q1 => kk _ _ F1 μ1 H1 e1 l1 .non q1, kk, fun _ _ _ _ _ _ _ _ z => z.elim, fun _ _ _ _ _ _ _ _ z => z.elim⟩
  unfold L2.start dStart
  rw [r.length]
  exact repSt_start _ r
end
section
variable {X : Cx} {k : Nat} {ps ks : List Str} {spd : SpD} {x : Str} {st : Stmt} {p pos : Pos} {e : Expr} {es : List Expr} {kws : List Keyword} {t tk : TDA}
theorem de_call (hgd : X.A.guards = some []) (Dk : DefOk X.prog X.w X.K X.mg X.base k x st ps spd) (room : Room k X.A) (ha : DA X (e :: es) t) (hg : Gl X x := by rfl) (hdb : (x == ("__debug__" : Str)) = false := by decide)
    (he : starEach (e :: es) X.env = (false, eval e X.env) :: starEach es X.env := by rfl) (hpl : (backTo pos (starEach es X.env)).any (·.1) = false := by rfl) : DE X (.Call (.Name x p) (e :: es) [] pos) (dCall spd t) := by
  obtain ⟨f, fd, h1, h2, h3, h4, G⟩ := Dk.ex
  refine PE.weak (pe_callG hgd G room hg h1 h2 h3 pass0 ha hdb he hpl) fun σ H Q ⟨δ, F, μ, QD, l, rs, q, kk⟩ => ?_
  refine ⟨δ, F, μ, _, l, rs, q, fun vs ds F1 μ1 H1 e1 l1 r1 q1 => ?_⟩
  show spOf X.K spd (vs ++ []) H1 Q E0
  rw [List.append_nil]
  exact ⟨ds, F1, μ1, QD, l1, r1, q1, kk.mono e1⟩
/-- f(e, .., k = v, ..) -/
theorem de_callK (hgd : X.A.guards = some []) (Dk : DefOk X.prog X.w X.K X.mg X.base k x st ps spd) (room : Room k X.A) {g : List Value → List Value → List Value} {gD : List D → List D → List D} {gV : List V → List V → List V} {n m : Nat}
    (hb : ∀ (qual : Str) (v1 v2 v3 v4 v5 : Value) (an : Option Addr) (us ws : List Value), us.length = n → ws.length = m → bindArgs (PySem.W.fnOf x qual (defArgs st) (defBody st) (defScope st) .none v1 v2 v3 an v4 v5) ⟨us, ks.zip ws⟩ = pure (ps.zip (g us ws)))
    (rel : ∀ {vs us zs ws}, Vals vs us → Vals zs ws → us.length = n → ws.length = m → Vals (gV vs zs) (g us ws)) (relD : ∀ {F vs us zs ws}, Reps X.K F vs us → Reps X.K F zs ws → us.length = n → ws.length = m → Reps X.K F (gV vs zs) (gD us ws))
    (ha : DA X es t) (hkw : PK X kws (aOf X.K tk)) (hn : ∀ δ μ Q, t δ μ Q → t δ μ fun ds μ' => ds.length = n ∧ Q ds μ') (hmk : ∀ δ μ Q, tk δ μ Q → tk δ μ fun ds μ' => ds.length = m ∧ Q ds μ')
    (hall : (backToKw pos (keywordEach kws X.env)).all (·.1.isSome) = true := by rfl) (hks : (backToKw pos (keywordEach kws X.env)).filterMap (·.1) = ks := by rfl) (hg : Gl X x := by rfl)
    (hdb : (x == ("__debug__" : Str)) = false := by decide)
    (call : ∀ {Q : Value → Shared → Prop} {s : Shared} {f : Addr}, PySem.W.keepIn X.K (.ref f) = true → wpAny (model X.prog X.w) X.A (spliced (backTo pos (starEach es X.env))) (fun us s1 => wpAny (model X.prog X.w) X.A (evalAll ((backToKw pos (keywordEach kws X.env)).map (·.2)))
      (fun ws s2 => X.K.In s2.heap ∧ wpAny (model X.prog X.w) X.A (PySem.call (.ref f) us (ks.zip ws)) Q X.xe s2) X.xe s1) X.xe s →
      wpAny (model X.prog X.w) X.A (callWith pos (.ref f) [] (backTo pos (starEach es X.env)) (backToKw pos (keywordEach kws X.env))) Q X.xe s) :
    DE X (.Call (.Name x p) es kws pos) (dCallK spd gD t tk) := by
  obtain ⟨f, fd, h1, h2, h3, ⟨qual, v1, v2, v3, v4, v5, an, rfl⟩, G⟩ := Dk.ex
  refine ⟨fun pins s σ H Q I ⟨δ, F, μ, QD, l, rs, q, kk⟩ => wpAny_Call_Name_kw (ld_glob I hg h1 (call h2 ?_) hdb)⟩
  refine thn (ha.run pos pins s σ H (fun vs H1 => ∃ ds F1 μ1, Ex F F1 ∧ Lay X.K F1 μ1 H1 ∧ Reps X.K F1 vs ds ∧ ds.length = n ∧ tk δ μ1 fun zs μ2 => spd (gD ds zs) μ2 QD) I ⟨δ, F, μ, _, l, rs, hn _ _ _ q, fun vs ds F1 μ1 H1 e1 l1 r1 ⟨z1, q1⟩ => ⟨ds, F1, μ1, e1, l1, r1, z1, q1⟩⟩) ?_
  intro us s1 ⟨vs, H1, I1, r1, ds, F1, μ1, e1, l1, rd, z1, q1⟩
  refine thn (hkw.run pos pins s1 σ H1 (fun zs H2 => ∃ es F2 μ2, Ex F1 F2 ∧ Lay X.K F2 μ2 H2 ∧ Reps X.K F2 zs es ∧ es.length = m ∧ spd (gD ds es) μ2 QD) I1 ⟨δ, F1, μ1, _, l1, rs.mono e1, hmk _ _ _ q1, fun vs ds F2 μ2 H2 e2 l2 r2 ⟨z2, q2⟩ => ⟨ds, F2, μ2, e2, l2, r2, z2, q2⟩⟩) ?_
  intro ws s2 ⟨zs, H2, I2, r2, es', F2, μ2, e2, l2, rd2, z2, q2⟩
  have lu : us.length = n := by rw [← r1.length, rd.length, z1]
  have lw : ws.length = m := by rw [← r2.length, rd2.length, z2]
  refine ⟨I2.kIn, wpAny_call (codeAny_mono (does_call (us := g us ws) (zs := gV vs zs) (args := ⟨us, ks.zip ws⟩) hgd G room (fun _ => .of_eq (hb qual v1 v2 v3 v4 v5 an us ws lu lw)) pass0 I2 (rel r1 r2 lu lw) ⟨gD ds es', F2, μ2, QD, l2, relD (rd.mono e2) rd2 z1 z2, q2, kk.mono (e1.trans e2)⟩) fun r s3 end3 => ?_)⟩
  match r, end3 with
  | .error v, end3 => exact end3
  | .ok (.ret u), end3 => exact end3
  | .ok .next, end3 => exact end3.elim
  | .ok .brk, end3 => exact end3.elim
  | .ok .cont, end3 => exact end3.elim
end
end DL
-- DC
set_option maxRecDepth 100000
namespace DL
open PySem PySem.Spec PyProof.Rows L2

/-! ### lists and tuples, as D has them -/
def asL (μ : Mem) : D → Option (List D)
  | .lst xs => some xs
  | .ref a => μ a
  | .scr ns => some (ns.map D.int)
  | _ => none
theorem reps_ints {K : PySem.W.Frag} {F : Hp} : ∀ ns : List Int, Reps K F (ns.map V.int) (ns.map D.int)
  | [] => .nil
  | n :: ns => .cons (.int n) (reps_ints ns)
theorem asL_rep {K : PySem.W.Frag} {F : Hp} {μ : Mem} {H : Hp} (l : Lay K F μ H) {v : V} {d : D} {xs : List D} (r : Rep K F v d) (e : asL μ d = some xs) : ∃ a vs, v = .ref a ∧ SqL K H a vs ∧ Reps K F vs xs := by
  cases r with
  | lst h rs =>
    cases e
    exact ⟨_, _, rfl, .inl (.inl (l.fz _ _ h)), rs⟩
  | ref a =>
    obtain ⟨_, vs, h, rs⟩ := l.mu a xs e
    exact ⟨a, vs, rfl, .inl (.inl h), rs⟩
  | scr h =>
    cases e
    exact ⟨_, _, rfl, ex_l l.fz h, reps_ints _⟩
  | _ => cases e
theorem tup_rep {K : PySem.W.Frag} {F : Hp} {μ : Mem} {H : Hp} (l : Lay K F μ H) {v : V} {xs : List D} (r : Rep K F v (.tup xs)) : ∃ a vs, v = .ref a ∧ SqT K H a vs ∧ SqT K F a vs ∧ Reps K F vs xs := by
  cases r with
  | tup h rs => exact ⟨_, _, rfl, ex_t l.fz h, h, rs⟩
theorem lst_rep {K : PySem.W.Frag} {F : Hp} {μ : Mem} {H : Hp} (l : Lay K F μ H) {v : V} {xs : List D} (r : Rep K F v (.lst xs)) : ∃ a vs, v = .ref a ∧ SqL K H a vs ∧ Reps K F vs xs := asL_rep l r rfl

/-! ### operators -/
theorem Lift2.or {K : PySem.W.Frag} {r r' : R2} {rd rd' : RD2} (h : Lift2 K r rd) (h' : Lift2 K r' rd') : Lift2 K (fun x y H Q => r x y H Q ∨ r' x y H Q) (fun x y μ Q => rd x y μ Q ∨ rd' x y μ Q) := fun x y dx dy F μ H Q QD l rx ry q k => by
  rcases q with q | q
  · exact .inl (h x y dx dy F μ H Q QD l rx ry q k)
  · exact .inr (h' x y dx dy F μ H Q QD l rx ry q k)
theorem Lift2.imp {K : PySem.W.Frag} {r : R2} {rd rd' : RD2} (h : Lift2 K r rd) (k : ∀ x y μ Q, rd' x y μ Q → rd x y μ Q) : Lift2 K r rd' := fun x y dx dy F μ H Q QD l rx ry q kk => h x y dx dy F μ H Q QD l rx ry (k _ _ _ _ q) kk
/-- intsD in, a plain value out -/
theorem lift_rI {K : PySem.W.Frag} {C : Int → Int → Prop} {g : Int → Int → V} {gd : Int → Int → D} (hg : ∀ F i j, Rep K F (g i j) (gd i j)) : Lift2 K (rI C g) (fun x y μ Q => ∃ i j, x = .int i ∧ y = .int j ∧ C i j ∧ Q (gd i j) μ) := fun x y dx dy F μ H Q QD l rx ry ⟨i, j, ex, ey, hc, q⟩ k => by
  subst ex ey
  exact ⟨i, j, rep_int rx, rep_int ry, hc, k _ _ F μ H (Ex.refl F) l (hg F i j) q⟩
theorem lift_rI0 {K : PySem.W.Frag} {g : Int → Int → V} {gd : Int → Int → D} (hg : ∀ F i j, Rep K F (g i j) (gd i j)) : Lift2 K (rI0 g) (fun x y μ Q => ∃ i j, x = .int i ∧ y = .int j ∧ Q (gd i j) μ) := fun x y dx dy F μ H Q QD l rx ry ⟨i, j, ex, ey, q⟩ k => by
  subst ex ey
  exact ⟨i, j, rep_int rx, rep_int ry, k _ _ F μ H (Ex.refl F) l (hg F i j) q⟩
def dAdd : RD2 := fun x y μ Q => match x, y with
  | .int i, .int j => Q (.int (i + j)) μ
  | .tup xs, .tup ys => xs.length + ys.length ≤ 1000000 ∧ Q (.tup (xs ++ ys)) μ
  | .lst xs, .lst ys => xs.length + ys.length ≤ 1000000 ∧ Q (.lst (xs ++ ys)) μ
  | _, _ => False
theorem reps_nil {K : PySem.W.Frag} {F : Hp} {xs : List D} (r : Reps K F [] xs) : xs = [] := by cases r; rfl
theorem lift_catA {K : PySem.W.Frag} : Lift2 K (rCatA K) (fun x y μ Q => ∃ xs ys, x = .tup xs ∧ y = .tup ys ∧ xs.length + ys.length ≤ 1000000 ∧ Q (.tup (xs ++ ys)) μ) := fun x y dx dy F μ H Q QD l rx ry ⟨xs, ys, ex, ey, hz, q⟩ k => by
  subst ex ey
  obtain ⟨a, vs, rfl, h1, g1, r1⟩ := tup_rep l rx
  obtain ⟨b, ws, rfl, h2, g2, r2⟩ := tup_rep l ry
  refine ⟨a, b, vs, ws, rfl, rfl, h1, h2, by rw [r1.length, r2.length]; exact mil_le hz, fun e => ?_, fun _ e => ?_, fun _ _ p hp => ?_⟩
  · subst e
    have e2 := reps_nil r1
    subst e2
    exact k _ _ F μ H (Ex.refl F) l (.tup g2 r2) q
  · subst e
    have e2 := reps_nil r2
    subst e2
    rw [List.append_nil] at q
    exact k _ _ F μ H (Ex.refl F) l (.tup g1 r1) q
  · exact fin_tup l (r1.append r2) q k p hp
theorem lift_cat {K : PySem.W.Frag} : Lift2 K rCat (fun x y μ Q => ∃ xs ys, x = .lst xs ∧ y = .lst ys ∧ xs.length + ys.length ≤ 1000000 ∧ Q (.lst (xs ++ ys)) μ) := fun x y dx dy F μ H Q QD l rx ry ⟨xs, ys, ex, ey, hz, q⟩ k => by
  subst ex ey
  cases rx with
  | lst h1 r1 =>
    cases ry with
    | lst h2 r2 => exact ⟨_, _, _, _, rfl, rfl, l.fz _ _ h1, l.fz _ _ h2, by rw [r1.length, r2.length]; exact mil_le hz, fin_lst l (r1.append r2) q k⟩
theorem lift_add {K : PySem.W.Frag} : Lift2 K (fun x y H Q => rI0 (fun i j => .int (i + j)) x y H Q ∨ (rCatA K x y H Q ∨ rCat x y H Q)) dAdd :=
  Lift2.imp (Lift2.or (lift_rI0 (gd := fun i j => .int (i + j)) fun _ _ _ => .int _) (Lift2.or lift_catA lift_cat)) fun x y μ Q h => by
    unfold dAdd at h
    split at h
    · exact .inl ⟨_, _, rfl, rfl, h⟩
    · exact .inr (.inl ⟨_, _, rfl, rfl, h⟩)
    · exact .inr (.inr ⟨_, _, rfl, rfl, h⟩)
    · exact h.elim
def dSub : RD2 := fun x y μ Q => match x, y with
  | .int i, .int j => Q (.int (i - j)) μ
  | _, _ => False
def MulOk (i j : Int) : Prop := CMul i j ∨ CMulX i j
def dMul : RD2 := fun x y μ Q => match x, y with
  | .int i, .int j => MulOk i j ∧ Q (.int (i * j)) μ
  | .tup xs, .int j => xs ≠ [] ∧ 2 ≤ j ∧ j ≤ 1000 ∧ xs.length ≤ 1000 ∧ Q (.tup (List.replicate j.toNat xs).flatten) μ
  | _, _ => False
def DivOk (i j : Int) : Prop := j ≠ 0 ∧ Builtin.divisionGoesByPylong i j = false
def dFdiv : RD2 := fun x y μ Q => match x, y with
  | .int i, .int j => DivOk i j ∧ Q (.int (i.fdiv j)) μ
  | _, _ => False
def dMod : RD2 := fun x y μ Q => match x, y with
  | .int i, .int j => 0 < j ∧ Q (.int (i % j)) μ
  | _, _ => False
def dPow : RD2 := fun x y μ Q => match x, y with
  | .int i, .int j => (0 ≤ j ∧ j ≤ 1000000 ∧ i.natAbs < 2 ^ 64) ∧ Q (.int (i ^ j.toNat)) μ
  | _, _ => False
theorem lift_sub {K : PySem.W.Frag} : Lift2 K (rI0 fun i j => .int (i - j)) dSub :=
  Lift2.imp (lift_rI0 (gd := fun i j => .int (i - j)) fun _ _ _ => .int _) fun x y μ Q h => by
    unfold dSub at h
    split at h
    · exact ⟨_, _, rfl, rfl, h⟩
    · exact h.elim
section
variable {X : Cx}
theorem op_mulAny : OpR X (binaryOp .Mult) (rI MulOk fun i j => .int (i * j)) := opI fun _ _ _ _ _ _ _ hc q => mul_int q (by
  rcases hc with h | h
  · exact h.ok
  · exact h.ok)
theorem op_fdivAny : OpR X (binaryOp .FloorDiv) (rI DivOk fun i j => .int (i.fdiv j)) := opI fun _ _ _ _ _ _ _ hc q => floordiv_int hc.1 q (.inl hc.2)
end
theorem reps_flat {K : PySem.W.Frag} {F : Hp} {vs : List V} {xs : List D} (r : Reps K F vs xs) : ∀ n : Nat, Reps K F (List.replicate n vs).flatten (List.replicate n xs).flatten
  | 0 => .nil
  | n + 1 => by
    rw [List.replicate_succ, List.replicate_succ, List.flatten_cons, List.flatten_cons]
    exact r.append (reps_flat r n)
theorem lift_repT {K : PySem.W.Frag} : Lift2 K (rRepT K) (fun x y μ Q => ∃ xs j, x = .tup xs ∧ y = .int j ∧ xs ≠ [] ∧ 2 ≤ j ∧ j ≤ 1000 ∧ xs.length ≤ 1000 ∧ Q (.tup (List.replicate j.toNat xs).flatten) μ) := fun x y dx dy F μ H Q QD l rx ry ⟨xs, j, ex, ey, h0, h1, h2, h3, q⟩ k => by
  subst ex ey
  obtain ⟨a, vs, rfl, g1, _, r1⟩ := tup_rep l rx
  have e := rep_int ry
  subst e
  refine ⟨a, j, vs, rfl, rfl, g1, fun z => ?_, h1, h2, by rw [r1.length]; exact h3, fin_tup l (reps_flat r1 _) q k⟩
  subst z
  exact h0 (reps_nil r1)
theorem lift_mul {K : PySem.W.Frag} : Lift2 K (fun x y H Q => rI MulOk (fun i j => .int (i * j)) x y H Q ∨ rRepT K x y H Q) dMul :=
  Lift2.imp (Lift2.or (lift_rI (gd := fun i j => .int (i * j)) fun _ _ _ => .int _) lift_repT) fun x y μ Q h => by
    unfold dMul at h
    split at h
    · exact .inl ⟨_, _, rfl, rfl, h.1, h.2⟩
    · exact .inr ⟨_, _, rfl, rfl, h⟩
    · exact h.elim
theorem lift_fdiv {K : PySem.W.Frag} : Lift2 K (rI DivOk fun i j => .int (i.fdiv j)) dFdiv :=
  Lift2.imp (lift_rI (gd := fun i j => .int (i.fdiv j)) fun _ _ _ => .int _) fun x y μ Q h => by
    unfold dFdiv at h
    split at h
    · exact ⟨_, _, rfl, rfl, h.1, h.2⟩
    · exact h.elim
theorem lift_mod {K : PySem.W.Frag} : Lift2 K (rI (fun _ j => 0 < j) fun i j => .int (i % j)) dMod :=
  Lift2.imp (lift_rI (gd := fun i j => .int (i % j)) fun _ _ _ => .int _) fun x y μ Q h => by
    unfold dMod at h
    split at h
    · exact ⟨_, _, rfl, rfl, h.1, h.2⟩
    · exact h.elim
theorem lift_pow {K : PySem.W.Frag} : Lift2 K (rI CPow fun i j => .int (i ^ j.toNat)) dPow :=
  Lift2.imp (lift_rI (C := CPow) (gd := fun i j => .int (i ^ j.toNat)) fun _ _ _ => .int _) fun x y μ Q h => by
    unfold dPow at h
    split at h
    · exact ⟨_, _, rfl, rfl, h.1, h.2⟩
    · exact h.elim
def dLt : RD2 := fun x y μ Q => match x, y with
  | .int i, .int j => Q (.bl (decide (i < j))) μ
  | _, _ => False
def dLe : RD2 := fun x y μ Q => match x, y with
  | .int i, .int j => Q (.bl (decide (i ≤ j))) μ
  | _, _ => False
def dGt : RD2 := fun x y μ Q => match x, y with
  | .int i, .int j => Q (.bl (decide (j < i))) μ
  | _, _ => False
def dGe : RD2 := fun x y μ Q => match x, y with
  | .int i, .int j => Q (.bl (decide (j ≤ i))) μ
  | _, _ => False
theorem lift_lt {K : PySem.W.Frag} : Lift2 K (rI0 fun i j => .bl (decide (i < j))) dLt :=
  Lift2.imp (lift_rI0 (gd := fun i j => .bl (decide (i < j))) fun _ _ _ => .bl _) fun x y μ Q h => by
    unfold dLt at h
    split at h
    · exact ⟨_, _, rfl, rfl, h⟩
    · exact h.elim
theorem lift_le {K : PySem.W.Frag} : Lift2 K (rI0 fun i j => .bl (decide (i ≤ j))) dLe :=
  Lift2.imp (lift_rI0 (gd := fun i j => .bl (decide (i ≤ j))) fun _ _ _ => .bl _) fun x y μ Q h => by
    unfold dLe at h
    split at h
    · exact ⟨_, _, rfl, rfl, h⟩
    · exact h.elim
theorem lift_gt {K : PySem.W.Frag} : Lift2 K (rI0 fun i j => .bl (decide (j < i))) dGt :=
  Lift2.imp (lift_rI0 (gd := fun i j => .bl (decide (j < i))) fun _ _ _ => .bl _) fun x y μ Q h => by
    unfold dGt at h
    split at h
    · exact ⟨_, _, rfl, rfl, h⟩
    · exact h.elim
theorem lift_ge {K : PySem.W.Frag} : Lift2 K (rI0 fun i j => .bl (decide (j ≤ i))) dGe :=
  Lift2.imp (lift_rI0 (gd := fun i j => .bl (decide (j ≤ i))) fun _ _ _ => .bl _) fun x y μ Q h => by
    unfold dGe at h
    split at h
    · exact ⟨_, _, rfl, rfl, h⟩
    · exact h.elim

/-! ### == of data -/
mutual
def toPy : D → Option PyData
  | .non => some .none
  | .bl b => some (.bool b)
  | .int i => some (.int i)
  | .str x => some (.str x)
  | .tup xs => (toPys xs).map .tuple
  | .lst xs => (toPys xs).map .list
  | _ => none
def toPys : List D → Option (List PyData)
  | [] => some []
  | x :: xs => match toPy x, toPys xs with
    | some p, some ps => some (p :: ps)
    | _, _ => none
end
def toPyM (μ : Mem) (d : D) : Option PyData := match d with
  | .ref a => (μ a).bind fun xs => (toPys xs).map .list
  | d => toPy d
mutual
theorem dp_of {K : PySem.W.Frag} {F H : Hp} (e : Ex F H) : ∀ {v : V} {d : D} {p : PyData}, Rep K F v d → toPy d = some p → Dp K H v p
  | _, _, _, .non, h => by simp [toPy] at h; subst h; exact .non
  | _, _, _, .bl b, h => by simp [toPy] at h; subst h; exact .bl b
  | _, _, _, .int i, h => by simp [toPy] at h; subst h; exact .int i
  | _, _, _, .str x, h => by simp [toPy] at h; subst h; exact .str x
  | _, _, _, .ty n, h => by simp [toPy] at h
  | _, _, _, .tup g r, h => by
    simp only [toPy, Option.map_eq_some_iff] at h
    obtain ⟨ps, h1, rfl⟩ := h
    exact .tup (ex_t e g) (dps_of e r h1)
  | _, _, _, .lst g r, h => by
    simp only [toPy, Option.map_eq_some_iff] at h
    obtain ⟨ps, h1, rfl⟩ := h
    exact .lst (.inl (.inl (e _ _ g))) (dps_of e r h1)
  | _, _, _, .dic _ _, h => by simp [toPy] at h
  | _, _, _, .ref _, h => by simp [toPy] at h
  | _, _, _, .scr _, h => by simp [toPy] at h
  | _, _, _, .excB _, h => by simp [toPy] at h
  | _, _, _, .excI _ _ _, h => by simp [toPy] at h
theorem dps_of {K : PySem.W.Frag} {F H : Hp} (e : Ex F H) : ∀ {vs : List V} {ds : List D} {ps : List PyData}, Reps K F vs ds → toPys ds = some ps → DpAll K H vs ps
  | _, _, _, .nil, h => by simp [toPys] at h; subst h; exact .nil
  | _, _, _, .cons r rs, h => by
    simp only [toPys] at h
    split at h
    · rename_i p ps h1 h2
      cases h
      exact .cons (dp_of e r h1) (dps_of e rs h2)
    · cases h
end
theorem dpM_of {K : PySem.W.Frag} {F : Hp} {μ : Mem} {H : Hp} (l : Lay K F μ H) {v : V} {d : D} {p : PyData} (r : Rep K F v d) (h : toPyM μ d = some p) : Dp K H v p := by
  unfold toPyM at h
  split at h
  · rename_i a
    cases e : μ a with
    | none => rw [e] at h; cases h
    | some xs =>
      rw [e] at h
      simp only [Option.bind_some, Option.map_eq_some_iff] at h
      obtain ⟨ps, h1, rfl⟩ := h
      obtain ⟨_, vs, h2, rs⟩ := l.mu a xs e
      have ev := rep_ref r
      subst ev
      exact .lst (.inl (.inl h2)) (dps_of l.fz rs h1)
  · exact dp_of l.fz r h
def dEqD : RD2 := fun x y μ Q => ∃ p q, toPyM μ x = some p ∧ toPyM μ y = some q ∧ SeqAt.shaped p = true ∧ SeqAt.shaped q = true ∧ Q (.bl (PyData.eqv p q)) μ
def dNeD : RD2 := fun x y μ Q => ∃ p q, toPyM μ x = some p ∧ toPyM μ y = some q ∧ SeqAt.shaped p = true ∧ SeqAt.shaped q = true ∧ Q (.bl (!PyData.eqv p q)) μ
def dEqS : RD2 := fun x y μ Q => ∃ a b : Str, x = .str a ∧ y = .str b ∧ Q (.bl (decide (a = b))) μ
def dNeS : RD2 := fun x y μ Q => ∃ a b : Str, x = .str a ∧ y = .str b ∧ Q (.bl (!decide (a = b))) μ
def dEq : RD2 := fun x y μ Q => dEqD x y μ Q ∨ dEqS x y μ Q
def dNe : RD2 := fun x y μ Q => dNeD x y μ Q ∨ dNeS x y μ Q
theorem dec_strV (a b : Str) : decide (V.str a = V.str b) = decide (a = b) := by
  rw [Bool.eq_iff_iff]
  simp
theorem lift_eq {K : PySem.W.Frag} : Lift2 K (fun x y H Q => rEqD K x y H Q ∨ rEq x y H Q) dEq := Lift2.or (fun x y dx dy F μ H Q QD l rx ry ⟨p, q, h1, h2, h3, h4, hq⟩ k =>
  ⟨p, q, dpM_of l rx h1, dpM_of l ry h2, h3, h4, k _ _ F μ H (Ex.refl F) l (.bl _) hq⟩) (fun x y dx dy F μ H Q QD l rx ry ⟨a, b, ea, eb, q⟩ k => by
    subst ea eb
    rw [rep_str rx, rep_str ry]
    exact ⟨rfl, k _ _ F μ H (Ex.refl F) l (by rw [dec_strV]; exact .bl _) q⟩)
theorem lift_ne {K : PySem.W.Frag} : Lift2 K (fun x y H Q => rNeD K x y H Q ∨ rNe x y H Q) dNe := Lift2.or (fun x y dx dy F μ H Q QD l rx ry ⟨p, q, h1, h2, h3, h4, hq⟩ k =>
  ⟨p, q, dpM_of l rx h1, dpM_of l ry h2, h3, h4, k _ _ F μ H (Ex.refl F) l (.bl _) hq⟩) (fun x y dx dy F μ H Q QD l rx ry ⟨a, b, ea, eb, q⟩ k => by
    subst ea eb
    rw [rep_str rx, rep_str ry]
    exact ⟨rfl, k _ _ F μ H (Ex.refl F) l (by rw [dec_strV]; exact .bl _) q⟩)

/-! ### in, not in: flat things -/
def toV : D → Option V
  | .non => some .non | .bl b => some (.bl b) | .int i => some (.int i) | .str x => some (.str x)
  | _ => none
theorem toV_rep {K : PySem.W.Frag} {F : Hp} {v : V} {d : D} {u : V} (r : Rep K F v d) (h : toV d = some u) : v = u := by
  cases r <;> simp [toV] at h <;> exact h
def toVs : List D → Option (List V)
  | [] => some []
  | x :: xs => match toV x, toVs xs with
    | some p, some ps => some (p :: ps)
    | _, _ => none
theorem toVs_rep {K : PySem.W.Frag} {F : Hp} : ∀ {vs us : List V} {ds : List D}, Reps K F vs ds → toVs ds = some us → vs = us
  | _, _, _, .nil, h => by simp [toVs] at h; exact h.symm ▸ rfl
  | _, _, _, .cons r rs, h => by
    simp only [toVs] at h
    split at h
    · rename_i p ps h1 h2
      cases h
      rw [toV_rep r h1, toVs_rep rs h2]
    · cases h
def asS (μ : Mem) : D → Option (List D)
  | .tup xs => some xs
  | d => asL μ d
theorem asS_rep {K : PySem.W.Frag} {F : Hp} {μ : Mem} {H : Hp} (l : Lay K F μ H) {v : V} {d : D} {xs : List D} (r : Rep K F v d) (e : asS μ d = some xs) : ∃ a vs, v = .ref a ∧ (SqL K H a vs ∨ SqT K H a vs) ∧ Reps K F vs xs := by
  by_cases h : ∃ ys, d = .tup ys
  · obtain ⟨ys, rfl⟩ := h
    cases e
    obtain ⟨a, vs, e1, h1, _, r1⟩ := tup_rep l r
    exact ⟨a, vs, e1, .inr h1, r1⟩
  · have e' : asL μ d = some xs := by
      unfold asS at e
      split at e
      · rename_i ys
        exact absurd ⟨ys, rfl⟩ h
      · exact e
    obtain ⟨a, vs, e1, h1, r1⟩ := asL_rep l r e'
    exact ⟨a, vs, e1, .inl h1, r1⟩
def dIn (neg : Bool) : RD2 := fun x y μ Q => ∃ u xs us, toV x = some u ∧ asS μ y = some xs ∧ toVs xs = some us ∧ flatV u = true ∧ us.all flatV = true ∧ Q (.bl (if neg then !inV u us else inV u us)) μ
theorem lift_in {K : PySem.W.Frag} {neg : Bool} : Lift2 K (rIn K neg) (dIn neg) := fun x y dx dy F μ H Q QD l rx ry ⟨u, xs, us, h1, h2, h3, h4, h5, q⟩ k => by
  obtain ⟨a, vs, rfl, h6, r1⟩ := asS_rep l ry h2
  have e1 := toV_rep rx h1
  have e2 := toVs_rep r1 h3
  subst e1 e2
  exact ⟨a, _, rfl, h6, h4, h5, k _ _ F μ H (Ex.refl F) l (.bl _) q⟩

/-! ### subscripts, slices -/
def dIx : RD2 := fun x y μ Q => ∃ xs i d, asS μ x = some xs ∧ y = .int i ∧ atI xs i = some d ∧ Q d μ
theorem reps_atI {K : PySem.W.Frag} {F : Hp} {vs : List V} {xs : List D} (r : Reps K F vs xs) {i : Int} {d : D} (h : atI xs i = some d) : ∃ v, atI vs i = some v ∧ Rep K F v d := by
  unfold atI at h ⊢
  rw [r.length]
  cases e : ixN xs.length i with
  | none => rw [e] at h; cases h
  | some j =>
    rw [e] at h
    exact r.get h
theorem lift_ix {K : PySem.W.Frag} : Lift2 K (fun x y H Q => rIxL K x y H Q ∨ rIxT K x y H Q) dIx := fun x y dx dy F μ H Q QD l rx ry ⟨xs, i, d, h1, h2, h3, q⟩ k => by
  subst h2
  obtain ⟨a, vs, rfl, h6, r1⟩ := asS_rep l rx h1
  obtain ⟨v, h7, r2⟩ := reps_atI r1 h3
  have e := rep_int ry
  rcases h6 with h6 | h6
  · exact .inl ⟨a, vs, i, v, rfl, e, h6, h7, k _ _ F μ H (Ex.refl F) l r2 q⟩
  · exact .inr ⟨a, vs, i, v, rfl, e, h6, h7, k _ _ F μ H (Ex.refl F) l r2 q⟩
section
variable {X : Cx} {a b c e : Expr} {pos p2 : Pos} {ta tb : TD}
theorem de_ix (ha : DE X a ta) (hb : DE X b tb) (hs : PlainIx b := by first | exact fun _ _ => rfl | (with_unfolding_all exact fun _ _ => rfl)) : DE X (.Subscript a b pos) (dOp dIx ta tb) :=
  PE.weak (pe_ix (IxR.or ix_list ix_tup) ha hb hs) fun _ _ _ h => eOf_op lift_ix h
abbrev TDO := DSt → Mem → (Option Int → Mem → Prop) → Prop
def oOf (K : PySem.W.Frag) (td : TDO) : TO := fun σ H Q => ∃ δ F μ QD, Lay K F μ H ∧ RepSt K F σ δ ∧ td δ μ QD ∧ ∀ o F' μ' H', Ex F F' → Lay K F' μ' H' → QD o μ' → Q o H'
def dNoPart : TDO := fun _ μ Q => Q none μ
def dPart (t : TD) : TDO := fun δ μ Q => t δ μ fun x μ1 => ∃ i, x = .int i ∧ Q (some i) μ1
theorem do_none : PO X none (oOf X.K dNoPart) := by
  have h := po_none (X := X)
  exact ⟨fun pins s σ H Q I ⟨δ, F, μ, QD, l, rs, q, k⟩ => h.run pins s σ H Q I (k none F μ H (Ex.refl F) l q)⟩
theorem do_some (ha : DE X a ta) : PO X (some a) (oOf X.K (dPart ta)) := by
  have h := po_some (X := X) ha
  refine ⟨fun pins s σ H Q I ⟨δ, F, μ, QD, l, rs, q, k⟩ => h.run pins s σ H Q I ?_⟩
  exact ⟨δ, F, μ, _, l, rs, q, fun v d F1 μ1 H1 e1 l1 r1 ⟨i, ei, q1⟩ => by
    subst ei
    exact ⟨i, rep_int r1, k (some i) F1 μ1 H1 e1 l1 q1⟩⟩
def cutD (xs : List D) (lo hi : Option Int) : List D := (xs.drop (HT.sIx xs.length 0 lo)).take (HT.sIx xs.length xs.length hi - HT.sIx xs.length 0 lo)
theorem reps_cut {K : PySem.W.Frag} {F : Hp} {vs : List V} {xs : List D} (r : Reps K F vs xs) (lo hi : Option Int) : Reps K F (cutV vs lo hi) (cutD xs lo hi) := by
  unfold cutV cutD
  rw [r.length]
  exact (r.drop _).take _
def slV (x : D) (lo hi : Option Int) (μ : Mem) (Q : DK) : Prop := match x with
  | .tup xs => Q (.tup (cutD xs lo hi)) μ
  | d => ∃ xs, asL μ d = some xs ∧ Q (.lst (cutD xs lo hi)) μ
def dSl (te : TD) (tl th : TDO) : TD := fun δ μ Q => te δ μ fun x μ1 => tl δ μ1 fun lo μ2 => th δ μ2 fun hi μ3 => slV x lo hi μ3 Q
variable {lo hi : Option Expr} {tl th : TDO}
theorem de_slice (he : DE X e ta) (hl : PO X lo (oOf X.K tl)) (hh : PO X hi (oOf X.K th)) : DE X (.Subscript e (.Slice lo hi none p2) pos) (dSl ta tl th) := by
  refine PE.weak (pe_slice (SlR.or sl_list sl_tupA) he hl hh) fun σ H Q ⟨δ, F, μ, QD, l, rs, q, k⟩ => ?_
  refine ⟨δ, F, μ, _, l, rs, q, fun v d F1 μ1 H1 e1 l1 r1 q1 => ⟨δ, F1, μ1, _, l1, rs.mono e1, q1, fun lo F2 μ2 H2 e2 l2 q2 => ⟨δ, F2, μ2, _, l2, rs.mono (e1.trans e2), q2, fun hi F3 μ3 H3 e3 l3 q3 => ?_⟩⟩⟩
  have r3 := r1.mono (e2.trans e3)
  have k3 := k.mono ((e1.trans e2).trans e3)
  by_cases h : ∃ ys, d = .tup ys
  · obtain ⟨ys, rfl⟩ := h
    obtain ⟨a, vs, rfl, g1, g2, r4⟩ := tup_rep l3 r3
    refine .inr ⟨a, vs, rfl, g1, fun hw => ?_, fun _ => fin_tup l3 (reps_cut r4 lo hi) q3 k3⟩
    have e : cutD ys lo hi = ys := by
      unfold cutD
      rw [r4.length] at hw
      rw [hw.1, hw.2, List.drop_zero, Nat.sub_zero]
      exact List.take_length
    have q3' : QD (.tup (cutD ys lo hi)) μ3 := q3
    rw [e] at q3'
    exact k3 _ _ F3 μ3 H3 (Ex.refl F3) l3 (.tup g2 r4) q3'
  · have q3' : ∃ xs, asL μ3 d = some xs ∧ QD (.lst (cutD xs lo hi)) μ3 := by
      cases d with
      | tup xs => exact absurd ⟨xs, rfl⟩ h
      | _ => exact q3
    obtain ⟨xs, g0, q4⟩ := q3'
    obtain ⟨a, vs, rfl, g1, r4⟩ := asL_rep l3 r3 g0
    exact .inl ⟨a, vs, rfl, g1, fin_lst l3 (reps_cut r4 lo hi) q4 k3⟩
end

/-! ### built-ins by values -/
theorem reps1 {K : PySem.W.Frag} {F : Hp} {vs : List V} {d : D} (r : Reps K F vs [d]) : ∃ v, vs = [v] ∧ Rep K F v d := by
  cases r with
  | cons r1 r2 => cases r2; exact ⟨_, rfl, r1⟩
theorem reps2 {K : PySem.W.Frag} {F : Hp} {vs : List V} {d e : D} (r : Reps K F vs [d, e]) : ∃ v u, vs = [v, u] ∧ Rep K F v d ∧ Rep K F u e := by
  cases r with
  | cons r1 r2 =>
    cases r2 with
    | cons r3 r4 => cases r4; exact ⟨_, _, rfl, r1, r3⟩
def dLen : RDA := fun ds μ Q => ∃ d xs, ds = [d] ∧ asS μ d = some xs ∧ Q (.int xs.length) μ
theorem lift_len {K : PySem.W.Frag} : LiftA K (fun xs H Q => ∃ p ys, xs = [.ref p] ∧ (SqL K H p ys ∨ SqT K H p ys) ∧ Q (.int ys.length) H) dLen := fun vs ds F μ H Q QD l rs ⟨d, xs, e, h, q⟩ k => by
  subst e
  obtain ⟨v, rfl, r⟩ := reps1 rs
  obtain ⟨a, ws, rfl, h1, r1⟩ := asS_rep l r h
  exact ⟨a, ws, rfl, h1, k _ _ F μ H (Ex.refl F) l (by rw [r1.length]; exact .int _) q⟩
def dAbs : RDA := fun ds μ Q => ∃ i : Int, ds = [.int i] ∧ Q (.int i.natAbs) μ
theorem lift_abs {K : PySem.W.Frag} : LiftA K (fun xs H Q => ∃ i, xs = [.int i] ∧ Q (.int (if i < 0 then -i else i)) H) dAbs := fun vs ds F μ H Q QD l rs ⟨i, e, q⟩ k => by
  subst e
  obtain ⟨v, rfl, r⟩ := reps1 rs
  refine ⟨i, by rw [rep_int r], k _ _ F μ H (Ex.refl F) l ?_ q⟩
  have : (if i < 0 then -i else i) = (i.natAbs : Int) := by split <;> omega
  rw [this]
  exact .int _
def dInt : RDA := fun ds μ Q => ∃ i : Int, ds = [.int i] ∧ Q (.int i) μ
theorem lift_int {K : PySem.W.Frag} : LiftA K (fun xs H Q => (∃ i, xs = [.int i] ∧ Q (.int i) H) ∨ ∃ k, xs = [.bl k] ∧ Q (.int (if k then 1 else 0)) H) dInt := fun vs ds F μ H Q QD l rs ⟨i, e, q⟩ k => by
  subst e
  obtain ⟨v, rfl, r⟩ := reps1 rs
  exact .inl ⟨i, by rw [rep_int r], k _ _ F μ H (Ex.refl F) l (.int _) q⟩
def intsD : List D → Option (List Int)
  | [] => some []
  | .int i :: xs => (intsD xs).map (i :: ·)
  | _ :: _ => none
theorem ints_rep {K : PySem.W.Frag} {F : Hp} : ∀ {vs : List V} {ds : List D} {ns : List Int}, Reps K F vs ds → intsD ds = some ns → vs = ns.map V.int
  | _, _, _, .nil, h => by simp [intsD] at h; subst h; rfl
  | _, _, _, .cons r rs, h => by
    rename_i v vs d ds
    cases d with
    | int i =>
      simp only [intsD, Option.map_eq_some_iff] at h
      obtain ⟨ms, h1, rfl⟩ := h
      rw [rep_int r, ints_rep rs h1, List.map_cons]
    | _ => simp [intsD] at h
def dSum : RDA := fun ds μ Q => ∃ d xs ns, ds = [d] ∧ asL μ d = some xs ∧ intsD xs = some ns ∧ Q (.int ns.sum) μ
theorem lift_sum {K : PySem.W.Frag} : LiftA K (rSum K) dSum := fun vs ds F μ H Q QD l rs ⟨d, xs, ns, e, h, h2, q⟩ k => by
  subst e
  obtain ⟨v, rfl, r⟩ := reps1 rs
  obtain ⟨a, ws, rfl, h1, r1⟩ := asL_rep l r h
  have e := ints_rep r1 h2
  subst e
  exact ⟨a, ns, rfl, h1, k _ _ F μ H (Ex.refl F) l (.int _) q⟩
def bools : List D → Option (List Bool)
  | [] => some []
  | .bl i :: xs => (bools xs).map (i :: ·)
  | _ :: _ => none
theorem bools_rep {K : PySem.W.Frag} {F : Hp} : ∀ {vs : List V} {ds : List D} {ns : List Bool}, Reps K F vs ds → bools ds = some ns → vs = ns.map V.bl
  | _, _, _, .nil, h => by simp [bools] at h; subst h; rfl
  | _, _, _, .cons r rs, h => by
    rename_i v vs d ds
    cases d with
    | bl i =>
      simp only [bools, Option.map_eq_some_iff] at h
      obtain ⟨ms, h1, rfl⟩ := h
      rw [rep_bl r, bools_rep rs h1, List.map_cons]
    | _ => simp [bools] at h
def dAll : RDA := fun ds μ Q => ∃ d xs bs, ds = [d] ∧ asL μ d = some xs ∧ bools xs = some bs ∧ Q (.bl (bs.all id)) μ
theorem lift_all {K : PySem.W.Frag} : LiftA K (rAll K) dAll := fun vs ds F μ H Q QD l rs ⟨d, xs, ns, e, h, h2, q⟩ k => by
  subst e
  obtain ⟨v, rfl, r⟩ := reps1 rs
  obtain ⟨a, ws, rfl, h1, r1⟩ := asL_rep l r h
  have e := bools_rep r1 h2
  subst e
  exact ⟨a, ns, rfl, h1, k _ _ F μ H (Ex.refl F) l (.bl _) q⟩
def dGcd : RDA := fun ds μ Q => ∃ i j : Int, ds = [.int i, .int j] ∧ Q (.int ((Nat.gcd i.natAbs j.natAbs : Nat) : Int)) μ
theorem lift_gcd {K : PySem.W.Frag} : LiftA K rGcd dGcd := fun vs ds F μ H Q QD l rs ⟨i, j, e, q⟩ k => by
  subst e
  obtain ⟨v, u, rfl, r1, r2⟩ := reps2 rs
  exact ⟨i, j, by rw [rep_int r1, rep_int r2], k _ _ F μ H (Ex.refl F) l (.int _) q⟩
/-- tuple(xs), list(xs) -/
def dTupleOf : RDA := fun ds μ Q => ∃ d xs, ds = [d] ∧ asS μ d = some xs ∧ Q (.tup xs) μ
theorem lift_tupleOf {K : PySem.W.Frag} : LiftA K (fun xs H Q => ∃ p ys, xs = [.ref p] ∧ ((SqL K H p ys ∧ ∀ l, H l = none → Q (.ref l) (upd H l (.tup ys))) ∨ (SqT K H p ys ∧ Q (.ref p) H))) dTupleOf := fun vs ds F μ H Q QD l rs ⟨d, xs, e, h, q⟩ k => by
  subst e
  obtain ⟨v, rfl, r⟩ := reps1 rs
  by_cases hd : ∃ ys, d = .tup ys
  · obtain ⟨ys, rfl⟩ := hd
    cases h
    obtain ⟨a, ws, rfl, g1, g2, r1⟩ := tup_rep l r
    exact ⟨a, ws, rfl, .inr ⟨g1, k _ _ F μ H (Ex.refl F) l (.tup g2 r1) q⟩⟩
  · have h' : asL μ d = some xs := by
      cases d with
      | tup ys => exact absurd ⟨ys, rfl⟩ hd
      | _ => exact h
    obtain ⟨a, ws, rfl, h1, r1⟩ := asL_rep l r h'
    exact ⟨a, ws, rfl, .inl ⟨h1, fin_tup l r1 q k⟩⟩
def dListOf : RDA := fun ds μ Q => ∃ d xs, ds = [d] ∧ asS μ d = some xs ∧ Q (.lst xs) μ
def dListOfM : RDA := fun ds μ Q => ∃ d xs, ds = [d] ∧ asS μ d = some xs ∧ ∀ p, μ p = none → Q (.ref p) (mset μ p xs)
theorem lift_listOf {K : PySem.W.Frag} : LiftA K (fun xs H Q => ∃ p ys, xs = [.ref p] ∧ (SqL K H p ys ∨ SqT K H p ys) ∧ ∀ l, H l = none → Q (.ref l) (upd H l (.lst ys))) dListOf := fun vs ds F μ H Q QD l rs ⟨d, xs, e, h, q⟩ k => by
  subst e
  obtain ⟨v, rfl, r⟩ := reps1 rs
  obtain ⟨a, ws, rfl, h1, r1⟩ := asS_rep l r h
  exact ⟨a, ws, rfl, h1, fin_lst l r1 q k⟩
theorem lift_listOfM {K : PySem.W.Frag} : LiftA K (fun xs H Q => ∃ p ys, xs = [.ref p] ∧ (SqL K H p ys ∨ SqT K H p ys) ∧ ∀ l, H l = none → Q (.ref l) (upd H l (.lst ys))) dListOfM := fun vs ds F μ H Q QD l rs ⟨d, xs, e, h, q⟩ k => by
  subst e
  obtain ⟨v, rfl, r⟩ := reps1 rs
  obtain ⟨a, ws, rfl, h1, r1⟩ := asS_rep l r h
  exact ⟨a, ws, rfl, h1, fin_lstM l r1 q k⟩
/-- str(n) -/
def dStrI : RDA := fun ds μ Q => ∃ i : Int, ds = [.int i] ∧ i.natAbs.log2 < 1920 ∧ Q (.str (toString i)) μ
theorem lift_strI {K : PySem.W.Frag} : LiftA K (fun xs H Q => ∃ i, xs = [.int i] ∧ i.natAbs.log2 < 1920 ∧ Q (.str (toString i)) H) dStrI := fun vs ds F μ H Q QD l rs ⟨i, e, h, q⟩ k => by
  subst e
  obtain ⟨v, rfl, r⟩ := reps1 rs
  exact ⟨i, by rw [rep_int r], h, k _ _ F μ H (Ex.refl F) l (.str _) q⟩
def dDivmod : RDA := fun ds μ Q => ∃ i j : Int, ds = [.int i, .int j] ∧ CDiv i j ∧ Q (.tup [.int (i / j), .int (i % j)]) μ
theorem lift_divmod {K : PySem.W.Frag} : LiftA K (fun xs H Q => ∃ i j, xs = [.int i, .int j] ∧ CDiv i j ∧ ∀ p, H p = none → Q (.ref p) (upd H p (.tup [.int (i / j), .int (i % j)]))) dDivmod := fun vs ds F μ H Q QD l rs ⟨i, j, e, h, q⟩ k => by
  subst e
  obtain ⟨v, u, rfl, r1, r2⟩ := reps2 rs
  exact ⟨i, j, by rw [rep_int r1, rep_int r2], h, fin_tup l (.cons (.int _) (.cons (.int _) .nil)) q k⟩
/-! ### types -/
def tyName : D → Option String
  | .non => some "NoneType" | .bl _ => some "bool" | .int _ => some "int" | .str _ => some "str"
  | .tup _ => some "tuple" | .lst _ => some "list" | .dic _ => some "dict"
  | _ => none
theorem tyX_of {K : PySem.W.Frag} {F : Hp} {μ : Mem} {H : Hp} (l : Lay K F μ H) {v : V} {d : D} {n : String} (r : Rep K F v d) (h : tyName d = some n) : TyX K H v (.type n) := by
  cases r with
  | non => cases h; exact .base .non
  | bl b => cases h; exact .base (.bl b)
  | int i => cases h; exact .base (.int i)
  | str x => cases h; exact .base (.str x)
  | ty n => cases h
  | tup g rs =>
    cases h
    rcases ex_t l.fz g with (g | ⟨o, g⟩) | ⟨o, its, m, g1, g2, _⟩
    · exact .base (.tup g)
    · exact .fTuple g
    · exact .kTuple g1 g2
  | lst g rs => cases h; exact .base (.lst (l.fz _ _ g))
  | dic g rs => cases h; exact .base (.dK (l.fz _ _ g))
  | ref a => cases h
  | scr g => cases h
  | excB g => cases h
  | excI g _ _ => cases h
/-- isinstance(x, T), T a built-in type -/
def dIsi : RDA := fun ds μ Q => ∃ d n T b, ds = [d, .ty T] ∧ tyName d = some n ∧ kitB n T = some b ∧ Q (.bl b) μ
theorem lift_isi {K : PySem.W.Frag} : LiftA K (rIsi K) dIsi := fun vs ds F μ H Q QD l rs ⟨d, n, T, b, e, h1, h2, q⟩ k => by
  subst e
  obtain ⟨v, u, rfl, r1, r2⟩ := reps2 rs
  have e2 := rep_ty r2
  subst e2
  exact ⟨v, _, _, _, b, rfl, .ty T, tyX_of l r1 h1, kit_ty h2, k _ _ F μ H (Ex.refl F) l (.bl _) q⟩
end DL
-- DD
set_option maxRecDepth 100000
namespace DL
open PySem PySem.Spec PyProof.Rows L2 RZ

/-! ### targets: a name, a tuple of names -/
inductive Tg where
  | nm (i : Nat)
  | tp (is : List Nat)
def hNs : List Nat → TGs
  | [] => gNil
  | i :: is => gCons (gName i) (hNs is)
def hTg (K : PySem.W.Frag) : Tg → TG
  | .nm i => gName i
  | .tp is => gTup K is.length (hNs is)
def setAll : List Nat → List D → DSt → DSt
  | i :: is, d :: ds, δ => setAll is ds (δ.set i (some d))
  | _, _, δ => δ
def dTg : Tg → D → DSt → (DSt → Prop) → Prop
  | .nm i, d, δ, Q => Q (δ.set i (some d))
  | .tp is, d, δ, Q => ∃ ds, d = .tup ds ∧ ds.length = is.length ∧ Q (setAll is ds δ)
def Tg.slots : Tg → List Nat
  | .nm i => [i]
  | .tp is => is
def setAllV : List Nat → List V → L2.St → L2.St
  | i :: is, d :: ds, δ => setAllV is ds (δ.set i (some d))
  | _, _, δ => δ
theorem hNs_run : ∀ (is : List Nat) (vs : List V) (σ : L2.St) (H : Hp) (Q : L2.St → Hp → Prop), vs.length = is.length → Q (setAllV is vs σ) H → hNs is vs σ H Q
  | [], [], _, _, _, _, q => ⟨rfl, q⟩
  | i :: is, v :: vs, σ, H, Q, h, q => ⟨v, vs, rfl, hNs_run is vs _ H Q (by simpa using h) q⟩
  | [], _ :: _, _, _, _, h, _ => by simp at h
  | _ :: _, [], _, _, _, h, _ => by simp at h
theorem repSt_setAll {K : PySem.W.Frag} {F : Hp} : ∀ (is : List Nat) {vs : List V} {ds : List D} {σ : L2.St} {δ : DSt}, Reps K F vs ds → RepSt K F σ δ → RepSt K F (setAllV is vs σ) (setAll is ds δ)
  | [], _, _, _, _, .nil, r => r
  | [], _, _, _, _, .cons _ _, r => r
  | _ :: _, _, _, _, _, .nil, r => r
  | i :: is, _, _, _, _, .cons h hs, r => repSt_setAll is hs (r.set h i)
theorem wset : ∀ (vs : List Nat) (i : Nat) (x : Option V) (σ : L2.St), i ∈ vs → wipe (σ.set i x) vs = wipe σ vs := by
  intro vs i x
  induction vs with
  | nil => intro σ h; cases h
  | cons w ws ih =>
    intro σ h
    show (wipe (σ.set i x) ws).set w none = (wipe σ ws).set w none
    by_cases e : i ∈ ws
    · rw [ih σ e]
    · have ew : i = w := by
        rcases List.mem_cons.mp h with z | z
        · exact z
        · exact absurd z e
      subst ew
      have out : ∀ (us : List Nat), i ∉ us → ∀ σ : L2.St, wipe (σ.set i x) us = (wipe σ us).set i x := by
        intro us
        induction us with
        | nil => intro _ σ; rfl
        | cons u us ih2 =>
          intro hn σ
          show (wipe (σ.set i x) us).set u none = ((wipe σ us).set u none).set i x
          rw [ih2 (fun z => hn (List.mem_cons_of_mem _ z)) σ, List.set_comm]
          exact fun z => hn (z ▸ List.mem_cons_self)
      rw [out ws e σ, List.set_set]

theorem wipe_wipe (us : List Nat) (τ : L2.St) : ∀ ws : List Nat, (∀ i ∈ ws, i ∈ us) → wipe (wipe τ ws) us = wipe τ us
  | [], _ => rfl
  | w :: ws, h => by
    show wipe ((wipe τ ws).set w none) us = _
    rw [wset us w none _ (h w List.mem_cons_self), wipe_wipe us τ ws fun i hi => h i (List.mem_cons_of_mem _ hi)]
theorem hTg_run {K : PySem.W.Frag} {F : Hp} {μ : Mem} {H : Hp} (l : Lay K F μ H) (g : Tg) {v : V} {d : D} {σ : L2.St} {δ : DSt} {QD : DSt → Prop} {Q : L2.St → Hp → Prop} (r : Rep K F v d) (rs : RepSt K F σ δ) (h : dTg g d δ QD)
    (k : ∀ σ' δ', RepSt K F σ' δ' → QD δ' → (∀ vs : List Nat, (∀ i ∈ g.slots, i ∈ vs) → wipe σ' vs = wipe σ vs) → Q σ' H) : hTg K g v σ H Q := by
  cases g with
  | nm i =>
    exact k _ _ (rs.set r i) h fun vs hv => wset vs i _ σ (hv i List.mem_cons_self)
  | tp is =>
    obtain ⟨ds, rfl, hl, q⟩ := h
    obtain ⟨a, ws, rfl, h1, _, r1⟩ := tup_rep l r
    refine ⟨a, ws, rfl, h1, by rw [r1.length]; exact hl, hNs_run is ws σ H Q (by rw [r1.length]; exact hl) (k _ _ (repSt_setAll is r1 rs) q fun vs hv => ?_)⟩
    have all : ∀ (js : List Nat) (us : List V) (σ : L2.St), (∀ i ∈ js, i ∈ vs) → wipe (setAllV js us σ) vs = wipe σ vs := by
      intro js
      induction js with
      | nil => intro us σ _; cases us <;> rfl
      | cons j js ih =>
        intro us σ hj
        cases us with
        | nil => rfl
        | cons u us =>
          show wipe (setAllV js us (σ.set j (some u))) vs = _
          rw [ih us _ fun i hi => hj i (List.mem_cons_of_mem _ hi), wset vs j _ σ (hj j List.mem_cons_self)]
    exact all is ws σ hv

/-! ### what a loop walks -/
def JOk (K : PySem.W.Frag) (F : Hp) (J : It) (ds : List D) : Prop := ∀ i F2 μ2 H2, Ex F F2 → Lay K F2 μ2 H2 → i ≤ ds.length →
  (∀ d, ds[i]? = some d → J.go i H2 ∧ ∀ x H3, J.yld i H2 x H3 → ∃ F3, Ex F2 F3 ∧ Lay K F3 μ2 H3 ∧ Rep K F3 x d) ∧ (i = ds.length → J.stop i H2)
abbrev TDI := DSt → Mem → (List D → Mem → Prop) → Prop
def iOf (K : PySem.W.Frag) (td : TDI) : TI := fun σ H R => ∃ δ F μ QD, Lay K F μ H ∧ RepSt K F σ δ ∧ td δ μ QD ∧ ∀ J ds F' μ' H', Ex F F' → Lay K F' μ' H' → JOk K F' J ds → QD ds μ' → R J H'
theorem PI.weak {X : Cx} {tg it : Expr} {t u : TI} (h : PI X tg it t) (k : ∀ σ H Q, u σ H Q → t σ H Q) : PI X tg it u := ⟨fun pins s σ H Q I q => h.run pins s σ H Q I (k _ _ _ q)⟩
abbrev DI (X : Cx) (tg e : Expr) (t : TDI) : Prop := PI X tg e (iOf X.K t)
def iLst (te : TD) : TDI := fun δ μ Q => te δ μ fun d μ1 => ∃ xs, d = .lst xs ∧ Q xs μ1
def iTupD (te : TD) : TDI := fun δ μ Q => te δ μ fun d μ1 => ∃ xs, d = .tup xs ∧ Q xs μ1
def iRng (ta : TDA) : TDI := fun δ μ Q => ta δ μ fun ds μ1 => ∃ n : Int, ds = [.int n] ∧ n ≤ 1000000 ∧ -1000000 ≤ n ∧ Q ((List.range n.toNat).map fun i : Nat => .int (i : Int)) μ1
def iRngAB (ta : TDA) : TDI := fun δ μ Q => ta δ μ fun ds μ1 => ∃ m n : Int, ds = [.int m, .int n] ∧ (n ≤ 1000000 ∧ -1000000 ≤ n ∧ m ≤ 1000000 ∧ -1000000 ≤ m) ∧ Q ((List.range (n - m).toNat).map fun i : Nat => .int (m + (i : Int))) μ1
section
variable {X : Cx} {tg e e2 : Expr} {te : TD} {ta : TDA} {p pos : Pos}
theorem di_lst (h : DE X e te) : DI X tg e (iLst te) := by
  refine PI.weak (pi_list h) fun σ H R ⟨δ, F, μ, QD, l, rs, q, k⟩ => ⟨δ, F, μ, _, l, rs, q, fun v d F1 μ1 H1 e1 l1 r1 ⟨xs, ed, q1⟩ => ?_⟩
  subst ed
  cases r1 with
  | @lst a vs _ hF rr =>
    refine ⟨a, rfl, ⟨vs, .inl (.inl (l1.fz _ _ hF))⟩, k _ _ F1 μ1 H1 e1 l1 (fun i F2 μ2 H2 e2 l2 hi => ⟨fun d hd => ?_, fun hl => ?_⟩) q1⟩
    · obtain ⟨x, hx, rx⟩ := rr.get hd
      have hs : SqL X.K H2 a vs := .inl (.inl (l2.fz _ _ (e2 _ _ hF)))
      refine ⟨⟨vs, x, hs, hx⟩, fun y H3 ⟨eh, hy⟩ => ⟨F2, Ex.refl F2, ?_, ?_⟩⟩
      · rw [eh]; exact l2
      · have := (hy vs hs).symm.trans hx
        cases this
        exact rx.mono e2
    · exact ⟨vs, .inl (.inl (l2.fz _ _ (e2 _ _ hF))), by rw [rr.length]; omega⟩
theorem di_tup (h : DE X e te) : DI X tg e (iTupD te) := by
  refine PI.weak (pi_tup h) fun σ H R ⟨δ, F, μ, QD, l, rs, q, k⟩ => ⟨δ, F, μ, _, l, rs, q, fun v d F1 μ1 H1 e1 l1 r1 ⟨xs, ed, q1⟩ => ?_⟩
  subst ed
  obtain ⟨a, vs, rfl, h1, g1, rr⟩ := tup_rep l1 r1
  refine ⟨a, rfl, ⟨vs, h1⟩, k _ _ F1 μ1 H1 e1 l1 (fun i F2 μ2 H2 e2 l2 hi => ⟨fun d hd => ?_, fun hl => ?_⟩) q1⟩
  · obtain ⟨x, hx, rx⟩ := rr.get hd
    have hs : SqT X.K H2 a vs := ex_t l2.fz (ex_t e2 g1)
    refine ⟨⟨vs, x, hs, hx⟩, fun y H3 ⟨eh, hy⟩ => ⟨F2, Ex.refl F2, ?_, ?_⟩⟩
    · rw [eh]; exact l2
    · have := (hy vs hs).symm.trans hx
      cases this
      exact rx.mono e2
  · exact ⟨vs, ex_t l2.fz (ex_t e2 g1), by rw [rr.length]; omega⟩
theorem jok_rng {K : PySem.W.Frag} {F : Hp} {m : Int} {n : Nat} : JOk K F (Itr m n) ((List.range n).map fun i : Nat => D.int (m + (i : Int))) := fun i F2 μ2 H2 e2 l2 hi => by
  rw [List.length_map, List.length_range] at hi
  refine ⟨fun d hd => ?_, fun hl => ?_⟩
  · rw [List.getElem?_map] at hd
    have hlt : i < n := by
      by_cases z : i < n
      · exact z
      · rw [List.getElem?_eq_none (by rw [List.length_range]; omega)] at hd
        cases hd
    rw [List.getElem?_range hlt] at hd
    cases hd
    refine ⟨hlt, fun x H3 ⟨eh, ex⟩ => ⟨F2, Ex.refl F2, ?_, ?_⟩⟩
    · rw [eh]; exact l2
    · rw [ex]; exact .int _
  · rw [List.length_map, List.length_range] at hl
    exact Nat.le_of_eq hl.symm
theorem di_rng {a : Expr} (hm : X.mg "range" = none) (ha : DA X [a] ta) (hg : Gl X "range" := by rfl) (hs : starEach [a] X.env = [(false, eval a X.env)] := by rfl) : DI X tg (.Call (.Name "range" p) [a] [] pos) (iRng ta) := by
  refine PI.weak (pi_range1 hg hm ha hs) fun σ H R ⟨δ, F, μ, QD, l, rs, q, k⟩ => ⟨δ, F, μ, _, l, rs, q, fun vs ds F1 μ1 H1 e1 l1 r1 ⟨n, ed, h1, h2, q1⟩ => ?_⟩
  subst ed
  obtain ⟨v, rfl, rv⟩ := reps1 r1
  refine ⟨n, by rw [rep_int rv], by omega, by omega, k _ _ F1 μ1 H1 e1 l1 jok_rng ?_⟩
  have : (fun i : Nat => D.int (0 + (i : Int))) = fun i : Nat => D.int (i : Int) := by funext i; rw [Int.zero_add]
  rw [this]
  exact q1
theorem di_rngAB {a b : Expr} (hm : X.mg "range" = none) (ha : DA X [a, b] ta) (hg : Gl X "range" := by rfl) (hs : starEach [a, b] X.env = [(false, eval a X.env), (false, eval b X.env)] := by rfl) (hs2 : starEach [b] X.env = [(false, eval b X.env)] := by rfl) : DI X tg (.Call (.Name "range" p) [a, b] [] pos) (iRngAB ta) := by
  refine PI.weak (pi_range2 hg hm ha hs hs2) fun σ H R ⟨δ, F, μ, QD, l, rs, q, k⟩ => ⟨δ, F, μ, _, l, rs, q, fun vs ds F1 μ1 H1 e1 l1 r1 ⟨m, n, ed, ⟨h1, h2, h3, h4⟩, q1⟩ => ?_⟩
  subst ed
  obtain ⟨v, u, rfl, rv, ru⟩ := reps2 r1
  exact ⟨m, n, by rw [rep_int rv, rep_int ru], ⟨by omega, by omega, by omega, by omega⟩, k _ _ F1 μ1 H1 e1 l1 jok_rng q1⟩
/-- zip of two lists, or of two tuples -/
def zipD : List D → List D → List D
  | x :: xs, y :: ys => .tup [x, y] :: zipD xs ys
  | _, _ => []
theorem zipD_get : ∀ (xs ys : List D) (i : Nat) (d : D), (zipD xs ys)[i]? = some d → ∃ x y, xs[i]? = some x ∧ ys[i]? = some y ∧ d = .tup [x, y]
  | x :: xs, y :: ys, 0, d, h => by
    simp [zipD] at h
    exact ⟨x, y, rfl, rfl, h.symm⟩
  | x :: xs, y :: ys, i + 1, d, h => by
    obtain ⟨a, b, h1, h2, h3⟩ := zipD_get xs ys i d (by simpa [zipD] using h)
    exact ⟨a, b, by simpa using h1, by simpa using h2, h3⟩
  | [], _, i, d, h => by simp [zipD] at h
  | _ :: _, [], i, d, h => by simp [zipD] at h
theorem zipD_len : ∀ (xs ys : List D), (zipD xs ys).length = min xs.length ys.length
  | x :: xs, y :: ys => by simp [zipD, zipD_len xs ys, Nat.succ_min_succ]
  | [], _ => by simp [zipD]
  | _ :: _, [] => by simp [zipD]
def iZipD (ta : TDA) : TDI := fun δ μ Q => ta δ μ fun ds μ1 => ∃ xs ys, (ds = [.lst xs, .lst ys] ∨ ds = [.tup xs, .tup ys]) ∧ Q (zipD xs ys) μ1
theorem new_pair {K : PySem.W.Frag} {F : Hp} {μ : Mem} {H : Hp} (l : Lay K F μ H) {T : Addr} (hT : H T = none) {x y : V} {d e : D} (rx : Rep K F x d) (ry : Rep K F y e) : ∃ F3, Ex F F3 ∧ Lay K F3 μ (upd H T (.tup [x, y])) ∧ Rep K F3 (.ref T) (.tup [d, e]) :=
  ⟨_, Ex.new (l.none_F hT), l.new hT _, .tup (.inl (.inl upd_same)) (.cons (rx.mono (Ex.new (l.none_F hT))) (.cons (ry.mono (Ex.new (l.none_F hT))) .nil))⟩
theorem di_zip {elts : List Expr} {kk : Nat} {tpos : Pos} (hm : X.mg "zip" = none) (ha : DA X [e, e2] ta) (hg : Gl X "zip" := by rfl) (hs : starEach [e, e2] X.env = (false, eval e X.env) :: starEach [e2] X.env := by rfl) (hpl : (backTo pos (starEach [e2] X.env)).any (·.1) = false := by rfl) :
    DI X (.Tuple elts kk tpos) (.Call (.Name "zip" p) [e, e2] [] pos) (iZipD ta) := by
  refine PI.weak (pi_zipA hg hm ha hs hpl) fun σ H R ⟨δ, F, μ, QD, l, rs, q, k⟩ => ⟨δ, F, μ, _, l, rs, q, fun vs ds F1 μ1 H1 e1 l1 r1 ⟨xs, ys, ed, q1⟩ => ?_⟩
  rcases ed with ed | ed
  · subst ed
    obtain ⟨v, u, rfl, rv, ru⟩ := reps2 r1
    cases rv with
    | @lst a ws _ hF rr =>
      cases ru with
      | @lst b zs _ hG tt =>
        refine ⟨a, b, ws, zs, rfl, .inl ⟨.inl (.inl (l1.fz _ _ hF)), .inl (.inl (l1.fz _ _ hG)), k _ _ F1 μ1 H1 e1 l1 (fun i F2 μ2 H2 e2 l2 hi => ⟨fun d hd => ?_, fun hl => ?_⟩) q1⟩⟩
        · obtain ⟨x, y, h1, h2, rfl⟩ := zipD_get _ _ _ _ hd
          obtain ⟨vx, hx, rx⟩ := rr.get h1
          obtain ⟨vy, hy, ry⟩ := tt.get h2
          have sa : SqL X.K H2 a ws := .inl (.inl (l2.fz _ _ (e2 _ _ hF)))
          have sb : SqL X.K H2 b zs := .inl (.inl (l2.fz _ _ (e2 _ _ hG)))
          refine ⟨⟨ws, zs, vx, vy, sa, sb, hx, hy⟩, fun z H3 ⟨T, x', y', ez, hT, eH, f1, f2⟩ => ?_⟩
          subst ez eH
          have e3 := (f1 _ sa).symm.trans hx
          have e4 := (f2 _ sb).symm.trans hy
          cases e3
          cases e4
          exact new_pair l2 hT (rx.mono e2) (ry.mono e2)
        · rw [zipD_len] at hl
          refine ⟨ws, zs, .inl (.inl (l2.fz _ _ (e2 _ _ hF))), .inl (.inl (l2.fz _ _ (e2 _ _ hG))), ?_⟩
          rw [rr.length, tt.length]
          omega
  · subst ed
    obtain ⟨v, u, rfl, rv, ru⟩ := reps2 r1
    obtain ⟨a, ws, rfl, h1, hF, rr⟩ := tup_rep l1 rv
    obtain ⟨b, zs, rfl, h2, hG, tt⟩ := tup_rep l1 ru
    refine ⟨a, b, ws, zs, rfl, .inr ⟨h1, h2, k _ _ F1 μ1 H1 e1 l1 (fun i F2 μ2 H2 e2 l2 hi => ⟨fun d hd => ?_, fun hl => ?_⟩) q1⟩⟩
    · obtain ⟨x, y, h1, h2, rfl⟩ := zipD_get _ _ _ _ hd
      obtain ⟨vx, hx, rx⟩ := rr.get h1
      obtain ⟨vy, hy, ry⟩ := tt.get h2
      have sa : SqT X.K H2 a ws := ex_t l2.fz (ex_t e2 hF)
      have sb : SqT X.K H2 b zs := ex_t l2.fz (ex_t e2 hG)
      refine ⟨⟨ws, zs, vx, vy, sa, sb, hx, hy⟩, fun z H3 ⟨T, x', y', ez, hT, eH, f1, f2⟩ => ?_⟩
      subst ez eH
      have e3 := (f1 _ sa).symm.trans hx
      have e4 := (f2 _ sb).symm.trans hy
      cases e3
      cases e4
      exact new_pair l2 hT (rx.mono e2) (ry.mono e2)
    · rw [zipD_len] at hl
      refine ⟨ws, zs, ex_t l2.fz (ex_t e2 hF), ex_t l2.fz (ex_t e2 hG), ?_⟩
      rw [rr.length, tt.length]
      omega

/-! ### for -/
def forD (g : Tg) (tb : TDS) (E : DEnds) : List D → DSt → Mem → Prop
  | [], δ, μ => E.nx δ μ
  | d :: ds, δ, μ => dTg g d δ fun δ' => tb { nx := forD g tb E ds, rt := E.rt, bk := E.nx, ct := forD g tb E ds } δ' μ
def dFor (wi : TDI) (g : Tg) (tb : TDS) : TDS := fun E δ μ => wi δ μ fun ds μ1 => forD g tb E ds δ μ1
theorem ds_for {iter : Expr} {body : List Stmt} {wi : TDI} {g : Tg} {tb : TDS} (hp : PassesOwn (model X.prog X.w) X.A X.env X.xe) (hc : X.calm = true) (hi : DI X tg iter wi) (hg : PG X tg (hTg X.K g)) (hb : DSs X body tb) (hs : ∀ x, foldedSetIterable iter X.env x = pure x := by intro _; rfl) : DS X (.For tg iter body [] pos) (dFor wi g tb) := by
  refine PS.weak (ps_for hp hc hi hg hb hs) fun E σ H ⟨δ, F, μ, ED, l, rs, q, k⟩ => ?_
  refine ⟨δ, F, μ, _, l, rs, q, fun J ds F1 μ1 H1 e1 l1 j q1 => ?_⟩
  refine ⟨fun i m σ H => ∃ δ F2 μ2, Ex F1 F2 ∧ Lay X.K F2 μ2 H ∧ RepSt X.K F2 σ δ ∧ forD g tb ED (ds.drop i) δ μ2 ∧ i ≤ ds.length ∧ m = ds.length - i, ⟨ds.length, δ, F1, μ1, Ex.refl F1, l1, rs.mono e1, q1, Nat.zero_le _, rfl⟩, ?_⟩
  rintro i m σ H2 ⟨δ2, F2, μ2, e2, l2, r2, q2, hle, rfl⟩
  obtain ⟨j1, j2⟩ := j i F2 μ2 H2 e2 l2 hle
  by_cases hlt : i < ds.length
  · refine .inr ⟨(j1 _ (List.getElem?_eq_getElem hlt)).1, fun σ H => ∃ δ F3 μ3, Ex F1 F3 ∧ Lay X.K F3 μ3 H ∧ RepSt X.K F3 σ δ ∧ forD g tb ED (ds.drop (i + 1)) δ μ3, fun σ' H' ⟨δ3, F3, μ3, e3, l3, r3, q3⟩ => ⟨ds.length - (i + 1), by omega, δ3, F3, μ3, e3, l3, r3, q3, hlt, rfl⟩, fun x H3 y => ?_⟩
    obtain ⟨F3, e3, l3, rx⟩ := (j1 _ (List.getElem?_eq_getElem hlt)).2 x H3 y
    rw [List.drop_eq_getElem_cons hlt] at q2
    refine hTg_run l3 g rx (r2.mono e3) q2 fun σ' δ' r' q' _ => ?_
    have k3 := k.mono ((e1.trans e2).trans e3)
    exact ⟨δ', F3, μ2, _, l3, r', q', fun σ4 δ4 F4 μ4 H4 e4 l4 r4 q4 => ⟨δ4, F4, μ4, (e2.trans e3).trans e4, l4, r4, q4⟩, k3.2.1, k3.1, fun σ4 δ4 F4 μ4 H4 e4 l4 r4 q4 => ⟨δ4, F4, μ4, (e2.trans e3).trans e4, l4, r4, q4⟩⟩
  · have e : i = ds.length := by omega
    refine .inl ⟨j2 e, ?_⟩
    rw [List.drop_eq_nil_of_le (by omega)] at q2
    exact k.1 _ _ F2 μ2 H2 (e1.trans e2) l2 r2 q2

/-! ### comprehensions -/
def wipeD (δ : DSt) : List Nat → DSt
  | [] => δ
  | v :: vs => (wipeD δ vs).set v none
theorem repSt_none {K : PySem.W.Frag} {F : Hp} : ∀ {σ : L2.St} {δ : DSt} (i : Nat), RepSt K F σ δ → RepSt K F (σ.set i none) (δ.set i none)
  | _, _, _, .nil => .nil
  | _, _, 0, .no r => .no r
  | _, _, i + 1, .no r => .no (repSt_none i r)
  | _, _, 0, .so _ r => .no r
  | _, _, i + 1, .so g r => .so g (repSt_none i r)
theorem repSt_wipe {K : PySem.W.Frag} {F : Hp} {σ : L2.St} {δ : DSt} (r : RepSt K F σ δ) : ∀ vs, RepSt K F (wipe σ vs) (wipeD δ vs)
  | [] => r
  | v :: vs => repSt_none v (repSt_wipe r vs)
def lcStep (g : Tg) (tt : TDT) (te : TD) (δ : DSt) (d : D) (μ : Mem) (k : Option D → Mem → Prop) : Prop := dTg g d δ fun δ2 => tt δ2 μ fun b μ3 => if b = true then te δ2 μ3 fun y μ4 => k (some y) μ4 else k none μ3
def lcD (g : Tg) (tt : TDT) (te : TD) (δ : DSt) (Dn : Addr) : List D → Mem → DK → Prop
  | [], μ, Q => ∃ acc, μ Dn = some acc ∧ Q (.lst acc) (mdel μ Dn)
  | d :: ds, μ, Q => lcStep g tt te δ d μ fun o μ4 => ∃ acc, μ4 Dn = some acc ∧ acc.length < 1000000 ∧ match o with
    | some y => lcD g tt te δ Dn ds (mset μ4 Dn (acc ++ [y])) Q
    | none => lcD g tt te δ Dn ds μ4 Q
def dLc (wi : TDI) (g : Tg) (tt : TDT) (te : TD) (vs : List Nat) : TD := fun δ μ Q => wi δ μ fun ds μ1 => ∀ Dn, μ1 Dn = none → lcD g tt te (wipeD δ vs) Dn ds (mset μ1 Dn []) Q
def dYes : TDT := fun _ μ Q => Q true μ
abbrev DTs (X : Cx) (ifs : List Expr) (t : TDT) : Prop := PTs X ifs (bOf X.K t)
theorem dts_nil : DTs X [] dYes := by
  have h := pts_nil (X := X)
  exact ⟨fun pins s σ H Q I ⟨δ, F, μ, QD, l, rs, q, k⟩ => h.run pins s σ H Q I (k true F μ H (Ex.refl F) l q)⟩
theorem dts_one {c : Expr} {t : TDT} (h : DT X c t) : DTs X [c] t := pts_one h
theorem lc_sound {wi : TDI} {g : Tg} {tt : TDT} {te : TD} {vs : List Nat} {K : PySem.W.Frag} (hv : ∀ i ∈ g.slots, i ∈ vs) {σ : L2.St} {H : Hp} {Q : VK} (h : eOf K (dLc wi g tt te vs) σ H Q) : tLc (iOf K wi) (hTg K g) (bOf K tt) (eOf K te) vs σ H Q := by
  obtain ⟨δ, F, μ, QD, l, rs, q, k⟩ := h
  refine ⟨δ, F, μ, _, l, rs, q, fun J ds F1 μ1 H1 e1 l1 j q1 Dn hD => ?_⟩
  have q1 := q1 Dn (l1.none_mu hD)
  refine ⟨fun i m H => ∃ F2 μ2, Ex F1 F2 ∧ Lay K F2 μ2 H ∧ lcD g tt te (wipeD δ vs) Dn (ds.drop i) μ2 QD ∧ i ≤ ds.length ∧ m = ds.length - i,
    ⟨ds.length, F1, _, Ex.refl F1, l1.newM hD .nil, q1, Nat.zero_le _, rfl⟩, ?_⟩
  rintro i m H2 ⟨F2, μ2, e2, l2, q2, hle, rfl⟩
  obtain ⟨j1, j2⟩ := j i F2 _ H2 e2 l2 hle
  by_cases hlt : i < ds.length
  · refine .inr ⟨(j1 _ (List.getElem?_eq_getElem hlt)).1, fun H => ∃ F3 μ3, Ex F1 F3 ∧ Lay K F3 μ3 H ∧ lcD g tt te (wipeD δ vs) Dn (ds.drop (i + 1)) μ3 QD,
      fun H' ⟨F3, μ3, e3, l3, q3⟩ => ⟨ds.length - (i + 1), by omega, F3, μ3, e3, l3, q3, hlt, rfl⟩, fun x H3 y => ?_⟩
    obtain ⟨F3, e3, l3, rx⟩ := (j1 _ (List.getElem?_eq_getElem hlt)).2 x H3 y
    rw [List.drop_eq_getElem_cons hlt] at q2
    have rw2 : RepSt K F3 (wipe σ vs) (wipeD δ vs) := repSt_wipe (rs.mono ((e1.trans e2).trans e3)) vs
    refine hTg_run l3 g rx rw2 q2 fun σ' δ' r' q' hw => ⟨?_, ?_⟩
    · rw [hw vs hv, wipe_wipe vs σ vs fun _ z => z]
    · refine ⟨δ', F3, μ2, _, l3, r', q', fun b F4 μ4 H4 e4 l4 q4 => ?_⟩
      cases b with
      | false =>
        obtain ⟨acc, _, _, q5⟩ := q4
        exact ⟨F4, μ4, (e2.trans e3).trans e4, l4, q5⟩
      | true =>
        refine ⟨δ', F4, μ4, _, l4, r'.mono e4, q4, fun v d F5 μ5 H5 e5 l5 r5 ⟨acc, ha, hz, q5⟩ => ?_⟩
        obtain ⟨hF, ws, hw, rws⟩ := l5.mu Dn acc ha
        exact ⟨ws, hw, by rw [rws.length]; exact mil_lt (Nat.le_of_lt hz), F5, _, ((e2.trans e3).trans e4).trans e5, l5.put ha (rws.append (.cons r5 .nil)), q5⟩
  · have e : i = ds.length := by omega
    refine .inl ⟨j2 e, ?_⟩
    rw [List.drop_eq_nil_of_le (by omega)] at q2
    obtain ⟨acc, ha, q3⟩ := q2
    obtain ⟨ws, _, hn, l3, r3⟩ := l2.freeze (p := Dn) ha
    exact k _ _ _ _ H2 ((e1.trans e2).trans (Ex.new hn)) l3 r3 q3
end
end DL
-- DX
set_option maxRecDepth 100000
set_option maxHeartbeats 4000000
/-! own exception classes, their objects held as values -/
namespace DL
open PySem PySem.Spec PyProof.Rows L2 PySem.HandSPX

/-! ### C(.., k = v): ValueError.__new__ is not asked about keywords -/
section
variable {prog : Program} {w : World} {A : Around} {E : Value → Shared → Prop} {R : Result → Shared → Prop} {h : Heap} {g : Array GenState} {d : Drawn} {t : Nat} {os : OsState}
variable {nm q : Str} {C N : Addr} {bs bm bmB : List Value} {hdct : Bool} {sn : List Str} {sub : List Value} {ab : Bool} {col : Option Bool} {dd : Option Addr} {k0 k1 k2 k3 k5 : Option Value} {B newId initId : String} {kw : List (Str × Value)}
theorem kw_new_check (Fx : ExcBaseFacts B newId initId bmB) (hT : ∀ X : String, bm.contains (.type X) = bmB.contains (.type X)) {Q : Unit → Shared → Prop}
    (cl : h.get? C = some (excClassObj nm q C N bs bm hdct sn sub ab col dd k0 k1 k2 k3 k5 newId)) (fin : Q () ⟨h, g, d, t, os⟩) : wpAny (model prog w) A (checkBuiltinCall newId ⟨[.ref C], kw⟩) Q E ⟨h, g, d, t, os⟩ := by
  have inB : (Value.ref C :: bm).contains (.type B) = true := by rw [List.contains_cons, hT, Fx.hasB, Bool.or_true]
  have star := Fx.noStar
  simp only [checkBuiltinCall, Fx.newKind, Fx.newSplit, Fx.newRow]
  repeat (first | refine wpAny_loadPart_at cl ?_ | (refine wpAny_isSubtype_exc cl ?_; rw [inB]) | refine wpAny_staticBase_exc cl ?_ | refine wpAny_madeBy_exc cl ?_ | simp only [bne_self_eq_false, Bool.false_eq_true, ite_false] | wp_step)
  exact fin
theorem kw_new (Fx : ExcBaseFacts B newId initId bmB) (hT : ∀ X : String, bm.contains (.type X) = bmB.contains (.type X))
    (cl : h.get? C = some (excClassObj nm q C N bs bm hdct sn sub ab col dd k0 k1 k2 k3 k5 newId))
    (fin : R (.ok (.ret (.ref (h.objs.size + 1)))) ⟨(h.push (PySem.W.kdv_tup [])).push (excO C h.objs.size), g, d, t, os⟩) :
    codeAny (model prog w) A (.builtin newId ⟨[.ref C], kw⟩) R ⟨h, g, d, t, os⟩ := by
  have ends := Fx.ends
  have inB : (Value.ref C :: bm).contains (.type B) = true := by rw [List.contains_cons, hT, Fx.hasB, Bool.or_true]
  have inA : (Value.ref C :: bm).contains (.type "AttributeError") = false := by rw [List.contains_cons, hT, Fx.noAttr]; rfl
  have inN : (Value.ref C :: bm).contains (.type "NameError") = false := by rw [List.contains_cons, hT, Fx.noName]; rfl
  refine codeAny_builtinAt Fx.entry ?_
  unfold Builtin.«BaseException.__new__»
  refine PySem.wpAt_bind ?_
  show PySem.wpAt _ _ _ (stack >>= _) _ _ _
  refine PySem.wpAt_bind (PySem.wpAt_stack fun p below => PySem.wpAt_of_wpAny ?_)
  wp_walk
  refine PySem.wpAt_of_wpAny ?_
  rw [Fx.owner]
  have small : ([] : List Value).length ≤ sizeLine := Nat.zero_le _
  repeat (first | with_reducible refine wpAny_madeHere_exc Fx.canon cl ?_ | with_reducible refine wpAny_loadPart_at cl ?_ | (with_reducible refine wpAny_isSubtype_exc cl ?_; first | rw [inB] | rw [inA] | rw [inN]) | wp_step)
  show R _ _
  rw [Heap.size_push]
  exact fin
theorem kw_type_call (Fx : ExcBaseFacts B newId initId bmB) (hT : ∀ X : String, bm.contains (.type X) = bmB.contains (.type X)) {fI : Addr} {Q : Fin → Shared → Prop}
    (cl : h.get? C = some (excClassObj nm q C N bs bm hdct sn sub ab col dd k0 k1 k2 k3 k5 newId))
    (li : PySem.W.Looks (model prog w) h (typeLookup (.ref C) "__init__") (some (.ref fI))) (lb : ∀ self, PySem.W.Looks (model prog w) h (bindSpecial (.ref fI) self) (.ref fI, [self]))
    (fin : codeAny (model prog w) A (.call (.ref fI) ⟨[.ref (h.objs.size + 1)], kw⟩)
      (fun r s' => match r with | .ok (.ret v) => v = .none ∧ Q (.done (.ret (.ref (h.objs.size + 1)))) s' | .ok _ => False | .error e => E e s')
      ⟨(h.push (PySem.W.kdv_tup [])).push (excO C h.objs.size), g, d, t, os⟩) :
    wpAny (model prog w) A (Builtin.«type.__call__» ⟨[.ref C], kw⟩) Q E ⟨h, g, d, t, os⟩ := by
  repeat (first | with_reducible refine wpAny_loadPart_at cl ?_ | with_reducible refine wpAny_madeBy_exc cl ?_ | wp_step)
  refine codeAny_call_builtin_code (Code.quiet_builtin _ Fx.quiet) (kw_new_check Fx hT cl ?_)
  refine kw_new Fx hT cl ?_
  show wpAny _ _ _ _ _ _
  have keeps : ∀ b o, h.get? b = some o → ((h.push (PySem.W.kdv_tup [])).push (excO C h.objs.size)).get? b = some o := fun b o e => Heap.get?_push_of_some _ (Heap.get?_push_of_some _ e)
  have cl2 := keeps _ _ cl
  have here : ((h.push (PySem.W.kdv_tup [])).push (excO C h.objs.size)).get? (h.objs.size + 1) = some (excO C h.objs.size) := by heap_get
  have inC : (Value.ref C :: bm).contains (.ref C) = true := by simp
  have li2 := li.keeps keeps
  have lb2 := (lb (.ref (h.objs.size + 1))).keeps keeps
  unfold isInstance
  repeat (first | with_reducible refine wpAny_loadPart_at here ?_ | (with_reducible refine wpAny_isSubtype_exc cl2 ?_; rw [inC]) | wp_step)
  show wpAny _ _ (typeLookup (.ref C) _) _ _ _
  refine li2.at ?_
  refine wpAny_holding (wpAny_bind (lb2.at ?_))
  refine wpAny_bind (wpAny_call (codeAny_mono fin fun r s' z => ?_))
  match r, z with
  | .error e, z => exact z
  | .ok .next, z => exact z.elim
  | .ok .brk, z => exact z.elim
  | .ok .cont, z => exact z.elim
  | .ok (.ret v), z =>
    obtain ⟨ev, z⟩ := z
    subst ev
    first
      | exact wpAny_pure (wpAny_pure z)
      | (wp_walk; exact z)
theorem kw_call (Fx : ExcBaseFacts B newId initId bmB) (hT : ∀ X : String, bm.contains (.type X) = bmB.contains (.type X)) {fI : Addr}
    (cl : h.get? C = some (excClassObj nm q C N bs bm hdct sn sub ab col dd k0 k1 k2 k3 k5 newId))
    (li : PySem.W.Looks (model prog w) h (typeLookup (.ref C) "__init__") (some (.ref fI))) (lb : ∀ self, PySem.W.Looks (model prog w) h (bindSpecial (.ref fI) self) (.ref fI, [self]))
    (fin : codeAny (model prog w) (A.under (.builtin "type.__call__" ⟨[.ref C], kw⟩)) (.call (.ref fI) ⟨[.ref (h.objs.size + 1)], kw⟩) (PySem.W.InitBack (h.objs.size + 1) R)
      ⟨(h.push (PySem.W.kdv_tup [])).push (excO C h.objs.size), g, d, t, os⟩) :
    codeAny (model prog w) A (.call (.ref C) ⟨[], kw⟩) R ⟨h, g, d, t, os⟩ := by
  have tl := tc_lookup
  have tb := tc_bind (.ref C)
  have isT : (⟨h, g, d, t, os⟩ : Shared).TypeIs (.ref C) "type" := ⟨_, cl, rfl⟩
  refine codeAny_of_tree ?_
  show wpAny _ _ (callAny (.ref C) _) _ _ _
  repeat (any_goals (first | assumption | with_reducible refine wpAny_loadPart_at cl ?_ | wp_step))
  refine ⟨rfl, ?_⟩
  refine codeAny_call_builtin_at (Code.quiet_builtin _ (by decide +kernel)) entry_typeCall (wpAny_check_type_call_sub cl (kw_type_call Fx hT cl li lb ?_))
  refine codeAny_mono fin fun r s' z => ?_
  rcases r with e | (v | _ | _ | _) <;> exact z
end

/-! ### what the top tells of such a class -/
structure Ecl (K : PySem.W.Frag) (mg : Str → Option Value) (x : Str) (C fI : Addr) (f : Str) : Prop where
  gC : mg x = some (.ref C)
  T : OexC K C
  iC : PySem.W.findIn K (.ref C) "__init__" = some (some (.ref fI))
  tC : PySem.W.typeIn K (.ref fI) = some (.type "function")
  no : PySem.W.findIn K (.ref C) f = some none
  I : ExcC K C
structure Bcl (K : PySem.W.Frag) (mg : Str → Option Value) (x : Str) (C : Addr) : Prop where
  gC : mg x = some (.ref C)
  q : PySem.W.excIn K C [.type "ValueError", .type "Exception", .type "BaseException", .type "object"] "ValueError.__new__" = true
  kC : PySem.W.keepIn K (.ref C) = true
  I : ExcC K C
/-- what such an __init__ promises -/
def spI (K : PySem.W.Frag) (f : Str) : Sp := fun vs H Q _ => ∃ (a C : Addr) (y : V), vs = [.ref a, y] ∧ OexC K C ∧ PySem.W.findIn K (.ref C) f = some none ∧ H a = some (exo a C none) ∧
  ∀ dx, H dx = none → dx ≠ a → Q .non (upd (upd H dx (exd dx [(f, y)])) a (exo a C (some dx)))
section
variable {P : Program} {w : World} {K : PySem.W.Frag} {mg : Str → Option Value} {base : Heap}
theorem init_ok {qual f : Str} {st : Stmt} {fI : Addr} {fd : FuncData} (F : Fun K "__init__" qual st fI fd) (S : FnScope [("self" : Str), f] [("self" : Str), f] (defScope st))
    (body : ∀ X : Cx, X.K = K → X.N = [("self" : Str), f] → X.env.scope = defScope st → PSs X (defBody st) (tOst K f (tVar 0) (tVar 1))) : FnG P w K mg base CX0 1 fI fd [("self" : Str), f] (spI K f) := by
  obtain ⟨w1, w2, v1, v2, v3, a1, cdv, ct, osl, rfl, found, hcd⟩ := F.ex
  refine fng_of found hcd S (fun zs H Q E ⟨a, C, y, e, _⟩ => by rw [e]; rfl) fun A fs s H zs Q E hg room ⟨a, C, y, e, T, hno, ha, q⟩ => ?_
  subst e
  refine ⟨_, body _ rfl rfl rfl, ?_⟩
  exact ⟨y, rfl, .ref a, rfl, a, C, rfl, T, hno, .inl ⟨ha, fun dx hd hne => q dx hd hne⟩⟩
end
section
variable {X : Cx} {pins : List (Addr × Obj)} {σ : L2.St} {H : Hp} {s : Shared} {C fI : Addr} {x f : Str} {fd : FuncData} {y : V} {u : Value} {Q : VK}
theorem back_made (hgd : X.A.guards = some []) {k : Nat} (room : Room (k + 2) X.A) (T : Ecl X.K X.mg x C fI f) (G : FnG X.prog X.w X.K X.mg X.base CX0 1 fI fd [("self" : Str), f] (spI X.K f)) (I : Inv X pins σ H s)
    (ry : RelV y u) (us : List Value) (kw : List (Str × Value)) {tup : Obj} (args : Args) (hb : ∀ a : Addr, ∀ s' : Shared, BindsTo s' fd ⟨.ref a :: args.pos, args.kw⟩ [("self", .ref a), (f, u)])
    (q : ∀ a dx, H a = none → H dx = none → dx ≠ a → Q (.ref a) (upd (upd H dx (exd dx [(f, y)])) a (exo a C (some dx)))) :
    codeAny (model X.prog X.w) (X.A.under (.builtin "type.__call__" ⟨.ref C :: us, kw⟩)) (.call (.ref fI) ⟨.ref (s.heap.objs.size + 1) :: args.pos, args.kw⟩)
      (PySem.W.InitBack (s.heap.objs.size + 1) fun r s' => match r with | .ok (.ret u) => EP X pins σ Q u s' | .ok _ => False | .error v => X.xe v s')
      { s with heap := (s.heap.push tup).push (excO C s.heap.objs.size) } := by
  have keeps : ∀ b o, s.heap.get? b = some o → ((s.heap.push tup).push (excO C s.heap.objs.size)).get? b = some o := fun b o e => Heap.get?_push_of_some _ (Heap.get?_push_of_some _ e)
  have here : ((s.heap.push tup).push (excO C s.heap.objs.size)).get? (s.heap.objs.size + 1) = some (excO C s.heap.objs.size) := by heap_get
  have free : H (s.heap.objs.size + 1) = none := I.hok.fresh (Nat.le_succ _)
  have J : Inv X pins σ (upd H (s.heap.objs.size + 1) (exo (s.heap.objs.size + 1) C none)) { s with heap := (s.heap.push tup).push (excO C s.heap.objs.size) } := I.laid (t' := s.toks) keeps (Nat.le_succ _) (exo_ok here)
  refine codeAny_mono (G.does _ X.stack _ _ _ _ [.ref (s.heap.objs.size + 1), y] (fun v H2 => v = .non ∧ Q (.ref (s.heap.objs.size + 1)) H2) E0 ?_ ((room.mono (by omega)).make (k := 1) C us kw) (J.env0.make C us kw) (hb _ _) (.cons rfl (.cons ry .nil)) ?_) fun r s2 end2 => ?_
  · first | exact hgd | (simp [Around.under, Code.guards, Code.isGuard, guardIds, pushGuards, hgd])
  · refine ⟨_, C, y, rfl, T.T, T.no, upd_same, fun dx hd hne => ⟨rfl, ?_⟩⟩
    rw [upd_ne hne] at hd
    have e : upd (upd (upd H (s.heap.objs.size + 1) (exo (s.heap.objs.size + 1) C none)) dx (exd dx [(f, y)])) (s.heap.objs.size + 1) (exo (s.heap.objs.size + 1) C (some dx)) = upd (upd H dx (exd dx [(f, y)])) (s.heap.objs.size + 1) (exo (s.heap.objs.size + 1) C (some dx)) := by
      funext b
      unfold upd
      split <;> rfl
    rw [e]
    exact q _ dx free hd hne
  · match r, end2 with
    | .error v, end2 => exact end2.elim
    | .ok (.ret u), end2 =>
      obtain ⟨v, H2, I2, rv, ev, q2⟩ := J.after end2
      subst ev
      exact ⟨rv, .ref _, H2, I2, rfl, q2⟩
    | .ok .next, end2 => exact end2.elim
    | .ok .brk, end2 => exact end2.elim
    | .ok .cont, end2 => exact end2.elim
theorem call_made (hgd : X.A.guards = some []) {k : Nat} (room : Room (k + 2) X.A) (T : Ecl X.K X.mg x C fI f) (G : FnG X.prog X.w X.K X.mg X.base CX0 1 fI fd [("self" : Str), f] (spI X.K f)) (I : Inv X pins σ H s) (ry : RelV y u)
    (hb : ∀ a : Addr, ∀ s' : Shared, BindsTo s' fd ⟨[.ref a, u], []⟩ [("self", .ref a), (f, u)])
    (q : ∀ a dx, H a = none → H dx = none → dx ≠ a → Q (.ref a) (upd (upd H dx (exd dx [(f, y)])) a (exo a C (some dx)))) : wpAny (model X.prog X.w) X.A (call (.ref C) [u]) (EP X pins σ Q) X.xe s := by
  obtain ⟨nm, qn, N, bs, bm, sn, sub, ab, col, dd, k0, k1, k2, k3, k5, hC, hbm⟩ := T.T.cls
  have back := back_made (tup := PySem.W.kdv_tup [u]) (args := ⟨[u], []⟩) hgd room T G I ry [u] [] hb q
  obtain ⟨hp, g, d, t, os⟩ := s
  refine wpAny_call (codeAny_mono (call_own F.excBase_ValueError (fun Y => refsVE_contains Y bm hbm) (I.kIn _ _ hC) (PySem.W.looks_findIn I.kIn T.iC) (fun self => PySem.W.bind_fn I.kIn self T.tC) (by show 1 ≤ sizeLine; rw [sizeLine_eq]; omega) back) fun r s2 end2 => ?_)
  match r, end2 with
  | .error v, end2 => exact end2
  | .ok (.ret u), end2 => exact end2
  | .ok .next, end2 => exact end2.elim
  | .ok .brk, end2 => exact end2.elim
  | .ok .cont, end2 => exact end2.elim
theorem call_madeK (hgd : X.A.guards = some []) {k : Nat} (room : Room (k + 2) X.A) (T : Ecl X.K X.mg x C fI f) (G : FnG X.prog X.w X.K X.mg X.base CX0 1 fI fd [("self" : Str), f] (spI X.K f)) (I : Inv X pins σ H s) (ry : RelV y u)
    (hb : ∀ a : Addr, ∀ s' : Shared, BindsTo s' fd ⟨[.ref a], [(f, u)]⟩ [("self", .ref a), (f, u)])
    (q : ∀ a dx, H a = none → H dx = none → dx ≠ a → Q (.ref a) (upd (upd H dx (exd dx [(f, y)])) a (exo a C (some dx)))) : wpAny (model X.prog X.w) X.A (call (.ref C) [] [(f, u)]) (EP X pins σ Q) X.xe s := by
  obtain ⟨nm, qn, N, bs, bm, sn, sub, ab, col, dd, k0, k1, k2, k3, k5, hC, hbm⟩ := T.T.cls
  have back := back_made (tup := PySem.W.kdv_tup []) (args := ⟨[], [(f, u)]⟩) hgd room T G I ry [] [(f, u)] hb q
  obtain ⟨hp, g, d, t, os⟩ := s
  refine wpAny_call (codeAny_mono (kw_call F.excBase_ValueError (fun Y => refsVE_contains Y bm hbm) (I.kIn _ _ hC) (PySem.W.looks_findIn I.kIn T.iC) (fun self => PySem.W.bind_fn I.kIn self T.tC) back) fun r s2 end2 => ?_)
  match r, end2 with
  | .error v, end2 => exact end2
  | .ok (.ret u), end2 => exact end2
  | .ok .next, end2 => exact end2.elim
  | .ok .brk, end2 => exact end2.elim
  | .ok .cont, end2 => exact end2.elim
end
end DL
-- DY
set_option maxRecDepth 100000
set_option maxHeartbeats 4000000
namespace DL
open PySem PySem.Spec PyProof.Rows L2 PySem.HandSPX

/-! ### repr -/
mutual
def toPyR : D → Option PyData
  | .non => some .none
  | .bl b => some (.bool b)
  | .int i => some (.int i)
  | .str x => some (.str x)
  | .tup xs => (toPyRs xs).map .tuple
  | .lst xs => (toPyRs xs).map .list
  | .dic kvs => (toPyRk kvs).map .dict
  | _ => none
def toPyRs : List D → Option (List PyData)
  | [] => some []
  | x :: xs => match toPyR x, toPyRs xs with
    | some p, some ps => some (p :: ps)
    | _, _ => none
def toPyRk : List (Key × D) → Option (List (PyData × PyData))
  | [] => some []
  | (k, x) :: xs => match toPyR x, toPyRk xs with
    | some p, some ps => some (((match k with | .inl i => .int i | .inr z => .str z), p) :: ps)
    | _, _ => none
end
/-! lists and dicts do not stand in one another -/
mutual
def noL : D → Bool
  | .lst _ => false
  | .tup xs => noLs xs
  | .dic kvs => noLk kvs
  | _ => true
def noLs : List D → Bool
  | [] => true
  | x :: xs => noL x && noLs xs
def noLk : List (Key × D) → Bool
  | [] => true
  | (_, x) :: xs => noL x && noLk xs
end
section
variable {X : Cx} {pins : List (Addr × Obj)} {σ : L2.St} {H : Hp} {s : Shared}
mutual
theorem reads_of {F : Hp} (e : Ex F H) (I : Inv X pins σ H s) : ∀ (d : D) {v : V} {p : PyData} {u : Value}, Rep X.K F v d → toPyR d = some p → RelV v u → ∃ as, Reads s.heap u p as ∧ (noL d = true → sysModules ∉ as)
  | .non, _, _, _, .non, h, r => by
    simp [toPyR] at h
    subst h
    cases r
    exact ⟨_, Reads.none, fun _ => by simp⟩
  | .bl b, _, _, _, .bl _, h, r => by
    simp [toPyR] at h
    subst h
    cases r
    exact ⟨_, Reads.bool b, fun _ => by simp⟩
  | .int i, _, _, _, .int _, h, r => by
    simp [toPyR] at h
    subst h
    obtain ⟨t, rfl⟩ := r
    exact ⟨_, Reads.int i t, fun _ => by simp⟩
  | .str x, _, _, _, .str _, h, r => by
    simp [toPyR] at h
    subst h
    obtain ⟨t, rfl⟩ := r
    exact ⟨_, Reads.str x t, fun _ => by simp⟩
  | .tup xs, _, _, _, .tup g rs, h, r => by
    simp only [toPyR, Option.map_eq_some_iff] at h
    obtain ⟨ps, h1, rfl⟩ := h
    cases r
    obtain ⟨its, rv, ⟨o, ho, hc, n, hd⟩, _⟩ := I.tuple (ex_t e g)
    obtain ⟨as, hr, hn⟩ := reads_ofs e I xs rs h1 rv
    exact ⟨_, Reads.tuple ho hc hd hr, fun z => hn (by simpa [noL] using z)⟩
  | .lst xs, _, _, _, .lst g rs, h, r => by
    simp only [toPyR, Option.map_eq_some_iff] at h
    obtain ⟨ps, h1, rfl⟩ := h
    cases r
    obtain ⟨its, rv, ⟨o, n, ho, hc, _, hd⟩, _⟩ := I.list (SqL.of (e _ _ g))
    obtain ⟨as, hr, _⟩ := reads_ofs e I xs rs h1 rv
    exact ⟨_, Reads.list ho hc hd hr, fun z => by simp [noL] at z⟩
  | .dic kvs, _, _, _, .dic g rs, h, r => by
    simp only [toPyR, Option.map_eq_some_iff] at h
    obtain ⟨ps, h1, rfl⟩ := h
    cases r
    obtain ⟨_, hsys, vs, kv, o, es, ep, ho, hx, hd, _, hp, _⟩ := I.hok _ _ (e _ _ g)
    obtain ⟨as, bs, h2, h3, h4⟩ := reads_ofk e I kvs rs h1 kv hp
    refine ⟨_, Reads.dict ho hx.1 hd h2 h3, fun z => ?_⟩
    have := h4 (by simpa [noL] using z)
    intro q
    rcases List.mem_append.mp q with q | q
    · rcases List.mem_cons.mp q with q | q
      · rw [← q] at hsys
        simp at hsys
      · exact this.1 q
    · exact this.2 q
theorem reads_ofs {F : Hp} (e : Ex F H) (I : Inv X pins σ H s) : ∀ (ds : List D) {vs : List V} {ps : List PyData} {us : List Value}, Reps X.K F vs ds → toPyRs ds = some ps → Vals vs us → ∃ as, ReadsAll s.heap us ps as ∧ (noLs ds = true → sysModules ∉ as)
  | [], _, _, _, .nil, h, r => by
    simp [toPyRs] at h
    subst h
    cases r
    exact ⟨_, ReadsAll.nil, fun _ => by simp⟩
  | d :: ds, _, _, _, .cons r1 r2, h, r => by
    simp only [toPyRs] at h
    split at h
    · rename_i p ps h1 h2
      cases h
      cases r with
      | cons q1 q2 =>
        obtain ⟨as, a1, a2⟩ := reads_of e I d r1 h1 q1
        obtain ⟨bs, b1, b2⟩ := reads_ofs e I ds r2 h2 q2
        refine ⟨_, ReadsAll.cons a1 b1, fun z => ?_⟩
        simp only [noLs, Bool.and_eq_true] at z
        intro q
        rcases List.mem_append.mp q with q | q
        · exact a2 z.1 q
        · exact b2 z.2 q
    · cases h
theorem reads_ofk {F : Hp} (e : Ex F H) (I : Inv X pins σ H s) : ∀ (ds : List (Key × D)) {vs : List (Key × V)} {ps : List (PyData × PyData)} {us : List (Key × Value)} {es : List DictEntry}, RepK X.K F vs ds → toPyRk ds = some ps → KV vs us → Pairs (mixKind X.prog X.w) es us →
    ∃ as bs, ReadsAll s.heap (es.map (·.key)) (ps.map (·.1)) as ∧ ReadsAll s.heap (es.map (·.val)) (ps.map (·.2)) bs ∧ (noLk ds = true → sysModules ∉ as ∧ sysModules ∉ bs)
  | [], _, _, _, _, .nil, h, r, hp => by
    simp [toPyRk] at h
    subst h
    cases r
    cases hp
    exact ⟨_, _, ReadsAll.nil, ReadsAll.nil, fun _ => by simp⟩
  | (k, d) :: ds, _, _, _, _, .cons r1 r2, h, r, hp => by
    simp only [toPyRk] at h
    split at h
    · rename_i p ps h1 h2
      cases h
      cases r with
      | cons q1 q2 =>
        rename_i ku us
        cases hp with
        | cons k1 k2 k3 =>
          rename_i en es
          obtain ⟨as, bs, a1, b1, c1⟩ := reads_ofk e I ds r2 h2 q2 k3
          obtain ⟨as2, a2, c2⟩ := reads_of e I d r1 h1 (u := en.val) (by rw [k2]; exact q1.2)
          have hk : ∃ cs, Reads s.heap en.key (match k with | .inl i => PyData.int i | .inr z => PyData.str z) cs ∧ sysModules ∉ cs := by
            have e1 : k = ku.1 := q1.1
            have k1' : keyIs ku.1 en.key = true := k1
            rw [← e1] at k1'
            rcases keyIs_shape k1' with ⟨i, t, rfl, e3⟩ | ⟨z, t, rfl, e3⟩
            · rw [e3]
              exact ⟨_, Reads.int i t, by simp⟩
            · rw [e3]
              exact ⟨_, Reads.str z t, by simp⟩
          obtain ⟨cs, c3, c4⟩ := hk
          refine ⟨_, _, ReadsAll.cons c3 a1, ReadsAll.cons a2 b1, fun z => ?_⟩
          simp only [noLk, Bool.and_eq_true] at z
          have c1 := c1 z.2
          have c2 := c2 z.1
          exact ⟨fun q => (List.mem_append.mp q).elim c4 c1.1, fun q => (List.mem_append.mp q).elim c2 c1.2⟩
    · cases h
end
end
/-- what repr may be asked of -/
structure ShowOk (d : D) (p : PyData) : Prop where
  e : toPyR d = some p
  show_ : p.showable = true
  dict : p.hasDict = true → noL d = true
  deep : p.depth ≤ 60
  fits : p.shown.length ≤ sizeLine
def dRepr : RDA := fun ds μ Q => ∃ d p, ds = [d] ∧ ShowOk d p ∧ Q (.str p.shown) μ
/-- repr(e), over the layer -/
theorem de_repr {X : Cx} {e : Expr} {tr : TDA} {p pos : Pos} {k : Nat} (room : Room k X.A) (hgd : X.A.guards = some []) (hm : X.mg "repr" = none) (ha : DA X [e] tr) (hg : Gl X "repr" := by rfl)
    (he : starEach [e] X.env = (false, eval e X.env) :: starEach [] X.env := by rfl) (hpl : (backTo pos (starEach [] X.env)).any (·.1) = false := by rfl) : DE X (.Call (.Name "repr" p) [e] [] pos) (dCB dRepr tr) := by
  have hc : CallR X (.builtin "repr") (fun vs H Q => ∃ F μ d p v QD, vs = [v] ∧ Lay X.K F μ H ∧ Rep X.K F v d ∧ ShowOk d p ∧ QD (.str p.shown) μ ∧ KOf X.K F QD Q) := by
    intro pins s σ H vs us Q I r ⟨F, μ, d, p, v, QD, ev, l, rd, ok, q, kk⟩
    subst ev
    obtain ⟨u, rfl, ru⟩ := vals1 r
    obtain ⟨as, hr, hn⟩ := reads_of l.fz I d rd ok.e ru
    have fin : ∀ h' uu tk, (∀ b o, s.heap.get? b = some o → h'.get? b = some o) → EP X pins σ Q (.str p.shown uu) { s with heap := h', toks := tk } := fun h' uu tk k =>
      ⟨.str p.shown, H, I.kept k, ⟨_, rfl⟩, kk _ _ F μ H (Ex.refl F) l (.str _) q⟩
    have un := room.un
    have h1 := ok.show_
    have h2 := ok.fits
    have h3 := ok.deep
    cases hr with
    | none => exact PySem.P.repr_of_none (fin s.heap _ _ fun _ _ z => z)
    | bool b => exact PySem.P.repr_of_bool (fin s.heap _ _ fun _ _ z => z)
    | int i t => exact PySem.P.repr_of_int (by simpa [PyData.showable] using h1) (fin s.heap _ _ fun _ _ z => z)
    | str x t => exact PySem.P.repr_of_str (fin s.heap _ _ fun _ _ z => z) h2
    | list a1 a2 a3 a4 => exact repr_of_reads' (.list a1 a2 a3 a4) h1 (fun z => hn (ok.dict z)) hgd (by omega) (fun _ _ z => z) fin h2
    | tuple a1 a2 a3 a4 => exact repr_of_reads' (.tuple a1 a2 a3 a4) h1 (fun z => hn (ok.dict z)) hgd (by omega) (fun _ _ z => z) fin h2
    | dict a1 a2 a3 a4 a5 => exact repr_of_reads' (.dict a1 a2 a3 a4 a5) h1 (fun z => hn (ok.dict z)) hgd (by omega) (fun _ _ z => z) fin h2
  refine PE.weak (pe_callB hc hg hm PyProof.Rows.bootS_repr ha (he := he) (hpl := hpl)) fun σ H Q ⟨δ, F, μ, QD, l, rs, q, kk⟩ => ?_
  refine ⟨δ, F, μ, _, l, rs, q, fun vs ds F1 μ1 H1 e1 l1 r1 ⟨d, p, ed, ok, q1⟩ => ?_⟩
  subst ed
  obtain ⟨v, rfl, rv⟩ := reps1 r1
  exact ⟨F1, μ1, d, p, v, QD, rfl, l1, rv, ok, q1, kk.mono e1⟩

/-! ### an own error, made -/
section
variable {X : Cx} {C fI : Addr} {x f : Str} {fd : FuncData} {e : Expr} {te : TD} {tr : TDA} {p pos kpos : Pos} {k : Nat}
def dMk (C : Addr) (f : Str) (t : TDA) : TD := fun δ μ Q => t δ μ fun ds μ1 => ∃ d, ds = [d] ∧ Q (.exc C (some (f, d))) μ1
theorem lay_exc {K : PySem.W.Frag} {F : Hp} {μ : Mem} {H : Hp} (l : Lay K F μ H) {a dx : Addr} {v : V} {d : D} (ha : H a = none) (hd : H dx = none) (ne : dx ≠ a) (r : Rep K F v d) : ∃ F', Ex F F' ∧ Lay K F' μ (upd (upd H dx (exd dx [(f, v)])) a (exo a C (some dx))) ∧ Rep K F' (.ref a) (.exc C (some (f, d))) := by
  have l1 := l.new hd (exd dx [(f, v)])
  have ha1 : upd H dx (exd dx [(f, v)]) a = none := by rw [upd_ne ne.symm]; exact ha
  have l2 := l1.new ha1 (exo a C (some dx))
  have e1 : Ex F (upd F dx (exd dx [(f, v)])) := Ex.new (l.none_F hd)
  have e2 := Ex.new (o := exo a C (some dx)) (l1.none_F ha1)
  refine ⟨_, e1.trans e2, l2, .excI (dx := dx) upd_same ?_ (r.mono (e1.trans e2))⟩
  rw [upd_ne ne]
  exact upd_same
theorem de_mk (hgd : X.A.guards = some []) (room : Room (k + 2) X.A) (T : Ecl X.K X.mg x C fI f) (G : FnG X.prog X.w X.K X.mg X.base CX0 1 fI fd [("self" : Str), f] (spI X.K f)) (hb : ∀ (a : Addr) (u : Value) (s' : Shared), BindsTo s' fd ⟨[.ref a, u], []⟩ [("self", .ref a), (f, u)])
    (ha : DA X [e] tr) (hg : Gl X x := by rfl) (hdb : (x == ("__debug__" : Str)) = false := by decide) (he : starEach [e] X.env = (false, eval e X.env) :: starEach [] X.env := by rfl) (hpl : (backTo pos (starEach [] X.env)).any (·.1) = false := by rfl) :
    DE X (.Call (.Name x p) [e] [] pos) (dMk C f tr) := by
  refine ⟨fun pins s σ H Q I ⟨δ, F, μ, QD, l, rs, q, kk⟩ => wpAny_Call_Name_kw (ld_glob I hg T.gC ?_ hdb)⟩
  refine PySem.W.callWith_K (h₀ := X.base) I.ok.mod.kin T.T.kC (thn (ha.run pos pins s σ H (fun vs H1 => ∃ v, vs = [v] ∧ ∀ a dx, H1 a = none → H1 dx = none → dx ≠ a → Q (.ref a) (upd (upd H1 dx (exd dx [(f, v)])) a (exo a C (some dx)))) I ?_) fun us s1 ⟨vs, H1, I1, r1, v, ev, q1⟩ => ⟨I1.kIn, ?_⟩) he hpl
  · refine ⟨δ, F, μ, _, l, rs, q, fun vs ds F1 μ1 H1 e1 l1 r1 ⟨d, ed, q1⟩ => ?_⟩
    subst ed
    obtain ⟨v, rfl, rv⟩ := reps1 r1
    refine ⟨v, rfl, fun a dx h1 h2 ne => ?_⟩
    obtain ⟨F2, e2, l2, r2⟩ := lay_exc (C := C) (f := f) l1 h1 h2 ne rv
    exact kk _ _ F2 μ1 _ (e1.trans e2) l2 r2 q1
  · subst ev
    obtain ⟨u, rfl, ru⟩ := vals1 r1
    exact call_made hgd room T G I1 ru (fun a s' => hb a u s') q1
theorem de_mkK (hgd : X.A.guards = some []) (room : Room (k + 2) X.A) (T : Ecl X.K X.mg x C fI f) (G : FnG X.prog X.w X.K X.mg X.base CX0 1 fI fd [("self" : Str), f] (spI X.K f)) (hb : ∀ (a : Addr) (u : Value) (s' : Shared), BindsTo s' fd ⟨[.ref a], [(f, u)]⟩ [("self", .ref a), (f, u)])
    (ha : DE X e te) (hg : Gl X x := by rfl) (hdb : (x == ("__debug__" : Str)) = false := by decide) (hall : (backToKw pos (keywordEach [⟨some f, e, kpos⟩] X.env)).all (·.1.isSome) = true := by rfl) (hks : (backToKw pos (keywordEach [⟨some f, e, kpos⟩] X.env)).filterMap (·.1) = [f] := by rfl)
    (hpl : ((backTo pos (starEach [] X.env)).any (·.1) || (backToKw pos (keywordEach [⟨some f, e, kpos⟩] X.env)).any (·.1.isNone)) = false := by rfl) :
    DE X (.Call (.Name x p) [] [⟨some f, e, kpos⟩] pos) (dMk C f (dCons te dNil)) := by
  refine ⟨fun pins s σ H Q I ⟨δ, F, μ, QD, l, rs, q, kk⟩ => wpAny_Call_Name_kw (ld_glob I hg T.gC ?_ hdb)⟩
  have hkw : PK X [⟨some f, e, kpos⟩] (tCons (eOf X.K te) tNil) := pk_cons ha pk_nil
  refine PySem.W.callWith_KW0 (h₀ := X.base) I.ok.mod.kin T.T.kC hall (thn (hkw.run pos pins s σ H (fun vs H1 => ∃ v, vs = [v] ∧ ∀ a dx, H1 a = none → H1 dx = none → dx ≠ a → Q (.ref a) (upd (upd H1 dx (exd dx [(f, v)])) a (exo a C (some dx)))) I ?_) fun us s1 ⟨vs, H1, I1, r1, v, ev, q1⟩ => ⟨I1.kIn, ?_⟩) hpl
  · refine ⟨δ, F, μ, _, l, rs, q, fun v d F1 μ1 H1 e1 l1 rv q0 => ?_⟩
    obtain ⟨d', ed, q1⟩ := (show ∃ d', [d] = [d'] ∧ QD (.exc C (some (f, d'))) μ1 from q0)
    cases ed
    refine ⟨v, rfl, fun a dx h1 h2 ne => ?_⟩
    obtain ⟨F2, e2, l2, r2⟩ := lay_exc (C := C) (f := f) l1 h1 h2 ne rv
    exact kk _ _ F2 μ1 _ (e1.trans e2) l2 r2 q1
  · subst ev
    obtain ⟨u, rfl, ru⟩ := vals1 r1
    rw [hks]
    exact call_madeK hgd room T G I1 ru (fun a s' => hb a u s') q1
def dMk0 (C : Addr) : TD := fun _ μ Q => Q (.exc C none) μ
theorem de_mk0 (T : Bcl X.K X.mg x C) (hg : Gl X x := by rfl) (hdb : (x == ("__debug__" : Str)) = false := by decide) : DE X (.Call (.Name x p) [] [] pos) (dMk0 C) := by
  refine ⟨fun pins s σ H Q I ⟨δ, F, μ, QD, l, rs, q, kk⟩ => wpAny_Call_Name_kw (ld_glob I hg T.gC ?_ hdb)⟩
  refine PySem.W.callWith_K0 I.kIn T.kC ?_
  obtain ⟨bm, N, nm, qn, bs, hdct, sn, sub, ab, col, dd, k0, k1, k2, k3, k5, mN, hC, hN, hni, T⟩ := exc_obj I.kIn T.q
  refine wpAny_call_exc_subT PySem.F.excBase_ValueError T hC hN hni (fun h' a hm => ?_) (by show 0 ≤ sizeLine; omega)
  have hn : H a = none := I.hok.gone hm.new
  obtain ⟨t, ht, _, _⟩ := hm.there
  exact ⟨.ref a, upd H a (exo a C none), I.laidN hm.keeps hm.new hn (exo_ok ht), rfl, kk _ _ _ μ _ (Ex.new (l.none_F hn)) (l.new hn _) (.excB upd_same) q⟩

/-! ### an own error, looked at -/
theorem inst_exc {pins : List (Addr × Obj)} {σ : L2.St} {H : Hp} {s : Shared} (I : Inv X pins σ H s) {F : Hp} {μ : Mem} (l : Lay X.K F μ H) {v : V} {C : Addr} {fs : Option (Str × D)} (r : Rep X.K F v (.exc C fs)) : ∃ a ox od, v = .ref a ∧ PySem.W.InstAt s.heap a ox C od ∧
    (∀ g d, fs = some (g, d) → ∃ o y, od = some o ∧ Rep X.K F y d ∧ ∃ u, RelV y u ∧ PySem.W.lookIn g o = some (some u)) := by
  cases r with
  | @excB a _ g =>
    obtain ⟨t, ht⟩ := exo_at I.hok (l.fz _ _ g)
    exact ⟨_, _, none, rfl, ⟨ht, rfl, rfl, trivial⟩, fun _ _ z => nomatch z⟩
  | @excI a _ dx g y d g1 g2 rr =>
    obtain ⟨t, ht⟩ := exo_at I.hok (l.fz _ _ g1)
    obtain ⟨mA, hns, hr⟩ := exd_at I.hok (l.fz _ _ g2)
    obtain ⟨od, ho, hl⟩ := lookIn_ns hns
    refine ⟨_, _, some od, rfl, ⟨ht, rfl, rfl, ho⟩, fun g' d' z => ?_⟩
    cases z
    have e1 : List.lookup g [(g, y)] = some y := by simp [List.lookup]
    obtain ⟨u, hu, ru⟩ := RelO.some_of (v := y) (o := mA g) (by rw [← e1]; exact hr g)
    exact ⟨od, y, rfl, rr, u, ru, by rw [hl, hu]⟩
def kitD (K : PySem.W.Frag) (C : Addr) : D → Option Bool
  | .ref a => PySem.W.kitOne K (.ref C) (.ref a)
  | .ty n => PySem.W.kitOne K (.ref C) (.type n)
  | _ => none
def dIsE (K : PySem.W.Frag) : RDA := fun ds μ Q => ∃ C fs c b, ds = [.exc C fs, c] ∧ ExcC K C ∧ kitD K C c = some b ∧ Q (.bl b) μ
theorem de_isE {e2 : Expr} {K : PySem.W.Frag} (hK : X.K = K) (hm : X.mg "isinstance" = none) (ha : DA X [e, e2] tr) (hg : Gl X "isinstance" := by rfl)
    (he : starEach [e, e2] X.env = (false, eval e X.env) :: starEach [e2] X.env := by rfl) (hpl : (backTo pos (starEach [e2] X.env)).any (·.1) = false := by rfl) : DE X (.Call (.Name "isinstance" p) [e, e2] [] pos) (dCB (dIsE K) tr) := by
  subst hK
  have hc : CallR X (.builtin "isinstance") (fun vs H Q => ∃ F μ C fs c b v w QD, vs = [v, w] ∧ Lay X.K F μ H ∧ Rep X.K F v (.exc C fs) ∧ Rep X.K F w c ∧ ExcC X.K C ∧ kitD X.K C c = some b ∧ QD (.bl b) μ ∧ KOf X.K F QD Q) := by
    intro pins s σ H vs us Q I r ⟨F, μ, C, fs, c, b, v, w, QD, ev, l, rv, rw', T, kt, q, kk⟩
    subst ev
    obtain ⟨u1, u2, rfl, r1, r2⟩ := vals2 r
    obtain ⟨a, ox, od, rfl, J, _⟩ := inst_exc I l rv
    cases (show u1 = Value.ref a from r1)
    have done : ∀ tk, EP X pins σ Q (.bool b) { s with toks := tk } := fun tk => ⟨.bl b, H, I.tok tk, rfl, kk _ _ F μ H (Ex.refl F) l (.bl _) q⟩
    have Z := PySem.W.kitx_exc (K := X.K) (C := C) (x := a) (ox := ox) (od := od) (by obtain ⟨cd, hc, _⟩ := PySem.W.any_some T.hd; rw [hc]; rfl) T.hg T.hk T.hs T.ha T.hn T.ht T.hm
    cases c with
    | ref c2 =>
      have e2 := rep_ref rw'
      subst e2
      cases (show u2 = Value.ref c2 from r2)
      exact PySem.W.kia_one Z I.kIn J kt (fun z => nomatch z) done
    | ty n =>
      have e2 := rep_ty rw'
      subst e2
      cases (show u2 = Value.type n from r2)
      exact PySem.W.kia_one Z I.kIn J kt (fun z => nomatch z) done
    | _ => cases kt
  refine PE.weak (pe_callB hc hg hm (by decide +kernel) ha (he := he) (hpl := hpl)) fun σ H Q ⟨δ, F, μ, QD, l, rs, q, kk⟩ => ?_
  refine ⟨δ, F, μ, _, l, rs, q, fun vs ds F1 μ1 H1 e1 l1 r1 ⟨C, fs, c, b, ed, T, kt, q1⟩ => ?_⟩
  subst ed
  obtain ⟨v, w, rfl, rv, rw'⟩ := reps2 r1
  exact ⟨F1, μ1, C, fs, c, b, v, w, QD, rfl, l1, rv, rw', T, kt, q1, kk.mono e1⟩
/-- e.f of such an error -/
def dAttr (K : PySem.W.Frag) (f : Str) (te : TD) : TD := fun δ μ Q => te δ μ fun x μ1 => ∃ C d, x = .exc C (some (f, d)) ∧ ExcC K C ∧ PySem.W.findIn K (.ref C) f = some none ∧ Q d μ1
theorem de_attr {K : PySem.W.Frag} (hK : X.K = K) (he : DE X e te) (hb : attributeBase e f X.env (eval e X.env) = eval e X.env := by rfl) : DE X (.Attribute e f pos) (dAttr K f te) := by
  subst hK
  refine ⟨fun pins s σ H Q I ⟨δ, F, μ, QD, l, rs, q, kk⟩ => attr_of hb (thn (he.run pins s σ H (fun v H1 => ∃ F1 μ1 C d, Ex F F1 ∧ Lay X.K F1 μ1 H1 ∧ Rep X.K F1 v (.exc C (some (f, d))) ∧ ExcC X.K C ∧ PySem.W.findIn X.K (.ref C) f = some none ∧ QD d μ1) I ?_) ?_)⟩
  · exact ⟨δ, F, μ, _, l, rs, q, fun v d F1 μ1 H1 e1 l1 r1 ⟨C, d', ed, T, hno, q1⟩ => ⟨F1, μ1, C, d', e1, l1, by rw [← ed]; exact r1, T, hno, q1⟩⟩
  · intro u s1 ⟨v, H1, I1, r1, F1, μ1, C, d, e1, l1, rv, T, hno, q1⟩
    obtain ⟨a, ox, od, rfl, J, hl⟩ := inst_exc I1 l1 rv
    cases (show u = Value.ref a from r1)
    obtain ⟨o, y, eo, ry, w, rw', look⟩ := hl f d rfl
    subst eo
    exact PySem.HandSPX.exc_get I1.kIn J T.hg T.hk T.hs (PySem.W.findObj_own T.hd hno rfl look) (handed_of rw') ⟨y, H1, I1.tok _, rw', kk _ _ F1 μ1 H1 e1 l1 ry q1⟩
end
end DL
-- DZ
set_option maxRecDepth 100000
namespace DL
open PySem PySem.Spec PyProof.Rows L2

/-! ### any target of an assignment -/
abbrev DTG := D → DSt → Mem → (DSt → Mem → Prop) → Prop
abbrev DTGs := List D → DSt → Mem → (DSt → Mem → Prop) → Prop
def gOf (K : PySem.W.Frag) (td : DTG) : TG := fun v σ H Q => ∃ d δ F μ QD, Lay K F μ H ∧ Rep K F v d ∧ RepSt K F σ δ ∧ td d δ μ QD ∧ SOf K F QD Q
def gsOf (K : PySem.W.Frag) (td : DTGs) : TGs := fun vs σ H Q => ∃ ds δ F μ QD, Lay K F μ H ∧ Reps K F vs ds ∧ RepSt K F σ δ ∧ td ds δ μ QD ∧ SOf K F QD Q
def dgName (i : Nat) : DTG := fun d δ μ Q => Q (δ.set i (some d)) μ
def dgNil : DTGs := fun ds δ μ Q => ds = [] ∧ Q δ μ
def dgCons (t : DTG) (u : DTGs) : DTGs := fun ds δ μ Q => ∃ d r, ds = d :: r ∧ t d δ μ fun δ' μ' => u r δ' μ' Q
def dgTup (n : Nat) (t : DTGs) : DTG := fun d δ μ Q => ∃ ds, d = .tup ds ∧ ds.length = n ∧ t ds δ μ Q
def dgSub (to ti : TD) : DTG := fun d δ μ Q => to δ μ fun o μ1 => ti δ μ1 fun i μ2 => ∃ a xs k j, o = .ref a ∧ i = .int k ∧ μ2 a = some xs ∧ ixN xs.length k = some j ∧ Q δ (mset μ2 a (xs.set j d))
section
variable {X : Cx}
theorem PG.weak {e : Expr} {t u : TG} (h : PG X e t) (k : ∀ v σ H Q, u v σ H Q → t v σ H Q) : PG X e u := ⟨fun pins s σ H v uu Q I r q => h.run pins s σ H v uu Q I r (k _ _ _ _ q)⟩
theorem PGs.weak {e : List Expr} {t u : TGs} (h : PGs X e t) (k : ∀ v σ H Q, u v σ H Q → t v σ H Q) : PGs X e u := ⟨fun pins s σ H v uu Q I r q => h.run pins s σ H v uu Q I r (k _ _ _ _ q)⟩
abbrev DG (X : Cx) (e : Expr) (t : DTG) : Prop := PG X e (gOf X.K t)
abbrev DGs (X : Cx) (e : List Expr) (t : DTGs) : Prop := PGs X e (gsOf X.K t)
variable {e o : Expr} {es : List Expr} {t to ti te : TD} {g : DTG} {gs : DTGs} {pos : Pos}
theorem dg_name {i : Nat} (h : PG X e (gName i)) : DG X e (dgName i) :=
  PG.weak h fun v σ H Q ⟨d, δ, F, μ, QD, l, r, rs, q, k⟩ => k _ _ F μ H (Ex.refl F) l (rs.set r i) q
theorem dgs_nil : DGs X [] dgNil := PGs.weak pgs_nil fun vs σ H Q ⟨ds, δ, F, μ, QD, l, r, rs, ⟨e, q⟩, k⟩ => by
  subst e
  cases r
  exact ⟨rfl, k _ _ F μ H (Ex.refl F) l rs q⟩
theorem dgs_cons (h1 : DG X e g) (h2 : DGs X es gs) (hs : (assignEach (e :: es) X.env).map (·.2) = assign e X.env :: (assignEach es X.env).map (·.2) := by rfl) : DGs X (e :: es) (dgCons g gs) :=
  PGs.weak (pgs_cons h1 h2 hs) fun vs σ H Q ⟨ds, δ, F, μ, QD, l, r, rs, ⟨d, dr, ed, q⟩, k⟩ => by
    subst ed
    cases r with
    | cons r1 r2 => exact ⟨_, _, rfl, d, δ, F, μ, _, l, r1, rs, q, fun σ1 δ1 F1 μ1 H1 e1 l1 rs1 q1 => ⟨dr, δ1, F1, μ1, QD, l1, r2.mono e1, rs1, q1, k.mono e1⟩⟩
theorem dg_tup {k n : Nat} (hc : X.calm = true) (h : DGs X es gs) (hn : (assignEach es X.env).length = n := by rfl) (hst : (assignEach es X.env).findIdx? (·.1) = none := by rfl) : DG X (.Tuple es k pos) (dgTup n gs) :=
  PG.weak (pg_tup hc h hn hst) fun v σ H Q ⟨d, δ, F, μ, QD, l, r, rs, ⟨ds, ed, hl, q⟩, k⟩ => by
    subst ed
    obtain ⟨a, vs, rfl, h1, _, r1⟩ := tup_rep l r
    exact ⟨a, vs, rfl, h1, by rw [r1.length]; exact hl, ds, δ, F, μ, QD, l, r1, rs, q, k⟩
theorem dg_sub {i : Expr} (h : PG X (.Subscript o i pos) (gSub (eOf X.K to) (eOf X.K ti) rSetL)) : DG X (.Subscript o i pos) (dgSub to ti) := by
  exact PG.weak h fun v σ H Q ⟨d, δ, F, μ, QD, l, r, rs, q, k⟩ => ⟨δ, F, μ, _, l, rs, q, fun vo dO F1 μ1 H1 e1 l1 r1 q1 => ⟨δ, F1, μ1, _, l1, rs.mono e1, q1, fun vi di F2 μ2 H2 e2 l2 r2 ⟨a, xs, kk, j, eo, ei, hm, hj, q2⟩ => by
    subst eo ei
    obtain ⟨hF, vs, hv, rv⟩ := l2.mu a xs hm
    refine ⟨a, vs, kk, j, rep_ref (r1.mono e2), rep_int r2, hv, by rw [rv.length]; exact hj, k _ _ F2 _ _ (e1.trans e2) (l2.put hm (rv.set (r.mono (e1.trans e2)) j)) (rs.mono (e1.trans e2)) q2⟩⟩⟩
def dAsg (te : TD) (g : DTG) : TDS := fun E δ μ => te δ μ fun d μ1 => g d δ μ1 E.nx
theorem ds_asg {tg : Expr} (he : DE X e te) (hg : DG X tg g) (hs : swapsWithSole [tg] e pos.line X.env = pure false := by rfl) (hw : swappedStores [tg] e X.env = pure none := by rfl) (h1 : (assignEach [tg] X.env).map (·.2) = [assign tg X.env] := by rfl) : DS X (.Assign [tg] e pos) (dAsg te g) :=
  PS.weak (ps_asg he hg hs hw h1) fun D σ H ⟨δ, F, μ, ED, l, rs, q, k⟩ => ⟨δ, F, μ, _, l, rs, q, fun v d F1 μ1 H1 e1 l1 r1 q1 => ⟨d, δ, F1, μ1, _, l1, r1, rs.mono e1, q1, k.1.mono e1⟩⟩
/-- a, b = x, y -/
def dPar (i j : Nat) (ta : TDA) : TDS := fun E δ μ => ta δ μ fun ds μ1 => ∃ d e, ds = [d, e] ∧ E.nx ((δ.set i (some d)).set j (some e)) μ1
theorem ds_par {i j : Nat} {a b : Expr} {ta : TDA} {st : Stmt} (h : PS X st (tPar i j (aOf X.K ta))) : DS X st (dPar i j ta) :=
  PS.weak h fun D σ H ⟨δ, F, μ, ED, l, rs, q, k⟩ => ⟨δ, F, μ, _, l, rs, q, fun vs ds F1 μ1 H1 e1 l1 r1 ⟨d, e, ed, q1⟩ => by
    subst ed
    obtain ⟨v, u, rfl, rv, ru⟩ := reps2 r1
    exact ⟨v, u, rfl, k.1 _ _ F1 μ1 H1 e1 l1 (((rs.mono e1).set rv i).set ru j) q1⟩⟩
/-- i += e, ints -/
def dAugI (f : Int → Int → Int) (i : Nat) (te : TD) : TDS := fun E δ μ => ∃ a : Int, δ[i]? = some (some (.int a)) ∧ te δ μ fun d μ1 => ∃ b : Int, d = .int b ∧ E.nx (δ.set i (some (.int (f a b)))) μ1
theorem ds_augI {f : Int → Int → Int} {i : Nat} {st : Stmt} (h : PS X st (tAug i (eOf X.K te) (ipI f))) : DS X st (dAugI f i te) :=
  PS.weak h fun D σ H ⟨δ, F, μ, ED, l, rs, ⟨a, ea, q⟩, k⟩ => by
    obtain ⟨v, hv, rv⟩ := rs.get ea
    refine ⟨v, hv, δ, F, μ, _, l, rs, q, fun u d F1 μ1 H1 e1 l1 r1 ⟨b, ed, q1⟩ => ?_⟩
    subst ed
    exact ⟨a, b, rep_int rv, rep_int r1, k.1 _ _ F1 μ1 H1 e1 l1 ((rs.mono e1).set (.int _) i) q1⟩
/-- xs.append(e) -/
def dApp (to : TD) (ta : TDA) : TDS := fun E δ μ => to δ μ fun x μ1 => ∃ a, x = .ref a ∧ (∃ ys, μ1 a = some ys) ∧ ta δ μ1 fun ds μ2 => ∃ xs d, ds = [d] ∧ μ2 a = some xs ∧ xs.length < 1000000 ∧ E.nx δ (mset μ2 a (xs ++ [d]))
theorem ds_app {ta : TDA} {st : Stmt} (h : PS X st (tDrop (tBM X.K "list" rAppend (eOf X.K to) (aOf X.K ta)))) : DS X st (dApp to ta) :=
  PS.weak h fun D σ H ⟨δ, F, μ, ED, l, rs, q, k⟩ => ⟨δ, F, μ, _, l, rs, q, fun v d F1 μ1 H1 e1 l1 r1 ⟨a, ed, ⟨ys, hy⟩, q1⟩ => by
    subst ed
    have ev := rep_ref r1
    subst ev
    obtain ⟨_, vs, hv, _⟩ := l1.mu a ys hy
    refine ⟨.inl ⟨rfl, vs, SqL.of hv⟩, δ, F1, μ1, _, l1, rs.mono e1, q1, fun us ds F2 μ2 H2 e2 l2 r2 ⟨xs, d, ed, hx, hz, q2⟩ => ?_⟩
    subst ed
    obtain ⟨u, rfl, ru⟩ := reps1 r2
    obtain ⟨_, ws, hw, rw'⟩ := l2.mu a xs hx
    exact ⟨a, ws, u, rfl, rfl, hw, by rw [rw'.length]; exact mil_lt (Nat.le_of_lt hz), k.1 _ _ F2 _ _ (e1.trans e2) (l2.put hx (rw'.append (.cons ru .nil))) (rs.mono (e1.trans e2)) q2⟩⟩
/-- while -/
def dWhile (c : TDT) (tb : TDS) : TDS := fun E δ μ => ∃ W : Nat → DSt → Mem → Prop, (∃ m, W m δ μ) ∧ ∀ m δ μ, W m δ μ →
  c δ μ fun b μ1 => if b = true then tb { nx := fun δ' μ' => ∃ m', m' < m ∧ W m' δ' μ', rt := E.rt, bk := E.nx, ct := fun δ' μ' => ∃ m', m' < m ∧ W m' δ' μ' } δ μ1 else E.nx δ μ1
theorem ds_while {c : Expr} {body : List Stmt} {tc : TDT} {tb : TDS} (hp : PassesOwn (model X.prog X.w) X.A X.env X.xe) (hc : DT X c tc) (hb : DSs X body tb) : DS X (.While c body [] pos) (dWhile tc tb) :=
  PS.weak (ps_while hp hc hb) fun E σ H ⟨δ, F, μ, ED, l, rs, ⟨W, ⟨m0, w0⟩, turn⟩, k⟩ => by
    refine ⟨fun m σ H => ∃ δ F2 μ2, Ex F F2 ∧ Lay X.K F2 μ2 H ∧ RepSt X.K F2 σ δ ∧ W m δ μ2, ⟨m0, δ, F, μ, Ex.refl F, l, rs, w0⟩, ?_⟩
    rintro m σ2 H2 ⟨δ2, F2, μ2, e2, l2, r2, w2⟩
    refine ⟨δ2, F2, μ2, _, l2, r2, turn m δ2 μ2 w2, fun b F3 μ3 H3 e3 l3 q3 => ?_⟩
    cases b with
    | true =>
      have k3 := k.mono (e2.trans e3)
      exact ⟨fun σ H => ∃ m', m' < m ∧ ∃ δ F2 μ2, Ex F F2 ∧ Lay X.K F2 μ2 H ∧ RepSt X.K F2 σ δ ∧ W m' δ μ2, fun σ' H' ⟨m', hm, z⟩ => ⟨m', hm, z⟩, δ2, F3, μ3, _, l3, r2.mono e3, q3,
        fun σ4 δ4 F4 μ4 H4 e4 l4 r4 ⟨m', hm, w4⟩ => ⟨m', hm, δ4, F4, μ4, (e2.trans e3).trans e4, l4, r4, w4⟩, k3.2.1, k3.1, fun σ4 δ4 F4 μ4 H4 e4 l4 r4 ⟨m', hm, w4⟩ => ⟨m', hm, δ4, F4, μ4, (e2.trans e3).trans e4, l4, r4, w4⟩⟩
    | false => exact k.1 _ _ F3 μ3 H3 (e2.trans e3) l3 (r2.mono e3) q3
end
end DL
-- DW
set_option maxRecDepth 100000
namespace DL
open PySem PySem.Spec PyProof.Rows L2
section
variable {X : Cx} {a b c e : Expr} {ta tb tc te : TD} {pos : Pos}
def dNeg (t : TD) : TD := fun δ μ Q => t δ μ fun x μ1 => ∃ i : Int, x = .int i ∧ Q (.int (-i)) μ1
theorem de_neg (h : DE X a ta) : DE X (.UnaryOp .USub a pos) (dNeg ta) :=
  PE.weak (pe_un un_neg h) fun σ H Q ⟨δ, F, μ, QD, l, rs, q, k⟩ => ⟨δ, F, μ, _, l, rs, q, fun v d F1 μ1 H1 e1 l1 r1 ⟨i, ed, q1⟩ => by
    subst ed
    exact ⟨i, rep_int r1, k _ _ F1 μ1 H1 e1 l1 (.int _) q1⟩⟩
/-- a op1 b op2 c -/
def dChain (r r' : RD2) (ta tb tc : TD) : TD := fun δ μ Q => ta δ μ fun x μ1 => tb δ μ1 fun y μ2 => r x y μ2 fun z μ3 => ∃ k, z = .bl k ∧ (if k = true then tc δ μ3 fun w μ4 => r' y w μ4 Q else Q (.bl false) μ3)
theorem eOf_chain {r r' : R2} {rd rd' : RD2} {K : PySem.W.Frag} (h : Lift2 K r rd) (h' : Lift2 K r' rd') {σ : L2.St} {H : Hp} {Q : VK} : eOf K (dChain rd rd' ta tb tc) σ H Q → tChain r r' (eOf K ta) (eOf K tb) (eOf K tc) σ H Q := fun ⟨δ, F, μ, QD, l, rs, q, k⟩ =>
  ⟨δ, F, μ, _, l, rs, q, fun x dx F1 μ1 H1 e1 l1 r1 q1 => ⟨δ, F1, μ1, _, l1, rs.mono e1, q1, fun y dy F2 μ2 H2 e2 l2 r2 q2 =>
    h x y dx dy F2 μ2 H2 _ (fun z μ3 => ∃ kk, z = .bl kk ∧ (if kk = true then tc δ μ3 fun w μ4 => rd' dy w μ4 QD else QD (.bl false) μ3)) l2 (r1.mono e2) r2 q2 fun z dz F3 μ3 H3 e3 l3 r3 ⟨kk, ez, q3⟩ => by
      subst ez
      refine ⟨kk, rep_bl r3, ?_⟩
      cases kk with
      | false => exact k _ _ F3 μ3 H3 ((e1.trans e2).trans e3) l3 (.bl _) q3
      | true => exact ⟨δ, F3, μ3, _, l3, rs.mono ((e1.trans e2).trans e3), q3, fun w dw F4 μ4 H4 e4 l4 r4 q4 => h' y w dy dw F4 μ4 H4 Q QD l4 (r2.mono (e3.trans e4)) r4 q4 (k.mono (((e1.trans e2).trans e3).trans e4))⟩⟩⟩
theorem de_chain {op op' : CmpOp} {r r' : R2} {rd rd' : RD2} (ho : OpR X (compareOp op) r) (hl : Lift2 X.K r rd) (ho' : OpR X (compareOp op') r') (hl' : Lift2 X.K r' rd') (ha : DE X a ta) (hb : DE X b tb) (hc : DE X c tc)
    (hm : lastMarks [op, op'] [b, c] = false := by with_unfolding_all rfl) : DE X (.Compare a [op, op'] [b, c] pos) (dChain rd rd' ta tb tc) :=
  PE.weak (pe_chain ho ho' ha hb hc hm) fun _ _ _ h => eOf_chain hl hl' h
theorem dt_chain {op op' : CmpOp} {r r' : R2} {rd rd' : RD2} (ho : OpR X (compareOp op) r) (hl : Lift2 X.K r rd) (ho' : OpR X (compareOp op') r') (hl' : Lift2 X.K r' rd') (ha : DE X a ta) (hb : DE X b tb) (hc : DE X c tc)
    (hm : lastMarks [op, op'] [b, c] = false := by with_unfolding_all rfl) : DT X (.Compare a [op, op'] [b, c] pos) (dTest (dChain rd rd' ta tb tc)) := by
  refine PT.weak (pt_chain ho ho' ha hb hc hm) fun σ H Q ⟨δ, F, μ, QD, l, rs, q, k⟩ => ?_
  exact eOf_chain hl hl' ⟨δ, F, μ, _, l, rs, q, fun x dx F1 μ1 H1 e1 l1 r1 ⟨c, hc, q1⟩ => by
    subst hc
    exact ⟨c, rep_bl r1, k c F1 μ1 H1 e1 l1 q1⟩⟩
/-! ### comprehensions -/
variable {elt tg iter : Expr} {ifs : List Expr} {scope : Scope} {own : List (Str × Nat)} {wi : TDI} {g : Tg} {tt : TDT}
theorem de_lc (hc : X.calm = true) (hN : X.N.Nodup) (hi : DI X tg iter wi) (ok : BlkOk X.N X.env.scope scope own) (hv : ∀ i ∈ g.slots, i ∈ own.map (·.2))
    (hg : ∀ (s : Shared) (H : Hp) (C : Addr) (cl : List (Str × Addr)) (fp : List Addr), PG (X.blk s H scope (compEnvC scope cl C X.env) fp) tg (hTg X.K g)) (ht : ∀ (s : Shared) (H : Hp) (C : Addr) (cl : List (Str × Addr)) (fp : List Addr), DTs (X.blk s H scope (compEnvC scope cl C X.env) fp) ifs tt)
    (he : ∀ (s : Shared) (H : Hp) (C : Addr) (cl : List (Str × Addr)) (fp : List Addr), DE (X.blk s H scope (compEnvC scope cl C X.env) fp) elt te) (hs : ∀ x, foldedSetIterable iter X.env x = pure x := by intro _; rfl) :
    DE X (.ListComp elt [⟨tg, iter, ifs, 0⟩] scope pos) (dLc wi g tt te (own.map (·.2))) :=
  PE.weak (pe_lc hc hN hi ok hg ht he hs) fun _ _ _ h => lc_sound hv h
theorem ds_setLc {i : Nat} {y : Str} {py spos : Pos} (hc : X.calm = true) (hN : X.N.Nodup) (hy : X.N[i]? = some y) (hyl : X.env.scope.names.lookup y = some .local)
    (hsw : swapsWith (.ListComp elt [⟨tg, iter, ifs, 0⟩] scope pos) (some (.Name y py)) spos.line X.env = pure true) (hi : DI X tg iter wi) (ok : BlkOk X.N X.env.scope scope own) (hv : ∀ i ∈ g.slots, i ∈ own.map (·.2))
    (hg : ∀ (s : Shared) (H : Hp) (C : Addr) (cl : List (Str × Addr)) (fp : List Addr), PG (X.blk s H scope (compEnvC scope cl C X.env) fp) tg (hTg X.K g)) (ht : ∀ (s : Shared) (H : Hp) (C : Addr) (cl : List (Str × Addr)) (fp : List Addr), DTs (X.blk s H scope (compEnvC scope cl C X.env) fp) ifs tt)
    (he : ∀ (s : Shared) (H : Hp) (C : Addr) (cl : List (Str × Addr)) (fp : List Addr), DE (X.blk s H scope (compEnvC scope cl C X.env) fp) elt te) (hs : ∀ x, foldedSetIterable iter X.env x = pure x := by intro _; rfl) :
    DS X (.Assign [.Name y py] (.ListComp elt [⟨tg, iter, ifs, 0⟩] scope pos) spos) (dSet i (dLc wi g tt te (own.map (·.2)))) :=
  PS.weak (ps_setLc hc hN hy hyl hsw hi ok hg ht he hs) fun D σ H ⟨δ, F, μ, ED, l, rs, q, k⟩ => by
    have h := lc_sound (K := X.K) (te := te) (tt := tt) (wi := wi) (Q := fun x H1 => gName i x σ H1 D.nx) hv ⟨δ, F, μ, _, l, rs, q, fun v d F1 μ1 H1 e1 l1 r1 q1 => k.1 _ _ F1 μ1 H1 e1 l1 ((rs.mono e1).set r1 i) q1⟩
    exact h
/-- a comprehension whose parts leave the changing lists as they are: f tells what each thing gives -/
theorem lcD_pure {g : Tg} {tt : TDT} {te : TD} {δ : DSt} {Q : DK} (f : D → Option D) : ∀ (ds : List D) (μ : Mem) (Dn : Addr) (acc : List D), acc.length + ds.length ≤ 1000000 → μ Dn = none →
    (∀ d ∈ ds, ∀ μ' k, k (f d) μ' → lcStep g tt te δ d μ' k) → Q (.lst (acc ++ ds.filterMap f)) μ → lcD g tt te δ Dn ds (mset μ Dn acc) Q
  | [], μ, Dn, acc, _, hn, _, q => ⟨acc, mset_same, by rw [mdel_mset hn]; rw [List.filterMap_nil, List.append_nil] at q; exact q⟩
  | d :: ds, μ, Dn, acc, hz, hn, st, q => by
    refine st d List.mem_cons_self _ _ ⟨acc, mset_same, by rw [List.length_cons] at hz; omega, ?_⟩
    rw [List.filterMap_cons] at q
    cases e : f d with
    | none =>
      rw [e] at q
      exact lcD_pure f ds μ Dn acc (by rw [List.length_cons] at hz; omega) hn (fun d' hd => st d' (List.mem_cons_of_mem _ hd)) q
    | some y =>
      rw [e] at q
      show lcD g tt te δ Dn ds (mset (mset μ Dn acc) Dn (acc ++ [y])) Q
      rw [mset_mset]
      exact lcD_pure f ds μ Dn (acc ++ [y]) (by rw [List.length_append, List.length_cons] at *; simp; omega) hn (fun d' hd => st d' (List.mem_cons_of_mem _ hd)) (by rw [List.append_assoc]; exact q)
theorem lc_pure {g : Tg} {tt : TDT} {te : TD} {δ : DSt} {Q : DK} {ds : List D} {μ : Mem} (f : D → Option D) (hz : ds.length ≤ 1000000) (st : ∀ d ∈ ds, ∀ μ' k, k (f d) μ' → lcStep g tt te δ d μ' k) (q : Q (.lst (ds.filterMap f)) μ) :
    ∀ Dn, μ Dn = none → lcD g tt te δ Dn ds (mset μ Dn []) Q := fun Dn hn => lcD_pure f ds μ Dn [] (by rw [List.length_nil]; omega) hn st (by rw [List.nil_append]; exact q)
end
end DL
namespace DL
open PySem PySem.Spec PyProof.Rows L2
section
variable {X : Cx} {pos : Pos}
def dDic0 : TD := fun _ μ Q => Q (.dic []) μ
theorem de_dic0 : DE X (.Dict [] [] pos) dDic0 := PE.weak pe_dnewK fun σ H Q ⟨δ, F, μ, QD, l, rs, q, k⟩ => fun p hp =>
  k _ _ _ μ _ (Ex.new (l.none_F hp)) (l.new hp _) (.dic upd_same .nil) q
def dDic1 (z : Str) (i : Int) : TD := fun _ μ Q => Q (.dic [(Sum.inr z, .int i)]) μ
theorem de_dic1 {z : Str} {i : Int} {j1 j2 : Nat} {p1 p2 : Pos} : DE X (.Dict [some (.Constant (.str z) j1 p1)] [.Constant (.int i) j2 p2] pos) (dDic1 z i) :=
  PE.weak (pe_disp (pps_cons pe_str pe_int pps_nil) rfl rfl (fun z => by cases z) (by show 1 ≤ 15; decide)) fun σ H Q ⟨δ, F, μ, QD, l, rs, q, k⟩ => fun p hp => by
    refine ⟨upd_same, [(Sum.inr z, .int i)], rfl, by show 1 ≤ 15; decide, ?_⟩
    rw [upd_upd]
    exact k _ _ _ μ _ (Ex.new (l.none_F hp)) (l.new hp _) (.dic upd_same (.cons (.int i) .nil)) q
end
end DL
-- DV
set_option maxRecDepth 100000
namespace DL
open PySem PySem.Spec PyProof.Rows L2
/-! ### the draws: what every law of this kind has -/
/-- a vat: three numbers -/
def vatD (z s c : Int) : List D := [.int z, .int s, .int c]
def VatAt (μ : Mem) (a : Addr) : Prop := ∃ z s c, μ a = some (vatD z s c)
/-- _law_cup(vat, many): some number from 0 to many - 1; the vat holds other numbers -/
def spCup : SpD := fun ds μ Q => ∃ a many, ds = [.ref a, .int many] ∧ VatAt μ a ∧ 0 < many ∧ many < 1073741824 ∧ ∀ n z s c, 0 ≤ n → n < many → Q (.int n) (mset μ a (vatD z s c))
/-- _law_one_of(vat, some): one of the things -/
def spOneOf : SpD := fun ds μ Q => ∃ a xs, ds = [.ref a, .tup xs] ∧ VatAt μ a ∧ 0 < xs.length ∧ xs.length < 1000 ∧ ∀ d z s c, d ∈ xs → Q d (mset μ a (vatD z s c))
/-- _law_vat(script, lap): a vat -/
def spVat : SpD := fun ds μ Q => ∃ ns lap, ds = [.scr ns, .int lap] ∧ 0 ≤ lap ∧ lap < 100 ∧ ns.length ≤ 63 ∧ ∀ a z s c, μ a = none → Q (.ref a) (mset μ a (vatD z s c))
theorem atI_mem {α : Type} {xs : List α} {i : Int} (h0 : 0 ≤ i) (h1 : i < xs.length) : ∃ d, atI xs i = some d ∧ d ∈ xs := by
  obtain ⟨n, rfl⟩ : ∃ n : Nat, i = n := ⟨i.toNat, by omega⟩
  have hn : n < xs.length := by omega
  exact ⟨xs[n], atI_nat (List.getElem?_eq_getElem hn), List.getElem_mem hn⟩
theorem mulc {i j : Int} (h : -(2 ^ 64) < j ∧ j < 2 ^ 64) : MulOk i j := .inl (.inr h)
theorem mulcl {i j : Int} (h : -(2 ^ 64) < i ∧ i < 2 ^ 64) : MulOk i j := .inl (.inl h)
theorem div_small {i j : Int} (h0 : j ≠ 0) (h : j.natAbs < 1073741824) : DivOk i j := ⟨h0, PyProof.noPylong_small h⟩
end DL
-- DI
set_option maxRecDepth 100000
namespace DL
open PySem PySem.Spec PyProof.Rows L2
/-! ### stepping through a reading -/
section
variable {δ : DSt} {μ : Mem} {Q : DK} {QB : Bool → Mem → Prop} {QA : List D → Mem → Prop} {QS : DSt → Mem → Prop} {E : DEnds} {ta tb tc : TD} {tA tB : TDT} {tr tk : TDA} {t u : TDS} {r r' : RD2} {ra : RDA} {d e : D} {ds es : List D} {i j : Int} {n : Nat} {p q : Prop} {b : Bool}
theorem x_var (h : δ[n]? = some (some d)) (k : Q d μ) : dVar n δ μ Q := ⟨d, h, k⟩
theorem x_c (k : Q d μ) : dC d δ μ Q := k
theorem x_op (k : ta δ μ fun x μ1 => tb δ μ1 fun y μ2 => r x y μ2 Q) : dOp r ta tb δ μ Q := k
theorem x_chain (k : ta δ μ fun x μ1 => tb δ μ1 fun y μ2 => r x y μ2 fun z μ3 => ∃ k, z = .bl k ∧ (if k = true then tc δ μ3 fun w μ4 => r' y w μ4 Q else Q (.bl false) μ3)) : dChain r r' ta tb tc δ μ Q := k
theorem x_test (k : ta δ μ fun x μ1 => ∃ k, x = .bl k ∧ QB k μ1) : dTest ta δ μ QB := k
theorem x_bl {R : Bool → Prop} (k : R b) : ∃ k, (D.bl b) = .bl k ∧ R k := ⟨b, rfl, k⟩
theorem x_and (k : tA δ μ fun c μ1 => if c = true then tB δ μ1 QB else QB false μ1) : dAnd tA tB δ μ QB := k
theorem x_or (k : tA δ μ fun c μ1 => if c = true then QB true μ1 else tB δ μ1 QB) : dOr tA tB δ μ QB := k
theorem x_not (k : tA δ μ fun c μ1 => QB (!c) μ1) : dNot tA δ μ QB := k
theorem x_andV (k : ta δ μ fun x μ1 => ∃ c, x = .bl c ∧ if c = true then tb δ μ1 Q else Q (.bl false) μ1) : dAndV ta tb δ μ Q := k
theorem x_orV (k : ta δ μ fun x μ1 => ∃ c, x = .bl c ∧ if c = true then Q (.bl true) μ1 else tb δ μ1 Q) : dOrV ta tb δ μ Q := k
theorem x_notV (k : ta δ μ fun x μ1 => ∃ c, x = .bl c ∧ Q (.bl (!c)) μ1) : dNotV ta δ μ Q := k
theorem x_if (k : tA δ μ fun c μ1 => if c = true then ta δ μ1 Q else tb δ μ1 Q) : dIf tA ta tb δ μ Q := k
theorem x_nil (k : QA [] μ) : dNil δ μ QA := k
theorem x_cons (k : ta δ μ fun x μ1 => tr δ μ1 fun xs μ2 => QA (x :: xs) μ2) : dCons ta tr δ μ QA := k
theorem x_tup (k : tr δ μ fun ds μ1 => ds.length ≤ 1000000 ∧ Q (.tup ds) μ1) : dTup tr δ μ Q := k
theorem x_lst (k : tr δ μ fun ds μ1 => ds.length ≤ 1000000 ∧ Q (.lst ds) μ1) : dLst tr δ μ Q := k
theorem x_cb (k : tr δ μ fun ds μ1 => ra ds μ1 Q) : dCB ra tr δ μ Q := k
theorem x_call {sp : SpD} (k : tr δ μ fun ds μ1 => sp ds μ1 Q) : dCall sp tr δ μ Q := k
theorem x_mk {C : Addr} {f : Str} (k : tr δ μ fun ds μ1 => ∃ d, ds = [d] ∧ Q (.exc C (some (f, d))) μ1) : dMk C f tr δ μ Q := k
theorem x_mk1 {R : D → Prop} (k : R d) : ∃ d', [d] = [d'] ∧ R d' := ⟨d, rfl, k⟩
theorem x_mk0 {C : Addr} (k : Q (.exc C none) μ) : dMk0 C δ μ Q := k
theorem x_neg (k : ta δ μ fun x μ1 => ∃ i : Int, x = .int i ∧ Q (.int (-i)) μ1) : dNeg ta δ μ Q := k
theorem x_neg1 {R : Int → Prop} (k : R i) : ∃ j : Int, (D.int i) = .int j ∧ R j := ⟨i, rfl, k⟩
theorem x_dic0 (k : Q (.dic []) μ) : dDic0 δ μ Q := k
theorem x_dic1 {z : Str} (k : Q (.dic [(Sum.inr z, .int i)]) μ) : dDic1 z i δ μ Q := k
-- operators by values
theorem x_add (k : Q (.int (i + j)) μ) : dAdd (.int i) (.int j) μ Q := k
theorem x_addT (h : ds.length + es.length ≤ 1000000) (k : Q (.tup (ds ++ es)) μ) : dAdd (.tup ds) (.tup es) μ Q := ⟨h, k⟩
theorem x_addL (h : ds.length + es.length ≤ 1000000) (k : Q (.lst (ds ++ es)) μ) : dAdd (.lst ds) (.lst es) μ Q := ⟨h, k⟩
theorem x_sub (k : Q (.int (i - j)) μ) : dSub (.int i) (.int j) μ Q := k
theorem x_mul (h : MulOk i j) (k : Q (.int (i * j)) μ) : dMul (.int i) (.int j) μ Q := ⟨h, k⟩
theorem x_fdiv (h : DivOk i j) (k : Q (.int (i.fdiv j)) μ) : dFdiv (.int i) (.int j) μ Q := ⟨h, k⟩
theorem x_mod (h : 0 < j) (k : Q (.int (i % j)) μ) : dMod (.int i) (.int j) μ Q := ⟨h, k⟩
theorem x_pow (h : 0 ≤ j ∧ j ≤ 1000000 ∧ i.natAbs < 2 ^ 64) (k : Q (.int (i ^ j.toNat)) μ) : dPow (.int i) (.int j) μ Q := ⟨h, k⟩
theorem x_lt (k : Q (.bl (decide (i < j))) μ) : dLt (.int i) (.int j) μ Q := k
theorem x_le (k : Q (.bl (decide (i ≤ j))) μ) : dLe (.int i) (.int j) μ Q := k
theorem x_gt (k : Q (.bl (decide (j < i))) μ) : dGt (.int i) (.int j) μ Q := k
theorem x_ge (k : Q (.bl (decide (j ≤ i))) μ) : dGe (.int i) (.int j) μ Q := k
theorem x_ix (h : asS μ d = some ds) (h2 : atI ds i = some e) (k : Q e μ) : dIx d (.int i) μ Q := ⟨ds, i, e, h, rfl, h2, k⟩
theorem x_ixR {a : Addr} (h : μ a = some ds) (h2 : atI ds i = some e) (k : Q e μ) : dIx (.ref a) (.int i) μ Q := ⟨ds, i, e, h, rfl, h2, k⟩
theorem x_ixT (h2 : atI ds i = some e) (k : Q e μ) : dIx (.tup ds) (.int i) μ Q := ⟨ds, i, e, rfl, rfl, h2, k⟩
theorem x_ixL (h2 : atI ds i = some e) (k : Q e μ) : dIx (.lst ds) (.int i) μ Q := ⟨ds, i, e, rfl, rfl, h2, k⟩
theorem x_lenR {a : Addr} (h : μ a = some ds) (k : Q (.int ds.length) μ) : dLen [.ref a] μ Q := ⟨_, ds, rfl, h, k⟩
theorem x_lenT (k : Q (.int ds.length) μ) : dLen [.tup ds] μ Q := ⟨_, ds, rfl, rfl, k⟩
theorem x_lenL (k : Q (.int ds.length) μ) : dLen [.lst ds] μ Q := ⟨_, ds, rfl, rfl, k⟩
theorem x_lenS {ns : List Int} (k : Q (.int ns.length) μ) : dLen [.scr ns] μ Q := ⟨_, ns.map D.int, rfl, rfl, by rw [List.length_map]; exact k⟩
theorem x_len (h : asS μ d = some ds) (k : Q (.int ds.length) μ) : dLen [d] μ Q := ⟨d, ds, rfl, h, k⟩
theorem x_int (k : Q (.int i) μ) : dInt [.int i] μ Q := ⟨i, rfl, k⟩
theorem x_abs (k : Q (.int i.natAbs) μ) : dAbs [.int i] μ Q := ⟨i, rfl, k⟩
theorem x_divmod (h : CDiv i j) (k : Q (.tup [.int (i / j), .int (i % j)]) μ) : dDivmod [.int i, .int j] μ Q := ⟨i, j, rfl, h, k⟩
theorem x_sum {ns : List Int} (h : asL μ d = some ds) (h2 : intsD ds = some ns) (k : Q (.int ns.sum) μ) : dSum [d] μ Q := ⟨d, ds, ns, rfl, h, h2, k⟩
theorem x_all {bs : List Bool} (h : asL μ d = some ds) (h2 : bools ds = some bs) (k : Q (.bl (bs.all id)) μ) : dAll [d] μ Q := ⟨d, ds, bs, rfl, h, h2, k⟩
theorem x_tupOf (h : asS μ d = some ds) (k : Q (.tup ds) μ) : dTupleOf [d] μ Q := ⟨d, ds, rfl, h, k⟩
theorem x_tupOfL (k : Q (.tup ds) μ) : dTupleOf [.lst ds] μ Q := ⟨_, ds, rfl, rfl, k⟩
theorem x_tupOfT (k : Q (.tup ds) μ) : dTupleOf [.tup ds] μ Q := ⟨_, ds, rfl, rfl, k⟩
theorem x_tupOfR {a : Addr} (h : μ a = some ds) (k : Q (.tup ds) μ) : dTupleOf [.ref a] μ Q := ⟨_, ds, rfl, h, k⟩
theorem x_lstOf (h : asS μ d = some ds) (k : Q (.lst ds) μ) : dListOf [d] μ Q := ⟨d, ds, rfl, h, k⟩
theorem x_repr {p : PyData} (h : ShowOk d p) (k : Q (.str p.shown) μ) : dRepr [d] μ Q := ⟨d, p, rfl, h, k⟩
theorem x_isE {K : PySem.W.Frag} {C : Addr} {fs : Option (Str × D)} {c : D} (h : ExcC K C) (h2 : kitD K C c = some b) (k : Q (.bl b) μ) : dIsE K [.exc C fs, c] μ Q := ⟨C, fs, c, b, rfl, h, h2, k⟩
theorem x_attr {K : PySem.W.Frag} {f : Str} (k : ta δ μ fun x μ1 => ∃ C d, x = .exc C (some (f, d)) ∧ ExcC K C ∧ PySem.W.findIn K (.ref C) f = some none ∧ Q d μ1) : dAttr K f ta δ μ Q := k
theorem x_eq {x y : PyData} (h1 : toPyM μ d = some x) (h2 : toPyM μ e = some y) (h3 : SeqAt.shaped x = true) (h4 : SeqAt.shaped y = true) (k : Q (.bl (PyData.eqv x y)) μ) : dEq d e μ Q := .inl ⟨x, y, h1, h2, h3, h4, k⟩
theorem x_eqS {x y : Str} (k : Q (.bl (decide (x = y))) μ) : dEq (.str x) (.str y) μ Q := .inr ⟨x, y, rfl, rfl, k⟩
theorem x_neS {x y : Str} (k : Q (.bl (!decide (x = y))) μ) : dNe (.str x) (.str y) μ Q := .inr ⟨x, y, rfl, rfl, k⟩
theorem x_ne {x y : PyData} (h1 : toPyM μ d = some x) (h2 : toPyM μ e = some y) (h3 : SeqAt.shaped x = true) (h4 : SeqAt.shaped y = true) (k : Q (.bl (!PyData.eqv x y)) μ) : dNe d e μ Q := .inl ⟨x, y, h1, h2, h3, h4, k⟩
theorem x_sl {tl th : TDO} (k : ta δ μ fun x μ1 => tl δ μ1 fun lo μ2 => th δ μ2 fun hi μ3 => slV x lo hi μ3 Q) : dSl ta tl th δ μ Q := k
theorem x_slT {lo hi : Option Int} (k : Q (.tup (cutD ds lo hi)) μ) : slV (.tup ds) lo hi μ Q := k
theorem x_slL {lo hi : Option Int} (k : Q (.lst (cutD ds lo hi)) μ) : slV (.lst ds) lo hi μ Q := ⟨ds, rfl, k⟩
theorem x_slR {lo hi : Option Int} {a : Addr} (h : μ a = some ds) (k : Q (.lst (cutD ds lo hi)) μ) : slV (.ref a) lo hi μ Q := ⟨ds, h, k⟩
def cutI (ns : List Int) (lo hi : Option Int) : List Int := (ns.drop (HT.sIx ns.length 0 lo)).take (HT.sIx ns.length ns.length hi - HT.sIx ns.length 0 lo)
theorem cutI_le (ns : List Int) (lo hi : Option Int) : (cutI ns lo hi).length ≤ ns.length := by
  unfold cutI
  rw [List.length_take, List.length_drop]
  omega
theorem x_slS {lo hi : Option Int} {ns : List Int} (k : Q (.lst ((cutI ns lo hi).map D.int)) μ) : slV (.scr ns) lo hi μ Q := by
  refine ⟨ns.map D.int, rfl, ?_⟩
  have e : cutD (ns.map D.int) lo hi = (cutI ns lo hi).map D.int := by
    unfold cutD cutI
    rw [List.length_map, List.map_take, List.map_drop]
  rw [e]
  exact k
theorem intsD_map : ∀ ns : List Int, intsD (ns.map D.int) = some ns
  | [] => rfl
  | n :: ns => by
    show (intsD (ns.map D.int)).map (n :: ·) = _
    rw [intsD_map ns]
    rfl
theorem x_sumI {ns : List Int} (k : Q (.int ns.sum) μ) : dSum [.lst (ns.map D.int)] μ Q := ⟨.lst (ns.map D.int), ns.map D.int, ns, rfl, rfl, intsD_map ns, k⟩
theorem x_ixS {ns : List Int} (h0 : 0 ≤ i) (h1 : i < ns.length) (k : ∀ n, n ∈ ns → Q (.int n) μ) : dIx (.scr ns) (.int i) μ Q := by
  obtain ⟨d, hd, hm⟩ := atI_mem (xs := ns.map D.int) h0 (by rw [List.length_map]; exact h1)
  obtain ⟨n, hn, rfl⟩ := List.mem_map.mp hm
  exact ⟨_, i, _, rfl, rfl, hd, k n hn⟩
theorem x_tgN {Q : DSt → Prop} (k : Q (δ.set n (some d))) : dTg (.nm n) d δ Q := k
theorem x_tgT {Q : DSt → Prop} {is : List Nat} (h : ds.length = is.length) (k : Q (setAll is ds δ)) : dTg (.tp is) (.tup ds) δ Q := ⟨ds, rfl, h, k⟩
theorem map_snoc {ms : List Int} {o : Int} : ms.map D.int ++ [D.int o] = (ms ++ [o]).map D.int := by rw [List.map_append]; rfl
theorem x_yes (k : QB true μ) : dYes δ μ QB := k
theorem x_lstM (k : tr δ μ fun ds μ1 => ds.length ≤ 1000000 ∧ ∀ p, μ1 p = none → Q (.ref p) (mset μ1 p ds)) : dLstM tr δ μ Q := k
theorem x_cup {a : Addr} {many : Int} (h : VatAt μ a) (h0 : 0 < many) (h1 : many < 1073741824) (k : ∀ n z s c, 0 ≤ n → n < many → Q (.int n) (mset μ a (vatD z s c))) : spCup [.ref a, .int many] μ Q := ⟨a, many, rfl, h, h0, h1, k⟩
theorem x_one {a : Addr} (h : VatAt μ a) (h0 : 0 < ds.length) (h1 : ds.length < 1000) (k : ∀ d z s c, d ∈ ds → Q d (mset μ a (vatD z s c))) : spOneOf [.ref a, .tup ds] μ Q := ⟨a, ds, rfl, h, h0, h1, k⟩
theorem vat_set {a : Addr} {z s c : Int} : VatAt (mset μ a (vatD z s c)) a := ⟨z, s, c, mset_same⟩
theorem vat_of {a : Addr} {z s c : Int} (h : μ a = some (vatD z s c)) : VatAt μ a := ⟨z, s, c, h⟩
theorem vat_ne {a b : Addr} {xs : List D} (h : VatAt μ a) (hb : a ≠ b) : VatAt (mset μ b xs) a := by
  obtain ⟨z, s, c, h⟩ := h
  exact ⟨z, s, c, by rw [mset_ne hb]; exact h⟩
theorem x_noPart {Q : Option Int → Mem → Prop} (k : Q none μ) : dNoPart δ μ Q := k
theorem x_part {Q : Option Int → Mem → Prop} (k : ta δ μ fun x μ1 => ∃ i, x = .int i ∧ Q (some i) μ1) : dPart ta δ μ Q := k
-- statements
theorem x_seq (k : t { E with nx := u E } δ μ) : dSeq t u E δ μ := k
theorem x_next (k : E.nx δ μ) : dNext E δ μ := k
theorem x_ifS (k : tA δ μ fun b μ1 => if b = true then t E δ μ1 else u E δ μ1) : dIfS tA t u E δ μ := k
theorem x_ret (k : ta δ μ E.rt) : dRet ta E δ μ := k
theorem x_drop (k : ta δ μ fun _ μ1 => E.nx δ μ1) : dDrop ta E δ μ := k
theorem x_set (k : ta δ μ fun d μ1 => E.nx (δ.set n (some d)) μ1) : dSet n ta E δ μ := k
theorem x_asg {g : DTG} (k : ta δ μ fun d μ1 => g d δ μ1 E.nx) : dAsg ta g E δ μ := k
theorem x_gTup {g : DTGs} (h : ds.length = n) (k : g ds δ μ QS) : dgTup n g (.tup ds) δ μ QS := ⟨ds, rfl, h, k⟩
theorem x_gCons {g : DTG} {gs : DTGs} (k : g d δ μ fun δ' μ' => gs ds δ' μ' QS) : dgCons g gs (d :: ds) δ μ QS := ⟨d, ds, rfl, k⟩
theorem x_gNil (k : QS δ μ) : dgNil [] δ μ QS := ⟨rfl, k⟩
theorem x_gName (k : QS (δ.set n (some d)) μ) : dgName n d δ μ QS := k
theorem x_gSub (k : ta δ μ fun o μ1 => tb δ μ1 fun i μ2 => ∃ a xs k j, o = .ref a ∧ i = .int k ∧ μ2 a = some xs ∧ ixN xs.length k = some j ∧ QS δ (mset μ2 a (xs.set j d))) : dgSub ta tb d δ μ QS := k
theorem x_gSub1 {a : Addr} {m : Nat} {R : Addr → List D → Int → Nat → Prop} (h : μ a = some ds) (h2 : ixN ds.length i = some m) (k : R a ds i m) : ∃ a' xs k j, (D.ref a) = .ref a' ∧ (D.int i) = .int k ∧ μ a' = some xs ∧ ixN xs.length k = some j ∧ R a' xs k j := ⟨a, ds, i, m, rfl, rfl, h, h2, k⟩
theorem x_for {wi : TDI} {g : Tg} (k : wi δ μ fun ds μ1 => forD g t E ds δ μ1) : dFor wi g t E δ μ := k
theorem x_iLst {Q : List D → Mem → Prop} (k : ta δ μ fun d μ1 => ∃ xs, d = .lst xs ∧ Q xs μ1) : iLst ta δ μ Q := k
theorem x_iLst1 {R : List D → Prop} (k : R ds) : ∃ xs, (D.lst ds) = .lst xs ∧ R xs := ⟨ds, rfl, k⟩
theorem x_iTup {Q : List D → Mem → Prop} (k : ta δ μ fun d μ1 => ∃ xs, d = .tup xs ∧ Q xs μ1) : iTupD ta δ μ Q := k
theorem x_iTup1 {R : List D → Prop} (k : R ds) : ∃ xs, (D.tup ds) = .tup xs ∧ R xs := ⟨ds, rfl, k⟩
theorem x_iRng {Q : List D → Mem → Prop} (k : tr δ μ fun ds μ1 => ∃ n : Int, ds = [.int n] ∧ n ≤ 1000000 ∧ -1000000 ≤ n ∧ Q ((List.range n.toNat).map fun i : Nat => .int (i : Int)) μ1) : iRng tr δ μ Q := k
theorem x_iRng1 {R : Int → Prop} (h : i ≤ 1000000) (h2 : -1000000 ≤ i) (k : R i) : ∃ n : Int, [D.int i] = [.int n] ∧ n ≤ 1000000 ∧ -1000000 ≤ n ∧ R n := ⟨i, rfl, h, h2, k⟩
theorem x_fNil {g : Tg} (k : E.nx δ μ) : forD g t E [] δ μ := k
theorem x_fCons {g : Tg} (k : dTg g d δ fun δ' => t { nx := forD g t E ds, rt := E.rt, bk := E.nx, ct := forD g t E ds } δ' μ) : forD g t E (d :: ds) δ μ := k
theorem x_lc {wi : TDI} {g : Tg} {vs : List Nat} (k : wi δ μ fun ds μ1 => ∀ Dn, μ1 Dn = none → lcD g tA ta (wipeD δ vs) Dn ds (mset μ1 Dn []) Q) : dLc wi g tA ta vs δ μ Q := k
theorem x_par {n m : Nat} (k : tr δ μ fun ds μ1 => ∃ d e, ds = [d, e] ∧ E.nx ((δ.set n (some d)).set m (some e)) μ1) : dPar n m tr E δ μ := k
theorem x_par1 {R : D → D → Prop} (k : R d e) : ∃ d' e', [d, e] = [d', e'] ∧ R d' e' := ⟨d, e, rfl, k⟩
theorem x_app (k : ta δ μ fun x μ1 => ∃ a, x = .ref a ∧ (∃ ys, μ1 a = some ys) ∧ tr δ μ1 fun ds μ2 => ∃ xs d, ds = [d] ∧ μ2 a = some xs ∧ xs.length < 1000000 ∧ E.nx δ (mset μ2 a (xs ++ [d]))) : dApp ta tr E δ μ := k
-- tests
theorem ite_y {A B : Prop} (h : p) [Decidable p] (k : A) : if decide p = true then A else B := by rw [if_pos (decide_eq_true h)]; exact k
theorem ite_n {A B : Prop} (h : ¬ p) [Decidable p] (k : B) : if decide p = true then A else B := by rw [if_neg (by rw [decide_eq_false h]; exact Bool.false_ne_true)]; exact k
theorem ite_d {A B : Prop} [Decidable p] (k : p → A) (k2 : ¬ p → B) : if decide p = true then A else B := by
  by_cases h : p
  · exact ite_y h (k h)
  · exact ite_n h (k2 h)
theorem ite_nn {A B : Prop} (h : ¬ p) [Decidable p] (k : A) : if (!decide p) = true then A else B := by rw [decide_eq_false h]; rw [if_pos (show (!false) = true from rfl)]; exact k
theorem ite_ny {A B : Prop} (h : p) [Decidable p] (k : B) : if (!decide p) = true then A else B := by rw [decide_eq_true h]; rw [if_neg (by decide)]; exact k
theorem iteNT {A B : Prop} (k : B) : if (!true) = true then A else B := by rw [if_neg (by decide)]; exact k
theorem iteNF {A B : Prop} (k : A) : if (!false) = true then A else B := by rw [if_pos (by decide)]; exact k
theorem ite_b {A B : Prop} (k : b = true → A) (k2 : b = false → B) : if b = true then A else B := by
  cases b with
  | true => rw [if_pos rfl]; exact k rfl
  | false => rw [if_neg (by decide)]; exact k2 rfl
end
end DL
-- DH
set_option maxRecDepth 100000
/-! the end of a law: its def keeps its promise where no repr is under way -/
namespace DL
open PySem PySem.Spec PyProof.Rows L2
section
variable {P : Program} {w : World} {K : PySem.W.Frag} {mg mb : Str → Option Value} {k : Nat} {at_ scr : Addr} {x nm : Str} {st : Stmt} {spd : SpD} {s1 : Shared} {us : List Value} {ns : List Int}
/-- what the heap tracks ahead of the call: the script, or nothing -/
def seed (scr : Addr) (us : List Value) (ns : List Int) (yes : Bool) : Hp := fun b => if yes = true ∧ b = scr then some (.frz { cls := .type "list", data := .seq us.toArray } (.lst (ns.map V.int))) else none
theorem seed_at {scr b : Addr} {us : List Value} {ns : List Int} {yes : Bool} {o : HO} (h : seed scr us ns yes b = some o) : yes = true ∧ b = scr ∧ o = .frz { cls := .type "list", data := .seq us.toArray } (.lst (ns.map V.int)) := by
  unfold seed at h
  split at h
  · rename_i c
    exact ⟨c.1, c.2, (Option.some.inj h).symm⟩
  · cases h
theorem lawG_core (kin : K.In s1.heap) (glob : s1.heap.Ns mainGlobals mg) (blt : s1.heap.Ns builtinsNs mb) (bltIs : ∀ y : Str, y ≠ "__name__" → mb y = bootBuiltins y) (nolim : s1.heap.NoLimit) (nogen : s1.gens = #[])
    (here : s1.heap.get? scr = some { cls := .type "list", data := .seq us.toArray }) (rel : IntsAre us ns) (short : ns.length ≤ sizeLine) (room : Room k callerA)
    (hmg : mg nm = some (.ref at_)) (G : ∀ base : Heap, K.In base → base.Ns mainGlobals mg → DefOk P w K mg base k nm st [x] spd) (yes : Bool) (inK : yes = true → K.lookup scr = none)
    (seq : SqL K (seed scr us ns yes) scr (ns.map V.int)) (asked : spOf K spd [.ref scr] (seed scr us ns yes) (fun v _ => v = .bl true) fun _ _ _ => False) (noExc : ∀ e s', CX0 [] (seed scr us ns yes) s1 (fun _ _ _ => False) e s' → False) :
    codeAny (model P w) callerA (.call (.ref at_) ⟨[.ref scr], []⟩) (fun r s' => r = .ok (.ret (.bool true)) ∧ OldK s1.heap s'.heap ∧ s'.os = s1.os ∧ AllBare s'.gens) s1 := by
  generalize hH : seed scr us ns yes = H at seq asked noExc
  have only : ∀ b o, H b = some o → yes = true ∧ b = scr ∧ o = .frz { cls := .type "list", data := .seq us.toArray } (.lst (ns.map V.int)) := fun b o e => by
    rw [← hH] at e
    exact seed_at e
  have laid : HOk P w H s1.heap := fun b o e => by
    obtain ⟨_, eb, eo⟩ := only b o e
    subst eb eo
    exact ⟨here, by rw [List.length_map]; exact short, us, _, vals_ints rel, here⟩
  have notDict : ∀ {b : Addr} {o : Obj} {es : Array DictEntry} {ep : Nat}, s1.heap.get? b = some o → o.data = .dict es ep → H b = none := by
    intro b o es ep e d
    cases c : H b with
    | none => rfl
    | some u =>
      obtain ⟨_, eb, _⟩ := only b u c
      subst eb
      rw [here] at e
      cases e
      exact Data.noConfusion d
  have kept : ∀ {b : Addr} {m : Str → Option Value}, s1.heap.Ns b m → (hidT s1.heap H).Ns b m := by
    rintro b m ⟨o, es, ep, e, d, more⟩
    exact ⟨o, es, ep, hidT_get e (notDict e d), d, more⟩
  have kinB : K.In (hidT s1.heap H) := by
    intro b o e
    refine hidT_get (kin b o e) ?_
    cases c : H b with
    | none => rfl
    | some u =>
      obtain ⟨y, eb, _⟩ := only b u c
      subst eb
      rw [inK y] at e
      cases e
  have modB : Mod K mg (hidT s1.heap H) := by
    refine ⟨kinB, kept glob, ⟨mb, kept blt, bltIs⟩, ?_⟩
    obtain ⟨m, n1, n2⟩ := nolim
    exact ⟨m, kept n1, n2⟩
  have env : Env0 P w K mg (hidT s1.heap H) callerA [] s1 H := by
    refine ⟨rfl, modB, fun b o e => of_hidT e, Nat.le_of_eq (hidT_size _ _), trivial, fun b hb => ?_, laid, .of_eq nogen⟩
    cases hb
  obtain ⟨f, fd, hf, _, hb, _, Gd⟩ := (G _ kinB (kept glob)).ex
  cases hf.symm.trans hmg
  refine codeAny_mono (Gd.does callerA [] s1 H ⟨[.ref scr], []⟩ [.ref scr] [.ref scr] _ _ rfl room env (hb s1 [.ref scr] kin rfl) (.cons rfl .nil) asked) fun r s2 end2 => ?_
  match r, end2 with
  | .error e, end2 => exact (noExc e s2 end2).elim
  | .ok .next, end2 => exact end2.elim
  | .ok .brk, end2 => exact end2.elim
  | .ok .cont, end2 => exact end2.elim
  | .ok (.ret u), ⟨v, H2, os, bare, un, hok2, rv, q⟩ =>
    have q : v = .bl true := q
    subst q
    cases (show u = Value.bool true from rv)
    refine ⟨rfl, .of_keep fun b o e => ?_, os, bare⟩
    cases c : H b with
    | none => exact un.keep b o e c (fun z => nomatch z) (fun z => nomatch z)
    | some u =>
      obtain ⟨_, eb, eu⟩ := only b u c
      subst eb eu
      obtain ⟨g1, _⟩ := hok2 b _ (un.frzs b _ _ c)
      rw [here] at e
      cases e
      exact g1
end
/-- the goal that k_head leaves, from the law's promise over D -/
theorem walkG {l : PySem.W.OpenLaw} {n k : Nat} {q : Program} {loose : List Str} {XP : (Str → Option Value) → Heap → Prop} {YP : World → Heap → Prop} {d : DefRec} {K : Params → PySem.W.Frag} {x nm : Str} {st : Stmt} {spd : SpD}
    (hn : l.most = some n) (hn2 : n ≤ sizeLine) (hdf : d.params.defaults = []) (room : Room k callerA) (hY : ∀ (w : World) (h : Heap), YP w h → (K w.params).In h)
    (G : ∀ (w : World) (mg : Str → Option Value) (fa : Addr) (h : Heap), (K w.params).In h → h.Ns mainGlobals mg → mg d.name = some (.ref fa) →
      mg nm = some (.ref fa) ∧ ∀ base : Heap, (K w.params).In base → base.Ns mainGlobals mg → DefOk l.prog w (K w.params) mg base k nm st [x] spd)
    (asked : ∀ (ns : List Int) μ, ns.length ≤ n → spd [.scr ns] μ fun d _ => d = .bl true) : PySem.W.WalkO q loose XP YP l.row.toRowW d [] (fun f vs => PySem.call f vs) := by
  refine Att.attach_call hn hdf fun w s₀ s₁ mg mb fa o pm cd doc scr us ns T Y ho hd hcd hmg here rel short nogen => ?_
  have kin := hY w _ Y
  obtain ⟨hnm, G⟩ := G w mg fa _ kin T.T.g hmg
  have lenU := rel.length
  have want : ∀ yes : Bool, SqL (K w.params) (seed scr us ns yes) scr (ns.map V.int) → spOf (K w.params) spd [.ref scr] (seed scr us ns yes) (fun v _ => v = .bl true) fun _ _ _ => False := fun yes sq =>
    ⟨[.scr ns], seed scr us ns yes, fun _ => none, _, ⟨Ex.refl _, fun _ _ z => nomatch z⟩, .cons (.scr sq) .nil, asked ns _ short, fun v d F' μ' H' _ _ r e => by subst e; exact rep_bl r⟩
  cases c : (K w.params).lookup scr with
  | none =>
    have sq : SqL (K w.params) (seed scr us ns true) scr (ns.map V.int) := .inl (.inr ⟨_, if_pos ⟨rfl, rfl⟩⟩)
    exact lawG_core kin T.T.g T.T.b T.T.builtins T.T.nolimit nogen here rel (Nat.le_trans short hn2) room hnm G true (fun _ => c) sq (want _ sq) fun _ _ z => z
  | some ob =>
    have e := kin _ _ c
    rw [here] at e
    cases e
    have sq : SqL (K w.params) (seed scr us ns false) scr (ns.map V.int) := .inr ⟨_, us.toArray, _, c, rfl, rfl, rfl, by rw [List.size_toArray, lenU]; exact Nat.le_trans short hn2, by simpa using vals_ints rel⟩
    exact lawG_core kin T.T.g T.T.b T.T.builtins T.T.nolimit nogen here rel (Nat.le_trans short hn2) room hnm G false (fun z => nomatch z) sq (want _ sq) fun _ _ z => z
end DL
-- DF
set_option maxRecDepth 100000
/-! what the top has written, read as plain Bool functions of the written part; addresses by names -/
namespace DL
open PySem PySem.Spec PyProof.Rows L2
def eqB (a b : Option Bool) : Bool := decide (a = b)
def eqV (a b : Option Value) : Bool := decide (a = b)
theorem eqB_ok {a b : Option Bool} (h : eqB a b = true) : a = b := of_decide_eq_true h
theorem eqV_ok {a b : Option Value} (h : eqV a b = true) : a = b := of_decide_eq_true h
/-- the class object of an own exception over ValueError -/
def xIn (K : PySem.W.Frag) (C : Addr) : Bool := match K.lookup C with
  | some ⟨.type "type", _, .cls cd, sl⟩ => (match cd.mro, sl.toList with
    | .ref C' :: bm, [_, _, _, _, some (.builtin n), _] => C' == C && n == "ValueError.__new__" && !cd.hasDel && cd.hasDict && PySem.HandSPX.refsVE bm
    | _, _ => false)
  | _ => false
theorem xIn_ok {K : PySem.W.Frag} {C : Addr} (q : xIn K C = true) : ∃ nm q N bs bm sn sub ab col dd k0 k1 k2 k3 k5, K.lookup C = some (excClassObj nm q C N bs bm true sn sub ab col dd k0 k1 k2 k3 k5 "ValueError.__new__") ∧ PySem.HandSPX.refsVE bm = true := by
  unfold xIn at q
  split at q
  · rename_i dd cd sl ho
    split at q
    · rename_i C' bm k0 k1 k2 k3 n k5 hm hs
      simp only [Bool.and_eq_true, beq_iff_eq, Bool.not_eq_true'] at q
      obtain ⟨⟨⟨⟨rfl, rfl⟩, hdel⟩, hdt⟩, ht⟩ := q
      obtain ⟨nm, bs, mro, ns, qn, hd, sn, sub, ab, col, del⟩ := cd
      dsimp only at hm hdel hdt
      subst hm hdel hdt
      have hsl : sl = #[k0, k1, k2, k3, some (.builtin "ValueError.__new__"), k5] := by
        obtain ⟨l⟩ := sl
        simp only at hs
        rw [hs]
      subst hsl
      exact ⟨nm, qn, ns, bs, bm, sn, sub, ab, col, dd, k0, k1, k2, k3, k5, ho, ht⟩
    · cases q
  · cases q
def excB (K : PySem.W.Frag) (C : Addr) : Bool := He.eqO (PySem.W.findIn K (.ref C) "__getattribute__") (some (some (.builtin "BaseException.__getattribute__"))) && (He.eqO (PySem.W.findIn K (.ref C) "__getattr__") (some none) && (eqB (PySem.W.subIn K (.ref C) (.type "BaseException")) (some true) && (PySem.W.hasDictIn K C && (He.eqO (PySem.W.findIn K (.ref C) "__class__") (some (some (.builtin "object.__class__"))) &&
  (He.eqO (PySem.W.specialIn K (.builtin "object.__class__") "__get__") (some (some (.builtin "getset_descriptor.__get__"))) && (eqB (PySem.W.takesIn K (.builtin "object.__class__")) (some true) && eqB (PySem.W.mroIn K C (.type "object")) (some true)))))))
theorem excB_ok {K : PySem.W.Frag} {C : Addr} (c : excB K C = true) : ExcC K C := by
  obtain ⟨c1, c⟩ := He.ba c
  obtain ⟨c2, c⟩ := He.ba c
  obtain ⟨c3, c⟩ := He.ba c
  obtain ⟨c4, c⟩ := He.ba c
  obtain ⟨c5, c⟩ := He.ba c
  obtain ⟨c6, c⟩ := He.ba c
  obtain ⟨c7, c8⟩ := He.ba c
  exact ⟨He.eqO_ok c1, He.eqO_ok c2, eqB_ok c3, c4, He.eqO_ok c5, He.eqO_ok c6, eqB_ok c7, eqB_ok c8⟩
def oexB (K : PySem.W.Frag) (C : Addr) : Bool := xIn K C && (He.eqO (PySem.W.findIn K (.ref C) "__setattr__") (some (some (.builtin "object.__setattr__"))) && (eqB (PySem.W.subIn K (.ref C) (.type "BaseException")) (some true) && (eqV (PySem.W.typeIn K (.ref C)) (some (.type "type")) && PySem.W.keepIn K (.ref C))))
theorem oexB_ok {K : PySem.W.Frag} {C : Addr} (c : oexB K C = true) : OexC K C := by
  obtain ⟨c1, c⟩ := He.ba c
  obtain ⟨c2, c⟩ := He.ba c
  obtain ⟨c3, c⟩ := He.ba c
  obtain ⟨c4, c5⟩ := He.ba c
  exact ⟨xIn_ok c1, He.eqO_ok c2, eqB_ok c3, eqV_ok c4, c5⟩
def gloB (K : PySem.W.Frag) (x : Str) : Bool := He.eqO (PySem.W.nsIn K mainGlobals x) (some (some (.ref (He.ga K x))))
def freeB (K : PySem.W.Frag) (x : Str) : Bool := He.eqO (PySem.W.nsIn K mainGlobals x) (some none)
section
variable {K : PySem.W.Frag} {h : Heap} {mg : Str → Option Value}
theorem glo_ok (X : K.In h) (G : h.Ns mainGlobals mg) {x : Str} (c : gloB K x = true) : mg x = some (.ref (He.ga K x)) := PySem.W.mg_of X G (He.eqO_ok c)
theorem free_ok (X : K.In h) (G : h.Ns mainGlobals mg) {x : Str} (c : freeB K x = true) : mg x = none := PySem.W.mg_none_of X G (He.eqO_ok c)
end
/-- a class with one field -/
def eclB (K : PySem.W.Frag) (x f : Str) : Bool := gloB K x && (oexB K (He.ga K x) && (He.eqO (PySem.W.findIn K (.ref (He.ga K x)) "__init__") (some (some (.ref (He.ma K (He.ga K x) "__init__")))) && (eqV (PySem.W.typeIn K (.ref (He.ma K (He.ga K x) "__init__"))) (some (.type "function")) &&
  (He.eqO (PySem.W.findIn K (.ref (He.ga K x)) f) (some none) && excB K (He.ga K x)))))
theorem eclB_ok {K : PySem.W.Frag} {h : Heap} {mg : Str → Option Value} (X : K.In h) (G : h.Ns mainGlobals mg) {x f : Str} (c : eclB K x f = true) : Ecl K mg x (He.ga K x) (He.ma K (He.ga K x) "__init__") f := by
  obtain ⟨c1, c⟩ := He.ba c
  obtain ⟨c2, c⟩ := He.ba c
  obtain ⟨c3, c⟩ := He.ba c
  obtain ⟨c4, c⟩ := He.ba c
  obtain ⟨c5, c6⟩ := He.ba c
  exact ⟨glo_ok X G c1, oexB_ok c2, He.eqO_ok c3, eqV_ok c4, He.eqO_ok c5, excB_ok c6⟩
/-- a bare class -/
def bclB (K : PySem.W.Frag) (x : Str) : Bool := gloB K x && (PySem.W.excIn K (He.ga K x) He.veBase "ValueError.__new__" && (PySem.W.keepIn K (.ref (He.ga K x)) && excB K (He.ga K x)))
theorem bclB_ok {K : PySem.W.Frag} {h : Heap} {mg : Str → Option Value} (X : K.In h) (G : h.Ns mainGlobals mg) {x : Str} (c : bclB K x = true) : Bcl K mg x (He.ga K x) := by
  obtain ⟨c1, c⟩ := He.ba c
  obtain ⟨c2, c⟩ := He.ba c
  obtain ⟨c3, c4⟩ := He.ba c
  exact ⟨glo_ok X G c1, c2, c3, excB_ok c4⟩
/-- a def: a global's, a class's method -/
def fnB (K : PySem.W.Frag) (p : Str × Option Str) (q : Str) : Bool := (He.Fa.code p q).ok K && PySem.W.keepIn K (.ref (He.fAd K p))
abbrev fnV (x q : Str) (st : Stmt) : He.FnV := some (x, q, defArgs st, .stmts (defBody st), defScope st, mainGlobals, [], .none, builtinsNs)
theorem fn_of {K : PySem.W.Frag} {p : Str × Option Str} {x q : Str} {st : Stmt} (e : He.fnObs K p = fnV x q st) (c : fnB K p q = true) :
    ∃ kV doc pm an cdv ct, Fun K x q st (He.fAd K p) (PySem.W.fnOf x q (defArgs st) (defBody st) (defScope st) .none kV doc pm an cdv ct) := by
  obtain ⟨c1, c2⟩ := He.ba c
  obtain ⟨oc, od, osl, kV, doc, pm, an, cdv, ct, l, cc⟩ := He.fn_ok (d := ⟨p, x, q, defArgs st, defBody st, defScope st⟩) e c1
  exact ⟨kV, doc, pm, an, cdv, ct, fun_mk l cc c2⟩
end DL
-- KA
set_option maxRecDepth 100000
namespace K01
open PySem PySem.Spec PyProof.Rows L2 DL
local macro_rules | `(tactic| walk_at "look") => `(tactic| first | rfl | assumption | exact mset_same | (rw [mset_ne (by assumption)]; first | rfl | assumption | exact mset_same) | (show mset _ _ _ _ = _; first | exact mset_same | (rw [mset_ne (by assumption)]; assumption)))
local macro_rules | `(tactic| walk_at "small") => `(tactic| first | exact mulc (by decide) | exact mulcl (by decide) | exact mulc ⟨by omega, by omega⟩ | exact mulcl ⟨by omega, by omega⟩)
local macro_rules | `(tactic| walk_at "x1") => `(tactic| first
  | (with_reducible first
    | refine x_seq ?_ | refine x_ifS ?_ | refine x_test ?_ | refine x_op ?_ | refine x_c ?_ | refine x_bl ?_
    | refine x_cb ?_ | refine x_call ?_ | refine x_cons ?_ | refine x_nil ?_ | refine x_int ?_ | refine x_abs ?_ | refine x_add ?_ | refine x_sub ?_
    | refine x_lt ?_ | refine x_le ?_ | refine x_gt ?_ | refine x_ge ?_ | refine x_lenT ?_ | refine x_lenL ?_ | refine x_lenS ?_ | refine x_tupOfL ?_ | refine x_tupOfT ?_
    | refine x_tup ?_ | refine x_lst ?_ | refine x_asg ?_ | refine x_set ?_ | refine x_ret ?_ | refine x_next ?_ | refine x_drop ?_
    | refine x_gCons ?_ | refine x_gNil ?_ | refine x_gName ?_ | refine x_gSub ?_
    | refine x_and ?_ | refine x_or ?_ | refine x_not ?_ | refine x_andV ?_ | refine x_orV ?_ | refine x_notV ?_ | refine x_if ?_ | refine x_chain ?_
    | refine x_sl ?_ | refine x_slT ?_ | refine x_slL ?_ | refine x_slS ?_ | refine x_sumI ?_ | refine x_lstM ?_ | refine x_yes ?_ | refine x_tgN ?_
    | refine x_mk ?_ | refine x_mk1 ?_ | refine x_mk0 ?_ | refine x_neg ?_ | refine x_neg1 ?_ | refine x_dic0 ?_ | refine x_dic1 ?_
    | refine x_for ?_ | refine x_iLst ?_ | refine x_iLst1 ?_ | refine x_iTup ?_ | refine x_iTup1 ?_ | refine x_iRng ?_ | refine x_lc ?_ | refine x_par ?_ | refine x_par1 ?_ | refine x_app ?_
    | refine x_attr ?_ | refine x_part ?_ | refine x_neg1 ?_ | refine x_noPart ?_ | refine iteT ?_ | refine iteF ?_ | refine iteNT ?_ | refine iteNF ?_)
  | ((with_reducible refine x_var (d := ?dd) ?hA ?_); (case hA => rfl))
  | ((with_reducible refine x_ixR (ds := ?dd) (e := ?ee) ?hA ?hB ?_); (case hA => walk_at "look"); (case hB => rfl))
  | ((with_reducible refine x_ixT (e := ?ee) ?hB ?_); (case hB => rfl))
  | ((with_reducible refine x_ixL (e := ?ee) ?hB ?_); (case hB => rfl))
  | ((with_reducible refine x_lenR (ds := ?dd) ?hA ?_); (case hA => walk_at "look"))
  | ((with_reducible refine x_slR (ds := ?dd) ?hA ?_); (case hA => walk_at "look"))
  | ((with_reducible refine x_mul ?hA ?_); (case hA => walk_at "small"))
  | ((with_reducible refine x_mod ?hA ?_); (case hA => first | decide | omega))
  | ((with_reducible refine x_fdiv ?hA ?_); (case hA => exact div_small (by decide) (by decide)))
  | ((with_reducible refine x_pow ?hA ?_); (case hA => exact ⟨by decide, by decide, by decide⟩))
  | ((with_reducible refine x_divmod ?hA ?_); (case hA => exact ⟨by omega, by omega⟩))
  | ((with_reducible refine x_gSub1 (ds := ?dd) (m := ?mm) ?hA ?hB ?_); (case hA => walk_at "look"); (case hB => rfl))
  | ((with_reducible refine x_gTup ?hA ?_); (case hA => rfl))
  | ((with_reducible refine x_iRng1 ?hA ?hB ?_); (case hA => first | decide | omega); (case hB => first | decide | omega))
  | ((with_reducible refine x_addT ?hA ?_); (case hA => first | decide | (simp only [List.length_cons, List.length_nil, List.length_append]; omega)))
  | ((with_reducible refine x_addL ?hA ?_); (case hA => first | decide | (simp only [List.length_cons, List.length_nil, List.length_append]; omega)))
  | (refine And.intro ?hA ?_; (case hA => first | decide | (simp only [List.length_cons, List.length_nil, List.length_append]; omega))))
local macro_rules | `(tactic| walk_at "x") => `(tactic| repeat (walk_at "x1"))
local macro_rules | `(tactic| walk_at "tidy") => `(tactic| simp only [mset_mset])

def top (i : Nat) : Stmt := PySem.Challenge.pw_sweepends_k01_errors_each_of_its_own.main.body.getD i (.Pass ⟨0, 0, 0, 0⟩)
abbrev s_law_cup : Stmt := top 25
theorem sc_law_cup : FnScope ["vat", "many", "found", "lap"] ["vat", "many"] (defScope s_law_cup) := ⟨rfl, rfl, rfl, by decide +kernel, rfl, by decide +kernel, by decide +kernel⟩
section
variable {P : Program} {w : World} {K : PySem.W.Frag} {mg : Str → Option Value} {base : Heap}
theorem ok_law_cup  {f : Addr} {fd : FuncData} (F : Fun K "_law_cup" "_law_cup" s_law_cup f fd) (hm : mg "_law_cup" = some (.ref f)) (hb : Binds K fd ["vat", "many"] []) (m_divmod : mg "divmod" = none) (m_int : mg "int" = none)  :
    DefOk P w K mg base 1 "_law_cup" s_law_cup ["vat", "many"] spCup := by
  refine def_ok F hm hb sc_law_cup (fun ds μ Q h => by first | (obtain ⟨a1, a2, rfl, h⟩ := h; rfl) | (obtain ⟨a1, rfl, h⟩ := h; rfl) | (obtain ⟨a1, a2, a3, rfl, h⟩ := h; rfl) | (obtain ⟨a1, a2, a3, a4, rfl, h⟩ := h; rfl)) _ (fun qual f cdv A fs s H E hgd room => (dss_cons (ds_if (dt_cmp op_gt lift_gt (de_ix (de_var 0 (pv 0)) de_int) de_int) (dss_cons (ds_asg (de_callB call_divmod lift_divmod rfl m_divmod (by decide +kernel) (da_cons (de_ix (de_var 0 (pv 0)) de_int) (da_cons (de_var 1 (pv 1)) da_nil))) (dg_tup (n := 2) rfl (dgs_cons (dg_sub (pg_sub (de_var 0 (pv 0)) de_int set_list)) (dgs_cons (dg_name (pg_name (i := 2) sc_law_cup.nd rfl (Or.inl rfl))) dgs_nil))))
      (dss_one (ds_ret (de_var 2 (pv 2))))) dss_nil)
      (dss_cons (ds_asg (de_op (OpR.or op_add (OpR.or op_catA op_cat)) lift_add (de_ix (de_var 0 (pv 0)) de_int) de_int) (dg_sub (pg_sub (de_var 0 (pv 0)) de_int set_list)))
      (dss_cons (ds_set (i := 3) sc_law_cup.nd rfl (Or.inl rfl) (de_op op_mod lift_mod (de_callTy call_int1 lift_int rfl m_int (by decide +kernel) (da_cons (de_op (OpR.or op_add (OpR.or op_catA op_cat)) lift_add (de_op (OpR.or op_add (OpR.or op_catA op_cat)) lift_add (de_op (OpR.or op_mulAny op_repT) lift_mul (de_ix (de_var 0 (pv 0)) de_int) de_int) (de_op (OpR.or op_mulAny op_repT) lift_mul (de_ix (de_var 0 (pv 0)) de_int) de_int)) de_int) da_nil)) de_int))
      (dss_cons (ds_asg (de_op op_mod lift_mod (de_callTy call_int1 lift_int rfl m_int (by decide +kernel) (da_cons (de_op (OpR.or op_add (OpR.or op_catA op_cat)) lift_add (de_op (OpR.or op_mulAny op_repT) lift_mul (de_var 3 (pv 3)) (de_op (OpR.or op_add (OpR.or op_catA op_cat)) lift_add (de_op (OpR.or op_mulAny op_repT) lift_mul de_int (de_op op_fdivAny lift_fdiv (de_var 3 (pv 3)) de_int)) de_int)) (de_ix (de_var 0 (pv 0)) de_int)) da_nil)) de_int) (dg_sub (pg_sub (de_var 0 (pv 0)) de_int set_list)))
      (dss_one (ds_ret (de_op op_mod lift_mod (de_callTy call_int1 lift_int rfl m_int (by decide +kernel) (da_cons (de_op op_fdivAny lift_fdiv (de_ix (de_var 0 (pv 0)) de_int) de_int) da_nil)) (de_var 1 (pv 1)))))))))) fun ds μ Q h => ?_
  obtain ⟨a, many, rfl, ⟨z, s, c, hv⟩, h1, h2, q⟩ := h
  walk_at "x"
  refine ite_d (fun hz => ?_) (fun hz => ?_)
  · walk_at "x"
    exact q _ _ _ _ (Int.emod_nonneg _ (by omega)) (Int.emod_lt_of_pos _ h1)
  · walk_at "x"
    simp only [mset_mset]
    exact q _ _ _ _ (Int.emod_nonneg _ (by omega)) (Int.emod_lt_of_pos _ h1)
end
abbrev s_law_one_of : Stmt := top 26
theorem sc_law_one_of : FnScope ["vat", "some"] ["vat", "some"] (defScope s_law_one_of) := ⟨rfl, rfl, rfl, by decide +kernel, rfl, by decide +kernel, by decide +kernel⟩
section
variable {P : Program} {w : World} {K : PySem.W.Frag} {mg : Str → Option Value} {base : Heap}
theorem ok_law_one_of  {f : Addr} {fd : FuncData} (F : Fun K "_law_one_of" "_law_one_of" s_law_one_of f fd) (hm : mg "_law_one_of" = some (.ref f)) (hb : Binds K fd ["vat", "some"] []) (D_law_cup : DefOk P w K mg base 1 "_law_cup" s_law_cup ["vat", "many"] spCup) (m_len : mg "len" = none)  :
    DefOk P w K mg base 2 "_law_one_of" s_law_one_of ["vat", "some"] spOneOf := by
  refine def_ok F hm hb sc_law_one_of (fun ds μ Q h => by first | (obtain ⟨a1, a2, rfl, h⟩ := h; rfl) | (obtain ⟨a1, rfl, h⟩ := h; rfl) | (obtain ⟨a1, a2, a3, rfl, h⟩ := h; rfl) | (obtain ⟨a1, a2, a3, a4, rfl, h⟩ := h; rfl)) _ (fun qual f cdv A fs s H E hgd room => (dss_one (ds_ret (de_ix (de_var 1 (pv 1)) (de_call hgd D_law_cup (room.mono (by decide)) (da_cons (de_var 0 (pv 0)) (da_cons (de_callB call_len_seq lift_len rfl m_len (by decide +kernel) (da_cons (de_var 1 (pv 1)) da_nil)) da_nil))))))) fun ds μ Q h => ?_
  obtain ⟨a, xs, rfl, ⟨z, s, c, hv⟩, h1, h2, q⟩ := h
  walk_at "x"
  refine x_cup (vat_of hv) (by omega) (by omega) fun n z' s' c' h3 h4 => ?_
  obtain ⟨d, hd, hm⟩ := atI_mem h3 h4
  exact x_ixT hd (q d _ _ _ hm)
end
abbrev s_law_vat : Stmt := top 24
theorem sc_law_vat : FnScope ["script", "lap", "own", "stir", "each"] ["script", "lap"] (defScope s_law_vat) := ⟨rfl, rfl, rfl, by decide +kernel, rfl, by decide +kernel, by decide +kernel⟩
section
variable {P : Program} {w : World} {K : PySem.W.Frag} {mg : Str → Option Value} {base : Heap}
theorem ok_law_vat  {f : Addr} {fd : FuncData} (F : Fun K "_law_vat" "_law_vat" s_law_vat f fd) (hm : mg "_law_vat" = some (.ref f)) (hb : Binds K fd ["script", "lap"] []) (m_abs : mg "abs" = none) (m_int : mg "int" = none) (m_len : mg "len" = none) (m_sum : mg "sum" = none)  :
    DefOk P w K mg base 1 "_law_vat" s_law_vat ["script", "lap"] spVat := by
  refine def_ok F hm hb sc_law_vat (fun ds μ Q h => by first | (obtain ⟨a1, a2, rfl, h⟩ := h; rfl) | (obtain ⟨a1, rfl, h⟩ := h; rfl) | (obtain ⟨a1, a2, a3, rfl, h⟩ := h; rfl) | (obtain ⟨a1, a2, a3, a4, rfl, h⟩ := h; rfl)) _ (fun qual f cdv A fs s H E hgd room => (dss_cons (ds_set (i := 2) sc_law_vat.nd rfl (Or.inl rfl) (de_ifExp (dt_cmp op_lt lift_lt (de_var 1 (pv 1)) (de_callB call_len_seq lift_len rfl m_len (by decide +kernel) (da_cons (de_var 0 (pv 0)) da_nil))) (de_callTy call_int1 lift_int rfl m_int (by decide +kernel) (da_cons (de_ix (de_var 0 (pv 0)) (de_var 1 (pv 1))) da_nil)) (de_op (OpR.or op_add (OpR.or op_catA op_cat)) lift_add (de_op (OpR.or op_add (OpR.or op_catA op_cat)) lift_add (de_op (OpR.or op_mulAny op_repT) lift_mul de_int (de_var 1 (pv 1))) de_int) (de_op op_mod lift_mod (de_callTy call_int1 lift_int rfl m_int (by decide +kernel) (da_cons (de_callB (cr_sum rfl) lift_sum rfl m_sum (by decide +kernel) (da_cons (de_slice (de_var 0 (pv 0)) do_none (do_some de_int)) da_nil)) da_nil)) de_int))))
      (dss_cons (ds_set (i := 3) sc_law_vat.nd rfl (Or.inl rfl) (de_op (OpR.or op_add (OpR.or op_catA op_cat)) lift_add de_int (de_op (OpR.or op_mulAny op_repT) lift_mul de_int (de_var 1 (pv 1)))))
      (dss_cons (ds_for (g := .nm 4) PassesOwn.never rfl (di_lst (de_op (OpR.or op_add (OpR.or op_catA op_cat)) lift_add (de_slice (de_var 0 (pv 0)) do_none (do_some de_int)) (de_lst (da_cons (de_var 2 (pv 2)) da_nil)))) (pg_name (i := 4) sc_law_vat.nd rfl (Or.inl rfl)) (dss_one (ds_set (i := 3) sc_law_vat.nd rfl (Or.inl rfl) (de_op op_mod lift_mod (de_callTy call_int1 lift_int rfl m_int (by decide +kernel) (da_cons (de_op (OpR.or op_add (OpR.or op_catA op_cat)) lift_add (de_op (OpR.or op_add (OpR.or op_catA op_cat)) lift_add (de_op (OpR.or op_mulAny op_repT) lift_mul (de_var 3 (pv 3)) de_int) (de_op op_mod lift_mod (de_callTy call_int1 lift_int rfl m_int (by decide +kernel) (da_cons (de_var 4 (pv 4)) da_nil)) de_int)) de_int) da_nil)) de_int))))
      (dss_one (ds_ret (de_lstM (da_cons (de_ifExp (dt_w (dw_or (dt_cmp op_lt lift_lt (de_var 2 (pv 2)) de_int) (dw_or1 (dt_cmp op_ge lift_ge (de_var 2 (pv 2)) (de_op op_pow lift_pow de_int de_int))))) (de_callB call_abs lift_abs rfl m_abs (by decide +kernel) (da_cons (de_var 2 (pv 2)) da_nil)) de_int) (da_cons (de_var 3 (pv 3)) (da_cons de_int da_nil)))))))))) fun ds μ Q h => ?_
  obtain ⟨ns, lap, rfl, h1, h2, h3, q⟩ := h
  walk_at "x"
  have loop : ∀ (ms : List Int) (E : DEnds) (own stir : Int) (o : Option D), (∀ stir' o', E.nx [some (.scr ns), some (.int lap), some (.int own), some (.int stir'), o'] μ) →
      forD (.nm 4) (dSet 3 (dOp dMod (dCB dInt (dCons (dOp dAdd (dOp dAdd (dOp dMul (dVar 3) (dC (.int 44129))) (dOp dMod (dCB dInt (dCons (dVar 4) dNil)) (dC (.int 2147483353)))) (dC (.int 37))) dNil)) (dC (.int 2147483353)))) E
        (ms.map D.int) [some (.scr ns), some (.int lap), some (.int own), some (.int stir), o] μ := by
    intro ms
    induction ms with
    | nil => exact fun E own stir o k => k _ _
    | cons m ms ih =>
      intro E own stir o k
      refine x_fCons ?_
      walk_at "x"
      exact ih E own _ _ k
  have len : (cutI ns none (some 10)).length ≤ ns.length := cutI_le _ _ _
  refine ite_d (fun hz => ?_) (fun hz => ?_)
  · walk_at "x"
    refine x_ixS h1 hz fun n hn => ?_
    walk_at "x"
    refine x_addL (by rw [List.length_map]; show _ + 1 ≤ 1000000; omega) ?_
    refine x_iLst1 ?_
    rw [map_snoc]
    refine loop _ _ _ _ _ fun stir' o' => ?_
    walk_at "x"
    refine ite_d (fun hz => ?_) (fun hz => ?_)
    · walk_at "x"
      intro p hp
      exact q p _ _ _ hp
    · walk_at "x"
      refine ite_d (fun hz => ?_) (fun hz => ?_)
      all_goals
        walk_at "x"
        intro p hp
        exact q p _ _ _ hp
  · walk_at "x"
    refine x_addL (by rw [List.length_map]; show _ + 1 ≤ 1000000; omega) ?_
    refine x_iLst1 ?_
    rw [map_snoc]
    refine loop _ _ _ _ _ fun stir' o' => ?_
    walk_at "x"
    refine ite_d (fun hz => ?_) (fun hz => ?_)
    · walk_at "x"
      intro p hp
      exact q p _ _ _ hp
    · walk_at "x"
      refine ite_d (fun hz => ?_) (fun hz => ?_)
      all_goals
        walk_at "x"
        intro p hp
        exact q p _ _ _ hp
end
def someD (i : Int) : List D := [.non, .bl true, .int 0, .int (-9), .int (10 ^ Int.toNat 31), .str "", .str "each", .tup [], .tup [.int 2], .lst [], .lst [.int 1, .lst [.int 2]], .dic [(Sum.inr "b", .int 2)],
  .tup [.tup [.int 1, .int 3], .tup [.int 0, .int 1]], .tup [.non, .str "y"]] ++ [.int i]
/-- a value of any kind -/
def spThing : SpD := fun ds μ Q => ∃ a, ds = [.ref a] ∧ VatAt μ a ∧ ∀ d i z s c, -500000 ≤ i → i < 500000 → d ∈ someD i → Q d (mset μ a (vatD z s c))
abbrev s_law_thing : Stmt := top 32
theorem sc_law_thing : FnScope ["vat", "some"] ["vat"] (defScope s_law_thing) := ⟨rfl, rfl, rfl, by decide +kernel, rfl, by decide +kernel, by decide +kernel⟩
section
variable {P : Program} {w : World} {K : PySem.W.Frag} {mg : Str → Option Value} {base : Heap}
theorem ok_law_thing  {f : Addr} {fd : FuncData} (F : Fun K "_law_thing" "_law_thing" s_law_thing f fd) (hm : mg "_law_thing" = some (.ref f)) (hb : Binds K fd ["vat"] []) (D_law_cup : DefOk P w K mg base 1 "_law_cup" s_law_cup ["vat", "many"] spCup) (D_law_one_of : DefOk P w K mg base 2 "_law_one_of" s_law_one_of ["vat", "some"] spOneOf)  :
    DefOk P w K mg base 3 "_law_thing" s_law_thing ["vat"] spThing := by
  refine def_ok F hm hb sc_law_thing (fun ds μ Q h => by first | (obtain ⟨a1, a2, rfl, h⟩ := h; rfl) | (obtain ⟨a1, rfl, h⟩ := h; rfl) | (obtain ⟨a1, a2, a3, rfl, h⟩ := h; rfl) | (obtain ⟨a1, a2, a3, a4, rfl, h⟩ := h; rfl)) _ (fun qual f cdv A fs s H E hgd room => (dss_cons (ds_set (i := 1) sc_law_thing.nd rfl (Or.inl rfl) (de_tup (da_cons de_non (da_cons de_bl (da_cons de_int (da_cons (de_neg de_int) (da_cons (de_op op_pow lift_pow de_int de_int) (da_cons de_str (da_cons de_str (da_cons (de_tup da_nil) (da_cons (de_tup (da_cons de_int da_nil)) (da_cons (de_lst da_nil) (da_cons (de_lst (da_cons de_int (da_cons (de_lst (da_cons de_int da_nil)) da_nil))) (da_cons de_dic1 (da_cons (de_tup (da_cons (de_tup (da_cons de_int (da_cons de_int da_nil))) (da_cons (de_tup (da_cons de_int (da_cons de_int da_nil))) da_nil))) (da_cons (de_tup (da_cons de_non (da_cons de_str da_nil))) da_nil))))))))))))))))
      (dss_one (ds_ret (de_call hgd D_law_one_of (room.mono (by decide)) (da_cons (de_var 0 (pv 0)) (da_cons (de_op (OpR.or op_add (OpR.or op_catA op_cat)) lift_add (de_var 1 (pv 1)) (de_tup (da_cons (de_op op_sub lift_sub (de_call hgd D_law_cup (room.mono (by decide)) (da_cons (de_var 0 (pv 0)) (da_cons (de_op op_pow lift_pow de_int de_int) da_nil))) (de_op (OpR.or op_mulAny op_repT) lift_mul de_int (de_op op_pow lift_pow de_int de_int))) da_nil))) da_nil))))))) fun ds μ Q h => ?_
  obtain ⟨a, rfl, ⟨z, s, c, hv⟩, q⟩ := h
  walk_at "x"
  refine x_cup (vat_of hv) (by decide) (by decide) fun n z' s' c' h0 h1 => ?_
  have e6 : (10 : Int) ^ Int.toNat 6 = 1000000 := by decide
  have e5 : 5 * (10 : Int) ^ Int.toNat 5 = 500000 := by decide
  rw [e6] at h1
  walk_at "x"
  refine x_one vat_set (by simp) (by simp) fun d z' s' c' hd => ?_
  rw [mset_mset]
  exact q d (n - 5 * 10 ^ Int.toNat 5) _ _ _ (by rw [e5]; omega) (by rw [e5]; omega) hd
end
def errs (f : Str) (cs : List Addr) (d : D) : List D := cs.map fun C => .exc C (some (f, d))
def spKeep (f : Str) (cs : List Addr) : SpD := fun ds μ Q => ∃ d, ds = [d] ∧ Q (.lst [.lst (errs f cs d), .lst (errs f cs d)]) μ
abbrev s_law_keepers : Stmt := top 27
theorem sc_law_keepers : FnScope ["thing", "one", "two"] ["thing"] (defScope s_law_keepers) := ⟨rfl, rfl, rfl, by decide +kernel, rfl, by decide +kernel, by decide +kernel⟩
section
variable {P : Program} {w : World} {K : PySem.W.Frag} {mg : Str → Option Value} {base : Heap}
theorem ok_law_keepers  {f : Addr} {fd : FuncData} (F : Fun K "_law_keepers" "_law_keepers" s_law_keepers f fd) (hm : mg "_law_keepers" = some (.ref f)) (hb : Binds K fd ["thing"] []) {C_InvalidBounds I_InvalidBounds : Addr} {d_InvalidBounds : FuncData} (T_InvalidBounds : Ecl K mg "InvalidBounds" C_InvalidBounds I_InvalidBounds "given") (G_InvalidBounds : FnG P w K mg base CX0 1 I_InvalidBounds d_InvalidBounds [("self" : Str), "given"] (spI K "given")) (B1_InvalidBounds : ∀ (a : Addr) (u : Value) (s' : Shared), BindsTo s' d_InvalidBounds ⟨[.ref a, u], []⟩ [("self", .ref a), ("given", u)]) (B2_InvalidBounds : ∀ (a : Addr) (u : Value) (s' : Shared), BindsTo s' d_InvalidBounds ⟨[.ref a], [("given", u)]⟩ [("self", .ref a), ("given", u)]) {C_InvalidFactor I_InvalidFactor : Addr} {d_InvalidFactor : FuncData} (T_InvalidFactor : Ecl K mg "InvalidFactor" C_InvalidFactor I_InvalidFactor "given") (G_InvalidFactor : FnG P w K mg base CX0 1 I_InvalidFactor d_InvalidFactor [("self" : Str), "given"] (spI K "given")) (B1_InvalidFactor : ∀ (a : Addr) (u : Value) (s' : Shared), BindsTo s' d_InvalidFactor ⟨[.ref a, u], []⟩ [("self", .ref a), ("given", u)]) (B2_InvalidFactor : ∀ (a : Addr) (u : Value) (s' : Shared), BindsTo s' d_InvalidFactor ⟨[.ref a], [("given", u)]⟩ [("self", .ref a), ("given", u)]) {C_InvalidFraction I_InvalidFraction : Addr} {d_InvalidFraction : FuncData} (T_InvalidFraction : Ecl K mg "InvalidFraction" C_InvalidFraction I_InvalidFraction "given") (G_InvalidFraction : FnG P w K mg base CX0 1 I_InvalidFraction d_InvalidFraction [("self" : Str), "given"] (spI K "given")) (B1_InvalidFraction : ∀ (a : Addr) (u : Value) (s' : Shared), BindsTo s' d_InvalidFraction ⟨[.ref a, u], []⟩ [("self", .ref a), ("given", u)]) (B2_InvalidFraction : ∀ (a : Addr) (u : Value) (s' : Shared), BindsTo s' d_InvalidFraction ⟨[.ref a], [("given", u)]⟩ [("self", .ref a), ("given", u)]) {C_InvalidIndex I_InvalidIndex : Addr} {d_InvalidIndex : FuncData} (T_InvalidIndex : Ecl K mg "InvalidIndex" C_InvalidIndex I_InvalidIndex "given") (G_InvalidIndex : FnG P w K mg base CX0 1 I_InvalidIndex d_InvalidIndex [("self" : Str), "given"] (spI K "given")) (B1_InvalidIndex : ∀ (a : Addr) (u : Value) (s' : Shared), BindsTo s' d_InvalidIndex ⟨[.ref a, u], []⟩ [("self", .ref a), ("given", u)]) (B2_InvalidIndex : ∀ (a : Addr) (u : Value) (s' : Shared), BindsTo s' d_InvalidIndex ⟨[.ref a], [("given", u)]⟩ [("self", .ref a), ("given", u)]) {C_InvalidMethod I_InvalidMethod : Addr} {d_InvalidMethod : FuncData} (T_InvalidMethod : Ecl K mg "InvalidMethod" C_InvalidMethod I_InvalidMethod "given") (G_InvalidMethod : FnG P w K mg base CX0 1 I_InvalidMethod d_InvalidMethod [("self" : Str), "given"] (spI K "given")) (B1_InvalidMethod : ∀ (a : Addr) (u : Value) (s' : Shared), BindsTo s' d_InvalidMethod ⟨[.ref a, u], []⟩ [("self", .ref a), ("given", u)]) (B2_InvalidMethod : ∀ (a : Addr) (u : Value) (s' : Shared), BindsTo s' d_InvalidMethod ⟨[.ref a], [("given", u)]⟩ [("self", .ref a), ("given", u)]) {C_InvalidNumber I_InvalidNumber : Addr} {d_InvalidNumber : FuncData} (T_InvalidNumber : Ecl K mg "InvalidNumber" C_InvalidNumber I_InvalidNumber "given") (G_InvalidNumber : FnG P w K mg base CX0 1 I_InvalidNumber d_InvalidNumber [("self" : Str), "given"] (spI K "given")) (B1_InvalidNumber : ∀ (a : Addr) (u : Value) (s' : Shared), BindsTo s' d_InvalidNumber ⟨[.ref a, u], []⟩ [("self", .ref a), ("given", u)]) (B2_InvalidNumber : ∀ (a : Addr) (u : Value) (s' : Shared), BindsTo s' d_InvalidNumber ⟨[.ref a], [("given", u)]⟩ [("self", .ref a), ("given", u)]) {C_InvalidParting I_InvalidParting : Addr} {d_InvalidParting : FuncData} (T_InvalidParting : Ecl K mg "InvalidParting" C_InvalidParting I_InvalidParting "given") (G_InvalidParting : FnG P w K mg base CX0 1 I_InvalidParting d_InvalidParting [("self" : Str), "given"] (spI K "given")) (B1_InvalidParting : ∀ (a : Addr) (u : Value) (s' : Shared), BindsTo s' d_InvalidParting ⟨[.ref a, u], []⟩ [("self", .ref a), ("given", u)]) (B2_InvalidParting : ∀ (a : Addr) (u : Value) (s' : Shared), BindsTo s' d_InvalidParting ⟨[.ref a], [("given", u)]⟩ [("self", .ref a), ("given", u)]) {C_InvalidPolynomial I_InvalidPolynomial : Addr} {d_InvalidPolynomial : FuncData} (T_InvalidPolynomial : Ecl K mg "InvalidPolynomial" C_InvalidPolynomial I_InvalidPolynomial "given") (G_InvalidPolynomial : FnG P w K mg base CX0 1 I_InvalidPolynomial d_InvalidPolynomial [("self" : Str), "given"] (spI K "given")) (B1_InvalidPolynomial : ∀ (a : Addr) (u : Value) (s' : Shared), BindsTo s' d_InvalidPolynomial ⟨[.ref a, u], []⟩ [("self", .ref a), ("given", u)]) (B2_InvalidPolynomial : ∀ (a : Addr) (u : Value) (s' : Shared), BindsTo s' d_InvalidPolynomial ⟨[.ref a], [("given", u)]⟩ [("self", .ref a), ("given", u)]) {C_InvalidShare I_InvalidShare : Addr} {d_InvalidShare : FuncData} (T_InvalidShare : Ecl K mg "InvalidShare" C_InvalidShare I_InvalidShare "given") (G_InvalidShare : FnG P w K mg base CX0 1 I_InvalidShare d_InvalidShare [("self" : Str), "given"] (spI K "given")) (B1_InvalidShare : ∀ (a : Addr) (u : Value) (s' : Shared), BindsTo s' d_InvalidShare ⟨[.ref a, u], []⟩ [("self", .ref a), ("given", u)]) (B2_InvalidShare : ∀ (a : Addr) (u : Value) (s' : Shared), BindsTo s' d_InvalidShare ⟨[.ref a], [("given", u)]⟩ [("self", .ref a), ("given", u)]) {C_InvalidTable I_InvalidTable : Addr} {d_InvalidTable : FuncData} (T_InvalidTable : Ecl K mg "InvalidTable" C_InvalidTable I_InvalidTable "given") (G_InvalidTable : FnG P w K mg base CX0 1 I_InvalidTable d_InvalidTable [("self" : Str), "given"] (spI K "given")) (B1_InvalidTable : ∀ (a : Addr) (u : Value) (s' : Shared), BindsTo s' d_InvalidTable ⟨[.ref a, u], []⟩ [("self", .ref a), ("given", u)]) (B2_InvalidTable : ∀ (a : Addr) (u : Value) (s' : Shared), BindsTo s' d_InvalidTable ⟨[.ref a], [("given", u)]⟩ [("self", .ref a), ("given", u)])  :
    DefOk P w K mg base 3 "_law_keepers" s_law_keepers ["thing"] (spKeep "given" [C_InvalidFraction, C_InvalidNumber, C_InvalidIndex, C_InvalidTable, C_InvalidMethod, C_InvalidParting, C_InvalidFactor, C_InvalidShare, C_InvalidPolynomial, C_InvalidBounds]) := by
  refine def_ok F hm hb sc_law_keepers (fun ds μ Q h => by first | (obtain ⟨a1, a2, rfl, h⟩ := h; rfl) | (obtain ⟨a1, rfl, h⟩ := h; rfl) | (obtain ⟨a1, a2, a3, rfl, h⟩ := h; rfl) | (obtain ⟨a1, a2, a3, a4, rfl, h⟩ := h; rfl)) _ (fun qual f cdv A fs s H E hgd room => (dss_cons (ds_set (i := 1) sc_law_keepers.nd rfl (Or.inl rfl) (de_lst (da_cons (de_mk (k := 0) hgd (room.mono (by decide)) T_InvalidFraction G_InvalidFraction B1_InvalidFraction (da_cons (de_var 0 (pv 0)) da_nil)) (da_cons (de_mk (k := 0) hgd (room.mono (by decide)) T_InvalidNumber G_InvalidNumber B1_InvalidNumber (da_cons (de_var 0 (pv 0)) da_nil)) (da_cons (de_mk (k := 0) hgd (room.mono (by decide)) T_InvalidIndex G_InvalidIndex B1_InvalidIndex (da_cons (de_var 0 (pv 0)) da_nil)) (da_cons (de_mk (k := 0) hgd (room.mono (by decide)) T_InvalidTable G_InvalidTable B1_InvalidTable (da_cons (de_var 0 (pv 0)) da_nil)) da_nil))))))
      (dss_cons (ds_set (i := 1) sc_law_keepers.nd rfl (Or.inl rfl) (de_op (OpR.or op_add (OpR.or op_catA op_cat)) lift_add (de_var 1 (pv 1)) (de_lst (da_cons (de_mk (k := 0) hgd (room.mono (by decide)) T_InvalidMethod G_InvalidMethod B1_InvalidMethod (da_cons (de_var 0 (pv 0)) da_nil)) (da_cons (de_mk (k := 0) hgd (room.mono (by decide)) T_InvalidParting G_InvalidParting B1_InvalidParting (da_cons (de_var 0 (pv 0)) da_nil)) (da_cons (de_mk (k := 0) hgd (room.mono (by decide)) T_InvalidFactor G_InvalidFactor B1_InvalidFactor (da_cons (de_var 0 (pv 0)) da_nil)) (da_cons (de_mk (k := 0) hgd (room.mono (by decide)) T_InvalidShare G_InvalidShare B1_InvalidShare (da_cons (de_var 0 (pv 0)) da_nil)) da_nil)))))))
      (dss_cons (ds_set (i := 2) sc_law_keepers.nd rfl (Or.inl rfl) (de_lst (da_cons (de_mkK (k := 0) hgd (room.mono (by decide)) T_InvalidFraction G_InvalidFraction B2_InvalidFraction (de_var 0 (pv 0))) (da_cons (de_mkK (k := 0) hgd (room.mono (by decide)) T_InvalidNumber G_InvalidNumber B2_InvalidNumber (de_var 0 (pv 0))) (da_cons (de_mkK (k := 0) hgd (room.mono (by decide)) T_InvalidIndex G_InvalidIndex B2_InvalidIndex (de_var 0 (pv 0))) da_nil)))))
      (dss_cons (ds_set (i := 2) sc_law_keepers.nd rfl (Or.inl rfl) (de_op (OpR.or op_add (OpR.or op_catA op_cat)) lift_add (de_var 2 (pv 2)) (de_lst (da_cons (de_mkK (k := 0) hgd (room.mono (by decide)) T_InvalidTable G_InvalidTable B2_InvalidTable (de_var 0 (pv 0))) (da_cons (de_mkK (k := 0) hgd (room.mono (by decide)) T_InvalidMethod G_InvalidMethod B2_InvalidMethod (de_var 0 (pv 0))) (da_cons (de_mkK (k := 0) hgd (room.mono (by decide)) T_InvalidParting G_InvalidParting B2_InvalidParting (de_var 0 (pv 0))) da_nil))))))
      (dss_cons (ds_set (i := 2) sc_law_keepers.nd rfl (Or.inl rfl) (de_op (OpR.or op_add (OpR.or op_catA op_cat)) lift_add (de_var 2 (pv 2)) (de_lst (da_cons (de_mkK (k := 0) hgd (room.mono (by decide)) T_InvalidFactor G_InvalidFactor B2_InvalidFactor (de_var 0 (pv 0))) (da_cons (de_mkK (k := 0) hgd (room.mono (by decide)) T_InvalidShare G_InvalidShare B2_InvalidShare (de_var 0 (pv 0))) (da_cons (de_mkK (k := 0) hgd (room.mono (by decide)) T_InvalidPolynomial G_InvalidPolynomial B2_InvalidPolynomial (de_var 0 (pv 0))) da_nil))))))
      (dss_one (ds_ret (de_lst (da_cons (de_op (OpR.or op_add (OpR.or op_catA op_cat)) lift_add (de_var 1 (pv 1)) (de_lst (da_cons (de_mk (k := 0) hgd (room.mono (by decide)) T_InvalidPolynomial G_InvalidPolynomial B1_InvalidPolynomial (da_cons (de_var 0 (pv 0)) da_nil)) (da_cons (de_mk (k := 0) hgd (room.mono (by decide)) T_InvalidBounds G_InvalidBounds B1_InvalidBounds (da_cons (de_var 0 (pv 0)) da_nil)) da_nil)))) (da_cons (de_op (OpR.or op_add (OpR.or op_catA op_cat)) lift_add (de_var 2 (pv 2)) (de_lst (da_cons (de_mkK (k := 0) hgd (room.mono (by decide)) T_InvalidBounds G_InvalidBounds B2_InvalidBounds (de_var 0 (pv 0))) da_nil))) da_nil))))))))))) fun ds μ Q h => ?_
  obtain ⟨d, rfl, q⟩ := h
  walk_at "x"
  exact q
end
abbrev s_law_pointers : Stmt := top 28
theorem sc_law_pointers : FnScope ["thing", "one", "two"] ["thing"] (defScope s_law_pointers) := ⟨rfl, rfl, rfl, by decide +kernel, rfl, by decide +kernel, by decide +kernel⟩
section
variable {P : Program} {w : World} {K : PySem.W.Frag} {mg : Str → Option Value} {base : Heap}
theorem ok_law_pointers  {f : Addr} {fd : FuncData} (F : Fun K "_law_pointers" "_law_pointers" s_law_pointers f fd) (hm : mg "_law_pointers" = some (.ref f)) (hb : Binds K fd ["thing"] []) {C_InvalidAmounts I_InvalidAmounts : Addr} {d_InvalidAmounts : FuncData} (T_InvalidAmounts : Ecl K mg "InvalidAmounts" C_InvalidAmounts I_InvalidAmounts "index") (G_InvalidAmounts : FnG P w K mg base CX0 1 I_InvalidAmounts d_InvalidAmounts [("self" : Str), "index"] (spI K "index")) (B1_InvalidAmounts : ∀ (a : Addr) (u : Value) (s' : Shared), BindsTo s' d_InvalidAmounts ⟨[.ref a, u], []⟩ [("self", .ref a), ("index", u)]) (B2_InvalidAmounts : ∀ (a : Addr) (u : Value) (s' : Shared), BindsTo s' d_InvalidAmounts ⟨[.ref a], [("index", u)]⟩ [("self", .ref a), ("index", u)]) {C_InvalidOrder I_InvalidOrder : Addr} {d_InvalidOrder : FuncData} (T_InvalidOrder : Ecl K mg "InvalidOrder" C_InvalidOrder I_InvalidOrder "index") (G_InvalidOrder : FnG P w K mg base CX0 1 I_InvalidOrder d_InvalidOrder [("self" : Str), "index"] (spI K "index")) (B1_InvalidOrder : ∀ (a : Addr) (u : Value) (s' : Shared), BindsTo s' d_InvalidOrder ⟨[.ref a, u], []⟩ [("self", .ref a), ("index", u)]) (B2_InvalidOrder : ∀ (a : Addr) (u : Value) (s' : Shared), BindsTo s' d_InvalidOrder ⟨[.ref a], [("index", u)]⟩ [("self", .ref a), ("index", u)]) {C_InvalidRow I_InvalidRow : Addr} {d_InvalidRow : FuncData} (T_InvalidRow : Ecl K mg "InvalidRow" C_InvalidRow I_InvalidRow "index") (G_InvalidRow : FnG P w K mg base CX0 1 I_InvalidRow d_InvalidRow [("self" : Str), "index"] (spI K "index")) (B1_InvalidRow : ∀ (a : Addr) (u : Value) (s' : Shared), BindsTo s' d_InvalidRow ⟨[.ref a, u], []⟩ [("self", .ref a), ("index", u)]) (B2_InvalidRow : ∀ (a : Addr) (u : Value) (s' : Shared), BindsTo s' d_InvalidRow ⟨[.ref a], [("index", u)]⟩ [("self", .ref a), ("index", u)]) {C_InvalidSteps I_InvalidSteps : Addr} {d_InvalidSteps : FuncData} (T_InvalidSteps : Ecl K mg "InvalidSteps" C_InvalidSteps I_InvalidSteps "index") (G_InvalidSteps : FnG P w K mg base CX0 1 I_InvalidSteps d_InvalidSteps [("self" : Str), "index"] (spI K "index")) (B1_InvalidSteps : ∀ (a : Addr) (u : Value) (s' : Shared), BindsTo s' d_InvalidSteps ⟨[.ref a, u], []⟩ [("self", .ref a), ("index", u)]) (B2_InvalidSteps : ∀ (a : Addr) (u : Value) (s' : Shared), BindsTo s' d_InvalidSteps ⟨[.ref a], [("index", u)]⟩ [("self", .ref a), ("index", u)]) {C_InvalidWalls I_InvalidWalls : Addr} {d_InvalidWalls : FuncData} (T_InvalidWalls : Ecl K mg "InvalidWalls" C_InvalidWalls I_InvalidWalls "index") (G_InvalidWalls : FnG P w K mg base CX0 1 I_InvalidWalls d_InvalidWalls [("self" : Str), "index"] (spI K "index")) (B1_InvalidWalls : ∀ (a : Addr) (u : Value) (s' : Shared), BindsTo s' d_InvalidWalls ⟨[.ref a, u], []⟩ [("self", .ref a), ("index", u)]) (B2_InvalidWalls : ∀ (a : Addr) (u : Value) (s' : Shared), BindsTo s' d_InvalidWalls ⟨[.ref a], [("index", u)]⟩ [("self", .ref a), ("index", u)])  :
    DefOk P w K mg base 3 "_law_pointers" s_law_pointers ["thing"] (spKeep "index" [C_InvalidRow, C_InvalidAmounts, C_InvalidSteps, C_InvalidWalls, C_InvalidOrder]) := by
  refine def_ok F hm hb sc_law_pointers (fun ds μ Q h => by first | (obtain ⟨a1, a2, rfl, h⟩ := h; rfl) | (obtain ⟨a1, rfl, h⟩ := h; rfl) | (obtain ⟨a1, a2, a3, rfl, h⟩ := h; rfl) | (obtain ⟨a1, a2, a3, a4, rfl, h⟩ := h; rfl)) _ (fun qual f cdv A fs s H E hgd room => (dss_cons (ds_set (i := 1) sc_law_pointers.nd rfl (Or.inl rfl) (de_lst (da_cons (de_mk (k := 0) hgd (room.mono (by decide)) T_InvalidRow G_InvalidRow B1_InvalidRow (da_cons (de_var 0 (pv 0)) da_nil)) (da_cons (de_mk (k := 0) hgd (room.mono (by decide)) T_InvalidAmounts G_InvalidAmounts B1_InvalidAmounts (da_cons (de_var 0 (pv 0)) da_nil)) (da_cons (de_mk (k := 0) hgd (room.mono (by decide)) T_InvalidSteps G_InvalidSteps B1_InvalidSteps (da_cons (de_var 0 (pv 0)) da_nil)) (da_cons (de_mk (k := 0) hgd (room.mono (by decide)) T_InvalidWalls G_InvalidWalls B1_InvalidWalls (da_cons (de_var 0 (pv 0)) da_nil)) (da_cons (de_mk (k := 0) hgd (room.mono (by decide)) T_InvalidOrder G_InvalidOrder B1_InvalidOrder (da_cons (de_var 0 (pv 0)) da_nil)) da_nil)))))))
      (dss_cons (ds_set (i := 2) sc_law_pointers.nd rfl (Or.inl rfl) (de_lst (da_cons (de_mkK (k := 0) hgd (room.mono (by decide)) T_InvalidRow G_InvalidRow B2_InvalidRow (de_var 0 (pv 0))) (da_cons (de_mkK (k := 0) hgd (room.mono (by decide)) T_InvalidAmounts G_InvalidAmounts B2_InvalidAmounts (de_var 0 (pv 0))) (da_cons (de_mkK (k := 0) hgd (room.mono (by decide)) T_InvalidSteps G_InvalidSteps B2_InvalidSteps (de_var 0 (pv 0))) da_nil)))))
      (dss_one (ds_ret (de_lst (da_cons (de_var 1 (pv 1)) (da_cons (de_op (OpR.or op_add (OpR.or op_catA op_cat)) lift_add (de_var 2 (pv 2)) (de_lst (da_cons (de_mkK (k := 0) hgd (room.mono (by decide)) T_InvalidWalls G_InvalidWalls B2_InvalidWalls (de_var 0 (pv 0))) (da_cons (de_mkK (k := 0) hgd (room.mono (by decide)) T_InvalidOrder G_InvalidOrder B2_InvalidOrder (de_var 0 (pv 0))) da_nil)))) da_nil)))))))) fun ds μ Q h => ?_
  obtain ⟨d, rfl, q⟩ := h
  walk_at "x"
  exact q
end
end K01
-- KB
set_option maxRecDepth 100000
namespace K01
open PySem PySem.Spec PyProof.Rows L2 DL
local macro_rules | `(tactic| walk_at "look") => `(tactic| first | rfl | assumption | exact mset_same | (rw [mset_ne (by assumption)]; first | rfl | assumption | exact mset_same) | (show mset _ _ _ _ = _; first | exact mset_same | (rw [mset_ne (by assumption)]; assumption)))
local macro_rules | `(tactic| walk_at "small") => `(tactic| first | exact mulc (by decide) | exact mulcl (by decide) | exact mulc ⟨by omega, by omega⟩ | exact mulcl ⟨by omega, by omega⟩)
local macro_rules | `(tactic| walk_at "x1") => `(tactic| first
  | (with_reducible first
    | refine x_seq ?_ | refine x_ifS ?_ | refine x_test ?_ | refine x_op ?_ | refine x_c ?_ | refine x_bl ?_
    | refine x_cb ?_ | refine x_call ?_ | refine x_cons ?_ | refine x_nil ?_ | refine x_int ?_ | refine x_abs ?_ | refine x_add ?_ | refine x_sub ?_
    | refine x_lt ?_ | refine x_le ?_ | refine x_gt ?_ | refine x_ge ?_ | refine x_lenT ?_ | refine x_lenL ?_ | refine x_lenS ?_ | refine x_tupOfL ?_ | refine x_tupOfT ?_
    | refine x_tup ?_ | refine x_lst ?_ | refine x_asg ?_ | refine x_set ?_ | refine x_ret ?_ | refine x_next ?_ | refine x_drop ?_
    | refine x_gCons ?_ | refine x_gNil ?_ | refine x_gName ?_ | refine x_gSub ?_
    | refine x_and ?_ | refine x_or ?_ | refine x_not ?_ | refine x_andV ?_ | refine x_orV ?_ | refine x_notV ?_ | refine x_if ?_ | refine x_chain ?_
    | refine x_sl ?_ | refine x_slT ?_ | refine x_slL ?_ | refine x_slS ?_ | refine x_sumI ?_ | refine x_lstM ?_ | refine x_yes ?_ | refine x_tgN ?_
    | refine x_mk ?_ | refine x_mk1 ?_ | refine x_mk0 ?_ | refine x_neg ?_ | refine x_neg1 ?_ | refine x_dic0 ?_ | refine x_dic1 ?_
    | refine x_for ?_ | refine x_iLst ?_ | refine x_iLst1 ?_ | refine x_iTup ?_ | refine x_iTup1 ?_ | refine x_iRng ?_ | refine x_lc ?_ | refine x_par ?_ | refine x_par1 ?_ | refine x_app ?_
    | refine x_attr ?_ | refine x_part ?_ | refine x_neg1 ?_ | refine x_noPart ?_ | refine iteT ?_ | refine iteF ?_ | refine iteNT ?_ | refine iteNF ?_)
  | ((with_reducible refine x_var (d := ?dd) ?hA ?_); (case hA => rfl))
  | ((with_reducible refine x_ixR (ds := ?dd) (e := ?ee) ?hA ?hB ?_); (case hA => walk_at "look"); (case hB => rfl))
  | ((with_reducible refine x_ixT (e := ?ee) ?hB ?_); (case hB => rfl))
  | ((with_reducible refine x_ixL (e := ?ee) ?hB ?_); (case hB => rfl))
  | ((with_reducible refine x_lenR (ds := ?dd) ?hA ?_); (case hA => walk_at "look"))
  | ((with_reducible refine x_slR (ds := ?dd) ?hA ?_); (case hA => walk_at "look"))
  | ((with_reducible refine x_mul ?hA ?_); (case hA => walk_at "small"))
  | ((with_reducible refine x_mod ?hA ?_); (case hA => first | decide | omega))
  | ((with_reducible refine x_fdiv ?hA ?_); (case hA => exact div_small (by decide) (by decide)))
  | ((with_reducible refine x_pow ?hA ?_); (case hA => exact ⟨by decide, by decide, by decide⟩))
  | ((with_reducible refine x_divmod ?hA ?_); (case hA => exact ⟨by omega, by omega⟩))
  | ((with_reducible refine x_gSub1 (ds := ?dd) (m := ?mm) ?hA ?hB ?_); (case hA => walk_at "look"); (case hB => rfl))
  | ((with_reducible refine x_gTup ?hA ?_); (case hA => rfl))
  | ((with_reducible refine x_iRng1 ?hA ?hB ?_); (case hA => first | decide | omega); (case hB => first | decide | omega))
  | ((with_reducible refine x_addT ?hA ?_); (case hA => first | decide | (simp only [List.length_cons, List.length_nil, List.length_append]; omega)))
  | ((with_reducible refine x_addL ?hA ?_); (case hA => first | decide | (simp only [List.length_cons, List.length_nil, List.length_append]; omega)))
  | (refine And.intro ?hA ?_; (case hA => first | decide | (simp only [List.length_cons, List.length_nil, List.length_append]; omega))))
local macro_rules | `(tactic| walk_at "x") => `(tactic| repeat (walk_at "x1"))
local macro_rules | `(tactic| walk_at "tidy") => `(tactic| simp only [mset_mset])

/-- what isinstance tells of an error of the class at C, for each class of cs -/
def spClasses (K : PySem.W.Frag) (cs : List Addr) : SpD := fun ds μ Q => ∃ C fs, ds = [.exc C fs] ∧ ExcC K C ∧ ∃ kit : Addr → Bool, (∀ c ∈ cs, kitD K C (.ref c) = some (kit c)) ∧ Q (.lst (cs.map fun c => .bl (kit c))) μ
abbrev s_law_classes : Stmt := top 29
theorem sc_law_classes : FnScope ["e", "found"] ["e"] (defScope s_law_classes) := ⟨rfl, rfl, rfl, by decide +kernel, rfl, by decide +kernel, by decide +kernel⟩
section
variable {P : Program} {w : World} {K : PySem.W.Frag} {mg : Str → Option Value} {base : Heap}
theorem ok_law_classes  {f : Addr} {fd : FuncData} (F : Fun K "_law_classes" "_law_classes" s_law_classes f fd) (hm : mg "_law_classes" = some (.ref f)) (hb : Binds K fd ["e"] []) {C_InvalidAmounts I_InvalidAmounts : Addr} {d_InvalidAmounts : FuncData} (T_InvalidAmounts : Ecl K mg "InvalidAmounts" C_InvalidAmounts I_InvalidAmounts "index") {C_InvalidBounds I_InvalidBounds : Addr} {d_InvalidBounds : FuncData} (T_InvalidBounds : Ecl K mg "InvalidBounds" C_InvalidBounds I_InvalidBounds "given") {C_InvalidFactor I_InvalidFactor : Addr} {d_InvalidFactor : FuncData} (T_InvalidFactor : Ecl K mg "InvalidFactor" C_InvalidFactor I_InvalidFactor "given") {C_InvalidFraction I_InvalidFraction : Addr} {d_InvalidFraction : FuncData} (T_InvalidFraction : Ecl K mg "InvalidFraction" C_InvalidFraction I_InvalidFraction "given") {C_InvalidIndex I_InvalidIndex : Addr} {d_InvalidIndex : FuncData} (T_InvalidIndex : Ecl K mg "InvalidIndex" C_InvalidIndex I_InvalidIndex "given") {C_InvalidMethod I_InvalidMethod : Addr} {d_InvalidMethod : FuncData} (T_InvalidMethod : Ecl K mg "InvalidMethod" C_InvalidMethod I_InvalidMethod "given") {C_InvalidNumber I_InvalidNumber : Addr} {d_InvalidNumber : FuncData} (T_InvalidNumber : Ecl K mg "InvalidNumber" C_InvalidNumber I_InvalidNumber "given") {C_InvalidOrder I_InvalidOrder : Addr} {d_InvalidOrder : FuncData} (T_InvalidOrder : Ecl K mg "InvalidOrder" C_InvalidOrder I_InvalidOrder "index") {C_InvalidParting I_InvalidParting : Addr} {d_InvalidParting : FuncData} (T_InvalidParting : Ecl K mg "InvalidParting" C_InvalidParting I_InvalidParting "given") {C_InvalidPolynomial I_InvalidPolynomial : Addr} {d_InvalidPolynomial : FuncData} (T_InvalidPolynomial : Ecl K mg "InvalidPolynomial" C_InvalidPolynomial I_InvalidPolynomial "given") {C_InvalidRow I_InvalidRow : Addr} {d_InvalidRow : FuncData} (T_InvalidRow : Ecl K mg "InvalidRow" C_InvalidRow I_InvalidRow "index") {C_InvalidShare I_InvalidShare : Addr} {d_InvalidShare : FuncData} (T_InvalidShare : Ecl K mg "InvalidShare" C_InvalidShare I_InvalidShare "given") {C_InvalidSteps I_InvalidSteps : Addr} {d_InvalidSteps : FuncData} (T_InvalidSteps : Ecl K mg "InvalidSteps" C_InvalidSteps I_InvalidSteps "index") {C_InvalidTable I_InvalidTable : Addr} {d_InvalidTable : FuncData} (T_InvalidTable : Ecl K mg "InvalidTable" C_InvalidTable I_InvalidTable "given") {C_InvalidWalls I_InvalidWalls : Addr} {d_InvalidWalls : FuncData} (T_InvalidWalls : Ecl K mg "InvalidWalls" C_InvalidWalls I_InvalidWalls "index") {C_NoInverse : Addr} (T_NoInverse : Bcl K mg "NoInverse" C_NoInverse) {C_NotBelow : Addr} (T_NotBelow : Bcl K mg "NotBelow" C_NotBelow) {C_NotLevelled : Addr} (T_NotLevelled : Bcl K mg "NotLevelled" C_NotLevelled) {C_NotPositive : Addr} (T_NotPositive : Bcl K mg "NotPositive" C_NotPositive) {C_NotSplit : Addr} (T_NotSplit : Bcl K mg "NotSplit" C_NotSplit) {C_NotSymmetric : Addr} (T_NotSymmetric : Bcl K mg "NotSymmetric" C_NotSymmetric) (m_isinstance : mg "isinstance" = none)  :
    DefOk P w K mg base 3 "_law_classes" s_law_classes ["e"] (spClasses K [C_InvalidFraction, C_InvalidNumber, C_InvalidIndex, C_InvalidTable, C_InvalidMethod, C_InvalidParting, C_InvalidFactor, C_InvalidShare, C_InvalidPolynomial, C_InvalidBounds, C_InvalidRow, C_InvalidAmounts, C_InvalidSteps, C_InvalidWalls, C_InvalidOrder, C_NoInverse, C_NotSplit, C_NotSymmetric, C_NotPositive, C_NotLevelled, C_NotBelow]) := by
  refine def_ok F hm hb sc_law_classes (fun ds μ Q h => by first | (obtain ⟨a1, a2, rfl, h⟩ := h; rfl) | (obtain ⟨a1, rfl, h⟩ := h; rfl) | (obtain ⟨a1, a2, a3, rfl, h⟩ := h; rfl) | (obtain ⟨a1, a2, a3, a4, rfl, h⟩ := h; rfl)) _ (fun qual f cdv A fs s H E hgd room => (dss_cons (ds_set (i := 1) sc_law_classes.nd rfl (Or.inl rfl) (de_lst (da_cons (de_isE (K := K) rfl m_isinstance (da_cons (de_var 0 (pv 0)) (da_cons (de_c (pe_glob (by rfl) T_InvalidFraction.gC (by rfl)) fun _ => .ref _) da_nil))) (da_cons (de_isE (K := K) rfl m_isinstance (da_cons (de_var 0 (pv 0)) (da_cons (de_c (pe_glob (by rfl) T_InvalidNumber.gC (by rfl)) fun _ => .ref _) da_nil))) (da_cons (de_isE (K := K) rfl m_isinstance (da_cons (de_var 0 (pv 0)) (da_cons (de_c (pe_glob (by rfl) T_InvalidIndex.gC (by rfl)) fun _ => .ref _) da_nil))) da_nil)))))
      (dss_cons (ds_set (i := 1) sc_law_classes.nd rfl (Or.inl rfl) (de_op (OpR.or op_add (OpR.or op_catA op_cat)) lift_add (de_var 1 (pv 1)) (de_lst (da_cons (de_isE (K := K) rfl m_isinstance (da_cons (de_var 0 (pv 0)) (da_cons (de_c (pe_glob (by rfl) T_InvalidTable.gC (by rfl)) fun _ => .ref _) da_nil))) (da_cons (de_isE (K := K) rfl m_isinstance (da_cons (de_var 0 (pv 0)) (da_cons (de_c (pe_glob (by rfl) T_InvalidMethod.gC (by rfl)) fun _ => .ref _) da_nil))) (da_cons (de_isE (K := K) rfl m_isinstance (da_cons (de_var 0 (pv 0)) (da_cons (de_c (pe_glob (by rfl) T_InvalidParting.gC (by rfl)) fun _ => .ref _) da_nil))) da_nil))))))
      (dss_cons (ds_set (i := 1) sc_law_classes.nd rfl (Or.inl rfl) (de_op (OpR.or op_add (OpR.or op_catA op_cat)) lift_add (de_var 1 (pv 1)) (de_lst (da_cons (de_isE (K := K) rfl m_isinstance (da_cons (de_var 0 (pv 0)) (da_cons (de_c (pe_glob (by rfl) T_InvalidFactor.gC (by rfl)) fun _ => .ref _) da_nil))) (da_cons (de_isE (K := K) rfl m_isinstance (da_cons (de_var 0 (pv 0)) (da_cons (de_c (pe_glob (by rfl) T_InvalidShare.gC (by rfl)) fun _ => .ref _) da_nil))) (da_cons (de_isE (K := K) rfl m_isinstance (da_cons (de_var 0 (pv 0)) (da_cons (de_c (pe_glob (by rfl) T_InvalidPolynomial.gC (by rfl)) fun _ => .ref _) da_nil))) da_nil))))))
      (dss_cons (ds_set (i := 1) sc_law_classes.nd rfl (Or.inl rfl) (de_op (OpR.or op_add (OpR.or op_catA op_cat)) lift_add (de_var 1 (pv 1)) (de_lst (da_cons (de_isE (K := K) rfl m_isinstance (da_cons (de_var 0 (pv 0)) (da_cons (de_c (pe_glob (by rfl) T_InvalidBounds.gC (by rfl)) fun _ => .ref _) da_nil))) (da_cons (de_isE (K := K) rfl m_isinstance (da_cons (de_var 0 (pv 0)) (da_cons (de_c (pe_glob (by rfl) T_InvalidRow.gC (by rfl)) fun _ => .ref _) da_nil))) (da_cons (de_isE (K := K) rfl m_isinstance (da_cons (de_var 0 (pv 0)) (da_cons (de_c (pe_glob (by rfl) T_InvalidAmounts.gC (by rfl)) fun _ => .ref _) da_nil))) da_nil))))))
      (dss_cons (ds_set (i := 1) sc_law_classes.nd rfl (Or.inl rfl) (de_op (OpR.or op_add (OpR.or op_catA op_cat)) lift_add (de_var 1 (pv 1)) (de_lst (da_cons (de_isE (K := K) rfl m_isinstance (da_cons (de_var 0 (pv 0)) (da_cons (de_c (pe_glob (by rfl) T_InvalidSteps.gC (by rfl)) fun _ => .ref _) da_nil))) (da_cons (de_isE (K := K) rfl m_isinstance (da_cons (de_var 0 (pv 0)) (da_cons (de_c (pe_glob (by rfl) T_InvalidWalls.gC (by rfl)) fun _ => .ref _) da_nil))) (da_cons (de_isE (K := K) rfl m_isinstance (da_cons (de_var 0 (pv 0)) (da_cons (de_c (pe_glob (by rfl) T_InvalidOrder.gC (by rfl)) fun _ => .ref _) da_nil))) da_nil))))))
      (dss_cons (ds_set (i := 1) sc_law_classes.nd rfl (Or.inl rfl) (de_op (OpR.or op_add (OpR.or op_catA op_cat)) lift_add (de_var 1 (pv 1)) (de_lst (da_cons (de_isE (K := K) rfl m_isinstance (da_cons (de_var 0 (pv 0)) (da_cons (de_c (pe_glob (by rfl) T_NoInverse.gC (by rfl)) fun _ => .ref _) da_nil))) (da_cons (de_isE (K := K) rfl m_isinstance (da_cons (de_var 0 (pv 0)) (da_cons (de_c (pe_glob (by rfl) T_NotSplit.gC (by rfl)) fun _ => .ref _) da_nil))) (da_cons (de_isE (K := K) rfl m_isinstance (da_cons (de_var 0 (pv 0)) (da_cons (de_c (pe_glob (by rfl) T_NotSymmetric.gC (by rfl)) fun _ => .ref _) da_nil))) da_nil))))))
      (dss_one (ds_ret (de_op (OpR.or op_add (OpR.or op_catA op_cat)) lift_add (de_var 1 (pv 1)) (de_lst (da_cons (de_isE (K := K) rfl m_isinstance (da_cons (de_var 0 (pv 0)) (da_cons (de_c (pe_glob (by rfl) T_NotPositive.gC (by rfl)) fun _ => .ref _) da_nil))) (da_cons (de_isE (K := K) rfl m_isinstance (da_cons (de_var 0 (pv 0)) (da_cons (de_c (pe_glob (by rfl) T_NotLevelled.gC (by rfl)) fun _ => .ref _) da_nil))) (da_cons (de_isE (K := K) rfl m_isinstance (da_cons (de_var 0 (pv 0)) (da_cons (de_c (pe_glob (by rfl) T_NotBelow.gC (by rfl)) fun _ => .ref _) da_nil))) da_nil)))))))))))))) fun ds μ Q h => ?_
  obtain ⟨C, fs, rfl, hC, kit, hk, q⟩ := h
  repeat (first | walk_at "x1" | refine x_isE hC (hk _ (by simp)) ?_)
  exact q
end
end K01
-- KC
set_option maxRecDepth 100000
namespace K01
open PySem PySem.Spec PyProof.Rows L2 DL
local macro_rules | `(tactic| walk_at "look") => `(tactic| first | rfl | assumption | exact mset_same | (rw [mset_ne (by assumption)]; first | rfl | assumption | exact mset_same) | (show mset _ _ _ _ = _; first | exact mset_same | (rw [mset_ne (by assumption)]; assumption)))
local macro_rules | `(tactic| walk_at "small") => `(tactic| first | exact mulc (by decide) | exact mulcl (by decide) | exact mulc ⟨by omega, by omega⟩ | exact mulcl ⟨by omega, by omega⟩)
local macro_rules | `(tactic| walk_at "x1") => `(tactic| first
  | (with_reducible first
    | refine x_seq ?_ | refine x_ifS ?_ | refine x_test ?_ | refine x_op ?_ | refine x_c ?_ | refine x_bl ?_
    | refine x_cb ?_ | refine x_call ?_ | refine x_cons ?_ | refine x_nil ?_ | refine x_int ?_ | refine x_abs ?_ | refine x_add ?_ | refine x_sub ?_
    | refine x_lt ?_ | refine x_le ?_ | refine x_gt ?_ | refine x_ge ?_ | refine x_lenT ?_ | refine x_lenL ?_ | refine x_lenS ?_ | refine x_tupOfL ?_ | refine x_tupOfT ?_
    | refine x_tup ?_ | refine x_lst ?_ | refine x_asg ?_ | refine x_set ?_ | refine x_ret ?_ | refine x_next ?_ | refine x_drop ?_
    | refine x_gCons ?_ | refine x_gNil ?_ | refine x_gName ?_ | refine x_gSub ?_
    | refine x_and ?_ | refine x_or ?_ | refine x_not ?_ | refine x_andV ?_ | refine x_orV ?_ | refine x_notV ?_ | refine x_if ?_ | refine x_chain ?_
    | refine x_sl ?_ | refine x_slT ?_ | refine x_slL ?_ | refine x_slS ?_ | refine x_sumI ?_ | refine x_lstM ?_ | refine x_yes ?_ | refine x_tgN ?_
    | refine x_mk ?_ | refine x_mk1 ?_ | refine x_mk0 ?_ | refine x_neg ?_ | refine x_neg1 ?_ | refine x_dic0 ?_ | refine x_dic1 ?_
    | refine x_for ?_ | refine x_iLst ?_ | refine x_iLst1 ?_ | refine x_iTup ?_ | refine x_iTup1 ?_ | refine x_iRng ?_ | refine x_lc ?_ | refine x_par ?_ | refine x_par1 ?_ | refine x_app ?_
    | refine x_attr ?_ | refine x_part ?_ | refine x_neg1 ?_ | refine x_noPart ?_ | refine iteT ?_ | refine iteF ?_ | refine iteNT ?_ | refine iteNF ?_)
  | ((with_reducible refine x_var (d := ?dd) ?hA ?_); (case hA => rfl))
  | ((with_reducible refine x_ixR (ds := ?dd) (e := ?ee) ?hA ?hB ?_); (case hA => walk_at "look"); (case hB => rfl))
  | ((with_reducible refine x_ixT (e := ?ee) ?hB ?_); (case hB => rfl))
  | ((with_reducible refine x_ixL (e := ?ee) ?hB ?_); (case hB => rfl))
  | ((with_reducible refine x_lenR (ds := ?dd) ?hA ?_); (case hA => walk_at "look"))
  | ((with_reducible refine x_slR (ds := ?dd) ?hA ?_); (case hA => walk_at "look"))
  | ((with_reducible refine x_mul ?hA ?_); (case hA => walk_at "small"))
  | ((with_reducible refine x_mod ?hA ?_); (case hA => first | decide | omega))
  | ((with_reducible refine x_fdiv ?hA ?_); (case hA => exact div_small (by decide) (by decide)))
  | ((with_reducible refine x_pow ?hA ?_); (case hA => exact ⟨by decide, by decide, by decide⟩))
  | ((with_reducible refine x_divmod ?hA ?_); (case hA => exact ⟨by omega, by omega⟩))
  | ((with_reducible refine x_gSub1 (ds := ?dd) (m := ?mm) ?hA ?hB ?_); (case hA => walk_at "look"); (case hB => rfl))
  | ((with_reducible refine x_gTup ?hA ?_); (case hA => rfl))
  | ((with_reducible refine x_iRng1 ?hA ?hB ?_); (case hA => first | decide | omega); (case hB => first | decide | omega))
  | ((with_reducible refine x_addT ?hA ?_); (case hA => first | decide | (simp only [List.length_cons, List.length_nil, List.length_append]; omega)))
  | ((with_reducible refine x_addL ?hA ?_); (case hA => first | decide | (simp only [List.length_cons, List.length_nil, List.length_append]; omega)))
  | (refine And.intro ?hA ?_; (case hA => first | decide | (simp only [List.length_cons, List.length_nil, List.length_append]; omega))))
local macro_rules | `(tactic| walk_at "x") => `(tactic| repeat (walk_at "x1"))
local macro_rules | `(tactic| walk_at "tidy") => `(tactic| simp only [mset_mset])

def pick (kit : Addr → Bool) (cs : List Addr) : D → Option D
  | .int i => if kit (cs.getD i.toNat 0) = true then some (.int i) else none
  | _ => none
/-- an error of the class at C is of the class with the place at among cs alone (of none: below 0), under the right ones -/
structure Placed (K : PySem.W.Frag) (cs : List Addr) (CS C : Addr) (at_ : Int) : Prop where
  I : ExcC K C
  n : cs.length = 21
  kits : ∃ kit : Addr → Bool, (∀ c ∈ cs, kitD K C (.ref c) = some (kit c)) ∧ ((List.range 21).map fun i : Nat => D.int (i : Int)).filterMap (pick kit cs) = (if 0 ≤ at_ then [.int at_] else [])
  s : kitD K C (.ref CS) = some true
  v : kitD K C (.ty "ValueError") = some true
  l : kitD K C (.ty "LookupError") = some false
  a : kitD K C (.ty "ArithmeticError") = some false
  t : kitD K C (.ty "TypeError") = some false
  r : kitD K C (.ty "RuntimeError") = some false
def spPlaced (K : PySem.W.Frag) (cs : List Addr) (CS : Addr) : SpD := fun ds μ Q => ∃ C fs at_, ds = [.exc C fs, .int at_] ∧ Placed K cs CS C at_ ∧ Q (.bl true) μ
theorem range21 {d : D} (h : d ∈ (List.range 21).map fun i : Nat => D.int (i : Int)) : ∃ i : Nat, i < 21 ∧ d = .int (i : Int) := by
  obtain ⟨i, hi, rfl⟩ := List.mem_map.mp h
  exact ⟨i, List.mem_range.mp hi, rfl⟩
theorem ite_false' {A B : Prop} {b : Bool} (h : b = false) (k : B) : if b = true then A else B := by rw [h]; exact iteF k
theorem ite_true' {A B : Prop} {b : Bool} (h : b = true) (k : A) : if b = true then A else B := by rw [h]; exact iteT k
theorem int_eqv1 {a b : Int} : PyData.eqv (.list [.int a]) (.list [.int b]) = decide (a = b) := by
  simp [PyData.eqv, PyData.eqvAll, Bool.beq_eq_decide_eq]
theorem nil_eqv : PyData.eqv (.list []) (.list []) = true := by simp [PyData.eqv, PyData.eqvAll]
theorem shaped_nil : SeqAt.shaped (.list []) = true := by decide
theorem shaped_one (a : Int) : SeqAt.shaped (.list [.int a]) = true := by
  simp [SeqAt.shaped, PyData.canLay0, PyData.canLayAll0, PyData.depth, PyData.depthAll]
abbrev s_law_is_placed : Stmt := top 30
theorem sc_law_is_placed : FnScope ["e", "at", "marks", "k"] ["e", "at"] (defScope s_law_is_placed) := ⟨rfl, rfl, rfl, by decide +kernel, rfl, by decide +kernel, by decide +kernel⟩
section
variable {P : Program} {w : World} {K : PySem.W.Frag} {mg : Str → Option Value} {base : Heap}
theorem ok_law_is_placed {cs : List Addr} {f : Addr} {fd : FuncData} (F : Fun K "_law_is_placed" "_law_is_placed" s_law_is_placed f fd) (hm : mg "_law_is_placed" = some (.ref f)) (hb : Binds K fd ["e", "at"] []) {C_SweepError : Addr} (T_SweepError : Bcl K mg "SweepError" C_SweepError) (D_law_classes : DefOk P w K mg base 3 "_law_classes" s_law_classes ["e"] (spClasses K cs)) (m_ArithmeticError : mg "ArithmeticError" = none) (m_LookupError : mg "LookupError" = none) (m_RuntimeError : mg "RuntimeError" = none) (m_TypeError : mg "TypeError" = none) (m_ValueError : mg "ValueError" = none) (m_isinstance : mg "isinstance" = none) (m_range : mg "range" = none)  :
    DefOk P w K mg base 4 "_law_is_placed" s_law_is_placed ["e", "at"] (spPlaced K cs C_SweepError) := by
  refine def_ok F hm hb sc_law_is_placed (fun ds μ Q h => by first | (obtain ⟨a1, a2, rfl, h⟩ := h; rfl) | (obtain ⟨a1, rfl, h⟩ := h; rfl) | (obtain ⟨a1, a2, a3, rfl, h⟩ := h; rfl) | (obtain ⟨a1, a2, a3, a4, rfl, h⟩ := h; rfl)) _ (fun qual f cdv A fs s H E hgd room => have hu := room.units; (dss_cons (ds_set (i := 2) sc_law_is_placed.nd rfl (Or.inr rfl) (de_call hgd D_law_classes (room.mono (by decide)) (da_cons (de_var 0 (pv 0)) da_nil)))
      (dss_cons (ds_if (dt_cmp (OpR.or (op_neD hu) op_ne) lift_ne (de_lc (own := [("k", 3)]) (g := .nm 3) rfl sc_law_is_placed.nd (di_rng m_range (da_cons de_int da_nil)) (blkOk_by (by kernel_rfl)) (by decide) (fun _ _ _ _ _ => (pg_name (i := 3) sc_law_is_placed.nd rfl (Or.inl rfl))) (fun _ _ _ _ _ => (dts_one (dt_val (de_ix (de_var 2 (pv 2)) (de_var 3 (pv 3)))))) (fun _ _ _ _ _ => (de_var 3 (pv 3)))) (de_ifExp (dt_cmp op_ge lift_ge (de_var 1 (pv 1)) de_int) (de_lst (da_cons (de_var 1 (pv 1)) da_nil)) (de_lst da_nil))) (dss_one (ds_ret de_bl)) dss_nil)
      (dss_cons (ds_if (dt_w (dw_or (dt_not (dt_val (de_isE (K := K) rfl m_isinstance (da_cons (de_var 0 (pv 0)) (da_cons (de_c (pe_glob (by rfl) T_SweepError.gC (by rfl)) fun _ => .ref _) da_nil))))) (dw_or (dt_not (dt_val (de_isE (K := K) rfl m_isinstance (da_cons (de_var 0 (pv 0)) (da_cons (de_c (v := .ty "ValueError") (pe_bltn (u := .type "ValueError") (by rfl) m_ValueError (by decide +kernel) (by rfl)) fun _ => .ty _) da_nil))))) (dw_or1 (dt_val (de_isE (K := K) rfl m_isinstance (da_cons (de_var 0 (pv 0)) (da_cons (de_c (v := .ty "LookupError") (pe_bltn (u := .type "LookupError") (by rfl) m_LookupError (by decide +kernel) (by rfl)) fun _ => .ty _) da_nil)))))))) (dss_one (ds_ret de_bl)) dss_nil)
      (dss_one (ds_ret (de_and (de_not (de_isE (K := K) rfl m_isinstance (da_cons (de_var 0 (pv 0)) (da_cons (de_c (v := .ty "ArithmeticError") (pe_bltn (u := .type "ArithmeticError") (by rfl) m_ArithmeticError (by decide +kernel) (by rfl)) fun _ => .ty _) da_nil)))) (de_and (de_not (de_isE (K := K) rfl m_isinstance (da_cons (de_var 0 (pv 0)) (da_cons (de_c (v := .ty "TypeError") (pe_bltn (u := .type "TypeError") (by rfl) m_TypeError (by decide +kernel) (by rfl)) fun _ => .ty _) da_nil)))) (de_one (de_not (de_isE (K := K) rfl m_isinstance (da_cons (de_var 0 (pv 0)) (da_cons (de_c (v := .ty "RuntimeError") (pe_bltn (u := .type "RuntimeError") (by rfl) m_RuntimeError (by decide +kernel) (by rfl)) fun _ => .ty _) da_nil))))))))))))) fun ds μ Q h => ?_
  obtain ⟨C, fs, at_, rfl, Pl, q⟩ := h
  obtain ⟨kit, hk, hp⟩ := Pl.kits
  have n21 := Pl.n
  walk_at "x"
  refine ⟨C, fs, rfl, Pl.I, kit, hk, ?_⟩
  walk_at "x"
  refine lc_pure (pick kit cs) (by simp) (fun d hd μ' k hk' => ?_) ?_
  · obtain ⟨i, hi, rfl⟩ := range21 hd
    unfold lcStep
    have hc : cs[i]? = some (cs.getD i 0) := by rw [List.getD_eq_getElem?_getD, List.getElem?_eq_getElem (by omega)]; rfl
    walk_at "x"
    refine x_ixL (atI_nat (v := D.bl (kit (cs.getD i 0))) (by rw [List.getElem?_map, hc]; rfl)) ?_
    walk_at "x"
    have e : pick kit cs (.int (i : Int)) = if kit (cs.getD i 0) = true then some (.int (i : Int)) else none := rfl
    rw [e] at hk'
    refine ite_b (fun hb => ?_) (fun hb => ?_)
    · walk_at "x"
      rw [if_pos hb] at hk'
      exact hk'
    · rw [if_neg (by rw [hb]; decide)] at hk'
      exact hk'
  · rw [show Int.toNat 21 = 21 from rfl, hp]
    walk_at "x"
    refine ite_d (fun h0 => ?_) (fun h0 => ?_)
    · walk_at "x"
      rw [if_pos h0]
      refine x_ne rfl rfl (shaped_one _) (shaped_one _) ?_
      rw [int_eqv1, decide_eq_true rfl]
      repeat (first | walk_at "x1" | refine x_isE Pl.I Pl.s ?_ | refine x_isE Pl.I Pl.v ?_ | refine x_isE Pl.I Pl.l ?_ | refine x_isE Pl.I Pl.a ?_ | refine x_isE Pl.I Pl.t ?_ | refine x_isE Pl.I Pl.r ?_)
      exact q
    · walk_at "x"
      rw [if_neg h0]
      refine x_ne rfl rfl shaped_nil shaped_nil ?_
      rw [nil_eqv]
      repeat (first | walk_at "x1" | refine x_isE Pl.I Pl.s ?_ | refine x_isE Pl.I Pl.v ?_ | refine x_isE Pl.I Pl.l ?_ | refine x_isE Pl.I Pl.a ?_ | refine x_isE Pl.I Pl.t ?_ | refine x_isE Pl.I Pl.r ?_)
      exact q
end
def spPlacedAll (K : PySem.W.Frag) (cs : List Addr) (CS : Addr) : SpD := fun ds μ Q => ∃ es start, ds = [.lst es, .int start] ∧ es.length ≤ 100 ∧ (∀ (k : Nat) d, es[k]? = some d → ∃ C fs, d = .exc C fs ∧ Placed K cs CS C (start + k)) ∧ Q (.bl true) μ
theorem range_mem {n : Nat} {d : D} (h : d ∈ (List.range n).map fun i : Nat => D.int (i : Int)) : ∃ i : Nat, i < n ∧ d = .int (i : Int) := by
  obtain ⟨i, hi, rfl⟩ := List.mem_map.mp h
  exact ⟨i, List.mem_range.mp hi, rfl⟩
theorem fm_none {α β : Type} : ∀ l : List α, l.filterMap (fun _ => (none : Option β)) = []
  | [] => rfl
  | x :: l => by rw [List.filterMap_cons]; exact fm_none l
abbrev s_law_are_placed : Stmt := top 31
theorem sc_law_are_placed : FnScope ["errors", "start", "k"] ["errors", "start"] (defScope s_law_are_placed) := ⟨rfl, rfl, rfl, by decide +kernel, rfl, by decide +kernel, by decide +kernel⟩
section
variable {P : Program} {w : World} {K : PySem.W.Frag} {mg : Str → Option Value} {base : Heap}
theorem ok_law_are_placed {cs : List Addr} {C_SweepError : Addr} {f : Addr} {fd : FuncData} (F : Fun K "_law_are_placed" "_law_are_placed" s_law_are_placed f fd) (hm : mg "_law_are_placed" = some (.ref f)) (hb : Binds K fd ["errors", "start"] []) (D_law_is_placed : DefOk P w K mg base 4 "_law_is_placed" s_law_is_placed ["e", "at"] (spPlaced K cs C_SweepError)) (m_len : mg "len" = none) (m_range : mg "range" = none)  :
    DefOk P w K mg base 5 "_law_are_placed" s_law_are_placed ["errors", "start"] (spPlacedAll K cs C_SweepError) := by
  refine def_ok F hm hb sc_law_are_placed (fun ds μ Q h => by first | (obtain ⟨a1, a2, rfl, h⟩ := h; rfl) | (obtain ⟨a1, rfl, h⟩ := h; rfl) | (obtain ⟨a1, a2, a3, rfl, h⟩ := h; rfl) | (obtain ⟨a1, a2, a3, a4, rfl, h⟩ := h; rfl)) _ (fun qual f cdv A fs s H E hgd room => have hu := room.units; (dss_one (ds_ret (de_cmp (OpR.or (op_eqD hu) op_eq) lift_eq (de_lc (own := [("k", 2)]) (g := .nm 2) rfl sc_law_are_placed.nd (di_rng m_range (da_cons (de_callB call_len_seq lift_len rfl m_len (by decide +kernel) (da_cons (de_var 0 (pv 0)) da_nil)) da_nil)) (blkOk_by (by kernel_rfl)) (by decide) (fun _ _ _ _ _ => (pg_name (i := 2) sc_law_are_placed.nd rfl (Or.inl rfl))) (fun _ _ _ _ _ => (dts_one (dt_not (dt_val (de_call hgd D_law_is_placed (room.mono (by decide)) (da_cons (de_ix (de_var 0 (pv 0)) (de_var 2 (pv 2))) (da_cons (de_op (OpR.or op_add (OpR.or op_catA op_cat)) lift_add (de_var 1 (pv 1)) (de_var 2 (pv 2))) da_nil))))))) (fun _ _ _ _ _ => (de_var 2 (pv 2)))) (de_lst da_nil))))) fun ds μ Q h => ?_
  obtain ⟨es, start, rfl, hz, hp, q⟩ := h
  walk_at "x"
  refine lc_pure (fun _ => none) (by simp; omega) (fun d hd μ' k hk' => ?_) ?_
  · obtain ⟨i, hi, rfl⟩ := range_mem hd
    have hi' : i < es.length := by simpa using hi
    obtain ⟨C, fs, e1, Pl⟩ := hp i _ (List.getElem?_eq_getElem hi')
    unfold lcStep
    walk_at "x"
    refine x_ixL (atI_nat (List.getElem?_eq_getElem hi')) ?_
    walk_at "x"
    refine ⟨C, fs, _, by rw [e1], Pl, ?_⟩
    walk_at "x"
    exact hk'
  · rw [fm_none]
    walk_at "x"
    refine x_eq rfl rfl shaped_nil shaped_nil ?_
    rw [nil_eqv]
    exact q
end
end K01
-- KD
set_option maxRecDepth 100000
namespace K01
open PySem PySem.Spec PyProof.Rows L2 DL
local macro_rules | `(tactic| walk_at "look") => `(tactic| first | rfl | assumption | exact mset_same | (rw [mset_ne (by assumption)]; first | rfl | assumption | exact mset_same) | (show mset _ _ _ _ = _; first | exact mset_same | (rw [mset_ne (by assumption)]; assumption)))
local macro_rules | `(tactic| walk_at "small") => `(tactic| first | exact mulc (by decide) | exact mulcl (by decide) | exact mulc ⟨by omega, by omega⟩ | exact mulcl ⟨by omega, by omega⟩)
local macro_rules | `(tactic| walk_at "x1") => `(tactic| first
  | (with_reducible first
    | refine x_seq ?_ | refine x_ifS ?_ | refine x_test ?_ | refine x_op ?_ | refine x_c ?_ | refine x_bl ?_
    | refine x_cb ?_ | refine x_call ?_ | refine x_cons ?_ | refine x_nil ?_ | refine x_int ?_ | refine x_abs ?_ | refine x_add ?_ | refine x_sub ?_
    | refine x_lt ?_ | refine x_le ?_ | refine x_gt ?_ | refine x_ge ?_ | refine x_lenT ?_ | refine x_lenL ?_ | refine x_lenS ?_ | refine x_tupOfL ?_ | refine x_tupOfT ?_
    | refine x_tup ?_ | refine x_lst ?_ | refine x_asg ?_ | refine x_set ?_ | refine x_ret ?_ | refine x_next ?_ | refine x_drop ?_
    | refine x_gCons ?_ | refine x_gNil ?_ | refine x_gName ?_ | refine x_gSub ?_
    | refine x_and ?_ | refine x_or ?_ | refine x_not ?_ | refine x_andV ?_ | refine x_orV ?_ | refine x_notV ?_ | refine x_if ?_ | refine x_chain ?_
    | refine x_sl ?_ | refine x_slT ?_ | refine x_slL ?_ | refine x_slS ?_ | refine x_sumI ?_ | refine x_lstM ?_ | refine x_yes ?_ | refine x_tgN ?_
    | refine x_mk ?_ | refine x_mk1 ?_ | refine x_mk0 ?_ | refine x_neg ?_ | refine x_neg1 ?_ | refine x_dic0 ?_ | refine x_dic1 ?_
    | refine x_for ?_ | refine x_iLst ?_ | refine x_iLst1 ?_ | refine x_iTup ?_ | refine x_iTup1 ?_ | refine x_iRng ?_ | refine x_lc ?_ | refine x_par ?_ | refine x_par1 ?_ | refine x_app ?_
    | refine x_attr ?_ | refine x_part ?_ | refine x_neg1 ?_ | refine x_noPart ?_ | refine iteT ?_ | refine iteF ?_ | refine iteNT ?_ | refine iteNF ?_)
  | ((with_reducible refine x_var (d := ?dd) ?hA ?_); (case hA => rfl))
  | ((with_reducible refine x_ixR (ds := ?dd) (e := ?ee) ?hA ?hB ?_); (case hA => walk_at "look"); (case hB => rfl))
  | ((with_reducible refine x_ixT (e := ?ee) ?hB ?_); (case hB => rfl))
  | ((with_reducible refine x_ixL (e := ?ee) ?hB ?_); (case hB => rfl))
  | ((with_reducible refine x_lenR (ds := ?dd) ?hA ?_); (case hA => walk_at "look"))
  | ((with_reducible refine x_slR (ds := ?dd) ?hA ?_); (case hA => walk_at "look"))
  | ((with_reducible refine x_mul ?hA ?_); (case hA => walk_at "small"))
  | ((with_reducible refine x_mod ?hA ?_); (case hA => first | decide | omega))
  | ((with_reducible refine x_fdiv ?hA ?_); (case hA => exact div_small (by decide) (by decide)))
  | ((with_reducible refine x_pow ?hA ?_); (case hA => exact ⟨by decide, by decide, by decide⟩))
  | ((with_reducible refine x_divmod ?hA ?_); (case hA => exact ⟨by omega, by omega⟩))
  | ((with_reducible refine x_gSub1 (ds := ?dd) (m := ?mm) ?hA ?hB ?_); (case hA => walk_at "look"); (case hB => rfl))
  | ((with_reducible refine x_gTup ?hA ?_); (case hA => rfl))
  | ((with_reducible refine x_iRng1 ?hA ?hB ?_); (case hA => first | decide | omega); (case hB => first | decide | omega))
  | ((with_reducible refine x_addT ?hA ?_); (case hA => first | decide | (simp only [List.length_cons, List.length_nil, List.length_append]; omega)))
  | ((with_reducible refine x_addL ?hA ?_); (case hA => first | decide | (simp only [List.length_cons, List.length_nil, List.length_append]; omega)))
  | (refine And.intro ?hA ?_; (case hA => first | decide | (simp only [List.length_cons, List.length_nil, List.length_append]; omega))))
local macro_rules | `(tactic| walk_at "x") => `(tactic| repeat (walk_at "x1"))
local macro_rules | `(tactic| walk_at "tidy") => `(tactic| simp only [mset_mset])

theorem showI {i : Int} (h : i.natAbs.log2 < 1920) : ShowOk (.int i) (.int i) := ⟨rfl, by simpa [PyData.showable] using h, fun z => by simp [PyData.hasDict] at z, by simp [PyData.depth], int_text_fits h⟩
theorem log_small {i : Int} (h : i.natAbs < 2 ^ 64) : i.natAbs.log2 < 1920 := by
  by_cases z : i.natAbs = 0
  · rw [z]; decide
  · exact Nat.lt_of_lt_of_le ((Nat.log2_lt z).mpr h) (by decide)
theorem thing_ok {d : D} {i : Int} (h0 : -500000 ≤ i) (h1 : i < 500000) (h : d ∈ someD i) : ∃ p, ShowOk d p := by
  simp only [someD, List.cons_append, List.nil_append, List.mem_cons, List.not_mem_nil, or_false] at h
  rcases h with rfl | rfl | rfl | rfl | rfl | rfl | rfl | rfl | rfl | rfl | rfl | rfl | rfl | rfl | rfl
  all_goals first
    | exact ⟨_, showI (log_small (by omega))⟩
    | exact ⟨_, showI (by decide)⟩
    | exact ⟨_, rfl, by decide, by decide, by decide, by rw [sizeLine_eq]; decide +kernel⟩
theorem errs_get {f : Str} {cs : List Addr} {d e : D} {k : Nat} (h : (errs f cs d)[k]? = some e) : ∃ C, cs[k]? = some C ∧ e = .exc C (some (f, d)) := by
  unfold errs at h
  rw [List.getElem?_map, Option.map_eq_some_iff] at h
  obtain ⟨C, h1, h2⟩ := h
  exact ⟨C, h1, h2.symm⟩
theorem errs_mem {f : Str} {cs : List Addr} {d e : D} (h : e ∈ errs f cs d) : ∃ C, C ∈ cs ∧ e = .exc C (some (f, d)) := by
  obtain ⟨C, h1, h2⟩ := List.mem_map.mp h
  exact ⟨C, h1, h2.symm⟩
def spRight : SpD := fun ds μ Q => ∃ a, ds = [.ref a] ∧ VatAt μ a ∧ ∀ z s c, Q (.bl true) (mset μ a (vatD z s c))
abbrev s_law_right : Stmt := top 33
theorem sc_law_right : FnScope ["vat", "thing", "other", "errors", "e", "bare"] ["vat"] (defScope s_law_right) := ⟨rfl, rfl, rfl, by decide +kernel, rfl, by decide +kernel, by decide +kernel⟩
section
variable {P : Program} {w : World} {K : PySem.W.Frag} {mg : Str → Option Value} {base : Heap}
theorem ok_law_right {csG csX cs : List Addr} {f : Addr} {fd : FuncData} (F : Fun K "_law_right" "_law_right" s_law_right f fd) (hm : mg "_law_right" = some (.ref f)) (hb : Binds K fd ["vat"] []) {C_NoInverse : Addr} (T_NoInverse : Bcl K mg "NoInverse" C_NoInverse) {C_NotBelow : Addr} (T_NotBelow : Bcl K mg "NotBelow" C_NotBelow) {C_NotLevelled : Addr} (T_NotLevelled : Bcl K mg "NotLevelled" C_NotLevelled) {C_NotPositive : Addr} (T_NotPositive : Bcl K mg "NotPositive" C_NotPositive) {C_NotSplit : Addr} (T_NotSplit : Bcl K mg "NotSplit" C_NotSplit) {C_NotSymmetric : Addr} (T_NotSymmetric : Bcl K mg "NotSymmetric" C_NotSymmetric) {C_SweepError : Addr} (T_SweepError : Bcl K mg "SweepError" C_SweepError) (D_law_are_placed : DefOk P w K mg base 5 "_law_are_placed" s_law_are_placed ["errors", "start"] (spPlacedAll K cs C_SweepError)) (D_law_is_placed : DefOk P w K mg base 4 "_law_is_placed" s_law_is_placed ["e", "at"] (spPlaced K cs C_SweepError)) (D_law_keepers : DefOk P w K mg base 3 "_law_keepers" s_law_keepers ["thing"] (spKeep "given" csG)) (D_law_pointers : DefOk P w K mg base 3 "_law_pointers" s_law_pointers ["thing"] (spKeep "index" csX)) (D_law_thing : DefOk P w K mg base 3 "_law_thing" s_law_thing ["vat"] spThing) (m_repr : mg "repr" = none) (lG : csG.length = 10) (lX : csX.length = 5) (hcs : cs = csG ++ csX ++ [C_NoInverse, C_NotSplit, C_NotSymmetric, C_NotPositive, C_NotLevelled, C_NotBelow]) (hG : ∀ C ∈ csG, ExcC K C ∧ PySem.W.findIn K (.ref C) "given" = some none) (hX : ∀ C ∈ csX, ExcC K C ∧ PySem.W.findIn K (.ref C) "index" = some none) (hP : ∀ (j : Nat) C, cs[j]? = some C → Placed K cs C_SweepError C j) (hS : Placed K cs C_SweepError C_SweepError (-1)) :
    DefOk P w K mg base 6 "_law_right" s_law_right ["vat"] spRight := by
  refine def_ok F hm hb sc_law_right (fun ds μ Q h => by first | (obtain ⟨a1, a2, rfl, h⟩ := h; rfl) | (obtain ⟨a1, rfl, h⟩ := h; rfl) | (obtain ⟨a1, a2, a3, rfl, h⟩ := h; rfl) | (obtain ⟨a1, a2, a3, a4, rfl, h⟩ := h; rfl)) _ (fun qual f cdv A fs s H E hgd room => have hu := room.units; (dss_cons (ds_asg (de_tup (da_cons (de_call hgd D_law_thing (room.mono (by decide)) (da_cons (de_var 0 (pv 0)) da_nil)) (da_cons (de_call hgd D_law_thing (room.mono (by decide)) (da_cons (de_var 0 (pv 0)) da_nil)) da_nil))) (dg_tup (n := 2) rfl (dgs_cons (dg_name (pg_name (i := 1) sc_law_right.nd rfl (Or.inr rfl))) (dgs_cons (dg_name (pg_name (i := 2) sc_law_right.nd rfl (Or.inr rfl))) dgs_nil))))
      (dss_cons (ds_for (g := .nm 3) PassesOwn.never rfl (di_lst (de_call hgd D_law_keepers (room.mono (by decide)) (da_cons (de_var 1 (pv 1)) da_nil))) (pg_name (i := 3) sc_law_right.nd rfl (Or.inl rfl)) (dss_one (ds_if (dt_w (dw_or (dt_cmp (OpR.or (op_neD hu) op_ne) lift_ne (de_lc (own := [("e", 4)]) (g := .nm 4) rfl sc_law_right.nd (di_lst (de_var 3 (pv 3))) (blkOk_by (by kernel_rfl)) (by decide) (fun _ _ _ _ _ => (pg_name (i := 4) sc_law_right.nd rfl (Or.inl rfl))) (fun _ _ _ _ _ => (dts_one (dt_cmp (OpR.or (op_neD hu) op_ne) lift_ne (de_repr room hgd m_repr (da_cons (de_attr (K := K) rfl (de_var 4 (pv 4))) da_nil)) (de_repr room hgd m_repr (da_cons (de_var 1 (pv 1)) da_nil))))) (fun _ _ _ _ _ => (de_var 4 (pv 4)))) (de_lst da_nil)) (dw_or1 (dt_not (dt_val (de_call hgd D_law_are_placed (room.mono (by decide)) (da_cons (de_var 3 (pv 3)) (da_cons de_int da_nil)))))))) (dss_one (ds_ret de_bl)) dss_nil)))
      (dss_cons (ds_for (g := .nm 3) PassesOwn.never rfl (di_lst (de_call hgd D_law_pointers (room.mono (by decide)) (da_cons (de_var 2 (pv 2)) da_nil))) (pg_name (i := 3) sc_law_right.nd rfl (Or.inl rfl)) (dss_one (ds_if (dt_w (dw_or (dt_cmp (OpR.or (op_neD hu) op_ne) lift_ne (de_lc (own := [("e", 4)]) (g := .nm 4) rfl sc_law_right.nd (di_lst (de_var 3 (pv 3))) (blkOk_by (by kernel_rfl)) (by decide) (fun _ _ _ _ _ => (pg_name (i := 4) sc_law_right.nd rfl (Or.inl rfl))) (fun _ _ _ _ _ => (dts_one (dt_cmp (OpR.or (op_neD hu) op_ne) lift_ne (de_repr room hgd m_repr (da_cons (de_attr (K := K) rfl (de_var 4 (pv 4))) da_nil)) (de_repr room hgd m_repr (da_cons (de_var 2 (pv 2)) da_nil))))) (fun _ _ _ _ _ => (de_var 4 (pv 4)))) (de_lst da_nil)) (dw_or1 (dt_not (dt_val (de_call hgd D_law_are_placed (room.mono (by decide)) (da_cons (de_var 3 (pv 3)) (da_cons de_int da_nil)))))))) (dss_one (ds_ret de_bl)) dss_nil)))
      (dss_cons (ds_set (i := 5) sc_law_right.nd rfl (Or.inl rfl) (de_lst (da_cons (de_mk0 T_NoInverse) (da_cons (de_mk0 T_NotSplit) (da_cons (de_mk0 T_NotSymmetric) (da_cons (de_mk0 T_NotPositive) (da_cons (de_mk0 T_NotLevelled) (da_cons (de_mk0 T_NotBelow) da_nil))))))))
      (dss_one (ds_ret (de_and (de_call hgd D_law_are_placed (room.mono (by decide)) (da_cons (de_var 5 (pv 5)) (da_cons de_int da_nil))) (de_one (de_call hgd D_law_is_placed (room.mono (by decide)) (da_cons (de_mk0 T_SweepError) (da_cons (de_neg de_int) da_nil)))))))))))) fun ds μ Q h => ?_
  obtain ⟨a, rfl, hv, q⟩ := h
  walk_at "x"
  refine ⟨a, rfl, hv, fun d1 i1 z s c h1 h2 h3 => ?_⟩
  obtain ⟨p1, ok1⟩ := thing_ok h1 h2 h3
  walk_at "x"
  refine ⟨a, rfl, vat_set, fun d2 i2 z s c h1 h2 h3 => ?_⟩
  obtain ⟨p2, ok2⟩ := thing_ok h1 h2 h3
  walk_at "x"
  refine ⟨d1, rfl, ?_⟩
  walk_at "x"
  have loop : ∀ (f : Str) (csF : List Addr) (d : D) (p : PyData) (slot : Nat) (st : Int) (E : DEnds) (o1 : Option D) (μ : Mem), ShowOk d p → csF.length ≤ 50 → (∀ C ∈ csF, ExcC K C ∧ PySem.W.findIn K (.ref C) f = some none) →
      (∀ (k : Nat) C, csF[k]? = some C → Placed K cs C_SweepError C (st + k)) → (slot = 1 ∧ d = d1 ∨ slot = 2 ∧ d = d2) →
      (∀ o, E.nx [some (.ref a), some d1, some d2, o, none, none] μ) →
      forD (.nm 3) (dIfS (dOr (dTest (dOp dNe (dLc (iLst (dVar 3)) (.nm 4) (dTest (dOp dNe (dCB dRepr (dCons (dAttr K f (dVar 4)) dNil)) (dCB dRepr (dCons (dVar slot) dNil)))) (dVar 4) ([("e", 4)].map (·.2))) (dLst dNil)))
          (dNot (dTest (dCall (spPlacedAll K cs C_SweepError) (dCons (dVar 3) (dCons (dC (.int st)) dNil)))))) (dRet (dC (.bl false))) dNext) E
        [.lst (errs f csF d), .lst (errs f csF d)] [some (.ref a), some d1, some d2, o1, none, none] μ := by
    intro f csF d p slot st E o1 μ ok hz hI hP2 hs hE
    have one : ∀ (E : DEnds) (o1 : Option D), E.nx [some (.ref a), some d1, some d2, some (.lst (errs f csF d)), none, none] μ →
        dIfS (dOr (dTest (dOp dNe (dLc (iLst (dVar 3)) (.nm 4) (dTest (dOp dNe (dCB dRepr (dCons (dAttr K f (dVar 4)) dNil)) (dCB dRepr (dCons (dVar slot) dNil)))) (dVar 4) ([("e", 4)].map (·.2))) (dLst dNil)))
          (dNot (dTest (dCall (spPlacedAll K cs C_SweepError) (dCons (dVar 3) (dCons (dC (.int st)) dNil)))))) (dRet (dC (.bl false))) dNext E [some (.ref a), some d1, some d2, some (.lst (errs f csF d)), none, none] μ := by
      intro E o1 hE
      walk_at "x"
      refine lc_pure (fun _ => none) (by simp [errs]; omega) (fun e he μ' k hk => ?_) ?_
      · obtain ⟨C, hC, rfl⟩ := errs_mem he
        unfold lcStep
        walk_at "x"
        refine ⟨C, d, rfl, (hI C hC).1, (hI C hC).2, ?_⟩
        walk_at "x"
        refine x_repr ok ?_
        have hd : ([some (.ref a), some d1, some d2, some (.lst (errs f csF d)), some (.exc C (some (f, d))), none] : DSt)[slot]? = some (some d) := by
          rcases hs with ⟨rfl, rfl⟩ | ⟨rfl, rfl⟩ <;> rfl
        refine x_var (d := d) hd ?_
        walk_at "x"
        refine x_repr ok ?_
        refine x_neS ?_
        rw [decide_eq_true rfl]
        walk_at "x"
        exact hk
      · rw [fm_none]
        walk_at "x"
        refine x_ne rfl rfl shaped_nil shaped_nil ?_
        rw [nil_eqv]
        walk_at "x"
        refine ⟨errs f csF d, st, rfl, by simp [errs]; omega, fun k e he => ?_, ?_⟩
        · obtain ⟨C, hC, rfl⟩ := errs_get he
          exact ⟨C, _, rfl, hP2 k C hC⟩
        · walk_at "x"
          exact hE
    refine x_fCons ?_
    refine x_tgN ?_
    refine one _ o1 ?_
    dsimp only
    refine x_fCons ?_
    refine x_tgN ?_
    refine one _ none ?_
    exact hE _
  have inG : ∀ (k : Nat) C, csG[k]? = some C → cs[k]? = some C := fun k C h => by
    have hk : k < csG.length := (List.getElem?_eq_some_iff.mp h).1
    rw [hcs, List.append_assoc, List.getElem?_append_left hk]
    exact h
  have inX : ∀ (k : Nat) C, csX[k]? = some C → cs[10 + k]? = some C := fun k C h => by
    have hk : k < csX.length := (List.getElem?_eq_some_iff.mp h).1
    rw [hcs, List.append_assoc, List.getElem?_append_right (by omega), List.getElem?_append_left (by omega), lG, Nat.add_sub_cancel_left]
    exact h
  refine loop "given" csG d1 p1 1 0 _ none _ ok1 (by omega) hG (fun k C hC => by rw [Int.zero_add]; exact hP k C (inG k C hC)) (.inl ⟨rfl, rfl⟩) fun o => ?_
  walk_at "x"
  refine ⟨d2, rfl, ?_⟩
  walk_at "x"
  refine loop "index" csX d2 p2 2 10 _ o _ ok2 (by omega) hX (fun k C hC => by
    have := hP (10 + k) C (inX k C hC)
    rw [Int.natCast_add] at this
    exact this) (.inr ⟨rfl, rfl⟩) fun o => ?_
  walk_at "x"
  have bare : ∀ (k : Nat) C, ([C_NoInverse, C_NotSplit, C_NotSymmetric, C_NotPositive, C_NotLevelled, C_NotBelow] : List Addr)[k]? = some C → Placed K cs C_SweepError C (15 + k) := fun k C h => by
    have hk : k < 6 := (List.getElem?_eq_some_iff.mp h).1
    have := hP (15 + k) C (by rw [hcs, List.getElem?_append_right (by rw [List.length_append]; omega), List.length_append, lG, lX, Nat.add_sub_cancel_left]; exact h)
    rw [Int.natCast_add] at this
    exact this
  refine ⟨_, 15, rfl, by simp, fun k e he => ?_, ?_⟩
  · have h6 : k < 6 := (List.getElem?_eq_some_iff.mp he).1
    obtain rfl | rfl | rfl | rfl | rfl | rfl : k = 0 ∨ k = 1 ∨ k = 2 ∨ k = 3 ∨ k = 4 ∨ k = 5 := by omega
    all_goals
      cases he
      exact ⟨_, _, rfl, bare _ _ rfl⟩
  · walk_at "x"
    refine ⟨C_SweepError, none, -1, rfl, hS, ?_⟩
    rw [mset_mset]
    exact q _ _ _
end
def spLaw : SpD := fun ds μ Q => ∃ ns, ds = [.scr ns] ∧ ns.length ≤ 63 ∧ ∀ μ', Q (.bl true) μ'
abbrev s_law : Stmt := top 34
theorem sc_law : FnScope ["script", "lap"] ["script"] (defScope s_law) := ⟨rfl, rfl, rfl, by decide +kernel, rfl, by decide +kernel, by decide +kernel⟩
section
variable {P : Program} {w : World} {K : PySem.W.Frag} {mg : Str → Option Value} {base : Heap}
theorem ok_law  {f : Addr} {fd : FuncData} (F : Fun K "law" "law" s_law f fd) (hm : mg "law" = some (.ref f)) (hb : Binds K fd ["script"] []) (D_law_right : DefOk P w K mg base 6 "_law_right" s_law_right ["vat"] spRight) (D_law_vat : DefOk P w K mg base 1 "_law_vat" s_law_vat ["script", "lap"] spVat) (m_all : mg "all" = none) (m_range : mg "range" = none)  :
    DefOk P w K mg base 7 "law" s_law ["script"] spLaw := by
  refine def_ok F hm hb sc_law (fun ds μ Q h => by first | (obtain ⟨a1, a2, rfl, h⟩ := h; rfl) | (obtain ⟨a1, rfl, h⟩ := h; rfl) | (obtain ⟨a1, a2, a3, rfl, h⟩ := h; rfl) | (obtain ⟨a1, a2, a3, a4, rfl, h⟩ := h; rfl)) _ (fun qual f cdv A fs s H E hgd room => (dss_one (ds_ret (de_callB (cr_all rfl) lift_all rfl m_all (by decide +kernel) (da_cons (de_lc (own := [("lap", 1)]) (g := .nm 1) rfl sc_law.nd (di_rng m_range (da_cons de_int da_nil)) (blkOk_by (by kernel_rfl)) (by decide) (fun _ _ _ _ _ => (pg_name (i := 1) sc_law.nd rfl (Or.inl rfl))) (fun _ _ _ _ _ => dts_nil) (fun _ _ _ _ _ => (de_call hgd D_law_right (room.mono (by decide)) (da_cons (de_call hgd D_law_vat (room.mono (by decide)) (da_cons (de_var 0 (pv 0)) (da_cons (de_var 1 (pv 1)) da_nil))) da_nil)))) da_nil))))) fun ds μ Q h => ?_
  obtain ⟨ns, rfl, hn_, q⟩ := h
  walk_at "x"
  intro Dn hn
  rw [show (List.range (Int.toNat 2)).map (fun i : Nat => D.int (i : Int)) = [.int 0, .int 1] from rfl]
  unfold lcD lcStep
  walk_at "x"
  refine ⟨ns, 0, rfl, by omega, by omega, hn_, fun p z s c hp => ?_⟩
  walk_at "x"
  refine ⟨p, rfl, vat_set, fun z s c => ?_⟩
  have hpD : Dn ≠ p := fun e => by rw [← e, mset_same] at hp; cases hp
  rw [mset_mset]
  refine ⟨[], by rw [mset_ne hpD]; exact mset_same, by decide, ?_⟩
  unfold lcD lcStep
  walk_at "x"
  refine ⟨ns, 1, rfl, by omega, by omega, hn_, fun p2 z s c hp2 => ?_⟩
  walk_at "x"
  refine ⟨p2, rfl, vat_set, fun z s c => ?_⟩
  have hpD2 : Dn ≠ p2 := fun e => by rw [← e, mset_same] at hp2; cases hp2
  rw [mset_mset]
  refine ⟨[.bl true], by rw [mset_ne hpD2]; exact mset_same, by decide, ?_⟩
  unfold lcD
  refine ⟨_, mset_same, ?_⟩
  walk_at "x"
  refine x_all (bs := [true, true]) rfl rfl ?_
  walk_at "x"
  exact q _
end
end K01
-- Kend
set_option maxRecDepth 100000
namespace K01
open PySem PySem.Spec PyProof.Rows L2 DL

def nms : List Str := ["InvalidFraction", "InvalidNumber", "InvalidIndex", "InvalidTable", "InvalidMethod", "InvalidParting", "InvalidFactor", "InvalidShare", "InvalidPolynomial", "InvalidBounds", "InvalidRow", "InvalidAmounts", "InvalidSteps", "InvalidWalls", "InvalidOrder", "NoInverse", "NotSplit", "NotSymmetric", "NotPositive", "NotLevelled", "NotBelow"]
def csOf (K : PySem.W.Frag) : List Addr := nms.map (He.ga K)
def placedB (K : PySem.W.Frag) (cs : List Addr) (CS C : Addr) (at_ : List Nat) : Bool := cs.all (fun c => eqB (PySem.W.kitOne K (.ref C) (.ref c)) (some (decide (c = C)))) && (decide ((List.range 21).filterMap (fun i => if cs.getD i 0 = C then some i else none) = at_) && (excB K C && (eqB (PySem.W.kitOne K (.ref C) (.ref CS)) (some true) &&
  (eqB (PySem.W.kitOne K (.ref C) (.type "ValueError")) (some true) && (eqB (PySem.W.kitOne K (.ref C) (.type "LookupError")) (some false) && (eqB (PySem.W.kitOne K (.ref C) (.type "ArithmeticError")) (some false) && (eqB (PySem.W.kitOne K (.ref C) (.type "TypeError")) (some false) && eqB (PySem.W.kitOne K (.ref C) (.type "RuntimeError")) (some false))))))))
theorem placed_of {K : PySem.W.Frag} {cs : List Addr} {CS C : Addr} {at_ : List Nat} {a : Int} (n : cs.length = 21) (h : placedB K cs CS C at_ = true) (ha : at_.map (fun i : Nat => D.int (i : Int)) = if 0 ≤ a then [.int a] else []) : Placed K cs CS C a := by
  obtain ⟨h1, h⟩ := He.ba h
  obtain ⟨h2, h⟩ := He.ba h
  obtain ⟨h3, h⟩ := He.ba h
  obtain ⟨h4, h⟩ := He.ba h
  obtain ⟨h5, h⟩ := He.ba h
  obtain ⟨h6, h⟩ := He.ba h
  obtain ⟨h7, h⟩ := He.ba h
  obtain ⟨h8, h9⟩ := He.ba h
  refine ⟨excB_ok h3, n, ⟨fun c => decide (c = C), fun c hc => eqB_ok (List.all_eq_true.mp h1 c hc), ?_⟩, eqB_ok h4, eqB_ok h5, eqB_ok h6, eqB_ok h7, eqB_ok h8, eqB_ok h9⟩
  rw [← ha, ← of_decide_eq_true h2, List.map_filterMap, List.filterMap_map]
  refine congrArg (fun f => List.filterMap f (List.range 21)) (funext fun i => ?_)
  show (if decide (cs.getD (Int.toNat (i : Int)) 0 = C) = true then some (D.int i) else none) = (if cs.getD i 0 = C then some i else none).map _
  rw [Int.toNat_natCast]
  by_cases e : cs.getD i 0 = C
  · rw [if_pos e, if_pos (decide_eq_true e)]
    rfl
  · rw [if_neg e, if_neg (by simpa using e)]
    rfl
def placedAll (K : PySem.W.Frag) : Bool := placedB K (csOf K) (He.ga K "SweepError") (He.ga K "SweepError") [] && (List.range 21).all fun j => placedB K (csOf K) (He.ga K "SweepError") ((csOf K).getD j 0) [j]
def fx (K : PySem.W.Frag) : List Bool := [eclB K "InvalidFraction" "given", eclB K "InvalidNumber" "given", eclB K "InvalidIndex" "given", eclB K "InvalidTable" "given", eclB K "InvalidMethod" "given", eclB K "InvalidParting" "given", eclB K "InvalidFactor" "given", eclB K "InvalidShare" "given", eclB K "InvalidPolynomial" "given", eclB K "InvalidBounds" "given", eclB K "InvalidRow" "index", eclB K "InvalidAmounts" "index", eclB K "InvalidSteps" "index", eclB K "InvalidWalls" "index", eclB K "InvalidOrder" "index", bclB K "SweepError", bclB K "NoInverse", bclB K "NotSplit", bclB K "NotSymmetric", bclB K "NotPositive", bclB K "NotLevelled", bclB K "NotBelow", freeB K "ArithmeticError", freeB K "LookupError", freeB K "RuntimeError", freeB K "TypeError", freeB K "ValueError", freeB K "abs", freeB K "all", freeB K "divmod", freeB K "int", freeB K "isinstance", freeB K "len", freeB K "range", freeB K "repr", freeB K "sum", gloB K "_law_cup", gloB K "_law_one_of", gloB K "_law_vat", gloB K "_law_thing", gloB K "_law_keepers", gloB K "_law_pointers", gloB K "_law_classes", gloB K "_law_is_placed", gloB K "_law_are_placed", gloB K "_law_right", gloB K "law", fnB K ("_law_cup", none) "_law_cup", fnB K ("_law_one_of", none) "_law_one_of", fnB K ("_law_vat", none) "_law_vat", fnB K ("_law_thing", none) "_law_thing", fnB K ("_law_keepers", none) "_law_keepers", fnB K ("_law_pointers", none) "_law_pointers", fnB K ("_law_classes", none) "_law_classes", fnB K ("_law_is_placed", none) "_law_is_placed", fnB K ("_law_are_placed", none) "_law_are_placed", fnB K ("_law_right", none) "_law_right", fnB K ("law", none) "law", fnB K ("InvalidFraction", some "__init__") "InvalidFraction.__init__", fnB K ("InvalidNumber", some "__init__") "InvalidNumber.__init__", fnB K ("InvalidIndex", some "__init__") "InvalidIndex.__init__", fnB K ("InvalidTable", some "__init__") "InvalidTable.__init__", fnB K ("InvalidMethod", some "__init__") "InvalidMethod.__init__", fnB K ("InvalidParting", some "__init__") "InvalidParting.__init__", fnB K ("InvalidFactor", some "__init__") "InvalidFactor.__init__", fnB K ("InvalidShare", some "__init__") "InvalidShare.__init__", fnB K ("InvalidPolynomial", some "__init__") "InvalidPolynomial.__init__", fnB K ("InvalidBounds", some "__init__") "InvalidBounds.__init__", fnB K ("InvalidRow", some "__init__") "InvalidRow.__init__", fnB K ("InvalidAmounts", some "__init__") "InvalidAmounts.__init__", fnB K ("InvalidSteps", some "__init__") "InvalidSteps.__init__", fnB K ("InvalidWalls", some "__init__") "InvalidWalls.__init__", fnB K ("InvalidOrder", some "__init__") "InvalidOrder.__init__", placedAll K]
theorem bit {l : List Bool} (h : l.all id = true) {i : Nat} {b : Bool} (e : l[i]? = some b) : b = true := List.all_eq_true.mp h b (List.mem_of_getElem? e)
theorem g_InvalidFraction {P : Program} {w : World} {K : PySem.W.Frag} {mg : Str → Option Value} {base : Heap} {fI : Addr} {fd : FuncData} (F : Fun K "__init__" "InvalidFraction.__init__" (inClass (top 2) 0) fI fd) : FnG P w K mg base CX0 1 fI fd [("self" : Str), "given"] (spI K "given") := by
  refine init_ok F ⟨rfl, rfl, rfl, by decide +kernel, rfl, by decide +kernel, by decide +kernel⟩ fun X hK hN hS => ?_
  subst hK
  exact pss_one (ps_ost (pv 0 (by rw [hN]; rfl) (Or.inl (by rw [hS]; rfl))) (pv 1 (by rw [hN]; rfl) (Or.inl (by rw [hS]; rfl))))
theorem g_InvalidNumber {P : Program} {w : World} {K : PySem.W.Frag} {mg : Str → Option Value} {base : Heap} {fI : Addr} {fd : FuncData} (F : Fun K "__init__" "InvalidNumber.__init__" (inClass (top 3) 0) fI fd) : FnG P w K mg base CX0 1 fI fd [("self" : Str), "given"] (spI K "given") := by
  refine init_ok F ⟨rfl, rfl, rfl, by decide +kernel, rfl, by decide +kernel, by decide +kernel⟩ fun X hK hN hS => ?_
  subst hK
  exact pss_one (ps_ost (pv 0 (by rw [hN]; rfl) (Or.inl (by rw [hS]; rfl))) (pv 1 (by rw [hN]; rfl) (Or.inl (by rw [hS]; rfl))))
theorem g_InvalidIndex {P : Program} {w : World} {K : PySem.W.Frag} {mg : Str → Option Value} {base : Heap} {fI : Addr} {fd : FuncData} (F : Fun K "__init__" "InvalidIndex.__init__" (inClass (top 4) 0) fI fd) : FnG P w K mg base CX0 1 fI fd [("self" : Str), "given"] (spI K "given") := by
  refine init_ok F ⟨rfl, rfl, rfl, by decide +kernel, rfl, by decide +kernel, by decide +kernel⟩ fun X hK hN hS => ?_
  subst hK
  exact pss_one (ps_ost (pv 0 (by rw [hN]; rfl) (Or.inl (by rw [hS]; rfl))) (pv 1 (by rw [hN]; rfl) (Or.inl (by rw [hS]; rfl))))
theorem g_InvalidTable {P : Program} {w : World} {K : PySem.W.Frag} {mg : Str → Option Value} {base : Heap} {fI : Addr} {fd : FuncData} (F : Fun K "__init__" "InvalidTable.__init__" (inClass (top 5) 0) fI fd) : FnG P w K mg base CX0 1 fI fd [("self" : Str), "given"] (spI K "given") := by
  refine init_ok F ⟨rfl, rfl, rfl, by decide +kernel, rfl, by decide +kernel, by decide +kernel⟩ fun X hK hN hS => ?_
  subst hK
  exact pss_one (ps_ost (pv 0 (by rw [hN]; rfl) (Or.inl (by rw [hS]; rfl))) (pv 1 (by rw [hN]; rfl) (Or.inl (by rw [hS]; rfl))))
theorem g_InvalidMethod {P : Program} {w : World} {K : PySem.W.Frag} {mg : Str → Option Value} {base : Heap} {fI : Addr} {fd : FuncData} (F : Fun K "__init__" "InvalidMethod.__init__" (inClass (top 6) 0) fI fd) : FnG P w K mg base CX0 1 fI fd [("self" : Str), "given"] (spI K "given") := by
  refine init_ok F ⟨rfl, rfl, rfl, by decide +kernel, rfl, by decide +kernel, by decide +kernel⟩ fun X hK hN hS => ?_
  subst hK
  exact pss_one (ps_ost (pv 0 (by rw [hN]; rfl) (Or.inl (by rw [hS]; rfl))) (pv 1 (by rw [hN]; rfl) (Or.inl (by rw [hS]; rfl))))
theorem g_InvalidParting {P : Program} {w : World} {K : PySem.W.Frag} {mg : Str → Option Value} {base : Heap} {fI : Addr} {fd : FuncData} (F : Fun K "__init__" "InvalidParting.__init__" (inClass (top 7) 0) fI fd) : FnG P w K mg base CX0 1 fI fd [("self" : Str), "given"] (spI K "given") := by
  refine init_ok F ⟨rfl, rfl, rfl, by decide +kernel, rfl, by decide +kernel, by decide +kernel⟩ fun X hK hN hS => ?_
  subst hK
  exact pss_one (ps_ost (pv 0 (by rw [hN]; rfl) (Or.inl (by rw [hS]; rfl))) (pv 1 (by rw [hN]; rfl) (Or.inl (by rw [hS]; rfl))))
theorem g_InvalidFactor {P : Program} {w : World} {K : PySem.W.Frag} {mg : Str → Option Value} {base : Heap} {fI : Addr} {fd : FuncData} (F : Fun K "__init__" "InvalidFactor.__init__" (inClass (top 8) 0) fI fd) : FnG P w K mg base CX0 1 fI fd [("self" : Str), "given"] (spI K "given") := by
  refine init_ok F ⟨rfl, rfl, rfl, by decide +kernel, rfl, by decide +kernel, by decide +kernel⟩ fun X hK hN hS => ?_
  subst hK
  exact pss_one (ps_ost (pv 0 (by rw [hN]; rfl) (Or.inl (by rw [hS]; rfl))) (pv 1 (by rw [hN]; rfl) (Or.inl (by rw [hS]; rfl))))
theorem g_InvalidShare {P : Program} {w : World} {K : PySem.W.Frag} {mg : Str → Option Value} {base : Heap} {fI : Addr} {fd : FuncData} (F : Fun K "__init__" "InvalidShare.__init__" (inClass (top 9) 0) fI fd) : FnG P w K mg base CX0 1 fI fd [("self" : Str), "given"] (spI K "given") := by
  refine init_ok F ⟨rfl, rfl, rfl, by decide +kernel, rfl, by decide +kernel, by decide +kernel⟩ fun X hK hN hS => ?_
  subst hK
  exact pss_one (ps_ost (pv 0 (by rw [hN]; rfl) (Or.inl (by rw [hS]; rfl))) (pv 1 (by rw [hN]; rfl) (Or.inl (by rw [hS]; rfl))))
theorem g_InvalidPolynomial {P : Program} {w : World} {K : PySem.W.Frag} {mg : Str → Option Value} {base : Heap} {fI : Addr} {fd : FuncData} (F : Fun K "__init__" "InvalidPolynomial.__init__" (inClass (top 10) 0) fI fd) : FnG P w K mg base CX0 1 fI fd [("self" : Str), "given"] (spI K "given") := by
  refine init_ok F ⟨rfl, rfl, rfl, by decide +kernel, rfl, by decide +kernel, by decide +kernel⟩ fun X hK hN hS => ?_
  subst hK
  exact pss_one (ps_ost (pv 0 (by rw [hN]; rfl) (Or.inl (by rw [hS]; rfl))) (pv 1 (by rw [hN]; rfl) (Or.inl (by rw [hS]; rfl))))
theorem g_InvalidBounds {P : Program} {w : World} {K : PySem.W.Frag} {mg : Str → Option Value} {base : Heap} {fI : Addr} {fd : FuncData} (F : Fun K "__init__" "InvalidBounds.__init__" (inClass (top 11) 0) fI fd) : FnG P w K mg base CX0 1 fI fd [("self" : Str), "given"] (spI K "given") := by
  refine init_ok F ⟨rfl, rfl, rfl, by decide +kernel, rfl, by decide +kernel, by decide +kernel⟩ fun X hK hN hS => ?_
  subst hK
  exact pss_one (ps_ost (pv 0 (by rw [hN]; rfl) (Or.inl (by rw [hS]; rfl))) (pv 1 (by rw [hN]; rfl) (Or.inl (by rw [hS]; rfl))))
theorem g_InvalidRow {P : Program} {w : World} {K : PySem.W.Frag} {mg : Str → Option Value} {base : Heap} {fI : Addr} {fd : FuncData} (F : Fun K "__init__" "InvalidRow.__init__" (inClass (top 12) 0) fI fd) : FnG P w K mg base CX0 1 fI fd [("self" : Str), "index"] (spI K "index") := by
  refine init_ok F ⟨rfl, rfl, rfl, by decide +kernel, rfl, by decide +kernel, by decide +kernel⟩ fun X hK hN hS => ?_
  subst hK
  exact pss_one (ps_ost (pv 0 (by rw [hN]; rfl) (Or.inl (by rw [hS]; rfl))) (pv 1 (by rw [hN]; rfl) (Or.inl (by rw [hS]; rfl))))
theorem g_InvalidAmounts {P : Program} {w : World} {K : PySem.W.Frag} {mg : Str → Option Value} {base : Heap} {fI : Addr} {fd : FuncData} (F : Fun K "__init__" "InvalidAmounts.__init__" (inClass (top 13) 0) fI fd) : FnG P w K mg base CX0 1 fI fd [("self" : Str), "index"] (spI K "index") := by
  refine init_ok F ⟨rfl, rfl, rfl, by decide +kernel, rfl, by decide +kernel, by decide +kernel⟩ fun X hK hN hS => ?_
  subst hK
  exact pss_one (ps_ost (pv 0 (by rw [hN]; rfl) (Or.inl (by rw [hS]; rfl))) (pv 1 (by rw [hN]; rfl) (Or.inl (by rw [hS]; rfl))))
theorem g_InvalidSteps {P : Program} {w : World} {K : PySem.W.Frag} {mg : Str → Option Value} {base : Heap} {fI : Addr} {fd : FuncData} (F : Fun K "__init__" "InvalidSteps.__init__" (inClass (top 14) 0) fI fd) : FnG P w K mg base CX0 1 fI fd [("self" : Str), "index"] (spI K "index") := by
  refine init_ok F ⟨rfl, rfl, rfl, by decide +kernel, rfl, by decide +kernel, by decide +kernel⟩ fun X hK hN hS => ?_
  subst hK
  exact pss_one (ps_ost (pv 0 (by rw [hN]; rfl) (Or.inl (by rw [hS]; rfl))) (pv 1 (by rw [hN]; rfl) (Or.inl (by rw [hS]; rfl))))
theorem g_InvalidWalls {P : Program} {w : World} {K : PySem.W.Frag} {mg : Str → Option Value} {base : Heap} {fI : Addr} {fd : FuncData} (F : Fun K "__init__" "InvalidWalls.__init__" (inClass (top 15) 0) fI fd) : FnG P w K mg base CX0 1 fI fd [("self" : Str), "index"] (spI K "index") := by
  refine init_ok F ⟨rfl, rfl, rfl, by decide +kernel, rfl, by decide +kernel, by decide +kernel⟩ fun X hK hN hS => ?_
  subst hK
  exact pss_one (ps_ost (pv 0 (by rw [hN]; rfl) (Or.inl (by rw [hS]; rfl))) (pv 1 (by rw [hN]; rfl) (Or.inl (by rw [hS]; rfl))))
theorem g_InvalidOrder {P : Program} {w : World} {K : PySem.W.Frag} {mg : Str → Option Value} {base : Heap} {fI : Addr} {fd : FuncData} (F : Fun K "__init__" "InvalidOrder.__init__" (inClass (top 16) 0) fI fd) : FnG P w K mg base CX0 1 fI fd [("self" : Str), "index"] (spI K "index") := by
  refine init_ok F ⟨rfl, rfl, rfl, by decide +kernel, rfl, by decide +kernel, by decide +kernel⟩ fun X hK hN hS => ?_
  subst hK
  exact pss_one (ps_ost (pv 0 (by rw [hN]; rfl) (Or.inl (by rw [hS]; rfl))) (pv 1 (by rw [hN]; rfl) (Or.inl (by rw [hS]; rfl))))
set_option maxHeartbeats 0 in
theorem all_mk {P : Program} {w : World} {K : PySem.W.Frag} {h : Heap} {mg : Str → Option Value} (X : K.In h) (G : h.Ns mainGlobals mg) (c : (fx K).all id = true)
    (e_law_cup : He.fnObs K ("_law_cup", none) = fnV "_law_cup" "_law_cup" s_law_cup)
    (e_law_one_of : He.fnObs K ("_law_one_of", none) = fnV "_law_one_of" "_law_one_of" s_law_one_of)
    (e_law_vat : He.fnObs K ("_law_vat", none) = fnV "_law_vat" "_law_vat" s_law_vat)
    (e_law_thing : He.fnObs K ("_law_thing", none) = fnV "_law_thing" "_law_thing" s_law_thing)
    (e_law_keepers : He.fnObs K ("_law_keepers", none) = fnV "_law_keepers" "_law_keepers" s_law_keepers)
    (e_law_pointers : He.fnObs K ("_law_pointers", none) = fnV "_law_pointers" "_law_pointers" s_law_pointers)
    (e_law_classes : He.fnObs K ("_law_classes", none) = fnV "_law_classes" "_law_classes" s_law_classes)
    (e_law_is_placed : He.fnObs K ("_law_is_placed", none) = fnV "_law_is_placed" "_law_is_placed" s_law_is_placed)
    (e_law_are_placed : He.fnObs K ("_law_are_placed", none) = fnV "_law_are_placed" "_law_are_placed" s_law_are_placed)
    (e_law_right : He.fnObs K ("_law_right", none) = fnV "_law_right" "_law_right" s_law_right)
    (elaw : He.fnObs K ("law", none) = fnV "law" "law" s_law)
    (eiInvalidFraction : He.fnObs K ("InvalidFraction", some "__init__") = fnV "__init__" "InvalidFraction.__init__" (inClass (top 2) 0))
    (eiInvalidNumber : He.fnObs K ("InvalidNumber", some "__init__") = fnV "__init__" "InvalidNumber.__init__" (inClass (top 3) 0))
    (eiInvalidIndex : He.fnObs K ("InvalidIndex", some "__init__") = fnV "__init__" "InvalidIndex.__init__" (inClass (top 4) 0))
    (eiInvalidTable : He.fnObs K ("InvalidTable", some "__init__") = fnV "__init__" "InvalidTable.__init__" (inClass (top 5) 0))
    (eiInvalidMethod : He.fnObs K ("InvalidMethod", some "__init__") = fnV "__init__" "InvalidMethod.__init__" (inClass (top 6) 0))
    (eiInvalidParting : He.fnObs K ("InvalidParting", some "__init__") = fnV "__init__" "InvalidParting.__init__" (inClass (top 7) 0))
    (eiInvalidFactor : He.fnObs K ("InvalidFactor", some "__init__") = fnV "__init__" "InvalidFactor.__init__" (inClass (top 8) 0))
    (eiInvalidShare : He.fnObs K ("InvalidShare", some "__init__") = fnV "__init__" "InvalidShare.__init__" (inClass (top 9) 0))
    (eiInvalidPolynomial : He.fnObs K ("InvalidPolynomial", some "__init__") = fnV "__init__" "InvalidPolynomial.__init__" (inClass (top 10) 0))
    (eiInvalidBounds : He.fnObs K ("InvalidBounds", some "__init__") = fnV "__init__" "InvalidBounds.__init__" (inClass (top 11) 0))
    (eiInvalidRow : He.fnObs K ("InvalidRow", some "__init__") = fnV "__init__" "InvalidRow.__init__" (inClass (top 12) 0))
    (eiInvalidAmounts : He.fnObs K ("InvalidAmounts", some "__init__") = fnV "__init__" "InvalidAmounts.__init__" (inClass (top 13) 0))
    (eiInvalidSteps : He.fnObs K ("InvalidSteps", some "__init__") = fnV "__init__" "InvalidSteps.__init__" (inClass (top 14) 0))
    (eiInvalidWalls : He.fnObs K ("InvalidWalls", some "__init__") = fnV "__init__" "InvalidWalls.__init__" (inClass (top 15) 0))
    (eiInvalidOrder : He.fnObs K ("InvalidOrder", some "__init__") = fnV "__init__" "InvalidOrder.__init__" (inClass (top 16) 0)) :
    mg "law" = some (.ref (He.ga K "law")) ∧ ∀ base : Heap, K.In base → base.Ns mainGlobals mg → DefOk P w K mg base 7 "law" s_law ["script"] spLaw := by
  refine ⟨glo_ok X G (bit c (i := 46) rfl), fun base _ _ => ?_⟩
  have T_InvalidFraction := eclB_ok X G (bit c (i := 0) rfl)
  obtain ⟨v1, v2, v3, v4, v5, v6, F_InvalidFraction⟩ := fn_of eiInvalidFraction (bit c (i := 58) rfl)
  have G_InvalidFraction := g_InvalidFraction (P := P) (w := w) (mg := mg) (base := base) F_InvalidFraction
  have B1_InvalidFraction : ∀ (a : Addr) (u : Value) (s' : Shared), BindsTo s' _ ⟨[.ref a, u], []⟩ [("self", .ref a), ("given", u)] := fun a u s' => BindsTo.of_eq (fd := PySem.W.fnOf "__init__" "InvalidFraction.__init__" (defArgs (inClass (top 2) 0)) (defBody (inClass (top 2) 0)) (defScope (inClass (top 2) 0)) .none v1 v2 v3 v4 v5 v6) rfl
  have B2_InvalidFraction : ∀ (a : Addr) (u : Value) (s' : Shared), BindsTo s' _ ⟨[.ref a], [("given", u)]⟩ [("self", .ref a), ("given", u)] := fun a u s' => BindsTo.of_eq (fd := PySem.W.fnOf "__init__" "InvalidFraction.__init__" (defArgs (inClass (top 2) 0)) (defBody (inClass (top 2) 0)) (defScope (inClass (top 2) 0)) .none v1 v2 v3 v4 v5 v6) rfl
  have T_InvalidNumber := eclB_ok X G (bit c (i := 1) rfl)
  obtain ⟨v1, v2, v3, v4, v5, v6, F_InvalidNumber⟩ := fn_of eiInvalidNumber (bit c (i := 59) rfl)
  have G_InvalidNumber := g_InvalidNumber (P := P) (w := w) (mg := mg) (base := base) F_InvalidNumber
  have B1_InvalidNumber : ∀ (a : Addr) (u : Value) (s' : Shared), BindsTo s' _ ⟨[.ref a, u], []⟩ [("self", .ref a), ("given", u)] := fun a u s' => BindsTo.of_eq (fd := PySem.W.fnOf "__init__" "InvalidNumber.__init__" (defArgs (inClass (top 3) 0)) (defBody (inClass (top 3) 0)) (defScope (inClass (top 3) 0)) .none v1 v2 v3 v4 v5 v6) rfl
  have B2_InvalidNumber : ∀ (a : Addr) (u : Value) (s' : Shared), BindsTo s' _ ⟨[.ref a], [("given", u)]⟩ [("self", .ref a), ("given", u)] := fun a u s' => BindsTo.of_eq (fd := PySem.W.fnOf "__init__" "InvalidNumber.__init__" (defArgs (inClass (top 3) 0)) (defBody (inClass (top 3) 0)) (defScope (inClass (top 3) 0)) .none v1 v2 v3 v4 v5 v6) rfl
  have T_InvalidIndex := eclB_ok X G (bit c (i := 2) rfl)
  obtain ⟨v1, v2, v3, v4, v5, v6, F_InvalidIndex⟩ := fn_of eiInvalidIndex (bit c (i := 60) rfl)
  have G_InvalidIndex := g_InvalidIndex (P := P) (w := w) (mg := mg) (base := base) F_InvalidIndex
  have B1_InvalidIndex : ∀ (a : Addr) (u : Value) (s' : Shared), BindsTo s' _ ⟨[.ref a, u], []⟩ [("self", .ref a), ("given", u)] := fun a u s' => BindsTo.of_eq (fd := PySem.W.fnOf "__init__" "InvalidIndex.__init__" (defArgs (inClass (top 4) 0)) (defBody (inClass (top 4) 0)) (defScope (inClass (top 4) 0)) .none v1 v2 v3 v4 v5 v6) rfl
  have B2_InvalidIndex : ∀ (a : Addr) (u : Value) (s' : Shared), BindsTo s' _ ⟨[.ref a], [("given", u)]⟩ [("self", .ref a), ("given", u)] := fun a u s' => BindsTo.of_eq (fd := PySem.W.fnOf "__init__" "InvalidIndex.__init__" (defArgs (inClass (top 4) 0)) (defBody (inClass (top 4) 0)) (defScope (inClass (top 4) 0)) .none v1 v2 v3 v4 v5 v6) rfl
  have T_InvalidTable := eclB_ok X G (bit c (i := 3) rfl)
  obtain ⟨v1, v2, v3, v4, v5, v6, F_InvalidTable⟩ := fn_of eiInvalidTable (bit c (i := 61) rfl)
  have G_InvalidTable := g_InvalidTable (P := P) (w := w) (mg := mg) (base := base) F_InvalidTable
  have B1_InvalidTable : ∀ (a : Addr) (u : Value) (s' : Shared), BindsTo s' _ ⟨[.ref a, u], []⟩ [("self", .ref a), ("given", u)] := fun a u s' => BindsTo.of_eq (fd := PySem.W.fnOf "__init__" "InvalidTable.__init__" (defArgs (inClass (top 5) 0)) (defBody (inClass (top 5) 0)) (defScope (inClass (top 5) 0)) .none v1 v2 v3 v4 v5 v6) rfl
  have B2_InvalidTable : ∀ (a : Addr) (u : Value) (s' : Shared), BindsTo s' _ ⟨[.ref a], [("given", u)]⟩ [("self", .ref a), ("given", u)] := fun a u s' => BindsTo.of_eq (fd := PySem.W.fnOf "__init__" "InvalidTable.__init__" (defArgs (inClass (top 5) 0)) (defBody (inClass (top 5) 0)) (defScope (inClass (top 5) 0)) .none v1 v2 v3 v4 v5 v6) rfl
  have T_InvalidMethod := eclB_ok X G (bit c (i := 4) rfl)
  obtain ⟨v1, v2, v3, v4, v5, v6, F_InvalidMethod⟩ := fn_of eiInvalidMethod (bit c (i := 62) rfl)
  have G_InvalidMethod := g_InvalidMethod (P := P) (w := w) (mg := mg) (base := base) F_InvalidMethod
  have B1_InvalidMethod : ∀ (a : Addr) (u : Value) (s' : Shared), BindsTo s' _ ⟨[.ref a, u], []⟩ [("self", .ref a), ("given", u)] := fun a u s' => BindsTo.of_eq (fd := PySem.W.fnOf "__init__" "InvalidMethod.__init__" (defArgs (inClass (top 6) 0)) (defBody (inClass (top 6) 0)) (defScope (inClass (top 6) 0)) .none v1 v2 v3 v4 v5 v6) rfl
  have B2_InvalidMethod : ∀ (a : Addr) (u : Value) (s' : Shared), BindsTo s' _ ⟨[.ref a], [("given", u)]⟩ [("self", .ref a), ("given", u)] := fun a u s' => BindsTo.of_eq (fd := PySem.W.fnOf "__init__" "InvalidMethod.__init__" (defArgs (inClass (top 6) 0)) (defBody (inClass (top 6) 0)) (defScope (inClass (top 6) 0)) .none v1 v2 v3 v4 v5 v6) rfl
  have T_InvalidParting := eclB_ok X G (bit c (i := 5) rfl)
  obtain ⟨v1, v2, v3, v4, v5, v6, F_InvalidParting⟩ := fn_of eiInvalidParting (bit c (i := 63) rfl)
  have G_InvalidParting := g_InvalidParting (P := P) (w := w) (mg := mg) (base := base) F_InvalidParting
  have B1_InvalidParting : ∀ (a : Addr) (u : Value) (s' : Shared), BindsTo s' _ ⟨[.ref a, u], []⟩ [("self", .ref a), ("given", u)] := fun a u s' => BindsTo.of_eq (fd := PySem.W.fnOf "__init__" "InvalidParting.__init__" (defArgs (inClass (top 7) 0)) (defBody (inClass (top 7) 0)) (defScope (inClass (top 7) 0)) .none v1 v2 v3 v4 v5 v6) rfl
  have B2_InvalidParting : ∀ (a : Addr) (u : Value) (s' : Shared), BindsTo s' _ ⟨[.ref a], [("given", u)]⟩ [("self", .ref a), ("given", u)] := fun a u s' => BindsTo.of_eq (fd := PySem.W.fnOf "__init__" "InvalidParting.__init__" (defArgs (inClass (top 7) 0)) (defBody (inClass (top 7) 0)) (defScope (inClass (top 7) 0)) .none v1 v2 v3 v4 v5 v6) rfl
  have T_InvalidFactor := eclB_ok X G (bit c (i := 6) rfl)
  obtain ⟨v1, v2, v3, v4, v5, v6, F_InvalidFactor⟩ := fn_of eiInvalidFactor (bit c (i := 64) rfl)
  have G_InvalidFactor := g_InvalidFactor (P := P) (w := w) (mg := mg) (base := base) F_InvalidFactor
  have B1_InvalidFactor : ∀ (a : Addr) (u : Value) (s' : Shared), BindsTo s' _ ⟨[.ref a, u], []⟩ [("self", .ref a), ("given", u)] := fun a u s' => BindsTo.of_eq (fd := PySem.W.fnOf "__init__" "InvalidFactor.__init__" (defArgs (inClass (top 8) 0)) (defBody (inClass (top 8) 0)) (defScope (inClass (top 8) 0)) .none v1 v2 v3 v4 v5 v6) rfl
  have B2_InvalidFactor : ∀ (a : Addr) (u : Value) (s' : Shared), BindsTo s' _ ⟨[.ref a], [("given", u)]⟩ [("self", .ref a), ("given", u)] := fun a u s' => BindsTo.of_eq (fd := PySem.W.fnOf "__init__" "InvalidFactor.__init__" (defArgs (inClass (top 8) 0)) (defBody (inClass (top 8) 0)) (defScope (inClass (top 8) 0)) .none v1 v2 v3 v4 v5 v6) rfl
  have T_InvalidShare := eclB_ok X G (bit c (i := 7) rfl)
  obtain ⟨v1, v2, v3, v4, v5, v6, F_InvalidShare⟩ := fn_of eiInvalidShare (bit c (i := 65) rfl)
  have G_InvalidShare := g_InvalidShare (P := P) (w := w) (mg := mg) (base := base) F_InvalidShare
  have B1_InvalidShare : ∀ (a : Addr) (u : Value) (s' : Shared), BindsTo s' _ ⟨[.ref a, u], []⟩ [("self", .ref a), ("given", u)] := fun a u s' => BindsTo.of_eq (fd := PySem.W.fnOf "__init__" "InvalidShare.__init__" (defArgs (inClass (top 9) 0)) (defBody (inClass (top 9) 0)) (defScope (inClass (top 9) 0)) .none v1 v2 v3 v4 v5 v6) rfl
  have B2_InvalidShare : ∀ (a : Addr) (u : Value) (s' : Shared), BindsTo s' _ ⟨[.ref a], [("given", u)]⟩ [("self", .ref a), ("given", u)] := fun a u s' => BindsTo.of_eq (fd := PySem.W.fnOf "__init__" "InvalidShare.__init__" (defArgs (inClass (top 9) 0)) (defBody (inClass (top 9) 0)) (defScope (inClass (top 9) 0)) .none v1 v2 v3 v4 v5 v6) rfl
  have T_InvalidPolynomial := eclB_ok X G (bit c (i := 8) rfl)
  obtain ⟨v1, v2, v3, v4, v5, v6, F_InvalidPolynomial⟩ := fn_of eiInvalidPolynomial (bit c (i := 66) rfl)
  have G_InvalidPolynomial := g_InvalidPolynomial (P := P) (w := w) (mg := mg) (base := base) F_InvalidPolynomial
  have B1_InvalidPolynomial : ∀ (a : Addr) (u : Value) (s' : Shared), BindsTo s' _ ⟨[.ref a, u], []⟩ [("self", .ref a), ("given", u)] := fun a u s' => BindsTo.of_eq (fd := PySem.W.fnOf "__init__" "InvalidPolynomial.__init__" (defArgs (inClass (top 10) 0)) (defBody (inClass (top 10) 0)) (defScope (inClass (top 10) 0)) .none v1 v2 v3 v4 v5 v6) rfl
  have B2_InvalidPolynomial : ∀ (a : Addr) (u : Value) (s' : Shared), BindsTo s' _ ⟨[.ref a], [("given", u)]⟩ [("self", .ref a), ("given", u)] := fun a u s' => BindsTo.of_eq (fd := PySem.W.fnOf "__init__" "InvalidPolynomial.__init__" (defArgs (inClass (top 10) 0)) (defBody (inClass (top 10) 0)) (defScope (inClass (top 10) 0)) .none v1 v2 v3 v4 v5 v6) rfl
  have T_InvalidBounds := eclB_ok X G (bit c (i := 9) rfl)
  obtain ⟨v1, v2, v3, v4, v5, v6, F_InvalidBounds⟩ := fn_of eiInvalidBounds (bit c (i := 67) rfl)
  have G_InvalidBounds := g_InvalidBounds (P := P) (w := w) (mg := mg) (base := base) F_InvalidBounds
  have B1_InvalidBounds : ∀ (a : Addr) (u : Value) (s' : Shared), BindsTo s' _ ⟨[.ref a, u], []⟩ [("self", .ref a), ("given", u)] := fun a u s' => BindsTo.of_eq (fd := PySem.W.fnOf "__init__" "InvalidBounds.__init__" (defArgs (inClass (top 11) 0)) (defBody (inClass (top 11) 0)) (defScope (inClass (top 11) 0)) .none v1 v2 v3 v4 v5 v6) rfl
  have B2_InvalidBounds : ∀ (a : Addr) (u : Value) (s' : Shared), BindsTo s' _ ⟨[.ref a], [("given", u)]⟩ [("self", .ref a), ("given", u)] := fun a u s' => BindsTo.of_eq (fd := PySem.W.fnOf "__init__" "InvalidBounds.__init__" (defArgs (inClass (top 11) 0)) (defBody (inClass (top 11) 0)) (defScope (inClass (top 11) 0)) .none v1 v2 v3 v4 v5 v6) rfl
  have T_InvalidRow := eclB_ok X G (bit c (i := 10) rfl)
  obtain ⟨v1, v2, v3, v4, v5, v6, F_InvalidRow⟩ := fn_of eiInvalidRow (bit c (i := 68) rfl)
  have G_InvalidRow := g_InvalidRow (P := P) (w := w) (mg := mg) (base := base) F_InvalidRow
  have B1_InvalidRow : ∀ (a : Addr) (u : Value) (s' : Shared), BindsTo s' _ ⟨[.ref a, u], []⟩ [("self", .ref a), ("index", u)] := fun a u s' => BindsTo.of_eq (fd := PySem.W.fnOf "__init__" "InvalidRow.__init__" (defArgs (inClass (top 12) 0)) (defBody (inClass (top 12) 0)) (defScope (inClass (top 12) 0)) .none v1 v2 v3 v4 v5 v6) rfl
  have B2_InvalidRow : ∀ (a : Addr) (u : Value) (s' : Shared), BindsTo s' _ ⟨[.ref a], [("index", u)]⟩ [("self", .ref a), ("index", u)] := fun a u s' => BindsTo.of_eq (fd := PySem.W.fnOf "__init__" "InvalidRow.__init__" (defArgs (inClass (top 12) 0)) (defBody (inClass (top 12) 0)) (defScope (inClass (top 12) 0)) .none v1 v2 v3 v4 v5 v6) rfl
  have T_InvalidAmounts := eclB_ok X G (bit c (i := 11) rfl)
  obtain ⟨v1, v2, v3, v4, v5, v6, F_InvalidAmounts⟩ := fn_of eiInvalidAmounts (bit c (i := 69) rfl)
  have G_InvalidAmounts := g_InvalidAmounts (P := P) (w := w) (mg := mg) (base := base) F_InvalidAmounts
  have B1_InvalidAmounts : ∀ (a : Addr) (u : Value) (s' : Shared), BindsTo s' _ ⟨[.ref a, u], []⟩ [("self", .ref a), ("index", u)] := fun a u s' => BindsTo.of_eq (fd := PySem.W.fnOf "__init__" "InvalidAmounts.__init__" (defArgs (inClass (top 13) 0)) (defBody (inClass (top 13) 0)) (defScope (inClass (top 13) 0)) .none v1 v2 v3 v4 v5 v6) rfl
  have B2_InvalidAmounts : ∀ (a : Addr) (u : Value) (s' : Shared), BindsTo s' _ ⟨[.ref a], [("index", u)]⟩ [("self", .ref a), ("index", u)] := fun a u s' => BindsTo.of_eq (fd := PySem.W.fnOf "__init__" "InvalidAmounts.__init__" (defArgs (inClass (top 13) 0)) (defBody (inClass (top 13) 0)) (defScope (inClass (top 13) 0)) .none v1 v2 v3 v4 v5 v6) rfl
  have T_InvalidSteps := eclB_ok X G (bit c (i := 12) rfl)
  obtain ⟨v1, v2, v3, v4, v5, v6, F_InvalidSteps⟩ := fn_of eiInvalidSteps (bit c (i := 70) rfl)
  have G_InvalidSteps := g_InvalidSteps (P := P) (w := w) (mg := mg) (base := base) F_InvalidSteps
  have B1_InvalidSteps : ∀ (a : Addr) (u : Value) (s' : Shared), BindsTo s' _ ⟨[.ref a, u], []⟩ [("self", .ref a), ("index", u)] := fun a u s' => BindsTo.of_eq (fd := PySem.W.fnOf "__init__" "InvalidSteps.__init__" (defArgs (inClass (top 14) 0)) (defBody (inClass (top 14) 0)) (defScope (inClass (top 14) 0)) .none v1 v2 v3 v4 v5 v6) rfl
  have B2_InvalidSteps : ∀ (a : Addr) (u : Value) (s' : Shared), BindsTo s' _ ⟨[.ref a], [("index", u)]⟩ [("self", .ref a), ("index", u)] := fun a u s' => BindsTo.of_eq (fd := PySem.W.fnOf "__init__" "InvalidSteps.__init__" (defArgs (inClass (top 14) 0)) (defBody (inClass (top 14) 0)) (defScope (inClass (top 14) 0)) .none v1 v2 v3 v4 v5 v6) rfl
  have T_InvalidWalls := eclB_ok X G (bit c (i := 13) rfl)
  obtain ⟨v1, v2, v3, v4, v5, v6, F_InvalidWalls⟩ := fn_of eiInvalidWalls (bit c (i := 71) rfl)
  have G_InvalidWalls := g_InvalidWalls (P := P) (w := w) (mg := mg) (base := base) F_InvalidWalls
  have B1_InvalidWalls : ∀ (a : Addr) (u : Value) (s' : Shared), BindsTo s' _ ⟨[.ref a, u], []⟩ [("self", .ref a), ("index", u)] := fun a u s' => BindsTo.of_eq (fd := PySem.W.fnOf "__init__" "InvalidWalls.__init__" (defArgs (inClass (top 15) 0)) (defBody (inClass (top 15) 0)) (defScope (inClass (top 15) 0)) .none v1 v2 v3 v4 v5 v6) rfl
  have B2_InvalidWalls : ∀ (a : Addr) (u : Value) (s' : Shared), BindsTo s' _ ⟨[.ref a], [("index", u)]⟩ [("self", .ref a), ("index", u)] := fun a u s' => BindsTo.of_eq (fd := PySem.W.fnOf "__init__" "InvalidWalls.__init__" (defArgs (inClass (top 15) 0)) (defBody (inClass (top 15) 0)) (defScope (inClass (top 15) 0)) .none v1 v2 v3 v4 v5 v6) rfl
  have T_InvalidOrder := eclB_ok X G (bit c (i := 14) rfl)
  obtain ⟨v1, v2, v3, v4, v5, v6, F_InvalidOrder⟩ := fn_of eiInvalidOrder (bit c (i := 72) rfl)
  have G_InvalidOrder := g_InvalidOrder (P := P) (w := w) (mg := mg) (base := base) F_InvalidOrder
  have B1_InvalidOrder : ∀ (a : Addr) (u : Value) (s' : Shared), BindsTo s' _ ⟨[.ref a, u], []⟩ [("self", .ref a), ("index", u)] := fun a u s' => BindsTo.of_eq (fd := PySem.W.fnOf "__init__" "InvalidOrder.__init__" (defArgs (inClass (top 16) 0)) (defBody (inClass (top 16) 0)) (defScope (inClass (top 16) 0)) .none v1 v2 v3 v4 v5 v6) rfl
  have B2_InvalidOrder : ∀ (a : Addr) (u : Value) (s' : Shared), BindsTo s' _ ⟨[.ref a], [("index", u)]⟩ [("self", .ref a), ("index", u)] := fun a u s' => BindsTo.of_eq (fd := PySem.W.fnOf "__init__" "InvalidOrder.__init__" (defArgs (inClass (top 16) 0)) (defBody (inClass (top 16) 0)) (defScope (inClass (top 16) 0)) .none v1 v2 v3 v4 v5 v6) rfl
  have T_SweepError := bclB_ok X G (bit c (i := 15) rfl)
  have T_NoInverse := bclB_ok X G (bit c (i := 16) rfl)
  have T_NotSplit := bclB_ok X G (bit c (i := 17) rfl)
  have T_NotSymmetric := bclB_ok X G (bit c (i := 18) rfl)
  have T_NotPositive := bclB_ok X G (bit c (i := 19) rfl)
  have T_NotLevelled := bclB_ok X G (bit c (i := 20) rfl)
  have T_NotBelow := bclB_ok X G (bit c (i := 21) rfl)
  have m_ArithmeticError := free_ok X G (bit c (i := 22) rfl)
  have m_LookupError := free_ok X G (bit c (i := 23) rfl)
  have m_RuntimeError := free_ok X G (bit c (i := 24) rfl)
  have m_TypeError := free_ok X G (bit c (i := 25) rfl)
  have m_ValueError := free_ok X G (bit c (i := 26) rfl)
  have m_abs := free_ok X G (bit c (i := 27) rfl)
  have m_all := free_ok X G (bit c (i := 28) rfl)
  have m_divmod := free_ok X G (bit c (i := 29) rfl)
  have m_int := free_ok X G (bit c (i := 30) rfl)
  have m_isinstance := free_ok X G (bit c (i := 31) rfl)
  have m_len := free_ok X G (bit c (i := 32) rfl)
  have m_range := free_ok X G (bit c (i := 33) rfl)
  have m_repr := free_ok X G (bit c (i := 34) rfl)
  have m_sum := free_ok X G (bit c (i := 35) rfl)
  obtain ⟨pS, pA⟩ := He.ba (bit c (i := 73) rfl)
  have hS : Placed K (csOf K) (He.ga K "SweepError") (He.ga K "SweepError") (-1) := placed_of rfl pS rfl
  have hP : ∀ (j : Nat) C, (csOf K)[j]? = some C → Placed K (csOf K) (He.ga K "SweepError") C j := fun j C e => by
    have hj : j < 21 := (List.getElem?_eq_some_iff.mp e).1
    have q := List.all_eq_true.mp pA j (List.mem_range.mpr hj)
    rw [List.getD_eq_getElem?_getD, e] at q
    exact placed_of rfl q (by simp)
  have hG : ∀ C ∈ ((csOf K).take 10), ExcC K C ∧ PySem.W.findIn K (.ref C) "given" = some none := by
    intro C hC
    simp only [csOf, nms, List.map_cons, List.map_nil, List.take_succ_cons, List.take_zero, List.mem_cons, List.not_mem_nil, or_false] at hC
    rcases hC with rfl | rfl | rfl | rfl | rfl | rfl | rfl | rfl | rfl | rfl
    · exact ⟨T_InvalidFraction.I, T_InvalidFraction.no⟩
    · exact ⟨T_InvalidNumber.I, T_InvalidNumber.no⟩
    · exact ⟨T_InvalidIndex.I, T_InvalidIndex.no⟩
    · exact ⟨T_InvalidTable.I, T_InvalidTable.no⟩
    · exact ⟨T_InvalidMethod.I, T_InvalidMethod.no⟩
    · exact ⟨T_InvalidParting.I, T_InvalidParting.no⟩
    · exact ⟨T_InvalidFactor.I, T_InvalidFactor.no⟩
    · exact ⟨T_InvalidShare.I, T_InvalidShare.no⟩
    · exact ⟨T_InvalidPolynomial.I, T_InvalidPolynomial.no⟩
    · exact ⟨T_InvalidBounds.I, T_InvalidBounds.no⟩
  have hX : ∀ C ∈ (((csOf K).drop 10).take 5), ExcC K C ∧ PySem.W.findIn K (.ref C) "index" = some none := by
    intro C hC
    simp only [csOf, nms, List.map_cons, List.map_nil, List.drop_succ_cons, List.drop_zero, List.take_succ_cons, List.take_zero, List.mem_cons, List.not_mem_nil, or_false] at hC
    rcases hC with rfl | rfl | rfl | rfl | rfl
    · exact ⟨T_InvalidRow.I, T_InvalidRow.no⟩
    · exact ⟨T_InvalidAmounts.I, T_InvalidAmounts.no⟩
    · exact ⟨T_InvalidSteps.I, T_InvalidSteps.no⟩
    · exact ⟨T_InvalidWalls.I, T_InvalidWalls.no⟩
    · exact ⟨T_InvalidOrder.I, T_InvalidOrder.no⟩
  obtain ⟨kV, doc, pm, an, cdv, ct, F⟩ := fn_of e_law_cup (bit c (i := 47) rfl)
  have hb := F.binds (ps := ["vat", "many"]) fun _ _ _ _ _ _ us hl => match us, hl with | [_, _], _ => rfl
  have D_law_cup := ok_law_cup (P := P) (w := w) (base := base) F (glo_ok X G (bit c (i := 36) rfl)) hb m_divmod m_int
  clear hb F
  obtain ⟨kV, doc, pm, an, cdv, ct, F⟩ := fn_of e_law_one_of (bit c (i := 48) rfl)
  have hb := F.binds (ps := ["vat", "some"]) fun _ _ _ _ _ _ us hl => match us, hl with | [_, _], _ => rfl
  have D_law_one_of := ok_law_one_of (P := P) (w := w) (base := base) F (glo_ok X G (bit c (i := 37) rfl)) hb D_law_cup m_len
  clear hb F
  obtain ⟨kV, doc, pm, an, cdv, ct, F⟩ := fn_of e_law_vat (bit c (i := 49) rfl)
  have hb := F.binds (ps := ["script", "lap"]) fun _ _ _ _ _ _ us hl => match us, hl with | [_, _], _ => rfl
  have D_law_vat := ok_law_vat (P := P) (w := w) (base := base) F (glo_ok X G (bit c (i := 38) rfl)) hb m_abs m_int m_len m_sum
  clear hb F
  obtain ⟨kV, doc, pm, an, cdv, ct, F⟩ := fn_of e_law_thing (bit c (i := 50) rfl)
  have hb := F.binds (ps := ["vat"]) fun _ _ _ _ _ _ us hl => match us, hl with | [_], _ => rfl
  have D_law_thing := ok_law_thing (P := P) (w := w) (base := base) F (glo_ok X G (bit c (i := 39) rfl)) hb D_law_cup D_law_one_of
  clear hb F
  obtain ⟨kV, doc, pm, an, cdv, ct, F⟩ := fn_of e_law_keepers (bit c (i := 51) rfl)
  have hb := F.binds (ps := ["thing"]) fun _ _ _ _ _ _ us hl => match us, hl with | [_], _ => rfl
  have D_law_keepers := ok_law_keepers (P := P) (w := w) (base := base) F (glo_ok X G (bit c (i := 40) rfl)) hb T_InvalidBounds G_InvalidBounds B1_InvalidBounds B2_InvalidBounds T_InvalidFactor G_InvalidFactor B1_InvalidFactor B2_InvalidFactor T_InvalidFraction G_InvalidFraction B1_InvalidFraction B2_InvalidFraction T_InvalidIndex G_InvalidIndex B1_InvalidIndex B2_InvalidIndex T_InvalidMethod G_InvalidMethod B1_InvalidMethod B2_InvalidMethod T_InvalidNumber G_InvalidNumber B1_InvalidNumber B2_InvalidNumber T_InvalidParting G_InvalidParting B1_InvalidParting B2_InvalidParting T_InvalidPolynomial G_InvalidPolynomial B1_InvalidPolynomial B2_InvalidPolynomial T_InvalidShare G_InvalidShare B1_InvalidShare B2_InvalidShare T_InvalidTable G_InvalidTable B1_InvalidTable B2_InvalidTable
  clear hb F
  obtain ⟨kV, doc, pm, an, cdv, ct, F⟩ := fn_of e_law_pointers (bit c (i := 52) rfl)
  have hb := F.binds (ps := ["thing"]) fun _ _ _ _ _ _ us hl => match us, hl with | [_], _ => rfl
  have D_law_pointers := ok_law_pointers (P := P) (w := w) (base := base) F (glo_ok X G (bit c (i := 41) rfl)) hb T_InvalidAmounts G_InvalidAmounts B1_InvalidAmounts B2_InvalidAmounts T_InvalidOrder G_InvalidOrder B1_InvalidOrder B2_InvalidOrder T_InvalidRow G_InvalidRow B1_InvalidRow B2_InvalidRow T_InvalidSteps G_InvalidSteps B1_InvalidSteps B2_InvalidSteps T_InvalidWalls G_InvalidWalls B1_InvalidWalls B2_InvalidWalls
  clear hb F
  obtain ⟨kV, doc, pm, an, cdv, ct, F⟩ := fn_of e_law_classes (bit c (i := 53) rfl)
  have hb := F.binds (ps := ["e"]) fun _ _ _ _ _ _ us hl => match us, hl with | [_], _ => rfl
  have D_law_classes := ok_law_classes (d_InvalidFraction := PySem.W.fnOf "law" "law" (defArgs s_law) (defBody s_law) (defScope s_law) .none kV doc pm an cdv ct) (d_InvalidNumber := PySem.W.fnOf "law" "law" (defArgs s_law) (defBody s_law) (defScope s_law) .none kV doc pm an cdv ct) (d_InvalidIndex := PySem.W.fnOf "law" "law" (defArgs s_law) (defBody s_law) (defScope s_law) .none kV doc pm an cdv ct) (d_InvalidTable := PySem.W.fnOf "law" "law" (defArgs s_law) (defBody s_law) (defScope s_law) .none kV doc pm an cdv ct) (d_InvalidMethod := PySem.W.fnOf "law" "law" (defArgs s_law) (defBody s_law) (defScope s_law) .none kV doc pm an cdv ct) (d_InvalidParting := PySem.W.fnOf "law" "law" (defArgs s_law) (defBody s_law) (defScope s_law) .none kV doc pm an cdv ct) (d_InvalidFactor := PySem.W.fnOf "law" "law" (defArgs s_law) (defBody s_law) (defScope s_law) .none kV doc pm an cdv ct) (d_InvalidShare := PySem.W.fnOf "law" "law" (defArgs s_law) (defBody s_law) (defScope s_law) .none kV doc pm an cdv ct) (d_InvalidPolynomial := PySem.W.fnOf "law" "law" (defArgs s_law) (defBody s_law) (defScope s_law) .none kV doc pm an cdv ct) (d_InvalidBounds := PySem.W.fnOf "law" "law" (defArgs s_law) (defBody s_law) (defScope s_law) .none kV doc pm an cdv ct) (d_InvalidRow := PySem.W.fnOf "law" "law" (defArgs s_law) (defBody s_law) (defScope s_law) .none kV doc pm an cdv ct) (d_InvalidAmounts := PySem.W.fnOf "law" "law" (defArgs s_law) (defBody s_law) (defScope s_law) .none kV doc pm an cdv ct) (d_InvalidSteps := PySem.W.fnOf "law" "law" (defArgs s_law) (defBody s_law) (defScope s_law) .none kV doc pm an cdv ct) (d_InvalidWalls := PySem.W.fnOf "law" "law" (defArgs s_law) (defBody s_law) (defScope s_law) .none kV doc pm an cdv ct) (d_InvalidOrder := PySem.W.fnOf "law" "law" (defArgs s_law) (defBody s_law) (defScope s_law) .none kV doc pm an cdv ct) (P := P) (w := w) (base := base) F (glo_ok X G (bit c (i := 42) rfl)) hb T_InvalidAmounts T_InvalidBounds T_InvalidFactor T_InvalidFraction T_InvalidIndex T_InvalidMethod T_InvalidNumber T_InvalidOrder T_InvalidParting T_InvalidPolynomial T_InvalidRow T_InvalidShare T_InvalidSteps T_InvalidTable T_InvalidWalls T_NoInverse T_NotBelow T_NotLevelled T_NotPositive T_NotSplit T_NotSymmetric m_isinstance
  clear hb F
  obtain ⟨kV, doc, pm, an, cdv, ct, F⟩ := fn_of e_law_is_placed (bit c (i := 54) rfl)
  have hb := F.binds (ps := ["e", "at"]) fun _ _ _ _ _ _ us hl => match us, hl with | [_, _], _ => rfl
  have D_law_is_placed := ok_law_is_placed (cs := csOf K) (P := P) (w := w) (base := base) F (glo_ok X G (bit c (i := 43) rfl)) hb T_SweepError D_law_classes m_ArithmeticError m_LookupError m_RuntimeError m_TypeError m_ValueError m_isinstance m_range
  clear hb F
  obtain ⟨kV, doc, pm, an, cdv, ct, F⟩ := fn_of e_law_are_placed (bit c (i := 55) rfl)
  have hb := F.binds (ps := ["errors", "start"]) fun _ _ _ _ _ _ us hl => match us, hl with | [_, _], _ => rfl
  have D_law_are_placed := ok_law_are_placed (P := P) (w := w) (base := base) F (glo_ok X G (bit c (i := 44) rfl)) hb D_law_is_placed m_len m_range
  clear hb F
  obtain ⟨kV, doc, pm, an, cdv, ct, F⟩ := fn_of e_law_right (bit c (i := 56) rfl)
  have hb := F.binds (ps := ["vat"]) fun _ _ _ _ _ _ us hl => match us, hl with | [_], _ => rfl
  have D_law_right := ok_law_right (csG := (csOf K).take 10) (csX := ((csOf K).drop 10).take 5) (cs := csOf K) (P := P) (w := w) (base := base) F (glo_ok X G (bit c (i := 45) rfl)) hb T_NoInverse T_NotBelow T_NotLevelled T_NotPositive T_NotSplit T_NotSymmetric T_SweepError D_law_are_placed D_law_is_placed D_law_keepers D_law_pointers D_law_thing m_repr rfl rfl rfl hG hX hP hS
  clear hb F
  obtain ⟨kV, doc, pm, an, cdv, ct, F⟩ := fn_of elaw (bit c (i := 57) rfl)
  have hb := F.binds (ps := ["script"]) fun _ _ _ _ _ _ us hl => match us, hl with | [_], _ => rfl
  exact ok_law (P := P) (w := w) (base := base) F (glo_ok X G (bit c (i := 46) rfl)) hb D_law_right D_law_vat m_all m_range
end K01
-- KF
set_option maxRecDepth 100000
open PySem PySem.W PyProof.Rows
set_option maxHeartbeats 0 in
theorem PySem.Challenge.cw_sweepends_k01_errors_each_of_its_own_holds : PySem.Challenge.rw_sweepends_k01_errors_each_of_its_own.Holds := by
  w_on; o_law; k_head; (case hw => w_witness2)
  k_fill
  refine DL.walkG (l := PySem.Challenge.rw_sweepends_k01_errors_each_of_its_own) (n := 63) (k := 7) (x := "script") (nm := "law") (st := K01.s_law) (spd := K01.spLaw) rfl (by decide) rfl ⟨rfl, by decide, by decide⟩ (fun w h Y => PySem.W.kIn_of Y) ?G (fun ns μ hl => ⟨ns, rfl, hl, fun _ => rfl⟩)
  case G =>
    intro w mg fa h KX G hmg
    have A := K01.all_mk (P := PySem.Challenge.rw_sweepends_k01_errors_each_of_its_own.prog) (w := w) KX G (by kernel_rfl) (by kernel_rfl) (by kernel_rfl) (by kernel_rfl) (by kernel_rfl) (by kernel_rfl) (by kernel_rfl) (by kernel_rfl) (by kernel_rfl) (by kernel_rfl) (by kernel_rfl) (by kernel_rfl) (by kernel_rfl) (by kernel_rfl) (by kernel_rfl) (by kernel_rfl) (by kernel_rfl) (by kernel_rfl) (by kernel_rfl) (by kernel_rfl) (by kernel_rfl) (by kernel_rfl) (by kernel_rfl) (by kernel_rfl) (by kernel_rfl) (by kernel_rfl) (by kernel_rfl)
    exact ⟨hmg, A.2⟩
