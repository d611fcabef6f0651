import PyProof.Rows.All
import Wide.All
import OpenK.AllK
import Wide.FinOn
import KE.KExcIs
import PySem.Challenge.RW_sweepends_k48_whole_tidy_steps
import HandS.Base
import HandS.Call
import HandS.List
import HandS.Words
import HandS.ExcInit
import HandS.ExcIs
import HandS.ExcOwn
import KE.KNestM
import HandS.Lambda
import HandS.AnyAll
import HandS.Comp
import HandS.Iter
import HandS.Zip
import HandS.IsInst
import HandS.TupAny
import HandS.TupMul
import HandS.Wide
import HandS.WideBits
import HandS.Gcd
import HandS.ExcValue
import HandS.Dict
import HandS.Ends
import HandS.GenOver
import HandS.More
import HandS.SortInts
import HandS.Conv
import PyProof.EqAt
import PyProof.NeKinds
import HandS.ExcField
import HandS.HeadHook1
import PyProof.Tail
import HandS.Star
import KE.KItemsList
import PyProof.ReprLen
import HandS.Style
import KE.GoesMore
import KE.GoesEnum
import HandS.Flt
import HandS.SetFor
import KE.GoesEnumKw
set_option Elab.async false
set_option linter.all false
-- R7top
section
set_option maxRecDepth 100000
open PySem PySem.W PyProof.Rows
set_option maxHeartbeats 0 in
open_top R7top for PySem.Challenge.rw_sweepends_k48_whole_tidy_steps
end
-- DA
set_option maxRecDepth 100000
namespace DL
open PySem PySem.Spec PyProof.Rows L2

/-- Python data as one term: what a value stands for, heap and all -/
inductive D where
  | non | bl (b : Bool) | int (i : Int) | str (x : Str) | ty (n : String)
  | tup (xs : List D) | lst (xs : List D) | dic (kvs : List (Key × D))
  | ref (a : Addr)
  | scr (ns : List Int)
  | exc (C : Addr) (fs : Option (Str × D))
  | xcp (a C dx : Addr) (f : Str) (d : D)
  | xcn (a C : Addr)

section
variable (K : PySem.W.Frag) (F : Hp)
mutual
inductive Rep : V → D → Prop
  | non : Rep .non .non
  | bl (b : Bool) : Rep (.bl b) (.bl b)
  | int (i : Int) : Rep (.int i) (.int i)
  | str (x : Str) : Rep (.str x) (.str x)
  | ty (n : String) : Rep (.ty n) (.ty n)
  | tup {a : Addr} {vs : List V} {ds : List D} : SqT K F a vs → Reps vs ds → Rep (.ref a) (.tup ds)
  | lst {a : Addr} {vs : List V} {ds : List D} : F a = some (.lst vs) → Reps vs ds → Rep (.ref a) (.lst ds)
  | dic {a : Addr} {kvs : List (Key × V)} {kds : List (Key × D)} : F a = some (.dK kvs) → RepK kvs kds → Rep (.ref a) (.dic kds)
  | ref (a : Addr) : Rep (.ref a) (.ref a)
  | scr {a : Addr} {ns : List Int} : SqL K F a (ns.map V.int) → Rep (.ref a) (.scr ns)
  | excB {a C : Addr} : F a = some (exo a C none) → Rep (.ref a) (.exc C none)
  | excI {a C dx : Addr} {f : Str} {v : V} {d : D} : F a = some (exo a C (some dx)) → F dx = some (exd dx [(f, v)]) → Rep v d → Rep (.ref a) (.exc C (some (f, d)))
  | xcp {a C dx : Addr} {f : Str} {v : V} {d : D} : F dx = some (.xd [(f, v)]) → Rep v d → Rep (.ref a) (.xcp a C dx f d)
  | xcn {a C : Addr} : Rep (.ref a) (.xcn a C)
inductive Reps : List V → List D → Prop
  | nil : Reps [] []
  | cons {v : V} {vs : List V} {d : D} {ds : List D} : Rep v d → Reps vs ds → Reps (v :: vs) (d :: ds)
inductive RepK : List (Key × V) → List (Key × D) → Prop
  | nil : RepK [] []
  | cons {k : Key} {v : V} {vs : List (Key × V)} {d : D} {ds : List (Key × D)} : Rep v d → RepK vs ds → RepK ((k, v) :: vs) ((k, d) :: ds)
end
end
def Ex (H H' : Hp) : Prop := ∀ a o, H a = some o → H' a = some o
theorem Ex.refl (H : Hp) : Ex H H := fun _ _ h => h
theorem Ex.trans {H H1 H2 : Hp} (a : Ex H H1) (b : Ex H1 H2) : Ex H H2 := fun x o h => b x o (a x o h)
theorem Ex.new {H : Hp} {p : Addr} {o : HO} (h : H p = none) : Ex H (upd H p o) := fun a u e => by
  rw [upd_ne (ne_of_none e h)]
  exact e
theorem ex_rd {H H' : Hp} {a : Addr} {u : HO} (e : Ex H H') (h : Rd H a u) : Rd H' a u := by
  rcases h with h | ⟨o, h⟩
  · exact Or.inl (e a _ h)
  · exact Or.inr ⟨o, e a _ h⟩
theorem ex_l {K : PySem.W.Frag} {H H' : Hp} {a : Addr} {xs : List V} (e : Ex H H') (h : SqL K H a xs) : SqL K H' a xs := by
  rcases h with h | h
  · exact Or.inl (ex_rd e h)
  · exact Or.inr h
theorem ex_t {K : PySem.W.Frag} {H H' : Hp} {a : Addr} {xs : List V} (e : Ex H H') (h : SqT K H a xs) : SqT K H' a xs := by
  rcases h with h | h
  · exact Or.inl (ex_rd e h)
  · exact Or.inr h
section
variable {K : PySem.W.Frag} {F F' : Hp}
mutual
theorem Rep.mono (e : Ex F F') : ∀ {v : V} {d : D}, Rep K F v d → Rep K F' v d
  | _, _, .non => .non
  | _, _, .bl b => .bl b
  | _, _, .int i => .int i
  | _, _, .str x => .str x
  | _, _, .ty n => .ty n
  | _, _, .tup h r => .tup (ex_t e h) (Reps.mono e r)
  | _, _, .lst h r => .lst (e _ _ h) (Reps.mono e r)
  | _, _, .dic h r => .dic (e _ _ h) (RepK.mono e r)
  | _, _, .ref a => .ref a
  | _, _, .scr h => .scr (ex_l e h)
  | _, _, .excB h => .excB (e _ _ h)
  | _, _, .excI h h2 r => .excI (e _ _ h) (e _ _ h2) (Rep.mono e r)
  | _, _, .xcp h r => .xcp (e _ _ h) (Rep.mono e r)
  | _, _, .xcn => .xcn
theorem Reps.mono (e : Ex F F') : ∀ {vs : List V} {ds : List D}, Reps K F vs ds → Reps K F' vs ds
  | _, _, .nil => .nil
  | _, _, .cons h r => .cons (Rep.mono e h) (Reps.mono e r)
theorem RepK.mono (e : Ex F F') : ∀ {vs : List (Key × V)} {ds : List (Key × D)}, RepK K F vs ds → RepK K F' vs ds
  | _, _, .nil => .nil
  | _, _, .cons h r => .cons (Rep.mono e h) (RepK.mono e r)
end
theorem Reps.length : ∀ {vs : List V} {ds : List D}, Reps K F vs ds → vs.length = ds.length
  | _, _, .nil => rfl
  | _, _, .cons _ r => by rw [List.length_cons, List.length_cons, Reps.length r]
theorem Reps.get : ∀ {vs : List V} {ds : List D} {i : Nat} {d : D}, Reps K F vs ds → ds[i]? = some d → ∃ v, vs[i]? = some v ∧ Rep K F v d
  | _, _, _, _, .nil, e => by simp at e
  | _, _, 0, _, .cons r _, e => by
    simp at e
    subst e
    exact ⟨_, rfl, r⟩
  | _, _, i + 1, x, .cons _ t, e => by
    obtain ⟨u, h1, h2⟩ := Reps.get (i := i) (d := x) t (by simpa using e)
    exact ⟨u, by simpa using h1, h2⟩
theorem Reps.getV : ∀ {vs : List V} {ds : List D} {i : Nat} {v : V}, Reps K F vs ds → vs[i]? = some v → ∃ d, ds[i]? = some d ∧ Rep K F v d
  | _, _, _, _, .nil, e => by simp at e
  | _, _, 0, _, .cons r _, e => by
    simp at e
    subst e
    exact ⟨_, rfl, r⟩
  | _, _, i + 1, x, .cons _ t, e => by
    obtain ⟨u, h1, h2⟩ := Reps.getV (i := i) (v := x) t (by simpa using e)
    exact ⟨u, by simpa using h1, h2⟩
theorem Reps.append : ∀ {vs ws : List V} {ds es : List D}, Reps K F vs ds → Reps K F ws es → Reps K F (vs ++ ws) (ds ++ es)
  | _, _, _, _, .nil, s => s
  | _, _, _, _, .cons r t, s => .cons r (Reps.append t s)
theorem Reps.take : ∀ {vs : List V} {ds : List D} (n : Nat), Reps K F vs ds → Reps K F (vs.take n) (ds.take n)
  | _, _, 0, _ => .nil
  | _, _, _ + 1, .nil => .nil
  | _, _, n + 1, .cons r t => .cons r (Reps.take n t)
theorem Reps.drop : ∀ {vs : List V} {ds : List D} (n : Nat), Reps K F vs ds → Reps K F (vs.drop n) (ds.drop n)
  | _, _, 0, r => r
  | _, _, _ + 1, .nil => .nil
  | _, _, n + 1, .cons _ t => Reps.drop n t
theorem Reps.set {v : V} {d : D} (r : Rep K F v d) : ∀ {vs : List V} {ds : List D} (i : Nat), Reps K F vs ds → Reps K F (vs.set i v) (ds.set i d)
  | _, _, _, .nil => .nil
  | _, _, 0, .cons _ t => .cons r t
  | _, _, i + 1, .cons q t => .cons q (Reps.set r i t)
end

/-- the lists that may change -/
abbrev Mem := Addr → Option (List D)
def mset (μ : Mem) (a : Addr) (xs : List D) : Mem := fun b => if b = a then some xs else μ b
theorem mset_same {μ : Mem} {a : Addr} {xs : List D} : mset μ a xs a = some xs := by unfold mset; rw [if_pos rfl]
theorem mset_ne {μ : Mem} {a b : Addr} {xs : List D} (h : b ≠ a) : mset μ a xs b = μ b := by unfold mset; rw [if_neg h]
theorem mset_mset {μ : Mem} {a : Addr} {xs ys : List D} : mset (mset μ a xs) a ys = mset μ a ys := by
  funext b; unfold mset; split <;> rfl
theorem mset_id {μ : Mem} {a : Addr} {xs : List D} (h : μ a = some xs) : mset μ a xs = μ := by
  funext b; unfold mset; split
  · rename_i e; subst e; exact h.symm
  · rfl

/-- the defs whose tables of code objects grow: by generator expressions, by lambdas -/
def genNames : List Str := ["is_row", "is_table", "is_ascending", "has_none_below", "is_below", "is_nowhere_above", "are_amounts", "are_contents", "are_noughts", "sweep_word", "is_upright", "are_above", "is_root_upto", "is_late_step", "is_common", "are_none_above", "takes_all", "solution_range"]
def lamNames : List Str := ["_law_right", "_law_is_known"]
def gensK (K : PySem.W.Frag) : List Addr := genNames.filterMap fun x => (PySem.W.tabIn K x).map (·.2)
def lamsK (K : PySem.W.Frag) : List (Addr × Str) := lamNames.filterMap fun x => (PySem.W.tabIn K x).map fun cp => (cp.2, (envOfC x default 0 0 .none).qual ++ "<lambda>")
/-- those tables in H -/
structure Tbs (K : PySem.W.Frag) (F H : Hp) : Prop where
  tg : ∀ P ∈ gensK K, F P = none ∧ GxR.TabG H P
  tl : ∀ p ∈ lamsK K, F p.1 = none ∧ LamX.TabS H p.1 p.2
theorem tabG_ext {H H' : Hp} {P : Addr} (t : GxR.TabG H P) (e : Ex H H') : GxR.TabG H' P := let ⟨ps, h1, h2⟩ := t; ⟨ps, e _ _ h1, h2⟩
/-- all but one object that is no table and no code object stay -/
theorem Tbs.step {K : PySem.W.Frag} {F F' H H' : Hp} {p : Addr} (t : Tbs K F H) (k : ∀ b o, b ≠ p → H b = some o → H' b = some o) (n : ∀ o, H p = some o → (∀ ps, o ≠ .tbl ps) ∧ ∀ c q, o ≠ LamX.CodeO c q) (f : ∀ b, b ≠ p → F b = none → F' b = none) : Tbs K F' H' where
  tg := fun P hP => by
    obtain ⟨h1, ps, h2, h3⟩ := t.tg P hP
    have ne : P ≠ p := fun e => (n _ (e ▸ h2)).1 _ rfl
    exact ⟨f P ne h1, ps, k P _ ne h2, h3⟩
  tl := fun q hq => by
    obtain ⟨h1, ps, h2, h3, h4⟩ := t.tl q hq
    have ne : q.1 ≠ p := fun e => (n _ (e ▸ h2)).1 _ rfl
    refine ⟨f q.1 ne h1, ps, k _ _ ne h2, h3, fun pos cv hc => ?_⟩
    obtain ⟨c, e1, e2⟩ := h4 pos cv hc
    exact ⟨c, e1, k c _ (fun e => (n _ (e ▸ e2)).2 _ _ rfl) e2⟩
theorem lst_no {vs : List V} : (∀ ps, HO.lst vs ≠ .tbl ps) ∧ ∀ c q, HO.lst vs ≠ LamX.CodeO c q := ⟨fun _ z => (by cases z), fun c q z => (by unfold LamX.CodeO at z; cases z)⟩
/-- the heap H lies as: F what stays as it is, μ the lists that may change -/
structure Lay (K : PySem.W.Frag) (F : Hp) (μ : Mem) (H : Hp) : Prop where
  fz : Ex F H
  mu : ∀ a xs, μ a = some xs → F a = none ∧ ∃ vs, H a = some (.lst vs) ∧ Reps K F vs xs
  tb : Tbs K F H

section
variable {K : PySem.W.Frag} {F : Hp} {μ : Mem} {H : Hp}
theorem Lay.none_mu (l : Lay K F μ H) {p : Addr} (h : H p = none) : μ p = none := by
  cases e : μ p with
  | none => rfl
  | some xs =>
    obtain ⟨_, vs, e2, _⟩ := l.mu p xs e
    rw [h] at e2
    cases e2
theorem Lay.none_F (l : Lay K F μ H) {p : Addr} (h : H p = none) : F p = none := by
  cases e : F p with
  | none => rfl
  | some o =>
    have := l.fz p o e
    rw [h] at this
    cases this
/-- a new thing that stays -/
theorem Lay.new (l : Lay K F μ H) {p : Addr} (h : H p = none) (o : HO) : Lay K (upd F p o) μ (upd H p o) where
  fz := fun a u e => by
    by_cases z : a = p
    · subst z
      rw [upd_same] at e ⊢
      exact e
    · rw [upd_ne z] at e ⊢
      exact l.fz a u e
  mu := fun a xs e => by
    obtain ⟨h1, vs, h2, h3⟩ := l.mu a xs e
    have z : a ≠ p := ne_of_none h2 h
    rw [upd_ne z, upd_ne z]
    exact ⟨h1, vs, h2, h3.mono (Ex.new (l.none_F h))⟩
  tb := l.tb.step (p := p) (fun b u z e => by rw [upd_ne z]; exact e) (fun u e => by rw [h] at e; cases e) (fun b z e => by rw [upd_ne z]; exact e)
/-- a new list that may change -/
theorem Lay.newM (l : Lay K F μ H) {p : Addr} (h : H p = none) {vs : List V} {xs : List D} (r : Reps K F vs xs) : Lay K F (mset μ p xs) (upd H p (.lst vs)) where
  fz := fun a u e => by
    rw [upd_ne (ne_of_none (l.fz a u e) h)]
    exact l.fz a u e
  mu := fun a ys e => by
    by_cases z : a = p
    · subst z
      rw [mset_same] at e
      cases e
      exact ⟨l.none_F h, vs, upd_same, r⟩
    · rw [mset_ne z] at e
      obtain ⟨h1, ws, h2, h3⟩ := l.mu a ys e
      exact ⟨h1, ws, by rw [upd_ne z]; exact h2, h3⟩
  tb := l.tb.step (p := p) (fun b u z e => by rw [upd_ne z]; exact e) (fun u e => by rw [h] at e; cases e) (fun b z e => e)
/-- a list that may change, changed -/
theorem Lay.put (l : Lay K F μ H) {p : Addr} {xs ys : List D} (h : μ p = some xs) {vs : List V} (r : Reps K F vs ys) : Lay K F (mset μ p ys) (upd H p (.lst vs)) where
  fz := fun a u e => by
    obtain ⟨h1, _⟩ := l.mu p xs h
    rw [upd_ne (ne_of_none e h1)]
    exact l.fz a u e
  mu := fun a zs e => by
    by_cases z : a = p
    · subst z
      rw [mset_same] at e
      cases e
      exact ⟨(l.mu a xs h).1, vs, upd_same, r⟩
    · rw [mset_ne z] at e
      obtain ⟨h1, ws, h2, h3⟩ := l.mu a zs e
      exact ⟨h1, ws, by rw [upd_ne z]; exact h2, h3⟩
  tb := by
    obtain ⟨_, ws, hw, _⟩ := l.mu p xs h
    refine l.tb.step (p := p) (fun b u z e => by rw [upd_ne z]; exact e) (fun u e => ?_) (fun b z e => e)
    rw [hw] at e
    cases e
    exact lst_no
def mdel (μ : Mem) (a : Addr) : Mem := fun b => if b = a then none else μ b
theorem mdel_mset {μ : Mem} {a : Addr} {xs : List D} (h : μ a = none) : mdel (mset μ a xs) a = μ := by
  funext b; unfold mdel mset; split
  · rename_i e; subst e; exact h.symm
  · rfl
/-- a list that will not change any more -/
theorem Lay.freeze (l : Lay K F μ H) {p : Addr} {xs : List D} (h : μ p = some xs) : ∃ vs, H p = some (.lst vs) ∧ F p = none ∧ Lay K (upd F p (.lst vs)) (mdel μ p) H ∧ Rep K (upd F p (.lst vs)) (.ref p) (.lst xs) := by
  obtain ⟨h1, vs, h2, h3⟩ := l.mu p xs h
  have ex : Ex F (upd F p (.lst vs)) := Ex.new h1
  refine ⟨vs, h2, h1, ⟨fun a u e => ?_, fun a ys e => ?_, l.tb.step (p := p) (fun b u z e => e) (fun u e => by rw [h2] at e; cases e; exact lst_no) (fun b z e => by rw [upd_ne z]; exact e)⟩, .lst upd_same (h3.mono ex)⟩
  · by_cases z : a = p
    · subst z
      rw [upd_same] at e
      cases e
      exact h2
    · rw [upd_ne z] at e
      exact l.fz a u e
  · unfold mdel at e
    split at e
    · cases e
    · rename_i z
      obtain ⟨g1, ws, g2, g3⟩ := l.mu a ys e
      exact ⟨by rw [upd_ne z]; exact g1, ws, g2, g3.mono ex⟩
end

/-! ### slots -/
abbrev DSt := List (Option D)
inductive RepSt (K : PySem.W.Frag) (F : Hp) : L2.St → DSt → Prop
  | nil : RepSt K F [] []
  | no {σ : L2.St} {δ : DSt} {o : Option V} : RepSt K F σ δ → RepSt K F (o :: σ) (none :: δ)
  | so {σ : L2.St} {δ : DSt} {v : V} {d : D} : Rep K F v d → RepSt K F σ δ → RepSt K F (some v :: σ) (some d :: δ)
section
variable {K : PySem.W.Frag} {F F' : Hp}
theorem RepSt.mono (e : Ex F F') : ∀ {σ : L2.St} {δ : DSt}, RepSt K F σ δ → RepSt K F' σ δ
  | _, _, .nil => .nil
  | _, _, .no r => .no (RepSt.mono e r)
  | _, _, .so h r => .so (h.mono e) (RepSt.mono e r)
theorem RepSt.get : ∀ {σ : L2.St} {δ : DSt} {i : Nat} {d : D}, RepSt K F σ δ → δ[i]? = some (some d) → ∃ v, σ[i]? = some (some v) ∧ Rep K F v d
  | _, _, _, _, .nil, e => by simp at e
  | _, _, 0, _, .no _, e => by simp at e
  | _, _, i + 1, d, .no r, e => by
    obtain ⟨v, h1, h2⟩ := RepSt.get (i := i) (d := d) r (by simpa using e)
    exact ⟨v, by simpa using h1, h2⟩
  | _, _, 0, _, .so h _, e => by
    simp at e
    subst e
    exact ⟨_, rfl, h⟩
  | _, _, i + 1, d, .so _ r, e => by
    obtain ⟨v, h1, h2⟩ := RepSt.get (i := i) (d := d) r (by simpa using e)
    exact ⟨v, by simpa using h1, h2⟩
theorem RepSt.set {v : V} {d : D} (h : Rep K F v d) : ∀ {σ : L2.St} {δ : DSt} (i : Nat), RepSt K F σ δ → RepSt K F (σ.set i (some v)) (δ.set i (some d))
  | _, _, _, .nil => .nil
  | _, _, 0, .no r => .so h r
  | _, _, i + 1, .no r => .no (RepSt.set h i r)
  | _, _, 0, .so _ r => .so h r
  | _, _, i + 1, .so g r => .so g (RepSt.set h i r)
theorem RepSt.length : ∀ {σ : L2.St} {δ : DSt}, RepSt K F σ δ → σ.length = δ.length
  | _, _, .nil => rfl
  | _, _, .no r => by rw [List.length_cons, List.length_cons, RepSt.length r]
  | _, _, .so _ r => by rw [List.length_cons, List.length_cons, RepSt.length r]
end

/-! ### readings over D -/
abbrev DK := D → Mem → Prop
abbrev TD := DSt → Mem → DK → Prop
abbrev TDT := DSt → Mem → (Bool → Mem → Prop) → Prop
abbrev TDA := DSt → Mem → (List D → Mem → Prop) → Prop
structure DEnds where
  nx : DSt → Mem → Prop
  rt : DK
  bk : DSt → Mem → Prop := fun _ _ => False
  ct : DSt → Mem → Prop := fun _ _ => False
abbrev TDS := DEnds → DSt → Mem → Prop

/-- what is wanted over H, from what is wanted over D -/
def KOf (K : PySem.W.Frag) (F : Hp) (QD : DK) (Q : VK) : Prop := ∀ v d F' μ' H', Ex F F' → Lay K F' μ' H' → Rep K F' v d → QD d μ' → Q v H'
def eOf (K : PySem.W.Frag) (td : TD) : TE := fun σ H Q => ∃ δ F μ QD, Lay K F μ H ∧ RepSt K F σ δ ∧ td δ μ QD ∧ KOf K F QD Q
def bOf (K : PySem.W.Frag) (td : TDT) : TT := fun σ H Q => ∃ δ F μ QD, Lay K F μ H ∧ RepSt K F σ δ ∧ td δ μ QD ∧ ∀ b F' μ' H', Ex F F' → Lay K F' μ' H' → QD b μ' → Q b H'
def aOf (K : PySem.W.Frag) (td : TDA) : TA := fun σ H Q => ∃ δ F μ QD, Lay K F μ H ∧ RepSt K F σ δ ∧ td δ μ QD ∧ ∀ vs ds F' μ' H', Ex F F' → Lay K F' μ' H' → Reps K F' vs ds → QD ds μ' → Q vs H'
def SOf (K : PySem.W.Frag) (F : Hp) (QD : DSt → Mem → Prop) (Q : L2.St → Hp → Prop) : Prop := ∀ σ δ F' μ' H', Ex F F' → Lay K F' μ' H' → RepSt K F' σ δ → QD δ μ' → Q σ H'
def EOf (K : PySem.W.Frag) (F : Hp) (ED : DEnds) (E : Ends) : Prop := SOf K F ED.nx E.nx ∧ KOf K F ED.rt E.rt ∧ SOf K F ED.bk E.bk ∧ SOf K F ED.ct E.ct
def sOf (K : PySem.W.Frag) (td : TDS) : TS := fun E σ H => ∃ δ F μ ED, Lay K F μ H ∧ RepSt K F σ δ ∧ td ED δ μ ∧ EOf K F ED E
section
variable {K : PySem.W.Frag} {F F' : Hp}
theorem KOf.mono {QD : DK} {Q : VK} (h : KOf K F QD Q) (e : Ex F F') : KOf K F' QD Q := fun v d F'' μ' H' e' l r q => h v d F'' μ' H' (e.trans e') l r q
theorem SOf.mono {QD : DSt → Mem → Prop} {Q : L2.St → Hp → Prop} (h : SOf K F QD Q) (e : Ex F F') : SOf K F' QD Q := fun v d F'' μ' H' e' l r q => h v d F'' μ' H' (e.trans e') l r q
theorem EOf.mono {ED : DEnds} {E : Ends} (h : EOf K F ED E) (e : Ex F F') : EOf K F' ED E := ⟨h.1.mono e, h.2.1.mono e, h.2.2.1.mono e, h.2.2.2.mono e⟩
end

section
variable {X : Cx}
theorem PE.weak {e : Expr} {t u : TE} (h : PE X e t) (k : ∀ σ H Q, u σ H Q → t σ H Q) : PE X e u := ⟨fun pins s σ H Q I q => h.run pins s σ H Q I (k _ _ _ q)⟩
theorem PT.weak {e : Expr} {t u : TT} (h : PT X e t) (k : ∀ σ H Q, u σ H Q → t σ H Q) : PT X e u := ⟨fun pins s σ H Q I q => h.run pins s σ H Q I (k _ _ _ q)⟩
theorem PA.weak {e : List Expr} {t u : TA} (h : PA X e t) (k : ∀ σ H Q, u σ H Q → t σ H Q) : PA X e u := ⟨fun pos pins s σ H Q I q => h.run pos pins s σ H Q I (k _ _ _ q)⟩
theorem PS.weak {e : Stmt} {t u : TS} (h : PS X e t) (k : ∀ D σ H, u D σ H → t D σ H) : PS X e u := ⟨fun pins s σ H D I q => h.run pins s σ H D I (k _ _ _ q)⟩
theorem PSs.weak {e : List Stmt} {t u : TS} (h : PSs X e t) (k : ∀ D σ H, u D σ H → t D σ H) : PSs X e u := ⟨fun pins s σ H D I q => h.run pins s σ H D I (k _ _ _ q)⟩
end

/-- the judgements over D -/
abbrev DE (X : Cx) (e : Expr) (t : TD) : Prop := PE X e (eOf X.K t)
abbrev DT (X : Cx) (e : Expr) (t : TDT) : Prop := PT X e (bOf X.K t)
abbrev DA (X : Cx) (e : List Expr) (t : TDA) : Prop := PA X e (aOf X.K t)
abbrev DS (X : Cx) (e : Stmt) (t : TDS) : Prop := PS X e (sOf X.K t)
abbrev DSs (X : Cx) (e : List Stmt) (t : TDS) : Prop := PSs X e (sOf X.K t)

/-! ### names and constants -/
def dVar (i : Nat) : TD := fun δ μ Q => ∃ d, δ[i]? = some (some d) ∧ Q d μ
def dC (d : D) : TD := fun _ μ Q => Q d μ
section
variable {X : Cx}
theorem de_var (i : Nat) {x : Str} {pos : Pos} (h : PE X (.Name x pos) (tVar i)) : DE X (.Name x pos) (dVar i) := by
  refine PE.weak h fun σ H Q ⟨δ, F, μ, QD, l, r, ⟨d, e, q⟩, k⟩ => ?_
  obtain ⟨v, e1, r1⟩ := r.get e
  exact ⟨v, e1, k v d F μ H (Ex.refl F) l r1 q⟩
theorem de_c {e : Expr} {v : V} {d : D} (h : PE X e (tC v)) (r : ∀ F, Rep X.K F v d) : DE X e (dC d) :=
  PE.weak h fun σ H Q ⟨δ, F, μ, QD, l, rs, q, k⟩ => k v d F μ H (Ex.refl F) l (r F) q
theorem de_int {i j pos} : DE X (.Constant (.int i) j pos) (dC (.int i)) := de_c pe_int fun _ => .int _
theorem de_bl {b j pos} : DE X (.Constant (.bool b) j pos) (dC (.bl b)) := de_c pe_bl fun _ => .bl _
theorem de_non {j pos} : DE X (.Constant .none j pos) (dC .non) := de_c pe_non fun _ => .non
theorem de_str {x j pos} : DE X (.Constant (.str x) j pos) (dC (.str x)) := de_c pe_str fun _ => .str _

/-! ### two-place operations -/
def dOp (r : D → D → Mem → DK → Prop) (ta tb : TD) : TD := fun δ μ Q => ta δ μ fun x μ1 => tb δ μ1 fun y μ2 => r x y μ2 Q
abbrev RD2 := D → D → Mem → DK → Prop
/-- a rule over V serves a rule over D -/
def Lift2 (K : PySem.W.Frag) (r : R2) (rd : RD2) : Prop := ∀ x y dx dy F μ H Q QD, Lay K F μ H → Rep K F x dx → Rep K F y dy → rd dx dy μ QD → KOf K F QD Q → r x y H Q
theorem eOf_op {r : R2} {rd : RD2} {ta tb : TD} {K : PySem.W.Frag} (h : Lift2 K r rd) {σ : L2.St} {H : Hp} {Q : VK} : eOf K (dOp rd ta tb) σ H Q → tOp r (eOf K ta) (eOf K tb) σ H Q := fun ⟨δ, F, μ, QD, l, rs, q, k⟩ =>
  ⟨δ, F, μ, _, l, rs, q, fun x dx F1 μ1 H1 e1 l1 r1 q1 => ⟨δ, F1, μ1, _, l1, rs.mono e1, q1, fun y dy F2 μ2 H2 e2 l2 r2 q2 =>
    h x y dx dy F2 μ2 H2 Q QD l2 (r1.mono e2) r2 q2 (k.mono (e1.trans e2))⟩⟩
variable {a b : Expr} {ta tb : TD} {pos : Pos}
theorem de_op {op : Operator} {r : R2} {rd : RD2} (ho : OpR X (binaryOp op) r) (hl : Lift2 X.K r rd) (ha : DE X a ta) (hb : DE X b tb) : DE X (.BinOp a op b pos) (dOp rd ta tb) :=
  PE.weak (pe_op ho ha hb) fun _ _ _ h => eOf_op hl h
theorem de_cmp {op : CmpOp} {r : R2} {rd : RD2} (ho : OpR X (compareOp op) r) (hl : Lift2 X.K r rd) (ha : DE X a ta) (hb : DE X b tb) (hm : behindInMarks op b = false := by first | exact nomark _ | (with_unfolding_all rfl)) : DE X (.Compare a [op] [b] pos) (dOp rd ta tb) :=
  PE.weak (pe_cmpR ho ha hb hm) fun _ _ _ h => eOf_op hl h
/-- a test by a value -/
def dTest (t : TD) : TDT := fun δ μ Q => t δ μ fun x μ1 => ∃ k, x = .bl k ∧ Q k μ1
theorem rep_bl {K : PySem.W.Frag} {F : Hp} {v : V} {k : Bool} (h : Rep K F v (.bl k)) : v = .bl k := by cases h; rfl
theorem rep_int {K : PySem.W.Frag} {F : Hp} {v : V} {k : Int} (h : Rep K F v (.int k)) : v = .int k := by cases h; rfl
theorem rep_str {K : PySem.W.Frag} {F : Hp} {v : V} {k : Str} (h : Rep K F v (.str k)) : v = .str k := by cases h; rfl
theorem rep_non {K : PySem.W.Frag} {F : Hp} {v : V} (h : Rep K F v .non) : v = .non := by cases h; rfl
theorem rep_ref {K : PySem.W.Frag} {F : Hp} {v : V} {a : Addr} (h : Rep K F v (.ref a)) : v = .ref a := by cases h; rfl
theorem rep_ty {K : PySem.W.Frag} {F : Hp} {v : V} {k : String} (h : Rep K F v (.ty k)) : v = .ty k := by cases h; rfl
theorem eOf_bl {td : TD} {K : PySem.W.Frag} {σ : L2.St} {H : Hp} {Q : Bool → Hp → Prop} : bOf K (dTest td) σ H Q → eOf K td σ H fun x H' => ∃ k, x = .bl k ∧ Q k H' := fun ⟨δ, F, μ, QD, l, rs, q, k⟩ =>
  ⟨δ, F, μ, _, l, rs, q, fun x dx F1 μ1 H1 e1 l1 r1 ⟨c, hc, q1⟩ => by
    subst hc
    exact ⟨c, rep_bl r1, k c F1 μ1 H1 e1 l1 q1⟩⟩
theorem dt_cmp {op : CmpOp} {r : R2} {rd : RD2} (ho : OpR X (compareOp op) r) (hl : Lift2 X.K r rd) (ha : DE X a ta) (hb : DE X b tb) (hm : behindInMarks op b = false := by first | exact nomark _ | (with_unfolding_all rfl)) : DT X (.Compare a [op] [b] pos) (dTest (dOp rd ta tb)) := by
  refine PT.weak (pt_cmpR ho ha hb hm) fun σ H Q h => ?_
  obtain ⟨δ, F, μ, QD, l, rs, q, k⟩ := h
  exact eOf_op hl ⟨δ, F, μ, _, l, rs, q, fun x dx F1 μ1 H1 e1 l1 r1 ⟨c, hc, q1⟩ => by
    subst hc
    exact ⟨c, rep_bl r1, k c F1 μ1 H1 e1 l1 q1⟩⟩
/-- a value's own truth, where it is a bool -/
theorem dt_val (h : DE X a ta) (he : ∀ whole, isTrue a X.env whole = (do let v ← whole; standAt a.pos; holding [v] (truthy v)) := by intro _; rfl) : DT X a (dTest ta) :=
  PT.weak (pt_val h he) fun _ _ _ q => eOf_bl q

/-! ### and, or, not -/
def dAnd (t u : TDT) : TDT := fun δ μ Q => t δ μ fun c μ1 => if c = true then u δ μ1 Q else Q false μ1
def dOr (t u : TDT) : TDT := fun δ μ Q => t δ μ fun c μ1 => if c = true then Q true μ1 else u δ μ1 Q
def dNot (t : TDT) : TDT := fun δ μ Q => t δ μ fun c μ1 => Q (!c) μ1
abbrev DW (X : Cx) (e : Expr) (t : TDT) : Prop := PW X e (bOf X.K t)
theorem PW.weak {e : Expr} {t u : TT} (h : PW X e t) (k : ∀ σ H Q, u σ H Q → t σ H Q) : PW X e u := ⟨fun wh pins s σ H Q I q => h.run wh pins s σ H Q I (k _ _ _ q)⟩
variable {tA tB' : TDT} {rest : List Expr}
theorem dw_and1 (ha : DT X a tA) : DW X (.BoolOp .And [a] pos) tA := pw_and1 ha
theorem dw_or1 (ha : DT X a tA) : DW X (.BoolOp .Or [a] pos) tA := pw_or1 ha
theorem dw_and (ha : DT X a tA) (hb : DW X (.BoolOp .And (b :: rest) pos) tB') : DW X (.BoolOp .And (a :: b :: rest) pos) (dAnd tA tB') := by
  refine PW.weak (pw_and ha hb) fun σ H Q ⟨δ, F, μ, QD, l, rs, q, k⟩ => ?_
  refine ⟨δ, F, μ, _, l, rs, q, fun c F1 μ1 H1 e1 l1 q1 => ?_⟩
  cases c with
  | true => exact ⟨δ, F1, μ1, _, l1, rs.mono e1, q1, fun b F2 μ2 H2 e2 l2 q2 => k b F2 μ2 H2 (e1.trans e2) l2 q2⟩
  | false => exact k false F1 μ1 H1 e1 l1 q1
theorem dw_or (ha : DT X a tA) (hb : DW X (.BoolOp .Or (b :: rest) pos) tB') : DW X (.BoolOp .Or (a :: b :: rest) pos) (dOr tA tB') := by
  refine PW.weak (pw_or ha hb) fun σ H Q ⟨δ, F, μ, QD, l, rs, q, k⟩ => ?_
  refine ⟨δ, F, μ, _, l, rs, q, fun c F1 μ1 H1 e1 l1 q1 => ?_⟩
  cases c with
  | false => exact ⟨δ, F1, μ1, _, l1, rs.mono e1, q1, fun b F2 μ2 H2 e2 l2 q2 => k b F2 μ2 H2 (e1.trans e2) l2 q2⟩
  | true => exact k true F1 μ1 H1 e1 l1 q1
theorem dt_w {e : Expr} (h : DW X e tA) : DT X e tA := h.pt
theorem dt_not (ha : DT X a tA) : DT X (.UnaryOp .Not a pos) (dNot tA) :=
  PT.weak (pt_not ha) fun σ H Q ⟨δ, F, μ, QD, l, rs, q, k⟩ => ⟨δ, F, μ, _, l, rs, q, fun c F1 μ1 H1 e1 l1 q1 => k (!c) F1 μ1 H1 e1 l1 q1⟩
/-- as values -/
def dAndV (ta tb : TD) : TD := fun δ μ Q => ta δ μ fun x μ1 => ∃ c, x = .bl c ∧ if c = true then tb δ μ1 Q else Q (.bl false) μ1
def dOrV (ta tb : TD) : TD := fun δ μ Q => ta δ μ fun x μ1 => ∃ c, x = .bl c ∧ if c = true then Q (.bl true) μ1 else tb δ μ1 Q
def dNotV (ta : TD) : TD := fun δ μ Q => ta δ μ fun x μ1 => ∃ c, x = .bl c ∧ Q (.bl (!c)) μ1
theorem de_one {op} (h : DE X a ta) : DE X (.BoolOp op [a] pos) ta := pe_one h
theorem de_and (ha : DE X a ta) (hb : DE X (.BoolOp .And (b :: rest) pos) tb) : DE X (.BoolOp .And (a :: b :: rest) pos) (dAndV ta tb) := by
  refine PE.weak (pe_and ha hb) fun σ H Q ⟨δ, F, μ, QD, l, rs, q, k⟩ => ?_
  refine ⟨δ, F, μ, _, l, rs, q, fun x dx F1 μ1 H1 e1 l1 r1 ⟨c, hc, q1⟩ => ?_⟩
  subst hc
  refine ⟨c, rep_bl r1, ?_⟩
  cases c with
  | true => exact ⟨δ, F1, μ1, _, l1, rs.mono e1, q1, k.mono e1⟩
  | false => exact k _ _ F1 μ1 H1 e1 l1 (.bl _) q1
theorem de_or (ha : DE X a ta) (hb : DE X (.BoolOp .Or (b :: rest) pos) tb) : DE X (.BoolOp .Or (a :: b :: rest) pos) (dOrV ta tb) := by
  refine PE.weak (pe_or ha hb) fun σ H Q ⟨δ, F, μ, QD, l, rs, q, k⟩ => ?_
  refine ⟨δ, F, μ, _, l, rs, q, fun x dx F1 μ1 H1 e1 l1 r1 ⟨c, hc, q1⟩ => ?_⟩
  subst hc
  refine ⟨c, rep_bl r1, ?_⟩
  cases c with
  | false => exact ⟨δ, F1, μ1, _, l1, rs.mono e1, q1, k.mono e1⟩
  | true => exact k _ _ F1 μ1 H1 e1 l1 (.bl _) q1
theorem de_not (ha : DE X a ta) : DE X (.UnaryOp .Not a pos) (dNotV ta) := by
  refine PE.weak (pe_not ha) fun σ H Q ⟨δ, F, μ, QD, l, rs, q, k⟩ => ?_
  refine ⟨δ, F, μ, _, l, rs, q, fun x dx F1 μ1 H1 e1 l1 r1 ⟨c, hc, q1⟩ => ?_⟩
  subst hc
  exact ⟨c, rep_bl r1, k _ _ F1 μ1 H1 e1 l1 (.bl _) q1⟩
def dIf (t : TDT) (ta tb : TD) : TD := fun δ μ Q => t δ μ fun c μ1 => if c = true then ta δ μ1 Q else tb δ μ1 Q
theorem de_ifExp {c : Expr} (hc : DT X c tA) (ha : DE X a ta) (hb : DE X b tb) : DE X (.IfExp c a b pos) (dIf tA ta tb) := by
  refine PE.weak (pe_ifExp hc ha hb) fun σ H Q ⟨δ, F, μ, QD, l, rs, q, k⟩ => ?_
  refine ⟨δ, F, μ, _, l, rs, q, fun c F1 μ1 H1 e1 l1 q1 => ?_⟩
  cases c with
  | true => exact ⟨δ, F1, μ1, _, l1, rs.mono e1, q1, k.mono e1⟩
  | false => exact ⟨δ, F1, μ1, _, l1, rs.mono e1, q1, k.mono e1⟩

/-! ### argument lists, displays, calls by values -/
def dNil : TDA := fun _ μ Q => Q [] μ
def dCons (ta : TD) (tr : TDA) : TDA := fun δ μ Q => ta δ μ fun x μ1 => tr δ μ1 fun xs μ2 => Q (x :: xs) μ2
variable {es : List Expr} {tr : TDA} {e : Expr}
theorem da_nil : DA X [] dNil := PA.weak pa_nil fun σ H Q ⟨δ, F, μ, QD, l, rs, q, k⟩ => k [] [] F μ H (Ex.refl F) l .nil q
theorem da_cons (ha : DE X e ta) (hr : DA X es tr) (hs : starEach (e :: es) X.env = (false, eval e X.env) :: starEach es X.env := by rfl) : DA X (e :: es) (dCons ta tr) :=
  PA.weak (pa_cons ha hr hs) fun σ H Q ⟨δ, F, μ, QD, l, rs, q, k⟩ => ⟨δ, F, μ, _, l, rs, q, fun x dx F1 μ1 H1 e1 l1 r1 q1 => ⟨δ, F1, μ1, _, l1, rs.mono e1, q1, fun xs ds F2 μ2 H2 e2 l2 r2 q2 =>
    k (x :: xs) (dx :: ds) F2 μ2 H2 (e1.trans e2) l2 (.cons (r1.mono e2) r2) q2⟩⟩
def dTup (t : TDA) : TD := fun δ μ Q => t δ μ fun ds μ1 => ds.length ≤ 1000000 ∧ Q (.tup ds) μ1
def dLst (t : TDA) : TD := fun δ μ Q => t δ μ fun ds μ1 => ds.length ≤ 1000000 ∧ Q (.lst ds) μ1
/-- a new list that may be changed -/
def dLstM (t : TDA) : TD := fun δ μ Q => t δ μ fun ds μ1 => ds.length ≤ 1000000 ∧ ∀ p, μ1 p = none → Q (.ref p) (mset μ1 p ds)
theorem mil_le {n : Nat} (h : n ≤ 1000000) : n ≤ sizeLine := Nat.le_trans h (by rw [sizeLine_eq]; decide)
theorem mil_lt {n : Nat} (h : n ≤ 1000000) : n < sizeLine := Nat.lt_of_le_of_lt h (by rw [sizeLine_eq]; decide)
theorem fin_tup {K : PySem.W.Frag} {F : Hp} {μ : Mem} {H : Hp} {QD : DK} {Q : VK} {vs : List V} {ds : List D} (l : Lay K F μ H) (r : Reps K F vs ds) (q : QD (.tup ds) μ) (k : KOf K F QD Q) : ∀ p, H p = none → Q (.ref p) (upd H p (.tup vs)) := fun p hp =>
  k _ _ _ _ _ (Ex.new (l.none_F hp)) (l.new hp _) (.tup (.inl (.inl upd_same)) (r.mono (Ex.new (l.none_F hp)))) q
theorem fin_lst {K : PySem.W.Frag} {F : Hp} {μ : Mem} {H : Hp} {QD : DK} {Q : VK} {vs : List V} {ds : List D} (l : Lay K F μ H) (r : Reps K F vs ds) (q : QD (.lst ds) μ) (k : KOf K F QD Q) : ∀ p, H p = none → Q (.ref p) (upd H p (.lst vs)) := fun p hp =>
  k _ _ _ _ _ (Ex.new (l.none_F hp)) (l.new hp _) (.lst upd_same (r.mono (Ex.new (l.none_F hp)))) q
theorem fin_lstM {K : PySem.W.Frag} {F : Hp} {μ : Mem} {H : Hp} {QD : DK} {Q : VK} {vs : List V} {ds : List D} (l : Lay K F μ H) (r : Reps K F vs ds) (q : ∀ p, μ p = none → QD (.ref p) (mset μ p ds)) (k : KOf K F QD Q) : ∀ p, H p = none → Q (.ref p) (upd H p (.lst vs)) := fun p hp =>
  k _ _ _ _ _ (Ex.refl F) (l.newM hp r) (.ref p) (q p (l.none_mu hp))
theorem de_tup {x1} (h : DA X es tr) : DE X (.Tuple es x1 pos) (dTup tr) :=
  PE.weak (pe_tup h) fun σ H Q ⟨δ, F, μ, QD, l, rs, q, k⟩ => ⟨δ, F, μ, _, l, rs, q, fun vs ds F1 μ1 H1 e1 l1 r1 ⟨hz, q1⟩ => ⟨by rw [r1.length]; exact mil_le hz, fin_tup l1 r1 q1 (k.mono e1)⟩⟩
theorem de_lst (h : DA X es tr) : DE X (.List es pos) (dLst tr) :=
  PE.weak (pe_lst h) fun σ H Q ⟨δ, F, μ, QD, l, rs, q, k⟩ => ⟨δ, F, μ, _, l, rs, q, fun vs ds F1 μ1 H1 e1 l1 r1 ⟨hz, q1⟩ => ⟨by rw [r1.length]; exact mil_le hz, fin_lst l1 r1 q1 (k.mono e1)⟩⟩
theorem de_lstM (h : DA X es tr) : DE X (.List es pos) (dLstM tr) :=
  PE.weak (pe_lst h) fun σ H Q ⟨δ, F, μ, QD, l, rs, q, k⟩ => ⟨δ, F, μ, _, l, rs, q, fun vs ds F1 μ1 H1 e1 l1 r1 ⟨hz, q1⟩ => ⟨by rw [r1.length]; exact mil_le hz, fin_lstM l1 r1 q1 (k.mono e1)⟩⟩

/-- a rule over lists of V serves one over lists of D -/
abbrev RDA := List D → Mem → DK → Prop
def LiftA (K : PySem.W.Frag) (r : List V → Hp → VK → Prop) (rd : RDA) : Prop := ∀ vs ds F μ H Q QD, Lay K F μ H → Reps K F vs ds → rd ds μ QD → KOf K F QD Q → r vs H Q
def dCB (r : RDA) (t : TDA) : TD := fun δ μ Q => t δ μ fun ds μ1 => r ds μ1 Q
theorem eOf_cb {r : List V → Hp → VK → Prop} {rd : RDA} {K : PySem.W.Frag} (h : LiftA K r rd) {σ : L2.St} {H : Hp} {Q : VK} : eOf K (dCB rd tr) σ H Q → tCB r (aOf K tr) σ H Q := fun ⟨δ, F, μ, QD, l, rs, q, k⟩ =>
  ⟨δ, F, μ, _, l, rs, q, fun vs ds F1 μ1 H1 e1 l1 r1 q1 => h vs ds F1 μ1 H1 Q QD l1 r1 q1 (k.mono e1)⟩
variable {x : Str} {p : Pos} {id T : String} {r : List V → Hp → VK → Prop} {rd : RDA}
theorem de_callB (hc : CallR X (.builtin id) r) (hl : LiftA X.K r rd) (hg : Gl X x) (hm : X.mg x = none) (hv : bootBuiltins x = some (.builtin id)) (ha : DA X (e :: es) tr) (hn : x ≠ "__name__" := by decide) (hdb : (x == ("__debug__" : Str)) = false := by decide)
    (he : starEach (e :: es) X.env = (false, eval e X.env) :: starEach es X.env := by rfl) (hpl : (backTo pos (starEach es X.env)).any (·.1) = false := by rfl) : DE X (.Call (.Name x p) (e :: es) [] pos) (dCB rd tr) :=
  PE.weak (pe_callB hc hg hm hv ha hn hdb he hpl) fun _ _ _ h => eOf_cb hl h
theorem de_callTy (hc : CallR X (.type T) r) (hl : LiftA X.K r rd) (hg : Gl X x) (hm : X.mg x = none) (hv : bootBuiltins x = some (.type T)) (ha : DA X (e :: es) tr) (hn : x ≠ "__name__" := by decide) (hdb : (x == ("__debug__" : Str)) = false := by decide)
    (he : starEach (e :: es) X.env = (false, eval e X.env) :: starEach es X.env := by rfl) (hpl : (backTo pos (starEach es X.env)).any (·.1) = false := by rfl) : DE X (.Call (.Name x p) (e :: es) [] pos) (dCB rd tr) :=
  PE.weak (pe_callTy hc hg hm hv ha hn hdb he hpl) fun _ _ _ h => eOf_cb hl h
end

/-! ### statements -/
def dNext : TDS := fun E δ μ => E.nx δ μ
def dSeq (t u : TDS) : TDS := fun E δ μ => t { E with nx := u E } δ μ
def dIfS (c : TDT) (t u : TDS) : TDS := fun E δ μ => c δ μ fun b μ1 => if b = true then t E δ μ1 else u E δ μ1
def dRet (te : TD) : TDS := fun E δ μ => te δ μ E.rt
def dRetN : TDS := fun E _ μ => E.rt .non μ
def dDrop (te : TD) : TDS := fun E δ μ => te δ μ fun _ μ1 => E.nx δ μ1
def dSet (i : Nat) (te : TD) : TDS := fun E δ μ => te δ μ fun d μ1 => E.nx (δ.set i (some d)) μ1
def dNever : TDS := fun _ _ _ => False
section
variable {X : Cx} {a b c e : Expr} {pos : Pos} {st : Stmt} {rest : List Stmt} {t u : TDS} {te : TD} {tc : TDT}
theorem dss_nil : DSs X [] dNext := PSs.weak pss_nil fun D σ H ⟨δ, F, μ, ED, l, rs, q, k⟩ => k.1 σ δ F μ H (Ex.refl F) l rs q
theorem dss_cons (h1 : DS X st t) (h2 : DSs X rest u) : DSs X (st :: rest) (dSeq t u) :=
  PSs.weak (pss_cons h1 h2) fun D σ H ⟨δ, F, μ, ED, l, rs, q, k⟩ => ⟨δ, F, μ, _, l, rs, q, fun σ1 δ1 F1 μ1 H1 e1 l1 r1 q1 => ⟨δ1, F1, μ1, _, l1, r1, q1, k.mono e1⟩, k.2⟩
theorem dss_one (h1 : DS X st t) : DSs X [st] t := pss_one h1
theorem ds_never : DS X st dNever := PS.weak ps_never fun _ _ _ ⟨_, _, _, _, _, _, q, _⟩ => q
theorem dss_never {sts : List Stmt} : DSs X sts dNever := PSs.weak pss_never fun _ _ _ ⟨_, _, _, _, _, _, q, _⟩ => q
theorem ds_expr (he : DE X e te) (hs : swapsWith e none pos.line X.env = pure false := by rfl) : DS X (.Expr e pos) (dDrop te) :=
  PS.weak (ps_expr he hs) fun D σ H ⟨δ, F, μ, ED, l, rs, q, k⟩ => ⟨δ, F, μ, _, l, rs, q, fun v d F1 μ1 H1 e1 l1 r1 q1 => k.1 σ δ F1 μ1 H1 e1 l1 (rs.mono e1) q1⟩
theorem ds_ret (he : DE X e te) : DS X (.Return (some e) pos) (dRet te) :=
  PS.weak (ps_ret he) fun D σ H ⟨δ, F, μ, ED, l, rs, q, k⟩ => ⟨δ, F, μ, _, l, rs, q, k.2.1⟩
theorem ds_retN : DS X (.Return none pos) dRetN :=
  PS.weak ps_retN fun D σ H ⟨δ, F, μ, ED, l, rs, q, k⟩ => k.2.1 .non .non F μ H (Ex.refl F) l .non q
theorem ds_if {sa sb : List Stmt} (hc : DT X c tc) (ha : DSs X sa t) (hb : DSs X sb u) : DS X (.If c sa sb pos) (dIfS tc t u) :=
  PS.weak (ps_if hc ha hb) fun D σ H ⟨δ, F, μ, ED, l, rs, q, k⟩ => ⟨δ, F, μ, _, l, rs, q, fun c F1 μ1 H1 e1 l1 q1 => by
    cases c with
    | true => exact ⟨δ, F1, μ1, ED, l1, rs.mono e1, q1, k.mono e1⟩
    | false => exact ⟨δ, F1, μ1, ED, l1, rs.mono e1, q1, k.mono e1⟩⟩
theorem ds_set {i : Nat} {x : Str} {pos' : Pos} (hN : X.N.Nodup) (hi : X.N[i]? = some x) (hx : Loc X.env.scope x) (he : DE X e te) (hs : swapsWith e (some (.Name x pos')) pos.line X.env = pure false := by rfl) (hf : X.fn x = true ∨ X.env.scope.names.lookup x = some .local := by first | exact .inl rfl | exact .inr rfl | assumption) :
    DS X (.Assign [.Name x pos'] e pos) (dSet i te) :=
  PS.weak (ps_set hN hi hx he hs hf) fun D σ H ⟨δ, F, μ, ED, l, rs, q, k⟩ => ⟨δ, F, μ, _, l, rs, q, fun v d F1 μ1 H1 e1 l1 r1 q1 => k.1 _ _ F1 μ1 H1 e1 l1 ((rs.mono e1).set r1 i) q1⟩
end

/-! ### a def -/
abbrev SpD := List D → Mem → DK → Prop
def spOf (K : PySem.W.Frag) (spd : SpD) : Sp := fun vs H Q _ => ∃ ds F μ QD, Lay K F μ H ∧ Reps K F vs ds ∧ spd ds μ QD ∧ KOf K F QD Q
def dStart (n : Nat) (ds : List D) : DSt := ds.map some ++ List.replicate (n - ds.length) none
theorem repSt_start {K : PySem.W.Frag} {F : Hp} : ∀ {vs : List V} {ds : List D} (m : Nat), Reps K F vs ds → RepSt K F (vs.map some ++ List.replicate m none) (ds.map some ++ List.replicate m none)
  | _, _, 0, .nil => .nil
  | _, _, m + 1, .nil => by
    rw [List.map_nil, List.map_nil, List.nil_append, List.nil_append, List.replicate_succ, List.replicate_succ]
    have := repSt_start (K := K) (F := F) m .nil
    exact .no this
  | _, _, m, .cons h r => .so h (repSt_start m r)
section
variable {P : Program} {w : World} {K : PySem.W.Frag} {mg : Str → Option Value} {base : Heap}
/-- THE RULE for a def -/
theorem fun_ok {x qual : Str} {st : Stmt} {f : Addr} {fd : FuncData} {N ps : List Str} {k : Nat} {spd : SpD} (F : Fun K x qual st f fd) (S : FnScope N ps (defScope st)) (len : ∀ ds μ Q, spd ds μ Q → ds.length = ps.length) (t : TDS)
    (hbody : ∀ (X : Cx), X.K = K → X.mg = mg → X.base = base → X.prog = P → X.w = w → X.N = N → X.env.scope = defScope st → X.calm = true → Room k X.A → (∀ x, X.fn x = true) → X.ex = [] → DSs X (defBody st) t)
    (hmath : ∀ ds μ Q, spd ds μ Q → t { nx := fun _ μ' => Q .non μ', rt := Q } (dStart N.length ds) μ) : FnOk P w K mg base CX0 (k + 1) f fd ps (spOf K spd) := by
  refine F.ok S (fun vs H Q E h => ?_) (fun cdv A outer s H vs Q E hr h => ?_)
  · obtain ⟨ds, F, μ, QD, l, r, q, k⟩ := h
    rw [r.length]
    exact len _ _ _ q
  · obtain ⟨ds, F, μ, QD, l, r, q, kk⟩ := h
    refine ⟨sOf K t, hbody _ rfl rfl rfl rfl rfl rfl rfl rfl hr (fun _ => rfl) rfl, dStart N.length ds, F, μ, _, l, ?_, hmath _ _ _ q, fun σ δ F1 μ1 H1 e1 l1 r1 q1 => kk _ _ F1 μ1 H1 e1 l1 .non q1, kk, fun _ _ _ _ _ _ _ _ z => z.elim, fun _ _ _ _ _ _ _ _ z => z.elim⟩
    unfold L2.start dStart
    rw [r.length]
    exact repSt_start _ r
end
end DL
-- DB
set_option maxRecDepth 100000
namespace DL
open PySem PySem.Spec PyProof.Rows L2

/-! ### a def's promise where no repr is under way -/
structure FnG (P : Program) (w : World) (K : PySem.W.Frag) (mg : Str → Option Value) (base : Heap) (CX : CXT) (k : Nat) (f : Addr) (fd : FuncData) (ps : List Str) (sp : Sp) : Prop where
  size : ∀ zs H Q E, sp zs H Q E → zs.length = ps.length
  does : ∀ (A : Around) (fs : List Env) (s : Shared) (H : Hp) (args : Args) (us : List Value) (zs : List V) (Q : VK) (E : XK), A.guards = some [] → Room k A → Env0 P w K mg base A fs s H →
    BindsTo s fd args (ps.zip us) → Vals zs us → sp zs H Q E → codeAny (model P w) A (.call (.ref f) args) (CR CX fs P w H s Q E) s
section
variable {P : Program} {w : World} {K : PySem.W.Frag} {mg : Str → Option Value} {base : Heap} {CX : CXT}
theorem FnG.mono {j k : Nat} {f : Addr} {fd : FuncData} {ps : List Str} {sp : Sp} (G : FnG P w K mg base CX j f fd ps sp) (h : j ≤ k) : FnG P w K mg base CX k f fd ps sp :=
  ⟨G.size, fun A fs s H args us zs Q E hg room => G.does A fs s H args us zs Q E hg (room.mono h)⟩
theorem FnG.imp {k : Nat} {f : Addr} {fd : FuncData} {ps : List Str} {sp sp' : Sp} (G : FnG P w K mg base CX k f fd ps sp) (h : ∀ zs H Q E, sp' zs H Q E → sp zs H Q E) : FnG P w K mg base CX k f fd ps sp' :=
  ⟨fun zs H Q E q => G.size zs H Q E (h _ _ _ _ q), fun A fs s H args us zs Q E hg room e0 hb hv hs => G.does A fs s H args us zs Q E hg room e0 hb hv (h _ _ _ _ hs)⟩
/-- a def by its body -/
theorem fng_of {k : Nat} {f : Addr} {nm qual : Str} {pars : Arguments} {code : List Stmt} {sc : Scope} {v1 v2 v3 v4 cdv v5 v6 : Value} {a1 a2 : Option Addr} {osl : Array (Option Value)} {N ps : List Str} {sp : Sp}
    (found : K.lookup f = some ⟨v6, a2, .func (PySem.W.fnOf nm qual pars code sc v1 v2 v3 v4 a1 cdv v5), osl⟩) (hcd : PySem.W.codeIn K cdv qual = true) (S : FnScope N ps sc) (size : ∀ zs H Q E, sp zs H Q E → zs.length = ps.length)
    (go : ∀ (A : Around) (fs : List Env) (s : Shared) (H : Hp) (zs : List V) (Q : VK) (E : XK), A.guards = some [] → Room k (A.deeper (envOfC qual sc s.heap.objs.size f cdv)) → sp zs H Q E →
      ∃ t, PSs (cxOf CX P w K mg base N qual sc f cdv A fs s H E) code t ∧ t { nx := fun _ H' => Q .non H', rt := Q } (L2.start N zs) H) :
    FnG P w K mg base CX (k + 1) f (PySem.W.fnOf nm qual pars code sc v1 v2 v3 v4 a1 cdv v5) ps sp := by
  refine ⟨size, fun A fs s H args us zs Q E hg room e0 hb rel asked => ?_⟩
  have kin : K.In s.heap := e0.mod.kin.keeps fun b o e => (e0.bs b o e).1
  have nolim : s.heap.NoLimit := e0.mod.nolimit.keeps fun b o e => (e0.bs b o e).1
  refine codeAny_call_function room.depth (kin _ _ found) rfl S.co S.gen rfl (PySem.W.codeRec_of kin hcd) (hb _ _ _ _ ?_)
  refine wpAny_newFunctionEnv_cells S.kind (fun y hy => ?_) fun env henv s1 inn => ?_
  · rcases S.par y.1 (List.of_mem_zip hy).1 with here | here
    · exact .inl here
    · exact .inr ⟨here, PySem.W.cellsFrom_some _ _ _ (.inl here)⟩
  · subst henv
    refine ⟨nolim.keeps inn.toInCall.keep, codeAny_func ?_⟩
    obtain ⟨t, ht, hq⟩ := go A fs s H zs Q E hg (room.deeper _) asked
    refine wpAny_mono (ht.run [] s1 (L2.start N zs) H _ (inv_start S room.hd e0 (size _ _ _ _ asked) rel inn) hq) (fun fl s2 end2 => ?_) fun e s2 end2 => end2
    match fl, end2 with
    | .ret u, ⟨v, σ2, H2, J, rv, q⟩ => exact ⟨v, H2, J.os, J.bare, J.base, J.hok, rv, q⟩
    | .next, ⟨σ2, H2, J, q⟩ => exact ⟨.non, H2, J.os, J.bare, J.base, J.hok, rfl, q⟩
    | .brk, ⟨_, _, _, q⟩ => exact q.elim
    | .cont, ⟨_, _, _, q⟩ => exact q.elim
end
section
variable {X : Cx} {CX : CXT} {k : Nat} {f : Addr} {fd : FuncData} {ps ks : List Str} {sp : Sp} {E : XK} {x : Str} {p pos : Pos} {e : Expr} {es : List Expr} {kws : List Keyword} {t tk : TA}
theorem does_call (hgd : X.A.guards = some []) {pins : List (Addr × Obj)} {σ : L2.St} {H : Hp} {s : Shared} {Q : VK} {args : Args} {us : List Value} {zs : List V} (G : FnG X.prog X.w X.K X.mg X.base CX k f fd ps sp) (room : Room k X.A)
    (hb : us.length = ps.length → BindsTo s fd args (ps.zip us)) (out : Passes CX X E) (I : Inv X pins σ H s) (rel : Vals zs us) (asked : sp zs H Q E) :
    codeAny (model X.prog X.w) X.A (.call (.ref f) args) (fun r s' => match r with | .ok (.ret u) => EP X pins σ Q u s' | .ok _ => False | .error v => X.xe v s') s := by
  refine codeAny_mono (G.does X.A X.stack s H args us zs Q E hgd room I.env0 (hb (by rw [← rel.length]; exact G.size _ _ _ _ asked)) rel asked) fun r s2 end2 => ?_
  match r, end2 with
  | .error v, end2 => exact out pins σ H s v s2 I end2
  | .ok (.ret u), end2 => exact I.after end2
  | .ok .next, end2 => exact end2.elim
  | .ok .brk, end2 => exact end2.elim
  | .ok .cont, end2 => exact end2.elim
theorem callG (hgd : X.A.guards = some []) {pins : List (Addr × Obj)} {σ : L2.St} {H : Hp} {s : Shared} {Q : VK} {us : List Value} {zs : List V} (G : FnG X.prog X.w X.K X.mg X.base CX k f fd ps sp) (room : Room k X.A)
    (hb : Binds X.K fd ps []) (out : Passes CX X E) (I : Inv X pins σ H s) (rel : Vals zs us) (asked : sp zs H Q E) : wpAny (model X.prog X.w) X.A (call (.ref f) us) (EP X pins σ Q) X.xe s := by
  refine wpAny_call (codeAny_mono (does_call hgd G room (fun hl => ?_) out I rel asked) fun r s2 end2 => ?_)
  · have := hb s us I.kIn (by rw [List.append_nil]; exact hl)
    rw [List.append_nil] at this
    exact this
  · match r, end2 with
    | .error v, end2 => exact end2
    | .ok (.ret u), end2 => exact end2
    | .ok .next, end2 => exact end2.elim
    | .ok .brk, end2 => exact end2.elim
    | .ok .cont, end2 => exact end2.elim
/-- f(e, ..) -/
theorem pe_callG (hgd : X.A.guards = some []) (G : FnG X.prog X.w X.K X.mg X.base CX k f fd ps sp) (room : Room k X.A) (hg : Gl X x) (hm : X.mg x = some (.ref f)) (hk : PySem.W.keepIn X.K (.ref f) = true) (hb : Binds X.K fd ps []) (out : Passes CX X E)
    (ha : PA X (e :: es) t) (hdb : (x == ("__debug__" : Str)) = false := by decide) (he : starEach (e :: es) X.env = (false, eval e X.env) :: starEach es X.env := by rfl) (hpl : (backTo pos (starEach es X.env)).any (·.1) = false := by rfl) :
    PE X (.Call (.Name x p) (e :: es) [] pos) (tCall sp [] E t) := by
  refine ⟨fun pins s σ H Q I asked => wpAny_Call_Name_kw (ld_glob I hg hm ?_ hdb)⟩
  refine PySem.W.callWith_K (h₀ := X.base) I.ok.mod.kin hk (thn (ha.run pos pins s σ H _ I asked) fun us s1 ⟨zs, H1, I1, rel, q⟩ => ⟨I1.kIn, ?_⟩) he hpl
  have q2 : sp (zs ++ []) H1 Q E := q
  rw [List.append_nil] at q2
  exact callG hgd G room hb out I1 rel q2
end

/-! ### over D -/
def dCall (spd : SpD) (t : TDA) : TD := fun δ μ Q => t δ μ fun ds μ1 => spd ds μ1 Q
def dCallK (spd : SpD) (gD : List D → List D → List D) (t tk : TDA) : TD := fun δ μ Q => t δ μ fun ds μ1 => tk δ μ1 fun zs μ2 => spd (gD ds zs) μ2 Q
/-- a def of the text that keeps a promise over D -/
structure DefOk (P : Program) (w : World) (K : PySem.W.Frag) (mg : Str → Option Value) (base : Heap) (k : Nat) (x : Str) (st : Stmt) (ps : List Str) (spd : SpD) : Prop where
  ex : ∃ (f : Addr) (fd : FuncData), mg x = some (.ref f) ∧ PySem.W.keepIn K (.ref f) = true ∧ Binds K fd ps [] ∧
    (∃ (qual : Str) (v1 v2 v3 v4 v5 : Value) (an : Option Addr), fd = PySem.W.fnOf x qual (defArgs st) (defBody st) (defScope st) .none v1 v2 v3 an v4 v5) ∧
    FnG P w K mg base CX0 k f fd ps (spOf K spd)
section
variable {P : Program} {w : World} {K : PySem.W.Frag} {mg : Str → Option Value} {base : Heap}
theorem DefOk.mono {j k : Nat} {x : Str} {st : Stmt} {ps : List Str} {spd : SpD} (D : DefOk P w K mg base j x st ps spd) (h : j ≤ k) : DefOk P w K mg base k x st ps spd := by
  obtain ⟨f, fd, h1, h2, h3, h4, G⟩ := D.ex
  exact ⟨f, fd, h1, h2, h3, h4, G.mono h⟩
theorem DefOk.imp {k : Nat} {x : Str} {st : Stmt} {ps : List Str} {spd spd' : SpD} (D : DefOk P w K mg base k x st ps spd) (h : ∀ ds μ Q, spd' ds μ Q → spd ds μ Q) : DefOk P w K mg base k x st ps spd' := by
  obtain ⟨f, fd, h1, h2, h3, h4, G⟩ := D.ex
  exact ⟨f, fd, h1, h2, h3, h4, G.imp fun zs H Q E ⟨ds, F, μ, QD, l, r, q, kk⟩ => ⟨ds, F, μ, QD, l, r, h _ _ _ q, kk⟩⟩
/-- what a def's body may lean on -/
structure Here (X : Cx) (P : Program) (w : World) (K : PySem.W.Frag) (mg : Str → Option Value) (base : Heap) (k : Nat) (N : List Str) (sc : Scope) : Prop where
  eP : X.prog = P
  ew : X.w = w
  eK : X.K = K
  emg : X.mg = mg
  eb : X.base = base
  eN : X.N = N
  esc : X.env.scope = sc
  calm : X.calm = true
  gd : X.A.guards = some []
  room : Room k X.A
  fn : ∀ x, X.fn x = true
  ex : X.ex = []
theorem def_ok {x qual : Str} {st : Stmt} {f : Addr} {fd : FuncData} {N ps : List Str} {k : Nat} {spd : SpD} (F : Fun K x qual st f fd) (hm : mg x = some (.ref f)) (hb : Binds K fd ps []) (S : FnScope N ps (defScope st)) (size : ∀ ds μ Q, spd ds μ Q → ds.length = ps.length) (t : TDS)
    (hbody : ∀ (qual : Str) (f : Addr) (cdv : Value) (A : Around) (fs : List Env) (s : Shared) (H : Hp) (E : XK), (cxOf CX0 P w K mg base N qual (defScope st) f cdv A fs s H E).A.guards = some [] → Room k (cxOf CX0 P w K mg base N qual (defScope st) f cdv A fs s H E).A → DSs (cxOf CX0 P w K mg base N qual (defScope st) f cdv A fs s H E).nox (defBody st) t)
    (math : ∀ ds μ Q, spd ds μ Q → t { nx := fun _ μ' => Q .non μ', rt := Q } (dStart N.length ds) μ) : DefOk P w K mg base (k + 1) x st ps spd := by
  obtain ⟨w1, w2, v1, v2, v3, a1, cdv, ct, osl, rfl, found, hcd⟩ := F.ex
  refine ⟨f, _, hm, F.kp, hb, ⟨qual, v1, v2, v3, cdv, ct, a1, rfl⟩, ?_⟩
  refine fng_of found hcd S (fun zs H Q E ⟨ds, F, μ, QD, l, r, q, kk⟩ => by rw [r.length]; exact size _ _ _ q) fun A fs s H zs Q E hg room ⟨ds, F, μ, QD, l, r, q, kk⟩ => ?_
  refine ⟨sOf K t, (hbody _ _ _ _ _ _ _ _ hg room).nox, dStart N.length ds, F, μ, _, l, ?_, math _ _ _ q, fun σ δ F1 μ1 H1 e1 l1 r1 q1 => kk _ _ F1 μ1 H1 e1 l1 .non q1, kk, fun _ _ _ _ _ _ _ _ z => z.elim, fun _ _ _ _ _ _ _ _ z => z.elim⟩
  unfold L2.start dStart
  rw [r.length]
  exact repSt_start _ r
end
section
variable {X : Cx} {k : Nat} {ps ks : List Str} {spd : SpD} {x : Str} {st : Stmt} {p pos : Pos} {e : Expr} {es : List Expr} {kws : List Keyword} {t tk : TDA}
theorem de_call (hgd : X.A.guards = some []) (Dk : DefOk X.prog X.w X.K X.mg X.base k x st ps spd) (room : Room k X.A) (ha : DA X (e :: es) t) (hg : Gl X x := by rfl) (hdb : (x == ("__debug__" : Str)) = false := by decide)
    (he : starEach (e :: es) X.env = (false, eval e X.env) :: starEach es X.env := by rfl) (hpl : (backTo pos (starEach es X.env)).any (·.1) = false := by rfl) : DE X (.Call (.Name x p) (e :: es) [] pos) (dCall spd t) := by
  obtain ⟨f, fd, h1, h2, h3, h4, G⟩ := Dk.ex
  refine PE.weak (pe_callG hgd G room hg h1 h2 h3 pass0 ha hdb he hpl) fun σ H Q ⟨δ, F, μ, QD, l, rs, q, kk⟩ => ?_
  refine ⟨δ, F, μ, _, l, rs, q, fun vs ds F1 μ1 H1 e1 l1 r1 q1 => ?_⟩
  show spOf X.K spd (vs ++ []) H1 Q E0
  rw [List.append_nil]
  exact ⟨ds, F1, μ1, QD, l1, r1, q1, kk.mono e1⟩
/-- f(e, .., k = v, ..) -/
theorem de_callK (hgd : X.A.guards = some []) (Dk : DefOk X.prog X.w X.K X.mg X.base k x st ps spd) (room : Room k X.A) {g : List Value → List Value → List Value} {gD : List D → List D → List D} {gV : List V → List V → List V} {n m : Nat}
    (hb : ∀ (qual : Str) (v1 v2 v3 v4 v5 : Value) (an : Option Addr) (us ws : List Value), us.length = n → ws.length = m → bindArgs (PySem.W.fnOf x qual (defArgs st) (defBody st) (defScope st) .none v1 v2 v3 an v4 v5) ⟨us, ks.zip ws⟩ = pure (ps.zip (g us ws)))
    (rel : ∀ {vs us zs ws}, Vals vs us → Vals zs ws → us.length = n → ws.length = m → Vals (gV vs zs) (g us ws)) (relD : ∀ {F vs us zs ws}, Reps X.K F vs us → Reps X.K F zs ws → us.length = n → ws.length = m → Reps X.K F (gV vs zs) (gD us ws))
    (ha : DA X es t) (hkw : PK X kws (aOf X.K tk)) (hn : ∀ δ μ Q, t δ μ Q → t δ μ fun ds μ' => ds.length = n ∧ Q ds μ') (hmk : ∀ δ μ Q, tk δ μ Q → tk δ μ fun ds μ' => ds.length = m ∧ Q ds μ')
    (hall : (backToKw pos (keywordEach kws X.env)).all (·.1.isSome) = true := by rfl) (hks : (backToKw pos (keywordEach kws X.env)).filterMap (·.1) = ks := by rfl) (hg : Gl X x := by rfl)
    (hdb : (x == ("__debug__" : Str)) = false := by decide)
    (call : ∀ {Q : Value → Shared → Prop} {s : Shared} {f : Addr}, PySem.W.keepIn X.K (.ref f) = true → wpAny (model X.prog X.w) X.A (spliced (backTo pos (starEach es X.env))) (fun us s1 => wpAny (model X.prog X.w) X.A (evalAll ((backToKw pos (keywordEach kws X.env)).map (·.2)))
      (fun ws s2 => X.K.In s2.heap ∧ wpAny (model X.prog X.w) X.A (PySem.call (.ref f) us (ks.zip ws)) Q X.xe s2) X.xe s1) X.xe s →
      wpAny (model X.prog X.w) X.A (callWith pos (.ref f) [] (backTo pos (starEach es X.env)) (backToKw pos (keywordEach kws X.env))) Q X.xe s) :
    DE X (.Call (.Name x p) es kws pos) (dCallK spd gD t tk) := by
  obtain ⟨f, fd, h1, h2, h3, ⟨qual, v1, v2, v3, v4, v5, an, rfl⟩, G⟩ := Dk.ex
  refine ⟨fun pins s σ H Q I ⟨δ, F, μ, QD, l, rs, q, kk⟩ => wpAny_Call_Name_kw (ld_glob I hg h1 (call h2 ?_) hdb)⟩
  refine thn (ha.run pos pins s σ H (fun vs H1 => ∃ ds F1 μ1, Ex F F1 ∧ Lay X.K F1 μ1 H1 ∧ Reps X.K F1 vs ds ∧ ds.length = n ∧ tk δ μ1 fun zs μ2 => spd (gD ds zs) μ2 QD) I ⟨δ, F, μ, _, l, rs, hn _ _ _ q, fun vs ds F1 μ1 H1 e1 l1 r1 ⟨z1, q1⟩ => ⟨ds, F1, μ1, e1, l1, r1, z1, q1⟩⟩) ?_
  intro us s1 ⟨vs, H1, I1, r1, ds, F1, μ1, e1, l1, rd, z1, q1⟩
  refine thn (hkw.run pos pins s1 σ H1 (fun zs H2 => ∃ es F2 μ2, Ex F1 F2 ∧ Lay X.K F2 μ2 H2 ∧ Reps X.K F2 zs es ∧ es.length = m ∧ spd (gD ds es) μ2 QD) I1 ⟨δ, F1, μ1, _, l1, rs.mono e1, hmk _ _ _ q1, fun vs ds F2 μ2 H2 e2 l2 r2 ⟨z2, q2⟩ => ⟨ds, F2, μ2, e2, l2, r2, z2, q2⟩⟩) ?_
  intro ws s2 ⟨zs, H2, I2, r2, es', F2, μ2, e2, l2, rd2, z2, q2⟩
  have lu : us.length = n := by rw [← r1.length, rd.length, z1]
  have lw : ws.length = m := by rw [← r2.length, rd2.length, z2]
  refine ⟨I2.kIn, wpAny_call (codeAny_mono (does_call (us := g us ws) (zs := gV vs zs) (args := ⟨us, ks.zip ws⟩) hgd G room (fun _ => .of_eq (hb qual v1 v2 v3 v4 v5 an us ws lu lw)) pass0 I2 (rel r1 r2 lu lw) ⟨gD ds es', F2, μ2, QD, l2, relD (rd.mono e2) rd2 z1 z2, q2, kk.mono (e1.trans e2)⟩) fun r s3 end3 => ?_)⟩
  match r, end3 with
  | .error v, end3 => exact end3
  | .ok (.ret u), end3 => exact end3
  | .ok .next, end3 => exact end3.elim
  | .ok .brk, end3 => exact end3.elim
  | .ok .cont, end3 => exact end3.elim
end
end DL
-- DC
set_option maxRecDepth 100000
namespace DL
open PySem PySem.Spec PyProof.Rows L2

/-! ### lists and tuples, as D has them -/
def asL (μ : Mem) : D → Option (List D)
  | .lst xs => some xs
  | .ref a => μ a
  | .scr ns => some (ns.map D.int)
  | _ => none
theorem reps_ints {K : PySem.W.Frag} {F : Hp} : ∀ ns : List Int, Reps K F (ns.map V.int) (ns.map D.int)
  | [] => .nil
  | n :: ns => .cons (.int n) (reps_ints ns)
theorem asL_rep {K : PySem.W.Frag} {F : Hp} {μ : Mem} {H : Hp} (l : Lay K F μ H) {v : V} {d : D} {xs : List D} (r : Rep K F v d) (e : asL μ d = some xs) : ∃ a vs, v = .ref a ∧ SqL K H a vs ∧ Reps K F vs xs := by
  cases r with
  | lst h rs =>
    cases e
    exact ⟨_, _, rfl, .inl (.inl (l.fz _ _ h)), rs⟩
  | ref a =>
    obtain ⟨_, vs, h, rs⟩ := l.mu a xs e
    exact ⟨a, vs, rfl, .inl (.inl h), rs⟩
  | scr h =>
    cases e
    exact ⟨_, _, rfl, ex_l l.fz h, reps_ints _⟩
  | _ => cases e
theorem tup_rep {K : PySem.W.Frag} {F : Hp} {μ : Mem} {H : Hp} (l : Lay K F μ H) {v : V} {xs : List D} (r : Rep K F v (.tup xs)) : ∃ a vs, v = .ref a ∧ SqT K H a vs ∧ SqT K F a vs ∧ Reps K F vs xs := by
  cases r with
  | tup h rs => exact ⟨_, _, rfl, ex_t l.fz h, h, rs⟩
theorem lst_rep {K : PySem.W.Frag} {F : Hp} {μ : Mem} {H : Hp} (l : Lay K F μ H) {v : V} {xs : List D} (r : Rep K F v (.lst xs)) : ∃ a vs, v = .ref a ∧ SqL K H a vs ∧ Reps K F vs xs := asL_rep l r rfl

/-! ### operators -/
theorem Lift2.or {K : PySem.W.Frag} {r r' : R2} {rd rd' : RD2} (h : Lift2 K r rd) (h' : Lift2 K r' rd') : Lift2 K (fun x y H Q => r x y H Q ∨ r' x y H Q) (fun x y μ Q => rd x y μ Q ∨ rd' x y μ Q) := fun x y dx dy F μ H Q QD l rx ry q k => by
  rcases q with q | q
  · exact .inl (h x y dx dy F μ H Q QD l rx ry q k)
  · exact .inr (h' x y dx dy F μ H Q QD l rx ry q k)
theorem Lift2.imp {K : PySem.W.Frag} {r : R2} {rd rd' : RD2} (h : Lift2 K r rd) (k : ∀ x y μ Q, rd' x y μ Q → rd x y μ Q) : Lift2 K r rd' := fun x y dx dy F μ H Q QD l rx ry q kk => h x y dx dy F μ H Q QD l rx ry (k _ _ _ _ q) kk
/-- intsD in, a plain value out -/
theorem lift_rI {K : PySem.W.Frag} {C : Int → Int → Prop} {g : Int → Int → V} {gd : Int → Int → D} (hg : ∀ F i j, Rep K F (g i j) (gd i j)) : Lift2 K (rI C g) (fun x y μ Q => ∃ i j, x = .int i ∧ y = .int j ∧ C i j ∧ Q (gd i j) μ) := fun x y dx dy F μ H Q QD l rx ry ⟨i, j, ex, ey, hc, q⟩ k => by
  subst ex ey
  exact ⟨i, j, rep_int rx, rep_int ry, hc, k _ _ F μ H (Ex.refl F) l (hg F i j) q⟩
theorem lift_rI0 {K : PySem.W.Frag} {g : Int → Int → V} {gd : Int → Int → D} (hg : ∀ F i j, Rep K F (g i j) (gd i j)) : Lift2 K (rI0 g) (fun x y μ Q => ∃ i j, x = .int i ∧ y = .int j ∧ Q (gd i j) μ) := fun x y dx dy F μ H Q QD l rx ry ⟨i, j, ex, ey, q⟩ k => by
  subst ex ey
  exact ⟨i, j, rep_int rx, rep_int ry, k _ _ F μ H (Ex.refl F) l (hg F i j) q⟩
def dAdd : RD2 := fun x y μ Q => match x, y with
  | .int i, .int j => Q (.int (i + j)) μ
  | .tup xs, .tup ys => xs.length + ys.length ≤ 1000000 ∧ Q (.tup (xs ++ ys)) μ
  | .lst xs, .lst ys => xs.length + ys.length ≤ 1000000 ∧ Q (.lst (xs ++ ys)) μ
  | _, _ => False
theorem reps_nil {K : PySem.W.Frag} {F : Hp} {xs : List D} (r : Reps K F [] xs) : xs = [] := by cases r; rfl
theorem lift_catA {K : PySem.W.Frag} : Lift2 K (rCatA K) (fun x y μ Q => ∃ xs ys, x = .tup xs ∧ y = .tup ys ∧ xs.length + ys.length ≤ 1000000 ∧ Q (.tup (xs ++ ys)) μ) := fun x y dx dy F μ H Q QD l rx ry ⟨xs, ys, ex, ey, hz, q⟩ k => by
  subst ex ey
  obtain ⟨a, vs, rfl, h1, g1, r1⟩ := tup_rep l rx
  obtain ⟨b, ws, rfl, h2, g2, r2⟩ := tup_rep l ry
  refine ⟨a, b, vs, ws, rfl, rfl, h1, h2, by rw [r1.length, r2.length]; exact mil_le hz, fun e => ?_, fun _ e => ?_, fun _ _ p hp => ?_⟩
  · subst e
    have e2 := reps_nil r1
    subst e2
    exact k _ _ F μ H (Ex.refl F) l (.tup g2 r2) q
  · subst e
    have e2 := reps_nil r2
    subst e2
    rw [List.append_nil] at q
    exact k _ _ F μ H (Ex.refl F) l (.tup g1 r1) q
  · exact fin_tup l (r1.append r2) q k p hp
theorem lift_cat {K : PySem.W.Frag} : Lift2 K rCat (fun x y μ Q => ∃ xs ys, x = .lst xs ∧ y = .lst ys ∧ xs.length + ys.length ≤ 1000000 ∧ Q (.lst (xs ++ ys)) μ) := fun x y dx dy F μ H Q QD l rx ry ⟨xs, ys, ex, ey, hz, q⟩ k => by
  subst ex ey
  cases rx with
  | lst h1 r1 =>
    cases ry with
    | lst h2 r2 => exact ⟨_, _, _, _, rfl, rfl, l.fz _ _ h1, l.fz _ _ h2, by rw [r1.length, r2.length]; exact mil_le hz, fin_lst l (r1.append r2) q k⟩
theorem lift_add {K : PySem.W.Frag} : Lift2 K (fun x y H Q => rI0 (fun i j => .int (i + j)) x y H Q ∨ (rCatA K x y H Q ∨ rCat x y H Q)) dAdd :=
  Lift2.imp (Lift2.or (lift_rI0 (gd := fun i j => .int (i + j)) fun _ _ _ => .int _) (Lift2.or lift_catA lift_cat)) fun x y μ Q h => by
    unfold dAdd at h
    split at h
    · exact .inl ⟨_, _, rfl, rfl, h⟩
    · exact .inr (.inl ⟨_, _, rfl, rfl, h⟩)
    · exact .inr (.inr ⟨_, _, rfl, rfl, h⟩)
    · exact h.elim
def dSub : RD2 := fun x y μ Q => match x, y with
  | .int i, .int j => Q (.int (i - j)) μ
  | _, _ => False
def MulOk (i j : Int) : Prop := CMul i j ∨ CMulX i j
def dMul : RD2 := fun x y μ Q => match x, y with
  | .int i, .int j => MulOk i j ∧ Q (.int (i * j)) μ
  | .tup xs, .int j => xs ≠ [] ∧ 2 ≤ j ∧ j ≤ 1000 ∧ xs.length ≤ 1000 ∧ Q (.tup (List.replicate j.toNat xs).flatten) μ
  | _, _ => False
def DivOk (i j : Int) : Prop := j ≠ 0 ∧ Builtin.divisionGoesByPylong i j = false
def dFdiv : RD2 := fun x y μ Q => match x, y with
  | .int i, .int j => DivOk i j ∧ Q (.int (i.fdiv j)) μ
  | _, _ => False
def dMod : RD2 := fun x y μ Q => match x, y with
  | .int i, .int j => 0 < j ∧ Q (.int (i % j)) μ
  | _, _ => False
def dPow : RD2 := fun x y μ Q => match x, y with
  | .int i, .int j => (0 ≤ j ∧ j ≤ 1000000 ∧ i.natAbs < 2 ^ 64) ∧ Q (.int (i ^ j.toNat)) μ
  | _, _ => False
theorem lift_sub {K : PySem.W.Frag} : Lift2 K (rI0 fun i j => .int (i - j)) dSub :=
  Lift2.imp (lift_rI0 (gd := fun i j => .int (i - j)) fun _ _ _ => .int _) fun x y μ Q h => by
    unfold dSub at h
    split at h
    · exact ⟨_, _, rfl, rfl, h⟩
    · exact h.elim
section
variable {X : Cx}
theorem op_mulAny : OpR X (binaryOp .Mult) (rI MulOk fun i j => .int (i * j)) := opI fun _ _ _ _ _ _ _ hc q => mul_int q (by
  rcases hc with h | h
  · exact h.ok
  · exact h.ok)
theorem op_fdivAny : OpR X (binaryOp .FloorDiv) (rI DivOk fun i j => .int (i.fdiv j)) := opI fun _ _ _ _ _ _ _ hc q => floordiv_int hc.1 q (.inl hc.2)
end
theorem reps_flat {K : PySem.W.Frag} {F : Hp} {vs : List V} {xs : List D} (r : Reps K F vs xs) : ∀ n : Nat, Reps K F (List.replicate n vs).flatten (List.replicate n xs).flatten
  | 0 => .nil
  | n + 1 => by
    rw [List.replicate_succ, List.replicate_succ, List.flatten_cons, List.flatten_cons]
    exact r.append (reps_flat r n)
theorem lift_repT {K : PySem.W.Frag} : Lift2 K (rRepT K) (fun x y μ Q => ∃ xs j, x = .tup xs ∧ y = .int j ∧ xs ≠ [] ∧ 2 ≤ j ∧ j ≤ 1000 ∧ xs.length ≤ 1000 ∧ Q (.tup (List.replicate j.toNat xs).flatten) μ) := fun x y dx dy F μ H Q QD l rx ry ⟨xs, j, ex, ey, h0, h1, h2, h3, q⟩ k => by
  subst ex ey
  obtain ⟨a, vs, rfl, g1, _, r1⟩ := tup_rep l rx
  have e := rep_int ry
  subst e
  refine ⟨a, j, vs, rfl, rfl, g1, fun z => ?_, h1, h2, by rw [r1.length]; exact h3, fin_tup l (reps_flat r1 _) q k⟩
  subst z
  exact h0 (reps_nil r1)
theorem lift_mul {K : PySem.W.Frag} : Lift2 K (fun x y H Q => rI MulOk (fun i j => .int (i * j)) x y H Q ∨ rRepT K x y H Q) dMul :=
  Lift2.imp (Lift2.or (lift_rI (gd := fun i j => .int (i * j)) fun _ _ _ => .int _) lift_repT) fun x y μ Q h => by
    unfold dMul at h
    split at h
    · exact .inl ⟨_, _, rfl, rfl, h.1, h.2⟩
    · exact .inr ⟨_, _, rfl, rfl, h⟩
    · exact h.elim
theorem lift_fdiv {K : PySem.W.Frag} : Lift2 K (rI DivOk fun i j => .int (i.fdiv j)) dFdiv :=
  Lift2.imp (lift_rI (gd := fun i j => .int (i.fdiv j)) fun _ _ _ => .int _) fun x y μ Q h => by
    unfold dFdiv at h
    split at h
    · exact ⟨_, _, rfl, rfl, h.1, h.2⟩
    · exact h.elim
theorem lift_mod {K : PySem.W.Frag} : Lift2 K (rI (fun _ j => 0 < j) fun i j => .int (i % j)) dMod :=
  Lift2.imp (lift_rI (gd := fun i j => .int (i % j)) fun _ _ _ => .int _) fun x y μ Q h => by
    unfold dMod at h
    split at h
    · exact ⟨_, _, rfl, rfl, h.1, h.2⟩
    · exact h.elim
theorem lift_pow {K : PySem.W.Frag} : Lift2 K (rI CPow fun i j => .int (i ^ j.toNat)) dPow :=
  Lift2.imp (lift_rI (C := CPow) (gd := fun i j => .int (i ^ j.toNat)) fun _ _ _ => .int _) fun x y μ Q h => by
    unfold dPow at h
    split at h
    · exact ⟨_, _, rfl, rfl, h.1, h.2⟩
    · exact h.elim
def dLt : RD2 := fun x y μ Q => match x, y with
  | .int i, .int j => Q (.bl (decide (i < j))) μ
  | _, _ => False
def dLe : RD2 := fun x y μ Q => match x, y with
  | .int i, .int j => Q (.bl (decide (i ≤ j))) μ
  | _, _ => False
def dGt : RD2 := fun x y μ Q => match x, y with
  | .int i, .int j => Q (.bl (decide (j < i))) μ
  | _, _ => False
def dGe : RD2 := fun x y μ Q => match x, y with
  | .int i, .int j => Q (.bl (decide (j ≤ i))) μ
  | _, _ => False
theorem lift_lt {K : PySem.W.Frag} : Lift2 K (rI0 fun i j => .bl (decide (i < j))) dLt :=
  Lift2.imp (lift_rI0 (gd := fun i j => .bl (decide (i < j))) fun _ _ _ => .bl _) fun x y μ Q h => by
    unfold dLt at h
    split at h
    · exact ⟨_, _, rfl, rfl, h⟩
    · exact h.elim
theorem lift_le {K : PySem.W.Frag} : Lift2 K (rI0 fun i j => .bl (decide (i ≤ j))) dLe :=
  Lift2.imp (lift_rI0 (gd := fun i j => .bl (decide (i ≤ j))) fun _ _ _ => .bl _) fun x y μ Q h => by
    unfold dLe at h
    split at h
    · exact ⟨_, _, rfl, rfl, h⟩
    · exact h.elim
theorem lift_gt {K : PySem.W.Frag} : Lift2 K (rI0 fun i j => .bl (decide (j < i))) dGt :=
  Lift2.imp (lift_rI0 (gd := fun i j => .bl (decide (j < i))) fun _ _ _ => .bl _) fun x y μ Q h => by
    unfold dGt at h
    split at h
    · exact ⟨_, _, rfl, rfl, h⟩
    · exact h.elim
theorem lift_ge {K : PySem.W.Frag} : Lift2 K (rI0 fun i j => .bl (decide (j ≤ i))) dGe :=
  Lift2.imp (lift_rI0 (gd := fun i j => .bl (decide (j ≤ i))) fun _ _ _ => .bl _) fun x y μ Q h => by
    unfold dGe at h
    split at h
    · exact ⟨_, _, rfl, rfl, h⟩
    · exact h.elim

/-! ### == of data -/
mutual
def toPy : D → Option PyData
  | .non => some .none
  | .bl b => some (.bool b)
  | .int i => some (.int i)
  | .str x => some (.str x)
  | .tup xs => (toPys xs).map .tuple
  | .lst xs => (toPys xs).map .list
  | _ => none
def toPys : List D → Option (List PyData)
  | [] => some []
  | x :: xs => match toPy x, toPys xs with
    | some p, some ps => some (p :: ps)
    | _, _ => none
end
def toPyM (μ : Mem) (d : D) : Option PyData := match d with
  | .ref a => (μ a).bind fun xs => (toPys xs).map .list
  | d => toPy d
mutual
theorem dp_of {K : PySem.W.Frag} {F H : Hp} (e : Ex F H) : ∀ {v : V} {d : D} {p : PyData}, Rep K F v d → toPy d = some p → Dp K H v p
  | _, _, _, .non, h => by simp [toPy] at h; subst h; exact .non
  | _, _, _, .bl b, h => by simp [toPy] at h; subst h; exact .bl b
  | _, _, _, .int i, h => by simp [toPy] at h; subst h; exact .int i
  | _, _, _, .str x, h => by simp [toPy] at h; subst h; exact .str x
  | _, _, _, .ty n, h => by simp [toPy] at h
  | _, _, _, .tup g r, h => by
    simp only [toPy, Option.map_eq_some_iff] at h
    obtain ⟨ps, h1, rfl⟩ := h
    exact .tup (ex_t e g) (dps_of e r h1)
  | _, _, _, .lst g r, h => by
    simp only [toPy, Option.map_eq_some_iff] at h
    obtain ⟨ps, h1, rfl⟩ := h
    exact .lst (.inl (.inl (e _ _ g))) (dps_of e r h1)
  | _, _, _, .dic _ _, h => by simp [toPy] at h
  | _, _, _, .ref _, h => by simp [toPy] at h
  | _, _, _, .scr _, h => by simp [toPy] at h
  | _, _, _, .excB _, h => by simp [toPy] at h
  | _, _, _, .excI _ _ _, h => by simp [toPy] at h
theorem dps_of {K : PySem.W.Frag} {F H : Hp} (e : Ex F H) : ∀ {vs : List V} {ds : List D} {ps : List PyData}, Reps K F vs ds → toPys ds = some ps → DpAll K H vs ps
  | _, _, _, .nil, h => by simp [toPys] at h; subst h; exact .nil
  | _, _, _, .cons r rs, h => by
    simp only [toPys] at h
    split at h
    · rename_i p ps h1 h2
      cases h
      exact .cons (dp_of e r h1) (dps_of e rs h2)
    · cases h
end
theorem dpM_of {K : PySem.W.Frag} {F : Hp} {μ : Mem} {H : Hp} (l : Lay K F μ H) {v : V} {d : D} {p : PyData} (r : Rep K F v d) (h : toPyM μ d = some p) : Dp K H v p := by
  unfold toPyM at h
  split at h
  · rename_i a
    cases e : μ a with
    | none => rw [e] at h; cases h
    | some xs =>
      rw [e] at h
      simp only [Option.bind_some, Option.map_eq_some_iff] at h
      obtain ⟨ps, h1, rfl⟩ := h
      obtain ⟨_, vs, h2, rs⟩ := l.mu a xs e
      have ev := rep_ref r
      subst ev
      exact .lst (.inl (.inl h2)) (dps_of l.fz rs h1)
  · exact dp_of l.fz r h
def dEqD : RD2 := fun x y μ Q => ∃ p q, toPyM μ x = some p ∧ toPyM μ y = some q ∧ SeqAt.shaped p = true ∧ SeqAt.shaped q = true ∧ Q (.bl (PyData.eqv p q)) μ
def dNeD : RD2 := fun x y μ Q => ∃ p q, toPyM μ x = some p ∧ toPyM μ y = some q ∧ SeqAt.shaped p = true ∧ SeqAt.shaped q = true ∧ Q (.bl (!PyData.eqv p q)) μ
def dEqS : RD2 := fun x y μ Q => ∃ a b : Str, x = .str a ∧ y = .str b ∧ Q (.bl (decide (a = b))) μ
def dNeS : RD2 := fun x y μ Q => ∃ a b : Str, x = .str a ∧ y = .str b ∧ Q (.bl (!decide (a = b))) μ
def dEq : RD2 := fun x y μ Q => dEqD x y μ Q ∨ dEqS x y μ Q
def dNe : RD2 := fun x y μ Q => dNeD x y μ Q ∨ dNeS x y μ Q
theorem dec_strV (a b : Str) : decide (V.str a = V.str b) = decide (a = b) := by
  rw [Bool.eq_iff_iff]
  simp
theorem lift_eq {K : PySem.W.Frag} : Lift2 K (fun x y H Q => rEqD K x y H Q ∨ rEq x y H Q) dEq := Lift2.or (fun x y dx dy F μ H Q QD l rx ry ⟨p, q, h1, h2, h3, h4, hq⟩ k =>
  ⟨p, q, dpM_of l rx h1, dpM_of l ry h2, h3, h4, k _ _ F μ H (Ex.refl F) l (.bl _) hq⟩) (fun x y dx dy F μ H Q QD l rx ry ⟨a, b, ea, eb, q⟩ k => by
    subst ea eb
    rw [rep_str rx, rep_str ry]
    exact ⟨rfl, k _ _ F μ H (Ex.refl F) l (by rw [dec_strV]; exact .bl _) q⟩)
theorem lift_ne {K : PySem.W.Frag} : Lift2 K (fun x y H Q => rNeD K x y H Q ∨ rNe x y H Q) dNe := Lift2.or (fun x y dx dy F μ H Q QD l rx ry ⟨p, q, h1, h2, h3, h4, hq⟩ k =>
  ⟨p, q, dpM_of l rx h1, dpM_of l ry h2, h3, h4, k _ _ F μ H (Ex.refl F) l (.bl _) hq⟩) (fun x y dx dy F μ H Q QD l rx ry ⟨a, b, ea, eb, q⟩ k => by
    subst ea eb
    rw [rep_str rx, rep_str ry]
    exact ⟨rfl, k _ _ F μ H (Ex.refl F) l (by rw [dec_strV]; exact .bl _) q⟩)

/-! ### in, not in: flat things -/
def toV : D → Option V
  | .non => some .non | .bl b => some (.bl b) | .int i => some (.int i) | .str x => some (.str x)
  | _ => none
theorem toV_rep {K : PySem.W.Frag} {F : Hp} {v : V} {d : D} {u : V} (r : Rep K F v d) (h : toV d = some u) : v = u := by
  cases r <;> simp [toV] at h <;> exact h
def toVs : List D → Option (List V)
  | [] => some []
  | x :: xs => match toV x, toVs xs with
    | some p, some ps => some (p :: ps)
    | _, _ => none
theorem toVs_rep {K : PySem.W.Frag} {F : Hp} : ∀ {vs us : List V} {ds : List D}, Reps K F vs ds → toVs ds = some us → vs = us
  | _, _, _, .nil, h => by simp [toVs] at h; exact h.symm ▸ rfl
  | _, _, _, .cons r rs, h => by
    simp only [toVs] at h
    split at h
    · rename_i p ps h1 h2
      cases h
      rw [toV_rep r h1, toVs_rep rs h2]
    · cases h
def asS (μ : Mem) : D → Option (List D)
  | .tup xs => some xs
  | d => asL μ d
theorem asS_rep {K : PySem.W.Frag} {F : Hp} {μ : Mem} {H : Hp} (l : Lay K F μ H) {v : V} {d : D} {xs : List D} (r : Rep K F v d) (e : asS μ d = some xs) : ∃ a vs, v = .ref a ∧ (SqL K H a vs ∨ SqT K H a vs) ∧ Reps K F vs xs := by
  by_cases h : ∃ ys, d = .tup ys
  · obtain ⟨ys, rfl⟩ := h
    cases e
    obtain ⟨a, vs, e1, h1, _, r1⟩ := tup_rep l r
    exact ⟨a, vs, e1, .inr h1, r1⟩
  · have e' : asL μ d = some xs := by
      unfold asS at e
      split at e
      · rename_i ys
        exact absurd ⟨ys, rfl⟩ h
      · exact e
    obtain ⟨a, vs, e1, h1, r1⟩ := asL_rep l r e'
    exact ⟨a, vs, e1, .inl h1, r1⟩
def dIn (neg : Bool) : RD2 := fun x y μ Q => ∃ u xs us, toV x = some u ∧ asS μ y = some xs ∧ toVs xs = some us ∧ flatV u = true ∧ us.all flatV = true ∧ Q (.bl (if neg then !inV u us else inV u us)) μ
theorem lift_in {K : PySem.W.Frag} {neg : Bool} : Lift2 K (rIn K neg) (dIn neg) := fun x y dx dy F μ H Q QD l rx ry ⟨u, xs, us, h1, h2, h3, h4, h5, q⟩ k => by
  obtain ⟨a, vs, rfl, h6, r1⟩ := asS_rep l ry h2
  have e1 := toV_rep rx h1
  have e2 := toVs_rep r1 h3
  subst e1 e2
  exact ⟨a, _, rfl, h6, h4, h5, k _ _ F μ H (Ex.refl F) l (.bl _) q⟩

/-! ### subscripts, slices -/
def dIx : RD2 := fun x y μ Q => ∃ xs i d, asS μ x = some xs ∧ y = .int i ∧ atI xs i = some d ∧ Q d μ
theorem reps_atI {K : PySem.W.Frag} {F : Hp} {vs : List V} {xs : List D} (r : Reps K F vs xs) {i : Int} {d : D} (h : atI xs i = some d) : ∃ v, atI vs i = some v ∧ Rep K F v d := by
  unfold atI at h ⊢
  rw [r.length]
  cases e : ixN xs.length i with
  | none => rw [e] at h; cases h
  | some j =>
    rw [e] at h
    exact r.get h
theorem lift_ix {K : PySem.W.Frag} : Lift2 K (fun x y H Q => rIxL K x y H Q ∨ rIxT K x y H Q) dIx := fun x y dx dy F μ H Q QD l rx ry ⟨xs, i, d, h1, h2, h3, q⟩ k => by
  subst h2
  obtain ⟨a, vs, rfl, h6, r1⟩ := asS_rep l rx h1
  obtain ⟨v, h7, r2⟩ := reps_atI r1 h3
  have e := rep_int ry
  rcases h6 with h6 | h6
  · exact .inl ⟨a, vs, i, v, rfl, e, h6, h7, k _ _ F μ H (Ex.refl F) l r2 q⟩
  · exact .inr ⟨a, vs, i, v, rfl, e, h6, h7, k _ _ F μ H (Ex.refl F) l r2 q⟩
section
variable {X : Cx} {a b c e : Expr} {pos p2 : Pos} {ta tb : TD}
theorem de_ix (ha : DE X a ta) (hb : DE X b tb) (hs : PlainIx b := by first | exact fun _ _ => rfl | (with_unfolding_all exact fun _ _ => rfl)) : DE X (.Subscript a b pos) (dOp dIx ta tb) :=
  PE.weak (pe_ix (IxR.or ix_list ix_tup) ha hb hs) fun _ _ _ h => eOf_op lift_ix h
abbrev TDO := DSt → Mem → (Option Int → Mem → Prop) → Prop
def oOf (K : PySem.W.Frag) (td : TDO) : TO := fun σ H Q => ∃ δ F μ QD, Lay K F μ H ∧ RepSt K F σ δ ∧ td δ μ QD ∧ ∀ o F' μ' H', Ex F F' → Lay K F' μ' H' → QD o μ' → Q o H'
def dNoPart : TDO := fun _ μ Q => Q none μ
def dPart (t : TD) : TDO := fun δ μ Q => t δ μ fun x μ1 => ∃ i, x = .int i ∧ Q (some i) μ1
theorem do_none : PO X none (oOf X.K dNoPart) := by
  have h := po_none (X := X)
  exact ⟨fun pins s σ H Q I ⟨δ, F, μ, QD, l, rs, q, k⟩ => h.run pins s σ H Q I (k none F μ H (Ex.refl F) l q)⟩
theorem do_some (ha : DE X a ta) : PO X (some a) (oOf X.K (dPart ta)) := by
  have h := po_some (X := X) ha
  refine ⟨fun pins s σ H Q I ⟨δ, F, μ, QD, l, rs, q, k⟩ => h.run pins s σ H Q I ?_⟩
  exact ⟨δ, F, μ, _, l, rs, q, fun v d F1 μ1 H1 e1 l1 r1 ⟨i, ei, q1⟩ => by
    subst ei
    exact ⟨i, rep_int r1, k (some i) F1 μ1 H1 e1 l1 q1⟩⟩
def cutD (xs : List D) (lo hi : Option Int) : List D := (xs.drop (HT.sIx xs.length 0 lo)).take (HT.sIx xs.length xs.length hi - HT.sIx xs.length 0 lo)
theorem reps_cut {K : PySem.W.Frag} {F : Hp} {vs : List V} {xs : List D} (r : Reps K F vs xs) (lo hi : Option Int) : Reps K F (cutV vs lo hi) (cutD xs lo hi) := by
  unfold cutV cutD
  rw [r.length]
  exact (r.drop _).take _
def slV (x : D) (lo hi : Option Int) (μ : Mem) (Q : DK) : Prop := match x with
  | .tup xs => Q (.tup (cutD xs lo hi)) μ
  | d => ∃ xs, asL μ d = some xs ∧ Q (.lst (cutD xs lo hi)) μ
def dSl (te : TD) (tl th : TDO) : TD := fun δ μ Q => te δ μ fun x μ1 => tl δ μ1 fun lo μ2 => th δ μ2 fun hi μ3 => slV x lo hi μ3 Q
variable {lo hi : Option Expr} {tl th : TDO}
theorem de_slice (he : DE X e ta) (hl : PO X lo (oOf X.K tl)) (hh : PO X hi (oOf X.K th)) : DE X (.Subscript e (.Slice lo hi none p2) pos) (dSl ta tl th) := by
  refine PE.weak (pe_slice (SlR.or sl_list sl_tupA) he hl hh) fun σ H Q ⟨δ, F, μ, QD, l, rs, q, k⟩ => ?_
  refine ⟨δ, F, μ, _, l, rs, q, fun v d F1 μ1 H1 e1 l1 r1 q1 => ⟨δ, F1, μ1, _, l1, rs.mono e1, q1, fun lo F2 μ2 H2 e2 l2 q2 => ⟨δ, F2, μ2, _, l2, rs.mono (e1.trans e2), q2, fun hi F3 μ3 H3 e3 l3 q3 => ?_⟩⟩⟩
  have r3 := r1.mono (e2.trans e3)
  have k3 := k.mono ((e1.trans e2).trans e3)
  by_cases h : ∃ ys, d = .tup ys
  · obtain ⟨ys, rfl⟩ := h
    obtain ⟨a, vs, rfl, g1, g2, r4⟩ := tup_rep l3 r3
    refine .inr ⟨a, vs, rfl, g1, fun hw => ?_, fun _ => fin_tup l3 (reps_cut r4 lo hi) q3 k3⟩
    have e : cutD ys lo hi = ys := by
      unfold cutD
      rw [r4.length] at hw
      rw [hw.1, hw.2, List.drop_zero, Nat.sub_zero]
      exact List.take_length
    have q3' : QD (.tup (cutD ys lo hi)) μ3 := q3
    rw [e] at q3'
    exact k3 _ _ F3 μ3 H3 (Ex.refl F3) l3 (.tup g2 r4) q3'
  · have q3' : ∃ xs, asL μ3 d = some xs ∧ QD (.lst (cutD xs lo hi)) μ3 := by
      cases d with
      | tup xs => exact absurd ⟨xs, rfl⟩ h
      | _ => exact q3
    obtain ⟨xs, g0, q4⟩ := q3'
    obtain ⟨a, vs, rfl, g1, r4⟩ := asL_rep l3 r3 g0
    exact .inl ⟨a, vs, rfl, g1, fin_lst l3 (reps_cut r4 lo hi) q4 k3⟩
end

/-! ### built-ins by values -/
theorem reps1 {K : PySem.W.Frag} {F : Hp} {vs : List V} {d : D} (r : Reps K F vs [d]) : ∃ v, vs = [v] ∧ Rep K F v d := by
  cases r with
  | cons r1 r2 => cases r2; exact ⟨_, rfl, r1⟩
theorem reps2 {K : PySem.W.Frag} {F : Hp} {vs : List V} {d e : D} (r : Reps K F vs [d, e]) : ∃ v u, vs = [v, u] ∧ Rep K F v d ∧ Rep K F u e := by
  cases r with
  | cons r1 r2 =>
    cases r2 with
    | cons r3 r4 => cases r4; exact ⟨_, _, rfl, r1, r3⟩
def dLen : RDA := fun ds μ Q => ∃ d xs, ds = [d] ∧ asS μ d = some xs ∧ Q (.int xs.length) μ
theorem lift_len {K : PySem.W.Frag} : LiftA K (fun xs H Q => ∃ p ys, xs = [.ref p] ∧ (SqL K H p ys ∨ SqT K H p ys) ∧ Q (.int ys.length) H) dLen := fun vs ds F μ H Q QD l rs ⟨d, xs, e, h, q⟩ k => by
  subst e
  obtain ⟨v, rfl, r⟩ := reps1 rs
  obtain ⟨a, ws, rfl, h1, r1⟩ := asS_rep l r h
  exact ⟨a, ws, rfl, h1, k _ _ F μ H (Ex.refl F) l (by rw [r1.length]; exact .int _) q⟩
def dAbs : RDA := fun ds μ Q => ∃ i : Int, ds = [.int i] ∧ Q (.int i.natAbs) μ
theorem lift_abs {K : PySem.W.Frag} : LiftA K (fun xs H Q => ∃ i, xs = [.int i] ∧ Q (.int (if i < 0 then -i else i)) H) dAbs := fun vs ds F μ H Q QD l rs ⟨i, e, q⟩ k => by
  subst e
  obtain ⟨v, rfl, r⟩ := reps1 rs
  refine ⟨i, by rw [rep_int r], k _ _ F μ H (Ex.refl F) l ?_ q⟩
  have : (if i < 0 then -i else i) = (i.natAbs : Int) := by split <;> omega
  rw [this]
  exact .int _
def dInt : RDA := fun ds μ Q => ∃ i : Int, ds = [.int i] ∧ Q (.int i) μ
theorem lift_int {K : PySem.W.Frag} : LiftA K (fun xs H Q => (∃ i, xs = [.int i] ∧ Q (.int i) H) ∨ ∃ k, xs = [.bl k] ∧ Q (.int (if k then 1 else 0)) H) dInt := fun vs ds F μ H Q QD l rs ⟨i, e, q⟩ k => by
  subst e
  obtain ⟨v, rfl, r⟩ := reps1 rs
  exact .inl ⟨i, by rw [rep_int r], k _ _ F μ H (Ex.refl F) l (.int _) q⟩
def intsD : List D → Option (List Int)
  | [] => some []
  | .int i :: xs => (intsD xs).map (i :: ·)
  | _ :: _ => none
theorem ints_rep {K : PySem.W.Frag} {F : Hp} : ∀ {vs : List V} {ds : List D} {ns : List Int}, Reps K F vs ds → intsD ds = some ns → vs = ns.map V.int
  | _, _, _, .nil, h => by simp [intsD] at h; subst h; rfl
  | _, _, _, .cons r rs, h => by
    rename_i v vs d ds
    cases d with
    | int i =>
      simp only [intsD, Option.map_eq_some_iff] at h
      obtain ⟨ms, h1, rfl⟩ := h
      rw [rep_int r, ints_rep rs h1, List.map_cons]
    | _ => simp [intsD] at h
def dSum : RDA := fun ds μ Q => ∃ d xs ns, ds = [d] ∧ asL μ d = some xs ∧ intsD xs = some ns ∧ Q (.int ns.sum) μ
theorem lift_sum {K : PySem.W.Frag} : LiftA K (rSum K) dSum := fun vs ds F μ H Q QD l rs ⟨d, xs, ns, e, h, h2, q⟩ k => by
  subst e
  obtain ⟨v, rfl, r⟩ := reps1 rs
  obtain ⟨a, ws, rfl, h1, r1⟩ := asL_rep l r h
  have e := ints_rep r1 h2
  subst e
  exact ⟨a, ns, rfl, h1, k _ _ F μ H (Ex.refl F) l (.int _) q⟩
def bools : List D → Option (List Bool)
  | [] => some []
  | .bl i :: xs => (bools xs).map (i :: ·)
  | _ :: _ => none
theorem bools_rep {K : PySem.W.Frag} {F : Hp} : ∀ {vs : List V} {ds : List D} {ns : List Bool}, Reps K F vs ds → bools ds = some ns → vs = ns.map V.bl
  | _, _, _, .nil, h => by simp [bools] at h; subst h; rfl
  | _, _, _, .cons r rs, h => by
    rename_i v vs d ds
    cases d with
    | bl i =>
      simp only [bools, Option.map_eq_some_iff] at h
      obtain ⟨ms, h1, rfl⟩ := h
      rw [rep_bl r, bools_rep rs h1, List.map_cons]
    | _ => simp [bools] at h
def dAll : RDA := fun ds μ Q => ∃ d xs bs, ds = [d] ∧ asL μ d = some xs ∧ bools xs = some bs ∧ Q (.bl (bs.all id)) μ
theorem lift_all {K : PySem.W.Frag} : LiftA K (rAll K) dAll := fun vs ds F μ H Q QD l rs ⟨d, xs, ns, e, h, h2, q⟩ k => by
  subst e
  obtain ⟨v, rfl, r⟩ := reps1 rs
  obtain ⟨a, ws, rfl, h1, r1⟩ := asL_rep l r h
  have e := bools_rep r1 h2
  subst e
  exact ⟨a, ns, rfl, h1, k _ _ F μ H (Ex.refl F) l (.bl _) q⟩
def dGcd : RDA := fun ds μ Q => ∃ i j : Int, ds = [.int i, .int j] ∧ Q (.int ((Nat.gcd i.natAbs j.natAbs : Nat) : Int)) μ
theorem lift_gcd {K : PySem.W.Frag} : LiftA K rGcd dGcd := fun vs ds F μ H Q QD l rs ⟨i, j, e, q⟩ k => by
  subst e
  obtain ⟨v, u, rfl, r1, r2⟩ := reps2 rs
  exact ⟨i, j, by rw [rep_int r1, rep_int r2], k _ _ F μ H (Ex.refl F) l (.int _) q⟩
/-- tuple(xs), list(xs) -/
def dTupleOf : RDA := fun ds μ Q => ∃ d xs, ds = [d] ∧ asS μ d = some xs ∧ Q (.tup xs) μ
theorem lift_tupleOf {K : PySem.W.Frag} : LiftA K (fun xs H Q => ∃ p ys, xs = [.ref p] ∧ ((SqL K H p ys ∧ ∀ l, H l = none → Q (.ref l) (upd H l (.tup ys))) ∨ (SqT K H p ys ∧ Q (.ref p) H))) dTupleOf := fun vs ds F μ H Q QD l rs ⟨d, xs, e, h, q⟩ k => by
  subst e
  obtain ⟨v, rfl, r⟩ := reps1 rs
  by_cases hd : ∃ ys, d = .tup ys
  · obtain ⟨ys, rfl⟩ := hd
    cases h
    obtain ⟨a, ws, rfl, g1, g2, r1⟩ := tup_rep l r
    exact ⟨a, ws, rfl, .inr ⟨g1, k _ _ F μ H (Ex.refl F) l (.tup g2 r1) q⟩⟩
  · have h' : asL μ d = some xs := by
      cases d with
      | tup ys => exact absurd ⟨ys, rfl⟩ hd
      | _ => exact h
    obtain ⟨a, ws, rfl, h1, r1⟩ := asL_rep l r h'
    exact ⟨a, ws, rfl, .inl ⟨h1, fin_tup l r1 q k⟩⟩
def dListOf : RDA := fun ds μ Q => ∃ d xs, ds = [d] ∧ asS μ d = some xs ∧ Q (.lst xs) μ
def dListOfM : RDA := fun ds μ Q => ∃ d xs, ds = [d] ∧ asS μ d = some xs ∧ ∀ p, μ p = none → Q (.ref p) (mset μ p xs)
theorem lift_listOf {K : PySem.W.Frag} : LiftA K (fun xs H Q => ∃ p ys, xs = [.ref p] ∧ (SqL K H p ys ∨ SqT K H p ys) ∧ ∀ l, H l = none → Q (.ref l) (upd H l (.lst ys))) dListOf := fun vs ds F μ H Q QD l rs ⟨d, xs, e, h, q⟩ k => by
  subst e
  obtain ⟨v, rfl, r⟩ := reps1 rs
  obtain ⟨a, ws, rfl, h1, r1⟩ := asS_rep l r h
  exact ⟨a, ws, rfl, h1, fin_lst l r1 q k⟩
theorem lift_listOfM {K : PySem.W.Frag} : LiftA K (fun xs H Q => ∃ p ys, xs = [.ref p] ∧ (SqL K H p ys ∨ SqT K H p ys) ∧ ∀ l, H l = none → Q (.ref l) (upd H l (.lst ys))) dListOfM := fun vs ds F μ H Q QD l rs ⟨d, xs, e, h, q⟩ k => by
  subst e
  obtain ⟨v, rfl, r⟩ := reps1 rs
  obtain ⟨a, ws, rfl, h1, r1⟩ := asS_rep l r h
  exact ⟨a, ws, rfl, h1, fin_lstM l r1 q k⟩
/-- str(n) -/
def dStrI : RDA := fun ds μ Q => ∃ i : Int, ds = [.int i] ∧ i.natAbs.log2 < 1920 ∧ Q (.str (toString i)) μ
theorem lift_strI {K : PySem.W.Frag} : LiftA K (fun xs H Q => ∃ i, xs = [.int i] ∧ i.natAbs.log2 < 1920 ∧ Q (.str (toString i)) H) dStrI := fun vs ds F μ H Q QD l rs ⟨i, e, h, q⟩ k => by
  subst e
  obtain ⟨v, rfl, r⟩ := reps1 rs
  exact ⟨i, by rw [rep_int r], h, k _ _ F μ H (Ex.refl F) l (.str _) q⟩
def dDivmod : RDA := fun ds μ Q => ∃ i j : Int, ds = [.int i, .int j] ∧ CDiv i j ∧ Q (.tup [.int (i / j), .int (i % j)]) μ
theorem lift_divmod {K : PySem.W.Frag} : LiftA K (fun xs H Q => ∃ i j, xs = [.int i, .int j] ∧ CDiv i j ∧ ∀ p, H p = none → Q (.ref p) (upd H p (.tup [.int (i / j), .int (i % j)]))) dDivmod := fun vs ds F μ H Q QD l rs ⟨i, j, e, h, q⟩ k => by
  subst e
  obtain ⟨v, u, rfl, r1, r2⟩ := reps2 rs
  exact ⟨i, j, by rw [rep_int r1, rep_int r2], h, fin_tup l (.cons (.int _) (.cons (.int _) .nil)) q k⟩
/-! ### types -/
def tyName : D → Option String
  | .non => some "NoneType" | .bl _ => some "bool" | .int _ => some "int" | .str _ => some "str"
  | .tup _ => some "tuple" | .lst _ => some "list" | .dic _ => some "dict"
  | _ => none
theorem tyX_of {K : PySem.W.Frag} {F : Hp} {μ : Mem} {H : Hp} (l : Lay K F μ H) {v : V} {d : D} {n : String} (r : Rep K F v d) (h : tyName d = some n) : TyX K H v (.type n) := by
  cases r with
  | non => cases h; exact .base .non
  | bl b => cases h; exact .base (.bl b)
  | int i => cases h; exact .base (.int i)
  | str x => cases h; exact .base (.str x)
  | ty n => cases h
  | tup g rs =>
    cases h
    rcases ex_t l.fz g with (g | ⟨o, g⟩) | ⟨o, its, m, g1, g2, _⟩
    · exact .base (.tup g)
    · exact .fTuple g
    · exact .kTuple g1 g2
  | lst g rs => cases h; exact .base (.lst (l.fz _ _ g))
  | dic g rs => cases h; exact .base (.dK (l.fz _ _ g))
  | ref a => cases h
  | scr g => cases h
  | excB g => cases h
  | excI g _ _ => cases h
  | xcp g _ => cases h
  | xcn => cases h
/-- isinstance(x, T), T a built-in type -/
def dIsi : RDA := fun ds μ Q => ∃ d n T b, ds = [d, .ty T] ∧ tyName d = some n ∧ kitB n T = some b ∧ Q (.bl b) μ
theorem lift_isi {K : PySem.W.Frag} : LiftA K (rIsi K) dIsi := fun vs ds F μ H Q QD l rs ⟨d, n, T, b, e, h1, h2, q⟩ k => by
  subst e
  obtain ⟨v, u, rfl, r1, r2⟩ := reps2 rs
  have e2 := rep_ty r2
  subst e2
  exact ⟨v, _, _, _, b, rfl, .ty T, tyX_of l r1 h1, kit_ty h2, k _ _ F μ H (Ex.refl F) l (.bl _) q⟩
end DL
-- DD
set_option maxRecDepth 100000
namespace DL
open PySem PySem.Spec PyProof.Rows L2 RZ

/-! ### targets: a name, a tuple of names -/
inductive Tg where
  | nm (i : Nat)
  | tp (is : List Nat)
  | tn (is : List (Nat ⊕ List Nat))
def hNs : List Nat → TGs
  | [] => gNil
  | i :: is => gCons (gName i) (hNs is)
/-- names and tuples of names -/
def hNs2 (K : PySem.W.Frag) : List (Nat ⊕ List Nat) → TGs
  | [] => gNil
  | .inl i :: is => gCons (gName i) (hNs2 K is)
  | .inr js :: is => gCons (gTup K js.length (hNs js)) (hNs2 K is)
def hTg (K : PySem.W.Frag) : Tg → TG
  | .nm i => gName i
  | .tp is => gTup K is.length (hNs is)
  | .tn is => gTup K is.length (hNs2 K is)
def setAll : List Nat → List D → DSt → DSt
  | i :: is, d :: ds, δ => setAll is ds (δ.set i (some d))
  | _, _, δ => δ
def dNs2 : List (Nat ⊕ List Nat) → List D → DSt → (DSt → Prop) → Prop
  | [], _, δ, Q => Q δ
  | .inl i :: is, d :: ds, δ, Q => dNs2 is ds (δ.set i (some d)) Q
  | .inr js :: is, d :: ds, δ, Q => ∃ es, d = .tup es ∧ es.length = js.length ∧ dNs2 is ds (setAll js es δ) Q
  | _ :: _, [], _, _ => False
def dTg : Tg → D → DSt → (DSt → Prop) → Prop
  | .nm i, d, δ, Q => Q (δ.set i (some d))
  | .tp is, d, δ, Q => ∃ ds, d = .tup ds ∧ ds.length = is.length ∧ Q (setAll is ds δ)
  | .tn is, d, δ, Q => ∃ ds, d = .tup ds ∧ ds.length = is.length ∧ dNs2 is ds δ Q
def slots2 : List (Nat ⊕ List Nat) → List Nat
  | [] => []
  | .inl i :: is => i :: slots2 is
  | .inr js :: is => js ++ slots2 is
def Tg.slots : Tg → List Nat
  | .nm i => [i]
  | .tp is => is
  | .tn is => slots2 is
def setAllV : List Nat → List V → L2.St → L2.St
  | i :: is, d :: ds, δ => setAllV is ds (δ.set i (some d))
  | _, _, δ => δ
theorem hNs_run : ∀ (is : List Nat) (vs : List V) (σ : L2.St) (H : Hp) (Q : L2.St → Hp → Prop), vs.length = is.length → Q (setAllV is vs σ) H → hNs is vs σ H Q
  | [], [], _, _, _, _, q => ⟨rfl, q⟩
  | i :: is, v :: vs, σ, H, Q, h, q => ⟨v, vs, rfl, hNs_run is vs _ H Q (by simpa using h) q⟩
  | [], _ :: _, _, _, _, h, _ => by simp at h
  | _ :: _, [], _, _, _, h, _ => by simp at h
theorem repSt_setAll {K : PySem.W.Frag} {F : Hp} : ∀ (is : List Nat) {vs : List V} {ds : List D} {σ : L2.St} {δ : DSt}, Reps K F vs ds → RepSt K F σ δ → RepSt K F (setAllV is vs σ) (setAll is ds δ)
  | [], _, _, _, _, .nil, r => r
  | [], _, _, _, _, .cons _ _, r => r
  | _ :: _, _, _, _, _, .nil, r => r
  | i :: is, _, _, _, _, .cons h hs, r => repSt_setAll is hs (r.set h i)
theorem wset : ∀ (vs : List Nat) (i : Nat) (x : Option V) (σ : L2.St), i ∈ vs → wipe (σ.set i x) vs = wipe σ vs := by
  intro vs i x
  induction vs with
  | nil => intro σ h; cases h
  | cons w ws ih =>
    intro σ h
    show (wipe (σ.set i x) ws).set w none = (wipe σ ws).set w none
    by_cases e : i ∈ ws
    · rw [ih σ e]
    · have ew : i = w := by
        rcases List.mem_cons.mp h with z | z
        · exact z
        · exact absurd z e
      subst ew
      have out : ∀ (us : List Nat), i ∉ us → ∀ σ : L2.St, wipe (σ.set i x) us = (wipe σ us).set i x := by
        intro us
        induction us with
        | nil => intro _ σ; rfl
        | cons u us ih2 =>
          intro hn σ
          show (wipe (σ.set i x) us).set u none = ((wipe σ us).set u none).set i x
          rw [ih2 (fun z => hn (List.mem_cons_of_mem _ z)) σ, List.set_comm]
          exact fun z => hn (z ▸ List.mem_cons_self)
      rw [out ws e σ, List.set_set]

theorem wipe_wipe (us : List Nat) (τ : L2.St) : ∀ ws : List Nat, (∀ i ∈ ws, i ∈ us) → wipe (wipe τ ws) us = wipe τ us
  | [], _ => rfl
  | w :: ws, h => by
    show wipe ((wipe τ ws).set w none) us = _
    rw [wset us w none _ (h w List.mem_cons_self), wipe_wipe us τ ws fun i hi => h i (List.mem_cons_of_mem _ hi)]
theorem wipe_setAll {vs : List Nat} : ∀ (js : List Nat) (us : List V) (σ : L2.St), (∀ i ∈ js, i ∈ vs) → wipe (setAllV js us σ) vs = wipe σ vs := by
  intro js
  induction js with
  | nil => intro us σ _; cases us <;> rfl
  | cons j js ih =>
    intro us σ hj
    cases us with
    | nil => rfl
    | cons u us =>
      show wipe (setAllV js us (σ.set j (some u))) vs = _
      rw [ih us _ fun i hi => hj i (List.mem_cons_of_mem _ hi), wset vs j _ σ (hj j List.mem_cons_self)]
theorem hNs2_run {K : PySem.W.Frag} {F : Hp} {μ : Mem} {H : Hp} (l : Lay K F μ H) {QD : DSt → Prop} {Q : L2.St → Hp → Prop} (σ0 : L2.St) (ss : List Nat)
    (k : ∀ σ' δ', RepSt K F σ' δ' → QD δ' → (∀ vs : List Nat, (∀ i ∈ ss, i ∈ vs) → wipe σ' vs = wipe σ0 vs) → Q σ' H) : ∀ (is : List (Nat ⊕ List Nat)) (vs : List V) (ds : List D) (σ : L2.St) (δ : DSt), (∀ i ∈ slots2 is, i ∈ ss) → Reps K F vs ds → ds.length = is.length → RepSt K F σ δ → dNs2 is ds δ QD →
      (∀ ws : List Nat, (∀ i ∈ ss, i ∈ ws) → wipe σ ws = wipe σ0 ws) → hNs2 K is vs σ H Q
  | [], _, _, σ, δ, _, r, hl, rs, q, hw => by
    cases r with
    | nil => exact ⟨rfl, k σ δ rs q hw⟩
    | cons _ _ => cases hl
  | .inl i :: is, _, _, σ, δ, hs, r, hl, rs, q, hw => by
    cases r with
    | nil => cases hl
    | cons r1 r2 =>
      refine ⟨_, _, rfl, ?_⟩
      exact hNs2_run l σ0 ss k is _ _ _ _ (fun j hj => hs j (List.mem_cons_of_mem _ hj)) r2 (Nat.succ.inj hl) (rs.set r1 i) q fun ws h => by rw [wset ws i _ σ (h i (hs i List.mem_cons_self)), hw ws h]
  | .inr js :: is, _, _, σ, δ, hs, r, hl, rs, q, hw => by
    cases r with
    | nil => cases hl
    | cons r1 r2 =>
      obtain ⟨es, rfl, he, q⟩ := q
      obtain ⟨a, ws, rfl, h1, _, r3⟩ := tup_rep l r1
      refine ⟨_, _, rfl, a, ws, rfl, h1, by rw [r3.length]; exact he, hNs_run js ws σ H _ (by rw [r3.length]; exact he) ?_⟩
      exact hNs2_run l σ0 ss k is _ _ _ _ (fun j hj => hs j (List.mem_append_right _ hj)) r2 (Nat.succ.inj hl) (repSt_setAll js r3 rs) q fun us h => by rw [wipe_setAll js ws σ fun j hj => h j (hs j (List.mem_append_left _ hj)), hw us h]
theorem hTg_run {K : PySem.W.Frag} {F : Hp} {μ : Mem} {H : Hp} (l : Lay K F μ H) (g : Tg) {v : V} {d : D} {σ : L2.St} {δ : DSt} {QD : DSt → Prop} {Q : L2.St → Hp → Prop} (r : Rep K F v d) (rs : RepSt K F σ δ) (h : dTg g d δ QD)
    (k : ∀ σ' δ', RepSt K F σ' δ' → QD δ' → (∀ vs : List Nat, (∀ i ∈ g.slots, i ∈ vs) → wipe σ' vs = wipe σ vs) → Q σ' H) : hTg K g v σ H Q := by
  cases g with
  | nm i =>
    exact k _ _ (rs.set r i) h fun vs hv => wset vs i _ σ (hv i List.mem_cons_self)
  | tp is =>
    obtain ⟨ds, rfl, hl, q⟩ := h
    obtain ⟨a, ws, rfl, h1, _, r1⟩ := tup_rep l r
    exact ⟨a, ws, rfl, h1, by rw [r1.length]; exact hl, hNs_run is ws σ H Q (by rw [r1.length]; exact hl) (k _ _ (repSt_setAll is r1 rs) q fun vs hv => wipe_setAll is ws σ hv)⟩
  | tn is =>
    obtain ⟨ds, rfl, hl, q⟩ := h
    obtain ⟨a, ws, rfl, h1, _, r1⟩ := tup_rep l r
    exact ⟨a, ws, rfl, h1, by rw [r1.length]; exact hl, hNs2_run l σ (slots2 is) k is ws ds σ δ (fun _ h => h) r1 hl rs q fun _ _ => rfl⟩

/-! ### what a loop walks -/
def JOk (K : PySem.W.Frag) (F : Hp) (J : It) (ds : List D) : Prop := ∀ i F2 μ2 H2, Ex F F2 → Lay K F2 μ2 H2 → i ≤ ds.length →
  (∀ d, ds[i]? = some d → J.go i H2 ∧ ∀ x H3, J.yld i H2 x H3 → ∃ F3, Ex F2 F3 ∧ Lay K F3 μ2 H3 ∧ Rep K F3 x d) ∧ (i = ds.length → J.stop i H2)
abbrev TDI := DSt → Mem → (List D → Mem → Prop) → Prop
def iOf (K : PySem.W.Frag) (td : TDI) : TI := fun σ H R => ∃ δ F μ QD, Lay K F μ H ∧ RepSt K F σ δ ∧ td δ μ QD ∧ ∀ J ds F' μ' H', Ex F F' → Lay K F' μ' H' → JOk K F' J ds → QD ds μ' → R J H'
theorem PI.weak {X : Cx} {tg it : Expr} {t u : TI} (h : PI X tg it t) (k : ∀ σ H Q, u σ H Q → t σ H Q) : PI X tg it u := ⟨fun pins s σ H Q I q => h.run pins s σ H Q I (k _ _ _ q)⟩
abbrev DI (X : Cx) (tg e : Expr) (t : TDI) : Prop := PI X tg e (iOf X.K t)
def iLst (te : TD) : TDI := fun δ μ Q => te δ μ fun d μ1 => ∃ xs, d = .lst xs ∧ Q xs μ1
def iTupD (te : TD) : TDI := fun δ μ Q => te δ μ fun d μ1 => ∃ xs, d = .tup xs ∧ Q xs μ1
def iRng (ta : TDA) : TDI := fun δ μ Q => ta δ μ fun ds μ1 => ∃ n : Int, ds = [.int n] ∧ n ≤ 1000000 ∧ -1000000 ≤ n ∧ Q ((List.range n.toNat).map fun i : Nat => .int (i : Int)) μ1
def iRngAB (ta : TDA) : TDI := fun δ μ Q => ta δ μ fun ds μ1 => ∃ m n : Int, ds = [.int m, .int n] ∧ (n ≤ 1000000 ∧ -1000000 ≤ n ∧ m ≤ 1000000 ∧ -1000000 ≤ m) ∧ Q ((List.range (n - m).toNat).map fun i : Nat => .int (m + (i : Int))) μ1
section
variable {X : Cx} {tg e e2 : Expr} {te : TD} {ta : TDA} {p pos : Pos}
theorem di_lst (h : DE X e te) : DI X tg e (iLst te) := by
  refine PI.weak (pi_list h) fun σ H R ⟨δ, F, μ, QD, l, rs, q, k⟩ => ⟨δ, F, μ, _, l, rs, q, fun v d F1 μ1 H1 e1 l1 r1 ⟨xs, ed, q1⟩ => ?_⟩
  subst ed
  cases r1 with
  | @lst a vs _ hF rr =>
    refine ⟨a, rfl, ⟨vs, .inl (.inl (l1.fz _ _ hF))⟩, k _ _ F1 μ1 H1 e1 l1 (fun i F2 μ2 H2 e2 l2 hi => ⟨fun d hd => ?_, fun hl => ?_⟩) q1⟩
    · obtain ⟨x, hx, rx⟩ := rr.get hd
      have hs : SqL X.K H2 a vs := .inl (.inl (l2.fz _ _ (e2 _ _ hF)))
      refine ⟨⟨vs, x, hs, hx⟩, fun y H3 ⟨eh, hy⟩ => ⟨F2, Ex.refl F2, ?_, ?_⟩⟩
      · rw [eh]; exact l2
      · have := (hy vs hs).symm.trans hx
        cases this
        exact rx.mono e2
    · exact ⟨vs, .inl (.inl (l2.fz _ _ (e2 _ _ hF))), by rw [rr.length]; omega⟩
theorem di_tup (h : DE X e te) : DI X tg e (iTupD te) := by
  refine PI.weak (pi_tup h) fun σ H R ⟨δ, F, μ, QD, l, rs, q, k⟩ => ⟨δ, F, μ, _, l, rs, q, fun v d F1 μ1 H1 e1 l1 r1 ⟨xs, ed, q1⟩ => ?_⟩
  subst ed
  obtain ⟨a, vs, rfl, h1, g1, rr⟩ := tup_rep l1 r1
  refine ⟨a, rfl, ⟨vs, h1⟩, k _ _ F1 μ1 H1 e1 l1 (fun i F2 μ2 H2 e2 l2 hi => ⟨fun d hd => ?_, fun hl => ?_⟩) q1⟩
  · obtain ⟨x, hx, rx⟩ := rr.get hd
    have hs : SqT X.K H2 a vs := ex_t l2.fz (ex_t e2 g1)
    refine ⟨⟨vs, x, hs, hx⟩, fun y H3 ⟨eh, hy⟩ => ⟨F2, Ex.refl F2, ?_, ?_⟩⟩
    · rw [eh]; exact l2
    · have := (hy vs hs).symm.trans hx
      cases this
      exact rx.mono e2
  · exact ⟨vs, ex_t l2.fz (ex_t e2 g1), by rw [rr.length]; omega⟩
theorem jok_rng {K : PySem.W.Frag} {F : Hp} {m : Int} {n : Nat} : JOk K F (Itr m n) ((List.range n).map fun i : Nat => D.int (m + (i : Int))) := fun i F2 μ2 H2 e2 l2 hi => by
  rw [List.length_map, List.length_range] at hi
  refine ⟨fun d hd => ?_, fun hl => ?_⟩
  · rw [List.getElem?_map] at hd
    have hlt : i < n := by
      by_cases z : i < n
      · exact z
      · rw [List.getElem?_eq_none (by rw [List.length_range]; omega)] at hd
        cases hd
    rw [List.getElem?_range hlt] at hd
    cases hd
    refine ⟨hlt, fun x H3 ⟨eh, ex⟩ => ⟨F2, Ex.refl F2, ?_, ?_⟩⟩
    · rw [eh]; exact l2
    · rw [ex]; exact .int _
  · rw [List.length_map, List.length_range] at hl
    exact Nat.le_of_eq hl.symm
theorem di_rng {a : Expr} (hm : X.mg "range" = none) (ha : DA X [a] ta) (hg : Gl X "range" := by rfl) (hs : starEach [a] X.env = [(false, eval a X.env)] := by rfl) : DI X tg (.Call (.Name "range" p) [a] [] pos) (iRng ta) := by
  refine PI.weak (pi_range1 hg hm ha hs) fun σ H R ⟨δ, F, μ, QD, l, rs, q, k⟩ => ⟨δ, F, μ, _, l, rs, q, fun vs ds F1 μ1 H1 e1 l1 r1 ⟨n, ed, h1, h2, q1⟩ => ?_⟩
  subst ed
  obtain ⟨v, rfl, rv⟩ := reps1 r1
  refine ⟨n, by rw [rep_int rv], by omega, by omega, k _ _ F1 μ1 H1 e1 l1 jok_rng ?_⟩
  have : (fun i : Nat => D.int (0 + (i : Int))) = fun i : Nat => D.int (i : Int) := by funext i; rw [Int.zero_add]
  rw [this]
  exact q1
theorem di_rngAB {a b : Expr} (hm : X.mg "range" = none) (ha : DA X [a, b] ta) (hg : Gl X "range" := by rfl) (hs : starEach [a, b] X.env = [(false, eval a X.env), (false, eval b X.env)] := by rfl) (hs2 : starEach [b] X.env = [(false, eval b X.env)] := by rfl) : DI X tg (.Call (.Name "range" p) [a, b] [] pos) (iRngAB ta) := by
  refine PI.weak (pi_range2 hg hm ha hs hs2) fun σ H R ⟨δ, F, μ, QD, l, rs, q, k⟩ => ⟨δ, F, μ, _, l, rs, q, fun vs ds F1 μ1 H1 e1 l1 r1 ⟨m, n, ed, ⟨h1, h2, h3, h4⟩, q1⟩ => ?_⟩
  subst ed
  obtain ⟨v, u, rfl, rv, ru⟩ := reps2 r1
  exact ⟨m, n, by rw [rep_int rv, rep_int ru], ⟨by omega, by omega, by omega, by omega⟩, k _ _ F1 μ1 H1 e1 l1 jok_rng q1⟩
/-- zip of two lists, or of two tuples -/
def zipD : List D → List D → List D
  | x :: xs, y :: ys => .tup [x, y] :: zipD xs ys
  | _, _ => []
theorem zipD_get : ∀ (xs ys : List D) (i : Nat) (d : D), (zipD xs ys)[i]? = some d → ∃ x y, xs[i]? = some x ∧ ys[i]? = some y ∧ d = .tup [x, y]
  | x :: xs, y :: ys, 0, d, h => by
    simp [zipD] at h
    exact ⟨x, y, rfl, rfl, h.symm⟩
  | x :: xs, y :: ys, i + 1, d, h => by
    obtain ⟨a, b, h1, h2, h3⟩ := zipD_get xs ys i d (by simpa [zipD] using h)
    exact ⟨a, b, by simpa using h1, by simpa using h2, h3⟩
  | [], _, i, d, h => by simp [zipD] at h
  | _ :: _, [], i, d, h => by simp [zipD] at h
theorem zipD_len : ∀ (xs ys : List D), (zipD xs ys).length = min xs.length ys.length
  | x :: xs, y :: ys => by simp [zipD, zipD_len xs ys, Nat.succ_min_succ]
  | [], _ => by simp [zipD]
  | _ :: _, [] => by simp [zipD]
def iZipD (ta : TDA) : TDI := fun δ μ Q => ta δ μ fun ds μ1 => ∃ xs ys, (ds = [.lst xs, .lst ys] ∨ ds = [.tup xs, .tup ys]) ∧ Q (zipD xs ys) μ1
theorem new_pair {K : PySem.W.Frag} {F : Hp} {μ : Mem} {H : Hp} (l : Lay K F μ H) {T : Addr} (hT : H T = none) {x y : V} {d e : D} (rx : Rep K F x d) (ry : Rep K F y e) : ∃ F3, Ex F F3 ∧ Lay K F3 μ (upd H T (.tup [x, y])) ∧ Rep K F3 (.ref T) (.tup [d, e]) :=
  ⟨_, Ex.new (l.none_F hT), l.new hT _, .tup (.inl (.inl upd_same)) (.cons (rx.mono (Ex.new (l.none_F hT))) (.cons (ry.mono (Ex.new (l.none_F hT))) .nil))⟩
theorem di_zip {elts : List Expr} {kk : Nat} {tpos : Pos} (hm : X.mg "zip" = none) (ha : DA X [e, e2] ta) (hg : Gl X "zip" := by rfl) (hs : starEach [e, e2] X.env = (false, eval e X.env) :: starEach [e2] X.env := by rfl) (hpl : (backTo pos (starEach [e2] X.env)).any (·.1) = false := by rfl) :
    DI X (.Tuple elts kk tpos) (.Call (.Name "zip" p) [e, e2] [] pos) (iZipD ta) := by
  refine PI.weak (pi_zipA hg hm ha hs hpl) fun σ H R ⟨δ, F, μ, QD, l, rs, q, k⟩ => ⟨δ, F, μ, _, l, rs, q, fun vs ds F1 μ1 H1 e1 l1 r1 ⟨xs, ys, ed, q1⟩ => ?_⟩
  rcases ed with ed | ed
  · subst ed
    obtain ⟨v, u, rfl, rv, ru⟩ := reps2 r1
    cases rv with
    | @lst a ws _ hF rr =>
      cases ru with
      | @lst b zs _ hG tt =>
        refine ⟨a, b, ws, zs, rfl, .inl ⟨.inl (.inl (l1.fz _ _ hF)), .inl (.inl (l1.fz _ _ hG)), k _ _ F1 μ1 H1 e1 l1 (fun i F2 μ2 H2 e2 l2 hi => ⟨fun d hd => ?_, fun hl => ?_⟩) q1⟩⟩
        · obtain ⟨x, y, h1, h2, rfl⟩ := zipD_get _ _ _ _ hd
          obtain ⟨vx, hx, rx⟩ := rr.get h1
          obtain ⟨vy, hy, ry⟩ := tt.get h2
          have sa : SqL X.K H2 a ws := .inl (.inl (l2.fz _ _ (e2 _ _ hF)))
          have sb : SqL X.K H2 b zs := .inl (.inl (l2.fz _ _ (e2 _ _ hG)))
          refine ⟨⟨ws, zs, vx, vy, sa, sb, hx, hy⟩, fun z H3 ⟨T, x', y', ez, hT, eH, f1, f2⟩ => ?_⟩
          subst ez eH
          have e3 := (f1 _ sa).symm.trans hx
          have e4 := (f2 _ sb).symm.trans hy
          cases e3
          cases e4
          exact new_pair l2 hT (rx.mono e2) (ry.mono e2)
        · rw [zipD_len] at hl
          refine ⟨ws, zs, .inl (.inl (l2.fz _ _ (e2 _ _ hF))), .inl (.inl (l2.fz _ _ (e2 _ _ hG))), ?_⟩
          rw [rr.length, tt.length]
          omega
  · subst ed
    obtain ⟨v, u, rfl, rv, ru⟩ := reps2 r1
    obtain ⟨a, ws, rfl, h1, hF, rr⟩ := tup_rep l1 rv
    obtain ⟨b, zs, rfl, h2, hG, tt⟩ := tup_rep l1 ru
    refine ⟨a, b, ws, zs, rfl, .inr ⟨h1, h2, k _ _ F1 μ1 H1 e1 l1 (fun i F2 μ2 H2 e2 l2 hi => ⟨fun d hd => ?_, fun hl => ?_⟩) q1⟩⟩
    · obtain ⟨x, y, h1, h2, rfl⟩ := zipD_get _ _ _ _ hd
      obtain ⟨vx, hx, rx⟩ := rr.get h1
      obtain ⟨vy, hy, ry⟩ := tt.get h2
      have sa : SqT X.K H2 a ws := ex_t l2.fz (ex_t e2 hF)
      have sb : SqT X.K H2 b zs := ex_t l2.fz (ex_t e2 hG)
      refine ⟨⟨ws, zs, vx, vy, sa, sb, hx, hy⟩, fun z H3 ⟨T, x', y', ez, hT, eH, f1, f2⟩ => ?_⟩
      subst ez eH
      have e3 := (f1 _ sa).symm.trans hx
      have e4 := (f2 _ sb).symm.trans hy
      cases e3
      cases e4
      exact new_pair l2 hT (rx.mono e2) (ry.mono e2)
    · rw [zipD_len] at hl
      refine ⟨ws, zs, ex_t l2.fz (ex_t e2 hF), ex_t l2.fz (ex_t e2 hG), ?_⟩
      rw [rr.length, tt.length]
      omega

/-! ### for -/
def forD (g : Tg) (tb : TDS) (E : DEnds) : List D → DSt → Mem → Prop
  | [], δ, μ => E.nx δ μ
  | d :: ds, δ, μ => dTg g d δ fun δ' => tb { nx := forD g tb E ds, rt := E.rt, bk := E.nx, ct := forD g tb E ds } δ' μ
def dFor (wi : TDI) (g : Tg) (tb : TDS) : TDS := fun E δ μ => wi δ μ fun ds μ1 => forD g tb E ds δ μ1
theorem ds_for {iter : Expr} {body : List Stmt} {wi : TDI} {g : Tg} {tb : TDS} (hp : PassesOwn (model X.prog X.w) X.A X.env X.xe) (hc : X.calm = true) (hi : DI X tg iter wi) (hg : PG X tg (hTg X.K g)) (hb : DSs X body tb) (hs : ∀ x, foldedSetIterable iter X.env x = pure x := by intro _; rfl) : DS X (.For tg iter body [] pos) (dFor wi g tb) := by
  refine PS.weak (ps_for hp hc hi hg hb hs) fun E σ H ⟨δ, F, μ, ED, l, rs, q, k⟩ => ?_
  refine ⟨δ, F, μ, _, l, rs, q, fun J ds F1 μ1 H1 e1 l1 j q1 => ?_⟩
  refine ⟨fun i m σ H => ∃ δ F2 μ2, Ex F1 F2 ∧ Lay X.K F2 μ2 H ∧ RepSt X.K F2 σ δ ∧ forD g tb ED (ds.drop i) δ μ2 ∧ i ≤ ds.length ∧ m = ds.length - i, ⟨ds.length, δ, F1, μ1, Ex.refl F1, l1, rs.mono e1, q1, Nat.zero_le _, rfl⟩, ?_⟩
  rintro i m σ H2 ⟨δ2, F2, μ2, e2, l2, r2, q2, hle, rfl⟩
  obtain ⟨j1, j2⟩ := j i F2 μ2 H2 e2 l2 hle
  by_cases hlt : i < ds.length
  · refine .inr ⟨(j1 _ (List.getElem?_eq_getElem hlt)).1, fun σ H => ∃ δ F3 μ3, Ex F1 F3 ∧ Lay X.K F3 μ3 H ∧ RepSt X.K F3 σ δ ∧ forD g tb ED (ds.drop (i + 1)) δ μ3, fun σ' H' ⟨δ3, F3, μ3, e3, l3, r3, q3⟩ => ⟨ds.length - (i + 1), by omega, δ3, F3, μ3, e3, l3, r3, q3, hlt, rfl⟩, fun x H3 y => ?_⟩
    obtain ⟨F3, e3, l3, rx⟩ := (j1 _ (List.getElem?_eq_getElem hlt)).2 x H3 y
    rw [List.drop_eq_getElem_cons hlt] at q2
    refine hTg_run l3 g rx (r2.mono e3) q2 fun σ' δ' r' q' _ => ?_
    have k3 := k.mono ((e1.trans e2).trans e3)
    exact ⟨δ', F3, μ2, _, l3, r', q', fun σ4 δ4 F4 μ4 H4 e4 l4 r4 q4 => ⟨δ4, F4, μ4, (e2.trans e3).trans e4, l4, r4, q4⟩, k3.2.1, k3.1, fun σ4 δ4 F4 μ4 H4 e4 l4 r4 q4 => ⟨δ4, F4, μ4, (e2.trans e3).trans e4, l4, r4, q4⟩⟩
  · have e : i = ds.length := by omega
    refine .inl ⟨j2 e, ?_⟩
    rw [List.drop_eq_nil_of_le (by omega)] at q2
    exact k.1 _ _ F2 μ2 H2 (e1.trans e2) l2 r2 q2

/-! ### comprehensions -/
def wipeD (δ : DSt) : List Nat → DSt
  | [] => δ
  | v :: vs => (wipeD δ vs).set v none
theorem repSt_none {K : PySem.W.Frag} {F : Hp} : ∀ {σ : L2.St} {δ : DSt} (i : Nat), RepSt K F σ δ → RepSt K F (σ.set i none) (δ.set i none)
  | _, _, _, .nil => .nil
  | _, _, 0, .no r => .no r
  | _, _, i + 1, .no r => .no (repSt_none i r)
  | _, _, 0, .so _ r => .no r
  | _, _, i + 1, .so g r => .so g (repSt_none i r)
theorem repSt_wipe {K : PySem.W.Frag} {F : Hp} {σ : L2.St} {δ : DSt} (r : RepSt K F σ δ) : ∀ vs, RepSt K F (wipe σ vs) (wipeD δ vs)
  | [] => r
  | v :: vs => repSt_none v (repSt_wipe r vs)
def lcStep (g : Tg) (tt : TDT) (te : TD) (δ : DSt) (d : D) (μ : Mem) (k : Option D → Mem → Prop) : Prop := dTg g d δ fun δ2 => tt δ2 μ fun b μ3 => if b = true then te δ2 μ3 fun y μ4 => k (some y) μ4 else k none μ3
def lcD (g : Tg) (tt : TDT) (te : TD) (δ : DSt) (Dn : Addr) : List D → Mem → DK → Prop
  | [], μ, Q => ∃ acc, μ Dn = some acc ∧ Q (.lst acc) (mdel μ Dn)
  | d :: ds, μ, Q => lcStep g tt te δ d μ fun o μ4 => ∃ acc, μ4 Dn = some acc ∧ acc.length < 1000000 ∧ match o with
    | some y => lcD g tt te δ Dn ds (mset μ4 Dn (acc ++ [y])) Q
    | none => lcD g tt te δ Dn ds μ4 Q
def dLc (wi : TDI) (g : Tg) (tt : TDT) (te : TD) (vs : List Nat) : TD := fun δ μ Q => wi δ μ fun ds μ1 => ∀ Dn, μ1 Dn = none → lcD g tt te (wipeD δ vs) Dn ds (mset μ1 Dn []) Q
def dYes : TDT := fun _ μ Q => Q true μ
abbrev DTs (X : Cx) (ifs : List Expr) (t : TDT) : Prop := PTs X ifs (bOf X.K t)
theorem dts_nil : DTs X [] dYes := by
  have h := pts_nil (X := X)
  exact ⟨fun pins s σ H Q I ⟨δ, F, μ, QD, l, rs, q, k⟩ => h.run pins s σ H Q I (k true F μ H (Ex.refl F) l q)⟩
theorem dts_one {c : Expr} {t : TDT} (h : DT X c t) : DTs X [c] t := pts_one h
theorem lc_sound {wi : TDI} {g : Tg} {tt : TDT} {te : TD} {vs : List Nat} {K : PySem.W.Frag} (hv : ∀ i ∈ g.slots, i ∈ vs) {σ : L2.St} {H : Hp} {Q : VK} (h : eOf K (dLc wi g tt te vs) σ H Q) : tLc (iOf K wi) (hTg K g) (bOf K tt) (eOf K te) vs σ H Q := by
  obtain ⟨δ, F, μ, QD, l, rs, q, k⟩ := h
  refine ⟨δ, F, μ, _, l, rs, q, fun J ds F1 μ1 H1 e1 l1 j q1 Dn hD => ?_⟩
  have q1 := q1 Dn (l1.none_mu hD)
  refine ⟨fun i m H => ∃ F2 μ2, Ex F1 F2 ∧ Lay K F2 μ2 H ∧ lcD g tt te (wipeD δ vs) Dn (ds.drop i) μ2 QD ∧ i ≤ ds.length ∧ m = ds.length - i,
    ⟨ds.length, F1, _, Ex.refl F1, l1.newM hD .nil, q1, Nat.zero_le _, rfl⟩, ?_⟩
  rintro i m H2 ⟨F2, μ2, e2, l2, q2, hle, rfl⟩
  obtain ⟨j1, j2⟩ := j i F2 _ H2 e2 l2 hle
  by_cases hlt : i < ds.length
  · refine .inr ⟨(j1 _ (List.getElem?_eq_getElem hlt)).1, fun H => ∃ F3 μ3, Ex F1 F3 ∧ Lay K F3 μ3 H ∧ lcD g tt te (wipeD δ vs) Dn (ds.drop (i + 1)) μ3 QD,
      fun H' ⟨F3, μ3, e3, l3, q3⟩ => ⟨ds.length - (i + 1), by omega, F3, μ3, e3, l3, q3, hlt, rfl⟩, fun x H3 y => ?_⟩
    obtain ⟨F3, e3, l3, rx⟩ := (j1 _ (List.getElem?_eq_getElem hlt)).2 x H3 y
    rw [List.drop_eq_getElem_cons hlt] at q2
    have rw2 : RepSt K F3 (wipe σ vs) (wipeD δ vs) := repSt_wipe (rs.mono ((e1.trans e2).trans e3)) vs
    refine hTg_run l3 g rx rw2 q2 fun σ' δ' r' q' hw => ⟨?_, ?_⟩
    · rw [hw vs hv, wipe_wipe vs σ vs fun _ z => z]
    · refine ⟨δ', F3, μ2, _, l3, r', q', fun b F4 μ4 H4 e4 l4 q4 => ?_⟩
      cases b with
      | false =>
        obtain ⟨acc, _, _, q5⟩ := q4
        exact ⟨F4, μ4, (e2.trans e3).trans e4, l4, q5⟩
      | true =>
        refine ⟨δ', F4, μ4, _, l4, r'.mono e4, q4, fun v d F5 μ5 H5 e5 l5 r5 ⟨acc, ha, hz, q5⟩ => ?_⟩
        obtain ⟨hF, ws, hw, rws⟩ := l5.mu Dn acc ha
        exact ⟨ws, hw, by rw [rws.length]; exact mil_lt (Nat.le_of_lt hz), F5, _, ((e2.trans e3).trans e4).trans e5, l5.put ha (rws.append (.cons r5 .nil)), q5⟩
  · have e : i = ds.length := by omega
    refine .inl ⟨j2 e, ?_⟩
    rw [List.drop_eq_nil_of_le (by omega)] at q2
    obtain ⟨acc, ha, q3⟩ := q2
    obtain ⟨ws, _, hn, l3, r3⟩ := l2.freeze (p := Dn) ha
    exact k _ _ _ _ H2 ((e1.trans e2).trans (Ex.new hn)) l3 r3 q3
end
end DL
-- DX
set_option maxRecDepth 100000
set_option maxHeartbeats 4000000
/-! own exception classes, their objects held as values -/
namespace DL
open PySem PySem.Spec PyProof.Rows L2 PySem.HandSPX

/-! ### C(.., k = v): ValueError.__new__ is not asked about keywords -/
section
variable {prog : Program} {w : World} {A : Around} {E : Value → Shared → Prop} {R : Result → Shared → Prop} {h : Heap} {g : Array GenState} {d : Drawn} {t : Nat} {os : OsState}
variable {nm q : Str} {C N : Addr} {bs bm bmB : List Value} {hdct : Bool} {sn : List Str} {sub : List Value} {ab : Bool} {col : Option Bool} {dd : Option Addr} {k0 k1 k2 k3 k5 : Option Value} {B newId initId : String} {kw : List (Str × Value)}
theorem kw_new_check (Fx : ExcBaseFacts B newId initId bmB) (hT : ∀ X : String, bm.contains (.type X) = bmB.contains (.type X)) {Q : Unit → Shared → Prop}
    (cl : h.get? C = some (excClassObj nm q C N bs bm hdct sn sub ab col dd k0 k1 k2 k3 k5 newId)) (fin : Q () ⟨h, g, d, t, os⟩) : wpAny (model prog w) A (checkBuiltinCall newId ⟨[.ref C], kw⟩) Q E ⟨h, g, d, t, os⟩ := by
  have inB : (Value.ref C :: bm).contains (.type B) = true := by rw [List.contains_cons, hT, Fx.hasB, Bool.or_true]
  have star := Fx.noStar
  simp only [checkBuiltinCall, Fx.newKind, Fx.newSplit, Fx.newRow]
  repeat (first | refine wpAny_loadPart_at cl ?_ | (refine wpAny_isSubtype_exc cl ?_; rw [inB]) | refine wpAny_staticBase_exc cl ?_ | refine wpAny_madeBy_exc cl ?_ | simp only [bne_self_eq_false, Bool.false_eq_true, ite_false] | wp_step)
  exact fin
theorem kw_new (Fx : ExcBaseFacts B newId initId bmB) (hT : ∀ X : String, bm.contains (.type X) = bmB.contains (.type X))
    (cl : h.get? C = some (excClassObj nm q C N bs bm hdct sn sub ab col dd k0 k1 k2 k3 k5 newId))
    (fin : R (.ok (.ret (.ref (h.objs.size + 1)))) ⟨(h.push (PySem.W.kdv_tup [])).push (excO C h.objs.size), g, d, t, os⟩) :
    codeAny (model prog w) A (.builtin newId ⟨[.ref C], kw⟩) R ⟨h, g, d, t, os⟩ := by
  have ends := Fx.ends
  have inB : (Value.ref C :: bm).contains (.type B) = true := by rw [List.contains_cons, hT, Fx.hasB, Bool.or_true]
  have inA : (Value.ref C :: bm).contains (.type "AttributeError") = false := by rw [List.contains_cons, hT, Fx.noAttr]; rfl
  have inN : (Value.ref C :: bm).contains (.type "NameError") = false := by rw [List.contains_cons, hT, Fx.noName]; rfl
  refine codeAny_builtinAt Fx.entry ?_
  unfold Builtin.«BaseException.__new__»
  refine PySem.wpAt_bind ?_
  show PySem.wpAt _ _ _ (stack >>= _) _ _ _
  refine PySem.wpAt_bind (PySem.wpAt_stack fun p below => PySem.wpAt_of_wpAny ?_)
  wp_walk
  refine PySem.wpAt_of_wpAny ?_
  rw [Fx.owner]
  have small : ([] : List Value).length ≤ sizeLine := Nat.zero_le _
  repeat (first | with_reducible refine wpAny_madeHere_exc Fx.canon cl ?_ | with_reducible refine wpAny_loadPart_at cl ?_ | (with_reducible refine wpAny_isSubtype_exc cl ?_; first | rw [inB] | rw [inA] | rw [inN]) | wp_step)
  show R _ _
  rw [Heap.size_push]
  exact fin
theorem kw_type_call (Fx : ExcBaseFacts B newId initId bmB) (hT : ∀ X : String, bm.contains (.type X) = bmB.contains (.type X)) {fI : Addr} {Q : Fin → Shared → Prop}
    (cl : h.get? C = some (excClassObj nm q C N bs bm hdct sn sub ab col dd k0 k1 k2 k3 k5 newId))
    (li : PySem.W.Looks (model prog w) h (typeLookup (.ref C) "__init__") (some (.ref fI))) (lb : ∀ self, PySem.W.Looks (model prog w) h (bindSpecial (.ref fI) self) (.ref fI, [self]))
    (fin : codeAny (model prog w) A (.call (.ref fI) ⟨[.ref (h.objs.size + 1)], kw⟩)
      (fun r s' => match r with | .ok (.ret v) => v = .none ∧ Q (.done (.ret (.ref (h.objs.size + 1)))) s' | .ok _ => False | .error e => E e s')
      ⟨(h.push (PySem.W.kdv_tup [])).push (excO C h.objs.size), g, d, t, os⟩) :
    wpAny (model prog w) A (Builtin.«type.__call__» ⟨[.ref C], kw⟩) Q E ⟨h, g, d, t, os⟩ := by
  repeat (first | with_reducible refine wpAny_loadPart_at cl ?_ | with_reducible refine wpAny_madeBy_exc cl ?_ | wp_step)
  refine codeAny_call_builtin_code (Code.quiet_builtin _ Fx.quiet) (kw_new_check Fx hT cl ?_)
  refine kw_new Fx hT cl ?_
  show wpAny _ _ _ _ _ _
  have keeps : ∀ b o, h.get? b = some o → ((h.push (PySem.W.kdv_tup [])).push (excO C h.objs.size)).get? b = some o := fun b o e => Heap.get?_push_of_some _ (Heap.get?_push_of_some _ e)
  have cl2 := keeps _ _ cl
  have here : ((h.push (PySem.W.kdv_tup [])).push (excO C h.objs.size)).get? (h.objs.size + 1) = some (excO C h.objs.size) := by heap_get
  have inC : (Value.ref C :: bm).contains (.ref C) = true := by simp
  have li2 := li.keeps keeps
  have lb2 := (lb (.ref (h.objs.size + 1))).keeps keeps
  unfold isInstance
  repeat (first | with_reducible refine wpAny_loadPart_at here ?_ | (with_reducible refine wpAny_isSubtype_exc cl2 ?_; rw [inC]) | wp_step)
  show wpAny _ _ (typeLookup (.ref C) _) _ _ _
  refine li2.at ?_
  refine wpAny_holding (wpAny_bind (lb2.at ?_))
  refine wpAny_bind (wpAny_call (codeAny_mono fin fun r s' z => ?_))
  match r, z with
  | .error e, z => exact z
  | .ok .next, z => exact z.elim
  | .ok .brk, z => exact z.elim
  | .ok .cont, z => exact z.elim
  | .ok (.ret v), z =>
    obtain ⟨ev, z⟩ := z
    subst ev
    first
      | exact wpAny_pure (wpAny_pure z)
      | (wp_walk; exact z)
theorem kw_call (Fx : ExcBaseFacts B newId initId bmB) (hT : ∀ X : String, bm.contains (.type X) = bmB.contains (.type X)) {fI : Addr}
    (cl : h.get? C = some (excClassObj nm q C N bs bm hdct sn sub ab col dd k0 k1 k2 k3 k5 newId))
    (li : PySem.W.Looks (model prog w) h (typeLookup (.ref C) "__init__") (some (.ref fI))) (lb : ∀ self, PySem.W.Looks (model prog w) h (bindSpecial (.ref fI) self) (.ref fI, [self]))
    (fin : codeAny (model prog w) (A.under (.builtin "type.__call__" ⟨[.ref C], kw⟩)) (.call (.ref fI) ⟨[.ref (h.objs.size + 1)], kw⟩) (PySem.W.InitBack (h.objs.size + 1) R)
      ⟨(h.push (PySem.W.kdv_tup [])).push (excO C h.objs.size), g, d, t, os⟩) :
    codeAny (model prog w) A (.call (.ref C) ⟨[], kw⟩) R ⟨h, g, d, t, os⟩ := by
  have tl := tc_lookup
  have tb := tc_bind (.ref C)
  have isT : (⟨h, g, d, t, os⟩ : Shared).TypeIs (.ref C) "type" := ⟨_, cl, rfl⟩
  refine codeAny_of_tree ?_
  show wpAny _ _ (callAny (.ref C) _) _ _ _
  repeat (any_goals (first | assumption | with_reducible refine wpAny_loadPart_at cl ?_ | wp_step))
  refine ⟨rfl, ?_⟩
  refine codeAny_call_builtin_at (Code.quiet_builtin _ (by decide +kernel)) entry_typeCall (wpAny_check_type_call_sub cl (kw_type_call Fx hT cl li lb ?_))
  refine codeAny_mono fin fun r s' z => ?_
  rcases r with e | (v | _ | _ | _) <;> exact z
end

/-! ### what the top tells of such a class -/
structure Ecl (K : PySem.W.Frag) (mg : Str → Option Value) (x : Str) (C fI : Addr) (f : Str) : Prop where
  gC : mg x = some (.ref C)
  T : OexC K C
  iC : PySem.W.findIn K (.ref C) "__init__" = some (some (.ref fI))
  tC : PySem.W.typeIn K (.ref fI) = some (.type "function")
  no : PySem.W.findIn K (.ref C) f = some none
  I : ExcC K C
structure Bcl (K : PySem.W.Frag) (mg : Str → Option Value) (x : Str) (C : Addr) : Prop where
  gC : mg x = some (.ref C)
  q : PySem.W.excIn K C [.type "ValueError", .type "Exception", .type "BaseException", .type "object"] "ValueError.__new__" = true
  kC : PySem.W.keepIn K (.ref C) = true
  I : ExcC K C
/-- what such an __init__ promises -/
def spI (K : PySem.W.Frag) (f : Str) : Sp := fun vs H Q _ => ∃ (a C : Addr) (y : V), vs = [.ref a, y] ∧ OexC K C ∧ PySem.W.findIn K (.ref C) f = some none ∧ H a = some (exo a C none) ∧
  ∀ dx, H dx = none → dx ≠ a → Q .non (upd (upd H dx (exd dx [(f, y)])) a (exo a C (some dx)))
section
variable {P : Program} {w : World} {K : PySem.W.Frag} {mg : Str → Option Value} {base : Heap}
theorem init_ok {qual f : Str} {st : Stmt} {fI : Addr} {fd : FuncData} (F : Fun K "__init__" qual st fI fd) (S : FnScope [("self" : Str), f] [("self" : Str), f] (defScope st))
    (body : ∀ X : Cx, X.K = K → X.N = [("self" : Str), f] → X.env.scope = defScope st → PSs X (defBody st) (tOst K f (tVar 0) (tVar 1))) : FnG P w K mg base CX0 1 fI fd [("self" : Str), f] (spI K f) := by
  obtain ⟨w1, w2, v1, v2, v3, a1, cdv, ct, osl, rfl, found, hcd⟩ := F.ex
  refine fng_of found hcd S (fun zs H Q E ⟨a, C, y, e, _⟩ => by rw [e]; rfl) fun A fs s H zs Q E hg room ⟨a, C, y, e, T, hno, ha, q⟩ => ?_
  subst e
  refine ⟨_, body _ rfl rfl rfl, ?_⟩
  exact ⟨y, rfl, .ref a, rfl, a, C, rfl, T, hno, .inl ⟨ha, fun dx hd hne => q dx hd hne⟩⟩
end
section
variable {X : Cx} {pins : List (Addr × Obj)} {σ : L2.St} {H : Hp} {s : Shared} {C fI : Addr} {x f : Str} {fd : FuncData} {y : V} {u : Value} {Q : VK}
theorem back_made (hgd : X.A.guards = some []) {k : Nat} (room : Room (k + 2) X.A) (T : Ecl X.K X.mg x C fI f) (G : FnG X.prog X.w X.K X.mg X.base CX0 1 fI fd [("self" : Str), f] (spI X.K f)) (I : Inv X pins σ H s)
    (ry : RelV y u) (us : List Value) (kw : List (Str × Value)) {tup : Obj} (args : Args) (hb : ∀ a : Addr, ∀ s' : Shared, BindsTo s' fd ⟨.ref a :: args.pos, args.kw⟩ [("self", .ref a), (f, u)])
    (q : ∀ a dx, H a = none → H dx = none → dx ≠ a → Q (.ref a) (upd (upd H dx (exd dx [(f, y)])) a (exo a C (some dx)))) :
    codeAny (model X.prog X.w) (X.A.under (.builtin "type.__call__" ⟨.ref C :: us, kw⟩)) (.call (.ref fI) ⟨.ref (s.heap.objs.size + 1) :: args.pos, args.kw⟩)
      (PySem.W.InitBack (s.heap.objs.size + 1) fun r s' => match r with | .ok (.ret u) => EP X pins σ Q u s' | .ok _ => False | .error v => X.xe v s')
      { s with heap := (s.heap.push tup).push (excO C s.heap.objs.size) } := by
  have keeps : ∀ b o, s.heap.get? b = some o → ((s.heap.push tup).push (excO C s.heap.objs.size)).get? b = some o := fun b o e => Heap.get?_push_of_some _ (Heap.get?_push_of_some _ e)
  have here : ((s.heap.push tup).push (excO C s.heap.objs.size)).get? (s.heap.objs.size + 1) = some (excO C s.heap.objs.size) := by heap_get
  have free : H (s.heap.objs.size + 1) = none := I.hok.fresh (Nat.le_succ _)
  have J : Inv X pins σ (upd H (s.heap.objs.size + 1) (exo (s.heap.objs.size + 1) C none)) { s with heap := (s.heap.push tup).push (excO C s.heap.objs.size) } := I.laid (t' := s.toks) keeps (Nat.le_succ _) (exo_ok here)
  refine codeAny_mono (G.does _ X.stack _ _ _ _ [.ref (s.heap.objs.size + 1), y] (fun v H2 => v = .non ∧ Q (.ref (s.heap.objs.size + 1)) H2) E0 ?_ ((room.mono (by omega)).make (k := 1) C us kw) (J.env0.make C us kw) (hb _ _) (.cons rfl (.cons ry .nil)) ?_) fun r s2 end2 => ?_
  · first | exact hgd | (simp [Around.under, Code.guards, Code.isGuard, guardIds, pushGuards, hgd])
  · refine ⟨_, C, y, rfl, T.T, T.no, upd_same, fun dx hd hne => ⟨rfl, ?_⟩⟩
    rw [upd_ne hne] at hd
    have e : upd (upd (upd H (s.heap.objs.size + 1) (exo (s.heap.objs.size + 1) C none)) dx (exd dx [(f, y)])) (s.heap.objs.size + 1) (exo (s.heap.objs.size + 1) C (some dx)) = upd (upd H dx (exd dx [(f, y)])) (s.heap.objs.size + 1) (exo (s.heap.objs.size + 1) C (some dx)) := by
      funext b
      unfold upd
      split <;> rfl
    rw [e]
    exact q _ dx free hd hne
  · match r, end2 with
    | .error v, end2 => exact end2.elim
    | .ok (.ret u), end2 =>
      obtain ⟨v, H2, I2, rv, ev, q2⟩ := J.after end2
      subst ev
      exact ⟨rv, .ref _, H2, I2, rfl, q2⟩
    | .ok .next, end2 => exact end2.elim
    | .ok .brk, end2 => exact end2.elim
    | .ok .cont, end2 => exact end2.elim
theorem call_made (hgd : X.A.guards = some []) {k : Nat} (room : Room (k + 2) X.A) (T : Ecl X.K X.mg x C fI f) (G : FnG X.prog X.w X.K X.mg X.base CX0 1 fI fd [("self" : Str), f] (spI X.K f)) (I : Inv X pins σ H s) (ry : RelV y u)
    (hb : ∀ a : Addr, ∀ s' : Shared, BindsTo s' fd ⟨[.ref a, u], []⟩ [("self", .ref a), (f, u)])
    (q : ∀ a dx, H a = none → H dx = none → dx ≠ a → Q (.ref a) (upd (upd H dx (exd dx [(f, y)])) a (exo a C (some dx)))) : wpAny (model X.prog X.w) X.A (call (.ref C) [u]) (EP X pins σ Q) X.xe s := by
  obtain ⟨nm, qn, N, bs, bm, sn, sub, ab, col, dd, k0, k1, k2, k3, k5, hC, hbm⟩ := T.T.cls
  have back := back_made (tup := PySem.W.kdv_tup [u]) (args := ⟨[u], []⟩) hgd room T G I ry [u] [] hb q
  obtain ⟨hp, g, d, t, os⟩ := s
  refine wpAny_call (codeAny_mono (call_own F.excBase_ValueError (fun Y => refsVE_contains Y bm hbm) (I.kIn _ _ hC) (PySem.W.looks_findIn I.kIn T.iC) (fun self => PySem.W.bind_fn I.kIn self T.tC) (by show 1 ≤ sizeLine; rw [sizeLine_eq]; omega) back) fun r s2 end2 => ?_)
  match r, end2 with
  | .error v, end2 => exact end2
  | .ok (.ret u), end2 => exact end2
  | .ok .next, end2 => exact end2.elim
  | .ok .brk, end2 => exact end2.elim
  | .ok .cont, end2 => exact end2.elim
theorem call_madeK (hgd : X.A.guards = some []) {k : Nat} (room : Room (k + 2) X.A) (T : Ecl X.K X.mg x C fI f) (G : FnG X.prog X.w X.K X.mg X.base CX0 1 fI fd [("self" : Str), f] (spI X.K f)) (I : Inv X pins σ H s) (ry : RelV y u)
    (hb : ∀ a : Addr, ∀ s' : Shared, BindsTo s' fd ⟨[.ref a], [(f, u)]⟩ [("self", .ref a), (f, u)])
    (q : ∀ a dx, H a = none → H dx = none → dx ≠ a → Q (.ref a) (upd (upd H dx (exd dx [(f, y)])) a (exo a C (some dx)))) : wpAny (model X.prog X.w) X.A (call (.ref C) [] [(f, u)]) (EP X pins σ Q) X.xe s := by
  obtain ⟨nm, qn, N, bs, bm, sn, sub, ab, col, dd, k0, k1, k2, k3, k5, hC, hbm⟩ := T.T.cls
  have back := back_made (tup := PySem.W.kdv_tup []) (args := ⟨[], [(f, u)]⟩) hgd room T G I ry [] [(f, u)] hb q
  obtain ⟨hp, g, d, t, os⟩ := s
  refine wpAny_call (codeAny_mono (kw_call F.excBase_ValueError (fun Y => refsVE_contains Y bm hbm) (I.kIn _ _ hC) (PySem.W.looks_findIn I.kIn T.iC) (fun self => PySem.W.bind_fn I.kIn self T.tC) back) fun r s2 end2 => ?_)
  match r, end2 with
  | .error v, end2 => exact end2
  | .ok (.ret u), end2 => exact end2
  | .ok .next, end2 => exact end2.elim
  | .ok .brk, end2 => exact end2.elim
  | .ok .cont, end2 => exact end2.elim
end
end DL
-- DY
set_option maxRecDepth 100000
set_option maxHeartbeats 4000000
namespace DL
open PySem PySem.Spec PyProof.Rows L2 PySem.HandSPX

/-! ### repr -/
mutual
def toPyR : D → Option PyData
  | .non => some .none
  | .bl b => some (.bool b)
  | .int i => some (.int i)
  | .str x => some (.str x)
  | .tup xs => (toPyRs xs).map .tuple
  | .lst xs => (toPyRs xs).map .list
  | .dic kvs => (toPyRk kvs).map .dict
  | _ => none
def toPyRs : List D → Option (List PyData)
  | [] => some []
  | x :: xs => match toPyR x, toPyRs xs with
    | some p, some ps => some (p :: ps)
    | _, _ => none
def toPyRk : List (Key × D) → Option (List (PyData × PyData))
  | [] => some []
  | (k, x) :: xs => match toPyR x, toPyRk xs with
    | some p, some ps => some (((match k with | .inl i => .int i | .inr z => .str z), p) :: ps)
    | _, _ => none
end
/-! lists and dicts do not stand in one another -/
mutual
def noL : D → Bool
  | .lst _ => false
  | .tup xs => noLs xs
  | .dic kvs => noLk kvs
  | _ => true
def noLs : List D → Bool
  | [] => true
  | x :: xs => noL x && noLs xs
def noLk : List (Key × D) → Bool
  | [] => true
  | (_, x) :: xs => noL x && noLk xs
end
section
variable {X : Cx} {pins : List (Addr × Obj)} {σ : L2.St} {H : Hp} {s : Shared}
mutual
theorem reads_of {F : Hp} (e : Ex F H) (I : Inv X pins σ H s) : ∀ (d : D) {v : V} {p : PyData} {u : Value}, Rep X.K F v d → toPyR d = some p → RelV v u → ∃ as, Reads s.heap u p as ∧ (noL d = true → sysModules ∉ as)
  | .non, _, _, _, .non, h, r => by
    simp [toPyR] at h
    subst h
    cases r
    exact ⟨_, Reads.none, fun _ => by simp⟩
  | .bl b, _, _, _, .bl _, h, r => by
    simp [toPyR] at h
    subst h
    cases r
    exact ⟨_, Reads.bool b, fun _ => by simp⟩
  | .int i, _, _, _, .int _, h, r => by
    simp [toPyR] at h
    subst h
    obtain ⟨t, rfl⟩ := r
    exact ⟨_, Reads.int i t, fun _ => by simp⟩
  | .str x, _, _, _, .str _, h, r => by
    simp [toPyR] at h
    subst h
    obtain ⟨t, rfl⟩ := r
    exact ⟨_, Reads.str x t, fun _ => by simp⟩
  | .tup xs, _, _, _, .tup g rs, h, r => by
    simp only [toPyR, Option.map_eq_some_iff] at h
    obtain ⟨ps, h1, rfl⟩ := h
    cases r
    obtain ⟨its, rv, ⟨o, ho, hc, n, hd⟩, _⟩ := I.tuple (ex_t e g)
    obtain ⟨as, hr, hn⟩ := reads_ofs e I xs rs h1 rv
    exact ⟨_, Reads.tuple ho hc hd hr, fun z => hn (by simpa [noL] using z)⟩
  | .lst xs, _, _, _, .lst g rs, h, r => by
    simp only [toPyR, Option.map_eq_some_iff] at h
    obtain ⟨ps, h1, rfl⟩ := h
    cases r
    obtain ⟨its, rv, ⟨o, n, ho, hc, _, hd⟩, _⟩ := I.list (SqL.of (e _ _ g))
    obtain ⟨as, hr, _⟩ := reads_ofs e I xs rs h1 rv
    exact ⟨_, Reads.list ho hc hd hr, fun z => by simp [noL] at z⟩
  | .dic kvs, _, _, _, .dic g rs, h, r => by
    simp only [toPyR, Option.map_eq_some_iff] at h
    obtain ⟨ps, h1, rfl⟩ := h
    cases r
    obtain ⟨_, hsys, vs, kv, o, es, ep, ho, hx, hd, _, hp, _⟩ := I.hok _ _ (e _ _ g)
    obtain ⟨as, bs, h2, h3, h4⟩ := reads_ofk e I kvs rs h1 kv hp
    refine ⟨_, Reads.dict ho hx.1 hd h2 h3, fun z => ?_⟩
    have := h4 (by simpa [noL] using z)
    intro q
    rcases List.mem_append.mp q with q | q
    · rcases List.mem_cons.mp q with q | q
      · rw [← q] at hsys
        simp at hsys
      · exact this.1 q
    · exact this.2 q
theorem reads_ofs {F : Hp} (e : Ex F H) (I : Inv X pins σ H s) : ∀ (ds : List D) {vs : List V} {ps : List PyData} {us : List Value}, Reps X.K F vs ds → toPyRs ds = some ps → Vals vs us → ∃ as, ReadsAll s.heap us ps as ∧ (noLs ds = true → sysModules ∉ as)
  | [], _, _, _, .nil, h, r => by
    simp [toPyRs] at h
    subst h
    cases r
    exact ⟨_, ReadsAll.nil, fun _ => by simp⟩
  | d :: ds, _, _, _, .cons r1 r2, h, r => by
    simp only [toPyRs] at h
    split at h
    · rename_i p ps h1 h2
      cases h
      cases r with
      | cons q1 q2 =>
        obtain ⟨as, a1, a2⟩ := reads_of e I d r1 h1 q1
        obtain ⟨bs, b1, b2⟩ := reads_ofs e I ds r2 h2 q2
        refine ⟨_, ReadsAll.cons a1 b1, fun z => ?_⟩
        simp only [noLs, Bool.and_eq_true] at z
        intro q
        rcases List.mem_append.mp q with q | q
        · exact a2 z.1 q
        · exact b2 z.2 q
    · cases h
theorem reads_ofk {F : Hp} (e : Ex F H) (I : Inv X pins σ H s) : ∀ (ds : List (Key × D)) {vs : List (Key × V)} {ps : List (PyData × PyData)} {us : List (Key × Value)} {es : List DictEntry}, RepK X.K F vs ds → toPyRk ds = some ps → KV vs us → Pairs (mixKind X.prog X.w) es us →
    ∃ as bs, ReadsAll s.heap (es.map (·.key)) (ps.map (·.1)) as ∧ ReadsAll s.heap (es.map (·.val)) (ps.map (·.2)) bs ∧ (noLk ds = true → sysModules ∉ as ∧ sysModules ∉ bs)
  | [], _, _, _, _, .nil, h, r, hp => by
    simp [toPyRk] at h
    subst h
    cases r
    cases hp
    exact ⟨_, _, ReadsAll.nil, ReadsAll.nil, fun _ => by simp⟩
  | (k, d) :: ds, _, _, _, _, .cons r1 r2, h, r, hp => by
    simp only [toPyRk] at h
    split at h
    · rename_i p ps h1 h2
      cases h
      cases r with
      | cons q1 q2 =>
        rename_i ku us
        cases hp with
        | cons k1 k2 k3 =>
          rename_i en es
          obtain ⟨as, bs, a1, b1, c1⟩ := reads_ofk e I ds r2 h2 q2 k3
          obtain ⟨as2, a2, c2⟩ := reads_of e I d r1 h1 (u := en.val) (by rw [k2]; exact q1.2)
          have hk : ∃ cs, Reads s.heap en.key (match k with | .inl i => PyData.int i | .inr z => PyData.str z) cs ∧ sysModules ∉ cs := by
            have e1 : k = ku.1 := q1.1
            have k1' : keyIs ku.1 en.key = true := k1
            rw [← e1] at k1'
            rcases keyIs_shape k1' with ⟨i, t, rfl, e3⟩ | ⟨z, t, rfl, e3⟩
            · rw [e3]
              exact ⟨_, Reads.int i t, by simp⟩
            · rw [e3]
              exact ⟨_, Reads.str z t, by simp⟩
          obtain ⟨cs, c3, c4⟩ := hk
          refine ⟨_, _, ReadsAll.cons c3 a1, ReadsAll.cons a2 b1, fun z => ?_⟩
          simp only [noLk, Bool.and_eq_true] at z
          have c1 := c1 z.2
          have c2 := c2 z.1
          exact ⟨fun q => (List.mem_append.mp q).elim c4 c1.1, fun q => (List.mem_append.mp q).elim c2 c1.2⟩
    · cases h
end
end
/-- what repr may be asked of -/
structure ShowOk (d : D) (p : PyData) : Prop where
  e : toPyR d = some p
  show_ : p.showable = true
  dict : p.hasDict = true → noL d = true
  deep : p.depth ≤ 60
  fits : p.shown.length ≤ sizeLine
def dRepr : RDA := fun ds μ Q => ∃ d p, ds = [d] ∧ ShowOk d p ∧ Q (.str p.shown) μ
/-- repr(e), over the layer -/
theorem de_reprU {X : Cx} {e : Expr} {tr : TDA} {p pos : Pos} {k : Nat} (un : X.A.units + 16 * k + 200 < cLine) (hgd : X.A.guards = some []) (hm : X.mg "repr" = none) (ha : DA X [e] tr) (hg : Gl X "repr" := by rfl)
    (he : starEach [e] X.env = (false, eval e X.env) :: starEach [] X.env := by rfl) (hpl : (backTo pos (starEach [] X.env)).any (·.1) = false := by rfl) : DE X (.Call (.Name "repr" p) [e] [] pos) (dCB dRepr tr) := by
  have hc : CallR X (.builtin "repr") (fun vs H Q => ∃ F μ d p v QD, vs = [v] ∧ Lay X.K F μ H ∧ Rep X.K F v d ∧ ShowOk d p ∧ QD (.str p.shown) μ ∧ KOf X.K F QD Q) := by
    intro pins s σ H vs us Q I r ⟨F, μ, d, p, v, QD, ev, l, rd, ok, q, kk⟩
    subst ev
    obtain ⟨u, rfl, ru⟩ := vals1 r
    obtain ⟨as, hr, hn⟩ := reads_of l.fz I d rd ok.e ru
    have fin : ∀ h' uu tk, (∀ b o, s.heap.get? b = some o → h'.get? b = some o) → EP X pins σ Q (.str p.shown uu) { s with heap := h', toks := tk } := fun h' uu tk k =>
      ⟨.str p.shown, H, I.kept k, ⟨_, rfl⟩, kk _ _ F μ H (Ex.refl F) l (.str _) q⟩
    have h1 := ok.show_
    have h2 := ok.fits
    have h3 := ok.deep
    cases hr with
    | none => exact PySem.P.repr_of_none (fin s.heap _ _ fun _ _ z => z)
    | bool b => exact PySem.P.repr_of_bool (fin s.heap _ _ fun _ _ z => z)
    | int i t => exact PySem.P.repr_of_int (by simpa [PyData.showable] using h1) (fin s.heap _ _ fun _ _ z => z)
    | str x t => exact PySem.P.repr_of_str (fin s.heap _ _ fun _ _ z => z) h2
    | list a1 a2 a3 a4 => exact repr_of_reads' (.list a1 a2 a3 a4) h1 (fun z => hn (ok.dict z)) hgd (by omega) (fun _ _ z => z) fin h2
    | tuple a1 a2 a3 a4 => exact repr_of_reads' (.tuple a1 a2 a3 a4) h1 (fun z => hn (ok.dict z)) hgd (by omega) (fun _ _ z => z) fin h2
    | dict a1 a2 a3 a4 a5 => exact repr_of_reads' (.dict a1 a2 a3 a4 a5) h1 (fun z => hn (ok.dict z)) hgd (by omega) (fun _ _ z => z) fin h2
  refine PE.weak (pe_callB hc hg hm PyProof.Rows.bootS_repr ha (he := he) (hpl := hpl)) fun σ H Q ⟨δ, F, μ, QD, l, rs, q, kk⟩ => ?_
  refine ⟨δ, F, μ, _, l, rs, q, fun vs ds F1 μ1 H1 e1 l1 r1 ⟨d, p, ed, ok, q1⟩ => ?_⟩
  subst ed
  obtain ⟨v, rfl, rv⟩ := reps1 r1
  exact ⟨F1, μ1, d, p, v, QD, rfl, l1, rv, ok, q1, kk.mono e1⟩
theorem de_repr {X : Cx} {e : Expr} {tr : TDA} {p pos : Pos} {k : Nat} (room : Room k X.A) (hgd : X.A.guards = some []) (hm : X.mg "repr" = none) (ha : DA X [e] tr) (hg : Gl X "repr" := by rfl)
    (he : starEach [e] X.env = (false, eval e X.env) :: starEach [] X.env := by rfl) (hpl : (backTo pos (starEach [] X.env)).any (·.1) = false := by rfl) : DE X (.Call (.Name "repr" p) [e] [] pos) (dCB dRepr tr) := de_reprU room.un hgd hm ha hg he hpl

/-! ### an own error, made -/
section
variable {X : Cx} {C fI : Addr} {x f : Str} {fd : FuncData} {e : Expr} {te : TD} {tr : TDA} {p pos kpos : Pos} {k : Nat}
def dMk (C : Addr) (f : Str) (t : TDA) : TD := fun δ μ Q => t δ μ fun ds μ1 => ∃ d, ds = [d] ∧ Q (.exc C (some (f, d))) μ1
theorem lay_exc {K : PySem.W.Frag} {F : Hp} {μ : Mem} {H : Hp} (l : Lay K F μ H) {a dx : Addr} {v : V} {d : D} (ha : H a = none) (hd : H dx = none) (ne : dx ≠ a) (r : Rep K F v d) : ∃ F', Ex F F' ∧ Lay K F' μ (upd (upd H dx (exd dx [(f, v)])) a (exo a C (some dx))) ∧ Rep K F' (.ref a) (.exc C (some (f, d))) := by
  have l1 := l.new hd (exd dx [(f, v)])
  have ha1 : upd H dx (exd dx [(f, v)]) a = none := by rw [upd_ne ne.symm]; exact ha
  have l2 := l1.new ha1 (exo a C (some dx))
  have e1 : Ex F (upd F dx (exd dx [(f, v)])) := Ex.new (l.none_F hd)
  have e2 := Ex.new (o := exo a C (some dx)) (l1.none_F ha1)
  refine ⟨_, e1.trans e2, l2, .excI (dx := dx) upd_same ?_ (r.mono (e1.trans e2))⟩
  rw [upd_ne ne]
  exact upd_same
theorem de_mk (hgd : X.A.guards = some []) (room : Room (k + 2) X.A) (T : Ecl X.K X.mg x C fI f) (G : FnG X.prog X.w X.K X.mg X.base CX0 1 fI fd [("self" : Str), f] (spI X.K f)) (hb : ∀ (a : Addr) (u : Value) (s' : Shared), BindsTo s' fd ⟨[.ref a, u], []⟩ [("self", .ref a), (f, u)])
    (ha : DA X [e] tr) (hg : Gl X x := by rfl) (hdb : (x == ("__debug__" : Str)) = false := by decide) (he : starEach [e] X.env = (false, eval e X.env) :: starEach [] X.env := by rfl) (hpl : (backTo pos (starEach [] X.env)).any (·.1) = false := by rfl) :
    DE X (.Call (.Name x p) [e] [] pos) (dMk C f tr) := by
  refine ⟨fun pins s σ H Q I ⟨δ, F, μ, QD, l, rs, q, kk⟩ => wpAny_Call_Name_kw (ld_glob I hg T.gC ?_ hdb)⟩
  refine PySem.W.callWith_K (h₀ := X.base) I.ok.mod.kin T.T.kC (thn (ha.run pos pins s σ H (fun vs H1 => ∃ v, vs = [v] ∧ ∀ a dx, H1 a = none → H1 dx = none → dx ≠ a → Q (.ref a) (upd (upd H1 dx (exd dx [(f, v)])) a (exo a C (some dx)))) I ?_) fun us s1 ⟨vs, H1, I1, r1, v, ev, q1⟩ => ⟨I1.kIn, ?_⟩) he hpl
  · refine ⟨δ, F, μ, _, l, rs, q, fun vs ds F1 μ1 H1 e1 l1 r1 ⟨d, ed, q1⟩ => ?_⟩
    subst ed
    obtain ⟨v, rfl, rv⟩ := reps1 r1
    refine ⟨v, rfl, fun a dx h1 h2 ne => ?_⟩
    obtain ⟨F2, e2, l2, r2⟩ := lay_exc (C := C) (f := f) l1 h1 h2 ne rv
    exact kk _ _ F2 μ1 _ (e1.trans e2) l2 r2 q1
  · subst ev
    obtain ⟨u, rfl, ru⟩ := vals1 r1
    exact call_made hgd room T G I1 ru (fun a s' => hb a u s') q1
theorem de_mkK (hgd : X.A.guards = some []) (room : Room (k + 2) X.A) (T : Ecl X.K X.mg x C fI f) (G : FnG X.prog X.w X.K X.mg X.base CX0 1 fI fd [("self" : Str), f] (spI X.K f)) (hb : ∀ (a : Addr) (u : Value) (s' : Shared), BindsTo s' fd ⟨[.ref a], [(f, u)]⟩ [("self", .ref a), (f, u)])
    (ha : DE X e te) (hg : Gl X x := by rfl) (hdb : (x == ("__debug__" : Str)) = false := by decide) (hall : (backToKw pos (keywordEach [⟨some f, e, kpos⟩] X.env)).all (·.1.isSome) = true := by rfl) (hks : (backToKw pos (keywordEach [⟨some f, e, kpos⟩] X.env)).filterMap (·.1) = [f] := by rfl)
    (hpl : ((backTo pos (starEach [] X.env)).any (·.1) || (backToKw pos (keywordEach [⟨some f, e, kpos⟩] X.env)).any (·.1.isNone)) = false := by rfl) :
    DE X (.Call (.Name x p) [] [⟨some f, e, kpos⟩] pos) (dMk C f (dCons te dNil)) := by
  refine ⟨fun pins s σ H Q I ⟨δ, F, μ, QD, l, rs, q, kk⟩ => wpAny_Call_Name_kw (ld_glob I hg T.gC ?_ hdb)⟩
  have hkw : PK X [⟨some f, e, kpos⟩] (tCons (eOf X.K te) tNil) := pk_cons ha pk_nil
  refine PySem.W.callWith_KW0 (h₀ := X.base) I.ok.mod.kin T.T.kC hall (thn (hkw.run pos pins s σ H (fun vs H1 => ∃ v, vs = [v] ∧ ∀ a dx, H1 a = none → H1 dx = none → dx ≠ a → Q (.ref a) (upd (upd H1 dx (exd dx [(f, v)])) a (exo a C (some dx)))) I ?_) fun us s1 ⟨vs, H1, I1, r1, v, ev, q1⟩ => ⟨I1.kIn, ?_⟩) hpl
  · refine ⟨δ, F, μ, _, l, rs, q, fun v d F1 μ1 H1 e1 l1 rv q0 => ?_⟩
    obtain ⟨d', ed, q1⟩ := (show ∃ d', [d] = [d'] ∧ QD (.exc C (some (f, d'))) μ1 from q0)
    cases ed
    refine ⟨v, rfl, fun a dx h1 h2 ne => ?_⟩
    obtain ⟨F2, e2, l2, r2⟩ := lay_exc (C := C) (f := f) l1 h1 h2 ne rv
    exact kk _ _ F2 μ1 _ (e1.trans e2) l2 r2 q1
  · subst ev
    obtain ⟨u, rfl, ru⟩ := vals1 r1
    rw [hks]
    exact call_madeK hgd room T G I1 ru (fun a s' => hb a u s') q1
def dMk0 (C : Addr) : TD := fun _ μ Q => Q (.exc C none) μ
theorem de_mk0 (T : Bcl X.K X.mg x C) (hg : Gl X x := by rfl) (hdb : (x == ("__debug__" : Str)) = false := by decide) : DE X (.Call (.Name x p) [] [] pos) (dMk0 C) := by
  refine ⟨fun pins s σ H Q I ⟨δ, F, μ, QD, l, rs, q, kk⟩ => wpAny_Call_Name_kw (ld_glob I hg T.gC ?_ hdb)⟩
  refine PySem.W.callWith_K0 I.kIn T.kC ?_
  obtain ⟨bm, N, nm, qn, bs, hdct, sn, sub, ab, col, dd, k0, k1, k2, k3, k5, mN, hC, hN, hni, T⟩ := exc_obj I.kIn T.q
  refine wpAny_call_exc_subT PySem.F.excBase_ValueError T hC hN hni (fun h' a hm => ?_) (by show 0 ≤ sizeLine; omega)
  have hn : H a = none := I.hok.gone hm.new
  obtain ⟨t, ht, _, _⟩ := hm.there
  exact ⟨.ref a, upd H a (exo a C none), I.laidN hm.keeps hm.new hn (exo_ok ht), rfl, kk _ _ _ μ _ (Ex.new (l.none_F hn)) (l.new hn _) (.excB upd_same) q⟩

/-! ### an own error, looked at -/
theorem inst_exc {pins : List (Addr × Obj)} {σ : L2.St} {H : Hp} {s : Shared} (I : Inv X pins σ H s) {F : Hp} {μ : Mem} (l : Lay X.K F μ H) {v : V} {C : Addr} {fs : Option (Str × D)} (r : Rep X.K F v (.exc C fs)) : ∃ a ox od, v = .ref a ∧ PySem.W.InstAt s.heap a ox C od ∧
    (∀ g d, fs = some (g, d) → ∃ o y, od = some o ∧ Rep X.K F y d ∧ ∃ u, RelV y u ∧ PySem.W.lookIn g o = some (some u)) := by
  cases r with
  | @excB a _ g =>
    obtain ⟨t, ht⟩ := exo_at I.hok (l.fz _ _ g)
    exact ⟨_, _, none, rfl, ⟨ht, rfl, rfl, trivial⟩, fun _ _ z => nomatch z⟩
  | @excI a _ dx g y d g1 g2 rr =>
    obtain ⟨t, ht⟩ := exo_at I.hok (l.fz _ _ g1)
    obtain ⟨mA, hns, hr⟩ := exd_at I.hok (l.fz _ _ g2)
    obtain ⟨od, ho, hl⟩ := lookIn_ns hns
    refine ⟨_, _, some od, rfl, ⟨ht, rfl, rfl, ho⟩, fun g' d' z => ?_⟩
    cases z
    have e1 : List.lookup g [(g, y)] = some y := by simp [List.lookup]
    obtain ⟨u, hu, ru⟩ := RelO.some_of (v := y) (o := mA g) (by rw [← e1]; exact hr g)
    exact ⟨od, y, rfl, rr, u, ru, by rw [hl, hu]⟩
def kitD (K : PySem.W.Frag) (C : Addr) : D → Option Bool
  | .ref a => PySem.W.kitOne K (.ref C) (.ref a)
  | .ty n => PySem.W.kitOne K (.ref C) (.type n)
  | _ => none
def dIsE (K : PySem.W.Frag) : RDA := fun ds μ Q => ∃ C fs c b, ds = [.exc C fs, c] ∧ ExcC K C ∧ kitD K C c = some b ∧ Q (.bl b) μ
theorem de_isE {e2 : Expr} {K : PySem.W.Frag} (hK : X.K = K) (hm : X.mg "isinstance" = none) (ha : DA X [e, e2] tr) (hg : Gl X "isinstance" := by rfl)
    (he : starEach [e, e2] X.env = (false, eval e X.env) :: starEach [e2] X.env := by rfl) (hpl : (backTo pos (starEach [e2] X.env)).any (·.1) = false := by rfl) : DE X (.Call (.Name "isinstance" p) [e, e2] [] pos) (dCB (dIsE K) tr) := by
  subst hK
  have hc : CallR X (.builtin "isinstance") (fun vs H Q => ∃ F μ C fs c b v w QD, vs = [v, w] ∧ Lay X.K F μ H ∧ Rep X.K F v (.exc C fs) ∧ Rep X.K F w c ∧ ExcC X.K C ∧ kitD X.K C c = some b ∧ QD (.bl b) μ ∧ KOf X.K F QD Q) := by
    intro pins s σ H vs us Q I r ⟨F, μ, C, fs, c, b, v, w, QD, ev, l, rv, rw', T, kt, q, kk⟩
    subst ev
    obtain ⟨u1, u2, rfl, r1, r2⟩ := vals2 r
    obtain ⟨a, ox, od, rfl, J, _⟩ := inst_exc I l rv
    cases (show u1 = Value.ref a from r1)
    have done : ∀ tk, EP X pins σ Q (.bool b) { s with toks := tk } := fun tk => ⟨.bl b, H, I.tok tk, rfl, kk _ _ F μ H (Ex.refl F) l (.bl _) q⟩
    have Z := PySem.W.kitx_exc (K := X.K) (C := C) (x := a) (ox := ox) (od := od) (by obtain ⟨cd, hc, _⟩ := PySem.W.any_some T.hd; rw [hc]; rfl) T.hg T.hk T.hs T.ha T.hn T.ht T.hm
    cases c with
    | ref c2 =>
      have e2 := rep_ref rw'
      subst e2
      cases (show u2 = Value.ref c2 from r2)
      exact PySem.W.kia_one Z I.kIn J kt (fun z => nomatch z) done
    | ty n =>
      have e2 := rep_ty rw'
      subst e2
      cases (show u2 = Value.type n from r2)
      exact PySem.W.kia_one Z I.kIn J kt (fun z => nomatch z) done
    | _ => cases kt
  refine PE.weak (pe_callB hc hg hm (by decide +kernel) ha (he := he) (hpl := hpl)) fun σ H Q ⟨δ, F, μ, QD, l, rs, q, kk⟩ => ?_
  refine ⟨δ, F, μ, _, l, rs, q, fun vs ds F1 μ1 H1 e1 l1 r1 ⟨C, fs, c, b, ed, T, kt, q1⟩ => ?_⟩
  subst ed
  obtain ⟨v, w, rfl, rv, rw'⟩ := reps2 r1
  exact ⟨F1, μ1, C, fs, c, b, v, w, QD, rfl, l1, rv, rw', T, kt, q1, kk.mono e1⟩
/-- e.f of such an error -/
def dAttr (K : PySem.W.Frag) (f : Str) (te : TD) : TD := fun δ μ Q => te δ μ fun x μ1 => ∃ C d, x = .exc C (some (f, d)) ∧ ExcC K C ∧ PySem.W.findIn K (.ref C) f = some none ∧ Q d μ1
theorem de_attr {K : PySem.W.Frag} (hK : X.K = K) (he : DE X e te) (hb : attributeBase e f X.env (eval e X.env) = eval e X.env := by rfl) : DE X (.Attribute e f pos) (dAttr K f te) := by
  subst hK
  refine ⟨fun pins s σ H Q I ⟨δ, F, μ, QD, l, rs, q, kk⟩ => attr_of hb (thn (he.run pins s σ H (fun v H1 => ∃ F1 μ1 C d, Ex F F1 ∧ Lay X.K F1 μ1 H1 ∧ Rep X.K F1 v (.exc C (some (f, d))) ∧ ExcC X.K C ∧ PySem.W.findIn X.K (.ref C) f = some none ∧ QD d μ1) I ?_) ?_)⟩
  · exact ⟨δ, F, μ, _, l, rs, q, fun v d F1 μ1 H1 e1 l1 r1 ⟨C, d', ed, T, hno, q1⟩ => ⟨F1, μ1, C, d', e1, l1, by rw [← ed]; exact r1, T, hno, q1⟩⟩
  · intro u s1 ⟨v, H1, I1, r1, F1, μ1, C, d, e1, l1, rv, T, hno, q1⟩
    obtain ⟨a, ox, od, rfl, J, hl⟩ := inst_exc I1 l1 rv
    cases (show u = Value.ref a from r1)
    obtain ⟨o, y, eo, ry, w, rw', look⟩ := hl f d rfl
    subst eo
    exact PySem.HandSPX.exc_get I1.kIn J T.hg T.hk T.hs (PySem.W.findObj_own T.hd hno rfl look) (handed_of rw') ⟨y, H1, I1.tok _, rw', kk _ _ F1 μ1 H1 e1 l1 ry q1⟩
end
end DL
-- DZ
set_option maxRecDepth 100000
namespace DL
open PySem PySem.Spec PyProof.Rows L2

/-! ### any target of an assignment -/
abbrev DTG := D → DSt → Mem → (DSt → Mem → Prop) → Prop
abbrev DTGs := List D → DSt → Mem → (DSt → Mem → Prop) → Prop
def gOf (K : PySem.W.Frag) (td : DTG) : TG := fun v σ H Q => ∃ d δ F μ QD, Lay K F μ H ∧ Rep K F v d ∧ RepSt K F σ δ ∧ td d δ μ QD ∧ SOf K F QD Q
def gsOf (K : PySem.W.Frag) (td : DTGs) : TGs := fun vs σ H Q => ∃ ds δ F μ QD, Lay K F μ H ∧ Reps K F vs ds ∧ RepSt K F σ δ ∧ td ds δ μ QD ∧ SOf K F QD Q
def dgName (i : Nat) : DTG := fun d δ μ Q => Q (δ.set i (some d)) μ
def dgNil : DTGs := fun ds δ μ Q => ds = [] ∧ Q δ μ
def dgCons (t : DTG) (u : DTGs) : DTGs := fun ds δ μ Q => ∃ d r, ds = d :: r ∧ t d δ μ fun δ' μ' => u r δ' μ' Q
def dgTup (n : Nat) (t : DTGs) : DTG := fun d δ μ Q => ∃ ds, d = .tup ds ∧ ds.length = n ∧ t ds δ μ Q
def dgSub (to ti : TD) : DTG := fun d δ μ Q => to δ μ fun o μ1 => ti δ μ1 fun i μ2 => ∃ a xs k j, o = .ref a ∧ i = .int k ∧ μ2 a = some xs ∧ ixN xs.length k = some j ∧ Q δ (mset μ2 a (xs.set j d))
section
variable {X : Cx}
theorem PG.weak {e : Expr} {t u : TG} (h : PG X e t) (k : ∀ v σ H Q, u v σ H Q → t v σ H Q) : PG X e u := ⟨fun pins s σ H v uu Q I r q => h.run pins s σ H v uu Q I r (k _ _ _ _ q)⟩
theorem PGs.weak {e : List Expr} {t u : TGs} (h : PGs X e t) (k : ∀ v σ H Q, u v σ H Q → t v σ H Q) : PGs X e u := ⟨fun pins s σ H v uu Q I r q => h.run pins s σ H v uu Q I r (k _ _ _ _ q)⟩
abbrev DG (X : Cx) (e : Expr) (t : DTG) : Prop := PG X e (gOf X.K t)
abbrev DGs (X : Cx) (e : List Expr) (t : DTGs) : Prop := PGs X e (gsOf X.K t)
variable {e o : Expr} {es : List Expr} {t to ti te : TD} {g : DTG} {gs : DTGs} {pos : Pos}
theorem dg_name {i : Nat} (h : PG X e (gName i)) : DG X e (dgName i) :=
  PG.weak h fun v σ H Q ⟨d, δ, F, μ, QD, l, r, rs, q, k⟩ => k _ _ F μ H (Ex.refl F) l (rs.set r i) q
theorem dgs_nil : DGs X [] dgNil := PGs.weak pgs_nil fun vs σ H Q ⟨ds, δ, F, μ, QD, l, r, rs, ⟨e, q⟩, k⟩ => by
  subst e
  cases r
  exact ⟨rfl, k _ _ F μ H (Ex.refl F) l rs q⟩
theorem dgs_cons (h1 : DG X e g) (h2 : DGs X es gs) (hs : (assignEach (e :: es) X.env).map (·.2) = assign e X.env :: (assignEach es X.env).map (·.2) := by rfl) : DGs X (e :: es) (dgCons g gs) :=
  PGs.weak (pgs_cons h1 h2 hs) fun vs σ H Q ⟨ds, δ, F, μ, QD, l, r, rs, ⟨d, dr, ed, q⟩, k⟩ => by
    subst ed
    cases r with
    | cons r1 r2 => exact ⟨_, _, rfl, d, δ, F, μ, _, l, r1, rs, q, fun σ1 δ1 F1 μ1 H1 e1 l1 rs1 q1 => ⟨dr, δ1, F1, μ1, QD, l1, r2.mono e1, rs1, q1, k.mono e1⟩⟩
theorem dg_tup {k n : Nat} (hc : X.calm = true) (h : DGs X es gs) (hn : (assignEach es X.env).length = n := by rfl) (hst : (assignEach es X.env).findIdx? (·.1) = none := by rfl) : DG X (.Tuple es k pos) (dgTup n gs) :=
  PG.weak (pg_tup hc h hn hst) fun v σ H Q ⟨d, δ, F, μ, QD, l, r, rs, ⟨ds, ed, hl, q⟩, k⟩ => by
    subst ed
    obtain ⟨a, vs, rfl, h1, _, r1⟩ := tup_rep l r
    exact ⟨a, vs, rfl, h1, by rw [r1.length]; exact hl, ds, δ, F, μ, QD, l, r1, rs, q, k⟩
theorem dg_sub {i : Expr} (h : PG X (.Subscript o i pos) (gSub (eOf X.K to) (eOf X.K ti) rSetL)) : DG X (.Subscript o i pos) (dgSub to ti) := by
  exact PG.weak h fun v σ H Q ⟨d, δ, F, μ, QD, l, r, rs, q, k⟩ => ⟨δ, F, μ, _, l, rs, q, fun vo dO F1 μ1 H1 e1 l1 r1 q1 => ⟨δ, F1, μ1, _, l1, rs.mono e1, q1, fun vi di F2 μ2 H2 e2 l2 r2 ⟨a, xs, kk, j, eo, ei, hm, hj, q2⟩ => by
    subst eo ei
    obtain ⟨hF, vs, hv, rv⟩ := l2.mu a xs hm
    refine ⟨a, vs, kk, j, rep_ref (r1.mono e2), rep_int r2, hv, by rw [rv.length]; exact hj, k _ _ F2 _ _ (e1.trans e2) (l2.put hm (rv.set (r.mono (e1.trans e2)) j)) (rs.mono (e1.trans e2)) q2⟩⟩⟩
def dAsg (te : TD) (g : DTG) : TDS := fun E δ μ => te δ μ fun d μ1 => g d δ μ1 E.nx
theorem ds_asg {tg : Expr} (he : DE X e te) (hg : DG X tg g) (hs : swapsWithSole [tg] e pos.line X.env = pure false := by rfl) (hw : swappedStores [tg] e X.env = pure none := by rfl) (h1 : (assignEach [tg] X.env).map (·.2) = [assign tg X.env] := by rfl) : DS X (.Assign [tg] e pos) (dAsg te g) :=
  PS.weak (ps_asg he hg hs hw h1) fun D σ H ⟨δ, F, μ, ED, l, rs, q, k⟩ => ⟨δ, F, μ, _, l, rs, q, fun v d F1 μ1 H1 e1 l1 r1 q1 => ⟨d, δ, F1, μ1, _, l1, r1, rs.mono e1, q1, k.1.mono e1⟩⟩
/-- a, b = x, y -/
def dPar (i j : Nat) (ta : TDA) : TDS := fun E δ μ => ta δ μ fun ds μ1 => ∃ d e, ds = [d, e] ∧ E.nx ((δ.set i (some d)).set j (some e)) μ1
theorem ds_par {i j : Nat} {ta : TDA} {st : Stmt} (h : PS X st (tPar i j (aOf X.K ta))) : DS X st (dPar i j ta) :=
  PS.weak h fun D σ H ⟨δ, F, μ, ED, l, rs, q, k⟩ => ⟨δ, F, μ, _, l, rs, q, fun vs ds F1 μ1 H1 e1 l1 r1 ⟨d, e, ed, q1⟩ => by
    subst ed
    obtain ⟨v, u, rfl, rv, ru⟩ := reps2 r1
    exact ⟨v, u, rfl, k.1 _ _ F1 μ1 H1 e1 l1 (((rs.mono e1).set rv i).set ru j) q1⟩⟩
/-- i += e, ints -/
def dAugI (f : Int → Int → Int) (i : Nat) (te : TD) : TDS := fun E δ μ => ∃ a : Int, δ[i]? = some (some (.int a)) ∧ te δ μ fun d μ1 => ∃ b : Int, d = .int b ∧ E.nx (δ.set i (some (.int (f a b)))) μ1
theorem ds_augI {f : Int → Int → Int} {i : Nat} {st : Stmt} (h : PS X st (tAug i (eOf X.K te) (ipI f))) : DS X st (dAugI f i te) :=
  PS.weak h fun D σ H ⟨δ, F, μ, ED, l, rs, ⟨a, ea, q⟩, k⟩ => by
    obtain ⟨v, hv, rv⟩ := rs.get ea
    refine ⟨v, hv, δ, F, μ, _, l, rs, q, fun u d F1 μ1 H1 e1 l1 r1 ⟨b, ed, q1⟩ => ?_⟩
    subst ed
    exact ⟨a, b, rep_int rv, rep_int r1, k.1 _ _ F1 μ1 H1 e1 l1 ((rs.mono e1).set (.int _) i) q1⟩
/-- xs.append(e) -/
def dApp (to : TD) (ta : TDA) : TDS := fun E δ μ => to δ μ fun x μ1 => ∃ a, x = .ref a ∧ (∃ ys, μ1 a = some ys) ∧ ta δ μ1 fun ds μ2 => ∃ xs d, ds = [d] ∧ μ2 a = some xs ∧ xs.length < 1000000 ∧ E.nx δ (mset μ2 a (xs ++ [d]))
theorem ds_app {ta : TDA} {st : Stmt} (h : PS X st (tDrop (tBM X.K "list" rAppend (eOf X.K to) (aOf X.K ta)))) : DS X st (dApp to ta) :=
  PS.weak h fun D σ H ⟨δ, F, μ, ED, l, rs, q, k⟩ => ⟨δ, F, μ, _, l, rs, q, fun v d F1 μ1 H1 e1 l1 r1 ⟨a, ed, ⟨ys, hy⟩, q1⟩ => by
    subst ed
    have ev := rep_ref r1
    subst ev
    obtain ⟨_, vs, hv, _⟩ := l1.mu a ys hy
    refine ⟨.inl ⟨rfl, vs, SqL.of hv⟩, δ, F1, μ1, _, l1, rs.mono e1, q1, fun us ds F2 μ2 H2 e2 l2 r2 ⟨xs, d, ed, hx, hz, q2⟩ => ?_⟩
    subst ed
    obtain ⟨u, rfl, ru⟩ := reps1 r2
    obtain ⟨_, ws, hw, rw'⟩ := l2.mu a xs hx
    exact ⟨a, ws, u, rfl, rfl, hw, by rw [rw'.length]; exact mil_lt (Nat.le_of_lt hz), k.1 _ _ F2 _ _ (e1.trans e2) (l2.put hx (rw'.append (.cons ru .nil))) (rs.mono (e1.trans e2)) q2⟩⟩
/-- while -/
def dWhile (c : TDT) (tb : TDS) : TDS := fun E δ μ => ∃ W : Nat → DSt → Mem → Prop, (∃ m, W m δ μ) ∧ ∀ m δ μ, W m δ μ →
  c δ μ fun b μ1 => if b = true then tb { nx := fun δ' μ' => ∃ m', m' < m ∧ W m' δ' μ', rt := E.rt, bk := E.nx, ct := fun δ' μ' => ∃ m', m' < m ∧ W m' δ' μ' } δ μ1 else E.nx δ μ1
theorem ds_while {c : Expr} {body : List Stmt} {tc : TDT} {tb : TDS} (hp : PassesOwn (model X.prog X.w) X.A X.env X.xe) (hc : DT X c tc) (hb : DSs X body tb) : DS X (.While c body [] pos) (dWhile tc tb) :=
  PS.weak (ps_while hp hc hb) fun E σ H ⟨δ, F, μ, ED, l, rs, ⟨W, ⟨m0, w0⟩, turn⟩, k⟩ => by
    refine ⟨fun m σ H => ∃ δ F2 μ2, Ex F F2 ∧ Lay X.K F2 μ2 H ∧ RepSt X.K F2 σ δ ∧ W m δ μ2, ⟨m0, δ, F, μ, Ex.refl F, l, rs, w0⟩, ?_⟩
    rintro m σ2 H2 ⟨δ2, F2, μ2, e2, l2, r2, w2⟩
    refine ⟨δ2, F2, μ2, _, l2, r2, turn m δ2 μ2 w2, fun b F3 μ3 H3 e3 l3 q3 => ?_⟩
    cases b with
    | true =>
      have k3 := k.mono (e2.trans e3)
      exact ⟨fun σ H => ∃ m', m' < m ∧ ∃ δ F2 μ2, Ex F F2 ∧ Lay X.K F2 μ2 H ∧ RepSt X.K F2 σ δ ∧ W m' δ μ2, fun σ' H' ⟨m', hm, z⟩ => ⟨m', hm, z⟩, δ2, F3, μ3, _, l3, r2.mono e3, q3,
        fun σ4 δ4 F4 μ4 H4 e4 l4 r4 ⟨m', hm, w4⟩ => ⟨m', hm, δ4, F4, μ4, (e2.trans e3).trans e4, l4, r4, w4⟩, k3.2.1, k3.1, fun σ4 δ4 F4 μ4 H4 e4 l4 r4 ⟨m', hm, w4⟩ => ⟨m', hm, δ4, F4, μ4, (e2.trans e3).trans e4, l4, r4, w4⟩⟩
    | false => exact k.1 _ _ F3 μ3 H3 (e2.trans e3) l3 (r2.mono e3) q3
end
end DL
-- DW
set_option maxRecDepth 100000
namespace DL
open PySem PySem.Spec PyProof.Rows L2
section
variable {X : Cx} {a b c e : Expr} {ta tb tc te : TD} {pos : Pos}
def dNeg (t : TD) : TD := fun δ μ Q => t δ μ fun x μ1 => ∃ i : Int, x = .int i ∧ Q (.int (-i)) μ1
theorem de_neg (h : DE X a ta) : DE X (.UnaryOp .USub a pos) (dNeg ta) :=
  PE.weak (pe_un un_neg h) fun σ H Q ⟨δ, F, μ, QD, l, rs, q, k⟩ => ⟨δ, F, μ, _, l, rs, q, fun v d F1 μ1 H1 e1 l1 r1 ⟨i, ed, q1⟩ => by
    subst ed
    exact ⟨i, rep_int r1, k _ _ F1 μ1 H1 e1 l1 (.int _) q1⟩⟩
/-- a op1 b op2 c -/
def dChain (r r' : RD2) (ta tb tc : TD) : TD := fun δ μ Q => ta δ μ fun x μ1 => tb δ μ1 fun y μ2 => r x y μ2 fun z μ3 => ∃ k, z = .bl k ∧ (if k = true then tc δ μ3 fun w μ4 => r' y w μ4 Q else Q (.bl false) μ3)
theorem eOf_chain {r r' : R2} {rd rd' : RD2} {K : PySem.W.Frag} (h : Lift2 K r rd) (h' : Lift2 K r' rd') {σ : L2.St} {H : Hp} {Q : VK} : eOf K (dChain rd rd' ta tb tc) σ H Q → tChain r r' (eOf K ta) (eOf K tb) (eOf K tc) σ H Q := fun ⟨δ, F, μ, QD, l, rs, q, k⟩ =>
  ⟨δ, F, μ, _, l, rs, q, fun x dx F1 μ1 H1 e1 l1 r1 q1 => ⟨δ, F1, μ1, _, l1, rs.mono e1, q1, fun y dy F2 μ2 H2 e2 l2 r2 q2 =>
    h x y dx dy F2 μ2 H2 _ (fun z μ3 => ∃ kk, z = .bl kk ∧ (if kk = true then tc δ μ3 fun w μ4 => rd' dy w μ4 QD else QD (.bl false) μ3)) l2 (r1.mono e2) r2 q2 fun z dz F3 μ3 H3 e3 l3 r3 ⟨kk, ez, q3⟩ => by
      subst ez
      refine ⟨kk, rep_bl r3, ?_⟩
      cases kk with
      | false => exact k _ _ F3 μ3 H3 ((e1.trans e2).trans e3) l3 (.bl _) q3
      | true => exact ⟨δ, F3, μ3, _, l3, rs.mono ((e1.trans e2).trans e3), q3, fun w dw F4 μ4 H4 e4 l4 r4 q4 => h' y w dy dw F4 μ4 H4 Q QD l4 (r2.mono (e3.trans e4)) r4 q4 (k.mono (((e1.trans e2).trans e3).trans e4))⟩⟩⟩
theorem de_chain {op op' : CmpOp} {r r' : R2} {rd rd' : RD2} (ho : OpR X (compareOp op) r) (hl : Lift2 X.K r rd) (ho' : OpR X (compareOp op') r') (hl' : Lift2 X.K r' rd') (ha : DE X a ta) (hb : DE X b tb) (hc : DE X c tc)
    (hm : lastMarks [op, op'] [b, c] = false := by with_unfolding_all rfl) : DE X (.Compare a [op, op'] [b, c] pos) (dChain rd rd' ta tb tc) :=
  PE.weak (pe_chain ho ho' ha hb hc hm) fun _ _ _ h => eOf_chain hl hl' h
theorem dt_chain {op op' : CmpOp} {r r' : R2} {rd rd' : RD2} (ho : OpR X (compareOp op) r) (hl : Lift2 X.K r rd) (ho' : OpR X (compareOp op') r') (hl' : Lift2 X.K r' rd') (ha : DE X a ta) (hb : DE X b tb) (hc : DE X c tc)
    (hm : lastMarks [op, op'] [b, c] = false := by with_unfolding_all rfl) : DT X (.Compare a [op, op'] [b, c] pos) (dTest (dChain rd rd' ta tb tc)) := by
  refine PT.weak (pt_chain ho ho' ha hb hc hm) fun σ H Q ⟨δ, F, μ, QD, l, rs, q, k⟩ => ?_
  exact eOf_chain hl hl' ⟨δ, F, μ, _, l, rs, q, fun x dx F1 μ1 H1 e1 l1 r1 ⟨c, hc, q1⟩ => by
    subst hc
    exact ⟨c, rep_bl r1, k c F1 μ1 H1 e1 l1 q1⟩⟩
/-! ### comprehensions -/
variable {elt tg iter : Expr} {ifs : List Expr} {scope : Scope} {own : List (Str × Nat)} {wi : TDI} {g : Tg} {tt : TDT}
theorem de_lc (hc : X.calm = true) (hN : X.N.Nodup) (hi : DI X tg iter wi) (ok : BlkOk X.N X.env.scope scope own) (hv : ∀ i ∈ g.slots, i ∈ own.map (·.2))
    (hg : ∀ (s : Shared) (H : Hp) (C : Addr) (cl : List (Str × Addr)) (fp : List Addr), PG (X.blk s H scope (compEnvC scope cl C X.env) fp) tg (hTg X.K g)) (ht : ∀ (s : Shared) (H : Hp) (C : Addr) (cl : List (Str × Addr)) (fp : List Addr), DTs (X.blk s H scope (compEnvC scope cl C X.env) fp) ifs tt)
    (he : ∀ (s : Shared) (H : Hp) (C : Addr) (cl : List (Str × Addr)) (fp : List Addr), DE (X.blk s H scope (compEnvC scope cl C X.env) fp) elt te) (hs : ∀ x, foldedSetIterable iter X.env x = pure x := by intro _; rfl) :
    DE X (.ListComp elt [⟨tg, iter, ifs, 0⟩] scope pos) (dLc wi g tt te (own.map (·.2))) :=
  PE.weak (pe_lc hc hN hi ok hg ht he hs) fun _ _ _ h => lc_sound hv h
theorem ds_setLc {i : Nat} {y : Str} {py spos : Pos} (hc : X.calm = true) (hN : X.N.Nodup) (hy : X.N[i]? = some y) (hyl : X.env.scope.names.lookup y = some .local)
    (hsw : swapsWith (.ListComp elt [⟨tg, iter, ifs, 0⟩] scope pos) (some (.Name y py)) spos.line X.env = pure true) (hi : DI X tg iter wi) (ok : BlkOk X.N X.env.scope scope own) (hv : ∀ i ∈ g.slots, i ∈ own.map (·.2))
    (hg : ∀ (s : Shared) (H : Hp) (C : Addr) (cl : List (Str × Addr)) (fp : List Addr), PG (X.blk s H scope (compEnvC scope cl C X.env) fp) tg (hTg X.K g)) (ht : ∀ (s : Shared) (H : Hp) (C : Addr) (cl : List (Str × Addr)) (fp : List Addr), DTs (X.blk s H scope (compEnvC scope cl C X.env) fp) ifs tt)
    (he : ∀ (s : Shared) (H : Hp) (C : Addr) (cl : List (Str × Addr)) (fp : List Addr), DE (X.blk s H scope (compEnvC scope cl C X.env) fp) elt te) (hs : ∀ x, foldedSetIterable iter X.env x = pure x := by intro _; rfl) :
    DS X (.Assign [.Name y py] (.ListComp elt [⟨tg, iter, ifs, 0⟩] scope pos) spos) (dSet i (dLc wi g tt te (own.map (·.2)))) :=
  PS.weak (ps_setLc hc hN hy hyl hsw hi ok hg ht he hs) fun D σ H ⟨δ, F, μ, ED, l, rs, q, k⟩ => by
    have h := lc_sound (K := X.K) (te := te) (tt := tt) (wi := wi) (Q := fun x H1 => gName i x σ H1 D.nx) hv ⟨δ, F, μ, _, l, rs, q, fun v d F1 μ1 H1 e1 l1 r1 q1 => k.1 _ _ F1 μ1 H1 e1 l1 ((rs.mono e1).set r1 i) q1⟩
    exact h
/-- a comprehension whose parts leave the changing lists as they are: f tells what each thing gives -/
theorem lcD_pure {g : Tg} {tt : TDT} {te : TD} {δ : DSt} {Q : DK} (f : D → Option D) : ∀ (ds : List D) (μ : Mem) (Dn : Addr) (acc : List D), acc.length + ds.length ≤ 1000000 → μ Dn = none →
    (∀ d ∈ ds, ∀ μ' k, k (f d) μ' → lcStep g tt te δ d μ' k) → Q (.lst (acc ++ ds.filterMap f)) μ → lcD g tt te δ Dn ds (mset μ Dn acc) Q
  | [], μ, Dn, acc, _, hn, _, q => ⟨acc, mset_same, by rw [mdel_mset hn]; rw [List.filterMap_nil, List.append_nil] at q; exact q⟩
  | d :: ds, μ, Dn, acc, hz, hn, st, q => by
    refine st d List.mem_cons_self _ _ ⟨acc, mset_same, by rw [List.length_cons] at hz; omega, ?_⟩
    rw [List.filterMap_cons] at q
    cases e : f d with
    | none =>
      rw [e] at q
      exact lcD_pure f ds μ Dn acc (by rw [List.length_cons] at hz; omega) hn (fun d' hd => st d' (List.mem_cons_of_mem _ hd)) q
    | some y =>
      rw [e] at q
      show lcD g tt te δ Dn ds (mset (mset μ Dn acc) Dn (acc ++ [y])) Q
      rw [mset_mset]
      exact lcD_pure f ds μ Dn (acc ++ [y]) (by rw [List.length_append, List.length_cons] at *; simp; omega) hn (fun d' hd => st d' (List.mem_cons_of_mem _ hd)) (by rw [List.append_assoc]; exact q)
theorem lc_pure {g : Tg} {tt : TDT} {te : TD} {δ : DSt} {Q : DK} {ds : List D} {μ : Mem} (f : D → Option D) (hz : ds.length ≤ 1000000) (st : ∀ d ∈ ds, ∀ μ' k, k (f d) μ' → lcStep g tt te δ d μ' k) (q : Q (.lst (ds.filterMap f)) μ) :
    ∀ Dn, μ Dn = none → lcD g tt te δ Dn ds (mset μ Dn []) Q := fun Dn hn => lcD_pure f ds μ Dn [] (by rw [List.length_nil]; omega) hn st (by rw [List.nil_append]; exact q)
end
end DL
namespace DL
open PySem PySem.Spec PyProof.Rows L2
section
variable {X : Cx} {pos : Pos}
def dDic0 : TD := fun _ μ Q => Q (.dic []) μ
theorem de_dic0 : DE X (.Dict [] [] pos) dDic0 := PE.weak pe_dnewK fun σ H Q ⟨δ, F, μ, QD, l, rs, q, k⟩ => fun p hp =>
  k _ _ _ μ _ (Ex.new (l.none_F hp)) (l.new hp _) (.dic upd_same .nil) q
def dDic1 (z : Str) (i : Int) : TD := fun _ μ Q => Q (.dic [(Sum.inr z, .int i)]) μ
theorem de_dic1 {z : Str} {i : Int} {j1 j2 : Nat} {p1 p2 : Pos} : DE X (.Dict [some (.Constant (.str z) j1 p1)] [.Constant (.int i) j2 p2] pos) (dDic1 z i) :=
  PE.weak (pe_disp (pps_cons pe_str pe_int pps_nil) rfl rfl (fun z => by cases z) (by show 1 ≤ 15; decide)) fun σ H Q ⟨δ, F, μ, QD, l, rs, q, k⟩ => fun p hp => by
    refine ⟨upd_same, [(Sum.inr z, .int i)], rfl, by show 1 ≤ 15; decide, ?_⟩
    rw [upd_upd]
    exact k _ _ _ μ _ (Ex.new (l.none_F hp)) (l.new hp _) (.dic upd_same (.cons (.int i) .nil)) q
end
end DL
-- DV
set_option maxRecDepth 100000
namespace DL
open PySem PySem.Spec PyProof.Rows L2
/-! ### the draws: what every law of this kind has -/
/-- a vat: three numbers -/
def vatD (z s c : Int) : List D := [.int z, .int s, .int c]
def VatAt (μ : Mem) (a : Addr) : Prop := ∃ z s c, μ a = some (vatD z s c)
/-- _law_cup(vat, many): some number from 0 to many - 1; the vat holds other numbers -/
def spCup : SpD := fun ds μ Q => ∃ a many, ds = [.ref a, .int many] ∧ VatAt μ a ∧ 0 < many ∧ many < 1073741824 ∧ ∀ n z s c, 0 ≤ n → n < many → Q (.int n) (mset μ a (vatD z s c))
/-- _law_one_of(vat, some): one of the things -/
def spOneOf : SpD := fun ds μ Q => ∃ a xs, ds = [.ref a, .tup xs] ∧ VatAt μ a ∧ 0 < xs.length ∧ xs.length < 1000 ∧ ∀ d z s c, d ∈ xs → Q d (mset μ a (vatD z s c))
/-- _law_vat(script, lap): a vat -/
def spVat : SpD := fun ds μ Q => ∃ ns lap, ds = [.scr ns, .int lap] ∧ 0 ≤ lap ∧ lap < 100 ∧ ns.length ≤ 63 ∧ ∀ a z s c, μ a = none → Q (.ref a) (mset μ a (vatD z s c))
theorem atI_mem {α : Type} {xs : List α} {i : Int} (h0 : 0 ≤ i) (h1 : i < xs.length) : ∃ d, atI xs i = some d ∧ d ∈ xs := by
  obtain ⟨n, rfl⟩ : ∃ n : Nat, i = n := ⟨i.toNat, by omega⟩
  have hn : n < xs.length := by omega
  exact ⟨xs[n], atI_nat (List.getElem?_eq_getElem hn), List.getElem_mem hn⟩
theorem mulc {i j : Int} (h : -(2 ^ 64) < j ∧ j < 2 ^ 64) : MulOk i j := .inl (.inr h)
theorem mulcl {i j : Int} (h : -(2 ^ 64) < i ∧ i < 2 ^ 64) : MulOk i j := .inl (.inl h)
theorem div_small {i j : Int} (h0 : j ≠ 0) (h : j.natAbs < 1073741824) : DivOk i j := ⟨h0, PyProof.noPylong_small h⟩
end DL
-- DI
set_option maxRecDepth 100000
namespace DL
open PySem PySem.Spec PyProof.Rows L2
/-! ### stepping through a reading -/
section
variable {δ : DSt} {μ : Mem} {Q : DK} {QB : Bool → Mem → Prop} {QA : List D → Mem → Prop} {QS : DSt → Mem → Prop} {E : DEnds} {ta tb tc : TD} {tA tB : TDT} {tr tk : TDA} {t u : TDS} {r r' : RD2} {ra : RDA} {d e : D} {ds es : List D} {i j : Int} {n : Nat} {p q : Prop} {b : Bool}
theorem x_var (h : δ[n]? = some (some d)) (k : Q d μ) : dVar n δ μ Q := ⟨d, h, k⟩
theorem x_c (k : Q d μ) : dC d δ μ Q := k
theorem x_op (k : ta δ μ fun x μ1 => tb δ μ1 fun y μ2 => r x y μ2 Q) : dOp r ta tb δ μ Q := k
theorem x_chain (k : ta δ μ fun x μ1 => tb δ μ1 fun y μ2 => r x y μ2 fun z μ3 => ∃ k, z = .bl k ∧ (if k = true then tc δ μ3 fun w μ4 => r' y w μ4 Q else Q (.bl false) μ3)) : dChain r r' ta tb tc δ μ Q := k
theorem x_test (k : ta δ μ fun x μ1 => ∃ k, x = .bl k ∧ QB k μ1) : dTest ta δ μ QB := k
theorem x_bl {R : Bool → Prop} (k : R b) : ∃ k, (D.bl b) = .bl k ∧ R k := ⟨b, rfl, k⟩
theorem x_and (k : tA δ μ fun c μ1 => if c = true then tB δ μ1 QB else QB false μ1) : dAnd tA tB δ μ QB := k
theorem x_or (k : tA δ μ fun c μ1 => if c = true then QB true μ1 else tB δ μ1 QB) : dOr tA tB δ μ QB := k
theorem x_not (k : tA δ μ fun c μ1 => QB (!c) μ1) : dNot tA δ μ QB := k
theorem x_andV (k : ta δ μ fun x μ1 => ∃ c, x = .bl c ∧ if c = true then tb δ μ1 Q else Q (.bl false) μ1) : dAndV ta tb δ μ Q := k
theorem x_orV (k : ta δ μ fun x μ1 => ∃ c, x = .bl c ∧ if c = true then Q (.bl true) μ1 else tb δ μ1 Q) : dOrV ta tb δ μ Q := k
theorem x_notV (k : ta δ μ fun x μ1 => ∃ c, x = .bl c ∧ Q (.bl (!c)) μ1) : dNotV ta δ μ Q := k
theorem x_if (k : tA δ μ fun c μ1 => if c = true then ta δ μ1 Q else tb δ μ1 Q) : dIf tA ta tb δ μ Q := k
theorem x_nil (k : QA [] μ) : dNil δ μ QA := k
theorem x_cons (k : ta δ μ fun x μ1 => tr δ μ1 fun xs μ2 => QA (x :: xs) μ2) : dCons ta tr δ μ QA := k
theorem x_tup (k : tr δ μ fun ds μ1 => ds.length ≤ 1000000 ∧ Q (.tup ds) μ1) : dTup tr δ μ Q := k
theorem x_lst (k : tr δ μ fun ds μ1 => ds.length ≤ 1000000 ∧ Q (.lst ds) μ1) : dLst tr δ μ Q := k
theorem x_cb (k : tr δ μ fun ds μ1 => ra ds μ1 Q) : dCB ra tr δ μ Q := k
theorem x_call {sp : SpD} (k : tr δ μ fun ds μ1 => sp ds μ1 Q) : dCall sp tr δ μ Q := k
theorem x_mk {C : Addr} {f : Str} (k : tr δ μ fun ds μ1 => ∃ d, ds = [d] ∧ Q (.exc C (some (f, d))) μ1) : dMk C f tr δ μ Q := k
theorem x_mk1 {R : D → Prop} (k : R d) : ∃ d', [d] = [d'] ∧ R d' := ⟨d, rfl, k⟩
theorem x_mk0 {C : Addr} (k : Q (.exc C none) μ) : dMk0 C δ μ Q := k
theorem x_neg (k : ta δ μ fun x μ1 => ∃ i : Int, x = .int i ∧ Q (.int (-i)) μ1) : dNeg ta δ μ Q := k
theorem x_neg1 {R : Int → Prop} (k : R i) : ∃ j : Int, (D.int i) = .int j ∧ R j := ⟨i, rfl, k⟩
theorem x_dic0 (k : Q (.dic []) μ) : dDic0 δ μ Q := k
theorem x_dic1 {z : Str} (k : Q (.dic [(Sum.inr z, .int i)]) μ) : dDic1 z i δ μ Q := k
-- operators by values
theorem x_add (k : Q (.int (i + j)) μ) : dAdd (.int i) (.int j) μ Q := k
theorem x_addT (h : ds.length + es.length ≤ 1000000) (k : Q (.tup (ds ++ es)) μ) : dAdd (.tup ds) (.tup es) μ Q := ⟨h, k⟩
theorem x_addL (h : ds.length + es.length ≤ 1000000) (k : Q (.lst (ds ++ es)) μ) : dAdd (.lst ds) (.lst es) μ Q := ⟨h, k⟩
theorem x_sub (k : Q (.int (i - j)) μ) : dSub (.int i) (.int j) μ Q := k
theorem x_mul (h : MulOk i j) (k : Q (.int (i * j)) μ) : dMul (.int i) (.int j) μ Q := ⟨h, k⟩
theorem x_fdiv (h : DivOk i j) (k : Q (.int (i.fdiv j)) μ) : dFdiv (.int i) (.int j) μ Q := ⟨h, k⟩
theorem x_mod (h : 0 < j) (k : Q (.int (i % j)) μ) : dMod (.int i) (.int j) μ Q := ⟨h, k⟩
theorem x_pow (h : 0 ≤ j ∧ j ≤ 1000000 ∧ i.natAbs < 2 ^ 64) (k : Q (.int (i ^ j.toNat)) μ) : dPow (.int i) (.int j) μ Q := ⟨h, k⟩
theorem x_lt (k : Q (.bl (decide (i < j))) μ) : dLt (.int i) (.int j) μ Q := k
theorem x_le (k : Q (.bl (decide (i ≤ j))) μ) : dLe (.int i) (.int j) μ Q := k
theorem x_gt (k : Q (.bl (decide (j < i))) μ) : dGt (.int i) (.int j) μ Q := k
theorem x_ge (k : Q (.bl (decide (j ≤ i))) μ) : dGe (.int i) (.int j) μ Q := k
theorem x_ix (h : asS μ d = some ds) (h2 : atI ds i = some e) (k : Q e μ) : dIx d (.int i) μ Q := ⟨ds, i, e, h, rfl, h2, k⟩
theorem x_ixR {a : Addr} (h : μ a = some ds) (h2 : atI ds i = some e) (k : Q e μ) : dIx (.ref a) (.int i) μ Q := ⟨ds, i, e, h, rfl, h2, k⟩
theorem x_ixT (h2 : atI ds i = some e) (k : Q e μ) : dIx (.tup ds) (.int i) μ Q := ⟨ds, i, e, rfl, rfl, h2, k⟩
theorem x_ixL (h2 : atI ds i = some e) (k : Q e μ) : dIx (.lst ds) (.int i) μ Q := ⟨ds, i, e, rfl, rfl, h2, k⟩
theorem x_lenR {a : Addr} (h : μ a = some ds) (k : Q (.int ds.length) μ) : dLen [.ref a] μ Q := ⟨_, ds, rfl, h, k⟩
theorem x_lenT (k : Q (.int ds.length) μ) : dLen [.tup ds] μ Q := ⟨_, ds, rfl, rfl, k⟩
theorem x_lenL (k : Q (.int ds.length) μ) : dLen [.lst ds] μ Q := ⟨_, ds, rfl, rfl, k⟩
theorem x_lenS {ns : List Int} (k : Q (.int ns.length) μ) : dLen [.scr ns] μ Q := ⟨_, ns.map D.int, rfl, rfl, by rw [List.length_map]; exact k⟩
theorem x_len (h : asS μ d = some ds) (k : Q (.int ds.length) μ) : dLen [d] μ Q := ⟨d, ds, rfl, h, k⟩
theorem x_int (k : Q (.int i) μ) : dInt [.int i] μ Q := ⟨i, rfl, k⟩
theorem x_abs (k : Q (.int i.natAbs) μ) : dAbs [.int i] μ Q := ⟨i, rfl, k⟩
theorem x_divmod (h : CDiv i j) (k : Q (.tup [.int (i / j), .int (i % j)]) μ) : dDivmod [.int i, .int j] μ Q := ⟨i, j, rfl, h, k⟩
theorem x_sum {ns : List Int} (h : asL μ d = some ds) (h2 : intsD ds = some ns) (k : Q (.int ns.sum) μ) : dSum [d] μ Q := ⟨d, ds, ns, rfl, h, h2, k⟩
theorem x_all {bs : List Bool} (h : asL μ d = some ds) (h2 : bools ds = some bs) (k : Q (.bl (bs.all id)) μ) : dAll [d] μ Q := ⟨d, ds, bs, rfl, h, h2, k⟩
theorem x_tupOf (h : asS μ d = some ds) (k : Q (.tup ds) μ) : dTupleOf [d] μ Q := ⟨d, ds, rfl, h, k⟩
theorem x_tupOfL (k : Q (.tup ds) μ) : dTupleOf [.lst ds] μ Q := ⟨_, ds, rfl, rfl, k⟩
theorem x_tupOfT (k : Q (.tup ds) μ) : dTupleOf [.tup ds] μ Q := ⟨_, ds, rfl, rfl, k⟩
theorem x_tupOfR {a : Addr} (h : μ a = some ds) (k : Q (.tup ds) μ) : dTupleOf [.ref a] μ Q := ⟨_, ds, rfl, h, k⟩
theorem x_lstOf (h : asS μ d = some ds) (k : Q (.lst ds) μ) : dListOf [d] μ Q := ⟨d, ds, rfl, h, k⟩
theorem x_repr {p : PyData} (h : ShowOk d p) (k : Q (.str p.shown) μ) : dRepr [d] μ Q := ⟨d, p, rfl, h, k⟩
theorem x_isE {K : PySem.W.Frag} {C : Addr} {fs : Option (Str × D)} {c : D} (h : ExcC K C) (h2 : kitD K C c = some b) (k : Q (.bl b) μ) : dIsE K [.exc C fs, c] μ Q := ⟨C, fs, c, b, rfl, h, h2, k⟩
theorem x_attr {K : PySem.W.Frag} {f : Str} (k : ta δ μ fun x μ1 => ∃ C d, x = .exc C (some (f, d)) ∧ ExcC K C ∧ PySem.W.findIn K (.ref C) f = some none ∧ Q d μ1) : dAttr K f ta δ μ Q := k
theorem x_eq {x y : PyData} (h1 : toPyM μ d = some x) (h2 : toPyM μ e = some y) (h3 : SeqAt.shaped x = true) (h4 : SeqAt.shaped y = true) (k : Q (.bl (PyData.eqv x y)) μ) : dEq d e μ Q := .inl ⟨x, y, h1, h2, h3, h4, k⟩
theorem x_eqS {x y : Str} (k : Q (.bl (decide (x = y))) μ) : dEq (.str x) (.str y) μ Q := .inr ⟨x, y, rfl, rfl, k⟩
theorem x_neS {x y : Str} (k : Q (.bl (!decide (x = y))) μ) : dNe (.str x) (.str y) μ Q := .inr ⟨x, y, rfl, rfl, k⟩
theorem x_ne {x y : PyData} (h1 : toPyM μ d = some x) (h2 : toPyM μ e = some y) (h3 : SeqAt.shaped x = true) (h4 : SeqAt.shaped y = true) (k : Q (.bl (!PyData.eqv x y)) μ) : dNe d e μ Q := .inl ⟨x, y, h1, h2, h3, h4, k⟩
theorem x_sl {tl th : TDO} (k : ta δ μ fun x μ1 => tl δ μ1 fun lo μ2 => th δ μ2 fun hi μ3 => slV x lo hi μ3 Q) : dSl ta tl th δ μ Q := k
theorem x_slT {lo hi : Option Int} (k : Q (.tup (cutD ds lo hi)) μ) : slV (.tup ds) lo hi μ Q := k
theorem x_slL {lo hi : Option Int} (k : Q (.lst (cutD ds lo hi)) μ) : slV (.lst ds) lo hi μ Q := ⟨ds, rfl, k⟩
theorem x_slR {lo hi : Option Int} {a : Addr} (h : μ a = some ds) (k : Q (.lst (cutD ds lo hi)) μ) : slV (.ref a) lo hi μ Q := ⟨ds, h, k⟩
def cutI (ns : List Int) (lo hi : Option Int) : List Int := (ns.drop (HT.sIx ns.length 0 lo)).take (HT.sIx ns.length ns.length hi - HT.sIx ns.length 0 lo)
theorem cutI_le (ns : List Int) (lo hi : Option Int) : (cutI ns lo hi).length ≤ ns.length := by
  unfold cutI
  rw [List.length_take, List.length_drop]
  omega
theorem x_slS {lo hi : Option Int} {ns : List Int} (k : Q (.lst ((cutI ns lo hi).map D.int)) μ) : slV (.scr ns) lo hi μ Q := by
  refine ⟨ns.map D.int, rfl, ?_⟩
  have e : cutD (ns.map D.int) lo hi = (cutI ns lo hi).map D.int := by
    unfold cutD cutI
    rw [List.length_map, List.map_take, List.map_drop]
  rw [e]
  exact k
theorem intsD_map : ∀ ns : List Int, intsD (ns.map D.int) = some ns
  | [] => rfl
  | n :: ns => by
    show (intsD (ns.map D.int)).map (n :: ·) = _
    rw [intsD_map ns]
    rfl
theorem x_sumI {ns : List Int} (k : Q (.int ns.sum) μ) : dSum [.lst (ns.map D.int)] μ Q := ⟨.lst (ns.map D.int), ns.map D.int, ns, rfl, rfl, intsD_map ns, k⟩
theorem x_ixS {ns : List Int} (h0 : 0 ≤ i) (h1 : i < ns.length) (k : ∀ n, n ∈ ns → Q (.int n) μ) : dIx (.scr ns) (.int i) μ Q := by
  obtain ⟨d, hd, hm⟩ := atI_mem (xs := ns.map D.int) h0 (by rw [List.length_map]; exact h1)
  obtain ⟨n, hn, rfl⟩ := List.mem_map.mp hm
  exact ⟨_, i, _, rfl, rfl, hd, k n hn⟩
theorem x_tgN {Q : DSt → Prop} (k : Q (δ.set n (some d))) : dTg (.nm n) d δ Q := k
theorem x_tgT {Q : DSt → Prop} {is : List Nat} (h : ds.length = is.length) (k : Q (setAll is ds δ)) : dTg (.tp is) (.tup ds) δ Q := ⟨ds, rfl, h, k⟩
theorem map_snoc {ms : List Int} {o : Int} : ms.map D.int ++ [D.int o] = (ms ++ [o]).map D.int := by rw [List.map_append]; rfl
theorem x_yes (k : QB true μ) : dYes δ μ QB := k
theorem x_lstM (k : tr δ μ fun ds μ1 => ds.length ≤ 1000000 ∧ ∀ p, μ1 p = none → Q (.ref p) (mset μ1 p ds)) : dLstM tr δ μ Q := k
theorem x_cup {a : Addr} {many : Int} (h : VatAt μ a) (h0 : 0 < many) (h1 : many < 1073741824) (k : ∀ n z s c, 0 ≤ n → n < many → Q (.int n) (mset μ a (vatD z s c))) : spCup [.ref a, .int many] μ Q := ⟨a, many, rfl, h, h0, h1, k⟩
theorem x_one {a : Addr} (h : VatAt μ a) (h0 : 0 < ds.length) (h1 : ds.length < 1000) (k : ∀ d z s c, d ∈ ds → Q d (mset μ a (vatD z s c))) : spOneOf [.ref a, .tup ds] μ Q := ⟨a, ds, rfl, h, h0, h1, k⟩
theorem vat_set {a : Addr} {z s c : Int} : VatAt (mset μ a (vatD z s c)) a := ⟨z, s, c, mset_same⟩
theorem vat_of {a : Addr} {z s c : Int} (h : μ a = some (vatD z s c)) : VatAt μ a := ⟨z, s, c, h⟩
theorem vat_ne {a b : Addr} {xs : List D} (h : VatAt μ a) (hb : a ≠ b) : VatAt (mset μ b xs) a := by
  obtain ⟨z, s, c, h⟩ := h
  exact ⟨z, s, c, by rw [mset_ne hb]; exact h⟩
theorem x_noPart {Q : Option Int → Mem → Prop} (k : Q none μ) : dNoPart δ μ Q := k
theorem x_part {Q : Option Int → Mem → Prop} (k : ta δ μ fun x μ1 => ∃ i, x = .int i ∧ Q (some i) μ1) : dPart ta δ μ Q := k
-- statements
theorem x_seq (k : t { E with nx := u E } δ μ) : dSeq t u E δ μ := k
theorem x_next (k : E.nx δ μ) : dNext E δ μ := k
theorem x_ifS (k : tA δ μ fun b μ1 => if b = true then t E δ μ1 else u E δ μ1) : dIfS tA t u E δ μ := k
theorem x_ret (k : ta δ μ E.rt) : dRet ta E δ μ := k
theorem x_drop (k : ta δ μ fun _ μ1 => E.nx δ μ1) : dDrop ta E δ μ := k
theorem x_set (k : ta δ μ fun d μ1 => E.nx (δ.set n (some d)) μ1) : dSet n ta E δ μ := k
theorem x_asg {g : DTG} (k : ta δ μ fun d μ1 => g d δ μ1 E.nx) : dAsg ta g E δ μ := k
theorem x_gTup {g : DTGs} (h : ds.length = n) (k : g ds δ μ QS) : dgTup n g (.tup ds) δ μ QS := ⟨ds, rfl, h, k⟩
theorem x_gCons {g : DTG} {gs : DTGs} (k : g d δ μ fun δ' μ' => gs ds δ' μ' QS) : dgCons g gs (d :: ds) δ μ QS := ⟨d, ds, rfl, k⟩
theorem x_gNil (k : QS δ μ) : dgNil [] δ μ QS := ⟨rfl, k⟩
theorem x_gName (k : QS (δ.set n (some d)) μ) : dgName n d δ μ QS := k
theorem x_gSub (k : ta δ μ fun o μ1 => tb δ μ1 fun i μ2 => ∃ a xs k j, o = .ref a ∧ i = .int k ∧ μ2 a = some xs ∧ ixN xs.length k = some j ∧ QS δ (mset μ2 a (xs.set j d))) : dgSub ta tb d δ μ QS := k
theorem x_gSub1 {a : Addr} {m : Nat} {R : Addr → List D → Int → Nat → Prop} (h : μ a = some ds) (h2 : ixN ds.length i = some m) (k : R a ds i m) : ∃ a' xs k j, (D.ref a) = .ref a' ∧ (D.int i) = .int k ∧ μ a' = some xs ∧ ixN xs.length k = some j ∧ R a' xs k j := ⟨a, ds, i, m, rfl, rfl, h, h2, k⟩
theorem x_for {wi : TDI} {g : Tg} (k : wi δ μ fun ds μ1 => forD g t E ds δ μ1) : dFor wi g t E δ μ := k
theorem x_iLst {Q : List D → Mem → Prop} (k : ta δ μ fun d μ1 => ∃ xs, d = .lst xs ∧ Q xs μ1) : iLst ta δ μ Q := k
theorem x_iLst1 {R : List D → Prop} (k : R ds) : ∃ xs, (D.lst ds) = .lst xs ∧ R xs := ⟨ds, rfl, k⟩
theorem x_iTup {Q : List D → Mem → Prop} (k : ta δ μ fun d μ1 => ∃ xs, d = .tup xs ∧ Q xs μ1) : iTupD ta δ μ Q := k
theorem x_iTup1 {R : List D → Prop} (k : R ds) : ∃ xs, (D.tup ds) = .tup xs ∧ R xs := ⟨ds, rfl, k⟩
theorem x_iRng {Q : List D → Mem → Prop} (k : tr δ μ fun ds μ1 => ∃ n : Int, ds = [.int n] ∧ n ≤ 1000000 ∧ -1000000 ≤ n ∧ Q ((List.range n.toNat).map fun i : Nat => .int (i : Int)) μ1) : iRng tr δ μ Q := k
theorem x_iRng1 {R : Int → Prop} (h : i ≤ 1000000) (h2 : -1000000 ≤ i) (k : R i) : ∃ n : Int, [D.int i] = [.int n] ∧ n ≤ 1000000 ∧ -1000000 ≤ n ∧ R n := ⟨i, rfl, h, h2, k⟩
theorem x_fNil {g : Tg} (k : E.nx δ μ) : forD g t E [] δ μ := k
theorem x_fCons {g : Tg} (k : dTg g d δ fun δ' => t { nx := forD g t E ds, rt := E.rt, bk := E.nx, ct := forD g t E ds } δ' μ) : forD g t E (d :: ds) δ μ := k
theorem x_lc {wi : TDI} {g : Tg} {vs : List Nat} (k : wi δ μ fun ds μ1 => ∀ Dn, μ1 Dn = none → lcD g tA ta (wipeD δ vs) Dn ds (mset μ1 Dn []) Q) : dLc wi g tA ta vs δ μ Q := k
theorem x_par {n m : Nat} (k : tr δ μ fun ds μ1 => ∃ d e, ds = [d, e] ∧ E.nx ((δ.set n (some d)).set m (some e)) μ1) : dPar n m tr E δ μ := k
theorem x_par1 {R : D → D → Prop} (k : R d e) : ∃ d' e', [d, e] = [d', e'] ∧ R d' e' := ⟨d, e, rfl, k⟩
theorem x_app (k : ta δ μ fun x μ1 => ∃ a, x = .ref a ∧ (∃ ys, μ1 a = some ys) ∧ tr δ μ1 fun ds μ2 => ∃ xs d, ds = [d] ∧ μ2 a = some xs ∧ xs.length < 1000000 ∧ E.nx δ (mset μ2 a (xs ++ [d]))) : dApp ta tr E δ μ := k
-- tests
theorem ite_y {A B : Prop} (h : p) [Decidable p] (k : A) : if decide p = true then A else B := by rw [if_pos (decide_eq_true h)]; exact k
theorem ite_n {A B : Prop} (h : ¬ p) [Decidable p] (k : B) : if decide p = true then A else B := by rw [if_neg (by rw [decide_eq_false h]; exact Bool.false_ne_true)]; exact k
theorem ite_d {A B : Prop} [Decidable p] (k : p → A) (k2 : ¬ p → B) : if decide p = true then A else B := by
  by_cases h : p
  · exact ite_y h (k h)
  · exact ite_n h (k2 h)
theorem ite_nn {A B : Prop} (h : ¬ p) [Decidable p] (k : A) : if (!decide p) = true then A else B := by rw [decide_eq_false h]; rw [if_pos (show (!false) = true from rfl)]; exact k
theorem ite_ny {A B : Prop} (h : p) [Decidable p] (k : B) : if (!decide p) = true then A else B := by rw [decide_eq_true h]; rw [if_neg (by decide)]; exact k
theorem iteNT {A B : Prop} (k : B) : if (!true) = true then A else B := by rw [if_neg (by decide)]; exact k
theorem iteNF {A B : Prop} (k : A) : if (!false) = true then A else B := by rw [if_pos (by decide)]; exact k
theorem ite_b {A B : Prop} (k : b = true → A) (k2 : b = false → B) : if b = true then A else B := by
  cases b with
  | true => rw [if_pos rfl]; exact k rfl
  | false => rw [if_neg (by decide)]; exact k2 rfl
end
end DL
-- DH
set_option maxRecDepth 100000
/-! the end of a law: its def keeps its promise where no repr is under way -/
namespace DL
open PySem PySem.Spec PyProof.Rows L2
/-- a def's code object at c, its table at P -/
structure BTab (base : Heap) (mg : Str → Option Value) (c P : Addr) : Prop where
  code : PySem.W.CodeHd base c P
  bm : base.BuiltinsAt mg P
  gP : mainGlobals ≠ P
/-- what the heap tracks ahead of the call: the script, or nothing; the tables T -/
def seed (scr : Addr) (us : List Value) (ns : List Int) (T : List Addr) (yes : Bool) : Hp := fun b => if yes = true ∧ b = scr then some (.frz { cls := .type "list", data := .seq us.toArray } (.lst (ns.map V.int))) else if b ∈ T then some (.tbl #[]) else none
theorem seed_at {scr b : Addr} {us : List Value} {ns : List Int} {T : List Addr} {yes : Bool} {o : HO} (h : seed scr us ns T yes b = some o) : (yes = true ∧ b = scr ∧ o = .frz { cls := .type "list", data := .seq us.toArray } (.lst (ns.map V.int))) ∨ (b ∈ T ∧ o = .tbl #[]) := by
  unfold seed at h
  split at h
  · rename_i c
    exact .inl ⟨c.1, c.2, (Option.some.inj h).symm⟩
  · split at h
    · rename_i c
      exact .inr ⟨c, (Option.some.inj h).symm⟩
    · cases h
section
variable {P : Program} {w : World} {K : PySem.W.Frag} {mg mb : Str → Option Value} {k : Nat} {at_ scr : Addr} {x nm : Str} {st : Stmt} {spd : SpD} {s1 : Shared} {us : List Value} {ns : List Int} {tabs : List (Addr × Addr)}
theorem lawG_core (kin : K.In s1.heap) (glob : s1.heap.Ns mainGlobals mg) (blt : s1.heap.Ns builtinsNs mb) (bltIs : ∀ y : Str, y ≠ "__name__" → mb y = bootBuiltins y) (nolim : s1.heap.NoLimit) (nogen : s1.gens = #[])
    (here : s1.heap.get? scr = some { cls := .type "list", data := .seq us.toArray }) (rel : IntsAre us ns) (short : ns.length ≤ sizeLine) (room : Room k callerA) (hmg : mg nm = some (.ref at_))
    (tabE : ∀ p ∈ tabs, s1.heap.get? p.2 = some { cls := .none, data := .fields #[] }) (tabN : ∀ p ∈ tabs, K.lookup p.2 = none) (tabC : ∀ p ∈ tabs, PySem.W.CodeHd s1.heap p.1 p.2)
    (bmod : ∃ (bm : Addr) (ob : Obj), mg "__builtins__" = some (.ref bm) ∧ bm ≠ builtinsNs ∧ s1.heap.get? bm = some ob ∧ ob.cls = .type "module" ∧ ob.dict = some builtinsNs ∧ ob.data = .plain)
    (G : ∀ base : Heap, K.In base → base.Ns mainGlobals mg → (∀ p ∈ tabs, BTab base mg p.1 p.2) → DefOk P w K mg base k nm st [x] spd) (yes : Bool) (inK : yes = true → K.lookup scr = none)
    (asked : spOf K spd [.ref scr] (seed scr us ns (tabs.map (·.2)) yes) (fun v _ => v = .bl true) fun _ _ _ => False) (noExc : ∀ e s', CX0 [] (seed scr us ns (tabs.map (·.2)) yes) s1 (fun _ _ _ => False) e s' → False) :
    codeAny (model P w) callerA (.call (.ref at_) ⟨[.ref scr], []⟩) (fun r s' => r = .ok (.ret (.bool true)) ∧ OldK s1.heap s'.heap ∧ s'.os = s1.os ∧ AllBare s'.gens) s1 := by
  have tabAt : ∀ b, b ∈ tabs.map (·.2) → s1.heap.get? b = some { cls := .none, data := .fields #[] } := fun b hb => by
    obtain ⟨p, hp, rfl⟩ := List.mem_map.mp hb
    exact tabE p hp
  have scrT : scr ∉ tabs.map (·.2) := fun z => by
    have e := tabAt scr z
    rw [here] at e
    cases e
  have isT : ∀ b, b ∈ tabs.map (·.2) → seed scr us ns (tabs.map (·.2)) yes b = some (.tbl #[]) := fun b hb => by
    unfold seed
    rw [if_neg (show ¬ (yes = true ∧ b = scr) from fun z => scrT (z.2 ▸ hb)), if_pos hb]
  generalize hH : seed scr us ns (tabs.map (·.2)) yes = H at asked noExc isT
  have only : ∀ b o, H b = some o → (yes = true ∧ b = scr ∧ o = .frz { cls := .type "list", data := .seq us.toArray } (.lst (ns.map V.int))) ∨ (b ∈ tabs.map (·.2) ∧ o = .tbl #[]) := fun b o e => by
    rw [← hH] at e
    exact seed_at e
  have laid : HOk P w H s1.heap := fun b o e => by
    rcases only b o e with ⟨_, eb, eo⟩ | ⟨eb, eo⟩
    · subst eb eo
      exact ⟨here, by rw [List.length_map]; exact short, us, _, vals_ints rel, here⟩
    · subst eo
      exact tabAt b eb
  have apart : ∀ {b : Addr} {o : Obj}, s1.heap.get? b = some o → (∀ vs, o.data ≠ .seq vs 0) → o ≠ { cls := .none, data := .fields #[] } → H b = none := by
    intro b o e d d2
    cases c : H b with
    | none => rfl
    | some u =>
      rcases only b u c with ⟨_, eb, _⟩ | ⟨eb, _⟩
      · subst eb
        rw [here] at e
        cases e
        exact absurd rfl (d us.toArray)
      · rw [tabAt b eb] at e
        exact absurd (Option.some.inj e).symm d2
  have notDict : ∀ {b : Addr} {o : Obj} {es : Array DictEntry} {ep : Nat}, s1.heap.get? b = some o → o.data = .dict es ep → H b = none := by
    intro b o es ep e d
    refine apart e (fun vs z => ?_) fun z => ?_
    · rw [d] at z
      cases z
    · rw [z] at d
      cases d
  have kept : ∀ {b : Addr} {m : Str → Option Value}, s1.heap.Ns b m → (hidT s1.heap H).Ns b m := by
    rintro b m ⟨o, es, ep, e, d, more⟩
    exact ⟨o, es, ep, hidT_get e (notDict e d), d, more⟩
  have kinB : K.In (hidT s1.heap H) := by
    intro b o e
    refine hidT_get (kin b o e) ?_
    cases c : H b with
    | none => rfl
    | some u =>
      rcases only b u c with ⟨y, eb, _⟩ | ⟨eb, _⟩
      · subst eb
        rw [inK y] at e
        cases e
      · obtain ⟨p, hp, rfl⟩ := List.mem_map.mp eb
        rw [tabN p hp] at e
        cases e
  have modB : Mod K mg (hidT s1.heap H) := by
    refine ⟨kinB, kept glob, ⟨mb, kept blt, bltIs⟩, ?_⟩
    obtain ⟨m, n1, n2⟩ := nolim
    exact ⟨m, kept n1, n2⟩
  have bt : ∀ p ∈ tabs, BTab (hidT s1.heap H) mg p.1 p.2 := fun p hp => by
    have here2 := tabE p hp
    refine ⟨?_, ?_, fun z => ?_⟩
    · obtain ⟨o, vs, file, tf, flags, tg, inF, text, tt, e1, r1, r2, more⟩ := tabC p hp
      refine ⟨o, vs, file, tf, flags, tg, inF, text, tt, hidT_get e1 (apart e1 (fun us z => ?_) fun z => ?_), r1, r2, more⟩
      · rw [r2] at z
        cases z
      · rw [z] at r1
        cases r1
    · obtain ⟨bm, ob, b1, b2, b3, b4, b5, b6⟩ := bmod
      refine ⟨bm, ob, b1, b2, fun z => ?_, fun z => ?_, hidT_get b3 (apart b3 (fun us z => ?_) fun z => ?_), b4, b5, b6⟩
      · obtain ⟨o, es, ep, e, hd, _⟩ := glob
        rw [z, e] at b3
        cases b3
        rw [hd] at b6
        cases b6
      · rw [z, here2] at b3
        cases b3
        cases b6
      · rw [b6] at z
        cases z
      · rw [z] at b6
        cases b6
    · obtain ⟨o, es, ep, e, hd, _⟩ := glob
      rw [z, here2] at e
      cases e
      cases hd
  have env : Env0 P w K mg (hidT s1.heap H) callerA [] s1 H := by
    refine ⟨rfl, modB, fun b o e => of_hidT e, Nat.le_of_eq (hidT_size _ _), trivial, fun b hb => ?_, laid, .of_eq nogen⟩
    cases hb
  obtain ⟨f, fd, hf, _, hb, _, Gd⟩ := (G _ kinB (kept glob) bt).ex
  cases hf.symm.trans hmg
  refine codeAny_mono (Gd.does callerA [] s1 H ⟨[.ref scr], []⟩ [.ref scr] [.ref scr] _ _ rfl room env (hb s1 [.ref scr] kin rfl) (.cons rfl .nil) asked) fun r s2 end2 => ?_
  match r, end2 with
  | .error e, end2 => exact (noExc e s2 end2).elim
  | .ok .next, end2 => exact end2.elim
  | .ok .brk, end2 => exact end2.elim
  | .ok .cont, end2 => exact end2.elim
  | .ok (.ret u), ⟨v, H2, os, bare, un, hok2, rv, q⟩ =>
    have q : v = .bl true := q
    subst q
    cases (show u = Value.bool true from rv)
    have stays : ∀ b o, b ∉ tabs.map (·.2) → s1.heap.get? b = some o → s2.heap.get? b = some o := fun b o nb e => by
      cases c : H b with
      | none => exact un.keep b o e c (fun z => nomatch z) (fun z => nomatch z)
      | some u =>
        rcases only b u c with ⟨_, eb, eu⟩ | ⟨eb, _⟩
        · subst eb eu
          obtain ⟨g1, _⟩ := hok2 b _ (un.frzs b _ _ c)
          rw [here] at e
          cases e
          exact g1
        · exact absurd eb nb
    have grows : ∀ b, b ∈ tabs.map (·.2) → ∃ more : Array Value, s2.heap.get? b = some { cls := .none, data := .fields more } := fun b hb => by
      obtain ⟨more, z⟩ := un.tbls b #[] (isT b hb)
      exact ⟨_, hok2 b _ z⟩
    refine ⟨rfl, ⟨fun b o e => ?_, fun b o e => ?_⟩, os, bare⟩
    · by_cases hb : b ∈ tabs.map (·.2)
      · obtain ⟨more, hm⟩ := grows b hb
        obtain ⟨p, hp, rfl⟩ := List.mem_map.mp hb
        rw [tabE p hp] at e
        cases e
        exact .inr (.inl ⟨((tabC p hp).tab (tabE p hp)).isCodeTable, rfl, #[], more, rfl, by rw [Array.empty_append]; exact hm⟩)
      · exact .inl (stays b o hb e)
    · by_cases hb : b ∈ tabs.map (·.2)
      · obtain ⟨more, hm⟩ := grows b hb
        exact ⟨_, hm⟩
      · exact ⟨o, stays b o hb e⟩
end
/-- the table of the def x -/
def tabB (K : PySem.W.Frag) (x : Str) : Bool := match PySem.W.tabIn K x with
  | some (c, Q) => PySem.W.codeHdIn K c Q && decide (K.lookup Q = none)
  | none => true
def tabsOf (K : PySem.W.Frag) : List (Addr × Addr) := (genNames ++ lamNames).filterMap (PySem.W.tabIn K)
def tabsB (K : PySem.W.Frag) : Bool := (genNames ++ lamNames).all (tabB K)
theorem tabsB_ok {K : PySem.W.Frag} (h : tabsB K = true) {p : Addr × Addr} (hp : p ∈ tabsOf K) : PySem.W.codeHdIn K p.1 p.2 = true ∧ K.lookup p.2 = none := by
  obtain ⟨x, hx, e⟩ := List.mem_filterMap.mp hp
  have q := List.all_eq_true.mp h x hx
  unfold tabB at q
  rw [e] at q
  obtain ⟨q1, q2⟩ := Bool.and_eq_true_iff.mp q
  exact ⟨q1, of_decide_eq_true q2⟩
theorem gens_tabs {K : PySem.W.Frag} {Q : Addr} (h : Q ∈ gensK K) : Q ∈ (tabsOf K).map (·.2) := by
  obtain ⟨x, hx, e⟩ := List.mem_filterMap.mp h
  cases c : PySem.W.tabIn K x with
  | none => rw [c] at e; cases e
  | some p =>
    rw [c] at e
    cases e
    exact List.mem_map.mpr ⟨p, List.mem_filterMap.mpr ⟨x, List.mem_append_left _ hx, c⟩, rfl⟩
theorem lams_tabs {K : PySem.W.Frag} {q : Addr × Str} (h : q ∈ lamsK K) : q.1 ∈ (tabsOf K).map (·.2) := by
  obtain ⟨x, hx, e⟩ := List.mem_filterMap.mp h
  cases c : PySem.W.tabIn K x with
  | none => rw [c] at e; cases e
  | some p =>
    rw [c] at e
    cases e
    exact List.mem_map.mpr ⟨p, List.mem_filterMap.mpr ⟨x, List.mem_append_right _ hx, c⟩, rfl⟩
/-- the goal that k_head leaves, from the law's promise over D -/
theorem walkG {l : PySem.W.OpenLaw} {n k : Nat} {q : Program} {loose : List Str} {XP : (Str → Option Value) → Heap → Prop} {YP : World → Heap → Prop} {d : DefRec} {K : Params → PySem.W.Frag} {x nm : Str} {st : Stmt} {spd : SpD}
    (hn : l.most = some n) (hn2 : n ≤ sizeLine) (hdf : d.params.defaults = []) (room : Room k callerA) (hY : ∀ (w : World) (h : Heap), YP w h → (K w.params).In h)
    (hT : ∀ w : World, tabsB (K w.params) = true) (hE : ∀ (w : World) (mg mb : Str → Option Value) (mean : ExcName → Option Value) (h : Heap), YP w h → (K w.params).In h → Top q (PySem.W.looseW q loose) mean mg mb h → ∀ p ∈ tabsOf (K w.params), h.get? p.2 = some { cls := .none, data := .fields #[] })
    (G : ∀ (w : World) (mg : Str → Option Value) (fa : Addr) (h : Heap), (K w.params).In h → h.Ns mainGlobals mg → mg d.name = some (.ref fa) →
      mg nm = some (.ref fa) ∧ ∀ base : Heap, (K w.params).In base → base.Ns mainGlobals mg → (∀ p ∈ tabsOf (K w.params), BTab base mg p.1 p.2) → DefOk l.prog w (K w.params) mg base k nm st [x] spd)
    (asked : ∀ (ns : List Int) μ, ns.length ≤ n → spd [.scr ns] μ fun d _ => d = .bl true) : PySem.W.WalkO q loose XP YP l.row.toRowW d [] (fun f vs => PySem.call f vs) := by
  refine Att.attach_call hn hdf fun w s₀ s₁ mg mb fa o pm cd doc scr us ns T Y ho hd hcd hmg here rel short nogen => ?_
  have kin := hY w _ Y
  obtain ⟨hnm, G⟩ := G w mg fa _ kin T.T.g hmg
  have lenU := rel.length
  have tabE := hE w mg mb _ _ Y kin T.T
  have scrT : scr ∉ (tabsOf (K w.params)).map (·.2) := fun z => by
    obtain ⟨p, hp, e⟩ := List.mem_map.mp z
    have e2 := tabE p hp
    rw [e, here] at e2
    cases e2
  have tbs : ∀ yes : Bool, Tbs (K w.params) (fun b => if yes = true ∧ b = scr then some (.frz { cls := .type "list", data := .seq us.toArray } (.lst (ns.map V.int))) else none) (seed scr us ns ((tabsOf (K w.params)).map (·.2)) yes) := fun yes => by
    have key : ∀ Q, Q ∈ (tabsOf (K w.params)).map (·.2) → (if yes = true ∧ Q = scr then some (HO.frz { cls := .type "list", data := .seq us.toArray } (.lst (ns.map V.int))) else none) = none ∧ seed scr us ns ((tabsOf (K w.params)).map (·.2)) yes Q = some (.tbl #[]) := fun Q hQ => by
      have ne : ¬ (yes = true ∧ Q = scr) := fun z => scrT (z.2 ▸ hQ)
      unfold seed
      rw [if_neg ne, if_neg ne, if_pos hQ]
      exact ⟨rfl, rfl⟩
    refine ⟨fun Q hQ => ?_, fun p hp => ?_⟩
    · obtain ⟨k1, k2⟩ := key Q (gens_tabs hQ)
      exact ⟨k1, #[], k2, trivial⟩
    · obtain ⟨k1, k2⟩ := key p.1 (lams_tabs hp)
      exact ⟨k1, LamX.TabS.nil k2⟩
  have want : ∀ yes : Bool, SqL (K w.params) (fun b => if yes = true ∧ b = scr then some (.frz { cls := .type "list", data := .seq us.toArray } (.lst (ns.map V.int))) else none) scr (ns.map V.int) → spOf (K w.params) spd [.ref scr] (seed scr us ns ((tabsOf (K w.params)).map (·.2)) yes) (fun v _ => v = .bl true) fun _ _ _ => False := fun yes sq =>
    ⟨[.scr ns], _, fun _ => none, _, ⟨fun a o e => (by
      unfold seed
      have e : (if yes = true ∧ a = scr then some (HO.frz { cls := .type "list", data := .seq us.toArray } (.lst (ns.map V.int))) else none) = some o := e
      split at e
      · rename_i c
        rw [if_pos c]
        exact e
      · cases e), fun _ _ z => (nomatch z), tbs yes⟩, .cons (.scr sq) .nil, asked ns _ short, fun v d F' μ' H' _ _ r e => by subst e; exact rep_bl r⟩
  have tabC : ∀ p ∈ tabsOf (K w.params), PySem.W.CodeHd s₁.heap p.1 p.2 := fun p hp => PySem.W.codeHd_of_K kin (tabsB_ok (hT w) hp).1
  have tabN : ∀ p ∈ tabsOf (K w.params), (K w.params).lookup p.2 = none := fun p hp => (tabsB_ok (hT w) hp).2
  cases c : (K w.params).lookup scr with
  | none =>
    have sq : SqL (K w.params) (fun b => if true = true ∧ b = scr then some (.frz { cls := .type "list", data := .seq us.toArray } (.lst (ns.map V.int))) else none) scr (ns.map V.int) := .inl (.inr ⟨_, if_pos ⟨rfl, rfl⟩⟩)
    exact lawG_core kin T.T.g T.T.b T.T.builtins T.T.nolimit nogen here rel (Nat.le_trans short hn2) room hnm tabE tabN tabC T.T.bmain G true (fun _ => c) (want _ sq) fun _ _ z => z
  | some ob =>
    have e := kin _ _ c
    rw [here] at e
    cases e
    have sq : SqL (K w.params) (fun b => if false = true ∧ b = scr then some (.frz { cls := .type "list", data := .seq us.toArray } (.lst (ns.map V.int))) else none) scr (ns.map V.int) := .inr ⟨_, us.toArray, _, c, rfl, rfl, rfl, by rw [List.size_toArray, lenU]; exact Nat.le_trans short hn2, by simpa using vals_ints rel⟩
    exact lawG_core kin T.T.g T.T.b T.T.builtins T.T.nolimit nogen here rel (Nat.le_trans short hn2) room hnm tabE tabN tabC T.T.bmain G false (fun z => nomatch z) (want _ sq) fun _ _ z => z
end DL
-- DG
set_option maxRecDepth 100000
set_option maxHeartbeats 1000000
/-! all(elt for target in iter): the generator's own context, its turns one by one -/
namespace DL
open PySem PySem.Spec PyProof.Rows L2
/-- the context of a generator expression's frame, begun at s -/
abbrev genCx (X : Cx) (Ag : Around) (s : Shared) (H : Hp) (genv : Env) (fp : List Addr) : Cx := { X with A := Ag, s_0 := s, H_0 := H, env := genv, outer := X.stack, stack := genv :: X.stack, ex := fp, fn := fun _ => false, calm := true, pn := [], xe := fun _ _ => False }
section
variable {X : Cx} {pins : List (Addr × Obj)} {σ : L2.St} {H : Hp} {s : Shared} {scope : Scope} {own : List (Str × Nat)} {fp : List Addr} {Ag : Around} {code it : Value} {C : Addr} {h4 : Heap} {g4 : Array GenState} {d4 : Drawn} {t4 : Nat}
theorem gen_start (I : Inv X pins σ H s) (nd : X.N.Nodup) (ok : BlkOk X.N X.env.scope scope own) (noCell : ∀ y ∈ scope.names, y.2 ≠ .cell) (hfp : ∀ b ∈ fp, FpOk X pins H b ∧ b < s.heap.objs.size) (hC : s.heap.objs.size ≤ C) (ns : h4.Ns C (fun y => if y = ".0" then some it else none))
    (kp : ∀ b o, s.heap.get? b = some o → h4.get? b = some o) (hg : AllBare g4) (hd : Ag.handled = none) (hf : Ag.frames = some (genEnv scope (cloFrom X.env.cells scope.names []) C code builtinsNs X.env :: X.stack))
    {pa : List (Addr × Obj)} (hpa : ∀ p ∈ pa, h4.get? p.1 = some p.2 ∧ s.heap.objs.size ≤ p.1 ∧ p.1 ≠ C ∧ ∀ v, p.2.data ≠ .cell v) :
    Inv (genCx X Ag s H (genEnv scope (cloFrom X.env.cells scope.names []) C code builtinsNs X.env) fp) pa (wipe σ (own.map (·.2))) H { s with heap := h4, gens := g4, drawn := d4, toks := t4 } := by
  have freeAt : ∀ y ∈ scope.names, y.2 = .free → ∃ c, X.env.cells.lookup y.1 = some c := fun y hy e => by
    rcases ok.free y hy e with u | u
    · exact I.ok.has _ (.inl u)
    · exact I.ok.has _ (.inr u)
  have cellOf : ∀ {y c}, (cloFrom X.env.cells scope.names []).lookup y = some c → X.env.cells.lookup y = some c := fun {y c} e => by
    rcases cloFrom_mem (PySem.mem_of_lookup e) with none_ | ⟨h1, h2⟩
    · cases none_
    · obtain ⟨c9, q9⟩ := freeAt _ h1 rfl
      have hc : X.env.cells.lookup y = some c9 := q9
      rw [hc] at h2
      rw [hc, h2]
      rfl
  have capt : ∀ {y}, scope.names.lookup y = some .free → ∃ c, (cloFrom X.env.cells scope.names []).lookup y = some c := fun {y} hl => by
    exact mem_lookup (cloFrom_has (cells := X.env.cells) (acc := []) (show (y, NameKind.free) ∈ scope.names from PySem.mem_of_lookup hl))
  have okG : (genCx X Ag s H (genEnv scope (cloFrom X.env.cells scope.names []) C code builtinsNs X.env) fp).Ok := by
    refine ⟨I.ok.mod, ok.kind, I.ok.glob, rfl, hC, fun y z c e1 e2 => I.ok.inj y z c (cellOf e1) (cellOf e2), fun y hy => ?_, fun y c z _ => ?_, fun _ => hd, hf, .inr ⟨rfl, rfl⟩, fun b hb => ⟨?_, fun y c e z => ?_⟩, I.bs, Nat.le_trans I.ok.bsz I.sz, fun b o e hb => ?_, fun b hb z => ?_, I.stack, I.stkFree⟩
    · rcases (show scope.names.lookup y = some .cell ∨ scope.names.lookup y = some .free from hy) with hy | hy
      · exact absurd rfl (noCell _ (PySem.mem_of_lookup hy))
      · exact capt hy
    · have z : false = true := z
      cases z
    · exact Nat.ne_of_lt (Nat.lt_of_lt_of_le (hfp b hb).2 hC)
    · exact (hfp b hb).1.2.2.2.2.1 y c (cellOf e) z
    · rcases (hfp b hb).1.2.2.2.1 with old | new_
      · exact I.ok.noex b o e old
      · exact Nat.lt_irrefl _ (Nat.lt_of_lt_of_le (Heap.lt_size e) (Nat.le_trans I.ok.bsz new_))
    · rcases List.mem_cons.mp (I.stkSub b z) with here_ | there_
      · exact (hfp b hb).1.2.1 here_
      · exact (hfp b hb).1.2.2.1 there_
  have cellK : ∀ {c : Addr} {v : Option Value}, s.heap.IsCell c v → h4.IsCell c v := fun {c v} ⟨o, ho, hd⟩ => ⟨o, kp _ _ ho, hd⟩
  refine ⟨okG, rfl, hg, Un.kept kp, ⟨_, ns, fun i y av e1 e2 e3 => ?_⟩, fun y c e => ?_, I.hok.fresh hC, fun y c e => ?_, fun p hp => ?_, I.hok.kept kp, by rw [wipe_length]; exact I.len⟩
  · obtain ⟨e2, hne⟩ := wipe_some e2
    have e3 : Vis scope y := e3
    have hy : scope.names.lookup y = some .free := by
      have no : ∀ k, scope.names.lookup y = some k → k = .local ∨ k = .cell → False := fun k hk hk2 => by
        rcases ok.own (y, k) (PySem.mem_of_lookup hk) hk2 with z | z
        · obtain ⟨p, hp, ep⟩ := List.mem_map.mp z
          have e4 := ok.ix p hp
          have e5 : X.N[p.2]? = some y := by rw [e4]; exact congrArg some ep
          exact hne (List.mem_map.mpr ⟨p, hp, nodup_ix nd e5 e1⟩)
        · exact z (List.mem_of_getElem? e1)
      rcases e3 with k | k | k
      · exact (no _ k (.inl rfl)).elim
      · exact (no _ k (.inr rfl)).elim
      · exact k
    obtain ⟨m, hn, hl⟩ := I.loc
    have hvis : Vis X.env.scope y := (ok.free _ (PySem.mem_of_lookup hy) rfl).elim (fun k => .inr (.inl k)) (fun k => .inr (.inr k))
    obtain ⟨u, r, q⟩ := hl i y av e1 e2 hvis
    obtain ⟨c, h1⟩ := capt hy
    refine ⟨u, r, .inr ⟨.inr hy, c, h1, ?_⟩⟩
    have h2 := cellOf h1
    rcases q with ⟨k, _⟩ | ⟨_, c2, e5, z⟩
    · have k : X.env.scope.names.lookup y = some .local := k
      rcases ok.free _ (PySem.mem_of_lookup hy) rfl with k2 | k2 <;> rw [show X.env.scope.names.lookup y = _ from k2] at k <;> cases k
    · rw [h2] at e5
      cases e5
      exact cellK z
  · obtain ⟨v, z⟩ := I.cell y c (cellOf e)
    exact ⟨v, cellK z⟩
  · exact I.freeC y c (cellOf e)
  · obtain ⟨p1, p2, p3, p4⟩ := hpa p hp
    refine ⟨p1, I.hok.fresh p2, p3, fun z => ?_, p4⟩
    rcases List.mem_cons.mp (I.stkSub p.1 z) with z | z
    · exact absurd (Nat.lt_of_lt_of_le I.lt (z ▸ p2)) (Nat.lt_irrefl _)
    · exact I.nofs p2 z
end
end DL
namespace DL
open PySem PySem.Spec PyProof.Rows L2
theorem inv_same {X : Cx} {pins : List (Addr × Obj)} {σ : L2.St} {H : Hp} {s s' : Shared} (I : Inv X pins σ H s) (h : s'.heap = s.heap) (o : s'.os = s.os) (g : AllBare s'.gens) : Inv X pins σ H s' := by
  obtain ⟨a1, a2, a3, a4, a5, a6, a7, a8, a9, a10, a11⟩ := I
  exact ⟨a1, o.trans a2, g, h ▸ a4, h ▸ a5, h ▸ a6, a7, a8, fun p hp => h ▸ a9 p hp, h ▸ a10, a11⟩
theorem thnG {α : Type} {t : Sem α} {Q Q' : α → Shared → Prop} {M : Model} {A : Around} {E : Value → Shared → Prop} {s : Shared} {n : Nat} (hn : n ≤ s.gens.size) (h : wpAny M A t Q (fun _ _ => False) s) (hQ : ∀ a s', Q a s' → n ≤ s'.gens.size → Q' a s') : wpAny M A t Q' E s :=
  GenW.wpAny_gsz hn (wpAny_mono h (fun a s' q n => hQ a s' q n) fun _ _ z => False.elim z)
theorem bare_set {s : Shared} {g : Nat} {x : GenState} (h : AllBare s.gens) (hx : x.bare = true) : AllBare (s.setGen g x).gens := by
  have key : ∀ y ∈ s.gens.setIfInBounds g x, y.bare = true := fun y hy => by
    obtain ⟨i, hi, rfl⟩ := Array.mem_iff_getElem.mp hy
    have hi2 : i < s.gens.size := by simpa using hi
    rw [Array.getElem_setIfInBounds hi2]
    split
    · exact hx
    · exact h _ (Array.getElem_mem hi2)
  exact key
/-- what is wanted of the turns: W by the turn and a measure -/
def GenW (J : It) (g : TG) (te : TE) (σw : L2.St) (vs : List Nat) (W : Nat → Nat → Hp → Prop) (Q : VK) : Prop := ∀ i m H, W i m H →
  (J.stop i H ∧ Q (.bl true) H) ∨ (J.go i H ∧ ∃ Nx : Hp → Prop, (∀ H', Nx H' → ∃ m', m' < m ∧ W (i + 1) m' H') ∧ ∀ x H', J.yld i H x H' → g x σw H' fun σ2 H2 => wipe σ2 vs = σw ∧ te σ2 H2 fun y H4 => ∃ b, y = .bl b ∧ (b = true → Nx H4) ∧ (b = false → Q (.bl false) H4))
section
variable {X : Cx} {σw : L2.St} {s3 : Shared} {H3 : Hp} {genv : Env} {fp : List Addr} {Ag : Around} {elt tg iter : Expr} {scope : Scope} {pos : Pos} {it : Addr} {J : It} {tn : Nat → Heap → Prop} {g : TG} {te : TE} {vs : List Nat} {W : Nat → Nat → Hp → Prop} {Q : VK}
/-- the generator's code as it stands ahead of a turn -/
abbrev genCode (elt tg iter : Expr) (scope : Scope) (pos : Pos) (it : Addr) (genv : Env) : Code := .compLoop (.GeneratorExp elt [⟨tg, iter, [], 0⟩] scope pos) 0 (.ref it) .none genv
/-- where it ends -/
def GenR (G : Cx) (pa : List (Addr × Obj)) (σw : L2.St) (Q : VK) : GenEnd := fun _ _ r s1 => r = .ok .next ∧ ∃ H', Inv G pa σw H' s1 ∧ Q (.bl true) H'
/-- where it yields: False, the end; True, and it goes on -/
def GenY (gN : Nat) (G : Cx) (pa : List (Addr × Obj)) (σw : L2.St) (Q : VK) : Protocol := fun _ _ v s kap => ∃ b : Bool, v = .bool b ∧ (gN ≤ s.gens.size ∧ ∃ H', Inv G pa σw H' s ∧ (b = false → Q (.bl false) H')) ∧ (b = true → ∀ s'', s''.heap = s.heap → s''.os = s.os → AllBare s''.gens → gN ≤ s''.gens.size → kap (.send .none) s'')
theorem gen_loop (T : Turn X.prog X.w X.K tg J fp it tn) (turns : GenW J g te σw vs W Q) (hw0 : wipe σw vs = σw)
    (hpg : PG (genCx X (Ag.over (genCode elt tg iter scope pos it genv) []) s3 H3 genv fp) tg g) (hpe : PE (genCx X (Ag.over (genCode elt tg iter scope pos it genv) []) s3 H3 genv fp) elt te) (hco : genv.scope.isCoroutine = false) {pa : List (Addr × Obj)} (hpa : ∀ p ∈ pa, p.1 ∉ fp) {gN : Nat} :
    ∀ (n m i : Nat) (s0 s : Shared) (H : Hp), m < n → Inv (genCx X (Ag.over (genCode elt tg iter scope pos it genv) []) s3 H3 genv fp) pa σw H s → tn i s.heap → (∀ b ∈ fp, H b = none) → W i m H → gN ≤ s.gens.size →
      Seg (model X.prog X.w) Ag (GenR (genCx X (Ag.over (genCode elt tg iter scope pos it genv) []) s3 H3 genv fp) pa σw Q) (GenY gN (genCx X (Ag.over (genCode elt tg iter scope pos it genv) []) s3 H3 genv fp) pa σw Q) n s0 (genCode elt tg iter scope pos it genv) ((model X.prog X.w).den (genCode elt tg iter scope pos it genv)) [] s := by
  generalize hG : genCx X (Ag.over (genCode elt tg iter scope pos it genv) []) s3 H3 genv fp = G at hpg hpe
  have hGA : G.A = Ag.over (genCode elt tg iter scope pos it genv) [] := by rw [← hG]
  have hGp : G.prog = X.prog := by rw [← hG]
  have hGw : G.w = X.w := by rw [← hG]
  have hGK : G.K = X.K := by rw [← hG]
  have hGc : G.calm = true := by rw [← hG]
  have hGe : G.ex = fp := by rw [← hG]
  have hGpn : G.pn = [] := by rw [← hG]
  have hGx : G.xe = fun _ _ => False := by rw [← hG]
  have hGv : G.env = genv := by rw [← hG]
  have stat : ∀ {σ' : L2.St} {H' : Hp} {s' : Shared}, Inv G pa σ' H' s' → (∀ b ∈ fp, H' b = none) → ∀ b ∈ fp, FpOk G pa H' b := fun {σ' H' s'} I' hn b hb => by
    have hb' : b ∈ G.ex := by rw [hGe]; exact hb
    exact ⟨hn b hb, (I'.ok.exf b hb').1, I'.ok.exfs b hb', .inl hb', fun x c e => (I'.ok.exf b hb').2 x c e, fun p hp z => by
      rw [hGpn] at hp
      exact hpa p hp (z ▸ hb)⟩
  intro n
  induction n with
  | zero => exact fun m i s0 s H hm => absurd hm (Nat.not_lt_zero m)
  | succ n ih =>
    intro m i s0 s H hm I st nf hw hn
    show Seg _ Ag _ _ _ s0 _ ((compTurn (.GeneratorExp elt [⟨tg, iter, [], 0⟩] scope pos) 0 (.ref it) .none genv).onRaise (leaving genv)) [] s
    rw [compTurn_gen, Sem.onRaise_eq_wrap]
    refine seg_bind_wrap (wpAny_standAt (seg_bind_wrap ?_))
    rcases turns i m H hw with ⟨stop, qq⟩ | ⟨go, Nx, hNx, step⟩
    · have td := T.done G hGp hGw hGK hGc i pa s _ H (fun _ _ => False) I (stat I nf) st stop
      rw [hGA] at td
      refine thnF td fun r s6 ⟨hr, I6⟩ => ?_
      subst hr
      exact seg_end (.ok .next) ⟨rfl, H, I6, qq⟩
    · have ti := T.item G hGp hGw hGK hGc i pa s _ H (fun _ _ => False) I (stat I nf) st go
      rw [hGA] at ti
      refine thnG hn ti fun r s6 ⟨u, hr, h6⟩ hn6 => ?_
      subst hr
      refine seg_bind_wrap (thnG hn6 h6 fun _ s7 ⟨x, H7, I7, r7, y7, st7, n7⟩ hn7 => ?_)
      have I7' := I7.pinned (stat I7 n7) (T.obj _ _ st7)
      have pg := hpg.run _ s7 _ H7 x u _ I7' r7 (step x H7 y7)
      rw [hGp, hGw, hGA, hGx, hGv] at pg
      refine seg_bind_wrap (thnG hn7 pg fun _ s8 ⟨σ8, H8, I8, hw8, q8⟩ hn8 => ?_)
      refine seg_bind_wrap (wpAny_of_eq (rfl : (forIn ([] : List Expr) true fun c r => if r = true then do let ok ← isTrue c genv (eval c genv); pure (ForInStep.yield ok) else pure (ForInStep.yield r) : Sem Bool) = pure true) ?_)
      simp only [if_true]
      have hy : ∀ v, yieldOut genv v = yieldValue v := fun v => by
        unfold yieldOut
        rw [hco]
        rfl
      simp only [hy]
      have pe := hpe.run _ s8 σ8 H8 _ I8 q8
      rw [hGp, hGw, hGA, hGx, hGv] at pe
      rw [Sem.bind_eq_wrap', Sem.bind_eq_wrap', Sem.wrap_wrap, Sem.wrap_wrap]; refine seg_wrap (thnG hn8 pe fun z s9 ⟨y, H9, I9, r9, b, eb, yes, no⟩ hn9 => ?_)
      subst eb
      obtain rfl : z = .bool b := r9
      have held : ∀ c ∈ fp, ∀ o, s7.heap.get? c = some o → s9.heap.get? c = some o ∧ H9 c = none := fun c hc o e =>
        have q := I9.pin (c, o) (List.mem_append_right _ (List.mem_append_right _ (mem_pinsAt hc e)))
        ⟨q.1, q.2.1⟩
      have hl : σw.length = σ8.length := by rw [← hw8, wipe_length]
      have J9 : Inv G pa σw H9 s9 := (I9.unpinned (pins := pa)).weak hl (fun j v e => by
        rw [← hw8] at e
        exact (wipe_some e).1)
      have st9 : tn (i + 1) s9.heap := T.keep _ _ _ st7 fun c hc o e => (held c hc o e).1
      have n9 : ∀ c ∈ fp, H9 c = none := fun c hc => by
        obtain ⟨o, e, _⟩ := T.obj _ _ st7 c hc
        exact (held c hc o e).2
      refine seg_at (seg_yield rfl rfl rfl ⟨b, rfl, ⟨hn9, H9, J9, no⟩, fun hb s'' e1 e2 e3 e4 => ?_⟩)
      obtain ⟨m', hm', w'⟩ := hNx H9 (yes hb)
      exact seg_again rfl (ih m' (i + 1) s'' s'' H9 (by omega) (inv_same J9 e1 e2 e3) (e1 ▸ st9) n9 w' e4)
theorem gen_begin (T : Turn X.prog X.w X.K tg J fp it tn) {R : GenEnd} {Y : Protocol} {n i : Nat} {s0 s : Shared} (st : tn i s.heap)
    (loop : Seg (model X.prog X.w) Ag R Y n s0 (genCode elt tg iter scope pos it genv) ((model X.prog X.w).den (genCode elt tg iter scope pos it genv)) [] s) :
    Seg (model X.prog X.w) Ag R Y n s0 (.compStart (.GeneratorExp elt [⟨tg, iter, [], 0⟩] scope pos) 0 (.ref it) .none genv) ((model X.prog X.w).den (.compStart (.GeneratorExp elt [⟨tg, iter, [], 0⟩] scope pos) 0 (.ref it) .none genv)) [] s := by
  show Seg _ Ag _ _ _ s0 _ ((compStart (.GeneratorExp elt [⟨tg, iter, [], 0⟩] scope pos) 0 (.ref it) .none genv).onRaise (leaving genv)) [] s
  unfold compStart
  rw [Sem.onRaise_eq_wrap]
  show Seg _ Ag _ _ _ s0 _ ((ask >>= _).wrap _ _ _ _) [] s
  refine seg_bind_wrap (wpAny_askSetting ?_)
  split
  · exact seg_again rfl loop
  · refine seg_bind_wrap (wpAny_rule ?_)
    show Seg _ Ag _ _ _ s0 _ ((standAt iter.pos >>= _).wrap _ _ _ _) [] s
    exact seg_bind_wrap (wpAny_standAt (seg_bind_wrap (T.self _ i s _ _ st (seg_again rfl loop))))
/-- all() walks it -/
theorem all_turns {G : Cx} {pa : List (Addr × Obj)} {A : Around} {a : Addr} {oa : Obj} {gI : Nat} {nm qn : Value} {R : Result → Shared → Prop} (hh : A.in1.handled = none) (hroom : A.in1.depth < recursionLimit) (hP : G.prog = X.prog) (hw : G.w = X.w)
    (ha : (a, oa) ∈ pa) (o1 : oa.cls = .type "generator") (o2 : oa.data = .fields #[.int gI 0, nm, qn]) (o3 : oa.slots = #[]) (hR : ∀ b s' H', Inv G pa σw H' s' → Q (.bl b) H' → R (.ok (.ret (.bool b))) s') :
    ∀ (n : Nat) (s : Shared) (gs : GenState) (H : Hp), Inv G pa σw H s → s.gens[gI]? = some gs → gs.Goes (model X.prog X.w) A.in1.in1 (GenR G pa σw Q) (GenY (gI + 1) G pa σw Q) n (.send .none) (s.setGen gI .running) →
      codeAny (model X.prog X.w) A (.builtin "all.loop" ⟨[.ref a], []⟩) R s := by
  have turn : ∀ (n : Nat) (s : Shared) (gs : GenState) (H : Hp), (∀ m, m + 1 = n → ∀ (s : Shared) (gs : GenState) (H : Hp), Inv G pa σw H s → s.gens[gI]? = some gs → gs.Goes (model X.prog X.w) A.in1.in1 (GenR G pa σw Q) (GenY (gI + 1) G pa σw Q) m (.send .none) (s.setGen gI .running) →
      codeAny (model X.prog X.w) A (.builtin "all.loop" ⟨[.ref a], []⟩) R s) → Inv G pa σw H s → s.gens[gI]? = some gs → gs.Goes (model X.prog X.w) A.in1.in1 (GenR G pa σw Q) (GenY (gI + 1) G pa σw Q) n (.send .none) (s.setGen gI .running) →
      codeAny (model X.prog X.w) A (.builtin "all.loop" ⟨[.ref a], []⟩) R s := by
    intro n s gs H ih I hgs hgo
    refine codeAny_builtin F.entry_all_loop ?_; rw [Around.under_plainId F.plain_all_loop _]
    show wpAny _ A.in1 (pyNext (.ref a) >>= _) _ _ s
    have isg : s.heap.IsGen a gI := ⟨oa, nm, qn, (I.pin (a, oa) (List.mem_append_right _ ha)).1, o1, o2, o3⟩
    refine wpAny_bind (wpAny_pyNext_genexpQ (P := fun _ _ s1 => ∃ H', Inv G pa σw H' s1 ∧ Q (.bl true) H') hh I.nolimit hroom isg hgs hgo (fun v s1 gs' hb hv => ?_) (fun s1 hp h' hk => ?_))
    · obtain ⟨b, rfl, ⟨hn1, H1, I1, no⟩, yes⟩ := hv
      have I2 : Inv G pa σw H1 (s1.setGen gI gs') := inv_same I1 rfl rfl (bare_set I1.bare hb)
      refine wpAny_bind (wpAny_holding (wpAny_truthy_bool (wpAny_bind (wpAny_letGo ?_))))
      cases b with
      | false =>
        simp only [Bool.false_eq_true, if_false]
        refine wpAny_bind (wpAny_rule (wpAny_pure ?_))
        exact hR false _ H1 I2 (no rfl)
      | true =>
        simp only [if_true]
        cases n with
        | zero => exact (yes rfl s1 rfl rfl I1.bare hn1).elim
        | succ m =>
          refine wpAny_pure ⟨plainId_quiet F.plain_all_loop _, ih m rfl _ gs' H1 I2 ?_ (yes rfl _ rfl rfl (bare_set (bare_set I1.bare hb) rfl) ?_)⟩
          · have hlt : gI < s1.gens.size := hn1
            simp [Shared.setGen, hlt]
          · rw [GenW.setGen_size, GenW.setGen_size]
            exact hn1
    · obtain ⟨H1, I1, q1⟩ := hp
      refine wpAny_bind (wpAny_rule (wpAny_pure ?_))
      have I2 : Inv G pa σw H1 (s1.setGen gI .finished) := inv_same I1 rfl rfl (bare_set I1.bare rfl)
      exact hR true _ H1 (I2.kept (t' := s1.toks) hk) q1
  intro n
  induction n with
  | zero => exact fun s gs H => turn 0 s gs H fun m e => nomatch e
  | succ n ih => exact fun s gs H => turn (n + 1) s gs H fun m e => (by cases e; exact ih)
end
end DL
namespace DL
open PySem PySem.Spec PyProof.Rows L2
section
variable {X : Cx} {elt tg iter : Expr} {scope : Scope} {gpos pos p : Pos} {wi : TI} {g : TG} {te : TE} {own : List (Str × Nat)} {c P : Addr}
/-- the around of the generator's turns -/
abbrev genA (A : Around) (elt tg iter : Expr) (scope : Scope) (pos : Pos) (it : Addr) (genv : Env) : Around := A.in1.in1.over (genCode elt tg iter scope pos it genv) []
theorem genA_room {k : Nat} {A : Around} {it : Addr} {genv : Env} (r : Room (k + 1) A) : Room k (genA A elt tg iter scope pos it genv) := by
  refine ⟨r.hd, ?_, ?_⟩
  · have := r.dp
    show A.depth + 0 + 1 + 3 * k + 5 < _
    omega
  · have := r.un
    show A.units + 1 + 1 + 0 + 3 + 16 * k + 200 < _
    omega
theorem genA_guards {A : Around} {it : Addr} {genv : Env} (h : A.guards = some []) : (genA A elt tg iter scope pos it genv).guards = some [] := by
  show pushGuards (genCode elt tg iter scope pos it genv).guards (pushGuards (guardsOf (([] : List Frame).map Frame.where_)) A.guards) = some []
  rw [h]
  rfl
theorem genA_frames {A : Around} {it : Addr} {genv : Env} {l : List Env} (h : A.frames = some l) : (genA A elt tg iter scope pos it genv).frames = some (genv :: l) := by
  show pushEnvs (genCode elt tg iter scope pos it genv).envs (pushEnvs (envsOf (([] : List Frame).map Frame.where_)) A.frames) = _
  rw [h]
  rfl
/-- all(elt for tg in iter): W by the turn and a measure; the def's table may have grown -/
def tAllG (P : Addr) (wi : TI) (g : TG) (te : TE) (vs : List Nat) : TE := fun σ H Q => wi σ H fun J H1 => GxR.TabG H1 P ∧ ∀ H2, GxR.Tabbed P H1 H2 → ∃ W : Nat → Nat → Hp → Prop, (∃ m, W 0 m H2) ∧ GenW J g te (wipe σ vs) vs W Q
theorem pe_allG {k : Nat} (hr : Room k X.A) (hg : Gl X "all") (hm : X.mg "all" = none) (nd : X.N.Nodup) (TB : BTab X.base X.mg c P) (hcode : X.env.code = .ref c) (hi : PI X tg iter wi) (ok : BlkOk X.N X.env.scope scope own) (noCell : ∀ y ∈ scope.names, y.2 ≠ .cell)
    (hco : scope.isCoroutine = false) (hdot : scope.names.lookup (".0" : Str) = some NameKind.local)
    (hpg : ∀ (s : Shared) (H : Hp) (C it : Addr) (code : Value) (fp : List Addr), PG (genCx X (genA X.A elt tg iter scope gpos it (genEnv scope (cloFrom X.env.cells scope.names []) C code builtinsNs X.env)) s H (genEnv scope (cloFrom X.env.cells scope.names []) C code builtinsNs X.env) fp) tg g)
    (hpe : ∀ (s : Shared) (H : Hp) (C it : Addr) (code : Value) (fp : List Addr), PE (genCx X (genA X.A elt tg iter scope gpos it (genEnv scope (cloFrom X.env.cells scope.names []) C code builtinsNs X.env)) s H (genEnv scope (cloFrom X.env.cells scope.names []) C code builtinsNs X.env) fp) elt te)
    (hs : ∀ x, genFold iter X.env x = pure x := by intro _; rfl)
    (he : starEach [.GeneratorExp elt [⟨tg, iter, [], 0⟩] scope gpos] X.env = (false, eval (.GeneratorExp elt [⟨tg, iter, [], 0⟩] scope gpos) X.env) :: starEach [] X.env := by rfl) :
    PE X (.Call (.Name "all" p) [.GeneratorExp elt [⟨tg, iter, [], 0⟩] scope gpos] [] pos) (tAllG P wi g te (own.map (·.2))) := by
  refine ⟨fun pins s σ H Q I h => ?_⟩
  have freeAt : ∀ y ∈ scope.names, y.2 = .free → ∃ c, X.env.cells.lookup y.1 = some c := fun y hy e => by
    rcases ok.free y hy e with u | u
    · exact I.ok.has _ (.inl u)
    · exact I.ok.has _ (.inr u)
  refine wpAny_Call_Name_kw (ld_blt I hg hm (show bootBuiltins "all" = some (.builtin "all") by decide +kernel) ?_)
  refine PyProof.Rows.callWith_builtin1 ?_ he (by rfl)
  rw [he]
  show wpAny _ _ (spliced ((false, eval (.GeneratorExp elt [⟨tg, iter, [], 0⟩] scope gpos) X.env) :: backTo pos (starEach [] X.env))) _ _ s
  refine Calls.spliced_cons (wpAny_GeneratorExp_make hco (closure_ok freeAt) noCell hdot ok.kind hr.depth ?_ hs)
  refine thn (hi.run pins s σ H _ I h) fun xv s1 hx => thn hx fun itv s2 h2 => ?_
  obtain ⟨it, fp, tn, J, H1, e, I2, T, st2, f2, ⟨ps, hP, ht⟩, turns⟩ := h2
  subst e
  refine ⟨I2.nolimit, ?_⟩
  have hPs : s2.heap.get? P = some { cls := .none, data := .fields ps } := I2.hok P _ hP
  have cd : PySem.W.CodeHd s2.heap c P := TB.code.keeps fun b u e => I2.bk b u e
  have cont : ∀ (code : Value) (h3 : Heap) (tk : Nat) (more : Array Value), (∀ b o, b ≠ P → s2.heap.get? b = some o → h3.get? b = some o) → h3.get? P = some { cls := .none, data := .fields (ps ++ more) } → TriplesOk (ps ++ more).toList → s2.heap.objs.size ≤ h3.objs.size →
      wpAny (model X.prog X.w) X.A (builtinsFor X.env.globals X.env.builtins) (fun bi s4 => ∀ h', h'.Ns s4.heap.objs.size (fun y => if y = ".0" then some (.ref it) else none) → Heap.SameBut s4.heap.objs.size (s4.heap.push { cls := .type "frame", data := .dict #[] }) h' →
        (fun v s5 => wpAny (model X.prog X.w) X.A (spliced (backTo pos (starEach [] X.env))) (fun r s6 => wpAny (model X.prog X.w) X.A (call (.builtin "all") (v :: r)) (EP X pins σ Q) X.xe s6) X.xe s5) (.ref h'.objs.size) { s4 with
            gens := s4.gens.push (.fresh (.compStart (.GeneratorExp elt [⟨tg, iter, [], 0⟩] scope gpos) 0 (.ref it) .none (genEnv scope (cloFrom X.env.cells scope.names []) s4.heap.objs.size code bi X.env))),
            toks := s4.toks + 1 + 1 + 1,
            heap := h'.push { cls := .type "generator", data := .fields #[.int s4.gens.size 0, .str "<genexpr>" (s4.toks + 1), .str (X.env.qual ++ "<genexpr>") (s4.toks + 1 + 1)] } }) X.xe { s2 with heap := h3, toks := tk } := by
    intro code h3 tk more k3 hP3 trip sz3
    obtain ⟨bm, ob, b1, b2, b3, b4, b5, b6, b7, b8⟩ := TB.bm
    have I3 := GxR.inv_tab (more := more) (h' := h3) (g' := s2.gens) (d' := s2.drawn) (t' := tk) I2 hP k3 hP3 I2.bare
    generalize hs3 : ({ s2 with heap := h3, gens := s2.gens, drawn := s2.drawn, toks := tk } : Shared) = s3 at I3
    have heap3 : s3.heap = h3 := by rw [← hs3]
    have bare3 : AllBare s3.gens := I3.bare
    have tabbed : GxR.Tabbed P H1 (upd H1 P (.tbl (ps ++ more))) := ⟨⟨ps ++ more, upd_same, trip⟩, fun b hb => upd_ne hb⟩
    obtain ⟨W, ⟨m0, w0⟩, gw⟩ := turns _ tabbed
    generalize hH3 : upd H1 P (.tbl (ps ++ more)) = H3 at I3 w0 tabbed
    refine wpAny_builtinsFor (m := X.mg) (by rw [I3.ok.glob]; exact I3.ok.mod.glob.keeps I3.bk) b1 b2 (I3.bk _ _ b5) b6 b7 b8 ?_
    intro h4 ns4 sb4
    have sz4 : h4.objs.size = s3.heap.objs.size + 1 := by rw [sb4.1, Heap.size_push]
    have k4 : ∀ b o, s3.heap.get? b = some o → h4.get? b = some o := fun b o e => sb4.extBut b o (Nat.ne_of_lt (Heap.lt_size e)) (Heap.get?_push_of_some _ e)
    generalize hoa : ({ cls := .type "generator", data := .fields #[.int s3.gens.size 0, .str "<genexpr>" (s3.toks + 1), .str (X.env.qual ++ "<genexpr>") (s3.toks + 1 + 1)] } : Obj) = oa
    generalize hgs : GenState.fresh (.compStart (.GeneratorExp elt [⟨tg, iter, [], 0⟩] scope gpos) 0 (.ref it) .none (genEnv scope (cloFrom X.env.cells scope.names []) s3.heap.objs.size code builtinsNs X.env)) = gs
    have ga : (h4.push oa).get? h4.objs.size = some oa := Heap.get?_push_size _ (by rw [← hoa] <;> rfl)
    have fz : ∀ b ∈ fp, b < s2.heap.objs.size := fun b hb => by
      obtain ⟨o, e, _⟩ := T.obj _ _ st2 b hb
      exact Heap.lt_size e
    have nP : ∀ b ∈ fp, b ≠ P := fun b hb z => by
      have := (f2 b hb).1
      rw [z, hP] at this
      cases this
    have f3 : ∀ b ∈ fp, FpOk X pins H3 b ∧ b < s3.heap.objs.size := fun b hb => by
      refine ⟨⟨?_, (f2 b hb).2⟩, Nat.lt_of_lt_of_le (fz b hb) (by rw [heap3]; exact sz3)⟩
      rw [tabbed.2 b (nP b hb)]
      exact (f2 b hb).1
    have st3 : tn 0 s3.heap := T.keep _ _ _ st2 fun b hb o e => by rw [heap3]; exact k3 b o (nP b hb) e
    refine Calls.spliced_nil (call_function_tree F.kind_all F.plain_all F.entry_all (F.args_all1 _) ?_)
    unfold Builtin.«all»
    refine wpAny_bind (m := oneArg "all" _) (wpAny_pure ?_)
    have isg : (h4.push oa).IsGen h4.objs.size s3.gens.size := ⟨oa, _, _, ga, by rw [← hoa], by rw [← hoa], by rw [← hoa]⟩
    generalize hge : genEnv scope (cloFrom X.env.cells scope.names []) s3.heap.objs.size code builtinsNs X.env = genv at hgs
    have pg := hpg s3 H3 s3.heap.objs.size it code fp
    have pe := hpe s3 H3 s3.heap.objs.size it code fp
    have gbare : gs.bare = true := by rw [← hgs]; rfl
    have I4 := gen_start (h4 := h4.push oa) (g4 := s3.gens.push gs) (d4 := s3.drawn) (t4 := s3.toks + 1 + 1 + 1) (code := code) (Ag := genA X.A elt tg iter scope gpos it genv) (pa := [(h4.objs.size, oa)]) I3 nd ok noCell f3 (Nat.le_refl _) (ns4.keeps fun b o e => Heap.get?_push_of_some _ e)
      (fun b o e => Heap.get?_push_of_some _ (k4 b o e)) (bare3.push gbare) hr.hd (by rw [hge]; exact genA_frames I3.ok.frames) (fun q hq => by
        rw [List.mem_singleton] at hq
        subst hq
        exact ⟨ga, by rw [sz4]; exact Nat.le_succ _, by rw [sz4]; exact Nat.succ_ne_self _, fun v z => by rw [← hoa] at z; cases z⟩)
    rw [hge] at I4 pg pe
    have back : ∀ (b : Bool) (s' : Shared) (H' : Hp), Inv (genCx X (genA X.A elt tg iter scope gpos it genv) s3 H3 genv fp) [(h4.objs.size, oa)] (wipe σ (own.map (·.2))) H' s' → Q (.bl b) H' → EP X pins σ Q (.bool b) s' := fun b s' H' I6 q => by
      have I7 : Inv X pins σ H' s' := I3.call' (ch := fp) I6.os I6.base I6.hok I6.bare fun b hb => ⟨(f3 b hb).1.2.2.2.1, (f3 b hb).1.2.1, (f3 b hb).1.2.2.2.2.1, (f3 b hb).1.2.2.2.2.2⟩
      exact ⟨.bl b, H', I7, rfl, q⟩
    refine wpAny_bind (wpAny_pyIter_gen isg ?_)
    refine wpAny_pure ⟨plainId_quiet F.plain_all_loop _, ?_⟩
    have nin : ∀ q ∈ [((h4.objs.size, oa) : Addr × Obj)], q.1 ∉ fp := fun q hq z => by
      rw [List.mem_singleton] at hq
      subst hq
      have z1 := (f3 _ z).2
      have z2 : h4.objs.size < s3.heap.objs.size := z1
      omega
    have gco : genv.scope.isCoroutine = false := by rw [← hge]; exact hco
    refine all_turns (X := X) (σw := wipe σ (own.map (·.2))) (Q := Q) (G := genCx X (genA X.A elt tg iter scope gpos it genv) s3 H3 genv fp) (pa := [(h4.objs.size, oa)]) (A := X.A) (oa := oa) (gI := s3.gens.size) hr.hd hr.depth rfl rfl (List.mem_singleton.mpr rfl) (by rw [← hoa]) (by rw [← hoa]) (by rw [← hoa]) back (m0 + 1) _ gs H3 I4 (by simp) ?_
    subst hgs
    refine ⟨rfl, gen_begin (i := 0) T ?_ (gen_loop (Ag := X.A.in1.in1) (s3 := s3) (H3 := H3) (fp := fp) (vs := own.map (·.2)) T gw (wipe_wipe _ _ _ fun _ z => z) pg pe gco nin (m0 + 1) m0 0 _ _ H3 (Nat.lt_succ_self _) (inv_same I4 rfl rfl (bare_set I4.bare rfl)) ?_ (fun b hb => (f3 b hb).1.1) w0 ?_)⟩
    · exact T.keep _ _ _ st3 fun b _ o e => Heap.get?_push_of_some _ (k4 b o e)
    · exact T.keep _ _ _ st3 fun b _ o e => Heap.get?_push_of_some _ (k4 b o e)
    · rw [GenW.setGen_size]
      simp
  cases hf : codeAmong gpos ps.toList with
  | none =>
    refine wpAny_genexprCodeX hcode (cd.code hPs ht) (cd.tab hPs) hf fun c' h' tk hx hge hlt isc _ htab _ => ?_
    obtain ⟨_, _, _, _, _, _, _, _, _, _, _, _, _, _, _, _, _, _, _, trip, _⟩ := isc
    exact cont _ h' tk _ (fun b o hb e => hx b o hb e) htab.2 trip (Nat.le_trans hge (Nat.le_of_lt hlt))
  | some cv =>
    refine wpAny_genexprCode_hit hcode (cd.code hPs ht) hf ?_
    have := cont cv s2.heap s2.toks #[] (fun b o _ e => e) (by rw [Array.append_empty]; exact hPs) (by rw [Array.append_empty]; exact ht) (Nat.le_refl _)
    exact this
end
end DL
namespace DL
open PySem PySem.Spec PyProof.Rows L2
/-- a table has grown -/
theorem Lay.tab {K : PySem.W.Frag} {F : Hp} {μ : Mem} {H H2 : Hp} {P : Addr} (l : Lay K F μ H) (hP : P ∈ gensK K) (nl : ∀ p ∈ lamsK K, p.1 ≠ P) (t : GxR.Tabbed P H H2) : Lay K F μ H2 := by
  obtain ⟨nF, ps, hps, _⟩ := l.tb.tg P hP
  refine ⟨fun a o e => ?_, fun a xs e => ?_, fun P2 h2 => ?_, fun p hp => ?_⟩
  · rw [t.2 a (ne_of_none e nF)]
    exact l.fz a o e
  · obtain ⟨h1, vs, h2, h3⟩ := l.mu a xs e
    have ne : a ≠ P := fun z => by
      rw [z, hps] at h2
      cases h2
    exact ⟨h1, vs, by rw [t.2 a ne]; exact h2, h3⟩
  · obtain ⟨h3, h4⟩ := l.tb.tg P2 h2
    refine ⟨h3, ?_⟩
    by_cases e : P2 = P
    · rw [e]
      exact t.1
    · obtain ⟨qs, h5, h6⟩ := h4
      exact ⟨qs, by rw [t.2 P2 e]; exact h5, h6⟩
  · obtain ⟨h3, qs, h4, h5, h6⟩ := l.tb.tl p hp
    refine ⟨h3, qs, by rw [t.2 _ (nl p hp)]; exact h4, h5, fun q cv hc => ?_⟩
    obtain ⟨c, e1, e2⟩ := h6 q cv hc
    have ne : c ≠ P := fun z => by
      rw [z, hps] at e2
      cases e2
    exact ⟨c, e1, by rw [t.2 c ne]; exact e2⟩
def allD (g : Tg) (te : TD) (δ : DSt) : List D → Mem → DK → Prop
  | [], μ, Q => Q (.bl true) μ
  | d :: ds, μ, Q => dTg g d δ fun δ2 => te δ2 μ fun y μ2 => ∃ b, y = .bl b ∧ if b = true then allD g te δ ds μ2 Q else Q (.bl false) μ2
/-- all(elt for tg in iter) -/
def dAllG (wi : TDI) (g : Tg) (te : TD) (vs : List Nat) : TD := fun δ μ Q => wi δ μ fun ds μ1 => allD g te (wipeD δ vs) ds μ1 Q
theorem all_sound {wi : TDI} {g : Tg} {te : TD} {vs : List Nat} {K : PySem.W.Frag} {P : Addr} (hP : P ∈ gensK K) (nl : ∀ p ∈ lamsK K, p.1 ≠ P) (hv : ∀ i ∈ g.slots, i ∈ vs) {σ : L2.St} {H : Hp} {Q : VK} (h : eOf K (dAllG wi g te vs) σ H Q) : tAllG P (iOf K wi) (hTg K g) (eOf K te) vs σ H Q := by
  obtain ⟨δ, F, μ, QD, l, rs, q, k⟩ := h
  refine ⟨δ, F, μ, _, l, rs, q, fun J ds F1 μ1 H1 e1 l1 j q1 => ⟨(l1.tb.tg P hP).2, fun H1' tb => ?_⟩⟩
  refine ⟨fun i m H => ∃ F2 μ2, Ex F1 F2 ∧ Lay K F2 μ2 H ∧ allD g te (wipeD δ vs) (ds.drop i) μ2 QD ∧ i ≤ ds.length ∧ m = ds.length - i, ⟨ds.length, F1, _, Ex.refl F1, l1.tab hP nl tb, q1, Nat.zero_le _, rfl⟩, ?_⟩
  rintro i m H2 ⟨F2, μ2, e2, l2, q2, hle, rfl⟩
  obtain ⟨j1, j2⟩ := j i F2 _ H2 e2 l2 hle
  by_cases hlt : i < ds.length
  · refine .inr ⟨(j1 _ (List.getElem?_eq_getElem hlt)).1, fun H => ∃ F3 μ3, Ex F1 F3 ∧ Lay K F3 μ3 H ∧ allD g te (wipeD δ vs) (ds.drop (i + 1)) μ3 QD, fun H' ⟨F3, μ3, e3, l3, q3⟩ => ⟨ds.length - (i + 1), by omega, F3, μ3, e3, l3, q3, hlt, rfl⟩, fun x H3 y => ?_⟩
    obtain ⟨F3, e3, l3, rx⟩ := (j1 _ (List.getElem?_eq_getElem hlt)).2 x H3 y
    rw [List.drop_eq_getElem_cons hlt] at q2
    have rw2 : RepSt K F3 (wipe σ vs) (wipeD δ vs) := repSt_wipe (rs.mono ((e1.trans e2).trans e3)) vs
    refine hTg_run l3 g rx rw2 q2 fun σ' δ' r' q' hw => ⟨?_, ?_⟩
    · rw [hw vs hv, wipe_wipe vs σ vs fun _ z => z]
    · refine ⟨δ', F3, μ2, _, l3, r', q', fun v d F4 μ4 H4 e4 l4 r4 ⟨b, eb, q4⟩ => ?_⟩
      subst eb
      refine ⟨b, rep_bl r4, fun hb => ?_, fun hb => ?_⟩
      · subst hb
        exact ⟨F4, μ4, (e2.trans e3).trans e4, l4, q4⟩
      · subst hb
        exact k _ _ F4 μ4 H4 (((e1.trans e2).trans e3).trans e4) l4 (.bl _) q4
  · have e : i = ds.length := by omega
    refine .inl ⟨j2 e, ?_⟩
    rw [List.drop_eq_nil_of_le (by omega)] at q2
    exact k _ _ F2 μ2 H2 (e1.trans e2) l2 (.bl _) q2
section
variable {X : Cx} {elt tg iter : Expr} {scope : Scope} {gpos pos p : Pos} {wi : TDI} {g : Tg} {te : TD} {own : List (Str × Nat)} {c P : Addr}
theorem de_allG {k : Nat} (hr : Room k X.A) (hg : Gl X "all") (hm : X.mg "all" = none) (nd : X.N.Nodup) (TB : BTab X.base X.mg c P) (hcode : X.env.code = .ref c) (hP : P ∈ gensK X.K) (nl : ∀ p ∈ lamsK X.K, p.1 ≠ P) (hi : DI X tg iter wi) (ok : BlkOk X.N X.env.scope scope own) (hv : ∀ i ∈ g.slots, i ∈ own.map (·.2)) (noCell : ∀ y ∈ scope.names, y.2 ≠ .cell)
    (hco : scope.isCoroutine = false) (hdot : scope.names.lookup (".0" : Str) = some NameKind.local)
    (hpg : ∀ (s : Shared) (H : Hp) (C it : Addr) (code : Value) (fp : List Addr), PG (genCx X (genA X.A elt tg iter scope gpos it (genEnv scope (cloFrom X.env.cells scope.names []) C code builtinsNs X.env)) s H (genEnv scope (cloFrom X.env.cells scope.names []) C code builtinsNs X.env) fp) tg (hTg X.K g))
    (hpe : ∀ (s : Shared) (H : Hp) (C it : Addr) (code : Value) (fp : List Addr), DE (genCx X (genA X.A elt tg iter scope gpos it (genEnv scope (cloFrom X.env.cells scope.names []) C code builtinsNs X.env)) s H (genEnv scope (cloFrom X.env.cells scope.names []) C code builtinsNs X.env) fp) elt te)
    (hs : ∀ x, genFold iter X.env x = pure x := by intro _; rfl)
    (he : starEach [.GeneratorExp elt [⟨tg, iter, [], 0⟩] scope gpos] X.env = (false, eval (.GeneratorExp elt [⟨tg, iter, [], 0⟩] scope gpos) X.env) :: starEach [] X.env := by rfl) :
    DE X (.Call (.Name "all" p) [.GeneratorExp elt [⟨tg, iter, [], 0⟩] scope gpos] [] pos) (dAllG wi g te (own.map (·.2))) :=
  PE.weak (pe_allG hr hg hm nd TB hcode hi ok noCell hco hdot hpg hpe hs he) fun _ _ _ h => all_sound hP nl hv h
end
end DL
-- DJ
set_option maxRecDepth 100000
/-! type(x) is T, sorted, list(range(n)), extend by a tuple, globals -/
namespace DL
open PySem PySem.Spec PyProof.Rows L2
theorem tyB_of {K : PySem.W.Frag} {F : Hp} {μ : Mem} {H : Hp} (l : Lay K F μ H) {v : V} {d : D} {n : String} (r : Rep K F v d) (h : tyName d = some n) : TyB K H v n := by
  cases r with
  | non => cases h; exact .non
  | bl b => cases h; exact .bl b
  | int i => cases h; exact .int i
  | str x => cases h; exact .str x
  | ty n => cases h
  | tup g rs => cases h; exact .tup (ex_t l.fz g)
  | lst g rs => cases h; exact .lst (.inl (.inl (l.fz _ _ g)))
  | dic g rs => cases h; exact .dK (l.fz _ _ g)
  | ref a => cases h
  | scr g => cases h
  | excB g => cases h
  | excI g g2 r => cases h
  | xcp _ _ => cases h
  | xcn => cases h
/-- type(x) -/
def dType : RDA := fun ds μ Q => ∃ d n, ds = [d] ∧ tyName d = some n ∧ Q (.ty n) μ
theorem lift_type {K : PySem.W.Frag} : LiftA K (rTyp K) dType := fun vs ds F μ H Q QD l r ⟨d, n, ed, hn, q⟩ k => by
  subst ed
  obtain ⟨v, rfl, rv⟩ := reps1 r
  exact ⟨v, n, rfl, tyB_of l rv hn, k _ _ F μ H (Ex.refl F) l (.ty n) q⟩
/-- of two types -/
def dIsTy : RD2 := fun x y μ Q => ∃ a b, x = .ty a ∧ y = .ty b ∧ Q (.bl (decide (a = b))) μ
def dNotTy : RD2 := fun x y μ Q => ∃ a b, x = .ty a ∧ y = .ty b ∧ Q (.bl (!decide (a = b))) μ
theorem lift_isTy {K : PySem.W.Frag} : Lift2 K (fun x y H Q => ∃ a b, x = V.ty a ∧ y = V.ty b ∧ Q (.bl (decide (a = b))) H) dIsTy := fun x y dx dy F μ H Q QD l rx ry ⟨a, b, ea, eb, q⟩ k => by
  subst ea eb
  exact ⟨a, b, rep_ty rx, rep_ty ry, k _ _ F μ H (Ex.refl F) l (.bl _) q⟩
theorem lift_notTy {K : PySem.W.Frag} : Lift2 K rNT dNotTy := fun x y dx dy F μ H Q QD l rx ry ⟨a, b, ea, eb, q⟩ k => by
  subst ea eb
  exact ⟨a, b, rep_ty rx, rep_ty ry, k _ _ F μ H (Ex.refl F) l (.bl _) q⟩
theorem reps_intsV {K : PySem.W.Frag} {F : Hp} : ∀ {vs : List V} {ns : List Int}, Reps K F vs (ns.map D.int) → vs = ns.map V.int
  | _, [], h => by cases h; rfl
  | _, n :: ns, h => by
    cases h with
    | cons h1 h2 => rw [rep_int h1, reps_intsV h2]; rfl
/-- sorted(ints) -/
def dSortedI : RDA := fun ds μ Q => ∃ d ns, ds = [d] ∧ asL μ d = some (ns.map D.int) ∧ ∀ ns' : List Int, ns'.Perm ns → ns'.Pairwise (· ≤ ·) → Q (.lst (ns'.map D.int)) μ
theorem lift_sortedI {K : PySem.W.Frag} : LiftA K (rSortedI K) dSortedI := fun vs ds F μ H Q QD l r ⟨d, ns, ed, hd, q⟩ k => by
  subst ed
  obtain ⟨v, rfl, rv⟩ := reps1 r
  obtain ⟨a, ws, ea, hs, rw'⟩ := asL_rep l rv hd
  subst ea
  have e := reps_intsV rw'
  subst e
  exact ⟨a, ns, rfl, hs, fun ns' p hp hw hn => fin_lst l (reps_ints ns') (q ns' hp hw) k p hn⟩
end DL
namespace DL
open PySem PySem.Spec PyProof.Rows L2
theorem reps_mapI {K : PySem.W.Frag} {F : Hp} (f : Nat → Int) : ∀ l : List Nat, Reps K F (l.map fun i => V.int (f i)) (l.map fun i => D.int (f i))
  | [] => .nil
  | _ :: l => .cons (.int _) (reps_mapI f l)
section
variable {X : Cx} {a e : Expr} {ta to te : TD} {p p2 pos : Pos}
/-- list(range(n)) -/
def dListRg (ta : TD) : TD := fun δ μ Q => ta δ μ fun x μ1 => ∃ n : Int, x = .int n ∧ 0 ≤ n ∧ n ≤ 1000000 ∧ Q (.lst ((List.range n.toNat).map fun i : Nat => D.int (i : Int))) μ1
theorem de_listRg (hc : X.calm = true) (hg : Gl X "list") (hm : X.mg "list" = none) (hg2 : Gl X "range") (hm2 : X.mg "range" = none) (ha : DE X a ta) (na : starEach [a] X.env = (false, eval a X.env) :: starEach [] X.env := by rfl)
    (na2 : starEach [.Call (.Name "range" p2) [a] [] pos] X.env = (false, eval (.Call (.Name "range" p2) [a] [] pos) X.env) :: starEach [] X.env := by rfl) {pos2 : Pos} : DE X (.Call (.Name "list" p) [.Call (.Name "range" p2) [a] [] pos] [] pos2) (dListRg ta) :=
  PE.weak (pe_listRg hc hg hm (prg_1 hg2 hm2 ha na) na2) fun σ H Q ⟨δ, F, μ, QD, l, rs, q, k⟩ => ⟨δ, F, μ, _, l, rs, q, fun v d F1 μ1 H1 e1 l1 r1 ⟨n, ed, h0, h1, q1⟩ => by
    subst ed
    refine ⟨n, rep_int r1, RgOk.of_le (by omega) (by omega) (by omega) (by omega), fun q hq => fin_lst l1 ?_ q1 (k.mono e1) q hq⟩
    have e2 : rgV 0 n = (List.range n.toNat).map fun i : Nat => V.int (i : Int) := by
      unfold rgV
      rw [Int.sub_zero]
      refine congrArg (fun f => List.map f (List.range n.toNat)) (funext fun i => ?_)
      rw [Int.zero_add]
    rw [e2]
    exact reps_mapI (fun i => (i : Int)) _⟩
end
/-- l.extend(t), t a tuple -/
def rExtT (K : PySem.W.Frag) : V → List V → Hp → VK → Prop := fun x vs H Q => ∃ l b xs zs, x = .ref l ∧ vs = [.ref b] ∧ H l = some (.lst xs) ∧ SqT K H b zs ∧ xs.length + zs.length ≤ sizeLine ∧ Q .non (upd H l (.lst (xs ++ zs)))
theorem ext_meets (l : Addr) (items : Array Value) (n : Nat) (b : Addr) (items2 : Array Value) (n2 : Nat) (dd : Option Addr) (sl : Array (Option Value)) (c0 : ¬(!items.isEmpty && Builtin.List.listTooLong (items.size + items2.size)) = true) (c1 : items.size ≤ sizeLine) (c2 : items.size + items2.size ≤ sizeLine + 1) :
    Meets (Builtin.«list.extend» ⟨[.ref l, .ref b], []⟩) (fun _ R s => s.heap.get? l = some { cls := .type "list", dict := none, data := .seq items n, slots := #[] } ∧
      s.heap.get? b = some { cls := .type "tuple", dict := dd, data := .seq items2 n2, slots := sl } ∧ R (.ok (.ret Value.none)) { s with heap := s.heap.update l (Obj.mapSeq fun x => x ++ items2), toks := s.toks }) :=
  .of_wp fun prog w A R s h => by
    obtain ⟨hp, g, d, tk, os⟩ := s
    obtain ⟨hl, hb, h⟩ := h
    have z1 := sub_tuple_tuple
    have z2 := sub_list_list
    have z3 := sub_tuple_list
    have z4 := sub_list_tuple
    have big : (items ++ items2).size ≤ sizeLine + 1 := by rw [Array.size_append]; exact c2
    wp_walk using (wpAny_updateSeq hl rfl (hz := c1) (_hz' := big)), wpAny_loadPart' hl, wpAny_loadPart' hb
    exact ⟨_, rfl, h⟩
theorem mt_extT {X : Cx} : MtM X "list.extend" (rExtT X.K) := by
  intro pins s σ H x vs v us Q I rx rv h
  obtain ⟨l, b, xs, zs, rfl, rfl, hH, hB, hz, q⟩ := h
  cases rx
  obtain ⟨u, rfl, ru⟩ := rv.one
  cases ru
  obtain ⟨_, its, n, r, hl, e⟩ := I.lstM hH
  obtain ⟨its2, r2, ⟨o, e2, c2, n2, d2⟩, _⟩ := I.tuple hB
  have l2 := r2.length
  obtain ⟨oc, od, odt, osl⟩ := o
  dsimp only at c2 d2
  subst c2 d2
  have fit : its.toArray.size + its2.toArray.size ≤ sizeLine := by rw [List.size_toArray, List.size_toArray, ← hl, ← l2]; exact hz
  have short : ¬ (!its.toArray.isEmpty && Builtin.List.listTooLong (its.toArray.size + its2.toArray.size)) = true := by
    rw [notLongL fit, Bool.and_false]
    exact Bool.false_ne_true
  refine call_meets F.slot_list_extend ⟨_, e, rfl⟩ F.entry_list_extend (F.args_list_extend_2 _ _) (ext_meets l its.toArray n b its2.toArray n2 od osl short (Nat.le_trans (Nat.le_add_right _ _) fit) (Nat.le_succ_of_le fit)) ⟨e, e2, ?_⟩
  refine ⟨.non, _, I.lset (its' := its ++ its2) hH e (by simp) (r.append r2) ?_, rfl, q⟩
  rw [List.length_append]
  exact hz
section
variable {X : Cx} {to : TD} {ta : TDA}
def dExt (to : TD) (ta : TDA) : TDS := fun E δ μ => to δ μ fun x μ1 => ∃ a, x = .ref a ∧ (∃ ys, μ1 a = some ys) ∧ ta δ μ1 fun ds μ2 => ∃ xs zs, ds = [.tup zs] ∧ μ2 a = some xs ∧ xs.length + zs.length ≤ 1000000 ∧ E.nx δ (mset μ2 a (xs ++ zs))
theorem ds_ext {st : Stmt} (h : PS X st (tDrop (tBM X.K "list" (rExtT X.K) (eOf X.K to) (aOf X.K ta)))) : DS X st (dExt to ta) :=
  PS.weak h fun D σ H ⟨δ, F, μ, ED, l, rs, q, k⟩ => ⟨δ, F, μ, _, l, rs, q, fun v d F1 μ1 H1 e1 l1 r1 ⟨a, ed, ⟨ys, hy⟩, q1⟩ => by
    subst ed
    have ev := rep_ref r1
    subst ev
    obtain ⟨_, vs, hv, _⟩ := l1.mu a ys hy
    refine ⟨.inl ⟨rfl, vs, SqL.of hv⟩, δ, F1, μ1, _, l1, rs.mono e1, q1, fun us ds F2 μ2 H2 e2 l2 r2 ⟨xs, zs, ed, hx, hz, q2⟩ => ?_⟩
    subst ed
    obtain ⟨u, rfl, ru⟩ := reps1 r2
    obtain ⟨b, ts, rfl, g1, _, rt⟩ := tup_rep l2 ru
    obtain ⟨_, ws, hw, rw'⟩ := l2.mu a xs hx
    exact ⟨a, b, ws, ts, rfl, rfl, hw, g1, by rw [rw'.length, rt.length]; exact mil_le hz, k.1 _ _ F2 _ _ (e1.trans e2) (l2.put hx (rw'.append rt)) (rs.mono (e1.trans e2)) q2⟩⟩
end
/-- a tuple of ints that the top has written -/
theorem de_globT {X : Cx} {x : Str} {pos : Pos} {a : Addr} {ns : List Int} (h : PE X (.Name x pos) (tC (.ref a))) (hk : ∃ o vs n, X.K.lookup a = some o ∧ o.cls = .type "tuple" ∧ o.data = .seq vs n ∧ vs.size ≤ sizeLine ∧ Vals (ns.map V.int) vs.toList) : DE X (.Name x pos) (dC (.tup (ns.map D.int))) :=
  de_c h fun F => .tup (.inr (by
    obtain ⟨o, vs, n, h1, h2, h3, h4, h5⟩ := hk
    exact ⟨o, vs, n, h1, h2, h3, h4, h5⟩)) (reps_ints ns)
end DL
-- DK
set_option maxRecDepth 100000
/-! a def whose code object is told; globals' ints and tuples; stepping lemmas -/
namespace DL
open PySem PySem.Spec PyProof.Rows L2
def codeOf (K : PySem.W.Frag) (f : Addr) : Option Addr := match K.lookup f with
  | some ⟨_, _, .func fd, _⟩ => (match fd.code with
    | .ref c => some c
    | _ => none)
  | _ => none
theorem codeOf_at {K : PySem.W.Frag} {f c : Addr} {oc : Value} {od : Option Addr} {fd : FuncData} {osl : Array (Option Value)} (h : K.lookup f = some ⟨oc, od, .func fd, osl⟩) (e : codeOf K f = some c) : fd.code = .ref c := by
  unfold codeOf at e
  rw [h] at e
  dsimp only at e
  split at e
  · rename_i c2 h2
    cases e
    exact h2
  · cases e
section
variable {P : Program} {w : World} {K : PySem.W.Frag} {mg : Str → Option Value} {base : Heap}
theorem def_okT {x qual : Str} {st : Stmt} {f c : Addr} {fd : FuncData} {N ps : List Str} {k : Nat} {spd : SpD} (F : Fun K x qual st f fd) (hm : mg x = some (.ref f)) (hb : Binds K fd ps []) (hc : codeOf K f = some c) (S : FnScope N ps (defScope st)) (size : ∀ ds μ Q, spd ds μ Q → ds.length = ps.length) (t : TDS)
    (hbody : ∀ (qual : Str) (f : Addr) (cdv : Value) (A : Around) (fs : List Env) (s : Shared) (H : Hp) (E : XK), cdv = .ref c → (cxOf CX0 P w K mg base N qual (defScope st) f cdv A fs s H E).A.guards = some [] → Room k (cxOf CX0 P w K mg base N qual (defScope st) f cdv A fs s H E).A → DSs (cxOf CX0 P w K mg base N qual (defScope st) f cdv A fs s H E).nox (defBody st) t)
    (math : ∀ ds μ Q, spd ds μ Q → t { nx := fun _ μ' => Q .non μ', rt := Q } (dStart N.length ds) μ) : DefOk P w K mg base (k + 1) x st ps spd := by
  obtain ⟨w1, w2, v1, v2, v3, a1, cdv, ct, osl, rfl, found, hcd⟩ := F.ex
  have hcode : cdv = .ref c := codeOf_at found hc
  refine ⟨f, _, hm, F.kp, hb, ⟨qual, v1, v2, v3, cdv, ct, a1, rfl⟩, ?_⟩
  refine fng_of found hcd S (fun zs H Q E ⟨ds, F, μ, QD, l, r, q, kk⟩ => by rw [r.length]; exact size _ _ _ q) fun A fs s H zs Q E hg room ⟨ds, F, μ, QD, l, r, q, kk⟩ => ?_
  refine ⟨sOf K t, (hbody _ _ _ _ _ _ _ _ hcode hg room).nox, dStart N.length ds, F, μ, _, l, ?_, math _ _ _ q, fun σ δ F1 μ1 H1 e1 l1 r1 q1 => kk _ _ F1 μ1 H1 e1 l1 .non q1, kk, fun _ _ _ _ _ _ _ _ z => z.elim, fun _ _ _ _ _ _ _ _ z => z.elim⟩
  unfold L2.start dStart
  rw [r.length]
  exact repSt_start _ r
end
/-- a tuple of ints that the top has written -/
def TupI (K : PySem.W.Frag) (a : Addr) (ns : List Int) : Prop := ∃ o vs n, K.lookup a = some o ∧ o.cls = .type "tuple" ∧ o.data = .seq vs n ∧ vs.size ≤ sizeLine ∧ Vals (ns.map V.int) vs.toList
section
variable {X : Cx} {x : Str} {p pos : Pos} {e : Expr} {es : List Expr} {t : TDA} {id : String} {r : List V → Hp → VK → Prop} {rd : RDA}
/-- a global that is a built-in function, called -/
theorem de_callBfun (hc : CallR X (.builtin id) r) (hl : LiftA X.K r rd) (hg : Gl X x) (hm : X.mg x = some (.builtin id)) (ha : DA X (e :: es) t) (hdb : (x == ("__debug__" : Str)) = false := by decide)
    (he : starEach (e :: es) X.env = (false, eval e X.env) :: starEach es X.env := by rfl) (hpl : (backTo pos (starEach es X.env)).any (·.1) = false := by rfl) : DE X (.Call (.Name x p) (e :: es) [] pos) (dCB rd t) :=
  PE.weak (pe_callBfun hc hg hm ha hdb he hpl) fun _ _ _ h => eOf_cb hl h
theorem de_gInt {i : Int} (hg : Gl X x) (hm : ∃ t, X.mg x = some (.int i t)) (hd : (x == ("__debug__" : Str)) = false := by decide) : DE X (.Name x p) (dC (.int i)) := by
  obtain ⟨t, hm⟩ := hm
  exact de_c (pe_glob (v := .int i) hg hm ⟨t, rfl⟩ hd) fun _ => .int _
theorem de_gTup {ns : List Int} {a : Addr} (hg : Gl X x) (hm : X.mg x = some (.ref a)) (hk : TupI X.K a ns) (hd : (x == ("__debug__" : Str)) = false := by decide) : DE X (.Name x p) (dC (.tup (ns.map D.int))) :=
  de_globT (pe_glob (v := .ref a) hg hm rfl hd) hk
end
/-! ### steps -/
section
variable {δ : DSt} {μ : Mem} {Q : DK} {d : D} {ta : TD} {n m : String}
theorem x_type (h : tyName d = some n) (k : Q (.ty n) μ) : dType [d] μ Q := ⟨d, n, rfl, h, k⟩
theorem x_isTyY (k : Q (.bl true) μ) : dIsTy (.ty n) (.ty n) μ Q := ⟨n, n, rfl, rfl, by rw [decide_eq_true rfl]; exact k⟩
theorem x_isTyN (h : n ≠ m) (k : Q (.bl false) μ) : dIsTy (.ty n) (.ty m) μ Q := ⟨n, m, rfl, rfl, by rw [decide_eq_false h]; exact k⟩
theorem x_notTyN (k : Q (.bl false) μ) : dNotTy (.ty n) (.ty n) μ Q := ⟨n, n, rfl, rfl, by rw [decide_eq_true rfl]; exact k⟩
theorem x_notTyY (h : n ≠ m) (k : Q (.bl true) μ) : dNotTy (.ty n) (.ty m) μ Q := ⟨n, m, rfl, rfl, by rw [decide_eq_false h]; exact k⟩
theorem x_gcd {i j : Int} (k : Q (.int ((Nat.gcd i.natAbs j.natAbs : Nat) : Int)) μ) : dGcd [.int i, .int j] μ Q := ⟨i, j, rfl, k⟩
theorem x_allG {wi : TDI} {g : Tg} {te : TD} {vs : List Nat} (k : wi δ μ fun ds μ1 => allD g te (wipeD δ vs) ds μ1 Q) : dAllG wi g te vs δ μ Q := k
theorem x_isTy (k : Q (.bl (decide (n = m))) μ) : dIsTy (.ty n) (.ty m) μ Q := ⟨n, m, rfl, rfl, k⟩
theorem x_notTy (k : Q (.bl (!decide (n = m))) μ) : dNotTy (.ty n) (.ty m) μ Q := ⟨n, m, rfl, rfl, k⟩
theorem x_listRg {i : Int} (h0 : 0 ≤ i) (h1 : i ≤ 1000000) (k : ta δ μ fun x μ1 => x = .int i ∧ Q (.lst ((List.range i.toNat).map fun j : Nat => D.int (j : Int))) μ1) (mono : ∀ (Q Q' : DK), (∀ x μ, Q x μ → Q' x μ) → ta δ μ Q → ta δ μ Q') : dListRg ta δ μ Q :=
  mono _ _ (fun x μ1 ⟨e, q⟩ => ⟨i, e, h0, h1, q⟩) k
/-- all, over elements that leave the lists as they are -/
theorem allD_pure {g : Tg} {te : TD} {δ : DSt} (f : D → Bool) : ∀ (ds : List D), (∀ d ∈ ds, ∀ k : DK, k (.bl (f d)) μ → dTg g d δ fun δ2 => te δ2 μ k) → Q (.bl (ds.all f)) μ → allD g te δ ds μ Q
  | [], _, q => q
  | d :: ds, st, q => by
    unfold allD
    refine st d List.mem_cons_self _ ⟨f d, rfl, ?_⟩
    rw [List.all_cons] at q
    cases e : f d with
    | false =>
      rw [e] at q
      exact q
    | true =>
      rw [e] at q
      exact allD_pure f ds (fun d' hd => st d' (List.mem_cons_of_mem _ hd)) q
end
end DL
namespace DL
open PySem
/-- numbers are below it -/
def bigN : Nat := 2 ^ 3000
theorem small_big {n : Nat} (h : n < 1073741824) : n < bigN := Nat.lt_of_lt_of_le h (show 2 ^ 30 ≤ 2 ^ 3000 from Nat.pow_le_pow_right (by decide) (by decide))
theorem divOk_big {x y : Int} (h0 : y ≠ 0) (h : y.natAbs < bigN) : DivOk x y := by
  refine ⟨h0, PyProof.noPylong_of_log2 ?_⟩
  have z : y.natAbs ≠ 0 := by omega
  have h1 : y.natAbs.log2 < 3000 := (Nat.log2_lt z).mpr h
  omega
mutual
/-- plain data -/
def okD : D → Bool
  | .tup xs => decide (xs.length ≤ 900) && okDs xs
  | .int i => decide (i.natAbs < bigN)
  | .non | .bl _ | .str _ | .lst _ | .dic _ => true
  | _ => false
def okDs : List D → Bool
  | [] => true
  | d :: ds => okD d && okDs ds
end
/-- a test of one thing -/
def spB (f : D → Bool) : SpD := fun ds μ Q => ∃ d, ds = [d] ∧ okD d = true ∧ Q (.bl (f d)) μ
theorem okD_tup {xs : List D} (h : okD (.tup xs) = true) : xs.length ≤ 900 ∧ okDs xs = true := by
  rw [okD, Bool.and_eq_true] at h
  exact ⟨of_decide_eq_true h.1, h.2⟩
theorem okDs_mem : ∀ {ds : List D} {d : D}, okDs ds = true → d ∈ ds → okD d = true
  | d :: ds, e, h, m => by
    simp only [okDs, Bool.and_eq_true] at h
    rcases List.mem_cons.mp m with z | z
    · rw [z]; exact h.1
    · exact okDs_mem h.2 z
end DL
namespace DL
open PySem PySem.Spec PyProof.Rows L2
theorem eqv_int (a b : Int) : PyData.eqv (.int a) (.int b) = decide (a = b) := by
  first
    | rfl
    | simp [PyData.eqv]
    | (unfold PyData.eqv; rfl)
section
variable {μ : Mem} {Q : DK} {a b : Int}
theorem x_eqI (k : Q (.bl (decide (a = b))) μ) : dEq (.int a) (.int b) μ Q := x_eq rfl rfl rfl rfl (by rw [eqv_int]; exact k)
theorem x_neI (k : Q (.bl (!decide (a = b))) μ) : dNe (.int a) (.int b) μ Q := x_ne rfl rfl rfl rfl (by rw [eqv_int]; exact k)
end
end DL
namespace DL
theorem ite_nd {p : Prop} [Decidable p] {A B : Prop} (h1 : p → B) (h2 : ¬ p → A) : if (!decide p) = true then A else B := by
  by_cases h : p
  · rw [if_neg (by simp [h])]
    exact h1 h
  · rw [if_pos (by simp [h])]
    exact h2 h
end DL
-- DM
set_option maxRecDepth 100000
/-! a tuple of anything beside the empty tuple -/
namespace DL
open PySem PySem.Spec PyProof.Rows L2
def rEqE (K : PySem.W.Frag) (neg : Bool) : V → V → Hp → VK → Prop := fun x y H Q => ∃ a b xs, x = .ref a ∧ y = .ref b ∧ SqT K H a xs ∧ SqT K H b [] ∧ Q (.bl (if neg then !xs.isEmpty else xs.isEmpty)) H
section
variable {X : Cx}
theorem op_eqE (hu : X.A.units + 64 < cLine) : OpR X (compareOp .Eq) (rEqE X.K false) := by
  intro pins s σ H x y v u Q I rx ry h
  obtain ⟨a, b, xs, rfl, rfl, ha, hb, q⟩ := h
  cases rx
  cases ry
  obtain ⟨us, r1, t1, _⟩ := I.tuple ha
  obtain ⟨ws, r2, t2, _⟩ := I.tuple hb
  have e2 : ws = [] := r2.zero
  subst e2
  refine SeqAt.eq_tupleAt (e := fun _ => true) t1 t2 (by omega) (fun j h1 h2 => absurd h2 (Nat.not_lt_zero j)) ?_
  refine ⟨.bl xs.isEmpty, H, I, ?_, q⟩
  have l1 := r1.length
  show Value.bool _ = Value.bool _
  cases xs with
  | nil =>
    have : us = [] := r1.zero
    subst this
    rfl
  | cons c r =>
    cases us with
    | nil => simp at l1
    | cons c2 r2 => simp
theorem op_neE (hu : X.A.units + 64 < cLine) : OpR X (compareOp .NotEq) (rEqE X.K true) := by
  intro pins s σ H x y v u Q I rx ry h
  obtain ⟨a, b, xs, rfl, rfl, ha, hb, q⟩ := h
  cases rx
  cases ry
  obtain ⟨us, r1, t1, _⟩ := I.tuple ha
  obtain ⟨ws, r2, t2, _⟩ := I.tuple hb
  have e2 : ws = [] := r2.zero
  subst e2
  refine SeqAt.RcNeAt.tuples (e := fun _ => true) t1 t2 (by omega) (fun j h1 h2 => absurd h2 (Nat.not_lt_zero j)) X.prog X.w _ _ ?_
  refine ⟨.bl (!xs.isEmpty), H, I, ?_, q⟩
  have l1 := r1.length
  show Value.bool _ = Value.bool _
  cases xs with
  | nil =>
    have : us = [] := r1.zero
    subst this
    rfl
  | cons c r =>
    cases us with
    | nil => simp at l1
    | cons c2 r2 => simp
end
def dEqE (neg : Bool) : RD2 := fun x y μ Q => ∃ xs, x = .tup xs ∧ y = .tup [] ∧ Q (.bl (if neg then !xs.isEmpty else xs.isEmpty)) μ
theorem lift_eqE {K : PySem.W.Frag} {neg : Bool} : Lift2 K (rEqE K neg) (dEqE neg) := fun x y dx dy F μ H Q QD l rx ry ⟨xs, e1, e2, q⟩ k => by
  subst e1 e2
  obtain ⟨a, vs, rfl, h1, _, r1⟩ := tup_rep l rx
  obtain ⟨b, ws, rfl, h2, _, r2⟩ := tup_rep l ry
  cases r2
  refine ⟨a, b, vs, rfl, rfl, h1, h2, ?_⟩
  have e : vs.isEmpty = xs.isEmpty := by
    have := r1.length
    cases vs <;> cases xs <;> simp_all
  rw [e]
  exact k _ _ F μ H (Ex.refl F) l (.bl _) q
/-- ==, != beside the empty tuple as written -/
theorem lift_eqX {K : PySem.W.Frag} : Lift2 K (fun x y H Q => (rEqD K x y H Q ∨ rEq x y H Q) ∨ rEqE K false x y H Q) (fun x y μ Q => dEq x y μ Q ∨ dEqE false x y μ Q) := Lift2.or lift_eq lift_eqE
theorem lift_neX {K : PySem.W.Frag} : Lift2 K (fun x y H Q => (rNeD K x y H Q ∨ rNe x y H Q) ∨ rEqE K true x y H Q) (fun x y μ Q => dNe x y μ Q ∨ dEqE true x y μ Q) := Lift2.or lift_ne lift_eqE
section
variable {μ : Mem} {Q : DK} {xs : List D}
theorem x_eqE (k : Q (.bl xs.isEmpty) μ) : dEqE false (.tup xs) (.tup []) μ Q := ⟨xs, rfl, rfl, k⟩
theorem x_neE (k : Q (.bl (!xs.isEmpty)) μ) : dEqE true (.tup xs) (.tup []) μ Q := ⟨xs, rfl, rfl, k⟩
end
end DL
namespace DL
open PySem PySem.Spec PyProof.Rows L2
section
variable {δ : DSt} {μ : Mem} {xs ys : List D} {ta : TDA} {R : List D → Mem → Prop}
theorem x_iZip (k : ta δ μ fun ds μ1 => ∃ xs ys, (ds = [.lst xs, .lst ys] ∨ ds = [.tup xs, .tup ys]) ∧ R (zipD xs ys) μ1) : iZipD ta δ μ R := k
theorem x_iZip1 (k : R (zipD xs ys) μ) : ∃ xs' ys', ([D.tup xs, D.tup ys] = [.lst xs', .lst ys'] ∨ [D.tup xs, D.tup ys] = [.tup xs', .tup ys']) ∧ R (zipD xs' ys') μ := ⟨xs, ys, .inr rfl, k⟩
theorem x_iZip2 (k : R (zipD xs ys) μ) : ∃ xs' ys', ([D.lst xs, D.lst ys] = [.lst xs', .lst ys'] ∨ [D.lst xs, D.lst ys] = [.tup xs', .tup ys']) ∧ R (zipD xs' ys') μ := ⟨xs, ys, .inl rfl, k⟩
end
theorem cut_one (xs : List D) : cutD xs (some 1) none = xs.drop 1 := by
  unfold cutD
  cases xs with
  | nil => simp
  | cons a r =>
    have e : HT.sIx (a :: r).length 0 (some 1) = 1 := by
      have e0 := HT.sIx_nat (a :: r).length 0 1
      have e3 : min 1 (a :: r).length = 1 := by rw [List.length_cons]; omega
      rw [e3] at e0
      exact e0
    rw [e, HT.sIx_none]
    exact List.take_of_length_le (by rw [List.length_drop]; exact Nat.le_refl _)
theorem zipD_mem : ∀ {xs ys : List D} {d : D}, d ∈ zipD xs ys → ∃ x y, x ∈ xs ∧ y ∈ ys ∧ d = .tup [x, y]
  | x :: xs, y :: ys, d, h => by
    rcases List.mem_cons.mp (show d ∈ D.tup [x, y] :: zipD xs ys from h) with z | z
    · exact ⟨x, y, List.mem_cons_self, List.mem_cons_self, z⟩
    · obtain ⟨a, b, h1, h2, h3⟩ := zipD_mem z
      exact ⟨a, b, List.mem_cons_of_mem _ h1, List.mem_cons_of_mem _ h2, h3⟩
  | [], ys, d, h => by cases ys <;> (simp [zipD] at h)
  | x :: xs, [], d, h => by simp [zipD] at h
end DL
namespace DL
/-- a for loop, by what holds ahead of the rest -/
theorem forD_ind {g : Tg} {tb : TDS} {E : DEnds} (J : List D → DSt → Mem → Prop) (h0 : ∀ δ μ, J [] δ μ → E.nx δ μ)
    (h1 : ∀ d ds δ μ, J (d :: ds) δ μ → ∀ nx : DSt → Mem → Prop, (∀ δ' μ', J ds δ' μ' → nx δ' μ') → dTg g d δ fun δ' => tb { nx := nx, rt := E.rt, bk := E.nx, ct := nx } δ' μ) : ∀ ds δ μ, J ds δ μ → forD g tb E ds δ μ
  | [], δ, μ, h => h0 δ μ h
  | d :: ds, δ, μ, h => h1 d ds δ μ h _ fun δ' μ' h' => forD_ind J h0 h1 ds δ' μ' h'
theorem x_listRg0 {δ : DSt} {μ : Mem} {Q : DK} {ta : TD} (k : ta δ μ fun x μ1 => ∃ n : Int, x = .int n ∧ 0 ≤ n ∧ n ≤ 1000000 ∧ Q (.lst ((List.range n.toNat).map fun i : Nat => D.int (i : Int))) μ1) : dListRg ta δ μ Q := k
end DL
namespace DL
theorem x_ext {E : DEnds} {δ : DSt} {μ : Mem} {to : TD} {ta : TDA} (k : to δ μ fun x μ1 => ∃ a, x = .ref a ∧ (∃ ys, μ1 a = some ys) ∧ ta δ μ1 fun ds μ2 => ∃ xs zs, ds = [.tup zs] ∧ μ2 a = some xs ∧ xs.length + zs.length ≤ 1000000 ∧ E.nx δ (mset μ2 a (xs ++ zs))) : dExt to ta E δ μ := k
end DL
namespace DL
theorem iteN_d {p : Prop} [Decidable p] {A B : Prop} (h : ¬ p) (b : B) : if decide p = true then A else B := by
  rw [if_neg (by simpa using h)]
  exact b
theorem iteY_d {p : Prop} [Decidable p] {A B : Prop} (h : p) (a : A) : if decide p = true then A else B := by
  rw [if_pos (by simpa using h)]
  exact a
end DL
namespace DL
open PySem PySem.Spec PyProof.Rows L2
theorem x_notIn2 {μ : Mem} {Q : DK} {i a b : Int} (k : Q (.bl (!(decide (a = i) || decide (b = i)))) μ) : dIn true (.int i) (.tup [.int a, .int b]) μ Q := by
  refine ⟨.int i, [.int a, .int b], [.int a, .int b], rfl, rfl, rfl, rfl, rfl, ?_⟩
  have e : inV (.int i) [.int a, .int b] = (decide (a = i) || decide (b = i)) := by
    show ((a == i) || ((b == i) || false)) = _
    rw [Bool.or_false, Bool.beq_eq_decide_eq, Bool.beq_eq_decide_eq]
  show Q (.bl (!inV (.int i) [.int a, .int b])) μ
  rw [e]
  exact k
end DL
namespace DL
open PySem PySem.Spec PyProof.Rows L2
theorem x_isi {μ : Mem} {Q : DK} {d : D} {n T : String} {b : Bool} (hn : tyName d = some n) (hk : kitB n T = some b) (k : Q (.bl b) μ) : dIsi [d, .ty T] μ Q := ⟨d, n, T, b, rfl, hn, hk, k⟩
theorem inV_bls : ∀ bs : List Bool, inV (.bl false) (bs.map V.bl) = !bs.all id
  | [] => rfl
  | b :: bs => by
    show ((b == false) || inV (.bl false) (bs.map V.bl)) = !(b && bs.all id)
    rw [inV_bls bs]
    cases b <;> rfl
theorem toVs_bls : ∀ bs : List Bool, toVs (bs.map D.bl) = some (bs.map V.bl)
  | [] => rfl
  | b :: bs => by
    show (match toV (.bl b), toVs (bs.map D.bl) with | some p, some ps => some (p :: ps) | _, _ => none) = _
    rw [toVs_bls bs]
    rfl
/-- False in bools, False not in bools -/
theorem x_inBl {μ : Mem} {Q : DK} {bs : List Bool} {neg : Bool} (k : Q (.bl (if neg then bs.all id else !bs.all id)) μ) : dIn neg (.bl false) (.lst (bs.map D.bl)) μ Q := by
  refine ⟨.bl false, bs.map D.bl, bs.map V.bl, rfl, rfl, toVs_bls bs, rfl, ?_, ?_⟩
  · rw [List.all_map]
    exact List.all_eq_true.mpr fun b _ => rfl
  · rw [inV_bls]
    cases neg with
    | true =>
      show Q (.bl (!!bs.all id)) μ
      rw [Bool.not_not]
      exact k
    | false => exact k
end DL
namespace DL
open PySem PySem.Spec PyProof.Rows L2
theorem zipD_at : ∀ (xs ys : List D) (i : Nat) (x y : D), xs[i]? = some x → ys[i]? = some y → (zipD xs ys)[i]? = some (.tup [x, y])
  | a :: xs, b :: ys, 0, x, y, h1, h2 => by
    rw [List.getElem?_cons_zero] at h1 h2
    cases h1
    cases h2
    rfl
  | a :: xs, b :: ys, i + 1, x, y, h1, h2 => by
    rw [List.getElem?_cons_succ] at h1 h2
    show (D.tup [a, b] :: zipD xs ys)[i + 1]? = _
    rw [List.getElem?_cons_succ]
    exact zipD_at xs ys i x y h1 h2
  | [], _, i, x, y, h1, _ => by simp at h1
  | _ :: _, [], i, x, y, _, h2 => by simp at h2
/-- a test of each two neighbours, by place -/
theorem near_all {xs : List D} {t : D → D → Bool} : (∀ i, i + 1 < xs.length → ∃ x y, xs[i]? = some x ∧ xs[i + 1]? = some y ∧ t x y = true) ↔ ((zipD xs (xs.drop 1)).all fun d => match d with | .tup [a, b] => t a b | _ => false) = true := by
  constructor
  · intro h
    refine List.all_eq_true.mpr fun d hd => ?_
    obtain ⟨i, hi, e⟩ := List.getElem_of_mem hd
    obtain ⟨x, y, h1, h2, rfl⟩ := zipD_get _ _ i d (by rw [← e]; exact List.getElem?_eq_getElem hi)
    rw [List.getElem?_drop, Nat.add_comm] at h2
    have hl : i + 1 < xs.length := (List.getElem?_eq_some_iff.mp h2).1
    obtain ⟨x', y', g1, g2, g3⟩ := h i hl
    rw [h1] at g1
    rw [h2] at g2
    cases g1
    cases g2
    exact g3
  · intro h i hi
    have h1 : xs[i]? = some (xs[i]'(by omega)) := List.getElem?_eq_getElem (by omega)
    have h2 : xs[i + 1]? = some (xs[i + 1]'hi) := List.getElem?_eq_getElem hi
    refine ⟨_, _, h1, h2, ?_⟩
    have h3 : (xs.drop 1)[i]? = some (xs[i + 1]'hi) := by rw [List.getElem?_drop, Nat.add_comm]; exact h2
    exact List.all_eq_true.mp h _ (List.mem_of_getElem? (zipD_at _ _ i _ _ h1 h3))
end DL
-- DR
set_option maxRecDepth 100000
set_option maxHeartbeats 2000000
/-! what may raise: readings with a ground F0, a wish for exceptions -/
namespace DL
open PySem PySem.Spec PyProof.Rows L2
abbrev XD := Addr → Option (Str × D) → Mem → Prop
abbrev WD := DSt → XD
abbrev SpX := List D → Mem → DK → XD → Prop
/-- what hangs at a raised exception -/
def XdAt (K : PySem.W.Frag) (F : Hp) (dd : Option Addr) : Option (Str × D) → Prop
  | none => dd = none
  | some (f, d) => ∃ dx v, dd = some dx ∧ F dx = some (.xd [(f, v)]) ∧ Rep K F v d
def XOf (K : PySem.W.Frag) (F : Hp) (XQ : XD) (E : XK) : Prop := ∀ C fs dd F' μ' H', Ex F F' → Lay K F' μ' H' → XdAt K F' dd fs → XQ C fs μ' → E (.ref C) dd H'
def WOf (K : PySem.W.Frag) (F : Hp) (WQ : WD) (W : WX) : Prop := ∀ C fs dd σ δ F' μ' H', Ex F F' → Lay K F' μ' H' → RepSt K F' σ δ → XdAt K F' dd fs → WQ δ C fs μ' → W (.ref C) dd σ H'
theorem XOf.mono {K : PySem.W.Frag} {F F' : Hp} {XQ : XD} {E : XK} (h : XOf K F XQ E) (e : Ex F F') : XOf K F' XQ E := fun C fs dd F2 μ' H' e2 l x q => h C fs dd F2 μ' H' (e.trans e2) l x q
theorem WOf.mono {K : PySem.W.Frag} {F F' : Hp} {WQ : WD} {W : WX} (h : WOf K F WQ W) (e : Ex F F') : WOf K F' WQ W := fun C fs dd σ δ F2 μ' H' e2 l r x q => h C fs dd σ δ F2 μ' H' (e.trans e2) l r x q
def spOfX (K : PySem.W.Frag) (spx : SpX) : Sp := fun vs H Q E => ∃ ds F μ QD XQ, Lay K F μ H ∧ Reps K F vs ds ∧ spx ds μ QD XQ ∧ KOf K F QD Q ∧ XOf K F XQ E
structure DefOkX (P : Program) (w : World) (K : PySem.W.Frag) (mg : Str → Option Value) (base : Heap) (k : Nat) (x : Str) (st : Stmt) (ps : List Str) (spx : SpX) : Prop where
  ex : ∃ (f : Addr) (fd : FuncData), mg x = some (.ref f) ∧ PySem.W.keepIn K (.ref f) = true ∧ Binds K fd ps [] ∧
    (∃ (qual : Str) (v1 v2 v3 v4 v5 : Value) (an : Option Addr), fd = PySem.W.fnOf x qual (defArgs st) (defBody st) (defScope st) .none v1 v2 v3 an v4 v5) ∧
    FnG P w K mg base (L2.CX P w) k f fd ps (spOfX K spx)
section
variable {P : Program} {w : World} {K : PySem.W.Frag} {mg : Str → Option Value} {base : Heap} {x : Str} {st : Stmt} {ps : List Str} {spx : SpX}
theorem DefOkX.mono {j k : Nat} (h : DefOkX P w K mg base j x st ps spx) (l : j ≤ k) : DefOkX P w K mg base k x st ps spx := by
  obtain ⟨f, fd, h1, h2, h3, h4, G⟩ := h.ex
  exact ⟨f, fd, h1, h2, h3, h4, G.mono l⟩
theorem DefOkX.imp {k : Nat} {spx' : SpX} (h : DefOkX P w K mg base k x st ps spx) (i : ∀ ds μ Q XQ, spx' ds μ Q XQ → spx ds μ Q XQ) : DefOkX P w K mg base k x st ps spx' := by
  obtain ⟨f, fd, h1, h2, h3, h4, G⟩ := h.ex
  exact ⟨f, fd, h1, h2, h3, h4, G.imp fun zs H Q E ⟨ds, F, μ, QD, XQ, l, r, q, kk, xx⟩ => ⟨ds, F, μ, QD, XQ, l, r, i _ _ _ _ q, kk, xx⟩⟩
def noX : XD := fun _ _ _ => False
/-- where nothing is raised -/
theorem DefOkX.ok {k : Nat} {spd : SpD} (h : DefOkX P w K mg base k x st ps spx) (i : ∀ ds μ Q, spd ds μ Q → spx ds μ Q noX) : DefOk P w K mg base k x st ps spd := by
  obtain ⟨f, fd, h1, h2, h3, h4, G⟩ := h.ex
  have low : ∀ {zs H Q} {E : XK}, spOf K spd zs H Q E → spOfX K spx zs H Q fun _ _ _ => False := fun ⟨ds, F, μ, QD, l, r, q, kk⟩ => ⟨ds, F, μ, QD, noX, l, r, i _ _ _ q, kk, fun _ _ _ _ _ _ _ _ _ z => z⟩
  refine ⟨f, fd, h1, h2, h3, h4, ⟨fun zs H Q E q => G.size zs H Q _ (low q), fun A fs s H args us zs Q E hg room e0 hb hv q => ?_⟩⟩
  refine codeAny_mono (G.does A fs s H args us zs Q _ hg room e0 hb hv (low q)) fun r s' end1 => ?_
  match r, end1 with
  | .ok (.ret u), end1 => exact end1
  | .ok .next, end1 => exact end1.elim
  | .ok .brk, end1 => exact end1.elim
  | .ok .cont, end1 => exact end1.elim
  | .error e, end1 =>
    obtain ⟨_, _, _, _, _, _, _, _, _, _, _, _, z⟩ := end1
    exact z.elim
/-- a def that never raises, as one that may -/
theorem DefOk.asX {k : Nat} {spd : SpD} (h : DefOk P w K mg base k x st ps spd) : DefOkX P w K mg base k x st ps (fun ds μ Q _ => spd ds μ Q) := by
  obtain ⟨f, fd, h1, h2, h3, h4, G⟩ := h.ex
  have low : ∀ {zs H Q} {E : XK}, spOfX K (fun ds μ Q _ => spd ds μ Q) zs H Q E → spOf K spd zs H Q E := fun ⟨ds, F, μ, QD, XQ, l, r, q, kk, _⟩ => ⟨ds, F, μ, QD, l, r, q, kk⟩
  refine ⟨f, fd, h1, h2, h3, h4, ⟨fun zs H Q E q => G.size zs H Q E (low q), fun A fs s H args us zs Q E hg room e0 hb hv q => ?_⟩⟩
  refine codeAny_mono (G.does A fs s H args us zs Q E hg room e0 hb hv (low q)) fun r s' end1 => ?_
  match r, end1 with
  | .ok (.ret u), end1 => exact end1
  | .ok .next, end1 => exact end1.elim
  | .ok .brk, end1 => exact end1.elim
  | .ok .cont, end1 => exact end1.elim
  | .error e, end1 => exact end1.elim
end

/-! ### readings over a ground -/
def eOfX (K : PySem.W.Frag) (F0 : Hp) (td : TD) : TE := fun σ H Q => ∃ δ F μ QD, Ex F0 F ∧ Lay K F μ H ∧ RepSt K F σ δ ∧ td δ μ QD ∧ KOf K F QD Q
def sOfX (K : PySem.W.Frag) (F0 : Hp) (td : TDS) : TS := fun E σ H => ∃ δ F μ ED, Ex F0 F ∧ Lay K F μ H ∧ RepSt K F σ δ ∧ td ED δ μ ∧ EOf K F ED E
abbrev DEX (X : Cx) (F0 : Hp) (e : Expr) (t : TD) : Prop := PE X e (eOfX X.K F0 t)
abbrev DSX (X : Cx) (F0 : Hp) (s : Stmt) (t : TDS) : Prop := PS X s (sOfX X.K F0 t)
abbrev DSsX (X : Cx) (F0 : Hp) (s : List Stmt) (t : TDS) : Prop := PSs X s (sOfX X.K F0 t)
section
variable {X : Cx} {F0 : Hp} {e a b c : Expr} {es : List Expr} {st : Stmt} {rest sa sb : List Stmt} {pos : Pos} {te ta tb : TD} {tc : TDT} {t u : TDS} {tr : TDA}
theorem dex_of (h : DE X e te) : DEX X F0 e te := PE.weak h fun σ H Q ⟨δ, F, μ, QD, _, l, rs, q, k⟩ => ⟨δ, F, μ, QD, l, rs, q, k⟩
theorem dsx_of (h : DS X st t) : DSX X F0 st t := PS.weak h fun D σ H ⟨δ, F, μ, ED, _, l, rs, q, k⟩ => ⟨δ, F, μ, ED, l, rs, q, k⟩
theorem dssx_of (h : DSs X rest t) : DSsX X F0 rest t := PSs.weak h fun D σ H ⟨δ, F, μ, ED, _, l, rs, q, k⟩ => ⟨δ, F, μ, ED, l, rs, q, k⟩
theorem dssx_nil : DSsX X F0 [] dNext := dssx_of dss_nil
theorem dssx_one (h : DSX X F0 st t) : DSsX X F0 [st] t := pss_one h
theorem dssx_cons (h1 : DSX X F0 st t) (h2 : DSsX X F0 rest u) : DSsX X F0 (st :: rest) (dSeq t u) :=
  PSs.weak (pss_cons h1 h2) fun D σ H ⟨δ, F, μ, ED, e0, l, rs, q, k⟩ => ⟨δ, F, μ, _, e0, l, rs, q, fun σ1 δ1 F1 μ1 H1 e1 l1 r1 q1 => ⟨δ1, F1, μ1, _, e0.trans e1, l1, r1, q1, k.mono e1⟩, k.2⟩
theorem dsx_if (hc : DT X c tc) (ha : DSsX X F0 sa t) (hb : DSsX X F0 sb u) : DSX X F0 (.If c sa sb pos) (dIfS tc t u) :=
  PS.weak (ps_if hc ha hb) fun D σ H ⟨δ, F, μ, ED, e0, l, rs, q, k⟩ => ⟨δ, F, μ, _, l, rs, q, fun c F1 μ1 H1 e1 l1 q1 => by
    cases c with
    | true => exact ⟨δ, F1, μ1, ED, e0.trans e1, l1, rs.mono e1, q1, k.mono e1⟩
    | false => exact ⟨δ, F1, μ1, ED, e0.trans e1, l1, rs.mono e1, q1, k.mono e1⟩⟩
theorem dsx_expr (he : DEX X F0 e te) (hs : swapsWith e none pos.line X.env = pure false := by rfl) : DSX X F0 (.Expr e pos) (dDrop te) :=
  PS.weak (ps_expr he hs) fun D σ H ⟨δ, F, μ, ED, e0, l, rs, q, k⟩ => ⟨δ, F, μ, _, e0, l, rs, q, fun v d F1 μ1 H1 e1 l1 r1 q1 => k.1 σ δ F1 μ1 H1 e1 l1 (rs.mono e1) q1⟩
theorem dsx_ret (he : DEX X F0 e te) : DSX X F0 (.Return (some e) pos) (dRet te) :=
  PS.weak (ps_ret he) fun D σ H ⟨δ, F, μ, ED, e0, l, rs, q, k⟩ => ⟨δ, F, μ, _, e0, l, rs, q, k.2.1⟩
theorem dsx_set {i : Nat} {x : Str} {pos' : Pos} (hN : X.N.Nodup) (hi : X.N[i]? = some x) (hx : Loc X.env.scope x) (he : DEX X F0 e te) (hs : swapsWith e (some (.Name x pos')) pos.line X.env = pure false := by rfl) (hf : X.fn x = true ∨ X.env.scope.names.lookup x = some .local := by first | exact .inl rfl | exact .inr rfl) :
    DSX X F0 (.Assign [.Name x pos'] e pos) (dSet i te) :=
  PS.weak (ps_set hN hi hx he hs hf) fun D σ H ⟨δ, F, μ, ED, e0, l, rs, q, k⟩ => ⟨δ, F, μ, _, e0, l, rs, q, fun v d F1 μ1 H1 e1 l1 r1 q1 => k.1 _ _ F1 μ1 H1 e1 l1 ((rs.mono e1).set r1 i) q1⟩
theorem dex_ifExp (hc : DT X c tc) (ha : DEX X F0 a ta) (hb : DEX X F0 b tb) : DEX X F0 (.IfExp c a b pos) (dIf tc ta tb) := by
  refine PE.weak (pe_ifExp hc ha hb) fun σ H Q ⟨δ, F, μ, QD, e0, l, rs, q, k⟩ => ?_
  refine ⟨δ, F, μ, _, l, rs, q, fun c F1 μ1 H1 e1 l1 q1 => ?_⟩
  cases c with
  | true => exact ⟨δ, F1, μ1, QD, e0.trans e1, l1, rs.mono e1, q1, k.mono e1⟩
  | false => exact ⟨δ, F1, μ1, QD, e0.trans e1, l1, rs.mono e1, q1, k.mono e1⟩
theorem dsx_for {tg iter : Expr} {g : Tg} {body : List Stmt} {wi : TDI} {tb : TDS} (hp : PassesOwn (model X.prog X.w) X.A X.env X.xe) (hc : X.calm = true) (hi : DI X tg iter wi) (hg : PG X tg (hTg X.K g)) (hb : DSsX X F0 body tb) (hs : ∀ x, foldedSetIterable iter X.env x = pure x := by intro _; rfl) : DSX X F0 (.For tg iter body [] pos) (dFor wi g tb) := by
  refine PS.weak (ps_for hp hc hi hg hb hs) fun E σ H ⟨δ, F, μ, ED, e0, l, rs, q, k⟩ => ?_
  refine ⟨δ, F, μ, _, l, rs, q, fun J ds F1 μ1 H1 e1 l1 j q1 => ?_⟩
  refine ⟨fun i m σ H => ∃ δ F2 μ2, Ex F1 F2 ∧ Lay X.K F2 μ2 H ∧ RepSt X.K F2 σ δ ∧ forD g tb ED (ds.drop i) δ μ2 ∧ i ≤ ds.length ∧ m = ds.length - i, ⟨ds.length, δ, F1, μ1, Ex.refl F1, l1, rs.mono e1, q1, Nat.zero_le _, rfl⟩, ?_⟩
  rintro i m σ H2 ⟨δ2, F2, μ2, e2, l2, r2, q2, hle, rfl⟩
  obtain ⟨j1, j2⟩ := j i F2 μ2 H2 e2 l2 hle
  by_cases hlt : i < ds.length
  · refine .inr ⟨(j1 _ (List.getElem?_eq_getElem hlt)).1, fun σ H => ∃ δ F3 μ3, Ex F1 F3 ∧ Lay X.K F3 μ3 H ∧ RepSt X.K F3 σ δ ∧ forD g tb ED (ds.drop (i + 1)) δ μ3, fun σ' H' ⟨δ3, F3, μ3, e3, l3, r3, q3⟩ => ⟨ds.length - (i + 1), by omega, δ3, F3, μ3, e3, l3, r3, q3, hlt, rfl⟩, fun x H3 y => ?_⟩
    obtain ⟨F3, e3, l3, rx⟩ := (j1 _ (List.getElem?_eq_getElem hlt)).2 x H3 y
    rw [List.drop_eq_getElem_cons hlt] at q2
    refine hTg_run l3 g rx (r2.mono e3) q2 fun σ' δ' r' q' _ => ?_
    have k3 := k.mono ((e1.trans e2).trans e3)
    exact ⟨δ', F3, μ2, _, ((e0.trans e1).trans e2).trans e3, l3, r', q', fun σ4 δ4 F4 μ4 H4 e4 l4 r4 q4 => ⟨δ4, F4, μ4, (e2.trans e3).trans e4, l4, r4, q4⟩, k3.2.1, k3.1, fun σ4 δ4 F4 μ4 H4 e4 l4 r4 q4 => ⟨δ4, F4, μ4, (e2.trans e3).trans e4, l4, r4, q4⟩⟩
  · have e : i = ds.length := by omega
    refine .inl ⟨j2 e, ?_⟩
    rw [List.drop_eq_nil_of_le (by omega)] at q2
    exact k.1 _ _ F2 μ2 H2 (e1.trans e2) l2 r2 q2
end

/-! ### raise -/
def dRaise (WQ : WD) (C : Addr) (f : Str) (te : TD) : TDS := fun _ δ μ => te δ μ fun d μ1 => WQ δ C (some (f, d)) μ1
def dRaise0 (WQ : WD) (C : Addr) : TDS := fun _ δ μ => WQ δ C none μ
section
variable {P : Program} {w : World} {K : PySem.W.Frag} {mg : Str → Option Value} {base : Heap}
theorem init_okF {qual f : Str} {st : Stmt} {fI : Addr} {fd : FuncData} (F : Fun K "__init__" qual st fI fd) (S : FnScope [("self" : Str), f] [("self" : Str), f] (defScope st))
    (body : ∀ X : Cx, X.K = K → X.N = [("self" : Str), f] → X.env.scope = defScope st → PSs X (defBody st) (tOst K f (tVar 0) (tVar 1))) : FnOk P w K mg base CX0 1 fI fd [("self" : Str), f] (spI K f) := by
  refine F.ok S (fun zs H Q E ⟨a, C, y, e, _⟩ => by rw [e]; rfl) fun cdv A outer s H vs Q E room ⟨a, C, y, e, T, hno, ha, q⟩ => ?_
  subst e
  refine ⟨_, body _ rfl rfl rfl, ?_⟩
  exact ⟨y, rfl, .ref a, rfl, a, C, rfl, T, hno, .inl ⟨ha, fun dx hd hne => q dx hd hne⟩⟩
end
section
variable {X : Cx} {F0 : Hp} {W : WX} {WQ : WD} {C fI : Addr} {x f : Str} {fd : FuncData} {e : Expr} {te : TD} {p pos pos' : Pos}
theorem dsx_raise (hc : X.calm = true) (tk : Takes X W) (hW : WOf X.K F0 WQ W) (room : Room 2 X.A) (T : Ecl X.K X.mg x C fI f) (r : Raises X (.ref C)) (G : FnOk X.prog X.w X.K X.mg X.base CX0 1 fI fd [("self" : Str), f] (spI X.K f)) (hb : Binds X.K fd [("self" : Str), f] [])
    (he : DE X e te) (hg : Gl X x := by rfl) (hdb : (x == ("__debug__" : Str)) = false := by decide) (hs : starEach [e] X.env = (false, eval e X.env) :: starEach [] X.env := by rfl) (hpl : (backTo pos (starEach [] X.env)).any (·.1) = false := by rfl) :
    DSX X F0 (.Raise (some (.Call (.Name x p) [e] [] pos)) none pos') (dRaise WQ C f te) := by
  refine PS.weak (ps_raise hc tk (pmk_oex (ds := []) (dvs := []) T.T T.iC T.tC G room hb .nil pass0 hg T.gC (pa_cons he pa_nil hs) hdb hs hpl)) fun D σ H ⟨δ, F, μ, ED, e0, l, rs, q, k⟩ => ?_
  refine ⟨δ, F, μ, _, l, rs, q, fun v d F1 μ1 H1 e1 l1 r1 q1 => ⟨by show 0 + 1 ≤ 1000; omega, fun a ha => ?_⟩⟩
  refine ⟨a, C, v, rfl, T.T, T.no, upd_same, fun dx hd ne => ⟨rfl, dx, [(f, v)], upd_same, by rw [upd_ne ne]; exact upd_same, by rw [upd_ne ne] at hd; exact hd, ?_⟩⟩
  rw [upd_ne ne] at hd
  have eH : upd (del (upd (upd (upd H1 a (exo a C none)) dx (exd dx [(f, v)])) a (exo a C (some dx))) a) dx (.xd [(f, v)]) = upd H1 dx (.xd [(f, v)]) := by
    funext b
    by_cases h1 : b = dx
    · rw [h1, upd_same, upd_same]
    · rw [upd_ne h1, upd_ne h1]
      by_cases h2 : b = a
      · rw [h2, del_same, ha]
      · rw [del_ne h2, upd_ne h2, upd_ne h1, upd_ne h2]
  rw [eH]
  have ex : Ex F1 (upd F1 dx (.xd [(f, v)])) := Ex.new (l1.none_F hd)
  exact hW C (some (f, d)) (some dx) σ δ _ μ1 _ ((e0.trans e1).trans ex) (l1.new hd _) ((rs.mono e1).mono ex) ⟨dx, v, rfl, upd_same, r1.mono ex⟩ q1
theorem pmk0 (T : Bcl X.K X.mg x C) (r : Raises X (.ref C)) (hg : Gl X x := by rfl) (hdb : (x == ("__debug__" : Str)) = false := by decide) : PMk X (.Call (.Name x p) [] [] pos) (fun _ H Q => Q (.ref C) none H) := by
  intro pins s σ H Q I q
  refine wpAny_Call_Name_kw (ld_glob I hg T.gC ?_ hdb)
  refine PySem.W.callWith_K0 I.kIn T.kC ?_
  obtain ⟨bm, N, nm, qn, bs, hdct, sn, sub, ab, col, dd, k0, k1, k2, k3, k5, mN, hC, hN, hni, T⟩ := exc_obj I.kIn T.q
  exact wpAny_call_exc_subT PySem.F.excBase_ValueError T hC hN hni (fun h' a hm => mk_of I hm r q (I.hok.gone hm.new)) (by show 0 ≤ sizeLine; omega)
theorem dsx_raise0 (hc : X.calm = true) (tk : Takes X W) (hW : WOf X.K F0 WQ W) (T : Bcl X.K X.mg x C) (r : Raises X (.ref C)) (hg : Gl X x := by rfl) (hdb : (x == ("__debug__" : Str)) = false := by decide) :
    DSX X F0 (.Raise (some (.Call (.Name x p) [] [] pos)) none pos') (dRaise0 WQ C) :=
  PS.weak (ps_raise hc tk (pmk0 T r hg hdb)) fun D σ H ⟨δ, F, μ, ED, e0, l, rs, q, k⟩ => hW C none none σ δ F μ H e0 l rs rfl q
end

/-! ### calls, defs -/
def dCallX (spx : SpX) (WQ : WD) (t : TDA) : TD := fun δ μ Q => t δ μ fun ds μ1 => spx ds μ1 Q (WQ δ)
section
variable {X : Cx} {F0 : Hp} {W : WX} {WQ : WD} {k : Nat} {ps : List Str} {spx : SpX} {x : Str} {st : Stmt} {p pos : Pos} {e : Expr} {es : List Expr} {t : TDA}
theorem dex_call (hgd : X.A.guards = some []) (tk : Takes X W) (hW : WOf X.K F0 WQ W) (Dk : DefOkX X.prog X.w X.K X.mg X.base k x st ps spx) (room : Room k X.A) (ha : DA X (e :: es) t) (hg : Gl X x := by rfl) (hdb : (x == ("__debug__" : Str)) = false := by decide)
    (he : starEach (e :: es) X.env = (false, eval e X.env) :: starEach es X.env := by rfl) (hpl : (backTo pos (starEach es X.env)).any (·.1) = false := by rfl) : DEX X F0 (.Call (.Name x p) (e :: es) [] pos) (dCallX spx WQ t) := by
  obtain ⟨f, fd, h1, h2, h3, h4, G⟩ := Dk.ex
  refine ⟨fun pins s σ H Q I ⟨δ, F, μ, QD, e0, l, rs, q, kk⟩ => wpAny_Call_Name_kw (ld_glob I hg h1 ?_ hdb)⟩
  refine PySem.W.callWith_K (h₀ := X.base) I.ok.mod.kin h2 (thn (ha.run pos pins s σ H (fun vs H1 => spOfX X.K spx vs H1 Q (WE W σ)) I ?_) fun us s1 ⟨vs, H1, I1, r1, q1⟩ => ⟨I1.kIn, ?_⟩) he hpl
  · exact ⟨δ, F, μ, _, l, rs, q, fun vs ds F1 μ1 H1 e1 l1 r1 q1 => ⟨ds, F1, μ1, QD, WQ δ, l1, r1, q1, kk.mono e1, fun C fs dd F' μ' H' e' l' x q => hW C fs dd σ δ F' μ' H' ((e0.trans e1).trans e') l' ((rs.mono e1).mono e') x q⟩⟩
  · have hl : us.length = ps.length := by rw [← r1.length]; exact G.size _ _ _ _ q1
    have hbi := h3 s1 us I1.kIn (by rw [List.append_nil]; exact hl)
    rw [List.append_nil] at hbi
    refine wpAny_call (codeAny_mono (G.does X.A X.stack s1 H1 ⟨us, []⟩ us vs Q (WE W σ) hgd room I1.env0 hbi r1 q1) fun r s2 end2 => ?_)
    match r, end2 with
    | .error v, end2 => exact passAt tk σ pins H1 s1 v s2 I1 end2
    | .ok (.ret u), end2 => exact I1.after end2
    | .ok .next, end2 => exact end2.elim
    | .ok .brk, end2 => exact end2.elim
    | .ok .cont, end2 => exact end2.elim
end
section
variable {P : Program} {w : World} {K : PySem.W.Frag} {mg : Str → Option Value} {base : Heap}
/-- the context of a def that may raise -/
structure InX (P : Program) (w : World) (K : PySem.W.Frag) (mg : Str → Option Value) (base : Heap) (k : Nat) (N : List Str) (sc : Scope) (X : Cx) (W : WX) : Prop where
  eP : X.prog = P
  ew : X.w = w
  gd : X.A.guards = some []
  room : Room k X.A
  tk : Takes X W
  pas : PassesOwn (model X.prog X.w) X.A X.env X.xe
theorem def_okX {x qual : Str} {st : Stmt} {f : Addr} {fd : FuncData} {N ps : List Str} {k : Nat} {spx : SpX} (Fn : Fun K x qual st f fd) (hm : mg x = some (.ref f)) (hb : Binds K fd ps []) (S : FnScope N ps (defScope st)) (size : ∀ ds μ Q XQ, spx ds μ Q XQ → ds.length = ps.length) (t : WD → TDS)
    (hbody : ∀ (qual : Str) (f : Addr) (cdv : Value) (A : Around) (fs : List Env) (s : Shared) (H : Hp) (E : XK) (F0 : Hp) (WQ : WD), (∀ c, codeOf K f = some c → cdv = .ref c) → (cxOf (L2.CX P w) P w K mg base N qual (defScope st) f cdv A fs s H E).A.guards = some [] → Room k (cxOf (L2.CX P w) P w K mg base N qual (defScope st) f cdv A fs s H E).A →
      Takes (cxOf (L2.CX P w) P w K mg base N qual (defScope st) f cdv A fs s H E) (fun cls d _ H => E cls d H) → PassesOwn (model P w) (cxOf (L2.CX P w) P w K mg base N qual (defScope st) f cdv A fs s H E).A (cxOf (L2.CX P w) P w K mg base N qual (defScope st) f cdv A fs s H E).env (cxOf (L2.CX P w) P w K mg base N qual (defScope st) f cdv A fs s H E).xe →
      WOf K F0 WQ (fun cls d _ H => E cls d H) → DSsX (cxOf (L2.CX P w) P w K mg base N qual (defScope st) f cdv A fs s H E) F0 (defBody st) (t WQ))
    (math : ∀ ds μ Q XQ, spx ds μ Q XQ → t (fun _ => XQ) { nx := fun _ μ' => Q .non μ', rt := Q } (dStart N.length ds) μ) : DefOkX P w K mg base (k + 1) x st ps spx := by
  obtain ⟨w1, w2, v1, v2, v3, a1, cdv, ct, osl, rfl, found, hcd⟩ := Fn.ex
  refine ⟨f, _, hm, Fn.kp, hb, ⟨qual, v1, v2, v3, cdv, ct, a1, rfl⟩, ?_⟩
  refine fng_of found hcd S (fun zs H Q E ⟨ds, F, μ, QD, XQ, l, r, q, kk, xx⟩ => by rw [r.length]; exact size _ _ _ _ q) fun A fs s H zs Q E hg room ⟨ds, F, μ, QD, XQ, l, r, q, kk, xx⟩ => ?_
  refine ⟨sOfX K F (t fun _ => XQ), hbody _ _ _ _ _ _ _ _ F (fun _ => XQ) (fun c hc => codeOf_at found hc) hg room (takes_of rfl rfl rfl rfl) (passes_of rfl) fun C fs dd σ δ F' μ' H' e l r x q => xx C fs dd F' μ' H' e l x q, dStart N.length ds, F, μ, _, Ex.refl F, l, ?_, math _ _ _ _ q, fun σ1 δ F1 μ1 H1 e1 l1 r1 q1 => kk _ _ F1 μ1 H1 e1 l1 .non q1, kk, fun _ _ _ _ _ _ _ _ z => z.elim, fun _ _ _ _ _ _ _ _ z => z.elim⟩
  unfold L2.start dStart
  rw [r.length]
  exact repSt_start _ r
end

/-! ### try: .. except C as e: .. -/
def xcpD (a C dx : Addr) : Option (Str × D) → D
  | none => .xcn a C
  | some (f, d) => .xcp a C dx f d
def ddOf (dx : Addr) : Option (Str × D) → Option Addr
  | none => none
  | some _ => some dx
def suiteE (E : DEnds) (i : Nat) : DEnds where
  nx := fun δ μ => E.nx (δ.set i none) μ
  rt := E.rt
  bk := fun δ μ => E.bk (δ.set i none) μ
  ct := fun δ μ => E.ct (δ.set i none) μ
/-- what is wanted of an exception that leaves a try's body -/
def dCatch (K : PySem.W.Frag) (CS : Addr) (i : Nat) (tS : Addr → Value → Option Addr → TDS) (E : DEnds) : WD := fun δ C fs μ =>
  PySem.W.exmOne K (.ref C) (.ref CS) = some true ∧ ∀ a dx, tS a (.ref C) (ddOf dx fs) (suiteE E i) (δ.set i (some (xcpD a C dx fs))) μ
def dTry (K : PySem.W.Frag) (CS : Addr) (i : Nat) (tB : WD → TDS) (tS : Addr → Value → Option Addr → TDS) : TDS := fun E δ μ => tB (dCatch K CS i tS E) E δ μ
theorem sof_none {K : PySem.W.Frag} {F : Hp} {QD : DSt → Mem → Prop} {Q : L2.St → Hp → Prop} (i : Nat) (h : SOf K F QD Q) : SOf K F (fun δ μ => QD (δ.set i none) μ) (fun σ H => Q (σ.set i none) H) := fun σ δ F' μ' H' e l r q => h _ _ F' μ' H' e l (repSt_none i r) q
section
variable {X : Cx} {F0 : Hp} {x n : Str} {CS : Addr} {i : Nat} {body suite : List Stmt} {b₀ : Stmt} {np pos pos' : Pos} {tB : WD → TDS} {tS : Addr → Value → Option Addr → TDS}
theorem dsx_try {K : PySem.W.Frag} (hK : X.K = K) (hs : X.stack = X.env :: X.outer) (hf : X.env.frame = some X.env.locals) (hN : X.N.Nodup) (hi : X.N[i]? = some n) (hln : X.env.kindOf n = some .local) (hc : Names X x (.ref CS))
    (hb : ∀ (W : WX) (pn : List (Addr × Obj)) (xe : Value → Shared → Prop) (F1 : Hp) (WQ : WD), Ex F0 F1 → Takes (X.tr pn xe) W → PassesOwn (model X.prog X.w) X.A X.env xe → WOf X.K F1 WQ W → DSsX (X.tr pn xe) F1 body (tB WQ))
    (hsu : ∀ (a : Addr) (oe : Obj) (cls : Value) (dd : Option Addr) (pn : List (Addr × Obj)), Zc cls dd oe → (∃ vs, oe.data = .fields vs) → DSs (X.suite a ((a, oe) :: pn)) (b₀ :: suite) (tS a cls dd)) :
    DSX X F0 (.Try body [.ExceptHandler (some (.Name x np)) (some n) (b₀ :: suite) pos'] [] [] pos) (dTry K CS i tB tS) := by
  subst hK
  refine PS.weak (ps_try_as (tb := fun W D σ H => ∃ δ F μ ED WQ, Ex F0 F ∧ Lay X.K F μ H ∧ RepSt X.K F σ δ ∧ tB WQ ED δ μ ∧ EOf X.K F ED D ∧ WOf X.K F WQ W) (ts := fun a cls dd => sOf X.K (tS a cls dd)) hs hf hN hi hln hc LamX.takes0 (fun W pn xe tk hp => ?_) fun a oe cls dd pn hz hv => hsu a oe cls dd pn hz hv) fun D σ H ⟨δ, F, μ, ED, e0, l, rs, q, k⟩ => ?_
  · exact ⟨fun pins s σ H D I ⟨δ, F, μ, ED, WQ, e0, l, rs, q, k, hw⟩ => (hb W pn xe F WQ e0 tk hp hw).run pins s σ H D I ⟨δ, F, μ, ED, Ex.refl F, l, rs, q, k⟩⟩
  · refine ⟨δ, F, μ, ED, dCatch X.K CS i tS ED, e0, l, rs, q, k, fun C fs dd σ1 δ1 F1 μ1 H1 e1 l1 r1 x1 ⟨hx, q1⟩ => ⟨true, hx, fun _ a ha => ?_, fun z => nomatch z⟩⟩
    have k1 := k.mono e1
    cases fs with
    | none =>
      cases (show dd = none from x1)
      exact ⟨_, F1, μ1, suiteE ED i, l1, r1.set .xcn i, q1 a 0, sof_none i k1.1, k1.2.1, sof_none i k1.2.2.1, sof_none i k1.2.2.2⟩
    | some p =>
      obtain ⟨f, d⟩ := p
      obtain ⟨dx, v, rfl, hx2, rv⟩ := x1
      exact ⟨_, F1, μ1, suiteE ED i, l1, r1.set (.xcp hx2 rv) i, q1 a dx, sof_none i k1.1, k1.2.1, sof_none i k1.2.2.1, sof_none i k1.2.2.2⟩
end
section
variable {X : Cx} {a : Addr} {oe : Obj} {cls : Value} {dd : Option Addr} {pn : List (Addr × Obj)} {e e2 : Expr} {te : TD} {tr : TDA} {f : Str} {p pos : Pos}
/-- e.f, e the caught exception -/
def dXAttr (K : PySem.W.Frag) (a : Addr) (cls : Value) (dd : Option Addr) (f : Str) (te : TD) : TD := fun δ μ Q => te δ μ fun x μ1 => ∃ C dx d, x = .xcp a C dx f d ∧ cls = .ref C ∧ dd = some dx ∧ ExcC K C ∧ PySem.W.findIn K (.ref C) f = some none ∧ Q d μ1
theorem inst_xcp {C dx : Addr} {d : D} {v : V} {pins : List (Addr × Obj)} {σ : L2.St} {H F : Hp} {μ : Mem} {s : Shared} (I : Inv (X.suite a ((a, oe) :: pn)) pins σ H s) (l : Lay X.K F μ H) (hz : Zc (.ref C) (some dx) oe) (hv : ∃ vs, oe.data = .fields vs) (r : Rep X.K F v (.xcp a C dx f d)) :
    v = .ref a ∧ ∃ od y, PySem.W.InstAt s.heap a oe C (some od) ∧ Rep X.K F y d ∧ ∃ u, RelV y u ∧ PySem.W.lookIn f od = some (some u) := by
  cases r with
  | @xcp _ _ _ _ y _ g rr =>
    obtain ⟨ha, _⟩ := I.pin (a, oe) (List.mem_append_left _ List.mem_cons_self)
    obtain ⟨vs, hd⟩ := hv
    have hx : ObjOk X.prog X.w H s.heap dx (.xd [(f, y)]) := I.hok dx _ (l.fz _ _ g)
    obtain ⟨mA, hns, hr⟩ := hx
    obtain ⟨od, ho, hl⟩ := lookIn_ns hns
    have e1 : List.lookup f [(f, y)] = some y := by simp [List.lookup]
    obtain ⟨u, hu, ru⟩ := RelO.some_of (v := y) (o := mA f) (by rw [← e1]; exact hr f)
    exact ⟨rfl, od, y, ⟨ha, hz.1, by unfold PySem.W.notCls; rw [hd] <;> rfl, by rw [hz.2]; exact ho⟩, rr, u, ru, by rw [hl, hu]⟩
theorem de_xattr {K : PySem.W.Frag} (hK : X.K = K) (hz : Zc cls dd oe) (hv : ∃ vs, oe.data = .fields vs) (he : DE (X.suite a ((a, oe) :: pn)) e te) (hb : attributeBase e f X.env (eval e X.env) = eval e X.env := by rfl) :
    DE (X.suite a ((a, oe) :: pn)) (.Attribute e f pos) (dXAttr K a cls dd f te) := by
  subst hK
  refine ⟨fun pins s σ H Q I ⟨δ, F, μ, QD, l, rs, q, kk⟩ => attr_of hb (thn (he.run pins s σ H (fun v H1 => ∃ F1 μ1 C dx d, Ex F F1 ∧ Lay X.K F1 μ1 H1 ∧ Rep X.K F1 v (.xcp a C dx f d) ∧ cls = .ref C ∧ dd = some dx ∧ ExcC X.K C ∧ PySem.W.findIn X.K (.ref C) f = some none ∧ QD d μ1) I ?_) ?_)⟩
  · exact ⟨δ, F, μ, _, l, rs, q, fun v d F1 μ1 H1 e1 l1 r1 ⟨C, dx, d', ed, c1, c2, T, hno, q1⟩ => ⟨F1, μ1, C, dx, d', e1, l1, by rw [← ed]; exact r1, c1, c2, T, hno, q1⟩⟩
  · intro u s1 ⟨v, H1, I1, r1, F1, μ1, C, dx, d, e1, l1, rv, c1, c2, T, hno, q1⟩
    subst c1 c2
    obtain ⟨rfl, od, y, J, ry, w, rw', look⟩ := inst_xcp I1 l1 hz hv rv
    cases (show u = Value.ref a from r1)
    exact PySem.HandSPX.exc_get I1.kIn J T.hg T.hk T.hs (PySem.W.findObj_own T.hd hno rfl look) (handed_of rw') ⟨y, H1, I1.tok _, rw', kk _ _ F1 μ1 H1 e1 l1 ry q1⟩
def isX (a C dx : Addr) (dd : Option Addr) : D → Prop
  | .xcp a' C' dx' _ _ => a' = a ∧ C' = C ∧ dx' = dx ∧ dd = some dx
  | .xcn a' C' => a' = a ∧ C' = C ∧ dd = none
  | _ => False
def dXIsE (K : PySem.W.Frag) (a : Addr) (cls : Value) (dd : Option Addr) : RDA := fun ds μ Q => ∃ C dx x c b, ds = [x, c] ∧ isX a C dx dd x ∧ cls = .ref C ∧ ExcC K C ∧ kitD K C c = some b ∧ Q (.bl b) μ
theorem de_xIsE {K : PySem.W.Frag} (hK : X.K = K) (hz : Zc cls dd oe) (hv : ∃ vs, oe.data = .fields vs) (hm : X.mg "isinstance" = none) (ha : DA (X.suite a ((a, oe) :: pn)) [e, e2] tr) (hg : Gl X "isinstance" := by rfl)
    (he : starEach [e, e2] X.env = (false, eval e X.env) :: starEach [e2] X.env := by rfl) (hpl : (backTo pos (starEach [e2] X.env)).any (·.1) = false := by rfl) : DE (X.suite a ((a, oe) :: pn)) (.Call (.Name "isinstance" p) [e, e2] [] pos) (dCB (dXIsE K a cls dd) tr) := by
  subst hK
  have hc : CallR (X.suite a ((a, oe) :: pn)) (.builtin "isinstance") (fun vs H Q => ∃ F μ C dx x c b v w QD, vs = [v, w] ∧ Lay X.K F μ H ∧ Rep X.K F v x ∧ isX a C dx dd x ∧ cls = .ref C ∧ Rep X.K F w c ∧ ExcC X.K C ∧ kitD X.K C c = some b ∧ QD (.bl b) μ ∧ KOf X.K F QD Q) := by
    intro pins s σ H vs us Q I r ⟨F, μ, C, dx, x, c, b, v, w, QD, ev, l, rv, ix, ec, rw', T, kt, q, kk⟩
    subst ev ec
    obtain ⟨u1, u2, rfl, r1, r2⟩ := vals2 r
    have J : v = .ref a ∧ ∃ od, PySem.W.InstAt s.heap a oe C od := by
      cases x with
      | xcp a' C' dx' f d =>
        obtain ⟨rfl, rfl, rfl, rfl⟩ := ix
        obtain ⟨ev, od, y, J, _⟩ := inst_xcp I l hz hv rv
        exact ⟨ev, _, J⟩
      | xcn a' C' =>
        obtain ⟨rfl, rfl, rfl⟩ := ix
        cases rv
        obtain ⟨hget, _⟩ := I.pin (a', oe) (List.mem_append_left _ List.mem_cons_self)
        obtain ⟨vs, hd⟩ := hv
        exact ⟨rfl, none, hget, hz.1, by unfold PySem.W.notCls; rw [hd] <;> rfl, by rw [hz.2]; trivial⟩
      | _ => exact ix.elim
    obtain ⟨rfl, od, J⟩ := J
    cases (show u1 = Value.ref a from r1)
    have done : ∀ tk, EP (X.suite a ((a, oe) :: pn)) pins σ Q (.bool b) { s with toks := tk } := fun tk => ⟨.bl b, H, I.tok tk, rfl, kk _ _ F μ H (Ex.refl F) l (.bl _) q⟩
    have Z := PySem.W.kitx_exc (K := X.K) (C := C) (x := a) (ox := oe) (od := od) (by obtain ⟨cd, hc, _⟩ := PySem.W.any_some T.hd; rw [hc]; rfl) T.hg T.hk T.hs T.ha T.hn T.ht T.hm
    cases c with
    | ref c2 =>
      have e2 := rep_ref rw'
      subst e2
      cases (show u2 = Value.ref c2 from r2)
      exact PySem.W.kia_one Z I.kIn J kt (fun z => nomatch z) done
    | ty n =>
      have e2 := rep_ty rw'
      subst e2
      cases (show u2 = Value.type n from r2)
      exact PySem.W.kia_one Z I.kIn J kt (fun z => nomatch z) done
    | _ => cases kt
  refine PE.weak (pe_callB hc hg hm (by decide +kernel) ha (he := he) (hpl := hpl)) fun σ H Q ⟨δ, F, μ, QD, l, rs, q, kk⟩ => ?_
  refine ⟨δ, F, μ, _, l, rs, q, fun vs ds F1 μ1 H1 e1 l1 r1 ⟨C, dx, x, c, b, ed, ix, ec, T, kt, q1⟩ => ?_⟩
  subst ed
  obtain ⟨v, w, rfl, rv, rw'⟩ := reps2 r1
  exact ⟨F1, μ1, C, dx, x, c, b, v, w, QD, rfl, l1, rv, ix, ec, rw', T, kt, q1, kk.mono e1⟩
end

theorem raises_ecl {X : Cx} {mg : Str → Option Value} {x f : Str} {C fI : Addr} (T : Ecl X.K mg x C fI f) : Raises X (.ref C) := raises_own T.T.exC T.T.tyC
theorem raises_bcl {X : Cx} {mg : Str → Option Value} {x : Str} {C : Addr} (T : Bcl X.K mg x C) (t : PySem.W.typeIn X.K (.ref C) = some (.type "type")) : Raises X (.ref C) := raises_own T.I.hs t
theorem suite_units {X : Cx} {a : Addr} {pn : List (Addr × Obj)} : (X.suite a pn).A.units = X.A.units := rfl
theorem suite_guards {X : Cx} {a : Addr} {pn : List (Addr × Obj)} : (X.suite a pn).A.guards = X.A.guards := rfl
section
variable {P : Program} {w : World} {K : PySem.W.Frag} {mg : Str → Option Value} {base : Heap}
/-- a def with lambdas, generator expressions: its code object and its full name told -/
theorem def_okQ {x qual : Str} {st : Stmt} {f c : Addr} {fd : FuncData} {N ps : List Str} {k : Nat} {spd : SpD} (Fn : Fun K x qual st f fd) (hm : mg x = some (.ref f)) (hb : Binds K fd ps []) (hc : codeOf K f = some c) (S : FnScope N ps (defScope st)) (size : ∀ ds μ Q, spd ds μ Q → ds.length = ps.length) (t : TDS)
    (hbody : ∀ (f : Addr) (cdv : Value) (A : Around) (fs : List Env) (s : Shared) (H : Hp) (E : XK), cdv = .ref c → (cxOf CX0 P w K mg base N qual (defScope st) f cdv A fs s H E).A.guards = some [] → Room k (cxOf CX0 P w K mg base N qual (defScope st) f cdv A fs s H E).A → DSs (cxOf CX0 P w K mg base N qual (defScope st) f cdv A fs s H E).nox (defBody st) t)
    (math : ∀ ds μ Q, spd ds μ Q → t { nx := fun _ μ' => Q .non μ', rt := Q } (dStart N.length ds) μ) : DefOk P w K mg base (k + 1) x st ps spd := by
  obtain ⟨w1, w2, v1, v2, v3, a1, cdv, ct, osl, rfl, found, hcd⟩ := Fn.ex
  have hcode : cdv = .ref c := codeOf_at found hc
  refine ⟨f, _, hm, Fn.kp, hb, ⟨qual, v1, v2, v3, cdv, ct, a1, rfl⟩, ?_⟩
  refine fng_of found hcd S (fun zs H Q E ⟨ds, F, μ, QD, l, r, q, kk⟩ => by rw [r.length]; exact size _ _ _ q) fun A fs s H zs Q E hg room ⟨ds, F, μ, QD, l, r, q, kk⟩ => ?_
  refine ⟨sOf K t, (hbody _ _ _ _ _ _ _ hcode hg room).nox, dStart N.length ds, F, μ, _, l, ?_, math _ _ _ q, fun σ1 δ F1 μ1 H1 e1 l1 r1 q1 => kk _ _ F1 μ1 H1 e1 l1 .non q1, kk, fun _ _ _ _ _ _ _ _ z => z.elim, fun _ _ _ _ _ _ _ _ z => z.elim⟩
  unfold L2.start dStart
  rw [r.length]
  exact repSt_start _ r
end
end DL
-- DU
set_option maxRecDepth 100000
set_option maxHeartbeats 2000000
/-! a lambda handed to a def that calls it: the table of code objects grows, all else stays -/
namespace DL
open PySem PySem.Spec PyProof.Rows L2 LamX
/-- all but what stands at P stays -/
def Kept (P : Addr) (H H1 : Hp) : Prop := ∀ b o, b ≠ P → H b = some o → H1 b = some o
section
variable {X : Cx} {pins : List (Addr × Obj)} {σ : L2.St} {H : Hp} {s : Shared}
abbrev lamQ (X : Cx) : Str := X.env.qual ++ "<lambda>"
abbrev lamObj (X : Cx) (params : Arguments) (body : Expr) (scope : Scope) (pm : Value) (c' : Addr) (ctv : Value) : Obj :=
  PySem.W.kla_obj "<lambda>" (lamQ X) params body scope (cloFrom X.env.cells scope.names []) pm c' ctv
theorem lam_mk {c P : Addr} {params : Arguments} {body : Expr} {scope : Scope} {pos : Pos} {E Q : Value → Shared → Prop} (I : Inv X pins σ H s) (B : BTab X.base X.mg c P) (code : X.env.code = .ref c) (tab : TabS H P (lamQ X))
    (dflt : defaultsOf params X.env = ([], [])) (own : ∀ y ∈ scope.names, y.2 = .free → ∃ c, X.env.cells.lookup y.1 = some c)
    (go : ∀ (f c' : Addr) (pm ctv : Value) (H1 : Hp) (t : Shared), Inv X pins σ H1 t → Kept P H H1 → TabS H1 P (lamQ X) → t.heap.get? f = some (lamObj X params body scope pm c' ctv) → H1 f = none → f ∉ frs X.stack → H1 c' = some (CodeO c' (lamQ X)) → Q (.ref f) t) :
    wpAny (model X.prog X.w) X.A (eval (.Lambda params body scope pos) X.env) Q E s := by
  obtain ⟨ps, atP, triples, named⟩ := tab
  refine PySem.W.kla_eval dflt ?_
  have inP : s.heap.get? P = some { cls := .none, data := .fields ps } := I.hok P _ atP
  have above : ∀ f, s.heap.objs.size ≤ f → f ∉ frs X.stack := by
    intro f hf z
    rcases List.mem_cons.mp (I.stkSub _ z) with e | e
    · exact Nat.lt_irrefl _ (Nat.lt_of_lt_of_le (e ▸ I.lt) hf)
    · exact I.nofs hf e
  generalize hcode : codeAmong pos ps.toList = found
  match found, hcode with
  | some cv, hcode =>
    obtain ⟨c', ecv, isC⟩ := named pos cv hcode
    subst ecv
    refine PySem.W.kla_makeFunctionHit (mg := X.mg) (P := P) (ps := ps) (c := c) (closure_ok own) I.ok.glob (I.mod.glob.keeps I.bk) code (B.code.keeps I.bk) inP triples hcode (B.bm.keeps I.bk) fun ctv h' tk more big => ?_
    have J : Inv X pins σ H { s with heap := h'.push (lamObj X params body scope ((X.mg "__name__").getD .none) c' ctv), toks := tk } := I.kept fun b o e => Heap.get?_push_of_some _ (more b o e)
    exact go h'.objs.size c' _ ctv H _ J (fun b o _ e => e) ⟨ps, atP, triples, named⟩ (Heap.get?_push_size _ rfl) (I.hok.fresh big) (above _ big) isC
  | none, hcode =>
    refine PySem.W.kla_makeFunction (mg := X.mg) (P := P) (ps := ps) (c := c) (closure_ok own) I.ok.glob (I.mod.glob.keeps I.bk) code (B.code.keeps I.bk) inP triples hcode B.gP (B.bm.keeps I.bk) fun c' ctv h' tk more low high rec put => ?_
    obtain ⟨c2, oc, vs, tt, e2, g1, g2, g3⟩ := rec
    cases e2
    have wide : s.heap.objs.size ≤ h'.objs.size := Nat.le_trans low (Nat.le_of_lt high)
    have free : H c' = none := I.hok.fresh low
    have newP : P ≠ c' := ne_of_none atP free
    let G : Hp := upd (upd H P (.tbl (ps ++ #[rawInt pos.line, rawInt pos.col, .ref c']))) c' (CodeO c' (lamQ X))
    have J : Inv X pins σ G { s with heap := h'.push (lamObj X params body scope ((X.mg "__name__").getD .none) c' ctv), toks := tk } :=
      inv_table I atP (fun b o hb e => Heap.get?_push_of_some _ (more b o hb e)) (Heap.get?_push_of_some _ put) low ⟨oc, vs, tt, Heap.get?_push_of_some _ g1, g2, g3⟩
    have stay : Kept P H G := fun b o hb e => by
      show upd _ c' _ b = _
      rw [upd_ne (ne_of_none e free), upd_ne hb]
      exact e
    have ends : (ps ++ #[rawInt pos.line, rawInt pos.col, .ref c']).toList = ps.toList ++ [rawInt pos.line, rawInt pos.col, .ref c'] := by simp
    refine go h'.objs.size c' _ ctv G _ J stay ⟨_, (by show upd _ c' _ P = _; rw [upd_ne newP, upd_same]), ?_, ?_⟩ (Heap.get?_push_size _ rfl) ?_ (above _ wide) upd_same
    · rw [ends]
      exact PySem.TriplesOk_snoc _ _ _ _ triples
    · intro p' cv hcv
      rw [ends] at hcv
      rcases among_app _ triples hcv with z | z
      · obtain ⟨c0, e1, e3⟩ := named p' cv z
        exact ⟨c0, e1, stay _ _ (fun q => by rw [q, atP] at e3; exact codeO_ne _ (Option.some.inj e3).symm) e3⟩
      · exact ⟨c', z, upd_same⟩
    · show upd _ c' _ _ = _
      rw [upd_ne (Nat.ne_of_gt high), upd_ne (Nat.ne_of_gt (Nat.lt_of_lt_of_le (Heap.lt_size inP) wide))]
      exact I.hok.fresh wide
/-- the lambda called, in the def that got it; what it raises goes where that def's slots want it -/
theorem act_call {CXg : CXT} {Eg : XK} {Ng : List Str} {qg : Str} {sg : Scope} {g f c' : Addr} {cdg pm ctv : Value} {params : Arguments} {body : Expr} {scope : Scope} {k : Nat} {a : Str} {pn : List (Addr × Obj)} {xe : Value → Shared → Prop} {W : WX} {tb : XK → TE} {p1 p2 : Pos}
    (I : Inv X pins σ H s) (L : LamS X.env.scope scope) (obj : s.heap.get? f = some (lamObj X params body scope pm c' ctv)) (hid : H f = none) (low : f ∉ frs X.stack) (bind : bindArgs (PySem.W.kla_fn "<lambda>" (lamQ X) params body scope (cloFrom X.env.cells scope.names []) pm (.ref c') ctv) ⟨[], []⟩ = pure [])
    (tk : Takes ((cxOf CXg X.prog X.w X.K X.mg X.base Ng qg sg g cdg X.A X.stack s H Eg).tr pn xe) W) (room : Room (k + 1) (X.A.deeper (envOfC qg sg s.heap.objs.size g cdg)))
    (hbody : ∀ (A : Around) (outer : List Env) (s : Shared) (H : Hp) (E : XK), A = X.A.deeper (envOfC qg sg s.heap.objs.size g cdg) ∨ True → Room k (A.deeper (lamEnv X scope s.heap.objs.size f c')) → A.guards = X.A.guards → PE (lamCx X A outer s H E scope f c') body (tb E))
    (hN : Ng[0]? = some a) (hv : Vis sg a) (hd : (a == ("__debug__" : Str)) = false) (hcd : (a == ("__classdict__" : Str)) = false) :
    PE ((cxOf CXg X.prog X.w X.K X.mg X.base Ng qg sg g cdg X.A X.stack s H Eg).tr pn xe) (.Call (.Name a p1) [] [] p2)
      (fun τ G Q => τ[0]? = some (some (.ref f)) ∧ G c' = some (CodeO c' (lamQ X)) ∧ tb (WE W τ) σ G Q) := by
  refine ⟨fun pz sz τ G Q J ⟨at0, isC, ht⟩ => ?_⟩
  refine wpAny_Call_Name_kw (thn ((pe_var (pos := p1) (i := 0) hN hv hd hcd).run pz sz τ G (fun v G1 => v = .ref f ∧ G1 = G) J ⟨.ref f, at0, rfl, rfl⟩) ?_)
  intro u t ⟨v, G1, J1, rv, ev, eG⟩
  subst ev eG
  cases (show u = Value.ref f from rv)
  have still : t.heap.get? f = some (lamObj X params body scope pm c' ctv) := J1.base.keep f _ obj hid low fun z => absurd z List.not_mem_nil
  refine PySem.W.callWith_F0 ⟨_, _, _, _, still⟩ ?_
  obtain ⟨⟨oc, vs, tt, g1, g2, g3⟩, _, _⟩ := J1.hok c' _ isC
  have inner : codeAny (model X.prog X.w) (X.A.deeper (envOfC qg sg s.heap.objs.size g cdg)) (.call (.ref f) ⟨[], []⟩)
      (CR (L2.CX X.prog X.w) (envOfC qg sg s.heap.objs.size g cdg :: X.stack) X.prog X.w G1 t Q (WE W τ)) t := by
    refine PySem.W.kla_callFunE room.depth still rfl L.co L.gen rfl ⟨c', oc, vs, tt, rfl, g1, g2, g3⟩ ?_
    rw [bind]
    refine wpAny_pure (wpAny_newFunctionEnv (fun y hy => (L.own y hy).2) (fun y hy => absurd hy List.not_mem_nil) (fun hp hns hsb => ⟨J1.nolimit.fresh _ hsb, ?_⟩) L.kind)
    show codeAny _ _ (.expr body (lamEnv X scope t.heap.objs.size f c')) _ _
    have ext : ∀ b o, t.heap.get? b = some o → hp.get? b = some o := fun b o e => hsb.extBut b o (Nat.ne_of_lt (Heap.lt_size e)) (Heap.get?_push_of_some _ e)
    have un : Un (frs X.stack) [] H G1 s.heap t.heap := J1.base
    have M := lam_start2 (tk := t.toks) (E := WE W τ) (f := f) (c' := c') I L J1.env0 room.hd un hns ext
    refine PySem.W.kla_codeExpr (wpAny_mono ((hbody _ (envOfC qg sg s.heap.objs.size g cdg :: X.stack) t G1 (WE W τ) (.inr trivial) (room.deeper _) rfl).run [] _ _ G1 Q M ht) ?_ fun _ _ z => z)
    intro v s' ⟨w', H', J', rw', q⟩
    exact ⟨w', H', J'.os, J'.bare, J'.base, J'.hok, rw', q⟩
  refine wpAny_call (codeAny_mono inner fun r s' end1 => ?_)
  match r, end1 with
  | .ok (.ret u), end1 => exact J1.after end1
  | .ok .next, end1 => exact end1.elim
  | .ok .brk, end1 => exact end1.elim
  | .ok .cont, end1 => exact end1.elim
  | .error v, end1 => exact passAt tk τ pz G1 t v s' J1 end1
end
/-- the def x that gets the lambda as a; TT: what it makes of the lambda's reading -/
def Gadget (X : Cx) (Ng : List Str) (x : Str) (sg : Scope) (g : Addr) (cdg : Value) (bg : List Stmt) (a : Str) (q : Str) (k : Nat) (TT : (XK → Hp → VK → Prop) → Hp → VK → Prop) : Prop :=
  ∀ (f c' : Addr) (s : Shared) (H : Hp) (Q : VK) (tl : XK → Hp → VK → Prop), (∀ (W : WX) (pn : List (Addr × Obj)) (xe : Value → Shared → Prop) (p1 p2 : Pos), Takes ((cxOf CX0 X.prog X.w X.K X.mg X.base Ng x sg g cdg X.A X.stack s H E0).tr pn xe) W →
      PE ((cxOf CX0 X.prog X.w X.K X.mg X.base Ng x sg g cdg X.A X.stack s H E0).tr pn xe) (.Call (.Name a p1) [] [] p2) (fun τ G Q => τ[0]? = some (some (.ref f)) ∧ G c' = some (CodeO c' q) ∧ tl (WE W τ) G Q)) →
    H c' = some (CodeO c' q) → (X.A.deeper (envOfC x sg s.heap.objs.size g cdg)).guards = some [] → Room k (X.A.deeper (envOfC x sg s.heap.objs.size g cdg)) → TT tl H Q →
    ∃ t, PSs (cxOf CX0 X.prog X.w X.K X.mg X.base Ng x sg g cdg X.A X.stack s H E0).nox bg t ∧ t { nx := fun _ H' => Q .non H', rt := Q } (L2.start Ng [.ref f]) H
section
variable {X : Cx}
theorem lam_call {TT : (XK → Hp → VK → Prop) → Hp → VK → Prop} {x a : Str} {g c P : Addr} {k j : Nat} {pg params : Arguments} {bg : List Stmt} {sg scope : Scope} {dV kV doc pm cdv ct oc : Value} {an od : Option Addr} {osl : Array (Option Value)} {Ng : List Str} {body : Expr} {t : XK → TE} {p lpos pos : Pos}
    (hg : Gl X x) (hm : X.mg x = some (.ref g)) (hk : PySem.W.keepIn X.K (.ref g) = true) (lk : X.K.lookup g = some ⟨oc, od, .func (PySem.W.fnOf x x pg bg sg dV kV doc pm an cdv ct), osl⟩) (hcg : PySem.W.codeIn X.K cdv x = true)
    (hb : L2.Binds X.K (PySem.W.fnOf x x pg bg sg dV kV doc pm an cdv ct) [a] []) (Sg : FnScope Ng [a] sg) (hNg : Ng[0]? = some a) (hva : Vis sg a) (hgd : X.A.guards = some []) (hG : Gadget X Ng x sg g cdv bg a (lamQ X) j TT)
    (B : BTab X.base X.mg c P) (hcode : X.env.code = .ref c) (room : Room (k + 2) X.A) (room2 : Room (j + 1) X.A) (L : LamS X.env.scope scope) (hdef : defaultsOf params X.env = ([], []))
    (hbind : ∀ (q : Str) (cl : List (Str × Addr)) (pm cv ctv : Value), bindArgs (PySem.W.kla_fn "<lambda>" q params body scope cl pm cv ctv) ⟨[], []⟩ = pure [])
    (hbody : ∀ (A : Around) (outer : List Env) (s : Shared) (H : Hp) (E : XK) (f c' : Addr), Room k (A.deeper (lamEnv X scope s.heap.objs.size f c')) → A.guards = some [] → PE (lamCx X A outer s H E scope f c') body (t E))
    (hdb : (x == ("__debug__" : Str)) = false) (hd : (a == ("__debug__" : Str)) = false) (hcd : (a == ("__classdict__" : Str)) = false) :
    PE X (.Call (.Name x p) [.Lambda params body scope lpos] [] pos) (fun σ H Q => TabS H P (lamQ X) ∧ ∀ H1, Kept P H H1 → TabS H1 P (lamQ X) → TT (fun E H' Q' => t E σ H' Q') H1 Q) := by
  refine ⟨fun pins s σ H Q I ⟨tab, h⟩ => wpAny_Call_Name_kw (ld_glob I hg hm ?_ hdb)⟩
  refine PySem.W.callWith_K (h₀ := X.base) I.ok.mod.kin hk ?_ (by rfl) (by rfl)
  show wpAny _ _ (spliced ((false, eval (.Lambda params body scope lpos) X.env) :: backTo pos (starEach [] X.env))) _ _ s
  refine Calls.spliced_cons (lam_mk I B hcode tab hdef (L.has I.ok) fun f c' pm' ctv H1 s' I1 kp T1 obj hid low isC => ?_)
  refine Calls.spliced_nil ⟨I1.kIn, ?_⟩
  have run : codeAny (model X.prog X.w) X.A (.call (.ref g) ⟨[.ref f], []⟩) (CR CX0 X.stack X.prog X.w H1 s' Q E0) s' := by
    refine run_ofS (k := k + 1) (N := Ng) (ps := [a]) (us := [.ref f]) (vs := [.ref f]) lk hcg Sg room I1.env0 (hb s' [.ref f] I1.kIn rfl) (.cons rfl .nil) rfl fun r2 => ?_
    obtain ⟨u, hu, hq⟩ := hG f c' s' H1 Q (fun E H' Q' => t E σ H' Q') (fun W pn xe p1 p2 tk => act_call I1 L obj hid low (hbind _ _ _ _ _) tk r2 (fun A outer s H E _ r3 eg => hbody A outer s H E f c' r3 (eg.trans hgd)) hNg hva hd hcd) isC hgd (room2.deeper _) (h H1 kp T1)
    exact ⟨u, hu.nox, hq⟩
  refine wpAny_call (codeAny_mono run fun r s2 end1 => ?_)
  match r, end1 with
  | .ok (.ret u), end1 => exact I1.after end1
  | .ok .next, end1 => exact end1.elim
  | .ok .brk, end1 => exact end1.elim
  | .ok .cont, end1 => exact end1.elim
  | .error v, end1 => exact (show False from end1).elim
end

/-! ### over D -/
abbrev TLD := DK → XD → Mem → Prop
abbrev TTD := TLD → Mem → DK → Prop
def liftT (K : PySem.W.Frag) (T : TTD) : (XK → Hp → VK → Prop) → Hp → VK → Prop := fun tl H Q => ∃ F μ QD tlD, Lay K F μ H ∧ T tlD μ QD ∧ KOf K F QD Q ∧ ∀ QD' XQ μ' F' H' Q' E', Ex F F' → Lay K F' μ' H' → tlD QD' XQ μ' → KOf K F' QD' Q' → XOf K F' XQ E' → tl E' H' Q'
def dLam (T : TTD) (tb : WD → TD) : TD := fun δ μ Q => T (fun QD XQ μ' => tb (fun _ => XQ) δ μ' QD) μ Q
theorem Lay.lamT {K : PySem.W.Frag} {F : Hp} {μ : Mem} {H H1 : Hp} {P : Addr} {q : Str} (l : Lay K F μ H) (hP : (P, q) ∈ lamsK K) (one : ∀ p ∈ lamsK K, p.1 = P → p.2 = q) (ng : ∀ Z ∈ gensK K, Z ≠ P) (kp : Kept P H H1) (T1 : TabS H1 P q) : Lay K F μ H1 where
  fz := fun a o e => kp a o (fun z => by rw [z, (l.tb.tl _ hP).1] at e; cases e) (l.fz a o e)
  mu := fun a xs e => by
    obtain ⟨h1, vs, h2, h3⟩ := l.mu a xs e
    obtain ⟨_, ps, h4, _⟩ := l.tb.tl _ hP
    exact ⟨h1, vs, kp a _ (fun z => by rw [z, h4] at h2; cases h2) h2, h3⟩
  tb := by
    refine ⟨fun Z hZ => ?_, fun p hp => ?_⟩
    · obtain ⟨h1, ps, h2, h3⟩ := l.tb.tg Z hZ
      exact ⟨h1, ps, kp _ _ (ng Z hZ) h2, h3⟩
    · obtain ⟨h1, ps, h2, h3, h4⟩ := l.tb.tl p hp
      refine ⟨h1, ?_⟩
      by_cases hb : p.1 = P
      · rw [hb, one p hp hb]
        exact T1
      · refine ⟨ps, kp _ _ hb h2, h3, fun pos cv hc => ?_⟩
        obtain ⟨c0, e1, e2⟩ := h4 pos cv hc
        obtain ⟨_, qs, h5, _⟩ := l.tb.tl _ hP
        exact ⟨c0, e1, kp _ _ (fun z => by rw [z, h5] at e2; exact codeO_ne _ (Option.some.inj e2).symm) e2⟩
theorem Lay.code {K : PySem.W.Frag} {F : Hp} {μ : Mem} {H : Hp} {c : Addr} {q : Str} (l : Lay K F μ H) (h : H c = some (CodeO c q)) : Ex F (upd F c (CodeO c q)) ∧ Lay K (upd F c (CodeO c q)) μ H := by
  refine ⟨fun a o e => ?_, ⟨fun a o e => ?_, fun a xs e => ?_, ⟨fun Z hZ => ?_, fun p hp => ?_⟩⟩⟩
  · by_cases z : a = c
    · rw [z, upd_same]
      have := l.fz a o e
      rw [z, h] at this
      exact this
    · rw [upd_ne z]
      exact e
  · by_cases z : a = c
    · rw [z, upd_same] at e
      rw [z, ← e]
      exact h
    · rw [upd_ne z] at e
      exact l.fz a o e
  · obtain ⟨h1, vs, h2, h3⟩ := l.mu a xs e
    have z : a ≠ c := fun z => by
      rw [z, h] at h2
      have h2 := Option.some.inj h2
      unfold CodeO at h2
      cases h2
    exact ⟨by rw [upd_ne z]; exact h1, vs, h2, h3.mono (fun b o e => by
      by_cases z : b = c
      · rw [z, upd_same]
        have := l.fz b o e
        rw [z, h] at this
        exact this
      · rw [upd_ne z]
        exact e)⟩
  · obtain ⟨h1, ps, h2, h3⟩ := l.tb.tg Z hZ
    exact ⟨by rw [upd_ne (fun z => by rw [z, h] at h2; exact codeO_ne _ (Option.some.inj h2))]; exact h1, ps, h2, h3⟩
  · obtain ⟨h1, ps, h2, h3⟩ := l.tb.tl p hp
    exact ⟨by rw [upd_ne (fun z => by rw [z, h] at h2; exact codeO_ne _ (Option.some.inj h2))]; exact h1, ps, h2, h3⟩
def dAct (f : Addr) (tl : TLD) (WQ : WD) : TD := fun δ μ Q => δ[0]? = some (some (.ref f)) ∧ tl Q (WQ δ) μ
section
variable {X : Cx}
theorem gadget_of {Ng : List Str} {x a q : Str} {sg : Scope} {g : Addr} {cdg : Value} {bg : List Stmt} {k : Nat} {T : TTD} {tT : Addr → TLD → TDS} (hn : Ng.length ≠ 0)
    (hbody : ∀ (s : Shared) (H : Hp) (f : Addr) (F0 : Hp) (tl : TLD), (X.A.deeper (envOfC x sg s.heap.objs.size g cdg)).guards = some [] → Room k (X.A.deeper (envOfC x sg s.heap.objs.size g cdg)) →
      (∀ (W : WX) (pn : List (Addr × Obj)) (xe : Value → Shared → Prop) (F1 : Hp) (WQ : WD) (p1 p2 : Pos), Ex F0 F1 → Takes ((cxOf CX0 X.prog X.w X.K X.mg X.base Ng x sg g cdg X.A X.stack s H E0).nox.tr pn xe) W → WOf X.K F1 WQ W →
        DEX ((cxOf CX0 X.prog X.w X.K X.mg X.base Ng x sg g cdg X.A X.stack s H E0).nox.tr pn xe) F1 (.Call (.Name a p1) [] [] p2) (dAct f tl WQ)) →
      DSsX (cxOf CX0 X.prog X.w X.K X.mg X.base Ng x sg g cdg X.A X.stack s H E0).nox F0 bg (tT f tl))
    (math : ∀ (f : Addr) (tl : TLD) (μ : Mem) (Q : DK), T tl μ Q → tT f tl { nx := fun _ μ' => Q .non μ', rt := Q } (dStart Ng.length [.ref f]) μ) : Gadget X Ng x sg g cdg bg a q k (liftT X.K T) := by
  intro f c' s H Q tl act isC hgd room ⟨F, μ, QD, tlD, l, hT, kk, lift⟩
  obtain ⟨e0, l0⟩ := l.code isC
  refine ⟨_, hbody s H f (upd F c' (CodeO c' q)) tlD hgd room (fun W pn xe F1 WQ p1 p2 e1 tk hW => ?_), dStart Ng.length [.ref f], upd F c' (CodeO c' q), μ, _, Ex.refl _, l0, ?_, math f tlD μ QD hT, ?_⟩
  · refine PE.weak (act W pn xe p1 p2 tk) fun τ G Q' ⟨δ, F2, μ2, QD2, e2, l2, rs, ⟨h0, q⟩, k2⟩ => ?_
    obtain ⟨v, h1, r1⟩ := rs.get h0
    cases (rep_ref r1)
    have e3 := (e0.trans e1).trans e2
    exact ⟨h1, l2.fz _ _ ((e1.trans e2) _ _ upd_same), lift QD2 (WQ δ) μ2 F2 G Q' (WE W τ) e3 l2 q k2 fun C fs dd F' μ' H' e l' x q => hW C fs dd τ δ F' μ' H' (e2.trans e) l' (rs.mono e) x q⟩
  · unfold L2.start dStart
    have := repSt_start (K := X.K) (F := upd F c' (CodeO c' q)) (Ng.length - 1) (.cons (.ref f) .nil)
    exact this
  · exact ⟨fun σ1 δ F1 μ1 H1 e1 l1 r1 q1 => kk _ _ F1 μ1 H1 (e0.trans e1) l1 .non q1, kk.mono e0, fun _ _ _ _ _ _ _ _ z => z.elim, fun _ _ _ _ _ _ _ _ z => z.elim⟩
theorem de_lam {T : TTD} {tb : WD → TD} {x a : Str} {g c P : Addr} {k j : Nat} {pg params : Arguments} {bg : List Stmt} {sg scope : Scope} {dV kV doc pm cdv ct oc : Value} {an od : Option Addr} {osl : Array (Option Value)} {Ng : List Str} {body : Expr} {p lpos pos : Pos}
    (hm : X.mg x = some (.ref g)) (hk : PySem.W.keepIn X.K (.ref g) = true) (lk : X.K.lookup g = some ⟨oc, od, .func (PySem.W.fnOf x x pg bg sg dV kV doc pm an cdv ct), osl⟩) (hcg : PySem.W.codeIn X.K cdv x = true)
    (hb : L2.Binds X.K (PySem.W.fnOf x x pg bg sg dV kV doc pm an cdv ct) [a] []) (Sg : FnScope Ng [a] sg) (hNg : Ng[0]? = some a) (hva : Vis sg a) (hgd : X.A.guards = some []) (hG : Gadget X Ng x sg g cdv bg a (lamQ X) j (liftT X.K T))
    (B : BTab X.base X.mg c P) (hcode : X.env.code = .ref c) (hP : (P, lamQ X) ∈ lamsK X.K) (one : ∀ p ∈ lamsK X.K, p.1 = P → p.2 = lamQ X) (ng : ∀ Z ∈ gensK X.K, Z ≠ P) (room : Room (k + 2) X.A) (room2 : Room (j + 1) X.A) (L : LamS X.env.scope scope)
    (hbody : ∀ (A : Around) (outer : List Env) (s : Shared) (H : Hp) (E : XK) (f c' : Addr) (F0 : Hp) (WQ : WD), Room k (A.deeper (lamEnv X scope s.heap.objs.size f c')) → A.guards = some [] → Takes (lamCx X A outer s H E scope f c') (fun cls d _ H => E cls d H) → WOf X.K F0 WQ (fun cls d _ H => E cls d H) →
      DEX (lamCx X A outer s H E scope f c') F0 body (tb WQ))
    (hbind : ∀ (q : Str) (cl : List (Str × Addr)) (pm cv ctv : Value), bindArgs (PySem.W.kla_fn "<lambda>" q params body scope cl pm cv ctv) ⟨[], []⟩ = pure [] := by intros; rfl) (hdef : defaultsOf params X.env = ([], []) := by rfl)
    (hg : Gl X x := by rfl) (hdb : (x == ("__debug__" : Str)) = false := by decide) (hd : (a == ("__debug__" : Str)) = false := by decide) (hcd : (a == ("__classdict__" : Str)) = false := by decide) :
    DE X (.Call (.Name x p) [.Lambda params body scope lpos] [] pos) (dLam T tb) := by
  refine PE.weak (lam_call (t := fun E σ H Q => ∃ F0 WQ, WOf X.K F0 WQ (fun cls d _ H => E cls d H) ∧ eOfX X.K F0 (tb WQ) σ H Q) hg hm hk lk hcg hb Sg hNg hva hgd hG B hcode room room2 L hdef hbind (fun A outer s H E f c' r eg => ?_) hdb hd hcd) fun σ H Q ⟨δ, F, μ, QD, l, rs, q, kk⟩ => ?_
  · exact ⟨fun pins s' σ' H' Q' I ⟨F0, WQ, hW, h⟩ => (hbody A outer s H E f c' F0 WQ r eg (takes_of rfl rfl rfl rfl) hW).run pins s' σ' H' Q' I h⟩
  · refine ⟨(l.tb.tl _ hP).2, fun H1 kp T1 => ⟨F, μ, QD, _, l.lamT hP one ng kp T1, q, kk, fun QD' XQ μ' F' H' Q' E' e l' q' k' x' => ?_⟩⟩
    exact ⟨F', fun _ => XQ, fun C fs dd σ2 δ2 F2 μ2 H2 e2 l2 r2 x2 q2 => x' C fs dd F2 μ2 H2 e2 l2 x2 q2, δ, F', μ', QD', Ex.refl F', l', rs.mono e, q', k'⟩
end

section
variable {X : Cx}
/-- x(lambda: body), x a def of the text -/
theorem de_lamF {T : TTD} {tb : WD → TD} {x a : Str} {g c P : Addr} {k j : Nat} {params : Arguments} {st : Stmt} {fd : FuncData} {scope : Scope} {Ng : List Str} {body : Expr} {p lpos pos : Pos}
    (Fg : Fun X.K x x st g fd) (hm : X.mg x = some (.ref g)) (hb : L2.Binds X.K fd [a] []) (Sg : FnScope Ng [a] (defScope st)) (hNg : Ng[0]? = some a) (hva : Vis (defScope st) a) (hgd : X.A.guards = some []) (hG : ∀ cdv, Gadget X Ng x (defScope st) g cdv (defBody st) a (lamQ X) j (liftT X.K T))
    (B : BTab X.base X.mg c P) (hcode : X.env.code = .ref c) (hP : (P, lamQ X) ∈ lamsK X.K) (one : ∀ p ∈ lamsK X.K, p.1 = P → p.2 = lamQ X) (ng : ∀ Z ∈ gensK X.K, Z ≠ P) (room : Room (k + 2) X.A) (room2 : Room (j + 1) X.A) (L : LamS X.env.scope scope)
    (hbody : ∀ (A : Around) (outer : List Env) (s : Shared) (H : Hp) (E : XK) (f c' : Addr) (F0 : Hp) (WQ : WD), Room k (A.deeper (lamEnv X scope s.heap.objs.size f c')) → A.guards = some [] → Takes (lamCx X A outer s H E scope f c') (fun cls d _ H => E cls d H) → WOf X.K F0 WQ (fun cls d _ H => E cls d H) →
      DEX (lamCx X A outer s H E scope f c') F0 body (tb WQ))
    (hbind : ∀ (q : Str) (cl : List (Str × Addr)) (pm cv ctv : Value), bindArgs (PySem.W.kla_fn "<lambda>" q params body scope cl pm cv ctv) ⟨[], []⟩ = pure [] := by intros; rfl) (hdef : defaultsOf params X.env = ([], []) := by rfl)
    (hg : Gl X x := by rfl) (hdb : (x == ("__debug__" : Str)) = false := by decide) (hd : (a == ("__debug__" : Str)) = false := by decide) (hcd : (a == ("__classdict__" : Str)) = false := by decide) :
    DE X (.Call (.Name x p) [.Lambda params body scope lpos] [] pos) (dLam T tb) := by
  obtain ⟨w1, w2, v1, v2, v3, a1, cdv, ct, osl, rfl, found, hcd2⟩ := Fg.ex
  exact de_lam hm Fg.kp found hcd2 hb Sg hNg hva hgd (hG cdv) B hcode hP one ng room room2 L hbody hbind hdef hg hdb hd hcd
end
end DL
-- DP
set_option maxRecDepth 100000
set_option maxHeartbeats 2000000
/-! calls by keywords alone; a comprehension that reads changing lists; ints in a list of ints -/
namespace DL
open PySem PySem.Spec PyProof.Rows L2
def pickL {α : Type} (is : List Nat) (xs : List α) : List α := is.filterMap fun i => xs[i]?
theorem vals_at : ∀ {vs : List V} {us : List Value} (i : Nat), Vals vs us → (vs[i]? = none ∧ us[i]? = none) ∨ ∃ v u, vs[i]? = some v ∧ us[i]? = some u ∧ RelV v u
  | _, _, _, .nil => .inl ⟨rfl, rfl⟩
  | _, _, 0, .cons r _ => .inr ⟨_, _, rfl, rfl, r⟩
  | _, _, i + 1, .cons _ t => by
    rcases vals_at i t with ⟨h1, h2⟩ | ⟨v, u, h1, h2, r⟩
    · exact .inl ⟨by simpa using h1, by simpa using h2⟩
    · exact .inr ⟨v, u, by simpa using h1, by simpa using h2, r⟩
theorem vals_pick {vs : List V} {us : List Value} (r : Vals vs us) : ∀ is : List Nat, Vals (pickL is vs) (pickL is us)
  | [] => .nil
  | i :: is => by
    have ih := vals_pick r is
    unfold pickL at ih ⊢
    rw [List.filterMap_cons, List.filterMap_cons]
    rcases vals_at i r with ⟨h1, h2⟩ | ⟨v, u, h1, h2, r'⟩
    · rw [h1, h2]; exact ih
    · rw [h1, h2]; exact .cons r' ih
section
variable {K : PySem.W.Frag} {F : Hp}
theorem reps_at : ∀ {vs : List V} {ds : List D} (i : Nat), Reps K F vs ds → (vs[i]? = none ∧ ds[i]? = none) ∨ ∃ v d, vs[i]? = some v ∧ ds[i]? = some d ∧ Rep K F v d
  | _, _, _, .nil => .inl ⟨rfl, rfl⟩
  | _, _, 0, .cons r _ => .inr ⟨_, _, rfl, rfl, r⟩
  | _, _, i + 1, .cons _ t => by
    rcases reps_at i t with ⟨h1, h2⟩ | ⟨v, u, h1, h2, r⟩
    · exact .inl ⟨by simpa using h1, by simpa using h2⟩
    · exact .inr ⟨v, u, by simpa using h1, by simpa using h2, r⟩
theorem reps_pick {vs : List V} {ds : List D} (r : Reps K F vs ds) : ∀ is : List Nat, Reps K F (pickL is vs) (pickL is ds)
  | [] => .nil
  | i :: is => by
    have ih := reps_pick r is
    unfold pickL at ih ⊢
    rw [List.filterMap_cons, List.filterMap_cons]
    rcases reps_at i r with ⟨h1, h2⟩ | ⟨v, u, h1, h2, r'⟩
    · rw [h1, h2]; exact ih
    · rw [h1, h2]; exact .cons r' ih
end
section
variable {X : Cx} {e : Expr} {te : TD} {tk : TDA} {kws : List Keyword} {nm : Option Str} {kpos : Pos}
theorem dk_nil : PK X [] (aOf X.K dNil) := by
  refine ⟨fun pos pins s σ H Q I ⟨δ, F, μ, QD, l, rs, q, k⟩ => ?_⟩
  exact pk_nil.run pos pins s σ H Q I (k [] [] F μ H (Ex.refl F) l .nil q)
theorem dk_cons (ha : DE X e te) (hr : PK X kws (aOf X.K tk)) : PK X (⟨nm, e, kpos⟩ :: kws) (aOf X.K (dCons te tk)) := by
  refine ⟨fun pos pins s σ H Q I ⟨δ, F, μ, QD, l, rs, q, k⟩ => ?_⟩
  refine (pk_cons (nm := nm) (kpos := kpos) ha hr).run pos pins s σ H Q I ?_
  exact ⟨δ, F, μ, _, l, rs, q, fun x dx F1 μ1 H1 e1 l1 r1 q1 => ⟨δ, F1, μ1, _, l1, rs.mono e1, q1, fun xs ds F2 μ2 H2 e2 l2 r2 q2 => k (x :: xs) (dx :: ds) F2 μ2 H2 (e1.trans e2) l2 (.cons (r1.mono e2) r2) q2⟩⟩
end
def dCallW (spd : SpD) (is : List Nat) (tk : TDA) : TD := fun δ μ Q => tk δ μ fun zs μ1 => spd (pickL is zs) μ1 Q
def dCallWX (spx : SpX) (WQ : WD) (is : List Nat) (tk : TDA) : TD := fun δ μ Q => tk δ μ fun zs μ1 => spx (pickL is zs) μ1 Q (WQ δ)
section
variable {X : Cx} {F0 : Hp} {W : WX} {WQ : WD} {k m : Nat} {ps ks : List Str} {spd : SpD} {spx : SpX} {x : Str} {st : Stmt} {p pos : Pos} {kws : List Keyword} {tk : TDA}
/-- f(k = v, ..) -/
theorem de_callW (hgd : X.A.guards = some []) (Dk : DefOk X.prog X.w X.K X.mg X.base k x st ps spd) (room : Room k X.A) (is : List Nat)
    (hb : ∀ (qual : Str) (v1 v2 v3 v4 v5 : Value) (an : Option Addr) (ws : List Value), ws.length = m → bindArgs (PySem.W.fnOf x qual (defArgs st) (defBody st) (defScope st) .none v1 v2 v3 an v4 v5) ⟨[], ks.zip ws⟩ = pure (ps.zip (pickL is ws)))
    (hkw : PK X kws (aOf X.K tk)) (hmk : ∀ δ μ Q, tk δ μ Q → tk δ μ fun ds μ' => ds.length = m ∧ Q ds μ') (hall : (backToKw pos (keywordEach kws X.env)).all (·.1.isSome) = true := by rfl) (hks : (backToKw pos (keywordEach kws X.env)).filterMap (·.1) = ks := by rfl)
    (hpl : ((backTo pos (starEach [] X.env)).any (·.1) || (backToKw pos (keywordEach kws X.env)).any (·.1.isNone)) = false := by rfl) (hg : Gl X x := by rfl) (hdb : (x == ("__debug__" : Str)) = false := by decide) : DE X (.Call (.Name x p) [] kws pos) (dCallW spd is tk) := by
  obtain ⟨f, fd, h1, h2, h3, ⟨qual, v1, v2, v3, v4, v5, an, rfl⟩, G⟩ := Dk.ex
  refine ⟨fun pins s σ H Q I ⟨δ, F, μ, QD, l, rs, q, kk⟩ => wpAny_Call_Name_kw (ld_glob I hg h1 ?_ hdb)⟩
  refine PySem.W.callWith_KW0 (h₀ := X.base) I.ok.mod.kin h2 hall (thn (hkw.run pos pins s σ H (fun vs H1 => ∃ ds F1 μ1, Ex F F1 ∧ Lay X.K F1 μ1 H1 ∧ Reps X.K F1 vs ds ∧ ds.length = m ∧ spd (pickL is ds) μ1 QD) I ⟨δ, F, μ, _, l, rs, hmk _ _ _ q, fun vs ds F1 μ1 H1 e1 l1 r1 ⟨z1, q1⟩ => ⟨ds, F1, μ1, e1, l1, r1, z1, q1⟩⟩) ?_) hpl
  intro ws s1 ⟨vs, H1, I1, r1, ds, F1, μ1, e1, l1, rd, z1, q1⟩
  have lw : ws.length = m := by rw [← r1.length, rd.length, z1]
  rw [hks]
  refine ⟨I1.kIn, wpAny_call (codeAny_mono (does_call (us := pickL is ws) (zs := pickL is vs) (args := ⟨[], ks.zip ws⟩) hgd G room (fun _ => .of_eq (hb qual v1 v2 v3 v4 v5 an ws lw)) pass0 I1 (vals_pick r1 is) ⟨pickL is ds, F1, μ1, QD, l1, reps_pick rd is, q1, kk.mono e1⟩) fun r s2 end1 => ?_)⟩
  match r, end1 with
  | .error v, end1 => exact end1
  | .ok (.ret u), end1 => exact end1
  | .ok .next, end1 => exact end1.elim
  | .ok .brk, end1 => exact end1.elim
  | .ok .cont, end1 => exact end1.elim
theorem dex_callW (hgd : X.A.guards = some []) (tk1 : Takes X W) (hW : WOf X.K F0 WQ W) (Dk : DefOkX X.prog X.w X.K X.mg X.base k x st ps spx) (room : Room k X.A) (is : List Nat)
    (hb : ∀ (qual : Str) (v1 v2 v3 v4 v5 : Value) (an : Option Addr) (ws : List Value), ws.length = m → bindArgs (PySem.W.fnOf x qual (defArgs st) (defBody st) (defScope st) .none v1 v2 v3 an v4 v5) ⟨[], ks.zip ws⟩ = pure (ps.zip (pickL is ws)))
    (hkw : PK X kws (aOf X.K tk)) (hmk : ∀ δ μ Q, tk δ μ Q → tk δ μ fun ds μ' => ds.length = m ∧ Q ds μ') (hall : (backToKw pos (keywordEach kws X.env)).all (·.1.isSome) = true := by rfl) (hks : (backToKw pos (keywordEach kws X.env)).filterMap (·.1) = ks := by rfl)
    (hpl : ((backTo pos (starEach [] X.env)).any (·.1) || (backToKw pos (keywordEach kws X.env)).any (·.1.isNone)) = false := by rfl) (hg : Gl X x := by rfl) (hdb : (x == ("__debug__" : Str)) = false := by decide) : DEX X F0 (.Call (.Name x p) [] kws pos) (dCallWX spx WQ is tk) := by
  obtain ⟨f, fd, h1, h2, h3, ⟨qual, v1, v2, v3, v4, v5, an, rfl⟩, G⟩ := Dk.ex
  refine ⟨fun pins s σ H Q I ⟨δ, F, μ, QD, e0, l, rs, q, kk⟩ => wpAny_Call_Name_kw (ld_glob I hg h1 ?_ hdb)⟩
  refine PySem.W.callWith_KW0 (h₀ := X.base) I.ok.mod.kin h2 hall (thn (hkw.run pos pins s σ H (fun vs H1 => ∃ ds F1 μ1, Ex F F1 ∧ Lay X.K F1 μ1 H1 ∧ Reps X.K F1 vs ds ∧ ds.length = m ∧ spx (pickL is ds) μ1 QD (WQ δ)) I ⟨δ, F, μ, _, l, rs, hmk _ _ _ q, fun vs ds F1 μ1 H1 e1 l1 r1 ⟨z1, q1⟩ => ⟨ds, F1, μ1, e1, l1, r1, z1, q1⟩⟩) ?_) hpl
  intro ws s1 ⟨vs, H1, I1, r1, ds, F1, μ1, e1, l1, rd, z1, q1⟩
  have lw : ws.length = m := by rw [← r1.length, rd.length, z1]
  rw [hks]
  refine ⟨I1.kIn, wpAny_call (codeAny_mono (G.does X.A X.stack s1 H1 ⟨[], ks.zip ws⟩ (pickL is ws) (pickL is vs) Q (WE W σ) hgd room I1.env0 (.of_eq (hb qual v1 v2 v3 v4 v5 an ws lw)) (vals_pick r1 is) ⟨pickL is ds, F1, μ1, QD, WQ δ, l1, reps_pick rd is, q1, kk.mono e1, fun C fs dd F' μ' H' e' l' x q => hW C fs dd σ δ F' μ' H' ((e0.trans e1).trans e') l' ((rs.mono e1).mono e') x q⟩) fun r s2 end1 => ?_)⟩
  match r, end1 with
  | .error v, end1 => exact passAt tk1 σ pins H1 s1 v s2 I1 end1
  | .ok (.ret u), end1 => exact I1.after end1
  | .ok .next, end1 => exact end1.elim
  | .ok .brk, end1 => exact end1.elim
  | .ok .cont, end1 => exact end1.elim
end
/-- a comprehension that reads changing lists: the new list beside them -/
theorem lcD_pureM {g : Tg} {tt : TDT} {te : TD} {δ : DSt} {Q : DK} {μ : Mem} {Dn : Addr} (f : D → Option D) : ∀ (ds : List D) (acc : List D), acc.length + ds.length ≤ 1000000 → μ Dn = none →
    (∀ d ∈ ds, ∀ acc k, k (f d) (mset μ Dn acc) → lcStep g tt te δ d (mset μ Dn acc) k) → Q (.lst (acc ++ ds.filterMap f)) μ → lcD g tt te δ Dn ds (mset μ Dn acc) Q
  | [], acc, _, hn, _, q => ⟨acc, mset_same, by rw [mdel_mset hn]; rw [List.filterMap_nil, List.append_nil] at q; exact q⟩
  | d :: ds, acc, hz, hn, st, q => by
    refine st d List.mem_cons_self _ _ ⟨acc, mset_same, by rw [List.length_cons] at hz; omega, ?_⟩
    rw [List.filterMap_cons] at q
    cases e : f d with
    | none =>
      rw [e] at q
      exact lcD_pureM f ds acc (by rw [List.length_cons] at hz; omega) hn (fun d' hd => st d' (List.mem_cons_of_mem _ hd)) q
    | some y =>
      rw [e] at q
      show lcD g tt te δ Dn ds (mset (mset μ Dn acc) Dn (acc ++ [y])) Q
      rw [mset_mset]
      exact lcD_pureM f ds (acc ++ [y]) (by rw [List.length_append, List.length_cons] at *; simp; omega) hn (fun d' hd => st d' (List.mem_cons_of_mem _ hd)) (by rw [List.append_assoc]; exact q)
theorem lc_pureM {g : Tg} {tt : TDT} {te : TD} {δ : DSt} {Q : DK} {ds : List D} {μ : Mem} (f : D → Option D) (hz : ds.length ≤ 1000000) (st : ∀ Dn, μ Dn = none → ∀ d ∈ ds, ∀ acc k, k (f d) (mset μ Dn acc) → lcStep g tt te δ d (mset μ Dn acc) k) (q : Q (.lst (ds.filterMap f)) μ) :
    ∀ Dn, μ Dn = none → lcD g tt te δ Dn ds (mset μ Dn []) Q := fun Dn hn => lcD_pureM f ds [] (by rw [List.length_nil]; omega) hn (st Dn hn) (by rw [List.nil_append]; exact q)
theorem toVs_ints : ∀ ns : List Int, toVs (ns.map D.int) = some (ns.map V.int)
  | [] => rfl
  | n :: ns => by
    show (match toV (.int n), toVs (ns.map D.int) with | some p, some ps => some (p :: ps) | _, _ => none) = _
    rw [toVs_ints ns]
    rfl
theorem inV_ints (i : Int) : ∀ ns : List Int, inV (.int i) (ns.map V.int) = decide (i ∈ ns)
  | [] => by simp [inV]
  | n :: ns => by
    show ((n == i) || inV (.int i) (ns.map V.int)) = _
    rw [inV_ints i ns]
    by_cases h : n = i
    · subst h; simp
    · have h2 : ¬ i = n := fun z => h z.symm
      simp [h, h2]
/-- an int in a list of ints -/
theorem x_inI {μ : Mem} {Q : DK} {d : D} {i : Int} {ns : List Int} {neg : Bool} (h : asS μ d = some (ns.map D.int)) (k : Q (.bl (if neg then !decide (i ∈ ns) else decide (i ∈ ns))) μ) : dIn neg (.int i) d μ Q := by
  refine ⟨.int i, ns.map D.int, ns.map V.int, rfl, h, toVs_ints ns, rfl, ?_, ?_⟩
  · rw [List.all_map]
    exact List.all_eq_true.mpr fun b _ => rfl
  · rw [inV_ints]
    exact k

abbrev lamQn (x : Str) (st : Stmt) : Str := (envOfC x default 0 0 .none).qual ++ "<lambda>"
/-- all changing lists but that at a stay -/
def Oth (a : Addr) (μ μ' : Mem) : Prop := ∀ b xs, b ≠ a → μ b = some xs → μ' b = some xs
theorem Oth.refl (a : Addr) (μ : Mem) : Oth a μ μ := fun _ _ _ h => h
theorem Oth.trans {a : Addr} {μ μ1 μ2 : Mem} (h : Oth a μ μ1) (k : Oth a μ1 μ2) : Oth a μ μ2 := fun b xs n e => k b xs n (h b xs n e)
theorem Oth.at {a : Addr} {μ μ' : Mem} {xs : List D} (h : Oth a μ μ') : Oth a μ (mset μ' a xs) := fun b ys n e => by rw [mset_ne n]; exact h b ys n e
theorem Oth.new {a p : Addr} {μ μ' : Mem} {xs : List D} (h : Oth a μ μ') (n : μ p = none) : Oth a μ (mset μ' p xs) := fun b ys nb e => by
  rw [mset_ne (fun z => by rw [z, n] at e; cases e)]
  exact h b ys nb e

/-! ### steps -/
section
variable {E : DEnds} {δ : DSt} {μ : Mem} {Q : DK} {WQ : WD} {C : Addr} {f : Str} {te : TD} {tr : TDA}
theorem x_raise (k : te δ μ fun d μ1 => WQ δ C (some (f, d)) μ1) : dRaise WQ C f te E δ μ := k
theorem x_raise0 (k : WQ δ C none μ) : dRaise0 WQ C E δ μ := k
theorem x_callX {spx : SpX} (k : tr δ μ fun ds μ1 => spx ds μ1 Q (WQ δ)) : dCallX spx WQ tr δ μ Q := k
theorem x_callW {spd : SpD} {is : List Nat} (k : tr δ μ fun zs μ1 => spd (pickL is zs) μ1 Q) : dCallW spd is tr δ μ Q := k
theorem x_callWX {spx : SpX} {is : List Nat} (k : tr δ μ fun zs μ1 => spx (pickL is zs) μ1 Q (WQ δ)) : dCallWX spx WQ is tr δ μ Q := k
theorem x_lam {T : TTD} {tb : WD → TD} (k : T (fun QD XQ μ' => tb (fun _ => XQ) δ μ' QD) μ Q) : dLam T tb δ μ Q := k
theorem x_act {a : Addr} {tl : TLD} (h : δ[0]? = some (some (.ref a))) (k : tl Q (WQ δ) μ) : dAct a tl WQ δ μ Q := ⟨h, k⟩
theorem x_try {K : PySem.W.Frag} {CS : Addr} {i : Nat} {tB : WD → TDS} {tS : Addr → Value → Option Addr → TDS} (k : tB (dCatch K CS i tS E) E δ μ) : dTry K CS i tB tS E δ μ := k
theorem x_xattr {K : PySem.W.Frag} {a : Addr} {cls : Value} {dd : Option Addr} (k : te δ μ fun x μ1 => ∃ C dx d, x = .xcp a C dx f d ∧ cls = .ref C ∧ dd = some dx ∧ ExcC K C ∧ PySem.W.findIn K (.ref C) f = some none ∧ Q d μ1) : dXAttr K a cls dd f te δ μ Q := k
end
end DL
-- DF
set_option maxRecDepth 100000
/-! what the top has written, read as plain Bool functions of the written part; addresses by names -/
namespace DL
open PySem PySem.Spec PyProof.Rows L2
def eqB (a b : Option Bool) : Bool := decide (a = b)
def eqV (a b : Option Value) : Bool := decide (a = b)
theorem eqB_ok {a b : Option Bool} (h : eqB a b = true) : a = b := of_decide_eq_true h
theorem eqV_ok {a b : Option Value} (h : eqV a b = true) : a = b := of_decide_eq_true h
/-- the class object of an own exception over ValueError -/
def xIn (K : PySem.W.Frag) (C : Addr) : Bool := match K.lookup C with
  | some ⟨.type "type", _, .cls cd, sl⟩ => (match cd.mro, sl.toList with
    | .ref C' :: bm, [_, _, _, _, some (.builtin n), _] => C' == C && n == "ValueError.__new__" && !cd.hasDel && cd.hasDict && PySem.HandSPX.refsVE bm
    | _, _ => false)
  | _ => false
theorem xIn_ok {K : PySem.W.Frag} {C : Addr} (q : xIn K C = true) : ∃ nm q N bs bm sn sub ab col dd k0 k1 k2 k3 k5, K.lookup C = some (excClassObj nm q C N bs bm true sn sub ab col dd k0 k1 k2 k3 k5 "ValueError.__new__") ∧ PySem.HandSPX.refsVE bm = true := by
  unfold xIn at q
  split at q
  · rename_i dd cd sl ho
    split at q
    · rename_i C' bm k0 k1 k2 k3 n k5 hm hs
      simp only [Bool.and_eq_true, beq_iff_eq, Bool.not_eq_true'] at q
      obtain ⟨⟨⟨⟨rfl, rfl⟩, hdel⟩, hdt⟩, ht⟩ := q
      obtain ⟨nm, bs, mro, ns, qn, hd, sn, sub, ab, col, del⟩ := cd
      dsimp only at hm hdel hdt
      subst hm hdel hdt
      have hsl : sl = #[k0, k1, k2, k3, some (.builtin "ValueError.__new__"), k5] := by
        obtain ⟨l⟩ := sl
        simp only at hs
        rw [hs]
      subst hsl
      exact ⟨nm, qn, ns, bs, bm, sn, sub, ab, col, dd, k0, k1, k2, k3, k5, ho, ht⟩
    · cases q
  · cases q
def excB (K : PySem.W.Frag) (C : Addr) : Bool := He.eqO (PySem.W.findIn K (.ref C) "__getattribute__") (some (some (.builtin "BaseException.__getattribute__"))) && (He.eqO (PySem.W.findIn K (.ref C) "__getattr__") (some none) && (eqB (PySem.W.subIn K (.ref C) (.type "BaseException")) (some true) && (PySem.W.hasDictIn K C && (He.eqO (PySem.W.findIn K (.ref C) "__class__") (some (some (.builtin "object.__class__"))) &&
  (He.eqO (PySem.W.specialIn K (.builtin "object.__class__") "__get__") (some (some (.builtin "getset_descriptor.__get__"))) && (eqB (PySem.W.takesIn K (.builtin "object.__class__")) (some true) && eqB (PySem.W.mroIn K C (.type "object")) (some true)))))))
theorem excB_ok {K : PySem.W.Frag} {C : Addr} (c : excB K C = true) : ExcC K C := by
  obtain ⟨c1, c⟩ := He.ba c
  obtain ⟨c2, c⟩ := He.ba c
  obtain ⟨c3, c⟩ := He.ba c
  obtain ⟨c4, c⟩ := He.ba c
  obtain ⟨c5, c⟩ := He.ba c
  obtain ⟨c6, c⟩ := He.ba c
  obtain ⟨c7, c8⟩ := He.ba c
  exact ⟨He.eqO_ok c1, He.eqO_ok c2, eqB_ok c3, c4, He.eqO_ok c5, He.eqO_ok c6, eqB_ok c7, eqB_ok c8⟩
def oexB (K : PySem.W.Frag) (C : Addr) : Bool := xIn K C && (He.eqO (PySem.W.findIn K (.ref C) "__setattr__") (some (some (.builtin "object.__setattr__"))) && (eqB (PySem.W.subIn K (.ref C) (.type "BaseException")) (some true) && (eqV (PySem.W.typeIn K (.ref C)) (some (.type "type")) && PySem.W.keepIn K (.ref C))))
theorem oexB_ok {K : PySem.W.Frag} {C : Addr} (c : oexB K C = true) : OexC K C := by
  obtain ⟨c1, c⟩ := He.ba c
  obtain ⟨c2, c⟩ := He.ba c
  obtain ⟨c3, c⟩ := He.ba c
  obtain ⟨c4, c5⟩ := He.ba c
  exact ⟨xIn_ok c1, He.eqO_ok c2, eqB_ok c3, eqV_ok c4, c5⟩
def gloB (K : PySem.W.Frag) (x : Str) : Bool := He.eqO (PySem.W.nsIn K mainGlobals x) (some (some (.ref (He.ga K x))))
def freeB (K : PySem.W.Frag) (x : Str) : Bool := He.eqO (PySem.W.nsIn K mainGlobals x) (some none)
section
variable {K : PySem.W.Frag} {h : Heap} {mg : Str → Option Value}
theorem glo_ok (X : K.In h) (G : h.Ns mainGlobals mg) {x : Str} (c : gloB K x = true) : mg x = some (.ref (He.ga K x)) := PySem.W.mg_of X G (He.eqO_ok c)
theorem free_ok (X : K.In h) (G : h.Ns mainGlobals mg) {x : Str} (c : freeB K x = true) : mg x = none := PySem.W.mg_none_of X G (He.eqO_ok c)
end
/-- a class with one field -/
def eclB (K : PySem.W.Frag) (x f : Str) : Bool := gloB K x && (oexB K (He.ga K x) && (He.eqO (PySem.W.findIn K (.ref (He.ga K x)) "__init__") (some (some (.ref (He.ma K (He.ga K x) "__init__")))) && (eqV (PySem.W.typeIn K (.ref (He.ma K (He.ga K x) "__init__"))) (some (.type "function")) &&
  (He.eqO (PySem.W.findIn K (.ref (He.ga K x)) f) (some none) && excB K (He.ga K x)))))
theorem eclB_ok {K : PySem.W.Frag} {h : Heap} {mg : Str → Option Value} (X : K.In h) (G : h.Ns mainGlobals mg) {x f : Str} (c : eclB K x f = true) : Ecl K mg x (He.ga K x) (He.ma K (He.ga K x) "__init__") f := by
  obtain ⟨c1, c⟩ := He.ba c
  obtain ⟨c2, c⟩ := He.ba c
  obtain ⟨c3, c⟩ := He.ba c
  obtain ⟨c4, c⟩ := He.ba c
  obtain ⟨c5, c6⟩ := He.ba c
  exact ⟨glo_ok X G c1, oexB_ok c2, He.eqO_ok c3, eqV_ok c4, He.eqO_ok c5, excB_ok c6⟩
/-- a bare class -/
def bclB (K : PySem.W.Frag) (x : Str) : Bool := gloB K x && (PySem.W.excIn K (He.ga K x) He.veBase "ValueError.__new__" && (PySem.W.keepIn K (.ref (He.ga K x)) && excB K (He.ga K x)))
theorem bclB_ok {K : PySem.W.Frag} {h : Heap} {mg : Str → Option Value} (X : K.In h) (G : h.Ns mainGlobals mg) {x : Str} (c : bclB K x = true) : Bcl K mg x (He.ga K x) := by
  obtain ⟨c1, c⟩ := He.ba c
  obtain ⟨c2, c⟩ := He.ba c
  obtain ⟨c3, c4⟩ := He.ba c
  exact ⟨glo_ok X G c1, c2, c3, excB_ok c4⟩
/-- a def: a global's, a class's method -/
def fnB (K : PySem.W.Frag) (p : Str × Option Str) (q : Str) : Bool := (He.Fa.code p q).ok K && PySem.W.keepIn K (.ref (He.fAd K p))
abbrev fnV (x q : Str) (st : Stmt) : He.FnV := some (x, q, defArgs st, .stmts (defBody st), defScope st, mainGlobals, [], .none, builtinsNs)
theorem fn_of {K : PySem.W.Frag} {p : Str × Option Str} {x q : Str} {st : Stmt} (e : He.fnObs K p = fnV x q st) (c : fnB K p q = true) :
    ∃ kV doc pm an cdv ct, Fun K x q st (He.fAd K p) (PySem.W.fnOf x q (defArgs st) (defBody st) (defScope st) .none kV doc pm an cdv ct) := by
  obtain ⟨c1, c2⟩ := He.ba c
  obtain ⟨oc, od, osl, kV, doc, pm, an, cdv, ct, l, cc⟩ := He.fn_ok (d := ⟨p, x, q, defArgs st, defBody st, defScope st⟩) e c1
  exact ⟨kV, doc, pm, an, cdv, ct, fun_mk l cc c2⟩

/-! tables of code objects; globals' ints, tuples, built-ins -/
def genTabB (K : PySem.W.Frag) (x : Str) : Bool := match PySem.W.tabIn K x with
  | some (c, P) => decide (codeOf K (He.fAd K (x, none)) = some c) && ((lamsK K).all (fun p => decide (p.1 ≠ P)) && decide (x ∈ genNames))
  | none => false
theorem genTab_ok {K : PySem.W.Frag} {x : Str} (h : genTabB K x = true) : ∃ c P, (c, P) ∈ tabsOf K ∧ codeOf K (He.fAd K (x, none)) = some c ∧ P ∈ gensK K ∧ ∀ p ∈ lamsK K, p.1 ≠ P := by
  unfold genTabB at h
  split at h
  · rename_i c P e
    obtain ⟨h1, h⟩ := He.ba h
    obtain ⟨h2, h3⟩ := He.ba h
    have hx := of_decide_eq_true h3
    exact ⟨c, P, List.mem_filterMap.mpr ⟨x, List.mem_append_left _ hx, e⟩, of_decide_eq_true h1, List.mem_filterMap.mpr ⟨x, hx, by rw [e]; rfl⟩, fun p hp => of_decide_eq_true (List.all_eq_true.mp h2 p hp)⟩
  · cases h
def lamTabB (K : PySem.W.Frag) (x : Str) : Bool := match PySem.W.tabIn K x with
  | some (c, P) => decide (codeOf K (He.fAd K (x, none)) = some c) && ((lamsK K).all (fun p => decide (p.1 ≠ P) || decide (p.2 = lamQn x default)) && ((gensK K).all (fun Z => decide (Z ≠ P)) && decide (x ∈ lamNames)))
  | none => false
theorem lamTab_ok {K : PySem.W.Frag} {x : Str} {st : Stmt} (h : lamTabB K x = true) : ∃ c P, (c, P) ∈ tabsOf K ∧ codeOf K (He.fAd K (x, none)) = some c ∧ (P, lamQn x st) ∈ lamsK K ∧ (∀ p ∈ lamsK K, p.1 = P → p.2 = lamQn x st) ∧ ∀ Z ∈ gensK K, Z ≠ P := by
  unfold lamTabB at h
  split at h
  · rename_i c P e
    obtain ⟨h1, h⟩ := He.ba h
    obtain ⟨h2, h⟩ := He.ba h
    obtain ⟨h3, h4⟩ := He.ba h
    have hx := of_decide_eq_true h4
    refine ⟨c, P, List.mem_filterMap.mpr ⟨x, List.mem_append_right _ hx, e⟩, of_decide_eq_true h1, List.mem_filterMap.mpr ⟨x, hx, by rw [e]; rfl⟩, fun p hp ep => ?_, fun Z hZ => of_decide_eq_true (List.all_eq_true.mp h3 Z hZ)⟩
    have q := List.all_eq_true.mp h2 p hp
    rw [Bool.or_eq_true] at q
    rcases q with q | q
    · exact absurd ep (of_decide_eq_true q)
    · exact of_decide_eq_true q
  · cases h
def tabRecB (K : PySem.W.Frag) (q : Program) : Bool := (genNames ++ lamNames).all fun x => (PySem.W.tabIn K x).isNone || ((recsOf q).find? (fun e => e.name == x)).isSome
theorem tabRec_ok {K : PySem.W.Frag} {q : Program} (c : tabRecB K q = true) {loose : List Str} {mean : ExcName → Option Value} {mg mb : Str → Option Value} {h : Heap} (X : K.In h) (T : Top q (PySem.W.looseW q loose) mean mg mb h) : ∀ p ∈ tabsOf K, h.get? p.2 = some { cls := .none, data := .fields #[] } := by
  intro p hp
  obtain ⟨x, hx, e⟩ := List.mem_filterMap.mp hp
  have q := List.all_eq_true.mp c x hx
  rw [Bool.or_eq_true] at q
  rcases q with q | q
  · rw [e] at q
    cases q
  · obtain ⟨d, hd⟩ := Option.isSome_iff_exists.mp q
    exact (PySem.W.tab_of T X hd (show PySem.W.tabIn K x = some (p.1, p.2) from e)).2
def intB (K : PySem.W.Frag) (x : Str) (i : Int) : Bool := match PySem.W.nsIn K mainGlobals x with
  | some (some (.int j _)) => decide (j = i)
  | _ => false
theorem int_ok {K : PySem.W.Frag} {h : Heap} {mg : Str → Option Value} (X : K.In h) (G : h.Ns mainGlobals mg) {x : Str} {i : Int} (c : intB K x i = true) : ∃ t, mg x = some (.int i t) := by
  unfold intB at c
  split at c
  · rename_i j t e
    have q := of_decide_eq_true c
    subst q
    exact ⟨t, PySem.W.mg_of X G e⟩
  · cases c
def biB (K : PySem.W.Frag) (x : Str) (id : String) : Bool := He.eqO (PySem.W.nsIn K mainGlobals x) (some (some (.builtin id)))
theorem bi_ok {K : PySem.W.Frag} {h : Heap} {mg : Str → Option Value} (X : K.In h) (G : h.Ns mainGlobals mg) {x : Str} {id : String} (c : biB K x id = true) : mg x = some (.builtin id) := PySem.W.mg_of X G (He.eqO_ok c)
def valIB : List Int → List Value → Bool
  | [], [] => true
  | i :: is, .int j _ :: vs => decide (i = j) && valIB is vs
  | _, _ => false
theorem valI_ok : ∀ {is : List Int} {vs : List Value}, valIB is vs = true → Vals (is.map V.int) vs
  | [], [], _ => .nil
  | i :: is, .int j t :: vs, h => by
    obtain ⟨h1, h2⟩ := He.ba h
    have e := of_decide_eq_true h1
    subst e
    exact .cons ⟨t, rfl⟩ (valI_ok h2)
def tupIB (K : PySem.W.Frag) (x : Str) (ns : List Int) : Bool := gloB K x && (match K.lookup (He.ga K x) with
  | some ⟨.type T, _, .seq vs _, _⟩ => decide (T = "tuple") && (decide (vs.size ≤ 1000) && valIB ns vs.toList)
  | _ => false)
theorem tupI_ok {K : PySem.W.Frag} {x : Str} {ns : List Int} (c : tupIB K x ns = true) : gloB K x = true ∧ TupI K (He.ga K x) ns := by
  obtain ⟨c1, c⟩ := He.ba c
  split at c
  · rename_i T d vs n sl e
    obtain ⟨h1, h⟩ := He.ba c
    obtain ⟨h2, h3⟩ := He.ba h
    have e1 := of_decide_eq_true h1
    subst e1
    exact ⟨c1, _, vs, n, e, rfl, rfl, mil_le (Nat.le_trans (of_decide_eq_true h2) (by decide)), valI_ok h3⟩
  · cases c
end DL
-- ZN
set_option maxRecDepth 100000
set_option maxHeartbeats 1000000
/-! zip of any number of tuples, or of lists -/
namespace ZN
open PySem PySem.Spec PyProof.Rows
def SubIt (b : Bool) (h : Heap) (i l : Addr) (k : Nat) : Prop := if b = true then h.IsTupleIter i l k else h.IsListIter i l k
def SubSeq (b : Bool) (h : Heap) (l : Addr) (xs : Array Value) : Prop := if b = true then h.IsTuple l xs else h.IsList l xs
theorem SubIt.at {b : Bool} {h h' : Heap} {i l : Addr} {k : Nat} (x : SubIt b h i l k) (e : ∀ o, h.get? i = some o → h'.get? i = some o) : SubIt b h' i l k := by
  cases b with
  | true => exact Heap.IsTupleIter.at (show h.IsTupleIter i l k from x) e
  | false => exact Heap.IsListIter.at (show h.IsListIter i l k from x) e
theorem SubSeq.at {b : Bool} {h h' : Heap} {l : Addr} {xs : Array Value} (x : SubSeq b h l xs) (e : ∀ o, h.get? l = some o → h'.get? l = some o) : SubSeq b h' l xs := by
  cases b with
  | true => exact Heap.IsTuple.at (show h.IsTuple l xs from x) e
  | false => exact Heap.IsList.at (show h.IsList l xs from x) e
theorem SubIt.there {b : Bool} {h : Heap} {i l : Addr} {k : Nat} (x : SubIt b h i l k) : ∃ o vs, h.get? i = some o ∧ o.data = .fields vs := by
  cases b with
  | true =>
    obtain ⟨o, h1, _, h2⟩ := (show h.IsTupleIter i l k from x)
    exact ⟨o, _, h1, h2⟩
  | false =>
    obtain ⟨o, h1, _, h2⟩ := (show h.IsListIter i l k from x)
    exact ⟨o, _, h1, h2⟩
abbrev IsZ (h : Heap) (z TI TO : Addr) (f0 : Value) (f1 : Bool) : Prop := h.get? z = some { cls := .type "zip", dict := none, data := .fields #[f0, .bool f1, .bool false, .ref TI, .ref TO], slots := #[] }
abbrev IsT (h : Heap) (T : Addr) (vs : List Value) : Prop := h.get? T = some { cls := .type "tuple", data := .seq vs.toArray }
section
variable {prog : Program} {w : World} {A : Around} {E : Value → Shared → Prop} {s : Shared}
theorem sub_item {b : Bool} {it l : Addr} {i : Nat} {items : Array Value} {x : Value} {Q : Value → Shared → Prop} (hit : SubIt b s.heap it l i) (hl : SubSeq b s.heap l items) (hx : items[i]? = some x)
    (hQ : ∀ h', SubIt b h' it l (i + 1) → Heap.SameBut it s.heap h' → Q x { s with heap := h' }) : wpAny (model prog w) A (Builtin.SmallTypes.nextOf (.ref it)) Q E s := by
  cases b with
  | true => exact RZ.nextOf_tuple_item (show s.heap.IsTupleIter it l i from hit) (show s.heap.IsTuple l items from hl) hx fun h' a c => hQ h' a c
  | false => exact wpAny_nextOf_list_item (show s.heap.IsListIter it l i from hit) (show s.heap.IsList l items from hl) hx fun h' a c => hQ h' a c
theorem sub_end {b : Bool} {it l : Addr} {i : Nat} {items : Array Value} {Q : Value → Shared → Prop} (hh : A.handled = none) (hit : SubIt b s.heap it l i) (hl : SubSeq b s.heap l items) (hx : items[i]? = none)
    (hE : ∀ h' e, Heap.ExtBut it s.heap h' → (∃ o, h'.get? e = some o ∧ o.cls = .type "StopIteration") → E (.ref e) { s with heap := h' }) : wpAny (model prog w) A (Builtin.SmallTypes.nextOf (.ref it)) Q E s := by
  cases b with
  | true => exact RZ.nextOf_tuple_end hh (show s.heap.IsTupleIter it l i from hit) (show s.heap.IsTuple l items from hl) hx hE
  | false => exact wpAny_nextOf_list_end hh (show s.heap.IsListIter it l i from hit) (show s.heap.IsList l items from hl) hx hE
/-- apart: the zip's own parts, and from what is walked -/
structure Ap (z TI TO : Addr) (is ls : List Addr) : Prop where
  len : ls.length = is.length
  nd : is.Nodup
  zTI : z ≠ TI
  zTO : z ≠ TO
  TITO : TI ≠ TO
  zi : z ∉ is
  TIi : TI ∉ is
  TOi : TO ∉ is
  zl : z ∉ ls
  TOl : TO ∉ ls
  il : ∀ i ∈ is, i ∉ ls
/-- the first part of the loop done -/
structure Mid (b : Bool) (z TI TO : Addr) (is ls : List Addr) (row : List Value) (k : Nat) (h0 : Heap) (j : Nat) (h : Heap) : Prop where
  to_ : ∃ vs, vs.length = is.length ∧ IsT h TO vs ∧ ∀ j' : Nat, j' < j → vs[j']? = row[j']?
  its : ∀ (j' : Nat) (i l : Addr), is[j']? = some i → ls[j']? = some l → SubIt b h i l (if j' < j then k + 1 else k)
  keep : ∀ c o, c ≠ z → c ≠ TO → c ∉ is → h0.get? c = some o → h.get? c = some o
  size : h.objs.size = h0.objs.size
theorem idx_at {is : List Addr} {j : Nat} {x : Value × Nat} {rest : List (Value × Nat)} (h : x :: rest = (is.map Value.ref).zipIdx.drop j) : ∃ i, is[j]? = some i ∧ x = (Value.ref i, j) ∧ rest = (is.map Value.ref).zipIdx.drop (j + 1) := by
  have h1 : (is.map Value.ref).zipIdx[j]? = some x := by
    have := congrArg (fun l => l[0]?) h
    simpa [List.getElem?_drop] using this.symm
  have h2 : rest = (is.map Value.ref).zipIdx.drop (j + 1) := by
    have := congrArg (fun l => l.drop 1) h
    simpa [List.drop_drop, Nat.add_comm] using this
  rw [List.getElem?_zipIdx, List.getElem?_map] at h1
  cases e : is[j]? with
  | none => rw [e] at h1; cases h1
  | some i =>
    rw [e] at h1
    exact ⟨i, rfl, by simpa using (Option.some.inj h1).symm, h2⟩
theorem idx_end {is : List Addr} {j : Nat} (h : [] = (is.map Value.ref).zipIdx.drop j) : is.length ≤ j := by
  have := congrArg List.length h
  simp at this
  omega
theorem get_both {α β : Type} {xs : List α} {ys : List β} (h : xs.length = ys.length) {j : Nat} {x : α} (e : xs[j]? = some x) : ∃ y, ys[j]? = some y := by
  have h1 := (List.getElem?_eq_some_iff.mp e).1
  exact ⟨ys[j]'(h ▸ h1), List.getElem?_eq_getElem _⟩
theorem nd_ne {is : List Addr} (nd : is.Nodup) {j j' : Nat} {i i' : Addr} (h : is[j]? = some i) (h' : is[j']? = some i') (ne : j ≠ j') : i ≠ i' := fun e => by
  obtain ⟨l1, e1⟩ := List.getElem?_eq_some_iff.mp h
  obtain ⟨l2, e2⟩ := List.getElem?_eq_some_iff.mp h'
  have P := List.pairwise_iff_getElem.mp nd
  rcases Nat.lt_or_gt_of_ne ne with q | q
  · exact P j j' l1 l2 q (by rw [e1, e2, e])
  · exact P j' j l2 l1 q (by rw [e1, e2, e])
theorem w_alive {M : Model} {a : Addr} {Q : Option Obj → Shared → Prop} (h : Q (s.heap.get? a) s) : wpAny M A (loadIfAlive a) Q E s := by
  intro Γ p hΓ
  unfold loadIfAlive
  rw [Sem.wp_loadIfAlive]
  exact h
theorem free_cases {z TI TO : Addr} {f0 : Value} {f1 : Bool} {Q : Bool → Shared → Prop} (hz : IsZ s.heap z TI TO f0 f1) (h0 : f0 = .none ∨ ∃ a : Nat, f0 = rawInt a) (hT : Q true s)
    (hF : ∀ h' f1', IsZ h' z TI TO f0 f1' → (∀ c o, c ≠ z → s.heap.get? c = some o → h'.get? c = some o) → h'.objs.size = s.heap.objs.size → Q false { s with heap := h' }) : wpAny (model prog w) A (Builtin.SmallTypes.ownedTupleIsFree (.ref z)) Q E s := by
  unfold Builtin.SmallTypes.ownedTupleIsFree
  rcases h0 with rfl | ⟨a, rfl⟩
  · exact wpAny_bind (wpAny_field hz rfl (x := .none) rfl (wpAny_pure hT))
  · refine wpAny_bind (wpAny_field hz rfl (x := rawInt a) rfl ?_)
    show wpAny _ _ (loadIfAlive a >>= _) _ _ _
    refine wpAny_bind (w_alive ?_)
    cases h : s.heap.get? a with
    | none => exact wpAny_pure hT
    | some o =>
      show wpAny _ _ (field (.ref z) 1 >>= _) _ _ _
      refine wpAny_bind (wpAny_field hz rfl (x := .bool f1) rfl ?_)
      cases f1 with
      | true => exact wpAny_pure (hF s.heap true hz (fun _ _ _ e => e) rfl)
      | false =>
        show wpAny _ _ (setField (.ref z) 1 (.bool true) >>= _) _ _ _
        exact wpAny_bind (wpAny_setField_rec hz (by simp) fun h' hz' hs' => wpAny_pure (hF h' true hz' (fun c o c1 e => hs'.extBut _ _ c1 e) hs'.1))
/-- as far as the second loop has come -/
structure Mid2 (b : Bool) (z TO : Addr) (is ls : List Addr) (vs : List Value) (k : Nat) (h0 : Heap) (j : Nat) (h : Heap) : Prop where
  to_ : IsT h TO vs
  its : ∀ (j' : Nat) (i l : Addr), is[j']? = some i → ls[j']? = some l → SubIt b h i l (if j' < j then k + 1 else k)
  keep : ∀ c o, c ≠ z → c ∉ is → h0.get? c = some o → h.get? c = some o
  size : h.objs.size = h0.objs.size
theorem ref_at {is : List Addr} {j : Nat} {x : Value} {rest : List Value} (h : x :: rest = (is.map Value.ref).drop j) : ∃ i, is[j]? = some i ∧ x = Value.ref i ∧ rest = (is.map Value.ref).drop (j + 1) := by
  have h1 : (is.map Value.ref)[j]? = some x := by
    have := congrArg (fun l => l[0]?) h
    simpa [List.getElem?_drop] using this.symm
  have h2 : rest = (is.map Value.ref).drop (j + 1) := by
    have := congrArg (fun l => l.drop 1) h
    simpa [List.drop_drop, Nat.add_comm] using this
  rw [List.getElem?_map] at h1
  cases e : is[j]? with
  | none => rw [e] at h1; cases h1
  | some i =>
    rw [e] at h1
    exact ⟨i, rfl, (Option.some.inj h1).symm, h2⟩
theorem next_item {b : Bool} {z TI TO : Addr} {is ls : List Addr} {row : List Value} {k : Nat} {f0 : Value} {f1 : Bool} {vs0 : List Value} {Q : Value → Shared → Prop} (D : Ap z TI TO is ls) (ne : is ≠ []) (hr : row.length = is.length)
    (hz : IsZ s.heap z TI TO f0 f1) (h0 : f0 = .none ∨ ∃ a : Nat, f0 = rawInt a) (hTI : IsT s.heap TI (is.map .ref)) (hv : vs0.length = is.length) (hTO : IsT s.heap TO vs0) (hi : ∀ (j : Nat) (i l : Addr), is[j]? = some i → ls[j]? = some l → SubIt b s.heap i l k)
    (hx : ∀ (j : Nat) (l : Addr) (x : Value), ls[j]? = some l → row[j]? = some x → ∃ xs, SubSeq b s.heap l xs ∧ xs[k]? = some x) (hsz : is.length ≤ 1000)
    (hQ : ∀ h' f0' f1' vs, IsZ h' z TI TO f0' f1' → (f0' = .none ∨ ∃ a : Nat, f0' = rawInt a) → vs.length = is.length → IsT h' TO vs → (∀ (j : Nat) (i l : Addr), is[j]? = some i → ls[j]? = some l → SubIt b h' i l (k + 1)) → IsT h' s.heap.objs.size row → h'.objs.size = s.heap.objs.size + 1 →
      (∀ c o, c ≠ z → c ≠ TO → c ∉ is → s.heap.get? c = some o → h'.get? c = some o) → Q (.ref s.heap.objs.size) { s with heap := h' }) :
    wpAny (model prog w) A (Builtin.«zip.__next__» ⟨[.ref z], []⟩) (fun fin s' => ∃ v, fin = .done (.ret v) ∧ Q v s') E s := by
  show wpAny _ _ (field (.ref z) 2 >>= _) _ _ _
  refine wpAny_bind (wpAny_field hz rfl (x := .bool false) rfl ?_)
  show wpAny _ _ (field (.ref z) 3 >>= _) _ _ _
  refine wpAny_bind (wpAny_field hz rfl (x := .ref TI) rfl ?_)
  refine wpAny_bind (wpAny_seqItems hTI rfl ?_)
  have e0 : ((is.map Value.ref).toArray).isEmpty = false := by
    cases is with
    | nil => exact absurd rfl ne
    | cons i r => rfl
  simp only [e0]
  show wpAny _ _ (Builtin.SmallTypes.ownedTupleIsFree (.ref z) >>= _) _ _ _
  refine wpAny_bind (free_cases hz h0 ?_ (fun h₁ f1' hz₁ kp₁ sz₁ => ?_))
  all_goals simp only [if_true, Bool.false_eq_true, if_false]
  rotate_left
  · refine wpAny_bind ?_
    refine wpAny_forIn_array' _ (fun rest c s' => ∃ j h', rest = (is.map Value.ref).drop j ∧ j ≤ is.length ∧ c = (none, (row.take j).toArray) ∧ s' = { s with heap := h' } ∧ IsZ h' z TI TO f0 f1' ∧ Mid2 b z TO is ls vs0 k s.heap j h') _ ?_ ?_ _ _
      ⟨0, h₁, rfl, Nat.zero_le _, rfl, rfl, hz₁, ⟨kp₁ _ _ D.zTO.symm hTO, fun j' i l e1 e2 => ?_, fun c o c1 _ e => kp₁ _ _ c1 e, sz₁⟩⟩
    · rintro x rest c s' ⟨j, h', hrest, hj, rfl, rfl, hz', M⟩
      obtain ⟨i, hij, rfl, rfl⟩ := ref_at hrest
      obtain ⟨l, hlj⟩ := get_both D.len.symm hij
      obtain ⟨x, hxj⟩ := get_both hr.symm hij
      obtain ⟨xs, hsq, hxk⟩ := hx j l x hlj hxj
      have im : i ∈ is := List.mem_of_getElem? hij
      have lm : l ∈ ls := List.mem_of_getElem? hlj
      have lz : l ≠ z := fun e => D.zl (e ▸ lm)
      have li : l ∉ is := fun e => D.il l e lm
      have iz : i ≠ z := fun e => D.zi (e ▸ im)
      have iTO : i ≠ TO := fun e => D.TOi (e ▸ im)
      have jl : j < is.length := (List.getElem?_eq_some_iff.mp hij).1
      have hit : SubIt b h' i l k := by
        have := M.its j i l hij hlj
        rw [if_neg (Nat.lt_irrefl j)] at this
        exact this
      refine wpAny_bind (wpAny_holding ?_)
      show wpAny _ _ (Builtin.SmallTypes.nextOf (.ref i) >>= _) _ _ _
      refine wpAny_bind (sub_item (s := { s with heap := h' }) hit (hsq.at fun o e => M.keep l o lz li e) hxk fun h₂ hit₂ hs₂ => wpAny_pure (wpAny_pure ?_))
      refine ⟨j + 1, _, rfl, jl, ?_, rfl, hs₂.extBut _ _ iz.symm hz', ⟨hs₂.extBut _ _ iTO.symm M.to_, fun j' i' l' e1 e2 => ?_, fun c o c1 c3 e => hs₂.extBut _ _ (fun z => c3 (z ▸ im)) (M.keep c o c1 c3 e), hs₂.1.trans M.size⟩⟩
      · rw [List.take_add_one, hxj]
        simp
      · by_cases q : j' = j
        · subst q
          rw [hij] at e1
          rw [hlj] at e2
          cases e1
          cases e2
          rw [if_pos (Nat.lt_succ_self _)]
          exact hit₂
        · have := (M.its j' i' l' e1 e2).at (h' := h₂) fun o e => hs₂.extBut _ _ (nd_ne D.nd e1 hij q) e
          by_cases q2 : j' < j
          · rw [if_pos q2] at this
            rw [if_pos (by omega)]
            exact this
          · rw [if_neg q2] at this
            rw [if_neg (by omega)]
            exact this
    · rintro c s' ⟨j, h', hrest, hj, rfl, rfl, hz', M⟩
      have hjn : j = is.length := by
        have := congrArg List.length hrest
        simp at this
        omega
      subst hjn
      have et : row.take is.length = row := List.take_of_length_le (by omega)
      rw [et]
      show wpAny _ _ (newTuple row.toArray.toList >>= _) _ _ _
      refine wpAny_bind (wpAny_newTuple ?_ ?_)
      · refine wpAny_pure ⟨_, rfl, ?_⟩
        have hTn : IsT (h'.push { cls := .type "tuple", data := .seq row.toArray }) h'.objs.size row := Heap.get?_push_size _ rfl
        have hsn : (h'.push { cls := .type "tuple", data := .seq row.toArray }).objs.size = h'.objs.size + 1 := Heap.size_push ..
        have hzn : IsZ (h'.push { cls := .type "tuple", data := .seq row.toArray }) z TI TO f0 f1' := Heap.get?_push_of_some _ hz'
        show Q (.ref h'.objs.size) { s with heap := h'.push { cls := .type "tuple", data := .seq row.toArray } }
        rw [M.size] at hTn hsn ⊢
        refine hQ _ f0 f1' vs0 hzn h0 hv (Heap.get?_push_of_some _ M.to_) (fun j' i' l' e1 e2 => ?_) hTn hsn fun c o c1 c2 c3 e => Heap.get?_push_of_some _ (M.keep c o c1 c3 e)
        have := M.its j' i' l' e1 e2
        rw [if_pos (List.getElem?_eq_some_iff.mp e1).1] at this
        exact this.at fun o e => Heap.get?_push_of_some _ e
      · simp only [List.toList_toArray, hr]
        exact DL.mil_le (by omega)
    · rw [if_neg (Nat.not_lt_zero _)]
      exact (hi j' i l e1 e2).at fun o e => kp₁ _ _ (fun z => D.zi (z ▸ List.mem_of_getElem? e1)) e
  refine wpAny_bind (wpAny_rule ?_)
  refine wpAny_bind (wpAny_field hz rfl (x := .ref TO) rfl ?_)
  refine wpAny_bind (wpAny_setField_rec hz (by simp) fun h₁ hz₁ hs₁ => ?_)
  replace hz₁ : IsZ h₁ z TI TO .ellipsis f1 := hz₁
  refine wpAny_bind ?_
  refine wpAny_forIn_list _ (fun rest c s' => ∃ j h', rest = (is.map Value.ref).zipIdx.drop j ∧ j ≤ is.length ∧ c = (none, ()) ∧ s' = { s with heap := h' } ∧ IsZ h' z TI TO .ellipsis f1 ∧ Mid b z TI TO is ls row k s.heap j h') _ ?_ ?_ _ _
    ⟨0, h₁, rfl, Nat.zero_le _, rfl, rfl, hz₁, ⟨vs0, hv, hs₁.extBut _ _ D.zTO.symm hTO, fun j' h => absurd h (Nat.not_lt_zero _)⟩, fun j' i l e1 e2 => ?_, fun c o c1 _ _ e => hs₁.extBut _ _ c1 e, hs₁.1⟩
  · rintro x rest c s' ⟨j, h', hrest, hj, rfl, rfl, hz', M⟩
    obtain ⟨i, hij, rfl, rfl⟩ := idx_at hrest
    obtain ⟨l, hlj⟩ := get_both D.len.symm hij
    obtain ⟨x, hxj⟩ := get_both hr.symm hij
    obtain ⟨xs, hsq, hxk⟩ := hx j l x hlj hxj
    have im : i ∈ is := List.mem_of_getElem? hij
    have lm : l ∈ ls := List.mem_of_getElem? hlj
    have lz : l ≠ z := fun e => D.zl (e ▸ lm)
    have lTO : l ≠ TO := fun e => D.TOl (e ▸ lm)
    have li : l ∉ is := fun e => D.il l e lm
    have iz : i ≠ z := fun e => D.zi (e ▸ im)
    have iTO : i ≠ TO := fun e => D.TOi (e ▸ im)
    have hit : SubIt b h' i l k := by
      have := M.its j i l hij hlj
      rw [if_neg (Nat.lt_irrefl j)] at this
      exact this
    refine wpAny_bind (wpAny_onRaise ?_)
    show wpAny _ _ (Builtin.SmallTypes.nextOf (.ref i) >>= _) _ _ _
    refine wpAny_bind (sub_item (s := { s with heap := h' }) hit (hsq.at fun o e => M.keep l o lz lTO li e) hxk fun h₂ hit₂ hs₂ => wpAny_pure ?_)
    obtain ⟨vs, hvl, hvT, hvr⟩ := M.to_
    have hT₂ : IsT h₂ TO vs := hs₂.extBut _ _ iTO.symm hvT
    refine wpAny_bind (wpAny_seqItems hT₂ rfl ?_)
    refine wpAny_bind (wpAny_updateSeq hT₂ rfl ?_ ?_ ?_)
    · refine wpAny_bind (wpAny_letGo (wpAny_pure ?_))
      have sb : Heap.SameBut TO h₂ (h₂.update TO (Obj.mapSeq fun a => a.setIfInBounds j x)) := Heap.SameBut.update ..
      have hT₃ : IsT (h₂.update TO (Obj.mapSeq fun a => a.setIfInBounds j x)) TO (vs.set j x) := by
        show Heap.get? _ _ = _
        rw [Heap.get?_update_self _ hT₂ rfl]
        simp [Obj.mapSeq]
      have jl : j < is.length := (List.getElem?_eq_some_iff.mp hij).1
      refine ⟨j + 1, _, rfl, jl, rfl, rfl, sb.extBut _ _ D.zTO (hs₂.extBut _ _ iz.symm hz'), ⟨vs.set j x, by rw [List.length_set]; exact hvl, hT₃, fun j' hj' => ?_⟩, fun j' i' l' e1 e2 => ?_, fun c o c1 c2 c3 e => sb.extBut _ _ c2 (hs₂.extBut _ _ (fun z => c3 (z ▸ im)) (M.keep c o c1 c2 c3 e)), ?_⟩
      · by_cases q : j' = j
        · subst q
          rw [List.getElem?_set_self (by omega), hxj]
        · rw [List.getElem?_set_ne (fun z => q z.symm)]
          exact hvr j' (by omega)
      · by_cases q : j' = j
        · subst q
          rw [hij] at e1
          rw [hlj] at e2
          cases e1
          cases e2
          rw [if_pos (Nat.lt_succ_self _)]
          exact hit₂.at fun o e => sb.extBut _ _ iTO e
        · have i1 : i' ∈ is := List.mem_of_getElem? e1
          have := (M.its j' i' l' e1 e2).at (h' := h₂.update TO (Obj.mapSeq fun a => a.setIfInBounds j x)) fun o e => sb.extBut _ _ (fun z => D.TOi (z ▸ i1)) (hs₂.extBut _ _ (nd_ne D.nd e1 hij q) e)
          by_cases q2 : j' < j
          · rw [if_pos q2] at this
            rw [if_pos (by omega)]
            exact this
          · rw [if_neg q2] at this
            rw [if_neg (by omega)]
            exact this
      · rw [sb.1, hs₂.1, M.size]
    · rw [List.size_toArray, hvl]
      exact DL.mil_le (by omega)
    · simp only [Array.size_setIfInBounds, List.size_toArray]
      have := DL.mil_le (n := vs.length) (by omega)
      omega
  · rintro c s' ⟨j, h', hrest, hj, rfl, rfl, hz', M⟩
    have hjn : j = is.length := Nat.le_antisymm hj (idx_end hrest)
    subst hjn
    obtain ⟨vs, hvl, hvT, hvr⟩ := M.to_
    have evs : vs = row := List.ext_getElem? fun j' => by
      by_cases q : j' < is.length
      · exact hvr j' q
      · rw [List.getElem?_eq_none (by omega), List.getElem?_eq_none (by omega)]
    subst evs
    refine wpAny_bind (wpAny_seqItems hvT rfl ?_)
    refine wpAny_bind (wpAny_newTuple ?_ ?_)
    · have zlt : z < h'.objs.size := Heap.lt_size hz'
      have low : ∀ {c o}, h'.get? c = some o → c ≠ z → ∀ {G G' : Heap}, Heap.SameBut z (h'.push { cls := .type "tuple", data := .seq vs.toArray }) G → Heap.SameBut z G G' → G'.get? c = some o := fun e c1 _ _ a a' => a'.extBut _ _ c1 (a.extBut _ _ c1 (Heap.get?_push_of_some _ e))
      show wpAny _ _ (Builtin.SmallTypes.ownedTupleHandOut (.ref z) (.ref h'.objs.size) >>= _) _ _ _
      refine wpAny_bind ?_
      unfold Builtin.SmallTypes.ownedTupleHandOut
      have hzp : IsZ (h'.push { cls := .type "tuple", data := .seq vs.toArray }) z TI TO .ellipsis f1 := Heap.get?_push_of_some _ hz'
      refine wpAny_bind (wpAny_setField_rec hzp (by simp) fun G hG sG => ?_)
      replace hG : IsZ G z TI TO (rawInt h'.objs.size) f1 := hG
      refine wpAny_setField_rec hG (by simp) fun G' hG' sG' => ?_
      replace hG' : IsZ G' z TI TO (rawInt h'.objs.size) false := hG'
      refine wpAny_pure ⟨_, rfl, ?_⟩
      have up := fun {c o} (e : h'.get? c = some o) (c1 : c ≠ z) => low e c1 sG sG'
      have hT' : IsT G' h'.objs.size vs := sG'.extBut _ _ (Nat.ne_of_gt zlt) (sG.extBut _ _ (Nat.ne_of_gt zlt) (Heap.get?_push_size _ rfl))
      have hsz' : G'.objs.size = h'.objs.size + 1 := by rw [sG'.1, sG.1, Heap.size_push]
      rw [M.size] at hG' hT' hsz' ⊢
      refine hQ G' _ _ vs hG' (.inr ⟨_, rfl⟩) hvl (up hvT D.zTO.symm) (fun j' i' l' e1 e2 => ?_) hT' hsz' fun c o c1 c2 c3 e => up (M.keep c o c1 c2 c3 e) c1
      have := M.its j' i' l' e1 e2
      rw [if_pos (List.getElem?_eq_some_iff.mp e1).1] at this
      exact this.at fun o e => up e fun q => D.zi (q ▸ List.mem_of_getElem? e1)
    · simp only [List.toList_toArray, hvl]
      exact DL.mil_le (by omega)
  · rw [if_neg (Nat.not_lt_zero _)]
    exact (hi j' i l e1 e2).at fun o e => hs₁.extBut _ _ (fun z => D.zi (z ▸ List.mem_of_getElem? e1)) e
theorem next_end {b : Bool} {z TI TO : Addr} {i0 l0 : Addr} {is ls : List Addr} {k : Nat} {f0 : Value} {f1 : Bool} {xs0 : Array Value} {Q : Fin → Shared → Prop} (hh : A.handled = none) (D : Ap z TI TO (i0 :: is) (l0 :: ls))
    (hz : IsZ s.heap z TI TO f0 f1) (h0 : f0 = .none ∨ ∃ a : Nat, f0 = rawInt a) (hTI : IsT s.heap TI ((i0 :: is).map .ref)) (hi : SubIt b s.heap i0 l0 k) (hl : SubSeq b s.heap l0 xs0) (hx : xs0[k]? = none)
    (hE : ∀ h' e, (∀ c o, c ≠ z → c ∉ (i0 :: is) → s.heap.get? c = some o → h'.get? c = some o) → (∃ o, h'.get? e = some o ∧ o.cls = .type "StopIteration") → E (.ref e) { s with heap := h' }) :
    wpAny (model prog w) A (Builtin.«zip.__next__» ⟨[.ref z], []⟩) Q E s := by
  have i0z : i0 ≠ z := fun e => D.zi (e ▸ List.mem_cons_self)
  have l0z : l0 ≠ z := fun e => D.zl (e ▸ List.mem_cons_self)
  show wpAny _ _ (field (.ref z) 2 >>= _) _ _ _
  refine wpAny_bind (wpAny_field hz rfl (x := .bool false) rfl ?_)
  show wpAny _ _ (field (.ref z) 3 >>= _) _ _ _
  refine wpAny_bind (wpAny_field hz rfl (x := .ref TI) rfl ?_)
  refine wpAny_bind (wpAny_seqItems hTI rfl ?_)
  have e0 : (((i0 :: is).map Value.ref).toArray).isEmpty = false := rfl
  simp only [e0]
  show wpAny _ _ (Builtin.SmallTypes.ownedTupleIsFree (.ref z) >>= _) _ _ _
  refine wpAny_bind (free_cases hz h0 ?_ (fun h₁ f1' hz₁ kp₁ sz₁ => ?_))
  all_goals simp only [if_true, Bool.false_eq_true, if_false]
  rotate_left
  · refine wpAny_bind ?_
    rw [← Array.forIn_toList]
    simp only [List.map_cons, List.forIn_cons]
    refine wpAny_bind (wpAny_bind (wpAny_holding ?_))
    show wpAny _ _ (Builtin.SmallTypes.nextOf (.ref i0) >>= _) _ _ _
    refine wpAny_bind (sub_end (s := { s with heap := h₁ }) hh (hi.at fun o e => kp₁ _ _ i0z e) (hl.at fun o e => kp₁ _ _ l0z e) hx fun h₂ e hs₂ he => ?_)
    exact hE h₂ e (fun c o c1 c2 x => hs₂ _ _ (fun q => c2 (q ▸ List.mem_cons_self)) (kp₁ _ _ c1 x)) he
  refine wpAny_bind (wpAny_rule ?_)
  refine wpAny_bind (wpAny_field hz rfl (x := .ref TO) rfl ?_)
  refine wpAny_bind (wpAny_setField_rec hz (by simp) fun h₁ hz₁ hs₁ => ?_)
  replace hz₁ : IsZ h₁ z TI TO .ellipsis f1 := hz₁
  refine wpAny_bind ?_
  simp only [List.map_cons, List.zipIdx_cons, List.forIn_cons]
  refine wpAny_bind (wpAny_bind (wpAny_onRaise ?_))
  show wpAny _ _ (Builtin.SmallTypes.nextOf (.ref i0) >>= _) _ _ _
  refine wpAny_bind (sub_end (s := { s with heap := h₁ }) hh (hi.at fun o e => hs₁.extBut _ _ i0z e) (hl.at fun o e => hs₁.extBut _ _ l0z e) hx fun h₂ e hs₂ he => ?_)
  obtain ⟨oe, hoe, hce⟩ := he
  have hz₂ : IsZ h₂ z TI TO .ellipsis f1 := hs₂ _ _ i0z.symm hz₁
  have hez : e ≠ z := fun x => by subst x; rw [hz₂] at hoe; cases hoe; simp at hce
  exact wpAny_setField_rec hz₂ (by simp) fun h₃ _ hs₃ => hE h₃ e (fun c o c1 c3 x => hs₃.extBut _ _ c1 (hs₂ _ _ (fun q => c3 (q ▸ List.mem_cons_self)) (hs₁.extBut _ _ c1 x))) ⟨oe, hs₃.extBut _ _ hez hoe, hce⟩
theorem isZ_type {z TI TO : Addr} {f0 : Value} {f1 : Bool} (hz : IsZ s.heap z TI TO f0 f1) : s.TypeIs (.ref z) "zip" := ⟨_, hz, rfl⟩
theorem pyNext_item {b : Bool} {z TI TO : Addr} {is ls : List Addr} {row : List Value} {k : Nat} {f0 : Value} {f1 : Bool} {vs0 : List Value} {Q : Option Value → Shared → Prop} (D : Ap z TI TO is ls) (ne : is ≠ []) (hr : row.length = is.length)
    (hz : IsZ s.heap z TI TO f0 f1) (h0 : f0 = .none ∨ ∃ a : Nat, f0 = rawInt a) (hTI : IsT s.heap TI (is.map .ref)) (hv : vs0.length = is.length) (hTO : IsT s.heap TO vs0) (hi : ∀ (j : Nat) (i l : Addr), is[j]? = some i → ls[j]? = some l → SubIt b s.heap i l k)
    (hx : ∀ (j : Nat) (l : Addr) (x : Value), ls[j]? = some l → row[j]? = some x → ∃ xs, SubSeq b s.heap l xs ∧ xs[k]? = some x) (hsz : is.length ≤ 1000)
    (hQ : ∀ h' f0' f1' vs, IsZ h' z TI TO f0' f1' → (f0' = .none ∨ ∃ a : Nat, f0' = rawInt a) → vs.length = is.length → IsT h' TO vs → (∀ (j : Nat) (i l : Addr), is[j]? = some i → ls[j]? = some l → SubIt b h' i l (k + 1)) → IsT h' s.heap.objs.size row → h'.objs.size = s.heap.objs.size + 1 →
      (∀ c o, c ≠ z → c ≠ TO → c ∉ is → s.heap.get? c = some o → h'.get? c = some o) → Q (some (.ref s.heap.objs.size)) { s with heap := h' }) : wpAny (model prog w) A (pyNext (.ref z)) Q E s := by
  unfold pyNext
  exact wpAny_bind (wpAny_attempt (wpAny_callSpecial?_slot (name := Str.ofString "__next__") (isZ_type hz) F.slot_zip_next (wpAny_call_entry F.slot_zip_next (isZ_type hz) F.entry_zip_next
    (next_item D ne hr hz h0 hTI hv hTO hi hx hsz fun h' f0' f1' vs a1 a2 a3 a4 a5 a6 a7 a8 => wpAny_pure (hQ h' f0' f1' vs a1 a2 a3 a4 a5 a6 a7 a8)) (F.args_zip_next_1 _))))
theorem pyNext_end {b : Bool} {z TI TO : Addr} {i0 l0 : Addr} {is ls : List Addr} {k : Nat} {f0 : Value} {f1 : Bool} {xs0 : Array Value} {Q : Option Value → Shared → Prop} (hh : A.handled = none) (D : Ap z TI TO (i0 :: is) (l0 :: ls))
    (hz : IsZ s.heap z TI TO f0 f1) (h0 : f0 = .none ∨ ∃ a : Nat, f0 = rawInt a) (hTI : IsT s.heap TI ((i0 :: is).map .ref)) (hi : SubIt b s.heap i0 l0 k) (hl : SubSeq b s.heap l0 xs0) (hx : xs0[k]? = none)
    (hQ : ∀ h', (∀ c o, c ≠ z → c ∉ (i0 :: is) → s.heap.get? c = some o → h'.get? c = some o) → Q none { s with heap := h' }) : wpAny (model prog w) A (pyNext (.ref z)) Q E s := by
  unfold pyNext
  refine wpAny_bind (wpAny_attempt (wpAny_callSpecial?_slot (name := Str.ofString "__next__") (isZ_type hz) F.slot_zip_next (wpAny_call_entry F.slot_zip_next (isZ_type hz) F.entry_zip_next (next_end hh D hz h0 hTI hi hl hx fun h' e hk he => ?_) (F.args_zip_next_1 _))))
  obtain ⟨o, ho, hc⟩ := he
  exact wpAny_bind (wpAny_isInstance (T := "StopIteration") (b := true) ⟨o, ho, hc⟩ isSubtype_stop (wpAny_pure (hQ _ hk)))
theorem pyIter_self {z TI TO : Addr} {f0 : Value} {f1 : Bool} {Q : Value → Shared → Prop} (hz : IsZ s.heap z TI TO f0 f1) (h : Q (.ref z) s) : wpAny (model prog w) A (pyIter (.ref z)) Q E s := by
  refine wpAny_pyIter_slot (isZ_type hz) F.slot_zip_iter (wpAny_call_entry F.slot_zip_iter (isZ_type hz) F.entry_zip_iter ?_ (F.args_zip_iter_1 _))
  show wpAny _ _ (ret (.ref z)) _ _ s
  exact wpAny_pure ⟨_, rfl, "zip", _, isZ_type hz, F.slot_zip_next.lookup, h⟩
theorem newClass_zip {vs : List Value} {Q : Value × List Value → Shared → Prop} (h : Q (.type "zip", vs) s) : wpAny (model prog w) A (Builtin.SmallTypes.newClass "zip" ⟨.type "zip" :: vs, []⟩) Q E s := by
  unfold Builtin.SmallTypes.newClass
  show wpAny _ _ (isType (.type "zip") >>= _) _ _ _
  refine wpAny_bind (wpAny_pure ?_)
  show wpAny _ _ (isSubtype (.type "zip") (.type "zip") >>= _) _ _ _
  exact wpAny_bind (wpAny_of_eq sub_zip (wpAny_pure h))
theorem pyIter_sub {b : Bool} {l : Addr} {xs : Array Value} {Q : Value → Shared → Prop} (hl : SubSeq b s.heap l xs) (hQ : ∀ h', h'.objs.size = s.heap.objs.size + 1 → (∀ c o, s.heap.get? c = some o → h'.get? c = some o) → SubIt b h' s.heap.objs.size l 0 → Q (.ref s.heap.objs.size) { s with heap := h' }) :
    wpAny (model prog w) A (pyIter (.ref l)) Q E s := by
  cases b with
  | true =>
    exact wpAny_pyIter_tuple (show s.heap.IsTuple l xs from hl) (hQ _ (Heap.size_push ..) (fun c o e => Heap.get?_push_of_some _ e) ⟨_, Heap.get?_push_size _ rfl, rfl, rfl⟩)
  | false =>
    exact wpAny_pyIter_list (show s.heap.IsList l xs from hl) (hQ _ (Heap.size_push ..) (fun c o e => Heap.get?_push_of_some _ e) ⟨_, Heap.get?_push_size _ rfl, rfl, rfl⟩)
theorem iterAll_sub {b : Bool} {ls : List Addr} {Q : List Value → Shared → Prop} (hl : ∀ l ∈ ls, ∃ xs, SubSeq b s.heap l xs)
    (hQ : ∀ h', h'.objs.size = s.heap.objs.size + ls.length → (∀ c o, s.heap.get? c = some o → h'.get? c = some o) → (∀ (j : Nat) (l : Addr), ls[j]? = some l → SubIt b h' (s.heap.objs.size + j) l 0) → Q ((List.range' s.heap.objs.size ls.length).map .ref) { s with heap := h' }) :
    wpAny (model prog w) A (Builtin.SmallTypes.iterAll (ls.map .ref)) Q E s := by
  unfold Builtin.SmallTypes.iterAll
  refine wpAny_bind (wpAny_forIn_list _ (fun rest c s' => ∃ j h', rest = (ls.map Value.ref).drop j ∧ j ≤ ls.length ∧ c = ((List.range' s.heap.objs.size j).map Value.ref).toArray ∧ s' = { s with heap := h' } ∧ h'.objs.size = s.heap.objs.size + j ∧ (∀ c o, s.heap.get? c = some o → h'.get? c = some o) ∧ (∀ (j' : Nat) (l : Addr), j' < j → ls[j']? = some l → SubIt b h' (s.heap.objs.size + j') l 0)) _ ?_ ?_ _ _
    ⟨0, s.heap, rfl, Nat.zero_le _, rfl, rfl, rfl, fun _ _ e => e, fun j' l h => absurd h (Nat.not_lt_zero _)⟩)
  · rintro x rest c s' ⟨j, h', hrest, hj, rfl, rfl, hsz, kp, its⟩
    obtain ⟨l, hlj, rfl, rfl⟩ := ref_at hrest
    obtain ⟨xs, hsq⟩ := hl l (List.mem_of_getElem? hlj)
    refine wpAny_bind (wpAny_holding (pyIter_sub (s := { s with heap := h' }) (hsq.at fun o e => kp _ _ e) fun h₂ sz₂ kp₂ it₂ => wpAny_pure ?_))
    refine ⟨j + 1, h₂, rfl, (List.getElem?_eq_some_iff.mp hlj).1, ?_, rfl, by rw [sz₂]; show h'.objs.size + 1 = _; omega, fun c o e => kp₂ c o (kp c o e), fun j' l' hj' e => ?_⟩
    · rw [show (List.range' s.heap.objs.size (j + 1)) = List.range' s.heap.objs.size j ++ [s.heap.objs.size + j] by rw [List.range'_concat]; simp]
      simp [hsz]
    · by_cases q : j' = j
      · subst q
        rw [hlj] at e
        cases e
        have := it₂
        rw [show ({ s with heap := h' } : Shared).heap.objs.size = s.heap.objs.size + j' from hsz] at this
        exact this
      · exact (its j' l' (by omega) e).at fun o e => kp₂ _ _ e
  · rintro c s' ⟨j, h', hrest, hj, rfl, rfl, hsz, kp, its⟩
    have hjn : j = ls.length := by
      have := congrArg List.length hrest
      simp at this
      omega
    subst hjn
    refine wpAny_pure ?_
    rw [List.toList_toArray]
    exact hQ h' hsz kp fun j' l e => its j' l (List.getElem?_eq_some_iff.mp e).1 e
/-- what a zip of ls is when it is made -/
def Made (b : Bool) (h0 : Heap) (ls : List Addr) (h : Heap) (z TI TO : Addr) (is : List Addr) : Prop :=
  Ap z TI TO is ls ∧ IsZ h z TI TO .none false ∧ IsT h TI (is.map .ref) ∧ (∃ vs : List Value, vs.length = is.length ∧ IsT h TO vs) ∧ (∀ (j : Nat) (i l : Addr), is[j]? = some i → ls[j]? = some l → SubIt b h i l 0) ∧
    (∀ c o, h0.get? c = some o → h.get? c = some o) ∧ ∀ c, c = z ∨ c = TI ∨ c = TO ∨ c ∈ is → h0.objs.size ≤ c
theorem meets_zip (b : Bool) (ls : List Addr) (n : ls.length ≤ 1000) : Meets (Builtin.«zip.__new__» ⟨.type "zip" :: ls.map .ref, []⟩) (fun _ R s => (∀ l ∈ ls, ∃ xs, SubSeq b s.heap l xs) ∧ ∀ h' z TI TO is, Made b s.heap ls h' z TI TO is → R (.ok (.ret (.ref z))) { s with heap := h' }) := by
  intro prog w A R s ⟨hl, hR⟩
  unfold Builtin.«zip.__new__»
  refine wpAny_bind (newClass_zip ?_)
  show wpAny _ _ (Builtin.SmallTypes.iterAll (ls.map .ref) >>= _) _ _ _
  refine wpAny_bind (iterAll_sub hl fun h' sz kp its => ?_)
  refine wpAny_bind (wpAny_newTuple ?_ (by rw [List.length_map, List.length_range']; exact DL.mil_le (by omega)))
  refine wpAny_bind (wpAny_newTuple ?_ (by rw [List.length_map, List.length_map, List.length_range']; exact DL.mil_le (by omega)))
  refine wpAny_bind ?_
  unfold Builtin.SmallTypes.newRecord
  refine wpAny_newObj_type ?_ ?_
  · let is := List.range' s.heap.objs.size ls.length
    let g1 := h'.push { cls := .type "tuple", data := .seq (is.map Value.ref).toArray }
    let g2 := g1.push { cls := .type "tuple", data := .seq ((is.map Value.ref).map fun _ => Value.none).toArray }
    have s1 : g1.objs.size = h'.objs.size + 1 := Heap.size_push ..
    have s2 : g2.objs.size = h'.objs.size + 2 := by show (Heap.push _ _).objs.size = _; rw [Heap.size_push, s1]
    have mem : ∀ {i}, i ∈ is → s.heap.objs.size ≤ i ∧ i < h'.objs.size := fun {i} h => by
      have := List.mem_range'_1.mp h
      exact ⟨this.1, by rw [sz]; exact this.2⟩
    have low : ∀ l ∈ ls, l < s.heap.objs.size := fun l h => by
      obtain ⟨xs, hq⟩ := hl l h
      cases b with
      | true =>
        obtain ⟨o, e, _⟩ := (show s.heap.IsTuple l xs from hq)
        exact Heap.lt_size e
      | false =>
        obtain ⟨o, e, _⟩ := (show s.heap.IsList l xs from hq)
        exact Heap.lt_size e
    have big : s.heap.objs.size ≤ h'.objs.size := by rw [sz]; exact Nat.le_add_right _ _
    refine wpAny_pure (hR _ g2.objs.size h'.objs.size g1.objs.size is ⟨⟨?_, List.nodup_range', ?_, ?_, ?_, ?_, ?_, ?_, ?_, ?_, ?_⟩, Heap.get?_push_size _ rfl, Heap.get?_push_of_some _ (Heap.get?_push_of_some _ (Heap.get?_push_size _ rfl)), ⟨_, ?_, Heap.get?_push_of_some _ (Heap.get?_push_size _ rfl)⟩, fun j i l e1 e2 => ?_, fun c o e => Heap.get?_push_of_some _ (Heap.get?_push_of_some _ (Heap.get?_push_of_some _ (kp c o e))), fun c hc => ?_⟩)
    · rw [List.length_range']
    · exact Nat.ne_of_gt (show h'.objs.size < g2.objs.size by omega)
    · exact Nat.ne_of_gt (show g1.objs.size < g2.objs.size by omega)
    · exact Nat.ne_of_lt (show h'.objs.size < g1.objs.size by omega)
    · intro h; exact absurd (show g2.objs.size < h'.objs.size from (mem h).2) (by omega)
    · intro h; exact absurd (show h'.objs.size < h'.objs.size from (mem h).2) (by omega)
    · intro h; exact absurd (show g1.objs.size < h'.objs.size from (mem h).2) (by omega)
    · intro h; exact absurd (show g2.objs.size < s.heap.objs.size from low _ h) (by omega)
    · intro h; exact absurd (show g1.objs.size < s.heap.objs.size from low _ h) (by omega)
    · intro i h h2; exact absurd (Nat.lt_of_lt_of_le (low _ h2) (mem h).1) (Nat.lt_irrefl _)
    · rw [List.length_map, List.length_map]
    · have ei : i = s.heap.objs.size + j := by
        have e1 : (List.range' s.heap.objs.size ls.length)[j]? = some i := e1
        have hj := (List.getElem?_eq_some_iff.mp e1).1
        rw [List.length_range'] at hj
        rw [List.getElem?_range' hj] at e1
        have := Option.some.inj e1
        rw [Nat.one_mul] at this
        exact this.symm
      subst ei
      exact (its j l e2).at fun o e => Heap.get?_push_of_some _ (Heap.get?_push_of_some _ (Heap.get?_push_of_some _ e))
    · rcases hc with rfl | rfl | rfl | h
      · exact (show s.heap.objs.size ≤ g2.objs.size by omega)
      · exact big
      · exact (show s.heap.objs.size ≤ g1.objs.size by omega)
      · exact (mem h).1
  · show (5 : Nat) ≤ sizeLine + 2
    rw [sizeLine_eq]
    decide
theorem tc_zip : ∀ (ls : List Value), ls ≠ [] → ls.length ≤ 5 → checkTypeCall "zip" ⟨ls, []⟩ = pure ()
  | [], h, _ => absurd rfl h
  | [a], _, _ => by kernel_rfl
  | [a, b], _, _ => by kernel_rfl
  | [a, b, c], _, _ => by kernel_rfl
  | [a, b, c, d], _, _ => by kernel_rfl
  | [a, b, c, d, e], _, _ => by kernel_rfl
  | _ :: _ :: _ :: _ :: _ :: _ :: _, _, h => absurd h (by simp)
theorem nc_zip : ∀ (ls : List Value), ls ≠ [] → ls.length ≤ 5 → checkBuiltinCall "zip.__new__" ⟨.type "zip" :: ls, []⟩ = pure ()
  | [], h, _ => absurd rfl h
  | [a], _, _ => by kernel_rfl
  | [a, b], _, _ => by kernel_rfl
  | [a, b, c], _, _ => by kernel_rfl
  | [a, b, c, d], _, _ => by kernel_rfl
  | [a, b, c, d, e], _, _ => by kernel_rfl
  | _ :: _ :: _ :: _ :: _ :: _ :: _, _, h => absurd h (by simp)
theorem oi_zip (o : Value) : ∀ (ls : List Value), ls ≠ [] → ls.length ≤ 5 → argsOk "object.__init__" ⟨o :: ls, []⟩
  | [], h, _ => absurd rfl h
  | [a], _, _ => by
    have := F.args_object_init_3 o a a
    unfold argsOk at this ⊢
    rw [signature?_of (id := "object.__init__") (o := ['t', 'c', 'e', 'j', 'b', 'o']) (n := ['_', '_', 't', 'i', 'n', 'i', '_', '_']) (by kernel_rfl) F.owner_object]
    kernel_rfl
  | [a, b], _, _ => F.args_object_init_3 o a b
  | [a, b, c], _, _ => by
    unfold argsOk
    rw [signature?_of (id := "object.__init__") (o := ['t', 'c', 'e', 'j', 'b', 'o']) (n := ['_', '_', 't', 'i', 'n', 'i', '_', '_']) (by kernel_rfl) F.owner_object]
    kernel_rfl
  | [a, b, c, d], _, _ => by
    unfold argsOk
    rw [signature?_of (id := "object.__init__") (o := ['t', 'c', 'e', 'j', 'b', 'o']) (n := ['_', '_', 't', 'i', 'n', 'i', '_', '_']) (by kernel_rfl) F.owner_object]
    kernel_rfl
  | [a, b, c, d, e], _, _ => by
    unfold argsOk
    rw [signature?_of (id := "object.__init__") (o := ['t', 'c', 'e', 'j', 'b', 'o']) (n := ['_', '_', 't', 'i', 'n', 'i', '_', '_']) (by kernel_rfl) F.owner_object]
    kernel_rfl
  | _ :: _ :: _ :: _ :: _ :: _ :: _, _, h => absurd h (by simp)
theorem call_zip {b : Bool} {ls : List Addr} {Q : Value → Shared → Prop} (n1 : ls ≠ []) (n5 : ls.length ≤ 5) (hl : ∀ l ∈ ls, ∃ xs, SubSeq b s.heap l xs) (h : ∀ h' z TI TO is, Made b s.heap ls h' z TI TO is → Q (.ref z) { s with heap := h' }) :
    wpAny (model prog w) A (call (.type "zip") (ls.map .ref)) Q E s := by
  have m1 : ls.map Value.ref ≠ [] := fun e => n1 (List.map_eq_nil_iff.mp e)
  have m5 : (ls.map Value.ref).length ≤ 5 := by rw [List.length_map]; exact n5
  exact callType_new F.called_zip (by decide) (tc_zip _ m1 m5) (nc_zip _ m1 m5) (fun obj => oi_zip obj _ m1 m5) F.entry_zip_new (meets_zip b ls (by omega)) ⟨hl, fun h' z TI TO is M => ⟨⟨_, M.2.1, rfl⟩, h h' z TI TO is M⟩⟩
end
end ZN
-- ZT
set_option maxRecDepth 100000
set_option maxHeartbeats 1000000
namespace ZN
open PySem PySem.Spec PyProof.Rows L2
def SqB (b : Bool) (K : PySem.W.Frag) (H : Hp) (l : Addr) (xs : List V) : Prop := if b = true then SqT K H l xs else SqL K H l xs
/-- the turns of a zip over ls -/
def ItN (K : PySem.W.Frag) (b : Bool) (ls : List Addr) : It :=
  ⟨fun i H => ∀ (j : Nat) (l : Addr), ls[j]? = some l → ∃ xs : List V, SqB b K H l xs ∧ i < xs.length,
    fun i H v H' => ∃ T row, v = .ref T ∧ H T = none ∧ H' = upd H T (.tup row) ∧ row.length = ls.length ∧ ∀ (j : Nat) (l : Addr) (xs : List V), ls[j]? = some l → SqB b K H l xs → row[j]? = xs[i]?,
    fun i H => ∃ l xs, ls[0]? = some l ∧ SqB b K H l xs ∧ xs.length ≤ i⟩
def Stt (b : Bool) (z TI TO : Addr) (is ls : List Addr) (i : Nat) (h : Heap) : Prop :=
  ∃ f0 f1 vs, IsZ h z TI TO f0 f1 ∧ (f0 = .none ∨ ∃ a : Nat, f0 = rawInt a) ∧ IsT h TI (is.map .ref) ∧ (vs : List Value).length = is.length ∧ IsT h TO vs ∧ ∀ (j : Nat) (i' l : Addr), is[j]? = some i' → ls[j]? = some l → SubIt b h i' l i
section
variable {X : Cx} {pins : List (Addr × Obj)} {σ : L2.St} {H : Hp} {s : Shared}
theorem sqB_its (I : Inv X pins σ H s) {b : Bool} {l : Addr} {xs : List V} (h : SqB b X.K H l xs) : ∃ its, Vals xs its ∧ SubSeq b s.heap l its.toArray := by
  cases b with
  | true =>
    obtain ⟨its, r, p, _⟩ := I.tuple (show SqT X.K H l xs from h)
    exact ⟨its, r, p⟩
  | false =>
    obtain ⟨its, r, p, _⟩ := I.list (show SqL X.K H l xs from h)
    exact ⟨its, r, p.isList⟩
theorem sqB_inj (I : Inv X pins σ H s) {b : Bool} {l : Addr} {xs ys : List V} (h : SqB b X.K H l xs) (h2 : SqB b X.K H l ys) : xs = ys := by
  cases b with
  | true => exact I.tuple_inj (show SqT X.K H l xs from h) (show SqT X.K H l ys from h2)
  | false => exact I.list_inj (show SqL X.K H l xs from h) (show SqL X.K H l ys from h2)
theorem rows_at (I : Inv X pins σ H s) {b : Bool} {i : Nat} : ∀ {ls : List Addr}, (∀ l ∈ ls, ∃ xs : List V, SqB b X.K H l xs ∧ i < xs.length) →
    ∃ rowV row, Vals rowV row ∧ rowV.length = ls.length ∧ ∀ (j : Nat) (l : Addr), ls[j]? = some l → ∃ xs its x u, SqB b X.K H l xs ∧ SubSeq b s.heap l its ∧ xs[i]? = some x ∧ its[i]? = some u ∧ rowV[j]? = some x ∧ row[j]? = some u
  | [], _ => ⟨[], [], .nil, rfl, fun j l h => by simp at h⟩
  | l :: ls, h => by
    obtain ⟨rowV, row, r, e, f⟩ := rows_at I (ls := ls) fun l' hl => h l' (List.mem_cons_of_mem _ hl)
    obtain ⟨xs, hq, hi⟩ := h l List.mem_cons_self
    obtain ⟨its, rv, p⟩ := sqB_its I hq
    have hx : xs[i]? = some xs[i] := List.getElem?_eq_getElem hi
    obtain ⟨u, hu, ru⟩ := rv.get hx
    refine ⟨xs[i] :: rowV, u :: row, .cons ru r, by rw [List.length_cons, List.length_cons, e], fun j l' hj => ?_⟩
    cases j with
    | zero =>
      cases hj
      exact ⟨xs, its.toArray, _, u, hq, p, hx, by simpa using hu, rfl, rfl⟩
    | succ j =>
      obtain ⟨xs, its, x, u, a1, a2, a3, a4, a5, a6⟩ := f j l' (by simpa using hj)
      exact ⟨xs, its, x, u, a1, a2, a3, a4, by simpa using a5, by simpa using a6⟩
end
theorem turn_zip {P : Program} {w : World} {K : PySem.W.Frag} {x : Str} {tpos : Pos} {b : Bool} {z TI TO : Addr} {is ls : List Addr} (D : Ap z TI TO is ls) (ne : is ≠ []) (n5 : is.length ≤ 1000) :
    Turn P w K (.Name x tpos) (ItN K b ls) (z :: TI :: TO :: is) z (Stt b z TI TO is ls) where
  mem := List.mem_cons_self
  obj := fun i h ⟨f0, f1, vs, hz, h0, hTI, hv, hTO, hi⟩ c hc => by
    rcases List.mem_cons.mp hc with q | hc
    · rw [q]; exact ⟨_, hz, fun v q => nomatch q⟩
    rcases List.mem_cons.mp hc with q | hc
    · rw [q]; exact ⟨_, hTI, fun v q => nomatch q⟩
    rcases List.mem_cons.mp hc with q | hc
    · rw [q]; exact ⟨_, hTO, fun v q => nomatch q⟩
    · obtain ⟨j, hj⟩ := List.mem_iff_getElem?.mp hc
      obtain ⟨l, hl⟩ := get_both D.len.symm hj
      obtain ⟨o, ws, e1, e2⟩ := (hi j c l hj hl).there
      exact ⟨o, e1, fun v q => by rw [e2] at q; cases q⟩
  keep := fun i h h' ⟨f0, f1, vs, hz, h0, hTI, hv, hTO, hi⟩ k => ⟨f0, f1, vs, k z (by simp) _ hz, h0, k TI (by simp) _ hTI, hv, k TO (by simp) _ hTO, fun j i' l e1 e2 => (hi j i' l e1 e2).at fun o q => k i' (by simp [List.mem_of_getElem? e1]) o q⟩
  item := by
    intro X hP hw hK hc i pins s σ H E I hf ⟨f0, f1, vs, hz, h0, hTI, hv, hTO, hi⟩ hg
    subst hP hw hK
    obtain ⟨rowV, row, rv, lv, at_⟩ := rows_at I (ls := ls) fun l hl => by
      obtain ⟨j, hj⟩ := List.mem_iff_getElem?.mp hl
      exact hg j l hj
    have lr : row.length = is.length := by rw [← rv.length, lv, D.len]
    refine pyNext_item D ne lr hz h0 hTI hv hTO hi (fun j l x h1 h2 => ?_) n5 fun h' f0' f1' vs' hz' h0' hv' hTO' hi' hT hsz kp => ?_
    · obtain ⟨xs, its, y, u, _, a2, _, a4, _, a6⟩ := at_ j l h1
      rw [a6] at h2
      cases h2
      exact ⟨its, a2, a4⟩
    · refine ⟨_, rfl, ?_⟩
      show wpAny _ _ (pure ()) _ _ _
      refine wpAny_pure ?_
      have new : ObjOk X.prog X.w (upd H s.heap.objs.size (.tup rowV)) h' s.heap.objs.size (.tup rowV) :=
        ⟨DL.mil_le (by rw [lv, D.len]; omega), row, rv, ⟨_, hT, rfl, _, rfl⟩⟩
      have I1 : Inv X pins σ (upd H s.heap.objs.size (.tup rowV)) { s with heap := h' } :=
        I.turnedNew (t' := s.toks) (ch := z :: TI :: TO :: is) (fun c o hb q => kp c o (fun e => hb (by simp [e])) (fun e => hb (by simp [e])) (fun e => hb (by simp [e])) q) hf (Nat.le_refl _) new
      have old : ∀ c ∈ z :: TI :: TO :: is, c < s.heap.objs.size := fun c hc => by
        rcases List.mem_cons.mp hc with q | hc
        · rw [q]; exact Heap.lt_size hz
        rcases List.mem_cons.mp hc with q | hc
        · rw [q]; exact Heap.lt_size hTI
        rcases List.mem_cons.mp hc with q | hc
        · rw [q]; exact Heap.lt_size hTO
        · obtain ⟨j, hj⟩ := List.mem_iff_getElem?.mp hc
          obtain ⟨l, hl⟩ := get_both D.len.symm hj
          obtain ⟨o, ws, e1, _⟩ := (hi j c l hj hl).there
          exact Heap.lt_size e1
      refine ⟨.ref s.heap.objs.size, _, I1, rfl, ⟨_, rowV, rfl, I.hok.fresh (Nat.le_refl _), rfl, lv, fun j l xs hl hs => ?_⟩, ⟨f0', f1', vs', hz', h0', kp TI _ D.zTI.symm D.TITO D.TIi hTI, hv', hTO', hi'⟩, fun c hcm => ?_⟩
      · obtain ⟨xs', its, y, u, a1, _, a3, _, a5, _⟩ := at_ j l hl
        rw [sqB_inj I hs a1, a5, a3]
      · rw [upd_ne (Nat.ne_of_lt (old c hcm))]
        exact (hf c hcm).1
  done := by
    intro X hP hw hK hc i pins s σ H E I hf ⟨f0, f1, vs, hz, h0, hTI, hv, hTO, hi⟩ ⟨l, xs, hl, hs, hend⟩
    subst hP hw hK
    match is, ls, D, ne, hTI, hi, hl, hf with
    | i0 :: is, l0 :: ls, D, ne, hTI, hi, hl, hf =>
      cases hl
      obtain ⟨its, rv, p⟩ := sqB_its I hs
      have le := rv.length
      exact pyNext_end (I.ok.hd hc) D hz h0 hTI (hi 0 i0 _ rfl rfl) p (by rw [List.getElem?_toArray]; exact List.getElem?_eq_none (by omega)) fun h' kp => ⟨rfl, I.turnedL (t' := s.toks) (ch := z :: TI :: TO :: i0 :: is) (fun c o hb q => kp c o (fun e => hb (by simp [e])) (fun e => hb (by simp only [List.mem_cons] at e ⊢; exact .inr (.inr (.inr e)))) q) hf⟩
    | i0 :: is, [], D, _, _, _, hl, _ => simp at hl
    | [], _, _, ne, _, _, _, _ => exact absurd rfl ne
  self := fun A i s Q E ⟨f0, f1, vs, hz, _⟩ h => pyIter_self hz h
def iZipN (K : PySem.W.Frag) (te : TE) : TI := fun σ H R => te σ H fun v H1 => ∃ a ls b, v = .ref a ∧ (SqT K H1 a (ls.map V.ref) ∨ SqL K H1 a (ls.map V.ref)) ∧ ls ≠ [] ∧ ls.length ≤ 5 ∧ (∀ l ∈ ls, ∃ ys, SqB b K H1 l ys) ∧ R (ItN K b ls) H1
theorem vals_refs : ∀ {ls : List Addr} {us : List Value}, Vals (ls.map V.ref) us → us = ls.map Value.ref
  | [], _, .nil => rfl
  | l :: ls, _, .cons r t => by
    cases r
    rw [vals_refs t]
    rfl
theorem pi_zipN {X : Cx} {e : Expr} {te : TE} {x : Str} {p pos tpos sp : Pos} (hg : Gl X "zip") (hm : X.mg "zip" = none) (he : PE X e te) (hs : starEach [.Starred e sp] X.env = [(true, eval e X.env)] := by rfl) :
    PI X (.Name x tpos) (.Call (.Name "zip" p) [.Starred e sp] [] pos) (iZipN X.K te) := by
  refine ⟨fun pins s σ H R I h => ?_⟩
  refine Call_ (ld_blt I hg hm PyProof.Rows.boot_zip ?_)
  rw [hs]
  refine PySem.W.ks_call (P := fun _ => True) rfl (fun hp _ => ⟨Keeper.machine, .inr (.inl rfl), fun A Q E s _ q => (show wpAny _ _ (pure Keeper.machine) _ _ _ from wpAny_pure q)⟩) (PySem.W.ks_lone (thn (he.run pins s σ H _ I h) fun v s1 ⟨y, H1, I1, ry, a, ls, b, ey, hq, n1, n5, hl, q⟩ => ?_))
  subst ey
  obtain rfl : v = Value.ref a := ry
  refine StX.star_any I1 hq fun us s2 I2 rv => ⟨trivial, ?_⟩
  have eu := vals_refs rv
  subst eu
  refine call_zip (b := b) n1 n5 (fun l hl' => ?_) fun h' z TI TO is ⟨D, hz, hTI, ⟨vs, hv, hTO⟩, hi, kp, fresh⟩ => ?_
  · obtain ⟨ys, hy⟩ := hl l hl'
    obtain ⟨its, _, p⟩ := sqB_its I2 hy
    exact ⟨_, p⟩
  · refine pyIter_self hz ?_
    have I3 : Inv X pins σ H1 { s2 with heap := h' } := I2.kept (t' := s2.toks) kp
    have ne : is ≠ [] := fun z => n1 (List.length_eq_zero_iff.mp (by rw [D.len, z]; rfl))
    refine ⟨z, z :: TI :: TO :: is, _, _, H1, rfl, I3, turn_zip D ne (by rw [← D.len]; omega), ⟨.none, false, vs, hz, .inl rfl, hTI, hv, hTO, hi⟩, fun c hc => ?_, q⟩
    have hle : s2.heap.objs.size ≤ c := fresh c (by
      simp only [List.mem_cons] at hc
      exact hc)
    exact I2.fpOk hle (I2.hok.fresh hle)
end ZN
-- DS
set_option maxRecDepth 100000
set_option maxHeartbeats 1000000
/-! for x in zip(*rows) -/
namespace DL
open PySem PySem.Spec PyProof.Rows L2 ZN
/-- the columns of rows -/
def colsD (rows : List (List D)) : List D := (List.range (rows.headD []).length).map fun i => .tup (rows.map fun r => r.getD i .non)
def seqD (b : Bool) : List D → D := if b = true then D.tup else D.lst
def iZipS (te : TD) : TDI := fun δ μ Q => te δ μ fun d μ1 => ∃ (b : Bool) (rows : List (List D)), asS μ1 d = some (rows.map (seqD b)) ∧ rows ≠ [] ∧ rows.length ≤ 5 ∧ (∀ r ∈ rows, r.length = (rows.headD []).length) ∧ Q (colsD rows) μ1
theorem x_zipS {te : TD} {δ : DSt} {μ : Mem} {Q : List D → Mem → Prop} (k : te δ μ fun d μ1 => ∃ (b : Bool) (rows : List (List D)), asS μ1 d = some (rows.map (seqD b)) ∧ rows ≠ [] ∧ rows.length ≤ 5 ∧ (∀ r ∈ rows, r.length = (rows.headD []).length) ∧ Q (colsD rows) μ1) : iZipS te δ μ Q := k
section
variable {K : PySem.W.Frag} {F F' H : Hp}
def SqF (b : Bool) (K : PySem.W.Frag) (F : Hp) (l : Addr) (ws : List V) : Prop := if b = true then SqT K F l ws else F l = some (.lst ws)
theorem sqF_B {b : Bool} {l : Addr} {ws : List V} (e : Ex F H) (h : SqF b K F l ws) : SqB b K H l ws := by
  cases b with
  | true => exact ex_t e (show SqT K F l ws from h)
  | false => exact .inl (.inl (e _ _ (show F l = some (.lst ws) from h)))
theorem rows_rep {b : Bool} : ∀ {rows : List (List D)} {vs : List V}, Reps K F vs (rows.map (seqD b)) → ∃ ls : List Addr, vs = ls.map V.ref ∧ ls.length = rows.length ∧ ∀ (j : Nat) (l : Addr) (r : List D), ls[j]? = some l → rows[j]? = some r → ∃ ws, SqF b K F l ws ∧ Reps K F ws r
  | [], _, .nil => ⟨[], rfl, rfl, fun j l r h => by simp at h⟩
  | r :: rows, v :: vs, .cons rv t => by
    obtain ⟨ls, e1, e2, f⟩ := rows_rep t
    have hd : ∃ l ws, v = .ref l ∧ SqF b K F l ws ∧ Reps K F ws r := by
      cases b with
      | true =>
        cases (show Rep K F v (.tup r) from rv) with
        | tup h rr => exact ⟨_, _, rfl, h, rr⟩
      | false =>
        cases (show Rep K F v (.lst r) from rv) with
        | lst h rr => exact ⟨_, _, rfl, h, rr⟩
    obtain ⟨l, ws, rfl, h1, h2⟩ := hd
    refine ⟨l :: ls, by rw [e1]; rfl, by rw [List.length_cons, List.length_cons, e2], fun j l' r' a c => ?_⟩
    cases j with
    | zero =>
      cases a
      cases c
      exact ⟨ws, h1, h2⟩
    | succ j => exact f j l' r' (by simpa using a) (by simpa using c)
theorem reps_at_all : ∀ {vs : List V} {ds : List D}, vs.length = ds.length → (∀ (j : Nat) (v : V) (d : D), vs[j]? = some v → ds[j]? = some d → Rep K F v d) → Reps K F vs ds
  | [], [], _, _ => .nil
  | v :: vs, d :: ds, h, f => .cons (f 0 v d rfl rfl) (reps_at_all (by simpa using h) fun j v' d' a c => f (j + 1) v' d' (by simpa using a) (by simpa using c))
  | [], _ :: _, h, _ => by simp at h
  | _ :: _, [], h, _ => by simp at h
end
theorem colsD_get {rows : List (List D)} {i : Nat} {d : D} (h : (colsD rows)[i]? = some d) : i < (rows.headD []).length ∧ d = .tup (rows.map fun r => r.getD i .non) := by
  unfold colsD at h
  rw [List.getElem?_map] at h
  cases e : (List.range (rows.headD []).length)[i]? with
  | none => rw [e] at h; cases h
  | some k =>
    rw [e] at h
    obtain ⟨h1, h2⟩ := List.getElem?_eq_some_iff.mp e
    rw [List.getElem_range] at h2
    rw [List.length_range] at h1
    subst h2
    exact ⟨h1, (Option.some.inj h).symm⟩
theorem di_zipN {X : Cx} {e : Expr} {te : TD} {x : Str} {p pos tpos sp : Pos} (hm : X.mg "zip" = none) (he : DE X e te) (hg : Gl X "zip" := by rfl) (hs : starEach [.Starred e sp] X.env = [(true, eval e X.env)] := by rfl) :
    DI X (.Name x tpos) (.Call (.Name "zip" p) [.Starred e sp] [] pos) (iZipS te) := by
  refine PI.weak (pi_zipN hg hm he hs) fun σ H R ⟨δ, F, μ, QD, l, rs, q, k⟩ => ⟨δ, F, μ, _, l, rs, q, fun v d F1 μ1 H1 e1 l1 r1 ⟨b, rows, hd, n1, n5, hl, q1⟩ => ?_⟩
  obtain ⟨a, vs, rfl, hq, rr⟩ := asS_rep l1 r1 hd
  obtain ⟨ls, rfl, ll, at_⟩ := rows_rep rr
  have row_of : ∀ {j : Nat} {l : Addr}, ls[j]? = some l → ∃ r, rows[j]? = some r ∧ r ∈ rows := fun {j l} h => by
    obtain ⟨r, hr⟩ := get_both ll h
    exact ⟨r, hr, List.mem_of_getElem? hr⟩
  refine ⟨a, ls, b, rfl, hq.symm, fun z => n1 (List.length_eq_zero_iff.mp (by rw [← ll, z]; rfl)), by rw [ll]; exact n5, fun l' hl' => ?_, k _ _ F1 μ1 H1 e1 l1 (fun i F2 μ2 H2 e2 l2 hi => ⟨fun d hd => ?_, fun hend => ?_⟩) q1⟩
  · obtain ⟨j, hj⟩ := List.mem_iff_getElem?.mp hl'
    obtain ⟨r, hr, _⟩ := row_of hj
    obtain ⟨ws, h1, _⟩ := at_ j l' r hj hr
    exact ⟨ws, sqF_B l1.fz h1⟩
  · obtain ⟨hlt, rfl⟩ := colsD_get hd
    refine ⟨fun j l' hj => ?_, fun y H3 ⟨T, row, ey, hT, eH, len, f⟩ => ?_⟩
    · obtain ⟨r, hr, hm⟩ := row_of hj
      obtain ⟨ws, h1, h2⟩ := at_ j l' r hj hr
      exact ⟨ws, sqF_B (e2.trans l2.fz) h1, by rw [h2.length, hl r hm]; exact hlt⟩
    · subst ey eH
      have ex : Ex F2 (upd F2 T (.tup row)) := Ex.new (l2.none_F hT)
      refine ⟨_, ex, l2.new hT _, .tup (.inl (.inl upd_same)) (reps_at_all (by rw [len, ll, List.length_map]) fun j v' d' a1 a2 => ?_)⟩
      have hj : j < ls.length := by
        have := (List.getElem?_eq_some_iff.mp a1).1
        omega
      have hlj : ls[j]? = some ls[j] := List.getElem?_eq_getElem hj
      obtain ⟨r, hr, hm⟩ := row_of hlj
      obtain ⟨ws, h1, h2⟩ := at_ j _ r hlj hr
      have e3 := f j _ ws hlj (sqF_B (e2.trans l2.fz) h1)
      rw [a1] at e3
      rw [List.getElem?_map, hr] at a2
      obtain ⟨d2, hd2, rd⟩ := h2.getV e3.symm
      have e4 : d' = d2 := by
        have := Option.some.inj a2
        rw [← this]
        show r.getD i .non = d2
        rw [List.getD_eq_getElem?_getD, hd2]
        rfl
      rw [e4]
      exact rd.mono (e2.trans ex)
  · cases hls : ls with
    | nil =>
      rw [hls] at ll
      exact absurd (List.length_eq_zero_iff.mp ll.symm) n1
    | cons l0 lr =>
      have hj : ls[0]? = some l0 := by rw [hls]; rfl
      obtain ⟨r, hr, hm⟩ := row_of hj
      obtain ⟨ws, h1, h2⟩ := at_ 0 l0 r hj hr
      refine ⟨l0, ws, rfl, sqF_B (e2.trans l2.fz) h1, ?_⟩
      rw [h2.length, hl r hm, hend]
      unfold colsD
      rw [List.length_map, List.length_range]
      exact Nat.le_refl _
end DL
namespace DL
open PySem PySem.Spec PyProof.Rows L2
/-! numbers of some bits -/
theorem log2_lt_of {n k : Nat} (h : n < 2 ^ k) (hk : 0 < k) : n.log2 < k := by
  by_cases z : n = 0
  · rw [z, Nat.log2_zero]; exact hk
  · exact (Nat.log2_lt z).mpr h
theorem divOk_of {x y : Int} {k : Nat} (h0 : y ≠ 0) (h : y.natAbs < 2 ^ k) (hk : k ≤ 9000 := by decide) : DivOk x y := by
  refine ⟨h0, PyProof.noPylong_of_log2 (Nat.lt_of_lt_of_le (log2_lt_of (k := 9000) (Nat.lt_of_lt_of_le h (Nat.pow_le_pow_right (by decide) hk)) (by decide)) (Nat.le_refl _))⟩
def rLcm : List V → Hp → VK → Prop := fun vs H Q => ∃ a b : Int, vs = [.int a, .int b] ∧ a.natAbs < 2 ^ 6000 ∧ b.natAbs < 2 ^ 6000 ∧ Q (.int ((Nat.lcm a.natAbs b.natAbs : Nat) : Int)) H
theorem cr_lcm {X : Cx} : CallR X (.builtin "math.lcm") rLcm := by
  intro pins s σ H vs us Q I r h
  obtain ⟨a, b, rfl, ha, hb, q⟩ := h
  obtain ⟨t, u, rfl⟩ := Vals.int2 r
  have l1 : (max 1 a.natAbs).log2 < 6000 := log2_lt_of (Nat.max_lt.mpr ⟨Nat.one_lt_two_pow (by decide), ha⟩) (by decide)
  have l2 : (max a.natAbs b.natAbs).log2 < 6000 := log2_lt_of (Nat.max_lt.mpr ⟨ha, hb⟩) (by decide)
  have e1 : Nat.lcm 1 a.natAbs = a.natAbs := Nat.lcm_one_left _
  have hlt : a.natAbs * b.natAbs < 2 ^ 12000 := by
    have : (2 : Nat) ^ 12000 = 2 ^ 6000 * 2 ^ 6000 := by rw [← Nat.pow_add]
    rw [this]
    exact Nat.mul_lt_mul'' ha hb
  have hle : Nat.lcm a.natAbs b.natAbs ≤ a.natAbs * b.natAbs ∨ Nat.lcm a.natAbs b.natAbs = 0 := by
    by_cases z : a.natAbs * b.natAbs = 0
    · right
      unfold Nat.lcm
      rw [z, Nat.zero_div]
    · left
      exact Nat.le_of_dvd (Nat.pos_of_ne_zero z) (Nat.lcm_dvd (Nat.dvd_mul_right _ _) (Nat.dvd_mul_left _ _))
  have l3 : (Nat.lcm a.natAbs b.natAbs) < 2 ^ 12000 := by
    rcases hle with h | h
    · exact Nat.lt_of_le_of_lt h hlt
    · rw [h]
      exact Nat.two_pow_pos _
  have g := PySem.W.mg_run_lcm a t b u (by omega) (by omega) (by
    rw [e1, Int.natAbs_natCast]
    exact Nat.lt_of_lt_of_le (log2_lt_of l3 (by decide)) (by decide))
  rw [e1] at g
  exact call_function_meets PySem.W.MGF.kind_lcm PySem.W.MGF.plain_lcm PySem.W.MGF.entry_lcm (PySem.W.MGF.args_lcm _ _) g.meets ⟨.int _, H, I.tok _, ⟨_, rfl⟩, q⟩
def dLcm : RDA := fun ds μ Q => ∃ i j : Int, ds = [.int i, .int j] ∧ i.natAbs < 2 ^ 6000 ∧ j.natAbs < 2 ^ 6000 ∧ Q (.int ((Nat.lcm i.natAbs j.natAbs : Nat) : Int)) μ
theorem lift_lcm {K : PySem.W.Frag} : LiftA K rLcm dLcm := fun vs ds F μ H Q QD l rs ⟨i, j, e, h1, h2, q⟩ k => by
  subst e
  obtain ⟨v, u, rfl, r1, r2⟩ := reps2 rs
  exact ⟨i, j, by rw [rep_int r1, rep_int r2], h1, h2, k _ _ F μ H (Ex.refl F) l (.int _) q⟩
end DL
-- DQ
set_option maxRecDepth 100000
/-! fractions: pairs in lowest terms as rational numbers -/
namespace DL
open PySem
def frD (q : Rat) : D := .tup [.int q.num, .int (q.den : Int)]
def gcdI (a b : Int) : Int := ((Nat.gcd a.natAbs b.natAbs : Nat) : Int)
def fracI (a b : Int) : D := .tup [.int (a.fdiv (if 0 < b then gcdI a b else 0 - gcdI a b)), .int (b.fdiv (if 0 < b then gcdI a b else 0 - gcdI a b))]
theorem gcdI_pos {a b : Int} (h : b ≠ 0) : 0 < gcdI a b := by
  unfold gcdI
  have := Nat.gcd_pos_of_pos_right (m := a.natAbs) (n := b.natAbs) (by omega)
  omega
theorem gcdI_le {a b : Int} (h : b ≠ 0) : (gcdI a b).natAbs ≤ b.natAbs := by
  unfold gcdI
  rw [Int.natAbs_natCast]
  exact Nat.gcd_le_right _ (by omega)
theorem gcdI_dvd (a b : Int) : gcdI a b ∣ a ∧ gcdI a b ∣ b := by
  unfold gcdI
  exact ⟨Int.natAbs_dvd_natAbs.mp (by rw [Int.natAbs_natCast]; exact Nat.gcd_dvd_left _ _), Int.natAbs_dvd_natAbs.mp (by rw [Int.natAbs_natCast]; exact Nat.gcd_dvd_right _ _)⟩
theorem frac_rat {a b : Int} (h : b ≠ 0) : fracI a b = frD (Rat.divInt a b) := by
  have g0 := gcdI_pos (a := a) h
  obtain ⟨⟨a', ha⟩, ⟨b', hb⟩⟩ := gcdI_dvd a b
  have eg : (b.gcd a : Int) = gcdI a b := by
    unfold gcdI Int.gcd
    rw [Nat.gcd_comm]
  unfold fracI frD
  rw [Rat.num_divInt, Rat.den_divInt, if_neg h]
  have eden : ((b.natAbs / b.gcd a : Nat) : Int) = (b.natAbs : Int) / gcdI a b := by rw [Int.natCast_ediv, eg]
  rw [eden, eg]
  generalize gcdI a b = g at *
  have gn : g ≠ 0 := by omega
  by_cases hp : 0 < b
  · rw [if_pos hp, Int.sign_eq_one_of_pos hp, Int.one_mul, Int.fdiv_eq_ediv_of_nonneg _ (by omega), Int.fdiv_eq_ediv_of_nonneg _ (by omega)]
    rw [show (b.natAbs : Int) = b by omega]
  · have hn : b < 0 := by omega
    rw [if_neg hp, Int.sign_eq_neg_one_of_neg hn]
    have e1 : a.fdiv (0 - g) = -1 * a / g := by
      rw [ha, show (0 : Int) - g = -g by omega, show g * a' = (-g) * (-a') by rw [Int.neg_mul_neg], Int.mul_fdiv_cancel_left _ (by omega), show -1 * ((-g) * (-a')) = g * (-a') by rw [Int.neg_mul_neg]; simp [Int.mul_neg], Int.mul_ediv_cancel_left _ gn]
    have e2 : b.fdiv (0 - g) = (b.natAbs : Int) / g := by
      rw [show (b.natAbs : Int) = -b by omega, hb, show (0 : Int) - g = -g by omega, show g * b' = (-g) * (-b') by rw [Int.neg_mul_neg], Int.mul_fdiv_cancel_left _ (by omega), show -((-g) * (-b')) = g * (-b') by rw [Int.neg_mul_neg]; simp [Int.mul_neg], Int.mul_ediv_cancel_left _ gn]
    rw [e1, e2]
/-- of at most k bits -/
def BQ (k : Nat) (q : Rat) : Prop := q.num.natAbs < 2 ^ k ∧ q.den < 2 ^ k
theorem den_le {a b : Int} (h : b ≠ 0) : (Rat.divInt a b).den ≤ b.natAbs := by
  rw [Rat.den_divInt, if_neg h]
  exact Nat.div_le_self _ _
theorem num_le {a b : Int} (h : b ≠ 0) : (Rat.divInt a b).num.natAbs ≤ a.natAbs := by
  rw [Rat.num_divInt]
  refine Nat.le_trans (Int.natAbs_ediv_le_natAbs _ _) ?_
  rw [Int.natAbs_mul]
  have : b.sign.natAbs = 1 := by
    rw [Int.natAbs_sign]
    simp [h]
  rw [this, Nat.one_mul]
  exact Nat.le_refl _
theorem BQ.mono {j k : Nat} {q : Rat} (h : BQ j q) (l : j ≤ k) : BQ k q := ⟨Nat.lt_of_lt_of_le h.1 (Nat.pow_le_pow_right (by decide) l), Nat.lt_of_lt_of_le h.2 (Nat.pow_le_pow_right (by decide) l)⟩
theorem den_ne (q : Rat) : (q.den : Int) ≠ 0 := by
  have := q.den_nz
  omega
theorem divInt_self' (q : Rat) : Rat.divInt q.num q.den = q := Rat.num_divInt_den q
theorem mul_divInt (p q : Rat) : Rat.divInt (p.num * q.num) (p.den * q.den) = p * q := by
  have h := Rat.divInt_mul_divInt p.num q.num (d₁ := p.den) (d₂ := q.den)
  rw [divInt_self', divInt_self'] at h
  exact h.symm
theorem add_divInt (p q : Rat) : Rat.divInt (p.num * q.den + q.num * p.den) (p.den * q.den) = p + q := by
  have h := Rat.divInt_add_divInt p.num q.num (den_ne p) (den_ne q)
  rw [divInt_self', divInt_self'] at h
  exact h.symm
end DL
-- DQ2
set_option maxRecDepth 100000
namespace DL
open PySem
def dotQ : List Rat → List Rat → Rat
  | a :: as, b :: bs => a * b + dotQ as bs
  | _, _ => 0
def lcmL (d0 : Nat) (qs : List Rat) : Nat := qs.foldl (fun d q => Nat.lcm d q.den) d0
theorem lcmL_dvd : ∀ (qs : List Rat) (d0 : Nat), d0 ∣ lcmL d0 qs ∧ ∀ q ∈ qs, q.den ∣ lcmL d0 qs
  | [], d0 => ⟨Nat.dvd_refl _, fun q h => absurd h List.not_mem_nil⟩
  | q :: qs, d0 => by
    obtain ⟨h1, h2⟩ := lcmL_dvd qs (Nat.lcm d0 q.den)
    refine ⟨Nat.dvd_trans (Nat.dvd_lcm_left _ _) h1, fun r hr => ?_⟩
    rcases List.mem_cons.mp hr with e | e
    · rw [e]
      exact Nat.dvd_trans (Nat.dvd_lcm_right _ _) h1
    · exact h2 r e
theorem lcm_le {a b : Nat} (ha : a ≠ 0) (hb : b ≠ 0) : Nat.lcm a b ≤ a * b := Nat.le_of_dvd (Nat.mul_pos (by omega) (by omega)) (Nat.lcm_dvd (Nat.dvd_mul_right _ _) (Nat.dvd_mul_left _ _))
theorem lcmL_pos : ∀ (qs : List Rat) (d0 : Nat), d0 ≠ 0 → lcmL d0 qs ≠ 0
  | [], d0, h => h
  | q :: qs, d0, h => lcmL_pos qs _ (Nat.lcm_ne_zero h q.den_nz)
theorem lcmL_lt {k : Nat} : ∀ (qs : List Rat) (d0 j : Nat), d0 ≠ 0 → d0 ≤ 2 ^ j → (∀ q ∈ qs, BQ k q) → lcmL d0 qs ≤ 2 ^ (j + k * qs.length)
  | [], d0, j, _, h, _ => by simpa [lcmL] using h
  | q :: qs, d0, j, h0, h, hq => by
    have hk := (hq q List.mem_cons_self).2
    have h2 : Nat.lcm d0 q.den ≤ 2 ^ (j + k) := by
      rw [Nat.pow_add]
      exact Nat.le_trans (lcm_le h0 q.den_nz) (Nat.mul_le_mul h (Nat.le_of_lt hk))
    have := lcmL_lt qs (Nat.lcm d0 q.den) (j + k) (Nat.lcm_ne_zero h0 q.den_nz) h2 fun r hr => hq r (List.mem_cons_of_mem _ hr)
    rw [List.length_cons, show j + k * (qs.length + 1) = j + k + k * qs.length by rw [Nat.mul_add]; omega]
    exact this
/-- the whole numbers behind a row, over a common divisor -/
def wholeN (d : Nat) (q : Rat) : Int := q.num * ((d / q.den : Nat) : Int)
theorem whole_rat {d : Nat} {q : Rat} (h0 : d ≠ 0) (h : q.den ∣ d) : Rat.divInt (wholeN d q) d = q := by
  obtain ⟨c, hc⟩ := h
  have c0 : c ≠ 0 := fun z => h0 (by rw [hc, z, Nat.mul_zero])
  unfold wholeN
  have e : d / q.den = c := by rw [hc]; exact Nat.mul_div_cancel_left _ (Nat.pos_of_ne_zero q.den_nz)
  rw [e]
  have e2 : (d : Int) = q.den * (c : Int) := by rw [hc]; exact Int.natCast_mul _ _
  rw [e2, Rat.divInt_mul_right (by omega)]
  exact divInt_self' q
theorem whole_lt {d k m : Nat} {q : Rat} (hq : BQ k q) (hd : d ≤ 2 ^ m) : (wholeN d q).natAbs < 2 ^ (k + m) := by
  unfold wholeN
  rw [Int.natAbs_mul, Int.natAbs_natCast, Nat.pow_add]
  have h1 : d / q.den ≤ 2 ^ m := Nat.le_trans (Nat.div_le_self _ _) hd
  have h2 := hq.1
  calc q.num.natAbs * (d / q.den) ≤ q.num.natAbs * 2 ^ m := Nat.mul_le_mul_left _ h1
    _ < 2 ^ k * 2 ^ m := Nat.mul_lt_mul_of_pos_right h2 (Nat.two_pow_pos m)
theorem add_same {a b d : Int} (h : d ≠ 0) : Rat.divInt (a + b) d = Rat.divInt a d + Rat.divInt b d := by
  rw [Rat.divInt_add_divInt a b h h, show a * d + b * d = (a + b) * d by rw [Int.add_mul], Rat.divInt_mul_right h]
theorem zero_same {d : Int} : Rat.divInt 0 d = 0 := Rat.zero_divInt d
/-- the sum of the products of whole numbers over both divisors -/
def sumP : List Int → List Int → Int
  | a :: as, b :: bs => a * b + sumP as bs
  | _, _ => 0
theorem dot_whole {d e : Nat} (hd : d ≠ 0) (he : e ≠ 0) : ∀ {qs rs : List Rat}, (∀ q ∈ qs, q.den ∣ d) → (∀ r ∈ rs, r.den ∣ e) → Rat.divInt (sumP (qs.map (wholeN d)) (rs.map (wholeN e))) ((d : Int) * e) = dotQ qs rs
  | [], rs, _, _ => by
    show Rat.divInt 0 _ = 0
    exact zero_same
  | q :: qs, [], _, _ => by
    show Rat.divInt 0 _ = 0
    exact zero_same
  | q :: qs, r :: rs, h1, h2 => by
    have de : (d : Int) * e ≠ 0 := Int.mul_ne_zero (by omega) (by omega)
    show Rat.divInt (wholeN d q * wholeN e r + sumP (qs.map (wholeN d)) (rs.map (wholeN e))) _ = q * r + dotQ qs rs
    rw [add_same de, dot_whole hd he (fun x hx => h1 x (List.mem_cons_of_mem _ hx)) fun x hx => h2 x (List.mem_cons_of_mem _ hx)]
    have := Rat.divInt_mul_divInt (wholeN d q) (wholeN e r) (d₁ := (d : Int)) (d₂ := (e : Int))
    rw [whole_rat hd (h1 q List.mem_cons_self), whole_rat he (h2 r List.mem_cons_self)] at this
    rw [← this]
theorem sumP_lt {a b : Nat} : ∀ {xs ys : List Int}, (∀ x ∈ xs, x.natAbs < 2 ^ a) → (∀ y ∈ ys, y.natAbs < 2 ^ b) → (sumP xs ys).natAbs ≤ xs.length * 2 ^ (a + b)
  | [], ys, _, _ => by
    show (0 : Int).natAbs ≤ _
    exact Nat.zero_le _
  | x :: xs, [], _, _ => by
    show (0 : Int).natAbs ≤ _
    exact Nat.zero_le _
  | x :: xs, y :: ys, h1, h2 => by
    have ih := sumP_lt (xs := xs) (ys := ys) (fun z hz => h1 z (List.mem_cons_of_mem _ hz)) fun z hz => h2 z (List.mem_cons_of_mem _ hz)
    have e1 := h1 x List.mem_cons_self
    have e2 := h2 y List.mem_cons_self
    show (x * y + sumP xs ys).natAbs ≤ _
    rw [List.length_cons, Nat.add_mul, Nat.one_mul]
    have e3 : (x * y).natAbs ≤ 2 ^ (a + b) := by
      rw [Int.natAbs_mul, Nat.pow_add]
      exact Nat.mul_le_mul (Nat.le_of_lt e1) (Nat.le_of_lt e2)
    have := Int.natAbs_add_le (x * y) (sumP xs ys)
    omega
theorem sum_zip : ∀ (xs ys : List Int), (List.zipWith (· * ·) xs ys).sum = sumP xs ys
  | [], _ => rfl
  | _ :: _, [] => rfl
  | x :: xs, y :: ys => by
    show x * y + (List.zipWith (· * ·) xs ys).sum = _
    rw [sum_zip xs ys]
    rfl
theorem mulOk_of {i j : Int} {a b : Nat} (hi : i.natAbs < 2 ^ a) (hj : j.natAbs < 2 ^ b) (h : a + b ≤ 100000000) : MulOk i j := by
  right
  unfold L2.CMulX
  have bits : ∀ {i : Int} {a : Nat}, i.natAbs < 2 ^ a → Builtin.Int.intBits i ≤ a + 1 := fun {i a} h => by
    unfold Builtin.Int.intBits
    by_cases z : i = 0
    · rw [if_pos (by simp [z])]
      exact Nat.zero_le _
    · rw [if_neg (by simp [z])]
      have : i.natAbs.log2 < a := (Nat.log2_lt (by omega)).mpr h
      omega
  have h1 := bits hi
  have h2 := bits hj
  omega
end DL
-- DQ3
set_option maxRecDepth 100000
namespace DL
open PySem PySem.Spec PyProof.Rows L2
/-! rows and tables of fractions -/
def rowD (qs : List Rat) : D := .tup (qs.map frD)
def tabD (t : List (List Rat)) : D := .tup (t.map rowD)
def Sq (n : Nat) (t : List (List Rat)) : Prop := t.length = n ∧ ∀ r ∈ t, r.length = n
def Bits (k : Nat) (t : List (List Rat)) : Prop := ∀ r ∈ t, ∀ q ∈ r, BQ k q
def colsQ (t : List (List Rat)) : List (List Rat) := (List.range (t.headD []).length).map fun i => t.map fun r => r.getD i 0
def mulQ (a b : List (List Rat)) : List (List Rat) := a.map fun r => (colsQ b).map fun c => dotQ r c
theorem tab_rows (t : List (List Rat)) : tabD t = .tup ((t.map fun r => r.map frD).map D.tup) := by
  unfold tabD
  rw [List.map_map]
  rfl
theorem Sq.head {n : Nat} {t : List (List Rat)} (h : Sq n t) (hn : n ≠ 0) : (t.headD []).length = n := by
  cases t with
  | nil => exact absurd h.1.symm hn
  | cons r t => exact h.2 r List.mem_cons_self
theorem getD_map {r : List Rat} {i : Nat} (h : i < r.length) : (r.map frD).getD i .non = frD (r.getD i 0) := by
  rw [List.getD_eq_getElem?_getD, List.getD_eq_getElem?_getD, List.getElem?_map, List.getElem?_eq_getElem h]
  rfl
theorem cols_tab {n : Nat} {t : List (List Rat)} (h : Sq n t) (hn : n ≠ 0) : colsD (t.map fun r => r.map frD) = (colsQ t).map rowD := by
  unfold colsD colsQ
  have e : ((t.map fun r => r.map frD).headD []).length = (t.headD []).length := by
    cases t with
    | nil => rfl
    | cons r t => simp
  rw [e, List.map_map]
  refine List.map_congr_left fun i hi => ?_
  have hi := List.mem_range.mp hi
  rw [h.head hn] at hi
  show D.tup _ = D.tup _
  rw [List.map_map, List.map_map]
  refine congrArg D.tup (List.map_congr_left fun r hr => ?_)
  exact getD_map (by rw [h.2 r hr]; exact hi)
theorem Sq.cols {n : Nat} {t : List (List Rat)} (h : Sq n t) (hn : n ≠ 0) : Sq n (colsQ t) := by
  refine ⟨?_, fun c hc => ?_⟩
  · unfold colsQ
    rw [List.length_map, List.length_range, h.head hn]
  · obtain ⟨i, _, rfl⟩ := List.mem_map.mp hc
    rw [List.length_map, h.1]
theorem Bits.cols {n k : Nat} {t : List (List Rat)} (b : Bits k t) (h : Sq n t) (hn : n ≠ 0) : Bits k (colsQ t) := by
  intro c hc q hq
  obtain ⟨i, hi, rfl⟩ := List.mem_map.mp hc
  obtain ⟨r, hr, rfl⟩ := List.mem_map.mp hq
  have hi := List.mem_range.mp hi
  rw [h.head hn] at hi
  have hl : i < r.length := by rw [h.2 r hr]; exact hi
  rw [List.getD_eq_getElem?_getD, List.getElem?_eq_getElem hl]
  exact b r hr _ (List.getElem_mem hl)
theorem Sq.mul {n : Nat} {a b : List (List Rat)} (ha : Sq n a) (hb : Sq n b) (hn : n ≠ 0) : Sq n (mulQ a b) := by
  refine ⟨by unfold mulQ; rw [List.length_map, ha.1], fun r hr => ?_⟩
  obtain ⟨x, hx, rfl⟩ := List.mem_map.mp hr
  rw [List.length_map, (hb.cols hn).1]
theorem divInt_bits {a b : Int} {k : Nat} (h : b ≠ 0) (ha : a.natAbs < 2 ^ k) (hb : b.natAbs < 2 ^ k) : BQ k (Rat.divInt a b) := ⟨Nat.lt_of_le_of_lt (num_le h) ha, Nat.lt_of_le_of_lt (den_le h) hb⟩
theorem dot_bits {n k1 k2 : Nat} {qs rs : List Rat} (h1 : ∀ q ∈ qs, BQ k1 q) (h2 : ∀ r ∈ rs, BQ k2 r) (l1 : qs.length = n) (l2 : rs.length = n) (hn : n ≤ 5) : BQ ((k1 + k2) * (n + 1) + 3) (dotQ qs rs) := by
  have d1 := lcmL_pos qs 1 (by decide)
  have d2 := lcmL_pos rs 1 (by decide)
  have b1 := lcmL_lt qs 1 0 (by decide) (by decide) h1
  have b2 := lcmL_lt rs 1 0 (by decide) (by decide) h2
  rw [l1, Nat.zero_add] at b1
  rw [l2, Nat.zero_add] at b2
  rw [← dot_whole d1 d2 (lcmL_dvd qs 1).2 (lcmL_dvd rs 1).2]
  have hs := sumP_lt (a := k1 + k1 * n) (b := k2 + k2 * n) (xs := qs.map (wholeN (lcmL 1 qs))) (ys := rs.map (wholeN (lcmL 1 rs)))
    (fun x hx => by obtain ⟨q, hq, rfl⟩ := List.mem_map.mp hx; exact whole_lt (h1 q hq) b1) (fun x hx => by obtain ⟨q, hq, rfl⟩ := List.mem_map.mp hx; exact whole_lt (h2 q hq) b2)
  rw [List.length_map, l1] at hs
  have e : k1 + k1 * n + (k2 + k2 * n) = (k1 + k2) * (n + 1) := by rw [Nat.mul_add, Nat.add_mul]; omega
  rw [e] at hs
  have p := Nat.two_pow_pos ((k1 + k2) * (n + 1))
  refine divInt_bits (Int.mul_ne_zero (by omega) (by omega)) ?_ ?_
  · rw [Nat.pow_add]
    refine Nat.lt_of_le_of_lt hs ?_
    rw [Nat.mul_comm]
    exact Nat.mul_lt_mul_of_pos_left (show n < 2 ^ 3 by omega) p
  · rw [Int.natAbs_mul, Int.natAbs_natCast, Int.natAbs_natCast]
    refine Nat.lt_of_le_of_lt (Nat.mul_le_mul b1 b2) ?_
    rw [← Nat.pow_add]
    refine Nat.pow_lt_pow_right (by decide) ?_
    rw [Nat.mul_add, Nat.add_mul]
    omega
theorem Bits.mul {n k1 k2 : Nat} {a b : List (List Rat)} (ha : Sq n a) (hb : Sq n b) (hn : n ≠ 0) (h5 : n ≤ 5) (b1 : Bits k1 a) (b2 : Bits k2 b) : Bits ((k1 + k2) * (n + 1) + 3) (mulQ a b) := by
  intro r hr q hq
  obtain ⟨x, hx, rfl⟩ := List.mem_map.mp hr
  obtain ⟨c, hc, rfl⟩ := List.mem_map.mp hq
  exact dot_bits (b1 x hx) (b2.cols hb hn c hc) (ha.2 x hx) ((hb.cols hn).2 c hc) h5

theorem lcD_map {α : Type} {g : Tg} {tt : TDT} {te : TD} {δ : DSt} {Q : DK} {μ : Mem} {Dn : Addr} (u v : α → D) : ∀ (xs : List α) (acc : List D), acc.length + xs.length ≤ 1000000 → μ Dn = none →
    (∀ x ∈ xs, ∀ acc k, k (some (v x)) (mset μ Dn acc) → lcStep g tt te δ (u x) (mset μ Dn acc) k) → Q (.lst (acc ++ xs.map v)) μ → lcD g tt te δ Dn (xs.map u) (mset μ Dn acc) Q
  | [], acc, _, hn, _, q => ⟨acc, mset_same, by rw [mdel_mset hn]; rw [List.map_nil, List.append_nil] at q; exact q⟩
  | x :: xs, acc, hz, hn, st, q => by
    refine st x List.mem_cons_self _ _ ⟨acc, mset_same, by rw [List.length_cons] at hz; omega, ?_⟩
    rw [List.map_cons] at q
    show lcD g tt te δ Dn (xs.map u) (mset (mset μ Dn acc) Dn (acc ++ [v x])) Q
    rw [mset_mset]
    exact lcD_map u v xs (acc ++ [v x]) (by rw [List.length_append, List.length_cons] at *; simp; omega) hn (fun x' hx => st x' (List.mem_cons_of_mem _ hx)) (by rw [List.append_assoc]; exact q)
/-- a comprehension over xs.map u that makes xs.map v of it; the lists that were there can be read -/
theorem lc_map {α : Type} {g : Tg} {tt : TDT} {te : TD} {δ : DSt} {Q : DK} {μ : Mem} (xs : List α) (u v : α → D) (hz : xs.length ≤ 1000000)
    (st : ∀ x ∈ xs, ∀ Dn acc k, μ Dn = none → k (some (v x)) (mset μ Dn acc) → lcStep g tt te δ (u x) (mset μ Dn acc) k) (q : Q (.lst (xs.map v)) μ) : ∀ Dn, μ Dn = none → lcD g tt te δ Dn (xs.map u) (mset μ Dn []) Q := fun Dn hn =>
  lcD_map u v xs [] (by rw [List.length_nil]; omega) hn (fun x hx acc k hk => st x hx Dn acc k hn hk) (by rw [List.nil_append]; exact q)

section
variable {μ : Mem} {Q : DK} {p q : Rat}
theorem x_fr0 (k : Q (.int p.num) μ) : dIx (frD p) (.int 0) μ Q := x_ixT (e := .int p.num) rfl k
theorem x_fr1 (k : Q (.int (p.den : Int)) μ) : dIx (frD p) (.int 1) μ Q := x_ixT (e := .int (p.den : Int)) rfl k
end
theorem BQ.mul {j k : Nat} {p q : Rat} (h1 : BQ j p) (h2 : BQ k q) : BQ (j + k) (p * q) := by
  rw [← mul_divInt p q]
  have e := den_ne p
  have e2 := den_ne q
  refine divInt_bits (Int.mul_ne_zero e e2) ?_ ?_
  · rw [Int.natAbs_mul, Nat.pow_add]
    exact Nat.mul_lt_mul'' h1.1 h2.1
  · rw [Int.natAbs_mul, Int.natAbs_natCast, Int.natAbs_natCast, Nat.pow_add]
    exact Nat.mul_lt_mul'' h1.2 h2.2
theorem add_lt {j k : Nat} {p q : Rat} (h1 : BQ j p) (h2 : BQ k q) : (p.num * q.den + q.num * p.den).natAbs < 2 ^ (j + k + 1) := by
  have a1 : (p.num * q.den).natAbs < 2 ^ (j + k) := by
    rw [Int.natAbs_mul, Int.natAbs_natCast, Nat.pow_add]
    exact Nat.mul_lt_mul'' h1.1 h2.2
  have a2 : (q.num * p.den).natAbs < 2 ^ (j + k) := by
    rw [Int.natAbs_mul, Int.natAbs_natCast, Nat.add_comm, Nat.pow_add]
    exact Nat.mul_lt_mul'' h2.1 h1.2
  have := Int.natAbs_add_le (p.num * q.den) (q.num * p.den)
  rw [Nat.pow_succ]
  omega
theorem BQ.add {j k : Nat} {p q : Rat} (h1 : BQ j p) (h2 : BQ k q) : BQ (j + k + 1) (p + q) := by
  rw [← add_divInt p q]
  refine divInt_bits (Int.mul_ne_zero (den_ne p) (den_ne q)) (add_lt h1 h2) ?_
  rw [Int.natAbs_mul, Int.natAbs_natCast, Int.natAbs_natCast]
  refine Nat.lt_trans (Nat.mul_lt_mul'' h1.2 h2.2) ?_
  rw [← Nat.pow_add]
  exact Nat.pow_lt_pow_right (by decide) (by omega)
theorem num_zero {q : Rat} : q.num = 0 ↔ q = 0 := Rat.num_eq_zero
theorem BQ.natAbs_den {k : Nat} {q : Rat} (h : BQ k q) : ((q.den : Int)).natAbs < 2 ^ k := by
  rw [Int.natAbs_natCast]
  exact h.2
end DL
-- DQ4
set_option maxRecDepth 100000
namespace DL
open PySem PySem.Spec PyProof.Rows L2
/-! the algebra of square tables -/
def sumN : Nat → (Nat → Rat) → Rat
  | 0, _ => 0
  | n + 1, f => sumN n f + f n
theorem sumN_congr : ∀ {n : Nat} {f g : Nat → Rat}, (∀ k, k < n → f k = g k) → sumN n f = sumN n g
  | 0, _, _, _ => rfl
  | n + 1, f, g, h => by
    show sumN n f + f n = sumN n g + g n
    rw [sumN_congr fun k hk => h k (by omega), h n (by omega)]
theorem sumN_zero : ∀ n : Nat, sumN n (fun _ => 0) = 0
  | 0 => rfl
  | n + 1 => by
    show sumN n _ + 0 = 0
    rw [sumN_zero n, Rat.add_zero]
theorem sumN_add : ∀ (n : Nat) (f g : Nat → Rat), sumN n (fun k => f k + g k) = sumN n f + sumN n g
  | 0, _, _ => (Rat.add_zero 0).symm
  | n + 1, f, g => by
    show sumN n _ + (f n + g n) = (sumN n f + f n) + (sumN n g + g n)
    rw [sumN_add n f g]
    simp only [Rat.add_assoc, Rat.add_comm, Rat.add_left_comm]
theorem sumN_left (c : Rat) : ∀ (n : Nat) (f : Nat → Rat), sumN n (fun k => c * f k) = c * sumN n f
  | 0, _ => (Rat.mul_zero c).symm
  | n + 1, f => by
    show sumN n _ + c * f n = c * (sumN n f + f n)
    rw [sumN_left c n f, Rat.mul_add]
theorem sumN_right (c : Rat) : ∀ (n : Nat) (f : Nat → Rat), sumN n (fun k => f k * c) = sumN n f * c
  | 0, _ => (Rat.zero_mul c).symm
  | n + 1, f => by
    show sumN n _ + f n * c = (sumN n f + f n) * c
    rw [sumN_right c n f, Rat.add_mul]
theorem sumN_swap (m : Nat) : ∀ (n : Nat) (f : Nat → Nat → Rat), sumN n (fun i => sumN m (fun j => f i j)) = sumN m (fun j => sumN n (fun i => f i j))
  | 0, f => (sumN_zero m).symm
  | n + 1, f => by
    show sumN n _ + sumN m _ = _
    rw [sumN_swap m n f, ← sumN_add]
    rfl
theorem sumN_one {i : Nat} : ∀ {n : Nat} (f : Nat → Rat), i < n → sumN n (fun k => if k = i then f k else 0) = f i
  | 0, _, h => by omega
  | n + 1, f, h => by
    show sumN n _ + (if n = i then f n else 0) = f i
    by_cases e : n = i
    · rw [if_pos e, sumN_congr (g := fun _ => 0) fun k hk => if_neg (by omega), sumN_zero, Rat.zero_add, e]
    · rw [if_neg e, sumN_one f (by omega), Rat.add_zero]
theorem sumN_shift : ∀ (n : Nat) (f : Nat → Rat), sumN (n + 1) f = f 0 + sumN n (fun k => f (k + 1))
  | 0, f => by
    show 0 + f 0 = f 0 + 0
    rw [Rat.zero_add, Rat.add_zero]
  | n + 1, f => by
    show sumN (n + 1) f + f (n + 1) = _
    rw [sumN_shift n f]
    show f 0 + _ + f (n + 1) = f 0 + (sumN n (fun k => f (k + 1)) + f (n + 1))
    rw [Rat.add_assoc]
theorem dot_sum : ∀ {n : Nat} {r c : List Rat}, r.length = n → c.length = n → dotQ r c = sumN n (fun k => r.getD k 0 * c.getD k 0)
  | 0, [], [], _, _ => rfl
  | n + 1, a :: r, b :: c, h1, h2 => by
    rw [List.length_cons] at h1 h2
    rw [sumN_shift]
    show a * b + dotQ r c = a * b + _
    rw [dot_sum (n := n) (r := r) (c := c) (by omega) (by omega)]
    rfl
/-- the entry in row i and column j -/
def ent (t : List (List Rat)) (i j : Nat) : Rat := (t.getD i []).getD j 0
theorem getD_lt {α : Type} {xs : List α} {i : Nat} {d : α} (h : i < xs.length) : xs.getD i d = xs[i] := by
  rw [List.getD_eq_getElem?_getD, List.getElem?_eq_getElem h]
  rfl
theorem getD_mapL {α β : Type} {f : α → β} {xs : List α} {i : Nat} {d : α} {e : β} (h : i < xs.length) : (xs.map f).getD i e = f (xs.getD i d) := by
  rw [getD_lt (by rw [List.length_map]; exact h), List.getElem_map, getD_lt h]
theorem getD_range {n i d : Nat} (h : i < n) : (List.range n).getD i d = i := by
  rw [getD_lt (by rw [List.length_range]; exact h), List.getElem_range]
theorem Sq.row {n i : Nat} {t : List (List Rat)} (h : Sq n t) (hi : i < n) : (t.getD i []).length = n := by
  rw [getD_lt (by rw [h.1]; exact hi)]
  exact h.2 _ (List.getElem_mem _)
theorem sq_ext {n : Nat} {a b : List (List Rat)} (ha : Sq n a) (hb : Sq n b) (h : ∀ i j, i < n → j < n → ent a i j = ent b i j) : a = b := by
  refine List.ext_getElem (ha.1.trans hb.1.symm) fun i h1 h2 => ?_
  have hi : i < n := by rw [← ha.1]; exact h1
  have r1 := ha.row hi
  have r2 := hb.row hi
  rw [getD_lt h1] at r1
  rw [getD_lt h2] at r2
  refine List.ext_getElem (r1.trans r2.symm) fun j h3 h4 => ?_
  have := h i j hi (by rw [← r1]; exact h3)
  unfold ent at this
  rw [getD_lt h1, getD_lt h2, getD_lt h3, getD_lt h4] at this
  exact this
theorem ent_cols {n i j : Nat} {t : List (List Rat)} (h : Sq n t) (hn : n ≠ 0) (hi : i < n) (hj : j < n) : ent (colsQ t) i j = ent t j i := by
  unfold ent colsQ
  rw [h.head hn, getD_mapL (d := 0) (by rw [List.length_range]; exact hi), getD_range hi, getD_mapL (d := []) (by rw [h.1]; exact hj)]
theorem ent_mul {n i j : Nat} {a b : List (List Rat)} (ha : Sq n a) (hb : Sq n b) (hn : n ≠ 0) (hi : i < n) (hj : j < n) : ent (mulQ a b) i j = sumN n (fun k => ent a i k * ent b k j) := by
  have e : ent (mulQ a b) i j = dotQ (a.getD i []) ((colsQ b).getD j []) := by
    unfold ent mulQ
    rw [getD_mapL (d := []) (by rw [ha.1]; exact hi), getD_mapL (d := []) (by rw [(hb.cols hn).1]; exact hj)]
  rw [e, dot_sum (ha.row hi) ((hb.cols hn).row hj)]
  refine sumN_congr fun k hk => ?_
  have := ent_cols hb hn hj hk
  unfold ent at this ⊢
  rw [this]
theorem mul_assocQ {n : Nat} {a b c : List (List Rat)} (ha : Sq n a) (hb : Sq n b) (hc : Sq n c) (hn : n ≠ 0) : mulQ (mulQ a b) c = mulQ a (mulQ b c) := by
  refine sq_ext ((ha.mul hb hn).mul hc hn) (ha.mul (hb.mul hc hn) hn) fun i j hi hj => ?_
  rw [ent_mul (ha.mul hb hn) hc hn hi hj, ent_mul ha (hb.mul hc hn) hn hi hj]
  rw [sumN_congr (g := fun k => sumN n (fun l => ent a i l * ent b l k * ent c k j)) fun k hk => by rw [ent_mul ha hb hn hi hk, sumN_right]]
  rw [sumN_swap]
  refine sumN_congr fun l hl => ?_
  rw [ent_mul hb hc hn hl hj, ← sumN_left]
  exact sumN_congr fun k hk => Rat.mul_assoc _ _ _
theorem cols_cols {n : Nat} {a : List (List Rat)} (ha : Sq n a) (hn : n ≠ 0) : colsQ (colsQ a) = a := by
  refine sq_ext ((ha.cols hn).cols hn) ha fun i j hi hj => ?_
  rw [ent_cols (ha.cols hn) hn hi hj, ent_cols ha hn hj hi]
theorem cols_mul {n : Nat} {a b : List (List Rat)} (ha : Sq n a) (hb : Sq n b) (hn : n ≠ 0) : colsQ (mulQ a b) = mulQ (colsQ b) (colsQ a) := by
  refine sq_ext ((ha.mul hb hn).cols hn) ((hb.cols hn).mul (ha.cols hn) hn) fun i j hi hj => ?_
  rw [ent_cols (ha.mul hb hn) hn hi hj, ent_mul ha hb hn hj hi, ent_mul (hb.cols hn) (ha.cols hn) hn hi hj]
  refine sumN_congr fun k hk => ?_
  rw [ent_cols hb hn hi hk, ent_cols ha hn hk hj, Rat.mul_comm]
/-- ones on the diagonal -/
def oneQ (n : Nat) : List (List Rat) := (List.range n).map fun j => (List.range n).map fun k => if k = j then 1 else 0
theorem one_sq (n : Nat) : Sq n (oneQ n) := ⟨by unfold oneQ; rw [List.length_map, List.length_range], fun r h => by
  obtain ⟨j, _, rfl⟩ := List.mem_map.mp h
  rw [List.length_map, List.length_range]⟩
theorem ent_one {n i j : Nat} (hi : i < n) (hj : j < n) : ent (oneQ n) i j = if j = i then 1 else 0 := by
  unfold ent oneQ
  rw [getD_mapL (d := 0) (by rw [List.length_range]; exact hi), getD_range hi, getD_mapL (d := 0) (by rw [List.length_range]; exact hj), getD_range hj]
theorem one_bits (n : Nat) : Bits 1 (oneQ n) := fun r hr q hq => by
  obtain ⟨j, _, rfl⟩ := List.mem_map.mp hr
  obtain ⟨k, _, rfl⟩ := List.mem_map.mp hq
  split
  · exact ⟨by decide, by decide⟩
  · exact ⟨by decide, by decide⟩
theorem one_cols {n : Nat} (hn : n ≠ 0) : colsQ (oneQ n) = oneQ n := by
  refine sq_ext ((one_sq n).cols hn) (one_sq n) fun i j hi hj => ?_
  rw [ent_cols (one_sq n) hn hi hj, ent_one hj hi, ent_one hi hj]
  by_cases e : i = j
  · rw [if_pos e, if_pos e.symm]
  · rw [if_neg e, if_neg (Ne.symm e)]
theorem mul_one {n : Nat} {a : List (List Rat)} (ha : Sq n a) (hn : n ≠ 0) : mulQ a (oneQ n) = a := by
  refine sq_ext (ha.mul (one_sq n) hn) ha fun i j hi hj => ?_
  rw [ent_mul ha (one_sq n) hn hi hj, sumN_congr (g := fun k => if k = j then ent a i k else 0) fun k hk => ?_, sumN_one _ hj]
  rw [ent_one hk hj]
  by_cases e : k = j
  · rw [if_pos e, if_pos e.symm, Rat.mul_one]
  · rw [if_neg e, if_neg (Ne.symm e), Rat.mul_zero]
theorem one_mul {n : Nat} {a : List (List Rat)} (ha : Sq n a) (hn : n ≠ 0) : mulQ (oneQ n) a = a := by
  refine sq_ext ((one_sq n).mul ha hn) ha fun i j hi hj => ?_
  rw [ent_mul (one_sq n) ha hn hi hj, sumN_congr (g := fun k => if k = i then ent a k j else 0) fun k hk => ?_, sumN_one (i := i) (fun k => ent a k j) hi]
  rw [ent_one hi hk]
  by_cases e : k = i
  · rw [if_pos e, if_pos e, Rat.one_mul]
  · rw [if_neg e, if_neg e, Rat.zero_mul]
/-! how long a text of data gets -/
theorem int_len {i : Int} (h : i.natAbs.log2 < 1920) : ((toString i : String) : Str).length ≤ 601 := by
  have hlt : i.natAbs < 10 ^ 600 := by
    by_cases z : i.natAbs = 0
    · rw [z]; exact Nat.pow_pos (by decide)
    · exact Nat.lt_of_lt_of_le ((Nat.log2_lt z).mp h) (by decide +kernel)
  have e := (Nat.length_repr_le_iff (n := i.natAbs) (by decide : 0 < 600)).mpr hlt
  show (Str.ofString (toString i)).length ≤ 601
  rw [PySem.ofString_length, Int.toString_eq_repr, Int.repr_eq_if]
  clear hlt h
  split
  · rw [show i.toNat = i.natAbs by omega]
    exact Nat.le_trans e (by decide)
  · rw [String.length_append, show (-i).toNat = i.natAbs by omega]
    exact Nat.add_le_add (show 1 ≤ 1 from Nat.le_refl _) e
/-- a value that repr may be asked of, in a list: no longer than w, no deeper than k -/
def SO (w k : Nat) (d : D) : Prop := ∃ p, toPyR d = some p ∧ p.showable = true ∧ p.hasDict = false ∧ p.depth ≤ k ∧ p.shown.length ≤ w
theorem SO.mono {w w' k k' : Nat} {d : D} (h : SO w k d) (hw : w ≤ w') (hk : k ≤ k') : SO w' k' d := by
  obtain ⟨p, h1, h2, h3, h4, h5⟩ := h
  exact ⟨p, h1, h2, h3, by omega, by omega⟩
theorem so_int {i : Int} (h : i.natAbs.log2 < 1920) : SO 601 0 (.int i) := ⟨.int i, rfl, decide_eq_true h, rfl, Nat.le_refl _, int_len h⟩
theorem so_bl {b : Bool} : SO 5 0 (.bl b) := ⟨.bool b, rfl, rfl, rfl, Nat.le_refl _, by cases b <;> decide⟩
theorem so_all {w k : Nat} : ∀ {ds : List D}, (∀ d ∈ ds, SO w k d) → ∃ ps, toPyRs ds = some ps ∧ PyData.showableAll ps = true ∧ PyData.hasDictAll ps = false ∧ PyData.depthAll ps ≤ k ∧ ((PyData.shownAll ps).map (·.length)).sum ≤ ds.length * w ∧ (PyData.shownAll ps).length = ds.length
  | [], _ => ⟨[], rfl, rfl, rfl, Nat.zero_le _, Nat.zero_le _, rfl⟩
  | d :: ds, h => by
    obtain ⟨p, h1, h2, h3, h4, h5⟩ := h d List.mem_cons_self
    obtain ⟨ps, g1, g2, g3, g4, g5, g6⟩ := so_all (ds := ds) fun e he => h e (List.mem_cons_of_mem _ he)
    refine ⟨p :: ps, ?_, ?_, ?_, ?_, ?_, ?_⟩
    · simp only [toPyRs, h1, g1]
    · simp only [PyData.showableAll, h2, g2, Bool.and_self]
    · simp only [PyData.hasDictAll, h3, g3, Bool.or_self]
    · simp only [PyData.depthAll]
      omega
    · simp only [PyData.shownAll, List.map_cons, List.sum_cons, List.length_cons, Nat.succ_mul]
      omega
    · simp only [PyData.shownAll, List.length_cons, g6]
theorem so_tup {w k n : Nat} {ds : List D} (h : ∀ d ∈ ds, SO w k d) (hn : ds.length ≤ n) : SO (n * (w + 2) + 3) (k + 1) (.tup ds) := by
  obtain ⟨ps, g1, g2, g3, g4, g5, g6⟩ := so_all h
  refine ⟨.tuple ps, by simp only [toPyR, g1, Option.map_some], by simp only [PyData.showable, g2], by simp only [PyData.hasDict, g3], ?_, ?_⟩
  · simp only [PyData.depth]
    omega
  · simp only [PyData.shown]
    have := tupleText_len_le (PyData.shownAll ps)
    have m := Nat.mul_le_mul_right (w + 2) hn
    rw [g6] at this
    rw [Nat.mul_add] at m
    omega
theorem so_lst {w k n : Nat} {ds : List D} (h : ∀ d ∈ ds, SO w k d) (hn : ds.length ≤ n) : SO (n * (w + 2) + 3) (k + 1) (.lst ds) := by
  obtain ⟨ps, g1, g2, g3, g4, g5, g6⟩ := so_all h
  refine ⟨.list ps, by simp only [toPyR, g1, Option.map_some], by simp only [PyData.showable, g2], by simp only [PyData.hasDict, g3], ?_, ?_⟩
  · simp only [PyData.depth]
    omega
  · simp only [PyData.shown]
    have := listText_len_le (PyData.shownAll ps)
    have m := Nat.mul_le_mul_right (w + 2) hn
    rw [g6] at this
    rw [Nat.mul_add] at m
    omega
theorem so_showE {w k : Nat} {d : D} (h : SO w k d) (hw : w ≤ 16000000) (hk : k ≤ 60) : ∃ p, ShowOk d p := by
  obtain ⟨p, h1, h2, h3, h4, h5⟩ := h
  exact ⟨p, h1, h2, (fun z => by rw [h3] at z; cases z), by omega, by rw [sizeLine_eq]; omega⟩
theorem so_fr {q : Rat} {k : Nat} (h : BQ k q) (hk : k ≤ 1900) : SO 1209 1 (frD q) := by
  have lg : ∀ n : Nat, n < 2 ^ k → n.log2 < 1920 := fun n hn => by
    by_cases z : n = 0
    · rw [z]; decide
    · exact Nat.lt_trans ((Nat.log2_lt z).mpr hn) (by omega)
  refine so_tup (w := 601) (k := 0) (n := 2) (fun d hd => ?_) (Nat.le_refl _)
  simp only [List.mem_cons, List.not_mem_nil, or_false] at hd
  rcases hd with rfl | rfl
  · exact so_int (lg _ h.1)
  · exact so_int (lg _ (by rw [Int.natAbs_natCast]; exact h.2))
theorem so_row {qs : List Rat} {k : Nat} (h : ∀ q ∈ qs, BQ k q) (hk : k ≤ 1900) (hn : qs.length ≤ 5) : SO 6058 2 (rowD qs) :=
  so_tup (w := 1209) (k := 1) (n := 5) (fun d hd => by
    obtain ⟨q, hq, rfl⟩ := List.mem_map.mp hd
    exact so_fr (h q hq) hk) (by rw [List.length_map]; exact hn)
theorem so_tab {t : List (List Rat)} {k n : Nat} (s : Sq n t) (h : Bits k t) (hk : k ≤ 1900) (hn : n ≤ 5) : SO 30303 3 (tabD t) :=
  so_tup (w := 6058) (k := 2) (n := 5) (fun d hd => by
    obtain ⟨r, hr, rfl⟩ := List.mem_map.mp hd
    exact so_row (h r hr) hk (by rw [s.2 r hr]; exact hn)) (by rw [List.length_map, s.1]; exact hn)
/-- repr of a value and of the same value -/
theorem x_reprE {w k : Nat} {d : D} {Q : DK} {μ : Mem} (h : SO w k d) (hw : w ≤ 16000000) (hk : k ≤ 60) (q : ∀ s : Str, (∀ Q μ, Q (.str s) μ → dRepr [d] μ Q) → Q (.str s) μ) : dRepr [d] μ Q := by
  obtain ⟨p, hp⟩ := so_showE h hw hk
  exact x_repr hp (q _ fun Q μ k => x_repr hp k)
/-! a, b, c = x, y, z -/
section
open PySem.HandSPX
variable {X : Cx} {pos : Pos}
theorem reps3 {K : PySem.W.Frag} {F : Hp} {vs : List V} {d e g : D} (r : Reps K F vs [d, e, g]) : ∃ v u w, vs = [v, u, w] ∧ Rep K F v d ∧ Rep K F u e ∧ Rep K F w g := by
  cases r with
  | cons r1 r2 =>
    obtain ⟨u, w, rfl, r3, r4⟩ := reps2 r2
    exact ⟨_, _, _, rfl, r1, r3, r4⟩
def dPar3 (i j l : Nat) (ta : TDA) : TDS := fun E δ μ => ta δ μ fun ds μ1 => ∃ d e g, ds = [d, e, g] ∧ E.nx (((δ.set i (some d)).set j (some e)).set l (some g)) μ1
theorem ds_par3 {i j l : Nat} {ta : TDA} {st : Stmt} (h : PS X st (tPar3 i j l (aOf X.K ta))) : DS X st (dPar3 i j l ta) :=
  PS.weak h fun D σ H ⟨δ, F, μ, ED, la, rs, q, k⟩ => ⟨δ, F, μ, _, la, rs, q, fun vs ds F1 μ1 H1 e1 l1 r1 ⟨d, e, g, ed, q1⟩ => by
    subst ed
    obtain ⟨v, u, w, rfl, rv, ru, rw'⟩ := reps3 r1
    exact ⟨v, u, w, rfl, k.1 _ _ F1 μ1 H1 e1 l1 ((((rs.mono e1).set rv i).set ru j).set rw' l) q1⟩⟩
theorem x_par3 {n m l : Nat} {tr : TDA} {E : DEnds} {δ : DSt} {μ : Mem} (k : tr δ μ fun ds μ1 => ∃ d e g, ds = [d, e, g] ∧ E.nx (((δ.set n (some d)).set m (some e)).set l (some g)) μ1) : dPar3 n m l tr E δ μ := k
end
end DL
-- DT1
set_option maxRecDepth 100000
namespace DL
/-! determinants, by the first row -/
abbrev Mx := Nat → Nat → Rat
def skip (j k : Nat) : Nat := if k < j then k else k + 1
def sg (j : Nat) : Rat := if j % 2 = 0 then 1 else -1
def minor (A : Mx) (j : Nat) : Mx := fun i k => A (i + 1) (skip j k)
def det : Nat → Mx → Rat
  | 0, _ => 1
  | n + 1, A => sumN (n + 1) fun j => sg j * A 0 j * det n (minor A j)
theorem rlc (a b c : Rat) : a * (b * c) = b * (a * c) := by rw [← Rat.mul_assoc, Rat.mul_comm a, Rat.mul_assoc]
theorem sg_succ (j : Nat) : sg (j + 1) = -sg j := by
  unfold sg
  by_cases h : j % 2 = 0
  · rw [if_pos h, if_neg (by omega)]
  · rw [if_neg h, if_pos (by omega)]; rfl
theorem sg_zero : sg 0 = 1 := rfl
theorem sg_mul (i j : Nat) : sg i * sg j = sg (i + j) := by
  induction j with
  | zero => rw [sg_zero, Rat.mul_one]; rfl
  | succ j ih => rw [← Nat.add_assoc, sg_succ, sg_succ, Rat.mul_neg, ih]
theorem skip_lt {n j k : Nat} (hk : k < n) : skip j k < n + 1 := by unfold skip; split <;> omega
theorem skip_ne (j k : Nat) : skip j k ≠ j := by unfold skip; split <;> omega
theorem skip_zero (k : Nat) : skip 0 k = k + 1 := by unfold skip; rw [if_neg (by omega)]
theorem skip_s0 (j : Nat) : skip (j + 1) 0 = 0 := by unfold skip; rw [if_pos (by omega)]
theorem skip_ss (j k : Nat) : skip (j + 1) (k + 1) = skip j k + 1 := by unfold skip; split <;> split <;> omega
theorem skip_skip {a b k : Nat} (h : a ≤ b) : skip a (skip b k) = skip (b + 1) (skip a k) := by
  unfold skip
  split <;> split <;> split <;> (try split) <;> omega
theorem det_congr : ∀ {n : Nat} {A B : Mx}, (∀ i k, i < n → k < n → A i k = B i k) → det n A = det n B
  | 0, _, _, _ => rfl
  | n + 1, A, B, h => sumN_congr fun j hj => by
    rw [h 0 j (by omega) hj, det_congr (A := minor A j) (B := minor B j) fun i k hi hk => h _ _ (by omega) (skip_lt hk)]
theorem sumN_neg (n : Nat) (f : Nat → Rat) : sumN n (fun k => -f k) = -sumN n f := by
  rw [show (-sumN n f) = (-1) * sumN n f by rw [Rat.neg_mul, Rat.one_mul], ← sumN_left]
  exact sumN_congr fun k _ => by rw [Rat.neg_mul, Rat.one_mul]
/-! turned over -/
theorem det_T : ∀ (n : Nat) (A : Mx), det n (fun i k => A k i) = det n A := by
  intro n
  induction n using Nat.strongRecOn with
  | _ n ih =>
    intro A
    match n, ih with
    | 0, _ => rfl
    | 1, _ => rfl
    | n + 2, ih =>
      show sumN (n + 2) _ = sumN (n + 2) _
      rw [sumN_shift (n + 1), sumN_shift (n + 1)]
      have t0 : det (n + 1) (minor (fun i k => A k i) 0) = det (n + 1) (minor A 0) := by
        rw [← ih (n + 1) (by omega) (minor A 0)]
        exact det_congr fun i k _ _ => by show A (skip 0 k) (i + 1) = A (k + 1) (skip 0 i); rw [skip_zero, skip_zero]
      rw [t0]
      have two : ∀ (B : Mx), sumN (n + 1) (fun j => sg (j + 1) * B 0 (j + 1) * det (n + 1) (minor B (j + 1))) = sumN (n + 1) fun j => sumN (n + 1) fun i => sg (j + 1) * sg i * B 0 (j + 1) * B (i + 1) 0 * det n (fun a b => B (skip (i + 1) (a + 1)) (skip (j + 1) (b + 1))) := fun B => sumN_congr fun j hj => by
        rw [← ih (n + 1) (by omega) (minor B (j + 1))]
        show _ * sumN (n + 1) _ = _
        rw [← sumN_left]
        refine sumN_congr fun i hi => ?_
        show sg (j + 1) * B 0 (j + 1) * (sg i * B (i + 1) (skip (j + 1) 0) * _) = _
        rw [skip_s0, ← ih n (by omega) (fun a b => B (skip (i + 1) (a + 1)) (skip (j + 1) (b + 1)))]
        rw [det_congr (B := fun a b => B (skip (i + 1) (b + 1)) (skip (j + 1) (a + 1))) fun a b _ _ => by
          show B (skip i b + 1) (skip (j + 1) (a + 1)) = _
          rw [← skip_ss]]
        simp only [Rat.mul_assoc, Rat.mul_comm, rlc]
      refine congrArg (_ + ·) ((two fun i k => A k i).trans (Eq.trans ?_ (two A).symm))
      rw [sumN_swap]
      refine sumN_congr fun i hi => sumN_congr fun j hj => ?_
      rw [← ih n (by omega) (fun a b => A (skip (j + 1) (a + 1)) (skip (i + 1) (b + 1)))]
      rw [show sg (j + 1) * sg i = sg (i + 1) * sg j by rw [sg_mul, sg_mul]; exact congrArg sg (by omega)]
      show _ * A (j + 1) 0 * A 0 (i + 1) * _ = _ * A 0 (i + 1) * A (j + 1) 0 * _
      simp only [Rat.mul_assoc, Rat.mul_comm, rlc]
/-! linear in each row -/
def setR (A : Mx) (i : Nat) (r : Nat → Rat) : Mx := fun a b => if a = i then r b else A a b
theorem setR_same {A : Mx} {i : Nat} {r : Nat → Rat} {k : Nat} : setR A i r i k = r k := if_pos rfl
theorem setR_ne {A : Mx} {i a : Nat} {r : Nat → Rat} {k : Nat} (h : a ≠ i) : setR A i r a k = A a k := if_neg h
theorem minor_set0 (A : Mx) (r : Nat → Rat) (j : Nat) : minor (setR A 0 r) j = minor A j := by
  funext i k
  show (if i + 1 = 0 then r (skip j k) else A (i + 1) (skip j k)) = A (i + 1) (skip j k)
  exact if_neg (Nat.succ_ne_zero i)
theorem minor_setS (A : Mx) (i : Nat) (r : Nat → Rat) (j : Nat) : minor (setR A (i + 1) r) j = setR (minor A j) i (fun k => r (skip j k)) := by
  funext a k
  show (if a + 1 = i + 1 then _ else _) = (if a = i then _ else _)
  by_cases h : a = i
  · rw [if_pos h, if_pos (by omega)]
  · rw [if_neg h, if_neg (by omega)]; rfl
theorem det_add : ∀ {n i : Nat} (A : Mx) (r s : Nat → Rat), i < n → det n (setR A i (fun k => r k + s k)) = det n (setR A i r) + det n (setR A i s)
  | n + 1, 0, A, r, s, _ => by
    show sumN _ _ = sumN _ _ + sumN _ _
    rw [← sumN_add]
    refine sumN_congr fun j hj => ?_
    rw [minor_set0, minor_set0, minor_set0, setR_same, setR_same, setR_same, Rat.mul_add, Rat.add_mul]
  | n + 1, i + 1, A, r, s, h => by
    show sumN _ _ = sumN _ _ + sumN _ _
    rw [← sumN_add]
    refine sumN_congr fun j hj => ?_
    rw [minor_setS, minor_setS, minor_setS, setR_ne (by omega), setR_ne (by omega), setR_ne (by omega), det_add (minor A j) (fun k => r (skip j k)) (fun k => s (skip j k)) (by omega), Rat.mul_add]
theorem det_smul : ∀ {n i : Nat} (A : Mx) (c : Rat) (r : Nat → Rat), i < n → det n (setR A i (fun k => c * r k)) = c * det n (setR A i r)
  | n + 1, 0, A, c, r, _ => by
    show sumN _ _ = c * sumN _ _
    rw [← sumN_left]
    refine sumN_congr fun j hj => ?_
    rw [minor_set0, minor_set0, setR_same, setR_same]
    simp only [Rat.mul_assoc, Rat.mul_comm, rlc]
  | n + 1, i + 1, A, c, r, h => by
    show sumN _ _ = c * sumN _ _
    rw [← sumN_left]
    refine sumN_congr fun j hj => ?_
    rw [minor_setS, minor_setS, setR_ne (by omega), setR_ne (by omega), det_smul (minor A j) c (fun k => r (skip j k)) (by omega)]
    simp only [Rat.mul_assoc, Rat.mul_comm, rlc]
/-! rows exchanged -/
theorem sum_skip : ∀ {n j : Nat} (g : Nat → Rat), j < n + 1 → sumN n (fun k => g (skip j k)) + g j = sumN (n + 1) g
  | 0, j, g, h => by
    have : j = 0 := by omega
    subst this
    rfl
  | n + 1, j, g, h => by
    by_cases e : j = n + 1
    · subst e
      show _ + _ = sumN (n + 1) g + g (n + 1)
      rw [sumN_congr (g := g) fun k hk => by unfold skip; rw [if_pos hk]]
    · show (sumN n (fun k => g (skip j k)) + g (skip j n)) + g j = sumN (n + 1) g + g (n + 1)
      rw [← sum_skip (n := n) (j := j) g (by omega), show skip j n = n + 1 by unfold skip; rw [if_neg (by omega)]]
      rw [Rat.add_assoc, Rat.add_assoc, Rat.add_comm (g (n + 1))]
/-- the sign and the minor of two rows' places -/
def two (n : Nat) (A : Mx) (j c : Nat) : Rat :=
  if c < j then sg j * sg c * det n (fun a b => A (a + 2) (skip j (skip c b)))
  else if j < c then -(sg j * sg c * det n (fun a b => A (a + 2) (skip c (skip j b)))) else 0
theorem two_anti (n : Nat) (A : Mx) (j c : Nat) : two n A j c = -two n A c j := by
  unfold two
  by_cases h : c < j
  · rw [if_pos h, if_neg (by omega), if_pos h, Rat.neg_neg, Rat.mul_comm (sg j)]
  · rw [if_neg h]
    by_cases h2 : j < c
    · rw [if_pos h2, if_pos h2, Rat.mul_comm (sg j)]
    · rw [if_neg h2, if_neg h2, if_neg h]
      rfl
theorem det_two (n : Nat) (A : Mx) : det (n + 2) A = sumN (n + 2) fun j => sumN (n + 2) fun c => A 0 j * A 1 c * two n A j c := by
  refine sumN_congr fun j hj => ?_
  rw [← sum_skip (n := n + 1) (j := j) (fun c => A 0 j * A 1 c * two n A j c) hj]
  have z : two n A j j = 0 := by unfold two; rw [if_neg (by omega), if_neg (by omega)]
  rw [z, Rat.mul_zero, Rat.add_zero]
  show _ * sumN (n + 1) _ = _
  rw [← sumN_left]
  refine sumN_congr fun k hk => ?_
  show sg j * A 0 j * (sg k * A 1 (skip j k) * det n (minor (minor A j) k)) = A 0 j * A 1 (skip j k) * two n A j (skip j k)
  have e : two n A j (skip j k) = sg j * sg k * det n (minor (minor A j) k) := by
    unfold two
    by_cases h : k < j
    · have e : skip j k = k := by unfold skip; rw [if_pos h]
      rw [e, if_pos h]
      rfl
    · have e : skip j k = k + 1 := by unfold skip; rw [if_neg h]
      rw [e, if_neg (by omega), if_pos (by omega), sg_succ, Rat.mul_neg, Rat.neg_mul, Rat.neg_neg]
      refine congrArg (_ * ·) (det_congr fun a b _ _ => ?_)
      show A (a + 2) _ = A (a + 2) (skip j (skip k b))
      rw [skip_skip (a := j) (b := k) (by omega)]
  rw [e]
  simp only [Rat.mul_assoc, Rat.mul_comm, rlc]
def swapR (A : Mx) (i j : Nat) : Mx := fun a b => A (if a = i then j else if a = j then i else a) b
theorem det_swap01 (n : Nat) (A : Mx) : det (n + 2) (swapR A 0 1) = -det (n + 2) A := by
  rw [det_two, det_two, ← sumN_neg, sumN_swap]
  refine sumN_congr fun j hj => ?_
  rw [← sumN_neg]
  refine sumN_congr fun c hc => ?_
  have e : two n (swapR A 0 1) c j = two n A c j := rfl
  rw [e, two_anti n A c j]
  show A 1 c * A 0 j * _ = _
  rw [Rat.mul_neg, Rat.mul_comm (A 1 c)]
theorem det_same : ∀ {n i j : Nat} {A : Mx}, i < j → j < n → (∀ k, A i k = A j k) → det n A = 0
  | n + 1, i + 1, j + 1, A, h, hj, e => by
    show sumN _ _ = 0
    rw [sumN_congr (g := fun _ => 0) fun c hc => by rw [det_same (n := n) (i := i) (j := j) (A := minor A c) (by omega) (by omega) fun k => e _, Rat.mul_zero], sumN_zero]
  | 1, 0, j, _, h, hj, _ => by omega
  | n + 2, 0, 1, A, h, hj, e => by
    have a := det_swap01 n A
    have b : det (n + 2) (swapR A 0 1) = det (n + 2) A := det_congr fun i k _ _ => by
      unfold swapR
      by_cases h0 : i = 0
      · rw [if_pos h0, h0, e]
      · rw [if_neg h0]
        by_cases h1 : i = 1
        · rw [if_pos h1, h1, e]
        · rw [if_neg h1]
    rw [b] at a
    grind
  | n + 2, 0, j + 2, A, h, hj, e => by
    have a := det_swap01 n A
    have b : det (n + 2) (swapR A 0 1) = 0 := by
      show sumN _ _ = 0
      rw [sumN_congr (g := fun _ => 0) fun c hc => by rw [det_same (n := n + 1) (i := 0) (j := j + 1) (A := minor (swapR A 0 1) c) (by omega) (by omega) fun k => e _, Rat.mul_zero], sumN_zero]
    rw [b] at a
    grind
end DL
-- DT2
set_option maxRecDepth 100000
namespace DL
/-! determinants: sums in a row, Cramer's rule, a last row of noughts but one -/
theorem setR_set {A : Mx} {i : Nat} {r s : Nat → Rat} : setR (setR A i r) i s = setR A i s := by
  funext a b
  by_cases h : a = i
  · subst h; rw [setR_same, setR_same]
  · rw [setR_ne h, setR_ne h, setR_ne h]
theorem setR_self {A : Mx} {i : Nat} : setR A i (A i) = A := by
  funext a b
  by_cases h : a = i
  · subst h; rw [setR_same]
  · rw [setR_ne h]
theorem setR_comm {A : Mx} {i j : Nat} {r s : Nat → Rat} (h : i ≠ j) : setR (setR A i r) j s = setR (setR A j s) i r := by
  funext a b
  by_cases h1 : a = i
  · subst h1; rw [setR_ne h, setR_same, setR_same]
  · by_cases h2 : a = j
    · subst h2; rw [setR_same, setR_ne h1, setR_same]
    · rw [setR_ne h2, setR_ne h1, setR_ne h1, setR_ne h2]
theorem det_zero {n i : Nat} {A : Mx} (h : i < n) (z : ∀ k, k < n → A i k = 0) : det n A = 0 := by
  have e : det n A = det n (setR A i (fun k => 0 * A i k)) := det_congr fun a k _ hk => by
    by_cases h : a = i
    · subst h; rw [setR_same, z k hk, Rat.mul_zero]
    · rw [setR_ne h]
  rw [e, det_smul A 0 (A i) h, Rat.zero_mul]
/-- a sum of rows in one row -/
theorem det_sum {n i : Nat} (A : Mx) (h : i < n) : ∀ (m : Nat) (c : Nat → Rat) (R : Nat → Nat → Rat), det n (setR A i (fun k => sumN m fun l => c l * R l k)) = sumN m fun l => c l * det n (setR A i (R l))
  | 0, c, R => det_zero h fun k _ => by rw [setR_same]; rfl
  | m + 1, c, R => by
    show det n (setR A i (fun k => (sumN m fun l => c l * R l k) + c m * R m k)) = (sumN m fun l => c l * det n (setR A i (R l))) + c m * det n (setR A i (R m))
    rw [det_add A _ _ h, det_sum A h m c R, det_smul A _ _ h]
theorem det_eqRows {n i j : Nat} {A : Mx} (hi : i < n) (hj : j < n) (hij : i ≠ j) (e : ∀ k, A i k = A j k) : det n A = 0 := by
  rcases Nat.lt_or_gt_of_ne hij with h | h
  · exact det_same h hj e
  · exact det_same h hi fun k => (e k).symm
/-- Cramer's rule: a row replaced by a sum of all rows -/
theorem cramer {n i : Nat} (A : Mx) (x : Nat → Rat) (h : i < n) : det n (setR A i (fun k => sumN n fun l => x l * A l k)) = x i * det n A := by
  rw [det_sum A h]
  rw [sumN_congr (g := fun l => if l = i then x l * det n A else 0) fun l hl => ?_, sumN_one (i := i) (fun l => x l * det n A) h]
  by_cases e : l = i
  · subst e; rw [if_pos rfl, setR_self]
  · rw [if_neg e, det_eqRows hl h e fun k => by rw [setR_ne e, setR_same], Rat.mul_zero]
/-- a row and multiples of others added to it -/
theorem det_addRow {n i : Nat} (A : Mx) (m : Nat) (c : Nat → Rat) (h : i < n) (hm : m ≤ n) (hi : m ≤ i) : det n (setR A i (fun k => A i k + sumN m fun l => c l * A l k)) = det n A := by
  rw [det_add A _ _ h, setR_self, det_sum A h, sumN_congr (g := fun _ => 0) fun l hl => ?_, sumN_zero, Rat.add_zero]
  have e : l ≠ i := by omega
  rw [det_eqRows (show l < n by omega) h e fun k => by rw [setR_ne e, setR_same], Rat.mul_zero]
theorem det_last : ∀ {n : Nat} {A : Mx}, (∀ k, k < n → A n k = 0) → det (n + 1) A = A n n * det n A
  | 0, A, _ => by
    show 0 + sg 0 * A 0 0 * 1 = A 0 0 * 1
    rw [Rat.zero_add, sg_zero, Rat.one_mul]
  | n + 1, A, z => by
    show sumN (n + 1) (fun j => sg j * A 0 j * det (n + 1) (minor A j)) + sg (n + 1) * A 0 (n + 1) * det (n + 1) (minor A (n + 1)) = _
    rw [det_zero (n := n + 1) (i := n) (A := minor A (n + 1)) (by omega) fun k hk => by
      show A (n + 1) (skip (n + 1) k) = 0
      unfold skip
      rw [if_pos hk]
      exact z k hk, Rat.mul_zero, Rat.add_zero]
    show _ = A (n + 1) (n + 1) * sumN (n + 1) _
    rw [← sumN_left]
    refine sumN_congr fun j hj => ?_
    rw [det_last (n := n) (A := minor A j) fun k hk => by
      show A (n + 1) (skip j k) = 0
      exact z _ (skip_lt hk)]
    have e : minor A j n n = A (n + 1) (n + 1) := by
      show A (n + 1) (skip j n) = _
      unfold skip
      rw [if_neg (by omega)]
    rw [e, rlc]
/-- the last row a sum of the others but in the last place -/
theorem det_border {n : Nat} {A : Mx} (x : Nat → Rat) (h : ∀ k, k < n → A n k = sumN n fun l => x l * A l k) : det (n + 1) A = (A n n - sumN n fun l => x l * A l n) * det n A := by
  have e := det_addRow (n := n + 1) (i := n) A n (fun l => -x l) (by omega) (by omega) (Nat.le_refl _)
  have sub : ∀ k, A n k + (sumN n fun l => -x l * A l k) = A n k - sumN n fun l => x l * A l k := fun k => by
    rw [sumN_congr (g := fun l => -(x l * A l k)) fun l _ => Rat.neg_mul _ _, sumN_neg, Rat.sub_eq_add_neg]
  rw [← e, det_last]
  · rw [setR_same, sub, det_congr (B := A) fun i k hi hk => setR_ne (by omega)]
  · intro k hk
    rw [setR_same, sub, h k hk]
    grind
/-- two rows exchanged -/
theorem det_swap {n i j : Nat} (A : Mx) (hi : i < n) (hj : j < n) (h : i ≠ j) : det n (swapR A i j) = -det n A := by
  let s : Nat → Rat := fun k => A i k + A j k
  have f : ∀ p q : Nat → Rat, setR (setR A i p) j q = setR (setR A j q) i p := fun p q => setR_comm h
  have z : det n (setR (setR A i s) j s) = 0 := det_eqRows hi hj h fun k => by rw [setR_ne h, setR_same, setR_same]
  have zz : ∀ p : Nat → Rat, det n (setR (setR A i p) j p) = 0 := fun p => det_eqRows hi hj h fun k => by rw [setR_ne h, setR_same, setR_same]
  rw [det_add (setR A i s) (A i) (A j) hj, f, f, det_add (setR A j (A i)) (A i) (A j) hi, det_add (setR A j (A j)) (A i) (A j) hi, ← f, ← f, ← f, ← f, zz, zz] at z
  have e1 : setR (setR A i (A i)) j (A j) = A := by rw [setR_self, setR_self]
  have e2 : setR (setR A i (A j)) j (A i) = swapR A i j := by
    funext a b
    unfold swapR
    by_cases h1 : a = j
    · subst h1
      rw [setR_same, if_neg (Ne.symm h), if_pos rfl]
    · rw [setR_ne h1]
      by_cases h2 : a = i
      · subst h2
        rw [setR_same, if_pos rfl]
      · rw [setR_ne h2, if_neg h2, if_neg h1]
  rw [e1, e2] at z
  grind
end DL
-- DT3
set_option maxRecDepth 100000
namespace DL
/-! the determinant of a product: forms of n rows that are linear in each and 0 at equal ones -/
structure Alt (n : Nat) (f : Mx → Rat) : Prop where
  congr : ∀ A B : Mx, (∀ i, i < n → A i = B i) → f A = f B
  add : ∀ (A : Mx) (i : Nat) (r s : Nat → Rat), i < n → f (setR A i (fun k => r k + s k)) = f (setR A i r) + f (setR A i s)
  smul : ∀ (A : Mx) (i : Nat) (c : Rat) (r : Nat → Rat), i < n → f (setR A i (fun k => c * r k)) = c * f (setR A i r)
  same : ∀ (A : Mx) (i j : Nat), i < n → j < n → i ≠ j → A i = A j → f A = 0
theorem det_alt (n : Nat) : Alt n (det n) := ⟨fun A B h => det_congr fun i k hi _ => by rw [h i hi], fun A i r s h => det_add A r s h, fun A i c r h => det_smul A c r h, fun A i j hi hj h e => det_eqRows hi hj h fun k => by rw [e]⟩
section
variable {n : Nat} {f : Mx → Rat} (F : Alt n f)
include F
theorem Alt.zero (A : Mx) (i : Nat) (h : i < n) (z : A i = fun _ => 0) : f A = 0 := by
  have e : A = setR A i (fun k => 0 * A i k) := by
    funext a b
    by_cases h : a = i
    · subst h; rw [setR_same, z, Rat.mul_zero]
    · rw [setR_ne h]
  rw [e, F.smul A i 0 (A i) h, Rat.zero_mul]
theorem Alt.sum (A : Mx) (i : Nat) (h : i < n) : ∀ (m : Nat) (c : Nat → Rat) (R : Nat → Nat → Rat), f (setR A i (fun k => sumN m fun l => c l * R l k)) = sumN m fun l => c l * f (setR A i (R l))
  | 0, c, R => F.zero _ i h (by funext k; rw [setR_same]; rfl)
  | m + 1, c, R => by
    show f (setR A i (fun k => (sumN m fun l => c l * R l k) + c m * R m k)) = (sumN m fun l => c l * f (setR A i (R l))) + c m * f (setR A i (R m))
    rw [F.add A i _ _ h, Alt.sum A i h m c R, F.smul A i _ _ h]
theorem Alt.swap (A : Mx) (i j : Nat) (hi : i < n) (hj : j < n) (h : i ≠ j) : f (swapR A i j) = -f A := by
  let s : Nat → Rat := fun k => A i k + A j k
  have g : ∀ p q : Nat → Rat, setR (setR A i p) j q = setR (setR A j q) i p := fun p q => setR_comm h
  have zz : ∀ p : Nat → Rat, f (setR (setR A i p) j p) = 0 := fun p => F.same _ i j hi hj h (by funext k; rw [setR_ne h, setR_same, setR_same])
  have z : f (setR (setR A i s) j s) = 0 := zz s
  rw [F.add (setR A i s) j (A i) (A j) hj, g, g, F.add (setR A j (A i)) i (A i) (A j) hi, F.add (setR A j (A j)) i (A i) (A j) hi, ← g, ← g, ← g, ← g, zz, zz] at z
  have e1 : setR (setR A i (A i)) j (A j) = A := by rw [setR_self, setR_self]
  have e2 : setR (setR A i (A j)) j (A i) = swapR A i j := by
    funext a b
    unfold swapR
    by_cases h1 : a = j
    · subst h1
      rw [setR_same, if_neg (Ne.symm h), if_pos rfl]
    · rw [setR_ne h1]
      by_cases h2 : a = i
      · subst h2
        rw [setR_same, if_pos rfl]
      · rw [setR_ne h2, if_neg h2, if_neg h1]
  rw [e1, e2] at z
  grind
end
/-- row r ahead of the rows of A -/
def consR (r : Nat → Rat) (A : Mx) : Mx := fun i k => match i with
  | 0 => r k
  | i + 1 => A i k
theorem consR_set {r : Nat → Rat} {A : Mx} {i : Nat} {s : Nat → Rat} : consR r (setR A i s) = setR (consR r A) (i + 1) s := by
  funext a b
  cases a with
  | zero => rfl
  | succ a =>
    show (if a = i then _ else _) = (if a + 1 = i + 1 then _ else _)
    by_cases h : a = i
    · rw [if_pos h, if_pos (by omega)]
    · rw [if_neg h, if_neg (by omega)]; rfl
theorem consR_eta (A : Mx) : consR (A 0) (fun i => A (i + 1)) = A := by
  funext a b
  cases a <;> rfl
theorem Alt.cons {n : Nat} {f : Mx → Rat} (F : Alt (n + 1) f) (r : Nat → Rat) : Alt n (fun A => f (consR r A)) where
  congr A B h := F.congr _ _ fun i hi => by
    cases i with
    | zero => rfl
    | succ i => exact h i (by omega)
  add A i p q h := by
    show f _ = f _ + f _
    rw [consR_set, consR_set, consR_set, F.add _ _ _ _ (by omega)]
  smul A i c p h := by
    show f _ = c * f _
    rw [consR_set, consR_set, F.smul _ _ _ _ (by omega)]
  same A i j hi hj h e := F.same _ (i + 1) (j + 1) (by omega) (by omega) (by omega) e
/-- the rows of B, but the j-th one ahead -/
def front (B : Mx) (j : Nat) : Mx := consR (B j) (fun i => B (skip j i))
theorem Alt.front {n : Nat} {f : Mx → Rat} (F : Alt (n + 1) f) (B : Mx) : ∀ j, j < n + 1 → f (front B j) = sg j * f B
  | 0, _ => by
    rw [sg_zero, Rat.one_mul]
    refine congrArg f ?_
    unfold DL.front
    rw [show (fun i => B (skip 0 i)) = fun i => B (i + 1) from funext fun i => by rw [skip_zero]]
    exact consR_eta B
  | j + 1, h => by
    have e : DL.front B (j + 1) = swapR (DL.front B j) 0 (j + 1) := by
      funext a b
      unfold swapR DL.front
      cases a with
      | zero =>
        rw [if_pos rfl]
        show B (j + 1) b = B (skip j j) b
        rw [show skip j j = j + 1 by unfold skip; rw [if_neg (by omega)]]
      | succ a =>
        rw [if_neg (by omega)]
        by_cases h1 : a = j
        · subst h1
          rw [if_pos rfl]
          show B (skip (a + 1) a) b = B a b
          rw [show skip (a + 1) a = a by unfold skip; rw [if_pos (by omega)]]
        · rw [if_neg (by omega)]
          show B (skip (j + 1) a) b = B (skip j a) b
          rw [show skip (j + 1) a = skip j a by unfold skip; split <;> split <;> omega]
    rw [e, F.swap _ 0 (j + 1) (by omega) h (by omega), Alt.front F B j (by omega), sg_succ, Rat.neg_mul]
/-- rows that are sums of the rows of B -/
def combR (n : Nat) (A B : Mx) : Mx := fun i k => sumN n fun l => A i l * B l k
theorem Alt.comb : ∀ {n : Nat} {f : Mx → Rat} (F : Alt n f) (A B : Mx), f (combR n A B) = det n A * f B
  | 0, f, F, A, B => by
    show _ = 1 * f B
    rw [Rat.one_mul]
    exact F.congr _ _ fun i hi => by omega
  | n + 1, f, F, A, B => by
    have e0 : combR (n + 1) A B = setR (combR (n + 1) A B) 0 (fun k => sumN (n + 1) fun l => A 0 l * B l k) := (setR_self (A := combR (n + 1) A B) (i := 0)).symm
    rw [e0, F.sum _ 0 (by omega) (n + 1) (A 0) B]
    show _ = sumN (n + 1) _ * f B
    rw [← sumN_right]
    refine sumN_congr fun j hj => ?_
    -- with row j of B ahead, the parts along it of the other rows count nothing
    have key : ∀ m, m ≤ n → f (setR (combR (n + 1) A B) 0 (B j)) = f (consR (B j) (fun i k => if i < m then sumN n (fun l => minor A j i l * B (skip j l) k) else combR (n + 1) A B (i + 1) k)) := fun m => by
      induction m with
      | zero => exact fun _ => congrArg f (by
          funext a b
          cases a with
          | zero => exact setR_same
          | succ a => rw [setR_ne (by omega)]; exact (if_neg (Nat.not_lt_zero a) : (if a < 0 then sumN n (fun l => minor A j a l * B (skip j l) b) else combR (n + 1) A B (a + 1) b) = combR (n + 1) A B (a + 1) b).symm)
      | succ m ih =>
        intro hm
        rw [ih (by omega)]
        let C : Mx := fun i k => if i < m + 1 then sumN n (fun l => minor A j i l * B (skip j l) k) else combR (n + 1) A B (i + 1) k
        have c1 : (fun i k => if i < m then sumN n (fun l => minor A j i l * B (skip j l) k) else combR (n + 1) A B (i + 1) k : Mx) = setR C m (fun k => C m k + A (m + 1) j * B j k) := by
          funext a b
          by_cases h : a = m
          · subst h
            rw [setR_same, if_neg (by omega)]
            show _ = (if a < a + 1 then _ else _) + _
            rw [if_pos (by omega)]
            exact (sum_skip (n := n) (j := j) (fun l => A (a + 1) l * B l b) hj).symm
          · rw [setR_ne h]
            show _ = (if a < m + 1 then _ else _)
            by_cases h2 : a < m
            · rw [if_pos h2, if_pos (by omega)]
            · rw [if_neg h2, if_neg (by omega)]
        rw [c1, consR_set, F.add _ _ _ _ (by omega), F.smul _ _ _ _ (by omega), ← consR_set, setR_self, ← consR_set]
        rw [F.same (consR (B j) (setR C m (B j))) 0 (m + 1) (by omega) (by omega) (by omega) (by
          funext k
          show B j k = setR C m (B j) m k
          rw [setR_same]), Rat.mul_zero, Rat.add_zero]
    rw [key n (Nat.le_refl _)]
    have k2 := Alt.comb (n := n) (F.cons (B j)) (minor A j) (fun i => B (skip j i))
    have k3 : f (consR (B j) (fun i k => if i < n then sumN n (fun l => minor A j i l * B (skip j l) k) else combR (n + 1) A B (i + 1) k)) = f (consR (B j) (combR n (minor A j) fun i => B (skip j i))) := F.congr _ _ fun i hi => by
      cases i with
      | zero => rfl
      | succ i => funext k; exact if_pos (by omega)
    rw [k3, k2]
    have k4 := Alt.front F B j hj
    show A 0 j * (det n (minor A j) * f (DL.front B j)) = _
    rw [k4]
    grind
theorem det_mul (n : Nat) (A B : Mx) : det n (combR n A B) = det n A * det n B := (det_alt n).comb A B
end DL
-- DT4
set_option maxRecDepth 100000
namespace DL
/-! a column cleared: P the rows as they stood, L the rows as they stand, δ what stands along the cleared ones -/
/-- L is what is left of δ P with `at` columns cleared -/
def Clr (n w at_ : Nat) (δ : Rat) (P L : Mx) : Prop := ∀ r c, r < n → c < w → sumN at_ (fun k => P r k * L k c) + (if at_ ≤ r then L r c else 0) = δ * P r c
def stepX (at_ : Nat) (δ : Rat) (L : Mx) : Mx := fun k c => if k = at_ then L at_ c else (L at_ at_ * L k c - L k at_ * L at_ c) / δ
theorem inv_of {δ : Rat} (h : δ ≠ 0) : δ * δ⁻¹ = 1 := Rat.mul_inv_cancel δ h
theorem clr_start (n w : Nat) (P : Mx) : Clr n w 0 1 P P := fun r c hr hc => by
  show 0 + (if 0 ≤ r then P r c else 0) = 1 * P r c
  rw [if_pos (Nat.zero_le r), Rat.zero_add, Rat.one_mul]
theorem clr_step {n w at_ : Nat} {δ : Rat} {P L : Mx} (h : Clr n w at_ δ P L) (hδ : δ ≠ 0) (ha : at_ < w) : Clr n w (at_ + 1) (L at_ at_) P (stepX at_ δ L) := fun r c hr hc => by
  have e1 := h r c hr hc
  have e2 := h r at_ hr ha
  have d := inv_of hδ
  have s : sumN at_ (fun k => P r k * stepX at_ δ L k c) = (L at_ at_ * δ⁻¹) * sumN at_ (fun k => P r k * L k c) + (-(L at_ c * δ⁻¹)) * sumN at_ (fun k => P r k * L k at_) := by
    rw [← sumN_left, ← sumN_left, ← sumN_add]
    refine sumN_congr fun k hk => ?_
    unfold stepX
    rw [if_neg (by omega), Rat.div_def]
    grind
  show sumN at_ (fun k => P r k * stepX at_ δ L k c) + P r at_ * stepX at_ δ L at_ c + (if at_ + 1 ≤ r then stepX at_ δ L r c else 0) = _
  rw [s]
  have x0 : stepX at_ δ L at_ c = L at_ c := if_pos rfl
  rw [x0]
  generalize sumN at_ (fun k => P r k * L k c) = S1 at *
  generalize sumN at_ (fun k => P r k * L k at_) = S2 at *
  rcases Nat.lt_trichotomy r at_ with q | q | q
  · rw [if_neg (by omega)] at e1 e2
    rw [if_neg (by omega)]
    grind
  · subst q
    rw [if_pos (by omega)] at e1 e2
    rw [if_neg (by omega)]
    grind
  · rw [if_pos (by omega)] at e1 e2
    rw [if_pos (by omega)]
    have x1 : stepX at_ δ L r c = (L at_ at_ * L r c - L r at_ * L at_ c) * δ⁻¹ := by
      unfold stepX
      rw [if_neg (by omega), Rat.div_def]
    rw [x1]
    grind
/-- the columns as rows -/
def tr (A : Mx) : Mx := fun i k => A k i
theorem det_tr (n : Nat) (A : Mx) : det n (tr A) = det n A := det_T n A
theorem clr_pivot {n w at_ : Nat} {δ : Rat} {P L : Mx} (h : Clr n w at_ δ P L) (hδ : δ ≠ 0) (hd : δ = det at_ P) (ha : at_ < w) (hn : at_ < n) : det (at_ + 1) P = L at_ at_ := by
  have d := inv_of hδ
  rw [← det_tr, det_border (n := at_) (A := tr P) (fun l => L l at_ * δ⁻¹) fun k hk => ?_, det_tr, ← hd]
  · have e := h at_ at_ hn ha
    rw [if_pos (Nat.le_refl _)] at e
    have s : sumN at_ (fun l => L l at_ * δ⁻¹ * tr P l at_) = δ⁻¹ * sumN at_ (fun k => P at_ k * L k at_) := by
      rw [← sumN_left]
      refine sumN_congr fun k hk => ?_
      show _ * P at_ k = _
      grind
    rw [s]
    show (P at_ at_ - _) * δ = _
    generalize sumN at_ (fun k => P at_ k * L k at_) = S at *
    grind
  · have e := h k at_ (by omega) ha
    rw [if_neg (by omega)] at e
    have s : sumN at_ (fun l => L l at_ * δ⁻¹ * tr P l k) = δ⁻¹ * sumN at_ (fun l => P k l * L l at_) := by
      rw [← sumN_left]
      refine sumN_congr fun l hl => ?_
      show _ * P k l = _
      grind
    rw [s]
    show P k at_ = _
    generalize sumN at_ (fun l => P k l * L l at_) = S at *
    grind
theorem clr_none {n w at_ : Nat} {δ : Rat} {P L : Mx} (h : Clr n w at_ δ P L) (hδ : δ ≠ 0) (ha : at_ < w) (hn : at_ < n) (z : ∀ r, at_ ≤ r → r < n → L r at_ = 0) : det n P = 0 := by
  have d := inv_of hδ
  rw [← det_tr, ← det_addRow (n := n) (i := at_) (tr P) at_ (fun l => -(L l at_ * δ⁻¹)) hn (by omega) (Nat.le_refl _)]
  refine det_zero hn fun k hk => ?_
  rw [setR_same]
  have e := h k at_ hk ha
  have zz : (if at_ ≤ k then L k at_ else 0) = 0 := by
    split
    · rename_i q
      exact z k q hk
    · rfl
  rw [zz] at e
  have s : sumN at_ (fun l => -(L l at_ * δ⁻¹) * tr P l k) = -δ⁻¹ * sumN at_ (fun l => P k l * L l at_) := by
    rw [← sumN_left]
    refine sumN_congr fun l hl => ?_
    show _ * P k l = _
    grind
  rw [s]
  show P k at_ + _ = 0
  generalize sumN at_ (fun l => P k l * L l at_) = S at *
  grind
/-! whole numbers -/
def IsI (q : Rat) : Prop := ∃ z : Int, q = (z : Rat)
theorem IsI.add {p q : Rat} (h : IsI p) (k : IsI q) : IsI (p + q) := by
  obtain ⟨a, rfl⟩ := h
  obtain ⟨b, rfl⟩ := k
  exact ⟨a + b, (Rat.intCast_add a b).symm⟩
theorem IsI.mul {p q : Rat} (h : IsI p) (k : IsI q) : IsI (p * q) := by
  obtain ⟨a, rfl⟩ := h
  obtain ⟨b, rfl⟩ := k
  exact ⟨a * b, (Rat.intCast_mul a b).symm⟩
theorem IsI.neg {p : Rat} (h : IsI p) : IsI (-p) := by
  obtain ⟨a, rfl⟩ := h
  exact ⟨-a, (Rat.intCast_neg a).symm⟩
theorem IsI.sub {p q : Rat} (h : IsI p) (k : IsI q) : IsI (p - q) := by
  rw [Rat.sub_eq_add_neg]
  exact h.add k.neg
theorem isI_sum : ∀ {n : Nat} {f : Nat → Rat}, (∀ k, k < n → IsI (f k)) → IsI (sumN n f)
  | 0, _, _ => ⟨0, rfl⟩
  | n + 1, f, h => (isI_sum fun k hk => h k (by omega)).add (h n (by omega))
theorem isI_sg (j : Nat) : IsI (sg j) := by
  unfold sg
  split
  · exact ⟨1, rfl⟩
  · exact ⟨-1, rfl⟩
theorem isI_det : ∀ {n : Nat} {A : Mx}, (∀ i k, i < n → k < n → IsI (A i k)) → IsI (det n A)
  | 0, _, _ => ⟨1, rfl⟩
  | n + 1, A, h => isI_sum fun j hj => ((isI_sg j).mul (h 0 j (by omega) hj)).mul (isI_det fun i k hi hk => h _ _ (by omega) (skip_lt hk))
/-- what solves equations with whole numbers, D times the right side, D the determinant -/
theorem cramer_int {m k : Nat} {P : Mx} {x p : Nat → Rat} (h : ∀ r, r < m → sumN m (fun l => P r l * x l) = det m P * p r) (hD : det m P ≠ 0) (hk : k < m) : x k = det m (setR (tr P) k p) := by
  have d := inv_of hD
  have c := cramer (n := m) (i := k) (tr P) (fun l => x l * (det m P)⁻¹) hk
  rw [det_tr] at c
  have e : det m (setR (tr P) k p) = det m (setR (tr P) k fun r => sumN m fun l => x l * (det m P)⁻¹ * tr P l r) := det_congr fun i r hi hr => by
    by_cases q : i = k
    · subst q
      rw [setR_same, setR_same]
      have s : sumN m (fun l => x l * (det m P)⁻¹ * tr P l r) = (det m P)⁻¹ * sumN m (fun l => P r l * x l) := by
        rw [← sumN_left]
        refine sumN_congr fun l hl => ?_
        show _ * P r l = _
        grind
      rw [s, h r hr]
      grind
    · rw [setR_ne q, setR_ne q]
  rw [e, c]
  grind
theorem clr_int {n w at_ : Nat} {P X : Mx} (h : Clr n w at_ (det at_ P) P X) (hD : det at_ P ≠ 0) (hP : ∀ i c, i < n → c < w → IsI (P i c)) (ha : at_ ≤ n) (hw : at_ ≤ w) {k c : Nat} (hk : k < n) (hc : c < w) : IsI (X k c) := by
  have low : ∀ k, k < at_ → IsI (X k c) := fun k hk => by
    rw [cramer_int (m := at_) (k := k) (P := P) (x := fun l => X l c) (p := fun r => P r c) (fun r hr => by
      have e := h r c (by omega) hc
      rw [if_neg (by omega), Rat.add_zero] at e
      exact e) hD hk]
    refine isI_det fun i r hi hr => ?_
    by_cases q : i = k
    · subst q
      rw [setR_same]
      exact hP r c (by omega) hc
    · rw [setR_ne q]
      exact hP r i (by omega) (by omega)
  by_cases q : k < at_
  · exact low k q
  · have e := h k c hk hc
    rw [if_pos (by omega)] at e
    have : X k c = det at_ P * P k c - sumN at_ (fun l => P k l * X l c) := by
      generalize sumN at_ (fun l => P k l * X l c) = S at *
      grind
    rw [this]
    exact ((isI_det fun i r hi hr => hP i r (by omega) (by omega)).mul (hP k c hk hc)).sub (isI_sum fun l hl => (hP k l hk (by omega)).mul (low l hl))
end DL
-- DT5
set_option maxRecDepth 100000
namespace DL
/-! whole numbers with a bound -/
def IB (b : Nat) (q : Rat) : Prop := ∃ z : Int, q = (z : Rat) ∧ z.natAbs ≤ b
theorem IB.add {a b : Nat} {p q : Rat} (h : IB a p) (k : IB b q) : IB (a + b) (p + q) := by
  obtain ⟨x, rfl, hx⟩ := h
  obtain ⟨y, rfl, hy⟩ := k
  exact ⟨x + y, (Rat.intCast_add x y).symm, Nat.le_trans (Int.natAbs_add_le x y) (Nat.add_le_add hx hy)⟩
theorem IB.mul {a b : Nat} {p q : Rat} (h : IB a p) (k : IB b q) : IB (a * b) (p * q) := by
  obtain ⟨x, rfl, hx⟩ := h
  obtain ⟨y, rfl, hy⟩ := k
  exact ⟨x * y, (Rat.intCast_mul x y).symm, by rw [Int.natAbs_mul]; exact Nat.mul_le_mul hx hy⟩
theorem IB.neg {a : Nat} {p : Rat} (h : IB a p) : IB a (-p) := by
  obtain ⟨x, rfl, hx⟩ := h
  exact ⟨-x, (Rat.intCast_neg x).symm, by rw [Int.natAbs_neg]; exact hx⟩
theorem IB.sub {a b : Nat} {p q : Rat} (h : IB a p) (k : IB b q) : IB (a + b) (p - q) := by
  rw [Rat.sub_eq_add_neg]
  exact h.add k.neg
theorem IB.mono {a b : Nat} {p : Rat} (h : IB a p) (l : a ≤ b) : IB b p := by
  obtain ⟨x, e, hx⟩ := h
  exact ⟨x, e, Nat.le_trans hx l⟩
theorem ib_sum {b : Nat} : ∀ {n : Nat} {f : Nat → Rat}, (∀ k, k < n → IB b (f k)) → IB (n * b) (sumN n f)
  | 0, _, _ => ⟨0, rfl, Nat.zero_le _⟩
  | n + 1, f, h => by
    have := (ib_sum (n := n) fun k hk => h k (by omega)).add (h n (by omega))
    rw [Nat.succ_mul]
    exact this
theorem ib_sg (j : Nat) : IB 1 (sg j) := by
  unfold sg
  split
  · exact ⟨1, rfl, Nat.le_refl _⟩
  · exact ⟨-1, rfl, Nat.le_refl _⟩
def fac : Nat → Nat
  | 0 => 1
  | n + 1 => (n + 1) * fac n
theorem ib_det {B : Nat} : ∀ {n : Nat} {A : Mx}, (∀ i k, i < n → k < n → IB B (A i k)) → IB (fac n * B ^ n) (det n A)
  | 0, _, _ => ⟨1, rfl, Nat.le_refl _⟩
  | n + 1, A, h => by
    have s := ib_sum (n := n + 1) (b := B * (fac n * B ^ n)) (f := fun j => sg j * A 0 j * det n (minor A j)) fun j hj => by
      have := ((ib_sg j).mul (h 0 j (by omega) hj)).mul (ib_det (n := n) (A := minor A j) fun i k hi hk => h _ _ (by omega) (skip_lt hk))
      rw [Nat.one_mul] at this
      exact this
    have e : (n + 1) * (B * (fac n * B ^ n)) = fac (n + 1) * B ^ (n + 1) := by
      show _ = (n + 1) * fac n * B ^ (n + 1)
      rw [Nat.pow_succ]
      simp only [Nat.mul_assoc, Nat.mul_comm, Nat.mul_left_comm]
    rw [e] at s
    exact s
theorem fac_pos (n : Nat) : 0 < fac n := by
  induction n with
  | zero => decide
  | succ n ih => exact Nat.mul_pos (by omega) ih
theorem clr_ib {n w at_ B : Nat} {P X : Mx} (h : Clr n w at_ (det at_ P) P X) (hD : det at_ P ≠ 0) (hB : 0 < B) (hP : ∀ i c, i < n → c < w → IB B (P i c)) (ha : at_ ≤ n) (hw : at_ ≤ w) {k c : Nat} (hk : k < n) (hc : c < w) : IB (fac (at_ + 1) * B ^ (at_ + 1)) (X k c) := by
  have low : ∀ k, k < at_ → IB (fac at_ * B ^ at_) (X k c) := fun k hk => by
    rw [cramer_int (m := at_) (k := k) (P := P) (x := fun l => X l c) (p := fun r => P r c) (fun r hr => by
      have e := h r c (by omega) hc
      rw [if_neg (by omega), Rat.add_zero] at e
      exact e) hD hk]
    refine ib_det fun i r hi hr => ?_
    by_cases q : i = k
    · subst q
      rw [setR_same]
      exact hP r c (by omega) hc
    · rw [setR_ne q]
      exact hP r i (by omega) (by omega)
  have tot : fac (at_ + 1) * B ^ (at_ + 1) = fac at_ * B ^ at_ * B + at_ * (B * (fac at_ * B ^ at_)) := by
    show (at_ + 1) * fac at_ * B ^ (at_ + 1) = _
    rw [Nat.pow_succ, Nat.succ_mul, Nat.add_mul]
    simp only [Nat.mul_assoc, Nat.mul_comm, Nat.mul_left_comm, Nat.add_comm]
  by_cases q : k < at_
  · refine (low k q).mono ?_
    rw [tot]
    exact Nat.le_trans (Nat.le_mul_of_pos_right _ hB) (Nat.le_add_right _ _)
  · have e := h k c hk hc
    rw [if_pos (by omega)] at e
    have : X k c = det at_ P * P k c - sumN at_ (fun l => P k l * X l c) := by
      generalize sumN at_ (fun l => P k l * X l c) = S at *
      grind
    rw [this, tot]
    exact ((ib_det fun i r hi hr => hP i r (by omega) (by omega)).mul (hP k c hk hc)).sub (ib_sum fun l hl => (hP k l hk (by omega)).mul (low l hl))
/-! rows of whole numbers -/
abbrev Rows := List (List Int)
def at2 (ls : Rows) (r c : Nat) : Int := (ls.getD r []).getD c 0
def mx (ls : Rows) : Mx := fun r c => ((at2 ls r c : Int) : Rat)
def Box (n w : Nat) (ls : Rows) : Prop := ls.length = n ∧ ∀ r ∈ ls, r.length = w
def Bnd (B : Nat) (ls : Rows) : Prop := ∀ r ∈ ls, ∀ z ∈ r, z.natAbs ≤ B
theorem Box.row {n w r : Nat} {ls : Rows} (h : Box n w ls) (hr : r < n) : (ls.getD r []).length = w := by
  rw [getD_lt (by rw [h.1]; exact hr)]
  exact h.2 _ (List.getElem_mem _)
theorem Bnd.at2 {n w r c B : Nat} {ls : Rows} (b : Bnd B ls) (h : Box n w ls) (hr : r < n) (hc : c < w) : (at2 ls r c).natAbs ≤ B := by
  have e := h.row hr
  have m : ls.getD r [] ∈ ls := by
    rw [getD_lt (by rw [h.1]; exact hr)]
    exact List.getElem_mem _
  unfold DL.at2
  rw [getD_lt (by rw [e]; exact hc)]
  exact b _ m _ (List.getElem_mem _)
def clearRow (a : Int) (at_ : Nat) (lead row : List Int) : List Int := List.zipWith (fun one other => (lead.getD at_ 0 * one - row.getD at_ 0 * other).fdiv a) row lead
/-- the column at_ cleared in the first m rows but at_ -/
def clearTo (a : Int) (at_ m : Nat) (ls : Rows) : Rows := (List.range ls.length).map fun k => if k < m ∧ k ≠ at_ then clearRow a at_ (ls.getD at_ []) (ls.getD k []) else ls.getD k []
theorem clearTo_len {a : Int} {at_ m : Nat} {ls : Rows} : (clearTo a at_ m ls).length = ls.length := by unfold clearTo; rw [List.length_map, List.length_range]
theorem clearTo_get {a : Int} {at_ m k : Nat} {ls : Rows} (h : k < ls.length) : (clearTo a at_ m ls).getD k [] = if k < m ∧ k ≠ at_ then clearRow a at_ (ls.getD at_ []) (ls.getD k []) else ls.getD k [] := by
  unfold clearTo
  rw [getD_mapL (d := 0) (by rw [List.length_range]; exact h), getD_range h]
theorem clearTo_zero {a : Int} {at_ : Nat} {ls : Rows} : clearTo a at_ 0 ls = ls := by
  refine List.ext_getElem clearTo_len fun k h1 h2 => ?_
  have e := clearTo_get (a := a) (at_ := at_) (m := 0) (ls := ls) h2
  rw [if_neg (by omega), getD_lt h1, getD_lt h2] at e
  exact e
theorem clearTo_same {a : Int} {at_ : Nat} {ls : Rows} : clearTo a at_ (at_ + 1) ls = clearTo a at_ at_ ls := by
  refine List.ext_getElem (by rw [clearTo_len, clearTo_len]) fun k h1 h2 => ?_
  have hk : k < ls.length := by rw [clearTo_len] at h1; exact h1
  have e1 := clearTo_get (a := a) (at_ := at_) (m := at_ + 1) (ls := ls) hk
  have e2 := clearTo_get (a := a) (at_ := at_) (m := at_) (ls := ls) hk
  rw [getD_lt h1] at e1
  rw [getD_lt h2] at e2
  rw [e1, e2]
  by_cases q : k < at_
  · rw [if_pos (by omega), if_pos (by omega)]
  · rw [if_neg (by omega), if_neg (by omega)]
theorem clearTo_set {a : Int} {at_ m : Nat} {ls : Rows} (hm : m < ls.length) (h : m ≠ at_) : (clearTo a at_ m ls).set m (clearRow a at_ (ls.getD at_ []) (ls.getD m [])) = clearTo a at_ (m + 1) ls := by
  refine List.ext_getElem (by rw [List.length_set, clearTo_len, clearTo_len]) fun k h1 h2 => ?_
  have hk : k < ls.length := by rw [clearTo_len] at h2; exact h2
  have e2 := clearTo_get (a := a) (at_ := at_) (m := m + 1) (ls := ls) hk
  have e1 := clearTo_get (a := a) (at_ := at_) (m := m) (ls := ls) hk
  rw [getD_lt h2] at e2
  rw [getD_lt (by rw [clearTo_len]; exact hk)] at e1
  rw [e2, List.getElem_set]
  by_cases q : m = k
  · subst q
    rw [if_pos rfl, if_pos (by omega)]
  · rw [if_neg q, e1]
    by_cases q2 : k < m
    · by_cases q3 : k = at_
      · rw [if_neg (by omega), if_neg (by omega)]
      · rw [if_pos ⟨q2, q3⟩, if_pos ⟨by omega, q3⟩]
    · rw [if_neg (by omega), if_neg (by omega)]
theorem fdiv_of {a b z : Int} (hb : b ≠ 0) (e : (a : Rat) / (b : Rat) = (z : Rat)) : a.fdiv b = z := by
  have hb' : (b : Rat) ≠ 0 := fun h => hb (by exact_mod_cast h)
  have : a = b * z := by
    have : (a : Rat) = (b : Rat) * (z : Rat) := by
      rw [← e]
      grind
    exact_mod_cast this
  rw [this, Int.mul_comm]
  exact Int.mul_fdiv_cancel z hb
/-- a column cleared, of whole numbers: they are the true quotients -/
theorem clear_mx {n w at_ B : Nat} {a : Int} {P ls : Rows} (hP : Box n w P) (hL : Box n w ls) (b : Bnd B P) (hB : 0 < B) (hn : at_ < n) (hw : at_ < w) (hnw : n ≤ w) (h : Clr n w at_ a (mx P) (mx ls)) (ha : a ≠ 0) (hd : (a : Rat) = det at_ (mx P)) (hp : at2 ls at_ at_ ≠ 0) :
    Box n w (clearTo a at_ n ls) ∧ Clr n w (at_ + 1) (at2 ls at_ at_ : Int) (mx P) (mx (clearTo a at_ n ls)) ∧ ((at2 ls at_ at_ : Int) : Rat) = det (at_ + 1) (mx P) ∧ Bnd (fac (at_ + 2) * B ^ (at_ + 2)) (clearTo a at_ n ls) ∧ at2 (clearTo a at_ n ls) at_ at_ = at2 ls at_ at_ := by
  have ha' : (a : Rat) ≠ 0 := fun z => ha (by exact_mod_cast z)
  have hp' : ((at2 ls at_ at_ : Int) : Rat) ≠ 0 := fun z => hp (by exact_mod_cast z)
  have st := clr_step h ha' hw
  have pv := clr_pivot h ha' hd hw hn
  have box : Box n w (clearTo a at_ n ls) := ⟨by rw [clearTo_len, hL.1], fun r hr => by
    obtain ⟨k, hk, rfl⟩ := List.mem_map.mp hr
    rw [List.mem_range, hL.1] at hk
    have l1 := hL.row hk
    have l2 := hL.row hn
    split
    · unfold clearRow
      rw [List.length_zipWith, l1, l2, Nat.min_self]
    · exact l1⟩
  have st2 : Clr n w (at_ + 1) (det (at_ + 1) (mx P)) (mx P) (stepX at_ a (mx ls)) := by
    rw [pv]
    exact st
  have hD : det (at_ + 1) (mx P) ≠ 0 := by
    rw [pv]
    exact hp'
  have ib : ∀ k c, k < n → c < w → IB (fac (at_ + 2) * B ^ (at_ + 2)) (stepX at_ a (mx ls) k c) := fun k c hk hc => clr_ib st2 hD hB (fun i c hi hc => ⟨_, rfl, b.at2 hP hi hc⟩) (by omega) (by omega) hk hc
  have key : ∀ k c, k < n → c < w → mx (clearTo a at_ n ls) k c = stepX at_ a (mx ls) k c := fun k c hk hc => by
    have g := clearTo_get (a := a) (at_ := at_) (m := n) (ls := ls) (k := k) (by rw [hL.1]; exact hk)
    by_cases q : k = at_
    · rw [if_neg (by omega)] at g
      unfold stepX
      rw [if_pos q]
      show ((at2 _ _ _ : Int) : Rat) = _
      unfold at2
      rw [g, q]
      rfl
    · rw [if_pos ⟨hk, q⟩] at g
      obtain ⟨z, hz, _⟩ := ib k c hk hc
      rw [hz]
      unfold stepX at hz
      rw [if_neg q] at hz
      show ((at2 _ _ _ : Int) : Rat) = _
      unfold at2
      rw [g]
      have l1 := hL.row hk
      have l2 := hL.row hn
      have e : (clearRow a at_ (ls.getD at_ []) (ls.getD k [])).getD c 0 = (at2 ls at_ at_ * at2 ls k c - at2 ls k at_ * at2 ls at_ c).fdiv a := by
        unfold clearRow
        rw [getD_lt (by rw [List.length_zipWith, l1, l2, Nat.min_self]; exact hc), List.getElem_zipWith]
        unfold at2
        rw [getD_lt (xs := ls.getD k []) (i := c) (by rw [l1]; exact hc), getD_lt (xs := ls.getD at_ []) (i := c) (by rw [l2]; exact hc)]
      rw [e]
      refine congrArg _ (fdiv_of ha ?_)
      rw [← hz, Rat.intCast_sub, Rat.intCast_mul, Rat.intCast_mul]
      rfl
  refine ⟨box, fun r c hr hc => ?_, pv.symm, fun r hr z hz => ?_, ?_⟩
  · refine Eq.trans ?_ (st r c hr hc)
    rw [key r c hr hc, sumN_congr (g := fun k => mx P r k * stepX at_ a (mx ls) k c) fun k hk => by rw [key k c (by omega) hc]]
  · obtain ⟨k, hk, rfl⟩ := List.getElem_of_mem hr
    obtain ⟨c, hc, rfl⟩ := List.getElem_of_mem hz
    have hk' : k < n := by rw [← box.1]; exact hk
    have hc' : c < w := by rw [← box.2 _ hr]; exact hc
    obtain ⟨z, e, hz2⟩ := ib k c hk' hc'
    have : mx (clearTo a at_ n ls) k c = (((clearTo a at_ n ls)[k][c] : Int) : Rat) := by
      show ((at2 _ _ _ : Int) : Rat) = _
      unfold at2
      rw [getD_lt hk, getD_lt hc]
    rw [← key k c hk' hc', this] at e
    have e : (clearTo a at_ n ls)[k][c] = z := by exact_mod_cast e
    rw [e]
    exact hz2
  · unfold at2
    rw [clearTo_get (by rw [hL.1]; exact hn), if_neg (by omega)]
end DL
-- DT6
set_option maxRecDepth 100000
namespace DL
/-! the columns cleared one after another, rows exchanged where a nought stands -/
def swapL (ls : Rows) (i j : Nat) : Rows := (ls.set i (ls.getD j [])).set j (ls.getD i [])
theorem swapL_len {ls : Rows} {i j : Nat} : (swapL ls i j).length = ls.length := by unfold swapL; rw [List.length_set, List.length_set]
theorem swapL_get {ls : Rows} {i j r : Nat} (hi : i < ls.length) (hj : j < ls.length) (hr : r < ls.length) : (swapL ls i j).getD r [] = ls.getD (if r = i then j else if r = j then i else r) [] := by
  rw [getD_lt (by rw [swapL_len]; exact hr)]
  unfold swapL
  rw [List.getElem_set]
  by_cases h : j = r
  · subst h
    rw [if_pos rfl]
    by_cases h2 : j = i
    · subst h2; rw [if_pos rfl]
    · rw [if_neg h2, if_pos rfl]
  · rw [if_neg h, List.getElem_set]
    by_cases h2 : i = r
    · subst h2
      rw [if_pos rfl, if_pos rfl]
    · rw [if_neg h2, if_neg (Ne.symm h2), if_neg (Ne.symm h), getD_lt hr]
theorem swapL_mem {ls : Rows} {i j : Nat} (hi : i < ls.length) (hj : j < ls.length) {r : List Int} : r ∈ swapL ls i j ↔ r ∈ ls := by
  constructor
  · intro h
    obtain ⟨k, hk, rfl⟩ := List.getElem_of_mem h
    have hk' : k < ls.length := by rw [swapL_len] at hk; exact hk
    have e := swapL_get hi hj hk'
    rw [getD_lt hk] at e
    rw [e, getD_lt (by split; · exact hj
                       · split
                         · exact hi
                         · exact hk')]
    exact List.getElem_mem _
  · intro h
    obtain ⟨k, hk, rfl⟩ := List.getElem_of_mem h
    have hr : (if k = i then j else if k = j then i else k) < ls.length := by
      split
      · exact hj
      · split
        · exact hi
        · exact hk
    have e := swapL_get hi hj hr
    have b : (if (if k = i then j else if k = j then i else k) = i then j else if (if k = i then j else if k = j then i else k) = j then i else (if k = i then j else if k = j then i else k)) = k := by
      split <;> split <;> (try split) <;> omega
    rw [b, getD_lt hk, getD_lt (by rw [swapL_len]; exact hr)] at e
    rw [← e]
    exact List.getElem_mem _
theorem swapL_mx {n w i j : Nat} {ls : Rows} (h : Box n w ls) (hi : i < n) (hj : j < n) {r c : Nat} (hr : r < n) : mx (swapL ls i j) r c = swapR (mx ls) i j r c := by
  show ((at2 _ _ _ : Int) : Rat) = ((at2 ls (if r = i then j else if r = j then i else r) c : Int) : Rat)
  unfold at2
  rw [swapL_get (by rw [h.1]; exact hi) (by rw [h.1]; exact hj) (by rw [h.1]; exact hr)]
structure SI (n w B : Nat) (ls0 : Rows) (at_ : Nat) (ls : Rows) (a s : Int) : Prop where
  ex : ∃ P, Box n w P ∧ Bnd B P ∧ (∀ r ∈ ls0, r ∈ P) ∧ Clr n w at_ a (mx P) (mx ls) ∧ (a : Rat) = det at_ (mx P) ∧ det n (mx ls0) = s * det n (mx P)
  box : Box n w ls
  ne : a ≠ 0
  sgn : s = 1 ∨ s = -1
  bnd : Bnd (fac (at_ + 1) * B ^ (at_ + 1)) ls
  ab : a.natAbs ≤ fac at_ * B ^ at_
theorem si_start {n w B : Nat} {ls : Rows} (h : Box n w ls) (b : Bnd B ls) : SI n w B ls 0 ls 1 1 where
  ex := ⟨ls, h, b, fun r hr => hr, clr_start n w _, rfl, (Rat.one_mul _).symm⟩
  box := h
  ne := by decide
  sgn := .inl rfl
  bnd := fun r hr z hz => by
    show _ ≤ 1 * 1 * B ^ 1
    rw [Nat.pow_one, Nat.one_mul]
    exact b r hr z hz
  ab := Nat.le_refl _
section
variable {n w B at_ : Nat} {ls0 ls : Rows} {a s : Int} (S : SI n w B ls0 at_ ls a s) (hB : 0 < B) (hn : at_ < n) (hnw : n ≤ w)
include S
theorem SI.neR : (a : Rat) ≠ 0 := fun z => S.ne (by exact_mod_cast z)
theorem SI.none (hn : at_ < n) (hnw : n ≤ w) (z : ∀ k, at_ ≤ k → k < n → at2 ls k at_ = 0) : det n (mx ls0) = 0 := by
  obtain ⟨P, h1, h2, h3, h4, h5, h6⟩ := S.ex
  rw [h6, clr_none h4 S.neR (by omega) hn fun r hr hr2 => by show ((at2 ls r at_ : Int) : Rat) = 0; rw [z r hr hr2]; rfl, Rat.mul_zero]
theorem SI.swap (hn : at_ < n) {k : Nat} (hk : at_ < k) (hkn : k < n) : SI n w B ls0 at_ (swapL ls at_ k) a (-s) := by
  obtain ⟨P, h1, h2, h3, h4, h5, h6⟩ := S.ex
  have p1 : at_ < P.length := by rw [h1.1]; exact hn
  have p2 : k < P.length := by rw [h1.1]; exact hkn
  have l1 : at_ < ls.length := by rw [S.box.1]; exact hn
  have l2 : k < ls.length := by rw [S.box.1]; exact hkn
  refine ⟨⟨swapL P at_ k, ⟨by rw [swapL_len, h1.1], fun r hr => h1.2 r ((swapL_mem p1 p2).mp hr)⟩, fun r hr => h2 r ((swapL_mem p1 p2).mp hr), fun r hr => (swapL_mem p1 p2).mpr (h3 r hr), ?_, ?_, ?_⟩, ⟨by rw [swapL_len, S.box.1], fun r hr => S.box.2 r ((swapL_mem l1 l2).mp hr)⟩, S.ne, ?_, fun r hr => S.bnd r ((swapL_mem l1 l2).mp hr), S.ab⟩
  · intro r c hr hc
    let q := if r = at_ then k else if r = k then at_ else r
    have hq : q < n := by
      show (if r = at_ then k else if r = k then at_ else r) < n
      split
      · exact hkn
      · split <;> omega
    have hq2 : at_ ≤ q ↔ at_ ≤ r := by
      show at_ ≤ (if r = at_ then k else if r = k then at_ else r) ↔ _
      split
      · omega
      · split <;> omega
    have e := h4 q c hq hc
    rw [swapL_mx S.box hn hkn hr, swapL_mx h1 hn hkn hr]
    show _ + (if at_ ≤ r then mx ls q c else 0) = a * mx P q c
    rw [← e]
    have s1 : sumN at_ (fun k' => mx (swapL P at_ k) r k' * mx (swapL ls at_ k) k' c) = sumN at_ fun k' => mx P q k' * mx ls k' c := sumN_congr fun k' hk' => by
      rw [swapL_mx S.box hn hkn (by omega), swapL_mx h1 hn hkn hr]
      show mx P q k' * mx ls (if k' = at_ then k else if k' = k then at_ else k') c = _
      rw [if_neg (by omega), if_neg (by omega)]
    rw [s1]
    by_cases g : at_ ≤ r
    · rw [if_pos g, if_pos (hq2.mpr g)]
    · rw [if_neg g, if_neg (fun x => g (hq2.mp x))]
  · rw [h5]
    refine det_congr fun i c hi hc => ?_
    rw [swapL_mx h1 hn hkn (by omega)]
    show _ = mx P (if i = at_ then k else if i = k then at_ else i) c
    rw [if_neg (by omega), if_neg (by omega)]
  · have e : det n (mx (swapL P at_ k)) = -det n (mx P) := by
      rw [← det_swap (mx P) hn hkn (by omega)]
      exact det_congr fun i c hi hc => swapL_mx h1 hn hkn hi
    rw [h6, e, Rat.intCast_neg, Rat.neg_mul, Rat.mul_neg, Rat.neg_neg]
  · rcases S.sgn with z | z <;> rw [z]
    · exact .inr rfl
    · exact .inl rfl
theorem SI.clear (hB : 0 < B) (hn : at_ < n) (hnw : n ≤ w) (hp : at2 ls at_ at_ ≠ 0) : SI n w B ls0 (at_ + 1) (clearTo a at_ n ls) (at2 ls at_ at_) s := by
  obtain ⟨P, h1, h2, h3, h4, h5, h6⟩ := S.ex
  obtain ⟨g1, g2, g3, g4, g5⟩ := clear_mx h1 S.box h2 hB hn (by omega) hnw h4 S.ne h5 hp
  exact ⟨⟨P, h1, h2, h3, g2, g3, h6⟩, g1, hp, S.sgn, g4, S.bnd.at2 S.box hn (by omega)⟩
end
theorem SI.end_ {n w B : Nat} {ls0 ls : Rows} {a s : Int} (S : SI n w B ls0 n ls a s) : ((s * a : Int) : Rat) = det n (mx ls0) := by
  obtain ⟨P, h1, h2, h3, h4, h5, h6⟩ := S.ex
  rw [h6, Rat.intCast_mul, h5]
/-- what the cleared rows solve: δ times the right side, and δ along them -/
theorem SI.solves {n w B : Nat} {ls0 ls : Rows} {a s : Int} (S : SI n w B ls0 n ls a s) (hB : Box n w ls0) {r c : Nat} (hr : r < n) (hc : c < w) : sumN n (fun k => mx ls0 r k * mx ls k c) = a * mx ls0 r c := by
  obtain ⟨P, h1, h2, h3, h4, h5, h6⟩ := S.ex
  have hr' : r < ls0.length := by rw [hB.1]; exact hr
  have m : ls0.getD r [] ∈ P := h3 _ (by rw [getD_lt hr']; exact List.getElem_mem _)
  obtain ⟨q, hq, e⟩ := List.getElem_of_mem m
  have e2 : ∀ c, mx ls0 r c = mx P q c := fun c => by
    show ((at2 _ _ _ : Int) : Rat) = ((at2 _ _ _ : Int) : Rat)
    unfold at2
    rw [getD_lt (xs := P) hq, e]
  have hq' : q < n := by rw [← h1.1]; exact hq
  have := h4 q c hq' hc
  rw [if_neg (by omega), Rat.add_zero] at this
  rw [e2 c, ← this]
  exact sumN_congr fun k hk => by rw [e2 k]
theorem SI.diag {n w B : Nat} {ls0 ls : Rows} {a s : Int} (S : SI n w B ls0 n ls a s) (hB : Box n w ls0) (hnw : n ≤ w) {k c : Nat} (hk : k < n) (hc : c < n) : at2 ls k c = if k = c then a else 0 := by
  obtain ⟨P, h1, h2, h3, h4, h5, h6⟩ := S.ex
  have hD : det n (mx P) ≠ 0 := by rw [← h5]; exact S.neR
  have e := cramer_int (m := n) (k := k) (P := mx P) (x := fun l => mx ls l c) (p := fun r => mx P r c) (fun r hr => by
    have e := h4 r c hr (by omega)
    rw [if_neg (by omega), Rat.add_zero, h5] at e
    exact e) hD hk
  have e2 : mx ls k c = ((if k = c then a else 0 : Int) : Rat) := by
    rw [e]
    by_cases q : k = c
    · subst q
      rw [if_pos rfl, h5]
      exact (congrArg (det n) (setR_self (A := tr (mx P)) (i := k))).trans (det_tr n (mx P))
    · rw [if_neg q]
      exact det_eqRows hk hc q fun x => by rw [setR_same, setR_ne (Ne.symm q)]; rfl
  have e3 : ((at2 ls k c : Int) : Rat) = ((if k = c then a else 0 : Int) : Rat) := e2
  exact_mod_cast e3
end DL
-- DT7
set_option maxRecDepth 100000
namespace DL
/-! fractions with a common denominator and a bounded numerator -/
def CB (d z : Nat) (q : Rat) : Prop := d ≠ 0 ∧ ∃ n : Int, q = Rat.divInt n d ∧ n.natAbs ≤ z
def CBs (d z : Nat) (t : List (List Rat)) : Prop := ∀ r ∈ t, ∀ q ∈ r, CB d z q
theorem cb_of {i : Int} {k e d z : Nat} (hk : k ≠ 0) (h : k * e = d) (hz : (i * (e : Int)).natAbs ≤ z) (hd : d ≠ 0 := by decide) : CB d z (Rat.divInt i k) := by
  refine ⟨hd, i * e, ?_, hz⟩
  have he : e ≠ 0 := fun x => hd (by rw [← h, x, Nat.mul_zero])
  rw [← h, Int.natCast_mul]
  rw [Rat.divInt_eq_divInt_iff (by omega) (by exact Int.mul_ne_zero (by omega) (by omega))]
  simp only [Int.mul_assoc, Int.mul_comm, Int.mul_left_comm]
theorem CB.mono {d z z' : Nat} {q : Rat} (h : CB d z q) (l : z ≤ z') : CB d z' q := ⟨h.1, by obtain ⟨_, n, e, k⟩ := h; exact ⟨n, e, Nat.le_trans k l⟩⟩
theorem CB.scale {d z : Nat} {q : Rat} (h : CB d z q) (e : Nat) (he : e ≠ 0) : CB (d * e) (z * e) q := by
  obtain ⟨hd, n, rfl, k⟩ := h
  refine ⟨Nat.mul_ne_zero hd he, n * e, ?_, ?_⟩
  · rw [Int.natCast_mul, Rat.divInt_eq_divInt_iff (by omega) (by exact Int.mul_ne_zero (by omega) (by omega))]
    simp only [Int.mul_assoc, Int.mul_comm, Int.mul_left_comm]
  · rw [Int.natAbs_mul, Int.natAbs_natCast]
    exact Nat.mul_le_mul_right _ k
theorem CB.add {d z z' : Nat} {p q : Rat} (h : CB d z p) (k : CB d z' q) : CB d (z + z') (p + q) := by
  obtain ⟨hd, n, rfl, hn⟩ := h
  obtain ⟨_, m, rfl, hm⟩ := k
  exact ⟨hd, n + m, (add_same (by omega)).symm, Nat.le_trans (Int.natAbs_add_le n m) (Nat.add_le_add hn hm)⟩
theorem CB.mul {d d' z z' : Nat} {p q : Rat} (h : CB d z p) (k : CB d' z' q) : CB (d * d') (z * z') (p * q) := by
  obtain ⟨hd, n, rfl, hn⟩ := h
  obtain ⟨hd', m, rfl, hm⟩ := k
  exact ⟨Nat.mul_ne_zero hd hd', n * m, by rw [Rat.divInt_mul_divInt, Int.natCast_mul], by rw [Int.natAbs_mul]; exact Nat.mul_le_mul hn hm⟩
theorem CB.bq {d z k : Nat} {q : Rat} (h : CB d z q) (hd : d < 2 ^ k) (hz : z < 2 ^ k) : BQ k q := by
  obtain ⟨h0, n, rfl, hn⟩ := h
  exact divInt_bits (by omega) (Nat.lt_of_le_of_lt hn hz) (by rw [Int.natAbs_natCast]; exact hd)
theorem CB.den {d z : Nat} {q : Rat} (h : CB d z q) : q.den ∣ d := by
  obtain ⟨h0, n, rfl, hn⟩ := h
  rw [Rat.den_divInt, if_neg (by omega), Int.natAbs_natCast]
  exact Nat.div_dvd_of_dvd (show Nat.gcd d n.natAbs ∣ d from Nat.gcd_dvd_left _ _)
theorem CBs.bits {d z k : Nat} {t : List (List Rat)} (h : CBs d z t) (hd : d < 2 ^ k) (hz : z < 2 ^ k) : Bits k t := fun r hr q hq => (h r hr q hq).bq hd hz
end DL
-- DT8
set_option maxRecDepth 100000
namespace DL
open PySem PySem.Spec PyProof.Rows L2 PySem.HandSPX
/-! is None -/
def isN : D → Bool
  | .non => true
  | _ => false
theorem rep_isN {K : PySem.W.Frag} {F : Hp} {v : V} {d : D} (r : Rep K F v d) : decide (v = .non) = isN d := by
  cases r <;> first | exact decide_eq_true rfl | exact decide_eq_false (fun z => by cases z)
def dIsN (neg : Bool) : RD2 := fun x y μ Q => y = .non ∧ Q (.bl (if neg then !isN x else isN x)) μ
theorem lift_isN {K : PySem.W.Frag} : Lift2 K (fun x y H Q => y = .non ∧ Q (.bl (decide (x = .non))) H) (dIsN false) := fun x y dx dy F μ H Q QD l rx ry ⟨e, q⟩ k => by
  subst e
  have : y = .non := by cases ry; rfl
  exact ⟨this, k _ _ F μ H (Ex.refl F) l (by rw [rep_isN rx]; exact .bl _) q⟩
theorem lift_notN {K : PySem.W.Frag} : Lift2 K (fun x y H Q => y = .non ∧ Q (.bl (!decide (x = .non))) H) (dIsN true) := fun x y dx dy F μ H Q QD l rx ry ⟨e, q⟩ k => by
  subst e
  have : y = .non := by cases ry; rfl
  exact ⟨this, k _ _ F μ H (Ex.refl F) l (by rw [rep_isN rx]; exact .bl _) q⟩
theorem x_isN {d : D} {μ : Mem} {Q : DK} (k : Q (.bl (isN d)) μ) : dIsN false d .non μ Q := ⟨rfl, k⟩
theorem x_notN {d : D} {μ : Mem} {Q : DK} (k : Q (.bl (!isN d)) μ) : dIsN true d .non μ Q := ⟨rfl, k⟩
/-! a changing list, read for the last time -/
def dVarF (i : Nat) : TD := fun δ μ Q => ∃ p xs, δ[i]? = some (some (.ref p)) ∧ μ p = some xs ∧ Q (.lst xs) (mdel μ p)
theorem de_varF {X : Cx} (i : Nat) {x : Str} {pos : Pos} (h : PE X (.Name x pos) (tVar i)) : DE X (.Name x pos) (dVarF i) := by
  refine PE.weak h fun σ H Q ⟨δ, F, μ, QD, l, r, ⟨p, xs, e, hm, q⟩, k⟩ => ?_
  obtain ⟨v, e1, r1⟩ := r.get e
  obtain ⟨vs, hH, hF, l2, r2⟩ := l.freeze hm
  have ev := rep_ref r1
  subst ev
  exact ⟨_, e1, k _ _ _ _ H (Ex.new hF) l2 r2 q⟩
theorem x_varF {i : Nat} {δ : DSt} {μ : Mem} {p : Addr} {xs : List D} {Q : DK} (h : δ[i]? = some (some (.ref p))) (hn : μ p = none) (q : Q (.lst xs) μ) : dVarF i δ (mset μ p xs) Q := ⟨p, xs, h, mset_same, by rw [mdel_mset hn]; exact q⟩
/-! enumerate of a list -/
def enumD (xs : List D) : List D := (List.range xs.length).map fun i : Nat => .tup [.int (i : Int), xs.getD i .non]
def iEnumD (ta : TDA) : TDI := fun δ μ Q => ta δ μ fun ds μ1 => ∃ xs, ds = [.lst xs] ∧ Q (enumD xs) μ1
theorem di_enum {X : Cx} {e : Expr} {ta : TDA} {p pos tpos : Pos} {elts : List Expr} {kk : Nat} (hm : X.mg "enumerate" = none) (ha : DA X [e] ta) (hg : Gl X "enumerate" := by rfl) (hs : starEach [e] X.env = [(false, eval e X.env)] := by rfl) :
    DI X (.Tuple elts kk tpos) (.Call (.Name "enumerate" p) [e] [] pos) (iEnumD ta) := by
  refine PI.weak (pi_enum hg hm ha hs) fun σ H R ⟨δ, F, μ, QD, l, rs, q, k⟩ => ⟨δ, F, μ, _, l, rs, q, fun vs ds F1 μ1 H1 e1 l1 r1 ⟨xs, ed, q1⟩ => ?_⟩
  subst ed
  obtain ⟨v, rfl, rv⟩ := reps1 r1
  cases rv with
  | @lst a ws _ hF rr =>
    refine ⟨a, ws, rfl, .inl (.inl (l1.fz _ _ hF)), k _ _ F1 μ1 H1 e1 l1 (fun i F2 μ2 H2 e2 l2 hi => ⟨fun d hd => ?_, fun hl => ?_⟩) q1⟩
    · have hi2 : i < xs.length := by
        by_cases z : i < xs.length
        · exact z
        · rw [List.getElem?_eq_none (by unfold enumD; rw [List.length_map, List.length_range]; omega)] at hd
          cases hd
      have hd2 : d = .tup [.int (i : Int), xs.getD i .non] := by
        unfold enumD at hd
        rw [List.getElem?_map, List.getElem?_range hi2] at hd
        cases hd
        rfl
      subst hd2
      obtain ⟨vx, hx, rx⟩ := rr.get (show xs[i]? = some (xs.getD i .non) by rw [List.getElem?_eq_getElem hi2, getD_lt hi2])
      have sa : SqL X.K H2 a ws := .inl (.inl (l2.fz _ _ (e2 _ _ hF)))
      refine ⟨⟨ws, vx, sa, hx⟩, fun z H3 ⟨T, x', ez, hT, eH, f1⟩ => ?_⟩
      subst ez eH
      have e3 := (f1 _ sa).symm.trans hx
      cases e3
      exact new_pair l2 hT (.int _) (rx.mono e2)
    · have hl2 : xs.length ≤ i := by
        unfold enumD at hl
        rw [List.length_map, List.length_range] at hl
        omega
      exact ⟨ws, .inl (.inl (l2.fz _ _ (e2 _ _ hF))), by rw [rr.length]; omega⟩
theorem x_iEnum {ta : TDA} {δ : DSt} {μ : Mem} {Q : List D → Mem → Prop} (k : ta δ μ fun ds μ1 => ∃ xs, ds = [.lst xs] ∧ Q (enumD xs) μ1) : iEnumD ta δ μ Q := k
end DL
-- DT9
set_option maxRecDepth 100000
namespace DL
/-! rows of fractions made whole -/
def prodN : Nat → (Nat → Rat) → Rat
  | 0, _ => 1
  | n + 1, s => s 0 * prodN n (fun k => s (k + 1))
theorem det_scale : ∀ (n : Nat) (s : Nat → Rat) (A : Mx), det n (fun r c => s r * A r c) = prodN n s * det n A
  | 0, _, _ => (Rat.one_mul 1).symm
  | n + 1, s, A => by
    show sumN (n + 1) _ = s 0 * prodN n _ * sumN (n + 1) _
    rw [← sumN_left]
    refine sumN_congr fun j hj => ?_
    have e : det n (minor (fun r c => s r * A r c) j) = prodN n (fun k => s (k + 1)) * det n (minor A j) := det_scale n (fun k => s (k + 1)) (minor A j)
    rw [e]
    grind
/-- the product of the divisors -/
def pr : List (List Rat) → Nat
  | [] => 1
  | r :: rs => lcmL 1 r * pr rs
theorem pr_ne : ∀ t, pr t ≠ 0
  | [] => by decide
  | r :: rs => Nat.mul_ne_zero (lcmL_pos r 1 (by decide)) (pr_ne rs)
theorem pr_prod : ∀ t : List (List Rat), ((pr t : Nat) : Rat) = prodN t.length (fun r => ((lcmL 1 (t.getD r []) : Nat) : Rat))
  | [] => rfl
  | r :: rs => by
    show ((lcmL 1 r * pr rs : Nat) : Rat) = _ * prodN rs.length _
    rw [Rat.natCast_mul, pr_prod rs]
    rfl
theorem pr_le {m : Nat} : ∀ {t : List (List Rat)}, (∀ r ∈ t, lcmL 1 r ≤ m) → pr t ≤ m ^ t.length
  | [], _ => Nat.le_refl _
  | r :: rs, h => by
    show lcmL 1 r * pr rs ≤ _
    rw [List.length_cons, Nat.pow_succ, Nat.mul_comm]
    exact Nat.mul_le_mul (pr_le fun x hx => h x (List.mem_cons_of_mem _ hx)) (h r List.mem_cons_self)
theorem lcmL_dvd_of {d : Nat} : ∀ {qs : List Rat} {d0 : Nat}, d0 ∣ d → (∀ q ∈ qs, q.den ∣ d) → lcmL d0 qs ∣ d
  | [], _, h, _ => h
  | q :: qs, d0, h, k => lcmL_dvd_of (qs := qs) (Nat.lcm_dvd h (k q List.mem_cons_self)) fun x hx => k x (List.mem_cons_of_mem _ hx)
/-- the row made whole -/
def wholeL (qs : List Rat) : List Int := qs.map (wholeN (lcmL 1 qs))
theorem wholeN_val {L : Nat} {q : Rat} (h0 : L ≠ 0) (h : q.den ∣ L) : ((wholeN L q : Int) : Rat) = (L : Rat) * q := by
  have e := whole_rat h0 h
  have h1 : (L : Rat) ≠ 0 := fun z => h0 (by exact_mod_cast z)
  rw [Rat.divInt_eq_div] at e
  have e : ((wholeN L q : Int) : Rat) / ((L : Nat) : Rat) = q := e
  rw [← e]
  grind
theorem wholeN_le {d z L : Nat} {q : Rat} (h : CB d z q) (hL : L ∣ d) (h0 : L ≠ 0) (hq : q.den ∣ L) : (wholeN L q).natAbs ≤ z := by
  obtain ⟨hd, n, e, hn⟩ := h
  obtain ⟨f, rfl⟩ := hL
  have v := wholeN_val h0 hq
  have f0 : f ≠ 0 := fun z => hd (by rw [z, Nat.mul_zero])
  have : wholeN L q * (f : Int) = n := by
    have h1 : (L : Rat) ≠ 0 := fun z => h0 (by exact_mod_cast z)
    have h2 : (f : Rat) ≠ 0 := fun z => f0 (by exact_mod_cast z)
    have e2 : q = (n : Rat) / ((L * f : Nat) : Rat) := by
      rw [e, Rat.divInt_eq_div]
      rfl
    rw [Rat.natCast_mul] at e2
    have : ((wholeN L q * (f : Int) : Int) : Rat) = ((n : Int) : Rat) := by
      rw [Rat.intCast_mul, v, e2]
      show (L : Rat) * ((n : Rat) / (L * f)) * (f : Rat) = n
      grind
    exact_mod_cast this
  rw [← this, Int.natAbs_mul, Int.natAbs_natCast] at hn
  exact Nat.le_trans (Nat.le_mul_of_pos_right _ (Nat.pos_of_ne_zero f0)) hn
theorem wholeL_get {qs : List Rat} {c : Nat} (h : c < qs.length) : (((wholeL qs).getD c 0 : Int) : Rat) = (lcmL 1 qs : Rat) * qs.getD c 0 := by
  unfold wholeL
  rw [getD_mapL (d := 0) h]
  refine wholeN_val (lcmL_pos qs 1 (by decide)) ((lcmL_dvd qs 1).2 _ ?_)
  rw [getD_lt h]
  exact List.getElem_mem _
theorem wholeL_bnd {d z : Nat} {qs : List Rat} (h : ∀ q ∈ qs, CB d z q) : ∀ x ∈ wholeL qs, x.natAbs ≤ z := fun x hx => by
  obtain ⟨q, hq, rfl⟩ := List.mem_map.mp hx
  exact wholeN_le (h q hq) (lcmL_dvd_of (Nat.one_dvd d) fun q hq => (h q hq).den) (lcmL_pos qs 1 (by decide)) ((lcmL_dvd qs 1).2 q hq)
/-- the rows made whole, and their determinant -/
theorem whole_mx {n w : Nat} {t : List (List Rat)} (h1 : t.length = n) (h2 : ∀ r ∈ t, r.length = w) {r c : Nat} (hr : r < n) (hc : c < w) : mx (t.map wholeL) r c = ((lcmL 1 (t.getD r []) : Nat) : Rat) * ent t r c := by
  show ((at2 _ _ _ : Int) : Rat) = _
  unfold at2
  have hr' : r < t.length := by rw [h1]; exact hr
  rw [getD_mapL (d := []) hr']
  refine wholeL_get ?_
  rw [getD_lt hr', h2 _ (List.getElem_mem _)]
  exact hc
theorem whole_det {n w : Nat} {t : List (List Rat)} (h1 : t.length = n) (h2 : ∀ r ∈ t, r.length = w) (hw : n ≤ w) : det n (mx (t.map wholeL)) = (pr t : Rat) * det n (ent t) := by
  rw [det_congr (B := fun r c => (fun r => ((lcmL 1 (t.getD r []) : Nat) : Rat)) r * ent t r c) fun r c hr hc => whole_mx h1 h2 hr (by omega), det_scale, pr_prod, h1]
theorem whole_box {n w : Nat} {t : List (List Rat)} (h1 : t.length = n) (h2 : ∀ r ∈ t, r.length = w) : Box n w (t.map wholeL) := ⟨by rw [List.length_map, h1], fun r hr => by
  obtain ⟨x, hx, rfl⟩ := List.mem_map.mp hr
  unfold wholeL
  rw [List.length_map, h2 x hx]⟩
theorem whole_bnd {d z : Nat} {t : List (List Rat)} (h : CBs d z t) : Bnd z (t.map wholeL) := fun r hr => by
  obtain ⟨x, hx, rfl⟩ := List.mem_map.mp hr
  exact wholeL_bnd (h x hx)
theorem lcm_le_of {d z : Nat} {qs : List Rat} (h : ∀ q ∈ qs, CB d z q) (hd : d ≠ 0) : lcmL 1 qs ≤ d := Nat.le_of_dvd (Nat.pos_of_ne_zero hd) (lcmL_dvd_of (Nat.one_dvd d) fun q hq => (h q hq).den)
end DL
-- DTA
set_option maxRecDepth 100000
namespace DL
open PySem PySem.Spec PyProof.Rows L2
/-- a value, and a changing list that is not needed any more -/
def dForget (i : Nat) (te : TD) : TD := fun δ μ Q => te δ μ fun d μ1 => ∃ p xs, δ[i]? = some (some (.ref p)) ∧ μ1 p = some xs ∧ Q d (mdel μ1 p)
theorem de_forget {X : Cx} (i : Nat) {e : Expr} {te : TD} (h : DE X e te) : DE X e (dForget i te) :=
  PE.weak h fun σ H Q ⟨δ, F, μ, QD, l, rs, q, k⟩ => ⟨δ, F, μ, _, l, rs, q, fun v d F1 μ1 H1 e1 l1 r1 ⟨p, xs, e, hm, q1⟩ => by
    obtain ⟨vs, hH, hF, l2, r2⟩ := l1.freeze hm
    exact k v d _ _ H1 (e1.trans (Ex.new hF)) l2 (r1.mono (Ex.new hF)) q1⟩
theorem x_forget {i : Nat} {te : TD} {δ : DSt} {μ : Mem} {Q : DK} (k : te δ μ fun d μ1 => ∃ p xs, δ[i]? = some (some (.ref p)) ∧ μ1 p = some xs ∧ Q d (mdel μ1 p)) : dForget i te δ μ Q := k
theorem x_forgetE {δ : DSt} {i : Nat} {μ : Mem} {p : Addr} {xs : List D} {R : Mem → Prop} (h : δ[i]? = some (some (.ref p))) (hn : μ p = none) (q : R μ) : ∃ p' xs', δ[i]? = some (some (.ref p')) ∧ (mset μ p xs) p' = some xs' ∧ R (mdel (mset μ p xs) p') := ⟨p, xs, h, mset_same, by rw [mdel_mset hn]; exact q⟩
end DL
-- DTB
set_option maxRecDepth 100000
namespace DL
open PySem PySem.Spec PyProof.Rows L2
/-- a list some times -/
def dMulL : RD2 := fun x y μ Q => ∃ xs j, x = .lst xs ∧ y = .int j ∧ 0 ≤ j ∧ j ≤ 1000 ∧ xs.length ≤ 1000 ∧ Q (.lst (List.replicate j.toNat xs).flatten) μ
theorem lift_repL {K : PySem.W.Frag} : Lift2 K rRep dMulL := fun x y dx dy F μ H Q QD l rx ry ⟨xs, j, ex, ey, h1, h2, h3, q⟩ k => by
  subst ex ey
  have e := rep_int ry
  subst e
  cases rx with
  | @lst a vs _ hF rr =>
    have hH : H a = some (.lst vs) := l.fz _ _ hF
    have hs : vs.length * j.toNat ≤ sizeLine := by
      rw [rr.length, sizeLine_eq]
      exact Nat.le_trans (Nat.mul_le_mul h3 (show j.toNat ≤ 1000 by omega)) (by decide)
    exact ⟨a, j, vs, rfl, rfl, hH, by omega, by omega, hs, fin_lst l (reps_flat rr _) q k⟩
theorem op_mulA {X : Cx} : OpR X (binaryOp .Mult) (fun x y H Q => (rI MulOk (fun i j => .int (i * j)) x y H Q ∨ rRepT X.K x y H Q) ∨ rRep x y H Q) := OpR.or (OpR.or op_mulAny op_repT) op_rep
theorem lift_mulA {K : PySem.W.Frag} : Lift2 K (fun x y H Q => (rI MulOk (fun i j => .int (i * j)) x y H Q ∨ rRepT K x y H Q) ∨ rRep x y H Q) (fun x y μ Q => dMul x y μ Q ∨ dMulL x y μ Q) := Lift2.or lift_mul lift_repL
theorem x_mulL {xs : List D} {j : Int} {μ : Mem} {Q : DK} (h1 : 0 ≤ j) (h2 : j ≤ 1000) (h3 : xs.length ≤ 1000) (k : Q (.lst (List.replicate j.toNat xs).flatten) μ) : dMulL (.lst xs) (.int j) μ Q := ⟨xs, j, rfl, rfl, h1, h2, h3, k⟩
end DL
-- DTC
set_option maxRecDepth 100000
namespace DL
/-! determinants of tables: turned, multiplied, of ones, with rows exchanged -/
theorem det_turned {n : Nat} {t : List (List Rat)} (ht : Sq n t) (hn : n ≠ 0) : det n (ent (colsQ t)) = det n (ent t) := by
  rw [← det_T n (ent t)]
  exact det_congr fun i k hi hk => ent_cols ht hn hi hk
theorem det_prod {n : Nat} {a b : List (List Rat)} (ha : Sq n a) (hb : Sq n b) (hn : n ≠ 0) : det n (ent (mulQ a b)) = det n (ent a) * det n (ent b) := by
  rw [← det_mul]
  exact det_congr fun i k hi hk => ent_mul ha hb hn hi hk
theorem det_id : ∀ n : Nat, det n (fun i k => if k = i then (1 : Rat) else 0) = 1
  | 0 => rfl
  | n + 1 => by
    rw [det_last fun k hk => if_neg (by omega), det_id n, if_pos rfl, Rat.one_mul]
theorem det_one (n : Nat) : det n (ent (oneQ n)) = 1 := by
  rw [← det_id n]
  exact det_congr fun i k hi hk => ent_one hi hk
theorem det_exch {n : Nat} {r s : List Rat} {t : List (List Rat)} (h : 2 ≤ n) : det n (ent (s :: r :: t)) = -det n (ent (r :: s :: t)) := by
  rw [← det_swap (n := n) (i := 0) (j := 1) (ent (r :: s :: t)) (by omega) (by omega) (by decide)]
  refine det_congr fun i k hi hk => ?_
  unfold swapR
  match i with
  | 0 => rfl
  | 1 => rfl
  | i + 2 => rfl
theorem cb_dot {d d' z z' : Nat} (hd : d ≠ 0) (hd' : d' ≠ 0) : ∀ {r c : List Rat}, (∀ q ∈ r, CB d z q) → (∀ q ∈ c, CB d' z' q) → CB (d * d') (r.length * (z * z')) (dotQ r c)
  | [], _, _, _ => ⟨Nat.mul_ne_zero hd hd', 0, zero_same.symm, Nat.zero_le _⟩
  | _ :: _, [], _, _ => ⟨Nat.mul_ne_zero hd hd', 0, zero_same.symm, Nat.zero_le _⟩
  | a :: r, b :: c, h, k => by
    have := ((h a List.mem_cons_self).mul (k b List.mem_cons_self)).add (cb_dot hd hd' (fun q hq => h q (List.mem_cons_of_mem _ hq)) fun q hq => k q (List.mem_cons_of_mem _ hq))
    rw [List.length_cons, Nat.succ_mul, Nat.add_comm]
    exact this
theorem cbs_cols {n d z : Nat} {t : List (List Rat)} (ht : Sq n t) (hn : n ≠ 0) (h : CBs d z t) : CBs d z (colsQ t) := fun r hr q hq => by
  unfold colsQ at hr
  rw [ht.head hn] at hr
  obtain ⟨i, hi, rfl⟩ := List.mem_map.mp hr
  obtain ⟨x, hx, rfl⟩ := List.mem_map.mp hq
  rw [List.mem_range] at hi
  rw [getD_lt (by rw [ht.2 x hx]; exact hi)]
  exact h x hx _ (List.getElem_mem _)
theorem cbs_mul {n d d' z z' : Nat} {a b : List (List Rat)} (ha : Sq n a) (hb : Sq n b) (hn : n ≠ 0) (hd : d ≠ 0) (hd' : d' ≠ 0) (h : CBs d z a) (k : CBs d' z' b) : CBs (d * d') (n * (z * z')) (mulQ a b) := fun r hr q hq => by
  obtain ⟨x, hx, rfl⟩ := List.mem_map.mp hr
  obtain ⟨c, hc, rfl⟩ := List.mem_map.mp hq
  have := cb_dot hd hd' (h x hx) (cbs_cols hb hn k c hc)
  rw [ha.2 x hx] at this
  exact this
/-- there is one inverse only -/
theorem inv_uniq {n : Nat} {t x y : List (List Rat)} (ht : Sq n t) (hx : Sq n x) (hy : Sq n y) (hn : n ≠ 0) (h : mulQ t x = oneQ n) (k : mulQ y t = oneQ n) : x = y := by
  rw [← one_mul hx hn, ← k, mul_assocQ hy ht hx hn, h, mul_one hy hn]
theorem CBs.of_bits {t : List (List Rat)} {d z : Nat} (h : CBs d z t) {k : Nat} (hd : d < 2 ^ k) (hz : z < 2 ^ k) : Bits k t := h.bits hd hz
end DL
-- DTE
set_option maxRecDepth 100000
set_option maxHeartbeats 1000000
/-! loops over a list or a tuple, whichever it is; zip of two of them, each a list or a tuple -/
namespace ZN
open PySem PySem.Spec PyProof.Rows L2
theorem drawsB {prog : Program} {w : World} {A : Around} (b : Bool) (hh : A.handled = none) (it l : Addr) (hne : l ≠ it) (items : Array Value) :
    Draws prog w A it [it, l] items.size (fun i v => items[i]? = some v) (fun i h => SubIt b h it l i ∧ SubSeq b h l items) := by
  cases b with
  | true => exact Draws.tuple hh it l hne items
  | false => exact Draws.list hh it l hne items
theorem beginsB (b : Bool) (l : Addr) (items : Array Value) : ∃ o, Begins (.ref l) o (fun h => SubSeq b h l items) ∧ ∀ (h : Heap) (it : Addr), h.get? it = some o → SubIt b h it l 0 := by
  cases b with
  | true => exact ⟨_, begins_tuple l items, fun h it e => ⟨_, e, rfl, rfl⟩⟩
  | false => exact ⟨_, begins_list l items, fun h it e => ⟨_, e, rfl, rfl⟩⟩
theorem subIt_obj {b : Bool} {h : Heap} {i l : Addr} {k : Nat} (x : SubIt b h i l k) : ∃ o, h.get? i = some o ∧ ∀ v, o.data ≠ .cell v := by
  obtain ⟨o, vs, e, d⟩ := x.there
  exact ⟨o, e, fun v q => by rw [d] at q; cases q⟩
def ItzX (K : PySem.W.Frag) (b1 b2 : Bool) (a b : Addr) : It :=
  ⟨fun i H => ∃ (xs ys : List V) (x y : V), SqB b1 K H a xs ∧ SqB b2 K H b ys ∧ xs[i]? = some x ∧ ys[i]? = some y,
    fun i H v H' => ∃ T x y, v = .ref T ∧ H T = none ∧ H' = upd H T (.tup [x, y]) ∧ (∀ xs, SqB b1 K H a xs → xs[i]? = some x) ∧ ∀ ys, SqB b2 K H b ys → ys[i]? = some y,
    fun i H => ∃ xs ys : List V, SqB b1 K H a xs ∧ SqB b2 K H b ys ∧ ((i = xs.length ∧ i ≤ ys.length) ∨ (i = ys.length ∧ i ≤ xs.length))⟩
theorem sepX {z TI TO i1 i2 a b : Addr} (D : ZipApart z TI TO i1 i2 a b) : ZipSep2 z TI TO i1 i2 [i1, a] [i2, b] where
  TIz := D.TIz
  TOz := D.TOz
  TITO := D.TITO
  TIi1 := D.TIi1
  mem1 := by simp
  zf1 := by simp; exact ⟨Ne.symm D.i1z, Ne.symm D.l1z⟩
  Tf1 := by simp; exact ⟨D.TOi1, Ne.symm D.l1TO⟩
  TIi2 := D.TIi2
  mem2 := by simp
  zf2 := by simp; exact ⟨Ne.symm D.i2z, Ne.symm D.l2z⟩
  Tf2 := by simp; exact ⟨D.TOi2, Ne.symm D.l2TO⟩
  sep1_2 := by simp; exact ⟨D.i12, Ne.symm D.l2i1⟩
  sep2_1 := by simp; exact ⟨Ne.symm D.i12, Ne.symm D.l1i2⟩
theorem turn_zipX {P : Program} {w : World} {K : PySem.W.Frag} {b1 b2 : Bool} {elts : List Expr} {kk : Nat} {tpos : Pos} {a b z TI TO i1 i2 : Addr} (D : ZipApart z TI TO i1 i2 a b) :
    Turn P w K (.Tuple elts kk tpos) (ItzX K b1 b2 a b) [z, TI, TO, i1, i2] z (fun i h => IsZip h z TI TO .none ∧ IsPair h TI (.ref i1) (.ref i2) ∧ (∃ x y, IsPair h TO x y) ∧ SubIt b1 h i1 a i ∧ SubIt b2 h i2 b i) where
  mem := by simp
  obj := fun i h st c hc => by
    obtain ⟨hz, hTI, ⟨x, y, hTO⟩, h1, h2⟩ := st
    have e' : c = z ∨ c = TI ∨ c = TO ∨ c = i1 ∨ c = i2 := by simpa using hc
    rcases e' with q | q | q | q | q
    · rw [q]; exact ⟨_, hz, fun v q => nomatch q⟩
    · rw [q]; exact ⟨_, hTI, fun v q => nomatch q⟩
    · rw [q]; exact ⟨_, hTO, fun v q => nomatch q⟩
    · rw [q]; exact subIt_obj h1
    · rw [q]; exact subIt_obj h2
  keep := fun i h h' st k => by
    obtain ⟨hz, hTI, ⟨x, y, hTO⟩, h1, h2⟩ := st
    exact ⟨k z (by simp) _ hz, k TI (by simp) _ hTI, ⟨x, y, k TO (by simp) _ hTO⟩, h1.at fun o q => k i1 (by simp) o q, h2.at fun o q => k i2 (by simp) o q⟩
  item := by
    intro X hP hw hK hc i pins s σ H E I hf st hg
    subst hP hw hK
    obtain ⟨hz, hTI, ⟨x0, y0, hTO⟩, h1, h2⟩ := st
    obtain ⟨xs, ys, x, y, hqx, hqy, hx, hy⟩ := hg
    obtain ⟨its, rv, p⟩ := sqB_its I hqx
    obtain ⟨its2, rv2, p2⟩ := sqB_its I hqy
    obtain ⟨u, hu, ru⟩ := rv.get hx
    obtain ⟨u2, hu2, ru2⟩ := rv2.get hy
    have hzl : z < s.heap.objs.size := Heap.lt_size hz
    have hhd : X.A.in1.handled = none := I.ok.hd hc
    have L1 : i < its.toArray.size := by
      rcases Nat.lt_or_ge i its.toArray.size with q | q
      · exact q
      · have : its.length ≤ i := by simpa using q
        rw [List.getElem?_eq_none this] at hu
        cases hu
    have L2 : i < its2.toArray.size := by
      rcases Nat.lt_or_ge i its2.toArray.size with q | q
      · exact q
      · have : its2.length ≤ i := by simpa using q
        rw [List.getElem?_eq_none this] at hu2
        cases hu2
    refine wpAny_pyNext_zipD2_item (sepX D) (drawsB b1 hhd i1 a D.l1i1 its.toArray) (drawsB b2 hhd i2 b D.l2i2 its2.toArray) hz hTI hTO ⟨h1, p⟩ ⟨h2, p2⟩ L1 L2 fun y1 y2 h' tk e1 e2 z' TO' h1' h2' hT hsz hk => ?_
    have e1 : u = y1 := by
      have e1 : its.toArray[i]? = some y1 := e1
      have : its[i]? = some y1 := by simpa using e1
      rw [hu] at this
      exact Option.some.inj this
    have e2 : u2 = y2 := by
      have e2 : its2.toArray[i]? = some y2 := e2
      have : its2[i]? = some y2 := by simpa using e2
      rw [hu2] at this
      exact Option.some.inj this
    subst e1 e2
    refine ⟨_, rfl, wpAny_letOwnedTupleGo_zip (s := { s with heap := h', toks := tk }) z' fun h'' z'' sb => ?_⟩
    have hT2 : h''.get? s.heap.objs.size = some { cls := .type "tuple", data := .seq #[u, u2] } := (sb.2 _ (Nat.ne_of_gt hzl)).trans hT
    have new : ObjOk X.prog X.w (upd H s.heap.objs.size (.tup [x, y])) h'' s.heap.objs.size (.tup [x, y]) :=
      ⟨by show 2 ≤ sizeLine; decide, [u, u2], .cons ru (.cons ru2 .nil), ⟨_, hT2, rfl, _, rfl⟩⟩
    have I1 : Inv X pins σ (upd H s.heap.objs.size (.tup [x, y])) { s with heap := h'', toks := tk } :=
      I.turnedNew (t' := tk) (ch := [z, TI, TO, i1, i2]) (fun c o hb q => (sb.2 c (fun q' => hb (by simp [q']))).trans (hk c o (fun q' => hb (by simp [q'])) (fun q' => hb (by simp [q'])) (fun q' => hb (by simp [q'])) (fun q' => hb (by simp [q'])) q)) hf (Nat.le_refl _) new
    refine ⟨.ref s.heap.objs.size, _, I1, rfl, ⟨_, x, y, rfl, I.hok.fresh (Nat.le_refl _), rfl, fun l hl => by rw [sqB_inj I hl hqx]; exact hx, fun l hl => by rw [sqB_inj I hl hqy]; exact hy⟩, ⟨z'', ?_, ⟨u, u2, ?_⟩, ?_, ?_⟩, fun c hcm => ?_⟩
    · exact (sb.2 _ D.TIz).trans (hk _ _ D.TIz D.TITO D.TIi1 D.TIi2 hTI)
    · exact (sb.2 _ D.TOz).trans TO'
    · exact h1'.1.at fun o q => (sb.2 _ D.i1z).trans q
    · exact h2'.1.at fun o q => (sb.2 _ D.i2z).trans q
    · have hlt : c < s.heap.objs.size := by
        have e' : c = z ∨ c = TI ∨ c = TO ∨ c = i1 ∨ c = i2 := by simpa using hcm
        rcases e' with q | q | q | q | q
        · rw [q]; exact hzl
        · rw [q]; exact Heap.lt_size hTI
        · rw [q]; exact Heap.lt_size hTO
        · rw [q]; obtain ⟨_, e1, _⟩ := subIt_obj h1; exact Heap.lt_size e1
        · rw [q]; obtain ⟨_, e2, _⟩ := subIt_obj h2; exact Heap.lt_size e2
      rw [upd_ne (Nat.ne_of_lt hlt)]
      exact (hf c hcm).1
  done := by
    intro X hP hw hK hc i pins s σ H E I hf st hg
    subst hP hw hK
    obtain ⟨hz, hTI, ⟨x0, y0, hTO⟩, h1, h2⟩ := st
    obtain ⟨xs, ys, hqx, hqy, hend⟩ := hg
    obtain ⟨its, rv, p⟩ := sqB_its I hqx
    obtain ⟨its2, rv2, p2⟩ := sqB_its I hqy
    have l1 := rv.length
    have l2 := rv2.length
    have hhd : X.A.in1.handled = none := I.ok.hd hc
    have z1 : its.toArray.size = xs.length := by simp; omega
    have z2 : its2.toArray.size = ys.length := by simp; omega
    refine wpAny_pyNext_zipD2_end (sepX D) (drawsB b1 hhd i1 a D.l1i1 its.toArray) (drawsB b2 hhd i2 b D.l2i2 its2.toArray) hz hTI hTO ⟨h1, p⟩ ⟨h2, p2⟩ (by omega) (by omega) (by omega) fun h' tk hk => ⟨rfl, I.turnedL (t' := tk) (ch := [z, TI, TO, i1, i2]) (fun c o hb q =>
      hk c o (fun q' => hb (by simp [q'])) (fun q' => hb (by simp [q'])) (fun q' => hb (by simp [q'])) (fun q' => hb (by simp [q'])) q) hf⟩
  self := fun A i s Q E st h => wpAny_pyIter_zip st.1 h
def iZipB (K : PySem.W.Frag) (ta : TA) : TI := fun σ H R => ta σ H fun vs H1 => ∃ a b xs ys b1 b2, vs = [.ref a, .ref b] ∧ SqB b1 K H1 a xs ∧ SqB b2 K H1 b ys ∧ R (ItzX K b1 b2 a b) H1
theorem pi_zipX {X : Cx} {e e2 : Expr} {ta : TA} {p pos tpos : Pos} {elts : List Expr} {kk : Nat} (hg : Gl X "zip") (hm : X.mg "zip" = none) (ha : PA X [e, e2] ta)
    (hs : starEach [e, e2] X.env = (false, eval e X.env) :: starEach [e2] X.env := by rfl) (hpl : (backTo pos (starEach [e2] X.env)).any (·.1) = false := by rfl) :
    PI X (.Tuple elts kk tpos) (.Call (.Name "zip" p) [e, e2] [] pos) (iZipB X.K ta) := by
  refine ⟨fun pins s σ H R I h => ?_⟩
  refine Call_ (ld_blt I hg hm PyProof.Rows.boot_zip (PyProof.Rows.callWith_type1 (thn (ha.run pos pins s σ H _ I h) fun us s1 ⟨vs, H1, I1, r1, q1⟩ => ?_) hs hpl))
  obtain ⟨a, b, xs, ys, b1, b2, ex, hqx, hqy, q⟩ := q1
  subst ex
  cases r1 with
  | cons r rr =>
    cases rr with
    | cons r' rr =>
      cases rr
      cases r
      cases r'
      have fresh5 : ∀ c, c ∈ [s1.heap.objs.size + 4, s1.heap.objs.size + 2, s1.heap.objs.size + 3, s1.heap.objs.size, s1.heap.objs.size + 1] → FpOk X pins H1 c := fun c hcm => by
        have e' : c = s1.heap.objs.size + 4 ∨ c = s1.heap.objs.size + 2 ∨ c = s1.heap.objs.size + 3 ∨ c = s1.heap.objs.size ∨ c = s1.heap.objs.size + 1 := by simpa using hcm
        have hle : s1.heap.objs.size ≤ c := by
          rcases e' with z | z | z | z | z
          · rw [z]; exact Nat.le_add_right _ _
          · rw [z]; exact Nat.le_add_right _ _
          · rw [z]; exact Nat.le_add_right _ _
          · rw [z]; exact Nat.le_refl _
          · rw [z]; exact Nat.le_add_right _ _
        exact I1.fpOk hle (I1.hok.fresh hle)
      obtain ⟨its, rv, p1⟩ := sqB_its I1 hqx
      obtain ⟨its2, rv2, p2⟩ := sqB_its I1 hqy
      obtain ⟨o1, B1, f1⟩ := beginsB b1 a its.toArray
      obtain ⟨o2, B2, f2⟩ := beginsB b2 b its2.toArray
      refine zip_begins2 B1 B2 p1 p2 fun h' hz hTI hTO g1 g2 hsz hk => wpAny_pyIter_zip hz ?_
      have I2 : Inv X pins σ H1 { s1 with heap := h' } := I1.kept (t' := s1.toks) hk
      have la : a < s1.heap.objs.size := by
        cases b1 with
        | true => obtain ⟨o, e, _⟩ := id (show s1.heap.IsTuple a its.toArray from p1); exact Heap.lt_size e
        | false => obtain ⟨o, e, _⟩ := id (show s1.heap.IsList a its.toArray from p1); exact Heap.lt_size e
      have lb : b < s1.heap.objs.size := by
        cases b2 with
        | true => obtain ⟨o, e, _⟩ := id (show s1.heap.IsTuple b its2.toArray from p2); exact Heap.lt_size e
        | false => obtain ⟨o, e, _⟩ := id (show s1.heap.IsList b its2.toArray from p2); exact Heap.lt_size e
      exact ⟨s1.heap.objs.size + 4, [s1.heap.objs.size + 4, s1.heap.objs.size + 2, s1.heap.objs.size + 3, s1.heap.objs.size, s1.heap.objs.size + 1], _, _, H1, rfl, I2, turn_zipX (PySem.W.ktu_apart s1.heap.objs.size a b la lb), ⟨hz, hTI, ⟨_, _, hTO⟩, f1 _ _ g1, f2 _ _ g2⟩, fresh5, q⟩
section
variable {X : Cx} {tg : Expr}
def iSeq (K : PySem.W.Frag) (tl : TE) : TI := fun σ H R => tl σ H fun x H1 => ∃ a b, x = .ref a ∧ (∃ xs, SqB b K H1 a xs) ∧ R (if b = true then Itt K a else Itl K a) H1
theorem pi_seq {l : Expr} {tl : TE} (hl : PE X l tl) : PI X tg l (iSeq X.K tl) := by
  refine ⟨fun pins s σ H R I h => ?_⟩
  refine thn (hl.run pins s σ H _ I h) fun v s1 ⟨x, H1, I1, r1, q1⟩ => ?_
  obtain ⟨a, b, e, ⟨xs, hq⟩, q⟩ := q1
  subst e
  cases r1
  cases b with
  | false =>
    obtain ⟨its, rv, p, hz⟩ := I1.list (show SqL X.K H1 a xs from hq)
    refine wpAny_pyIter_list p.isList ?_
    refine ⟨s1.heap.objs.size, [s1.heap.objs.size], _, _, H1, rfl, I1.kept (t' := s1.toks) fun b o e => Heap.get?_push_of_some _ e, turn_list a _, ⟨_, Heap.get?_push_size _ rfl, rfl, rfl⟩, fun b hb => ?_, q⟩
    have e : b = s1.heap.objs.size := by simpa using hb
    subst e
    exact I1.fpOk (Nat.le_refl _) (I1.hok.fresh (Nat.le_refl _))
  | true =>
    obtain ⟨its, rv, p, hz⟩ := I1.tuple (show SqT X.K H1 a xs from hq)
    refine wpAny_pyIter_tuple (show s1.heap.IsTuple a its.toArray from p) ?_
    refine ⟨s1.heap.objs.size, [s1.heap.objs.size], _, _, H1, rfl, I1.kept (t' := s1.toks) fun b o e => Heap.get?_push_of_some _ e, turn_tuple a _, ⟨_, Heap.get?_push_size _ rfl, rfl, rfl⟩, fun b hb => ?_, q⟩
    have e : b = s1.heap.objs.size := by simpa using hb
    subst e
    exact I1.fpOk (Nat.le_refl _) (I1.hok.fresh (Nat.le_refl _))
end
end ZN
namespace DL
open PySem PySem.Spec PyProof.Rows L2 ZN
section
variable {X : Cx} {tg e e2 : Expr} {te : TD} {ta : TDA} {p pos tpos : Pos}
theorem seq_rep {K : PySem.W.Frag} {F : Hp} {μ : Mem} {H : Hp} (l : Lay K F μ H) {v : V} {b : Bool} {xs : List D} (r : Rep K F v (seqD b xs)) : ∃ a vs, v = .ref a ∧ SqF b K F a vs ∧ Reps K F vs xs := by
  cases b with
  | true =>
    obtain ⟨a, vs, rfl, h1, h2, rr⟩ := tup_rep l (show Rep K F v (.tup xs) from r)
    exact ⟨a, vs, rfl, h2, rr⟩
  | false =>
    have r : Rep K F v (.lst xs) := r
    cases r with
    | @lst a vs _ hF rr => exact ⟨a, vs, rfl, hF, rr⟩
def iAnyD (te : TD) : TDI := fun δ μ Q => te δ μ fun d μ1 => ∃ b xs, d = seqD b xs ∧ Q xs μ1
theorem di_any (h : DE X e te) : DI X tg e (iAnyD te) := by
  refine PI.weak (pi_seq h) fun σ H R ⟨δ, F, μ, QD, l, rs, q, k⟩ => ⟨δ, F, μ, _, l, rs, q, fun v d F1 μ1 H1 e1 l1 r1 ⟨b, xs, ed, q1⟩ => ?_⟩
  subst ed
  obtain ⟨a, vs, rfl, hF, rr⟩ := seq_rep l1 r1
  refine ⟨a, b, rfl, ⟨vs, sqF_B l1.fz hF⟩, k _ _ F1 μ1 H1 e1 l1 (fun i F2 μ2 H2 e2 l2 hi => ?_) q1⟩
  cases b with
  | true =>
    have hs : SqT X.K H2 a vs := sqF_B (b := true) (e2.trans l2.fz) hF
    refine ⟨fun d hd => ?_, fun hl => ⟨vs, hs, by rw [rr.length]; omega⟩⟩
    obtain ⟨x, hx, rx⟩ := rr.get hd
    refine ⟨⟨vs, x, hs, hx⟩, fun y H3 ⟨eh, hy⟩ => ⟨F2, Ex.refl F2, ?_, ?_⟩⟩
    · rw [eh]; exact l2
    · have := (hy vs hs).symm.trans hx
      cases this
      exact rx.mono e2
  | false =>
    have hs : SqL X.K H2 a vs := sqF_B (b := false) (e2.trans l2.fz) hF
    refine ⟨fun d hd => ?_, fun hl => ⟨vs, hs, by rw [rr.length]; omega⟩⟩
    obtain ⟨x, hx, rx⟩ := rr.get hd
    refine ⟨⟨vs, x, hs, hx⟩, fun y H3 ⟨eh, hy⟩ => ⟨F2, Ex.refl F2, ?_, ?_⟩⟩
    · rw [eh]; exact l2
    · have := (hy vs hs).symm.trans hx
      cases this
      exact rx.mono e2
def iZipXD (ta : TDA) : TDI := fun δ μ Q => ta δ μ fun ds μ1 => ∃ b1 b2 xs ys, ds = [seqD b1 xs, seqD b2 ys] ∧ Q (zipD xs ys) μ1
theorem di_zipX {elts : List Expr} {kk : Nat} (hm : X.mg "zip" = none) (ha : DA X [e, e2] ta) (hg : Gl X "zip" := by rfl) (hs : starEach [e, e2] X.env = (false, eval e X.env) :: starEach [e2] X.env := by rfl) (hpl : (backTo pos (starEach [e2] X.env)).any (·.1) = false := by rfl) :
    DI X (.Tuple elts kk tpos) (.Call (.Name "zip" p) [e, e2] [] pos) (iZipXD ta) := by
  refine PI.weak (pi_zipX hg hm ha hs hpl) fun σ H R ⟨δ, F, μ, QD, l, rs, q, k⟩ => ⟨δ, F, μ, _, l, rs, q, fun vs ds F1 μ1 H1 e1 l1 r1 ⟨b1, b2, xs, ys, ed, q1⟩ => ?_⟩
  subst ed
  obtain ⟨v, u, rfl, rv, ru⟩ := reps2 r1
  obtain ⟨a, ws, rfl, hF, rr⟩ := seq_rep l1 rv
  obtain ⟨b, zs, rfl, hG, tt⟩ := seq_rep l1 ru
  refine ⟨a, b, ws, zs, b1, b2, rfl, sqF_B l1.fz hF, sqF_B l1.fz hG, k _ _ F1 μ1 H1 e1 l1 (fun i F2 μ2 H2 e2 l2 hi => ⟨fun d hd => ?_, fun hl => ?_⟩) q1⟩
  · obtain ⟨x, y, h1, h2, rfl⟩ := zipD_get _ _ _ _ hd
    obtain ⟨vx, hx, rx⟩ := rr.get h1
    obtain ⟨vy, hy, ry⟩ := tt.get h2
    have sa : SqB b1 X.K H2 a ws := sqF_B (e2.trans l2.fz) hF
    have sb : SqB b2 X.K H2 b zs := sqF_B (e2.trans l2.fz) hG
    refine ⟨⟨ws, zs, vx, vy, sa, sb, hx, hy⟩, fun z H3 ⟨T, x', y', ez, hT, eH, f1, f2⟩ => ?_⟩
    subst ez eH
    have e3 := (f1 _ sa).symm.trans hx
    have e4 := (f2 _ sb).symm.trans hy
    cases e3
    cases e4
    exact new_pair l2 hT (rx.mono e2) (ry.mono e2)
  · rw [zipD_len] at hl
    refine ⟨ws, zs, sqF_B (e2.trans l2.fz) hF, sqF_B (e2.trans l2.fz) hG, ?_⟩
    rw [rr.length, tt.length]
    omega
end
theorem x_iAny {te : TD} {δ : DSt} {μ : Mem} {Q : List D → Mem → Prop} (k : te δ μ fun d μ1 => ∃ b xs, d = seqD b xs ∧ Q xs μ1) : iAnyD te δ μ Q := k
theorem x_iAnyT {xs : List D} {R : List D → Prop} (k : R xs) : ∃ b ys, D.tup xs = seqD b ys ∧ R ys := ⟨true, xs, rfl, k⟩
theorem x_iAnyL {xs : List D} {R : List D → Prop} (k : R xs) : ∃ b ys, D.lst xs = seqD b ys ∧ R ys := ⟨false, xs, rfl, k⟩
theorem x_iAnyS {b : Bool} {xs : List D} {R : List D → Prop} (k : R xs) : ∃ b' ys, seqD b xs = seqD b' ys ∧ R ys := ⟨b, xs, rfl, k⟩
theorem x_iZipX {ta : TDA} {δ : DSt} {μ : Mem} {Q : List D → Mem → Prop} (k : ta δ μ fun ds μ1 => ∃ b1 b2 xs ys, ds = [seqD b1 xs, seqD b2 ys] ∧ Q (zipD xs ys) μ1) : iZipXD ta δ μ Q := k
theorem x_iZipXS {b1 b2 : Bool} {xs ys : List D} {R : List D → Prop} (k : R (zipD xs ys)) : ∃ c1 c2 xs' ys', [seqD b1 xs, seqD b2 ys] = [seqD c1 xs', seqD c2 ys'] ∧ R (zipD xs' ys') := ⟨b1, b2, xs, ys, rfl, k⟩
theorem asS_seq {μ : Mem} {b : Bool} {xs : List D} : asS μ (seqD b xs) = some xs := by cases b <;> rfl
/-! a list of lists that may change, frozen -/
/-- ps hold xss in μ', all else is as in μ -/
structure Has (μ μ' : Mem) (ps : List Addr) (xss : List (List D)) : Prop where
  len : ps.length = xss.length
  nd : ps.Nodup
  no : ∀ p ∈ ps, μ p = none
  is : ∀ (k : Nat) (p : Addr) (xs : List D), ps[k]? = some p → xss[k]? = some xs → μ' p = some xs
  oth : ∀ b, b ∉ ps → μ' b = μ b
def mdels (μ : Mem) (ps : List Addr) : Mem := fun b => if b ∈ ps then none else μ b
theorem Has.del {μ μ' : Mem} {ps : List Addr} {xss : List (List D)} (h : Has μ μ' ps xss) : mdels μ' ps = μ := by
  funext b
  unfold mdels
  by_cases hb : b ∈ ps
  · rw [if_pos hb, h.no b hb]
  · rw [if_neg hb, h.oth b hb]
theorem Has.nil {μ : Mem} : Has μ μ [] [] := ⟨rfl, List.nodup_nil, fun p hp => absurd hp List.not_mem_nil, fun k p xs h => by simp at h, fun b _ => rfl⟩
theorem get_mem {α : Type} {xs : List α} {k : Nat} {x : α} (h : xs[k]? = some x) : x ∈ xs := List.mem_of_getElem? h
/-- one more -/
theorem Has.snoc {μ μ' : Mem} {ps : List Addr} {xss : List (List D)} (h : Has μ μ' ps xss) {p : Addr} {xs : List D} (hp : μ' p = none) : Has μ (mset μ' p xs) (ps ++ [p]) (xss ++ [xs]) := by
  have np : p ∉ ps := fun m => by
    obtain ⟨k, hk, e⟩ := List.mem_iff_getElem.mp m
    have e1 : ps[k]? = some p := by rw [List.getElem?_eq_getElem hk, e]
    have e2 : xss[k]? = some (xss[k]'(by rw [← h.len]; exact hk)) := List.getElem?_eq_getElem _
    rw [h.is k p _ e1 e2] at hp
    cases hp
  refine ⟨by simp [h.len], ?_, fun q hq => ?_, fun k q ys h1 h2 => ?_, fun b hb => ?_⟩
  · rw [List.nodup_append]
    exact ⟨h.nd, by simp, fun a ha b hb => by
      have : b = p := by simpa using hb
      rw [this]
      exact fun e => np (e ▸ ha)⟩
  · rcases List.mem_append.mp hq with m | m
    · exact h.no q m
    · have : q = p := by simpa using m
      rw [this, ← h.oth p np]
      exact hp
  · rcases Nat.lt_or_ge k ps.length with hk | hk
    · rw [List.getElem?_append_left hk] at h1
      rw [List.getElem?_append_left (by rw [← h.len]; exact hk)] at h2
      rw [mset_ne (show q ≠ p from fun e => np (by rw [← e]; exact get_mem h1))]
      exact h.is k q ys h1 h2
    · rw [List.getElem?_append_right hk] at h1
      rw [List.getElem?_append_right (by rw [← h.len]; exact hk)] at h2
      rw [← h.len] at h2
      cases hj : k - ps.length with
      | zero =>
        rw [hj] at h1 h2
        have e1 : p = q := by simpa using h1
        have e2 : xs = ys := by simpa using h2
        rw [← e1, ← e2]
        exact mset_same
      | succ j => rw [hj] at h1; simp at h1
  · have h1 : b ∉ ps := fun m => hb (List.mem_append_left _ m)
    have h2 : b ≠ p := fun m => hb (List.mem_append_right _ (by simp [m]))
    rw [mset_ne h2]
    exact h.oth b h1
/-- one of them changed -/
theorem Has.set {μ μ' : Mem} {ps : List Addr} {xss : List (List D)} (h : Has μ μ' ps xss) {k : Nat} {p : Addr} {ys : List D} (hp : ps[k]? = some p) : Has μ (mset μ' p ys) ps (xss.set k ys) := by
  refine ⟨by rw [List.length_set, h.len], h.nd, h.no, fun j q zs h1 h2 => ?_, fun b hb => ?_⟩
  · by_cases e : j = k
    · subst e
      have e1 : p = q := Option.some.inj (hp.symm.trans h1)
      have hk : j < xss.length := by
        rw [← h.len]
        exact (List.getElem?_eq_some_iff.mp hp).1
      rw [List.getElem?_set_self hk] at h2
      have e2 : ys = zs := Option.some.inj h2
      rw [← e1, ← e2]
      exact mset_same
    · rw [List.getElem?_set_ne (Ne.symm e)] at h2
      have ne : q ≠ p := fun x => by
        subst x
        have hj := (List.getElem?_eq_some_iff.mp h1)
        have hk := (List.getElem?_eq_some_iff.mp hp)
        obtain ⟨j1, j2⟩ := hj
        obtain ⟨k1, k2⟩ := hk
        exact e ((List.getElem_inj h.nd).mp (j2.trans k2.symm))
      rw [mset_ne ne]
      exact h.is j q zs h1 h2
  · rw [mset_ne (show b ≠ p from fun e => hb (by rw [e]; exact get_mem hp))]
    exact h.oth b hb
/-- under another change -/
theorem Has.under {μ μ' μ2 : Mem} {ps qs : List Addr} {xss yss : List (List D)} (h : Has μ μ' ps xss) (g : Has μ' μ2 qs yss) : Has μ (mdels μ2 ps) qs yss ∧ Has (mdels μ2 ps) μ2 ps xss := by
  have apart : ∀ p ∈ ps, p ∉ qs := fun p hp hq => by
    obtain ⟨k, hk, e⟩ := List.mem_iff_getElem.mp hp
    have e1 : ps[k]? = some p := by rw [List.getElem?_eq_getElem hk, e]
    have e2 : xss[k]? = some (xss[k]'(by rw [← h.len]; exact hk)) := List.getElem?_eq_getElem _
    have := g.no p hq
    rw [h.is k p _ e1 e2] at this
    cases this
  refine ⟨⟨g.len, g.nd, fun q hq => ?_, fun k q ys h1 h2 => ?_, fun b hb => ?_⟩, ⟨h.len, h.nd, fun p hp => ?_, fun k p xs h1 h2 => ?_, fun b hb => ?_⟩⟩
  · rw [← h.oth q fun hp => apart q hp hq]
    exact g.no q hq
  · unfold mdels
    rw [if_neg fun hp => apart q hp (get_mem h1)]
    exact g.is k q ys h1 h2
  · unfold mdels
    by_cases hp : b ∈ ps
    · rw [if_pos hp, h.no b hp]
    · rw [if_neg hp, g.oth b hb, h.oth b hp]
  · unfold mdels
    rw [if_pos hp]
  · rw [g.oth p (apart p (get_mem h1))]
    exact h.is k p xs h1 h2
  · unfold mdels
    rw [if_neg hb]
theorem mdels_cons {μ : Mem} {p : Addr} {ps : List Addr} : mdels (mdel μ p) ps = mdels μ (p :: ps) := by
  funext b
  unfold mdels mdel
  by_cases h1 : b ∈ ps
  · rw [if_pos h1, if_pos (List.mem_cons_of_mem _ h1)]
  · rw [if_neg h1]
    by_cases h2 : b = p
    · rw [if_pos h2, if_pos (by rw [h2]; exact List.mem_cons_self)]
    · have h3 : b ∉ p :: ps := fun m => by
        rcases List.mem_cons.mp m with e | e
        · exact h2 e
        · exact h1 e
      rw [if_neg h2, if_neg h3]
theorem freezes {K : PySem.W.Frag} {H : Hp} : ∀ {ps : List Addr} {xss : List (List D)} {F : Hp} {μ : Mem}, Lay K F μ H → ps.length = xss.length → ps.Nodup → (∀ (k : Nat) (p : Addr) (xs : List D), ps[k]? = some p → xss[k]? = some xs → μ p = some xs) →
    ∃ F', Ex F F' ∧ Lay K F' (mdels μ ps) H ∧ Reps K F' (ps.map V.ref) (xss.map D.lst)
  | [], [], F, μ, l, _, _, _ => ⟨F, Ex.refl F, by
      have : mdels μ [] = μ := by funext b; rfl
      rw [this]; exact l, .nil⟩
  | p :: ps, xs :: xss, F, μ, l, hl, nd, h => by
    obtain ⟨vs, hH, hF, l2, r2⟩ := l.freeze (h 0 p xs rfl rfl)
    have hl : ps.length = xss.length := by simpa using hl
    have nd2 := List.nodup_cons.mp nd
    obtain ⟨F', e, l3, r3⟩ := freezes (ps := ps) (xss := xss) l2 hl nd2.2 fun k q ys h1 h2 => by
      unfold mdel
      rw [if_neg (show ¬ q = p from fun e => nd2.1 (by rw [← e]; exact get_mem h1))]
      exact h (k + 1) q ys h1 h2
    refine ⟨F', (Ex.new hF).trans e, ?_, .cons (r2.mono e) r3⟩
    rw [← mdels_cons]
    exact l3
def dVarFF (i : Nat) : TD := fun δ μ Q => ∃ ps xss μ0, δ[i]? = some (some (.lst (ps.map D.ref))) ∧ Has μ0 μ ps xss ∧ Q (.lst (xss.map D.lst)) μ0
theorem reps_refs {K : PySem.W.Frag} {F : Hp} : ∀ {ps : List Addr} {vs : List V}, Reps K F vs (ps.map D.ref) → vs = ps.map V.ref
  | [], _, .nil => rfl
  | p :: ps, _, .cons r rr => by
    rw [rep_ref r, reps_refs rr]
    rfl
theorem de_varFF {X : Cx} (i : Nat) {x : Str} {pos : Pos} (h : PE X (.Name x pos) (tVar i)) : DE X (.Name x pos) (dVarFF i) := by
  refine PE.weak h fun σ H Q ⟨δ, F, μ, QD, l, rs, ⟨ps, xss, μ0, e, hh, q⟩, k⟩ => ?_
  obtain ⟨v, hv, rv⟩ := rs.get e
  have rv : Rep X.K F v (.lst (ps.map D.ref)) := rv
  cases rv with
  | @lst a vs _ hF rr =>
    have ev := reps_refs rr
    subst ev
    obtain ⟨F', e1, l1, r1⟩ := freezes l hh.len hh.nd hh.is
    rw [hh.del] at l1
    exact ⟨.ref a, hv, k _ _ F' μ0 H e1 l1 (.lst (e1 _ _ hF) r1) q⟩
theorem x_varFF {i : Nat} {δ : DSt} {μ μ0 : Mem} {ps : List Addr} {xss : List (List D)} {Q : DK} (h : δ[i]? = some (some (.lst (ps.map D.ref)))) (hh : Has μ0 μ ps xss) (q : Q (.lst (xss.map D.lst)) μ0) : dVarFF i δ μ Q := ⟨ps, xss, μ0, h, hh, q⟩
/-- [list(line) for line in rows] -/
theorem lcD_lists {α : Type} {g : Tg} {tt : TDT} {te : TD} {δ : DSt} {Q : DK} {μ : Mem} {Dn : Addr} (u : α → D) (v : α → List D) (hn : μ Dn = none) : ∀ (xs : List α) (ps : List Addr) (xss : List (List D)) (μ' : Mem), Has (mset μ Dn []) μ' ps xss → ps.length + xs.length ≤ 1000000 →
    (∀ x ∈ xs, ∀ μ1 k, (∀ p, μ1 p = none → k (some (.ref p)) (mset μ1 p (v x))) → lcStep g tt te δ (u x) μ1 k) →
    (∀ ps' μ2, Has μ μ2 ps' (xss ++ xs.map v) → Q (.lst (ps'.map D.ref)) μ2) → lcD g tt te δ Dn (xs.map u) (mset μ' Dn (ps.map D.ref)) Q
  | [], ps, xss, μ', hh, _, _, q => by
    refine ⟨_, mset_same, q ps _ ?_⟩
    rw [List.map_nil, List.append_nil]
    have nD : Dn ∉ ps := fun m => by
      have := hh.no Dn m
      rw [mset_same] at this
      cases this
    refine ⟨hh.len, hh.nd, fun p hp => ?_, fun k p xs h1 h2 => ?_, fun b hb => ?_⟩
    · have := hh.no p hp
      rw [mset_ne (show p ≠ Dn from fun e => nD (by rw [← e]; exact hp))] at this
      exact this
    · have ne : p ≠ Dn := fun e => nD (by rw [← e]; exact get_mem h1)
      show (if p = Dn then none else _) = _
      rw [if_neg ne, mset_ne ne]
      exact hh.is k p xs h1 h2
    · show (if b = Dn then none else _) = _
      by_cases e : b = Dn
      · rw [if_pos e, e, hn]
      · rw [if_neg e, mset_ne e, hh.oth b hb, mset_ne e]
  | x :: xs, ps, xss, μ', hh, hz, st, q => by
    refine st x List.mem_cons_self _ _ fun p hp => ?_
    have nD : p ≠ Dn := fun e => by rw [e, mset_same] at hp; cases hp
    rw [mset_ne nD] at hp
    refine ⟨ps.map D.ref, by rw [mset_ne (Ne.symm nD)]; exact mset_same, by rw [List.length_map]; simp at hz; omega, ?_⟩
    show lcD g tt te δ Dn (xs.map u) _ Q
    have e : mset (mset (mset μ' Dn (ps.map D.ref)) p (v x)) Dn (ps.map D.ref ++ [D.ref p]) = mset (mset μ' p (v x)) Dn ((ps ++ [p]).map D.ref) := by
      funext b
      unfold mset
      by_cases h1 : b = Dn
      · rw [if_pos h1, if_pos h1, List.map_append]
        rfl
      · rw [if_neg h1, if_neg h1, if_neg h1]
    rw [e]
    refine lcD_lists u v hn xs (ps ++ [p]) (xss ++ [v x]) _ (hh.snoc hp) (by simp at hz ⊢; omega) (fun y hy => st y (List.mem_cons_of_mem _ hy)) fun ps' μ2 h2 => q ps' μ2 ?_
    rw [List.append_assoc] at h2
    exact h2
theorem lc_lists {α : Type} {g : Tg} {tt : TDT} {te : TD} {δ : DSt} {Q : DK} {μ : Mem} (xs : List α) (u : α → D) (v : α → List D) (hz : xs.length ≤ 1000000)
    (st : ∀ x ∈ xs, ∀ μ1 k, (∀ p, μ1 p = none → k (some (.ref p)) (mset μ1 p (v x))) → lcStep g tt te δ (u x) μ1 k) (q : ∀ ps μ2, Has μ μ2 ps (xs.map v) → Q (.lst (ps.map D.ref)) μ2) : ∀ Dn, μ Dn = none → lcD g tt te δ Dn (xs.map u) (mset μ Dn []) Q := fun Dn hn => by
  have := lcD_lists (Q := Q) u v hn xs [] [] (mset μ Dn []) Has.nil (by simpa using hz) st (fun ps μ2 h => q ps μ2 h)
  rw [show mset (mset μ Dn []) Dn ((([] : List Addr).map D.ref)) = mset μ Dn [] from mset_mset] at this
  exact this
end DL
-- DTF
set_option maxRecDepth 100000
namespace DL
open PySem PySem.Spec PyProof.Rows L2
/-! ones along it and x in one place beside -/
def elemQ (n i j : Nat) (x : Rat) : List (List Rat) := (oneQ n).set i (((oneQ n).getD i []).set j x)
theorem elem_sq {n i j : Nat} {x : Rat} : Sq n (elemQ n i j x) := ⟨by unfold elemQ; rw [List.length_set, (one_sq n).1], fun r hr => by
  rcases List.mem_or_eq_of_mem_set hr with h | h
  · exact (one_sq n).2 r h
  · subst h
    rw [List.length_set]
    by_cases hi : i < n
    · exact (one_sq n).row hi
    · exfalso
      have : (oneQ n).set i (((oneQ n).getD i []).set j x) = oneQ n := List.set_eq_of_length_le (by rw [(one_sq n).1]; omega)
      unfold elemQ at hr
      rw [this] at hr
      have h2 := (one_sq n).2 _ hr
      rw [List.length_set, List.getD_eq_getElem?_getD, List.getElem?_eq_none (by rw [(one_sq n).1]; omega)] at h2
      have : n = 0 := by
        have h2 : (0 : Nat) = n := h2
        omega
      subst this
      exact absurd hr (by show ¬ _ ∈ []; exact List.not_mem_nil)⟩
theorem getD_set {α : Type} {xs : List α} {i r : Nat} {x d : α} (hr : r < xs.length) : (xs.set i x).getD r d = if r = i then x else xs.getD r d := by
  rw [List.getD_eq_getElem?_getD, List.getD_eq_getElem?_getD]
  by_cases h : r = i
  · subst h
    rw [if_pos rfl, List.getElem?_set_self hr]
    rfl
  · rw [if_neg h, List.getElem?_set_ne (Ne.symm h)]
theorem ent_elem {n i j r c : Nat} {x : Rat} (hij : i ≠ j) (hr : r < n) (hc : c < n) : ent (elemQ n i j x) r c = (if c = r then 1 else 0) + if r = i ∧ c = j then x else 0 := by
  unfold elemQ ent
  rw [getD_set (by rw [(one_sq n).1]; exact hr)]
  by_cases h : r = i
  · subst h
    rw [if_pos rfl, getD_set (by rw [(one_sq n).row hr]; exact hc)]
    by_cases h2 : c = j
    · subst h2
      simp [show ¬ c = r from Ne.symm hij, Rat.zero_add]
    · have e := ent_one hr hc
      unfold ent at e
      rw [e]
      simp [h2, Rat.add_zero]
  · have e := ent_one hr hc
    unfold ent at e
    rw [if_neg h, e]
    simp [h, Rat.add_zero]
theorem elem_left {n i j r c : Nat} {x : Rat} {A : List (List Rat)} (hA : Sq n A) (hn : n ≠ 0) (hij : i ≠ j) (hj : j < n) (hr : r < n) (hc : c < n) : ent (mulQ (elemQ n i j x) A) r c = ent A r c + if r = i then x * ent A j c else 0 := by
  rw [ent_mul elem_sq hA hn hr hc]
  have e : sumN n (fun k => ent (elemQ n i j x) r k * ent A k c) = sumN n (fun k => if k = r then ent A k c else 0) + sumN n (fun k => if k = j then (if r = i then x * ent A k c else 0) else 0) := by
    rw [← sumN_add]
    refine sumN_congr fun k hk => ?_
    rw [ent_elem hij hr hk]
    by_cases h1 : k = r <;> by_cases h2 : k = j <;> by_cases h3 : r = i <;> simp [h1, h2, h3] <;> grind
  rw [e, sumN_one _ hr, sumN_one _ hj]
theorem elem_both {n i j : Nat} {x : Rat} (hn : n ≠ 0) (hij : i ≠ j) (hi : i < n) (hj : j < n) : mulQ (elemQ n i j x) (elemQ n i j (-x)) = oneQ n := by
  refine sq_ext (elem_sq.mul elem_sq hn) (one_sq n) fun r c hr hc => ?_
  rw [elem_left elem_sq hn hij hj hr hc, ent_elem hij hr hc, ent_elem hij hj hc, ent_one hr hc]
  by_cases h1 : c = r <;> by_cases h2 : c = j <;> by_cases h3 : r = i <;> simp [h1, h2, h3] <;> grind
theorem det_addOne {n i j : Nat} (A : Mx) (x : Rat) (hi : i < n) (hj : j < n) (h : i ≠ j) : det n (setR A i (fun k => A i k + x * A j k)) = det n A := by
  rw [det_add A (A i) (fun k => x * A j k) hi, det_smul A x (A j) hi, setR_self, det_eqRows (A := setR A i (A j)) hi hj h fun k => by rw [setR_same, setR_ne (Ne.symm h)]]
  grind
theorem elem_det {n i j : Nat} {x : Rat} {A : List (List Rat)} (hA : Sq n A) (hn : n ≠ 0) (hij : i ≠ j) (hi : i < n) (hj : j < n) : det n (ent (mulQ (elemQ n i j x) A)) = det n (ent A) := by
  rw [← det_addOne (ent A) x hi hj hij]
  refine det_congr fun r c hr hc => ?_
  rw [elem_left hA hn hij hj hr hc]
  unfold setR
  by_cases h : r = i
  · rw [if_pos h, if_pos h, h]
  · rw [if_neg h, if_neg h, Rat.add_zero]
theorem one_cb1 (n : Nat) : CBs 1 1 (oneQ n) := fun r hr q hq => by
  obtain ⟨j, _, rfl⟩ := List.mem_map.mp hr
  obtain ⟨k, _, rfl⟩ := List.mem_map.mp hq
  split
  · exact ⟨by decide, 1, by decide +kernel, by decide⟩
  · exact ⟨by decide, 0, by decide +kernel, by decide⟩
theorem elem_cb {n i j : Nat} {x : Rat} (h : CB 1 2 x) : CBs 1 2 (elemQ n i j x) := fun r hr q hq => by
  have one : ∀ r ∈ oneQ n, ∀ q ∈ r, CB 1 2 q := fun r hr q hq => (one_cb1 n r hr q hq).mono (by decide)
  rcases List.mem_or_eq_of_mem_set hr with g | g
  · exact one r g q hq
  · subst g
    rcases List.mem_or_eq_of_mem_set hq with g | g
    · rw [List.getD_eq_getElem?_getD] at g
      cases e : (oneQ n)[i]? with
      | none => rw [e] at g; exact absurd g (by show ¬ _ ∈ []; exact List.not_mem_nil)
      | some y =>
        rw [e] at g
        exact one y (List.mem_of_getElem? e) q g
    · rw [g]; exact h
/-- a table, its inverse, the determinant 1 -/
structure Mixed (n z : Nat) (A B : List (List Rat)) : Prop where
  sA : Sq n A
  sB : Sq n B
  cA : CBs 1 z A
  cB : CBs 1 z B
  ab : mulQ A B = oneQ n
  ba : mulQ B A = oneQ n
  d : det n (ent A) = 1
theorem Mixed.start (n : Nat) (hn : n ≠ 0) : Mixed n 1 (oneQ n) (oneQ n) := ⟨one_sq n, one_sq n, one_cb1 n, one_cb1 n, mul_one (one_sq n) hn, mul_one (one_sq n) hn, det_one n⟩
theorem Mixed.step {n z i j : Nat} {x : Rat} {A B : List (List Rat)} (h : Mixed n z A B) (hn : n ≠ 0) (h5 : n ≤ 5) (hij : i ≠ j) (hi : i < n) (hj : j < n) (hx : CB 1 2 x) (hy : CB 1 2 (-x)) : Mixed n (10 * z) (mulQ (elemQ n i j x) A) (mulQ B (elemQ n i j (-x))) where
  sA := elem_sq.mul h.sA hn
  sB := h.sB.mul elem_sq hn
  cA := fun r hr q hq => by
    have := cbs_mul elem_sq h.sA hn (by decide) (by decide) (elem_cb (n := n) (i := i) (j := j) hx) h.cA r hr q hq
    exact this.mono (by have := Nat.mul_le_mul_right (2 * z) h5; omega)
  cB := fun r hr q hq => by
    have := cbs_mul h.sB elem_sq hn (by decide) (by decide) h.cB (elem_cb (n := n) (i := i) (j := j) hy) r hr q hq
    exact this.mono (by have := Nat.mul_le_mul_right (z * 2) h5; omega)
  ab := by
    have e : (elemQ n i j (-x)) = elemQ n i j (-x) := rfl
    rw [mul_assocQ elem_sq h.sA (h.sB.mul elem_sq hn) hn, ← mul_assocQ h.sA h.sB elem_sq hn, h.ab, one_mul elem_sq hn, elem_both hn hij hi hj]
  ba := by
    have e := elem_both (x := -x) hn hij hi hj
    rw [Rat.neg_neg] at e
    rw [mul_assocQ h.sB elem_sq (elem_sq.mul h.sA hn) hn, ← mul_assocQ elem_sq elem_sq h.sA hn, e, one_mul h.sA hn, h.ba]
  d := by rw [elem_det h.sA hn hij hi hj, h.d]
theorem Mixed.d2 {n z : Nat} {A B : List (List Rat)} (h : Mixed n z A B) (hn : n ≠ 0) : det n (ent B) = 1 := by
  have := det_prod h.sA h.sB hn
  rw [h.ab, det_one, h.d, Rat.one_mul] at this
  exact this.symm
theorem Has.shift {μ μ' : Mem} {qs : List Addr} {yss : List (List D)} (h : Has μ μ' qs yss) {p : Addr} {xs : List D} (hp : p ∉ qs) : Has (mset μ p xs) (mset μ' p xs) qs yss where
  len := h.len
  nd := h.nd
  no := fun q hq => by rw [mset_ne (show q ≠ p from fun e => hp (by rw [← e]; exact hq))]; exact h.no q hq
  is := fun k q ys h1 h2 => by rw [mset_ne (show q ≠ p from fun e => hp (by rw [← e]; exact get_mem h1))]; exact h.is k q ys h1 h2
  oth := fun b hb => by
    unfold mset
    by_cases e : b = p
    · rw [if_pos e, if_pos e]
    · rw [if_neg e, if_neg e]; exact h.oth b hb
theorem Has.get {μ μ' : Mem} {ps : List Addr} {xss : List (List D)} (h : Has μ μ' ps xss) {i : Nat} {xs : List D} (hx : xss[i]? = some xs) : ∃ p, ps[i]? = some p ∧ μ' p = some xs := by
  have hi : i < ps.length := by rw [h.len]; exact (List.getElem?_eq_some_iff.mp hx).1
  exact ⟨ps[i], List.getElem?_eq_getElem hi, h.is i _ _ (List.getElem?_eq_getElem hi) hx⟩
theorem mod_other {n i j : Nat} (hi : i < n) (hj : j + 1 < n) : ∃ m : Nat, ((i : Int) + 1 + (j : Int)) % (n : Int) = (m : Int) ∧ m < n ∧ i ≠ m := by
  have e : ((i : Int) + 1 + j) = ((i + 1 + j : Nat) : Int) := by omega
  by_cases h : i + 1 + j < n
  · exact ⟨i + 1 + j, by rw [e, ← Int.natCast_emod, Nat.mod_eq_of_lt h], h, by omega⟩
  · refine ⟨i + 1 + j - n, ?_, by omega, by omega⟩
    rw [e, ← Int.natCast_emod, Nat.mod_eq_sub_mod (by omega), Nat.mod_eq_of_lt (by omega)]
theorem elem_map {n i j : Nat} {x : Rat} : (elemQ n i j x).map (fun r => r.map frD) = ((oneQ n).map fun r => r.map frD).set i ((((oneQ n).getD i []).map frD).set j (frD x)) := by
  unfold elemQ
  rw [List.map_set, List.map_set]
theorem CBs.monoZ {d z z' : Nat} {t : List (List Rat)} (h : CBs d z t) (l : z ≤ z') : CBs d z' t := fun r hr q hq => (h r hr q hq).mono l
theorem Mixed.up {n z z' : Nat} {A B : List (List Rat)} (h : Mixed n z A B) (l : z ≤ z') : Mixed n z' A B := ⟨h.sA, h.sB, CBs.monoZ h.cA l, CBs.monoZ h.cB l, h.ab, h.ba, h.d⟩
end DL
-- DTG
set_option maxRecDepth 100000
namespace DL
open PySem PySem.Spec PyProof.Rows L2
/-! == over whole numbers and None in tuples and lists -/
def pl : Nat → D → Bool
  | _, .int _ => true
  | _, .non => true
  | k + 1, .tup xs => xs.all (pl k)
  | k + 1, .lst xs => xs.all (pl k)
  | _, _ => false
theorem pl_up : ∀ {k : Nat} {d : D}, pl k d = true → pl (k + 1) d = true
  | 0, d, h => by cases d <;> first | rfl | (exact absurd h Bool.false_ne_true)
  | k + 1, d, h => by
    cases d with
    | int i => rfl
    | non => rfl
    | tup xs => exact List.all_eq_true.mpr fun x hx => pl_up (List.all_eq_true.mp h x hx)
    | lst xs => exact List.all_eq_true.mpr fun x hx => pl_up (List.all_eq_true.mp h x hx)
    | _ => exact absurd h Bool.false_ne_true
theorem pl_mono {k m : Nat} {d : D} (h : pl k d = true) (l : k ≤ m) : pl m d = true := by
  induction l with
  | refl => exact h
  | step _ ih => exact pl_up ih
theorem pl_pys {k : Nat} (ih : ∀ d : D, pl k d = true → ∃ p, toPy d = some p ∧ p.canLay0 = true ∧ p.depth ≤ k) : ∀ {xs : List D}, xs.all (pl k) = true → ∃ ps, toPys xs = some ps ∧ PyData.canLayAll0 ps = true ∧ PyData.depthAll ps ≤ k
  | [], _ => ⟨[], rfl, rfl, Nat.zero_le _⟩
  | x :: xs, h => by
    rw [List.all_cons, Bool.and_eq_true] at h
    obtain ⟨p, h1, h2, h3⟩ := ih x h.1
    obtain ⟨ps, g1, g2, g3⟩ := pl_pys ih h.2
    refine ⟨p :: ps, by simp only [toPys, h1, g1], by simp only [PyData.canLayAll0, h2, g2, Bool.and_self], ?_⟩
    simp only [PyData.depthAll]
    omega
theorem pl_py : ∀ {k : Nat} {d : D}, pl k d = true → ∃ p, toPy d = some p ∧ p.canLay0 = true ∧ p.depth ≤ k
  | 0, d, h => by
    cases d with
    | int i => exact ⟨_, rfl, rfl, by simp [PyData.depth]⟩
    | non => exact ⟨_, rfl, rfl, by simp [PyData.depth]⟩
    | _ => exact absurd h Bool.false_ne_true
  | k + 1, d, h => by
    cases d with
    | int i => exact ⟨_, rfl, rfl, by simp [PyData.depth]⟩
    | non => exact ⟨_, rfl, rfl, by simp [PyData.depth]⟩
    | tup xs =>
      obtain ⟨ps, g1, g2, g3⟩ := pl_pys (fun d hd => pl_py (k := k) hd) (show xs.all (pl k) = true from h)
      refine ⟨.tuple ps, by simp only [toPy, g1, Option.map_some], g2, ?_⟩
      simp only [PyData.depth]
      omega
    | lst xs =>
      obtain ⟨ps, g1, g2, g3⟩ := pl_pys (fun d hd => pl_py (k := k) hd) (show xs.all (pl k) = true from h)
      refine ⟨.list ps, by simp only [toPy, g1, Option.map_some], g2, ?_⟩
      simp only [PyData.depth]
      omega
    | _ => exact absurd h Bool.false_ne_true
theorem pl_eqs {k : Nat} (ih : ∀ (d e : D) p q, pl k d = true → pl k e = true → toPy d = some p → toPy e = some q → (PyData.eqv p q = true ↔ d = e)) : ∀ (xs ys : List D) ps qs, xs.all (pl k) = true → ys.all (pl k) = true → toPys xs = some ps → toPys ys = some qs → (PyData.eqvAll ps qs = true ↔ xs = ys)
  | [], [], ps, qs, _, _, e1, e2 => by
    simp only [toPys, Option.some.injEq] at e1 e2
    subst e1 e2
    exact ⟨fun _ => rfl, fun _ => rfl⟩
  | [], y :: ys, ps, qs, _, h, e1, e2 => by
    obtain ⟨qs', g, _⟩ := pl_pys (fun d hd => pl_py (k := k) hd) h
    simp only [toPys, Option.some.injEq] at e1
    subst e1
    cases qs with
    | nil =>
      exfalso
      rw [toPys] at e2
      split at e2 <;> cases e2
    | cons q qs => exact ⟨fun z => absurd z (by rw [PyData.eqvAll]; exact Bool.false_ne_true), fun z => by cases z⟩
  | x :: xs, [], ps, qs, h, _, e1, e2 => by
    simp only [toPys, Option.some.injEq] at e2
    subst e2
    cases ps with
    | nil =>
      exfalso
      rw [toPys] at e1
      split at e1 <;> cases e1
    | cons q qs => exact ⟨fun z => absurd z (by rw [PyData.eqvAll]; exact Bool.false_ne_true), fun z => by cases z⟩
  | x :: xs, y :: ys, ps, qs, h1, h2, e1, e2 => by
    rw [List.all_cons, Bool.and_eq_true] at h1 h2
    obtain ⟨p, p1, _⟩ := pl_py h1.1
    obtain ⟨q, q1, _⟩ := pl_py h2.1
    obtain ⟨ps', p2, _⟩ := pl_pys (fun d hd => pl_py (k := k) hd) h1.2
    obtain ⟨qs', q2, _⟩ := pl_pys (fun d hd => pl_py (k := k) hd) h2.2
    simp only [toPys, p1, p2, Option.some.injEq] at e1
    simp only [toPys, q1, q2, Option.some.injEq] at e2
    subst e1 e2
    rw [PyData.eqvAll, Bool.and_eq_true, ih x y p q h1.1 h2.1 p1 q1, pl_eqs ih xs ys ps' qs' h1.2 h2.2 p2 q2, List.cons.injEq]
inductive PlC : Nat → D → Prop where
  | int (k : Nat) (i : Int) : PlC k (.int i)
  | non (k : Nat) : PlC k .non
  | tup (k : Nat) (xs : List D) : xs.all (pl k) = true → PlC (k + 1) (.tup xs)
  | lst (k : Nat) (xs : List D) : xs.all (pl k) = true → PlC (k + 1) (.lst xs)
theorem plC {k : Nat} {d : D} (h : pl k d = true) : PlC k d := by
  cases d with
  | int i => exact .int k i
  | non => exact .non k
  | tup xs =>
    cases k with
    | zero => exact absurd h Bool.false_ne_true
    | succ k => exact .tup k xs h
  | lst xs =>
    cases k with
    | zero => exact absurd h Bool.false_ne_true
    | succ k => exact .lst k xs h
  | _ => cases k <;> exact absurd h Bool.false_ne_true
theorem pl_eq : ∀ (k : Nat) (d e : D) p q, pl k d = true → pl k e = true → toPy d = some p → toPy e = some q → (PyData.eqv p q = true ↔ d = e) := by
  intro k
  induction k with
  | zero =>
    intro d e p q h1 h2 e1 e2
    have c1 := plC h1
    have c2 := plC h2
    clear h1 h2
    cases c1 <;> cases c2 <;> (simp only [toPy, Option.some.injEq] at e1 e2; subst e1 e2; simp [PyData.eqv])
  | succ k ih =>
    intro d e p q h1 h2 e1 e2
    have c1 := plC h1
    have c2 := plC h2
    clear h1 h2
    cases c1 with
    | int i =>
      simp only [toPy, Option.some.injEq] at e1
      subst e1
      cases c2 <;> simp only [toPy, Option.some.injEq, Option.map_eq_some_iff] at e2 <;> first
        | (subst e2; simp [PyData.eqv]; done)
        | (obtain ⟨z, _, rfl⟩ := e2; simp [PyData.eqv])
    | non =>
      simp only [toPy, Option.some.injEq] at e1
      subst e1
      cases c2 <;> simp only [toPy, Option.some.injEq, Option.map_eq_some_iff] at e2 <;> first
        | (subst e2; simp [PyData.eqv]; done)
        | (obtain ⟨z, _, rfl⟩ := e2; simp [PyData.eqv])
    | tup _ xs h1 =>
      simp only [toPy, Option.map_eq_some_iff] at e1
      obtain ⟨z, z1, rfl⟩ := e1
      cases c2 with
      | tup _ ys h2 =>
        simp only [toPy, Option.map_eq_some_iff] at e2
        obtain ⟨w, w1, rfl⟩ := e2
        rw [PyData.eqv, pl_eqs ih _ _ z w h1 h2 z1 w1, D.tup.injEq]
      | lst _ ys h2 =>
        simp only [toPy, Option.map_eq_some_iff] at e2
        obtain ⟨w, w1, rfl⟩ := e2
        simp [PyData.eqv]
      | int i =>
        simp only [toPy, Option.some.injEq] at e2
        subst e2
        simp [PyData.eqv]
      | non =>
        simp only [toPy, Option.some.injEq] at e2
        subst e2
        simp [PyData.eqv]
    | lst _ xs h1 =>
      simp only [toPy, Option.map_eq_some_iff] at e1
      obtain ⟨z, z1, rfl⟩ := e1
      cases c2 with
      | lst _ ys h2 =>
        simp only [toPy, Option.map_eq_some_iff] at e2
        obtain ⟨w, w1, rfl⟩ := e2
        rw [PyData.eqv, pl_eqs ih _ _ z w h1 h2 z1 w1, D.lst.injEq]
      | tup _ ys h2 =>
        simp only [toPy, Option.map_eq_some_iff] at e2
        obtain ⟨w, w1, rfl⟩ := e2
        simp [PyData.eqv]
      | int i =>
        simp only [toPy, Option.some.injEq] at e2
        subst e2
        simp [PyData.eqv]
      | non =>
        simp only [toPy, Option.some.injEq] at e2
        subst e2
        simp [PyData.eqv]
theorem pl_pyM {k : Nat} {d : D} {μ : Mem} (h : pl k d = true) : toPyM μ d = toPy d := by
  cases d with
  | ref a => cases k <;> exact absurd h Bool.false_ne_true
  | _ => rfl
theorem eqvP {k : Nat} {d e : D} (hd : pl k d = true) (he : pl k e = true) (hk : k ≤ 64) {b : Bool} (hb : b = true ↔ d = e) (μ : Mem) : ∃ p q, toPyM μ d = some p ∧ toPyM μ e = some q ∧ SeqAt.shaped p = true ∧ SeqAt.shaped q = true ∧ PyData.eqv p q = b := by
  obtain ⟨p, p1, p2, p3⟩ := pl_py hd
  obtain ⟨q, q1, q2, q3⟩ := pl_py he
  refine ⟨p, q, by rw [pl_pyM hd]; exact p1, by rw [pl_pyM he]; exact q1, ?_, ?_, ?_⟩
  · unfold SeqAt.shaped
    rw [p2, decide_eq_true (by omega)]
    rfl
  · unfold SeqAt.shaped
    rw [q2, decide_eq_true (by omega)]
    rfl
  · have := pl_eq k d e p q hd he p1 q1
    rw [← hb] at this
    exact Bool.eq_iff_iff.mpr this
/-- d == e -/
theorem x_eqP {k : Nat} {d e : D} {μ : Mem} {Q : DK} {b : Bool} (hd : pl k d = true) (he : pl k e = true) (hk : k ≤ 64) (hb : b = true ↔ d = e) (q : Q (.bl b) μ) : dEq d e μ Q := by
  obtain ⟨x, y, h1, h2, h3, h4, h5⟩ := eqvP hd he hk hb μ
  exact x_eq h1 h2 h3 h4 (by rw [h5]; exact q)
theorem x_neP {k : Nat} {d e : D} {μ : Mem} {Q : DK} {b : Bool} (hd : pl k d = true) (he : pl k e = true) (hk : k ≤ 64) (hb : b = true ↔ d = e) (q : Q (.bl (!b)) μ) : dNe d e μ Q := by
  obtain ⟨x, y, h1, h2, h3, h4, h5⟩ := eqvP hd he hk hb μ
  exact x_ne h1 h2 h3 h4 (by rw [h5]; exact q)
theorem x_eqSelf {k : Nat} {d : D} {μ : Mem} {Q : DK} (hd : pl k d = true) (hk : k ≤ 64) (q : Q (.bl true) μ) : dEq d d μ Q := x_eqP hd hd hk ⟨fun _ => rfl, fun _ => rfl⟩ q
theorem x_neSelf {k : Nat} {d : D} {μ : Mem} {Q : DK} (hd : pl k d = true) (hk : k ≤ 64) (q : Q (.bl false) μ) : dNe d d μ Q := x_neP (b := true) hd hd hk ⟨fun _ => rfl, fun _ => rfl⟩ q
theorem pl_fr {q : Rat} : pl 1 (frD q) = true := rfl
theorem pl_seq {k : Nat} {b : Bool} {xs : List D} (h : ∀ x ∈ xs, pl k x = true) : pl (k + 1) (seqD b xs) = true := by
  cases b <;> exact List.all_eq_true.mpr h
theorem pl_row {r : List Rat} : pl 2 (rowD r) = true := List.all_eq_true.mpr fun x hx => by
  obtain ⟨q, _, rfl⟩ := List.mem_map.mp hx
  rfl
theorem pl_tab {t : List (List Rat)} : pl 3 (tabD t) = true := List.all_eq_true.mpr fun x hx => by
  obtain ⟨q, _, rfl⟩ := List.mem_map.mp hx
  exact pl_row
theorem frD_inj {p q : Rat} : frD p = frD q ↔ p = q := by
  refine ⟨fun h => ?_, fun h => by rw [h]⟩
  unfold frD at h
  simp only [D.tup.injEq, List.cons.injEq, D.int.injEq, and_true] at h
  exact Rat.ext h.1 (by exact_mod_cast h.2)
theorem map_inj {α β : Type} {f : α → β} (hf : ∀ a b, f a = f b → a = b) : ∀ {xs ys : List α}, xs.map f = ys.map f → xs = ys
  | [], [], _ => rfl
  | [], y :: ys, h => by cases h
  | x :: xs, [], h => by cases h
  | x :: xs, y :: ys, h => by
    rw [List.map_cons, List.map_cons, List.cons.injEq] at h
    rw [hf _ _ h.1, map_inj hf h.2]
theorem rowD_inj {p q : List Rat} : rowD p = rowD q ↔ p = q := by
  refine ⟨fun h => ?_, fun h => by rw [h]⟩
  unfold rowD at h
  rw [D.tup.injEq] at h
  exact map_inj (fun a b => frD_inj.mp) h
theorem tabD_inj {p q : List (List Rat)} : tabD p = tabD q ↔ p = q := by
  refine ⟨fun h => ?_, fun h => by rw [h]⟩
  unfold tabD at h
  rw [D.tup.injEq] at h
  exact map_inj (fun a b => rowD_inj.mp) h
/-! a statement that leads on in one way only: what comes behind it is proved once -/
theorem x_cut {t u : TDS} {E : DEnds} {δ : DSt} {μ : Mem} (J : DSt → Mem → Prop) (h : ∀ nx : DSt → Mem → Prop, (∀ δ' μ', J δ' μ' → nx δ' μ') → t { E with nx := nx } δ μ) (k : ∀ δ' μ', J δ' μ' → u E δ' μ') : dSeq t u E δ μ := h _ k
theorem cut_nn {xs : List D} {i j : Nat} (hi : i ≤ xs.length) (hj : j ≤ xs.length) : cutD xs (some (i : Int)) (some (j : Int)) = (xs.drop i).take (j - i) := by
  unfold DL.cutD
  rw [HT.sIx_nat, HT.sIx_nat, Nat.min_eq_left hi, Nat.min_eq_left hj]
theorem frD_neg {q : Rat} : D.tup [.int (0 - q.num), .int (q.den : Int)] = frD (-q) := by
  unfold frD
  rw [Rat.neg_num, Rat.neg_den, Int.zero_sub]
end DL
-- DTH
set_option maxRecDepth 100000
namespace DL
open PySem PySem.Spec PyProof.Rows L2
/-! a comprehension whose list may change later -/
def lcDM (g : Tg) (tt : TDT) (te : TD) (δ : DSt) (Dn : Addr) : List D → Mem → DK → Prop
  | [], μ, Q => ∃ acc, μ Dn = some acc ∧ Q (.ref Dn) μ
  | d :: ds, μ, Q => lcStep g tt te δ d μ fun o μ4 => ∃ acc, μ4 Dn = some acc ∧ acc.length < 1000000 ∧ match o with
    | some y => lcDM g tt te δ Dn ds (mset μ4 Dn (acc ++ [y])) Q
    | none => lcDM g tt te δ Dn ds μ4 Q
def dLcM (wi : TDI) (g : Tg) (tt : TDT) (te : TD) (vs : List Nat) : TD := fun δ μ Q => wi δ μ fun ds μ1 => ∀ Dn, μ1 Dn = none → lcDM g tt te (wipeD δ vs) Dn ds (mset μ1 Dn []) Q
theorem lcM_sound {wi : TDI} {g : Tg} {tt : TDT} {te : TD} {vs : List Nat} {K : PySem.W.Frag} (hv : ∀ i ∈ g.slots, i ∈ vs) {σ : L2.St} {H : Hp} {Q : VK} (h : eOf K (dLcM wi g tt te vs) σ H Q) : tLc (iOf K wi) (hTg K g) (bOf K tt) (eOf K te) vs σ H Q := by
  obtain ⟨δ, F, μ, QD, l, rs, q, k⟩ := h
  refine ⟨δ, F, μ, _, l, rs, q, fun J ds F1 μ1 H1 e1 l1 j q1 Dn hD => ?_⟩
  have q1 := q1 Dn (l1.none_mu hD)
  refine ⟨fun i m H => ∃ F2 μ2, Ex F1 F2 ∧ Lay K F2 μ2 H ∧ lcDM g tt te (wipeD δ vs) Dn (ds.drop i) μ2 QD ∧ i ≤ ds.length ∧ m = ds.length - i,
    ⟨ds.length, F1, _, Ex.refl F1, l1.newM hD .nil, q1, Nat.zero_le _, rfl⟩, ?_⟩
  rintro i m H2 ⟨F2, μ2, e2, l2, q2, hle, rfl⟩
  obtain ⟨j1, j2⟩ := j i F2 _ H2 e2 l2 hle
  by_cases hlt : i < ds.length
  · refine .inr ⟨(j1 _ (List.getElem?_eq_getElem hlt)).1, fun H => ∃ F3 μ3, Ex F1 F3 ∧ Lay K F3 μ3 H ∧ lcDM g tt te (wipeD δ vs) Dn (ds.drop (i + 1)) μ3 QD,
      fun H' ⟨F3, μ3, e3, l3, q3⟩ => ⟨ds.length - (i + 1), by omega, F3, μ3, e3, l3, q3, hlt, rfl⟩, fun x H3 y => ?_⟩
    obtain ⟨F3, e3, l3, rx⟩ := (j1 _ (List.getElem?_eq_getElem hlt)).2 x H3 y
    rw [List.drop_eq_getElem_cons hlt] at q2
    have rw2 : RepSt K F3 (wipe σ vs) (wipeD δ vs) := repSt_wipe (rs.mono ((e1.trans e2).trans e3)) vs
    refine hTg_run l3 g rx rw2 q2 fun σ' δ' r' q' hw => ⟨?_, ?_⟩
    · rw [hw vs hv, wipe_wipe vs σ vs fun _ z => z]
    · refine ⟨δ', F3, μ2, _, l3, r', q', fun b F4 μ4 H4 e4 l4 q4 => ?_⟩
      cases b with
      | false =>
        obtain ⟨acc, _, _, q5⟩ := q4
        exact ⟨F4, μ4, (e2.trans e3).trans e4, l4, q5⟩
      | true =>
        refine ⟨δ', F4, μ4, _, l4, r'.mono e4, q4, fun v d F5 μ5 H5 e5 l5 r5 ⟨acc, ha, hz, q5⟩ => ?_⟩
        obtain ⟨hF, ws, hw, rws⟩ := l5.mu Dn acc ha
        exact ⟨ws, hw, by rw [rws.length]; exact mil_lt (Nat.le_of_lt hz), F5, _, ((e2.trans e3).trans e4).trans e5, l5.put ha (rws.append (.cons r5 .nil)), q5⟩
  · have e : i = ds.length := by omega
    refine .inl ⟨j2 e, ?_⟩
    rw [List.drop_eq_nil_of_le (by omega)] at q2
    obtain ⟨acc, ha, q3⟩ := q2
    exact k _ _ _ _ H2 (e1.trans e2) l2 (.ref Dn) q3
section
variable {X : Cx} {tg iter elt : Expr} {ifs : List Expr} {scope : Scope} {pos : Pos} {own : List (Str × Nat)} {wi : TDI} {g : Tg} {tt : TDT} {te : TD}
theorem de_lcM (hc : X.calm = true) (hN : X.N.Nodup) (hi : DI X tg iter wi) (ok : BlkOk X.N X.env.scope scope own) (hv : ∀ i ∈ g.slots, i ∈ own.map (·.2))
    (hg : ∀ (s : Shared) (H : Hp) (C : Addr) (cl : List (Str × Addr)) (fp : List Addr), PG (X.blk s H scope (compEnvC scope cl C X.env) fp) tg (hTg X.K g)) (ht : ∀ (s : Shared) (H : Hp) (C : Addr) (cl : List (Str × Addr)) (fp : List Addr), DTs (X.blk s H scope (compEnvC scope cl C X.env) fp) ifs tt)
    (he : ∀ (s : Shared) (H : Hp) (C : Addr) (cl : List (Str × Addr)) (fp : List Addr), DE (X.blk s H scope (compEnvC scope cl C X.env) fp) elt te) (hs : ∀ x, foldedSetIterable iter X.env x = pure x := by intro _; rfl) :
    DE X (.ListComp elt [⟨tg, iter, ifs, 0⟩] scope pos) (dLcM wi g tt te (own.map (·.2))) :=
  PE.weak (pe_lc hc hN hi ok hg ht he hs) fun _ _ _ h => lcM_sound hv h
theorem ds_setLcM {i : Nat} {y : Str} {py spos : Pos} (hc : X.calm = true) (hN : X.N.Nodup) (hy : X.N[i]? = some y) (hyl : X.env.scope.names.lookup y = some .local)
    (hsw : swapsWith (.ListComp elt [⟨tg, iter, ifs, 0⟩] scope pos) (some (.Name y py)) spos.line X.env = pure true) (hi : DI X tg iter wi) (ok : BlkOk X.N X.env.scope scope own) (hv : ∀ i ∈ g.slots, i ∈ own.map (·.2))
    (hg : ∀ (s : Shared) (H : Hp) (C : Addr) (cl : List (Str × Addr)) (fp : List Addr), PG (X.blk s H scope (compEnvC scope cl C X.env) fp) tg (hTg X.K g)) (ht : ∀ (s : Shared) (H : Hp) (C : Addr) (cl : List (Str × Addr)) (fp : List Addr), DTs (X.blk s H scope (compEnvC scope cl C X.env) fp) ifs tt)
    (he : ∀ (s : Shared) (H : Hp) (C : Addr) (cl : List (Str × Addr)) (fp : List Addr), DE (X.blk s H scope (compEnvC scope cl C X.env) fp) elt te) (hs : ∀ x, foldedSetIterable iter X.env x = pure x := by intro _; rfl) :
    DS X (.Assign [.Name y py] (.ListComp elt [⟨tg, iter, ifs, 0⟩] scope pos) spos) (dSet i (dLcM wi g tt te (own.map (·.2)))) :=
  PS.weak (ps_setLc hc hN hy hyl hsw hi ok hg ht he hs) fun D σ H ⟨δ, F, μ, ED, l, rs, q, k⟩ => by
    have h := lcM_sound (K := X.K) (te := te) (tt := tt) (wi := wi) (Q := fun x H1 => gName i x σ H1 D.nx) hv ⟨δ, F, μ, _, l, rs, q, fun v d F1 μ1 H1 e1 l1 r1 q1 => k.1 _ _ F1 μ1 H1 e1 l1 ((rs.mono e1).set r1 i) q1⟩
    exact h
end
theorem lcDM_map {α : Type} {g : Tg} {tt : TDT} {te : TD} {δ : DSt} {Q : DK} {μ : Mem} {Dn : Addr} (u v : α → D) : ∀ (xs : List α) (acc : List D), acc.length + xs.length ≤ 1000000 → μ Dn = none →
    (∀ x ∈ xs, ∀ acc k, k (some (v x)) (mset μ Dn acc) → lcStep g tt te δ (u x) (mset μ Dn acc) k) → Q (.ref Dn) (mset μ Dn (acc ++ xs.map v)) → lcDM g tt te δ Dn (xs.map u) (mset μ Dn acc) Q
  | [], acc, _, hn, _, q => ⟨acc, mset_same, by rw [List.map_nil, List.append_nil] at q; exact q⟩
  | x :: xs, acc, hz, hn, st, q => by
    refine st x List.mem_cons_self acc _ ⟨acc, mset_same, by rw [List.length_cons] at hz; omega, ?_⟩
    show lcDM g tt te δ Dn (xs.map u) (mset (mset μ Dn acc) Dn (acc ++ [v x])) Q
    rw [mset_mset]
    exact lcDM_map u v xs (acc ++ [v x]) (by rw [List.length_append, List.length_singleton]; rw [List.length_cons] at hz; omega) hn (fun y hy => st y (List.mem_cons_of_mem _ hy)) (by rw [List.append_assoc]; exact q)
theorem lcM_map {α : Type} {g : Tg} {tt : TDT} {te : TD} {δ : DSt} {Q : DK} {μ : Mem} (xs : List α) (u v : α → D) (hz : xs.length ≤ 1000000)
    (st : ∀ x ∈ xs, ∀ Dn acc k, μ Dn = none → k (some (v x)) (mset μ Dn acc) → lcStep g tt te δ (u x) (mset μ Dn acc) k) (q : ∀ Dn, μ Dn = none → Q (.ref Dn) (mset μ Dn (xs.map v))) : ∀ Dn, μ Dn = none → lcDM g tt te δ Dn (xs.map u) (mset μ Dn []) Q :=
  fun Dn hn => lcDM_map u v xs [] (by simpa using hz) hn (fun x hx acc k h => st x hx Dn acc k hn h) (by simpa using q Dn hn)
theorem x_lcM {wi : TDI} {g : Tg} {tt : TDT} {te : TD} {vs : List Nat} {δ : DSt} {μ : Mem} {Q : DK} (k : wi δ μ fun ds μ1 => ∀ Dn, μ1 Dn = none → lcDM g tt te (wipeD δ vs) Dn ds (mset μ1 Dn []) Q) : dLcM wi g tt te vs δ μ Q := k
/-! a comprehension with a test -/
theorem lcD_filt {α : Type} {g : Tg} {tt : TDT} {te : TD} {δ : DSt} {Q : DK} {μ : Mem} {Dn : Addr} (u v : α → D) (p : α → Bool) : ∀ (xs : List α) (acc : List D), acc.length + xs.length ≤ 1000000 → μ Dn = none →
    (∀ x ∈ xs, ∀ acc k, (p x = true → k (some (v x)) (mset μ Dn acc)) → (p x = false → k none (mset μ Dn acc)) → lcStep g tt te δ (u x) (mset μ Dn acc) k) → Q (.lst (acc ++ (xs.filter p).map v)) μ → lcD g tt te δ Dn (xs.map u) (mset μ Dn acc) Q
  | [], acc, _, hn, _, q => ⟨acc, mset_same, by rw [mdel_mset hn]; rw [List.filter_nil, List.map_nil, List.append_nil] at q; exact q⟩
  | x :: xs, acc, hz, hn, st, q => by
    rw [List.length_cons] at hz
    refine st x List.mem_cons_self acc _ (fun hp => ⟨acc, mset_same, by omega, ?_⟩) (fun hp => ⟨acc, mset_same, by omega, ?_⟩)
    · show lcD g tt te δ Dn (xs.map u) (mset (mset μ Dn acc) Dn (acc ++ [v x])) Q
      rw [mset_mset]
      refine lcD_filt u v p xs (acc ++ [v x]) (by rw [List.length_append, List.length_singleton]; omega) hn (fun y hy => st y (List.mem_cons_of_mem _ hy)) ?_
      rw [List.filter_cons, if_pos hp] at q
      rw [List.append_assoc]
      exact q
    · refine lcD_filt u v p xs acc (by omega) hn (fun y hy => st y (List.mem_cons_of_mem _ hy)) ?_
      rw [List.filter_cons, if_neg (by rw [hp]; exact Bool.false_ne_true)] at q
      exact q
theorem lc_filt {α : Type} {g : Tg} {tt : TDT} {te : TD} {δ : DSt} {Q : DK} {μ : Mem} (xs : List α) (u v : α → D) (p : α → Bool) (hz : xs.length ≤ 1000000)
    (st : ∀ x ∈ xs, ∀ Dn acc k, μ Dn = none → (p x = true → k (some (v x)) (mset μ Dn acc)) → (p x = false → k none (mset μ Dn acc)) → lcStep g tt te δ (u x) (mset μ Dn acc) k) (q : Q (.lst ((xs.filter p).map v)) μ) : ∀ Dn, μ Dn = none → lcD g tt te δ Dn (xs.map u) (mset μ Dn []) Q :=
  fun Dn hn => lcD_filt u v p xs [] (by simpa using hz) hn (fun x hx acc k h => st x hx Dn acc k hn h) (by simpa using q)
/-! rows added and subtracted -/
theorem zipD_map {α β : Type} (f : α → D) (g : β → D) : ∀ (xs : List α) (ys : List β), zipD (xs.map f) (ys.map g) = (List.zip xs ys).map fun p => D.tup [f p.1, g p.2]
  | [], _ => rfl
  | _ :: _, [] => rfl
  | x :: xs, y :: ys => by
    show D.tup [f x, g y] :: zipD (xs.map f) (ys.map g) = _
    rw [zipD_map f g xs ys]
    rfl
theorem zip_mapW {α β γ : Type} (f : α → β → γ) (xs : List α) (ys : List β) : ((List.zip xs ys).map fun p => f p.1 p.2) = List.zipWith f xs ys := by
  induction xs generalizing ys with
  | nil => rfl
  | cons x xs ih =>
    cases ys with
    | nil => rfl
    | cons y ys =>
      show f x y :: ((List.zip xs ys).map fun p => f p.1 p.2) = f x y :: List.zipWith f xs ys
      rw [ih]
def subR (xs ys : List Rat) : List Rat := List.zipWith (· - ·) xs ys
def addR (xs ys : List Rat) : List Rat := List.zipWith (· + ·) xs ys
def subM (a b : List (List Rat)) : List (List Rat) := List.zipWith subR a b
theorem getD_zipWith {α β γ : Type} {f : α → β → γ} {xs : List α} {ys : List β} {i : Nat} {a : α} {b : β} {c : γ} (h1 : i < xs.length) (h2 : i < ys.length) : (List.zipWith f xs ys).getD i c = f (xs.getD i a) (ys.getD i b) := by
  rw [getD_lt (by rw [List.length_zipWith]; omega), List.getElem_zipWith, getD_lt h1, getD_lt h2]
theorem subM_sq {n : Nat} {a b : List (List Rat)} (ha : Sq n a) (hb : Sq n b) : Sq n (subM a b) := ⟨by unfold subM; rw [List.length_zipWith, ha.1, hb.1, Nat.min_self], fun r hr => by
  unfold subM at hr
  rw [← zip_mapW] at hr
  obtain ⟨p, hp, rfl⟩ := List.mem_map.mp hr
  show (subR p.1 p.2).length = n
  unfold subR
  rw [List.length_zipWith, ha.2 _ (List.of_mem_zip hp).1, hb.2 _ (List.of_mem_zip hp).2, Nat.min_self]⟩
theorem ent_sub {n i j : Nat} {a b : List (List Rat)} (ha : Sq n a) (hb : Sq n b) (hi : i < n) (hj : j < n) : ent (subM a b) i j = ent a i j - ent b i j := by
  unfold ent subM
  rw [getD_zipWith (a := []) (b := []) (by rw [ha.1]; exact hi) (by rw [hb.1]; exact hi)]
  unfold subR
  rw [getD_zipWith (a := 0) (b := 0) (by rw [ha.row hi]; exact hj) (by rw [hb.row hi]; exact hj)]
theorem CB.neg {d z : Nat} {q : Rat} (h : CB d z q) : CB d z (-q) := by
  obtain ⟨hd, n, rfl, hz⟩ := h
  refine ⟨hd, -n, ?_, by rw [Int.natAbs_neg]; exact hz⟩
  rw [Rat.divInt_eq_div, Rat.divInt_eq_div, Rat.intCast_neg]
  grind
theorem CB.sub {d z z' : Nat} {p q : Rat} (h : CB d z p) (k : CB d z' q) : CB d (z + z') (p - q) := by
  rw [Rat.sub_eq_add_neg]
  exact h.add k.neg
theorem cbs_sub {d z z' : Nat} {a b : List (List Rat)} (h : CBs d z a) (k : CBs d z' b) : CBs d (z + z') (subM a b) := fun r hr q hq => by
  unfold subM at hr
  rw [← zip_mapW] at hr
  obtain ⟨p, hp, rfl⟩ := List.mem_map.mp hr
  have hq : q ∈ subR p.1 p.2 := hq
  unfold subR at hq
  rw [← zip_mapW] at hq
  obtain ⟨x, hx, rfl⟩ := List.mem_map.mp hq
  exact (h _ (List.of_mem_zip hp).1 _ (List.of_mem_zip hx).1).sub (k _ (List.of_mem_zip hp).2 _ (List.of_mem_zip hx).2)
theorem sub_divInt (p q : Rat) : Rat.divInt (p.num * q.den - q.num * p.den) (p.den * q.den) = p - q := by
  have h := add_divInt p (-q)
  rw [Rat.neg_num, Rat.neg_den] at h
  rw [Rat.sub_eq_add_neg, ← h]
  congr 1
  rw [Int.neg_mul]
  rfl
theorem div_divInt {p q : Rat} (hq : q ≠ 0) : Rat.divInt (p.num * q.den) (p.den * q.num) = p / q := by
  have h1 := Rat.num_divInt_den p
  have h2 := Rat.num_divInt_den q
  have n0 : q.num ≠ 0 := fun z => hq (num_zero.mp z)
  have e : p / q = Rat.divInt p.num p.den / Rat.divInt q.num q.den := by rw [h1, h2]
  rw [e, Rat.divInt_eq_div, Rat.divInt_eq_div, Rat.divInt_eq_div, Rat.intCast_mul, Rat.intCast_mul]
  have a1 : ((p.den : Int) : Rat) ≠ 0 := fun x => p.den_nz (by exact_mod_cast x)
  have a2 : ((q.den : Int) : Rat) ≠ 0 := fun x => q.den_nz (by exact_mod_cast x)
  have a3 : ((q.num : Int) : Rat) ≠ 0 := fun x => n0 (by exact_mod_cast x)
  grind
theorem BQ.neg {k : Nat} {q : Rat} (h : BQ k q) : BQ k (-q) := ⟨by rw [Rat.neg_num, Int.natAbs_neg]; exact h.1, h.2⟩
theorem BQ.sub {j k : Nat} {p q : Rat} (h1 : BQ j p) (h2 : BQ k q) : BQ (j + k + 1) (p - q) := by
  rw [Rat.sub_eq_add_neg]
  exact h1.add h2.neg
theorem BQ.div {j k : Nat} {p q : Rat} (h1 : BQ j p) (h2 : BQ k q) (hq : q ≠ 0) : BQ (j + k) (p / q) := by
  rw [← div_divInt hq]
  have n0 : q.num ≠ 0 := fun z => hq (num_zero.mp z)
  refine divInt_bits (Int.mul_ne_zero (by have := p.den_nz; omega) n0) ?_ ?_
  · rw [Int.natAbs_mul, Nat.pow_add, Int.natAbs_natCast]
    exact Nat.mul_lt_mul'' h1.1 h2.2
  · rw [Int.natAbs_mul, Nat.pow_add, Int.natAbs_natCast]
    exact Nat.mul_lt_mul'' h1.2 h2.1
/-! greater divisors -/
def hugeN : Nat := 2 ^ 8950
theorem divOk_huge {x y : Int} (h0 : y ≠ 0) (h : y.natAbs < hugeN) : DivOk x y := divOk_of (k := 8950) h0 h (by decide)
theorem small_huge {n : Nat} (h : n < 1073741824) : n < hugeN := Nat.lt_of_lt_of_le h (show 2 ^ 30 ≤ 2 ^ 8950 from Nat.pow_le_pow_right (by decide) (by decide))
theorem pow_huge {n m : Nat} (h : n ≤ 2 ^ m) (hm : m < 8950) : n < hugeN := Nat.lt_of_le_of_lt h (Nat.pow_lt_pow_right (by decide) hm)
theorem big_huge {n : Nat} (h : n < bigN) : n < hugeN := Nat.lt_of_lt_of_le h (Nat.pow_le_pow_right (by decide) (by decide))
end DL
-- DTI
set_option maxRecDepth 100000
namespace DL
open PySem PySem.Spec PyProof.Rows L2
theorem facQ5 {n : Nat} (h : n ≤ 5) : fac n ≤ 120 := by
  match n, h with
  | 0, _ => decide
  | 1, _ => decide
  | 2, _ => decide
  | 3, _ => decide
  | 4, _ => decide
  | 5, _ => decide
theorem CB.one : CB 1 1 1 := ⟨by decide, 1, by decide +kernel, by decide⟩
theorem CB.sg (j : Nat) : CB 1 1 (sg j) := by
  unfold DL.sg
  split
  · exact CB.one
  · exact ⟨by decide, -1, by decide +kernel, by decide⟩
theorem cb_sum {d z : Nat} (hd : d ≠ 0) : ∀ {n : Nat} {f : Nat → Rat}, (∀ k, k < n → CB d z (f k)) → CB d (n * z) (sumN n f)
  | 0, _, _ => ⟨hd, 0, zero_same.symm, Nat.zero_le _⟩
  | n + 1, f, h => by
    have := (cb_sum hd (n := n) fun k hk => h k (by omega)).add (h n (by omega))
    rw [Nat.succ_mul]
    exact this
theorem cb_term {d z n : Nat} {A : Mx} {j : Nat} (h : CB d z (A 0 j)) (k : CB (d ^ n) (fac n * z ^ n) (det n (minor A j))) : CB (d ^ (n + 1)) (z * (fac n * z ^ n)) (sg j * A 0 j * det n (minor A j)) := by
  have := ((CB.sg j).mul h).mul k
  rw [Nat.one_mul, Nat.one_mul] at this
  rw [Nat.pow_succ, Nat.mul_comm (d ^ n)]
  exact this
theorem cb_det {d z : Nat} (hd : d ≠ 0) : ∀ {n : Nat} {A : Mx}, (∀ i k, i < n → k < n → CB d z (A i k)) → CB (d ^ n) (fac n * z ^ n) (det n A)
  | 0, _, _ => CB.one
  | n + 1, A, h => by
    have s := cb_sum (d := d ^ (n + 1)) (z := z * (fac n * z ^ n)) (fun x => hd (Nat.pow_eq_zero.mp x).1) (n := n + 1) (f := fun j => sg j * A 0 j * det n (minor A j)) fun j hj =>
      cb_term (h 0 j (by omega) hj) (cb_det hd fun i k hi hk => h _ _ (by omega) (skip_lt hk))
    have e : (n + 1) * (z * (fac n * z ^ n)) = fac (n + 1) * z ^ (n + 1) := by
      show _ = (n + 1) * fac n * z ^ (n + 1)
      rw [Nat.pow_succ]
      simp only [Nat.mul_assoc, Nat.mul_comm, Nat.mul_left_comm]
    rw [e] at s
    exact s
theorem ent_cb {d z n : Nat} {t : List (List Rat)} (s : Sq n t) (h : CBs d z t) {i k : Nat} (hi : i < n) (hk : k < n) : CB d z (ent t i k) := by
  have l := s.row hi
  have m : t.getD i [] ∈ t := by
    rw [getD_lt (by rw [s.1]; exact hi)]
    exact List.getElem_mem _
  unfold ent
  rw [getD_lt (by rw [l]; exact hk)]
  exact h _ m _ (List.getElem_mem _)
theorem bq_det {d z m : Nat} {A : Mx} (hd : d ≠ 0) (hd2 : d ≤ 2 ^ 40) (hz : z ≤ 2 ^ 40) (hm : m ≤ 5) (h : ∀ i k, i < m → k < m → CB d z (A i k)) : BQ 210 (det m A) := by
  have p1 : d ^ m ≤ 2 ^ 200 := Nat.le_trans (Nat.pow_le_pow_left hd2 m) (by rw [← Nat.pow_mul]; exact Nat.pow_le_pow_right (by decide) (by omega))
  have p2 : z ^ m ≤ 2 ^ 200 := Nat.le_trans (Nat.pow_le_pow_left hz m) (by rw [← Nat.pow_mul]; exact Nat.pow_le_pow_right (by decide) (by omega))
  exact (cb_det hd h).bq (Nat.lt_of_le_of_lt p1 (by decide)) (Nat.lt_of_le_of_lt (Nat.mul_le_mul (facQ5 hm) p2) (by decide))
theorem x_tr {μ : Mem} {Q : DK} {t : List (List Rat)} {k : Nat} (hk : k < t.length) (q : Q (rowD (t.getD k [])) μ) : dIx (tabD t) (.int (k : Int)) μ Q := by
  refine x_ixT (ds := t.map rowD) (atI_nat (j := k) ?_) q
  rw [List.getElem?_map, List.getElem?_eq_getElem hk, getD_lt hk]
  rfl
theorem x_te {μ : Mem} {Q : DK} {r : List Rat} {k : Nat} (hk : k < r.length) (q : Q (frD (r.getD k 0)) μ) : dIx (rowD r) (.int (k : Int)) μ Q := by
  refine x_ixT (ds := r.map frD) (atI_nat (j := k) ?_) q
  rw [List.getElem?_map, List.getElem?_eq_getElem hk, getD_lt hk]
  rfl
theorem x_tr0 {μ : Mem} {Q : DK} {t : List (List Rat)} (hk : 0 < t.length) (q : Q (rowD (t.getD 0 [])) μ) : dIx (tabD t) (.int 0) μ Q := x_tr (k := 0) hk q
theorem x_te0 {μ : Mem} {Q : DK} {r : List Rat} (hk : 0 < r.length) (q : Q (frD (r.getD 0 0)) μ) : dIx (rowD r) (.int 0) μ Q := x_te (k := 0) hk q
theorem x_lenTab {μ : Mem} {Q : DK} {t : List (List Rat)} {n : Nat} (h : Sq n t) (q : Q (.int (n : Int)) μ) : dLen [tabD t] μ Q := by
  refine x_lenT (ds := t.map rowD) ?_
  rw [List.length_map, h.1]
  exact q
end DL
-- DTJ
set_option maxRecDepth 100000
namespace DL
open PySem PySem.Spec PyProof.Rows L2
/-! elimination by fractions -/
def prodU : Nat → (Nat → Rat) → Rat
  | 0, _ => 1
  | n + 1, s => prodU n s * s n
theorem prodU_congr : ∀ {n : Nat} {f g : Nat → Rat}, (∀ k, k < n → f k = g k) → prodU n f = prodU n g
  | 0, _, _, _ => rfl
  | n + 1, f, g, h => by
    show prodU n f * f n = prodU n g * g n
    rw [prodU_congr fun k hk => h k (by omega), h n (by omega)]
theorem prodU_ne : ∀ {n : Nat} {f : Nat → Rat}, (∀ k, k < n → f k ≠ 0) → prodU n f ≠ 0
  | 0, _, _ => by show (1 : Rat) ≠ 0; decide
  | n + 1, f, h => by
    have h1 := prodU_ne (n := n) (f := f) fun k hk => h k (by omega)
    have h2 := h n (by omega)
    intro e
    rcases Rat.mul_eq_zero.mp e with e | e
    · exact h1 e
    · exact h2 e
theorem det_upper : ∀ {n : Nat} {R : Mx}, (∀ r c, r < n → c < r → R r c = 0) → det n R = prodU n fun i => R i i
  | 0, _, _ => rfl
  | n + 1, R, h => by
    rw [det_last fun k hk => h n k (by omega) hk, det_upper fun r c hr hc => h r c (by omega) hc]
    show R n n * prodU n (fun i => R i i) = prodU n (fun i => R i i) * R n n
    rw [Rat.mul_comm]
/-- noughts in the first columns of too many rows -/
theorem det_block0 : ∀ {k n : Nat} {R : Mx}, k < n → (∀ r c, k ≤ r → r < n → c ≤ k → R r c = 0) → det n R = 0
  | 0, n, R, hk, h => by
    rw [← det_T n R]
    exact det_zero (i := 0) hk fun c hc => h c 0 (Nat.zero_le _) hc (Nat.le_refl _)
  | k + 1, n + 1, R, hk, h => by
    show sumN (n + 1) (fun j => sg j * R 0 j * det n (minor R j)) = 0
    have e : sumN (n + 1) (fun j => sg j * R 0 j * det n (minor R j)) = sumN (n + 1) (fun _ => 0) := sumN_congr fun j _ => by
      rw [det_block0 (k := k) (R := minor R j) (by omega) fun r c hr hr2 hc => h (r + 1) (skip j c) (by omega) (by omega) (by unfold skip; split <;> omega), Rat.mul_zero]
    rw [e, sumN_zero]
structure FE (n k : Nat) (m : Nat → Nat) (A : Mx) (R : Mx) (s : Rat) : Prop where
  dR : det n R = s * det n A
  sgn : s = 1 ∨ s = -1
  tri : ∀ i, i < k → i < n → m i = i
  piv : ∀ i, i < k → i < n → R i i ≠ 0
  mB : ∀ r, r < n → m r ≤ k ∧ m r ≤ r
  ex : ∃ A' : Mx, (∀ r c, r < n → c < n → ∃ r', r' < n ∧ A' r c = A r' c) ∧ ∀ r, r < n → (∀ c, c < m r → R r c = 0) ∧ ∃ x : Nat → Rat, ∀ c, c < n → R r c = A' r c - sumN (m r) fun l => x l * A' l c
theorem FE.start {n : Nat} {A : Mx} : FE n 0 (fun _ => 0) A A 1 where
  dR := by rw [Rat.one_mul]
  sgn := .inl rfl
  tri := fun i hi _ => absurd hi (Nat.not_lt_zero _)
  piv := fun i hi _ => absurd hi (Nat.not_lt_zero _)
  mB := fun r _ => ⟨Nat.le_refl _, Nat.zero_le _⟩
  ex := ⟨A, fun r c hr _ => ⟨r, hr, rfl⟩, fun r _ => ⟨fun c hc => absurd hc (Nat.not_lt_zero _), fun _ => 0, fun c _ => by
    show A r c = A r c - 0
    grind⟩⟩
theorem FE.congr {n k : Nat} {m m' : Nat → Nat} {A R R' : Mx} {s : Rat} (h : FE n k m A R s) (e : ∀ r, r < n → m r = m' r) (eR : ∀ r c, r < n → c < n → R r c = R' r c) : FE n k m' A R' s where
  dR := by rw [← h.dR]; exact (det_congr fun i k hi hk => (eR i k hi hk)).symm
  sgn := h.sgn
  tri := fun i hi hn => by rw [← e i hn]; exact h.tri i hi hn
  piv := fun i hi hn => by rw [← eR i i hn hn]; exact h.piv i hi hn
  mB := fun r hr => by rw [← e r hr]; exact h.mB r hr
  ex := by
    obtain ⟨A', h1, h2⟩ := h.ex
    refine ⟨A', h1, fun r hr => ?_⟩
    obtain ⟨z, x, hx⟩ := h2 r hr
    have le := (h.mB r hr).2
    refine ⟨fun c hc => ?_, x, fun c hc => ?_⟩
    · rw [← e r hr] at hc
      rw [← eR r c hr (by omega)]
      exact z c hc
    · rw [← eR r c hr hc, ← e r hr]
      exact hx c hc
theorem FE.lead {n k : Nat} {m : Nat → Nat} {A R A' : Mx} {s : Rat} (h : FE n k m A R s) (h2 : ∀ r, r < n → (∀ c, c < m r → R r c = 0) ∧ ∃ x : Nat → Rat, ∀ c, c < n → R r c = A' r c - sumN (m r) fun l => x l * A' l c) : ∀ j, j ≤ k → j ≤ n → det j A' = prodU j fun i => R i i
  | 0, _, _ => rfl
  | j + 1, hj, hn => by
    obtain ⟨z, x, hx⟩ := h2 j (by omega)
    have e := h.tri j (by omega) (by omega)
    rw [e] at z hx
    rw [det_border x fun c hc => by
      have := hx c (by omega)
      rw [z c hc] at this
      grind, FE.lead h h2 j (by omega) (by omega)]
    show (A' j j - sumN j fun l => x l * A' l j) * prodU j (fun i => R i i) = prodU j (fun i => R i i) * R j j
    rw [← hx j (by omega), Rat.mul_comm]
/-- each number is a determinant over another one -/
theorem FE.quot {n k : Nat} {m : Nat → Nat} {A R : Mx} {s : Rat} (h : FE n k m A R s) {r c : Nat} (hr : r < n) (hc : c < n) : ∃ (j : Nat) (B C : Mx), j ≤ r ∧ (∀ i l, i < j + 1 → l < j + 1 → ∃ i' l', i' < n ∧ l' < n ∧ B i l = A i' l') ∧ (∀ i l, i < j → l < j → ∃ i' l', i' < n ∧ l' < n ∧ C i l = A i' l') ∧ det j C ≠ 0 ∧ R r c = det (j + 1) B / det j C := by
  obtain ⟨A', h1, h2⟩ := h.ex
  obtain ⟨z, x, hx⟩ := h2 r hr
  have hm := h.mB r hr
  refine ⟨m r, fun i l => A' (if i < m r then i else r) (if l < m r then l else c), A', hm.2, fun i l _ _ => ?_, fun i l hi hl => ?_, ?_, ?_⟩
  · obtain ⟨r', hr', e⟩ := h1 (if i < m r then i else r) (if l < m r then l else c) (by split <;> omega) (by split <;> omega)
    exact ⟨r', _, hr', by split <;> omega, e⟩
  · obtain ⟨r', hr', e⟩ := h1 i l (by omega) (by omega)
    exact ⟨r', l, hr', by omega, e⟩
  · rw [h.lead h2 (m r) hm.1 (by omega)]
    exact prodU_ne fun i hi => h.piv i (by omega) (by omega)
  · have e0 : det (m r) A' ≠ 0 := by
      rw [h.lead h2 (m r) hm.1 (by omega)]
      exact prodU_ne fun i hi => h.piv i (by omega) (by omega)
    have b := det_border (n := m r) (A := fun i l => A' (if i < m r then i else r) (if l < m r then l else c)) x fun l hl => by
      show A' (if m r < m r then m r else r) (if l < m r then l else c) = sumN (m r) fun i => x i * A' (if i < m r then i else r) (if l < m r then l else c)
      rw [if_neg (by omega), if_pos hl]
      have := hx l (by omega)
      rw [z l hl] at this
      rw [sumN_congr (n := m r) (g := fun i => x i * A' i l) fun i hi => by rw [if_pos hi]]
      grind
    rw [b]
    have e1 : det (m r) (fun i l => A' (if i < m r then i else r) (if l < m r then l else c)) = det (m r) A' := det_congr fun i l hi hl => by rw [if_pos hi, if_pos hl]
    rw [e1]
    show R r c = (A' (if m r < m r then m r else r) (if m r < m r then m r else c) - sumN (m r) fun i => x i * A' (if i < m r then i else r) (if m r < m r then m r else c)) * det (m r) A' / det (m r) A'
    rw [if_neg (by omega), if_neg (by omega), sumN_congr (n := m r) (g := fun i => x i * A' i c) fun i hi => by rw [if_pos hi], ← hx c hc]
    grind
theorem FE.swap {n k f : Nat} {A R : Mx} {s : Rat} (h : FE n k (fun r => min r k) A R s) (hk : k < n) (hf : f < n) (hkf : k < f) : FE n k (fun r => min r k) A (swapR R k f) (-s) where
  dR := by rw [det_swap R hk hf (by omega), h.dR]; grind
  sgn := by rcases h.sgn with e | e <;> rw [e]; exact .inr rfl; exact .inl rfl
  tri := h.tri
  piv := fun i hi hn => by
    unfold swapR
    rw [if_neg (by omega), if_neg (by omega)]
    exact h.piv i hi hn
  mB := h.mB
  ex := by
    obtain ⟨A', h1, h2⟩ := h.ex
    refine ⟨swapR A' k f, fun r c hr hc => ?_, fun r hr => ?_⟩
    · unfold swapR
      exact h1 _ c (by split; omega; split <;> omega) hc
    · have keep : ∀ (x : Nat → Rat) (j c : Nat), j ≤ k → sumN j (fun l => x l * swapR A' k f l c) = sumN j (fun l => x l * A' l c) := fun x j c hj => sumN_congr fun l hl => by
        unfold swapR
        rw [if_neg (by omega), if_neg (by omega)]
      have row : ∀ r', r' < n → min r' k = min r k → (∀ c, c < n → swapR R k f r c = R r' c) → (∀ c, c < n → swapR A' k f r c = A' r' c) → (∀ c, c < min r k → swapR R k f r c = 0) ∧ ∃ x : Nat → Rat, ∀ c, c < n → swapR R k f r c = swapR A' k f r c - sumN (min r k) fun l => x l * swapR A' k f l c := fun r' hr' em e1 e2 => by
        obtain ⟨z, x, hx⟩ := h2 r' hr'
        have z : ∀ c, c < min r' k → R r' c = 0 := z
        have hx : ∀ c, c < n → R r' c = A' r' c - sumN (min r' k) fun l => x l * A' l c := hx
        rw [em] at z hx
        refine ⟨fun c hc => by rw [e1 c (by omega)]; exact z c hc, x, fun c hc => ?_⟩
        rw [e1 c hc, e2 c hc, keep x _ c (by omega)]
        exact hx c hc
      by_cases a : r = k
      · subst a
        exact row f hf (by omega) (fun c _ => by unfold swapR; rw [if_pos rfl]) (fun c _ => by unfold swapR; rw [if_pos rfl])
      · by_cases b : r = f
        · subst b
          exact row k hk (by omega) (fun c _ => by unfold swapR; rw [if_neg a, if_pos rfl]) (fun c _ => by unfold swapR; rw [if_neg a, if_pos rfl])
        · exact row r hr rfl (fun c _ => by unfold swapR; rw [if_neg a, if_neg b]) (fun c _ => by unfold swapR; rw [if_neg a, if_neg b])
/-- the rows below the pivot, those ahead of j done -/
def feM (k j : Nat) : Nat → Nat := fun r => if r < j then min r (k + 1) else min r k
theorem FE.enter {n k : Nat} {A R : Mx} {s : Rat} (h : FE n k (fun r => min r k) A R s) (hk : k < n) (hp : R k k ≠ 0) : FE n (k + 1) (feM k (k + 1)) A R s where
  dR := h.dR
  sgn := h.sgn
  tri := fun i hi hn => by unfold feM; rw [if_pos hi]; omega
  piv := fun i hi hn => by
    by_cases e : i = k
    · rw [e]; exact hp
    · exact h.piv i (by omega) hn
  mB := fun r hr => by unfold feM; split <;> omega
  ex := by
    obtain ⟨A', h1, h2⟩ := h.ex
    refine ⟨A', h1, fun r hr => ?_⟩
    have e : feM k (k + 1) r = min r k := by unfold feM; split <;> omega
    rw [e]
    exact h2 r hr
theorem FE.leave {n k : Nat} {A R : Mx} {s : Rat} (h : FE n (k + 1) (feM k n) A R s) : FE n (k + 1) (fun r => min r (k + 1)) A R s :=
  h.congr (fun r hr => by unfold feM; rw [if_pos hr]) fun _ _ _ _ => rfl
theorem FE.row {n k j : Nat} {A R : Mx} {s : Rat} (h : FE n (k + 1) (feM k j) A R s) (hj : k < j) (hn : j < n) : FE n (k + 1) (feM k (j + 1)) A (setR R j fun c => R j c + -(R j k / R k k) * R k c) s := by
  have hp := h.piv k (by omega) (by omega)
  obtain ⟨A', h1, h2⟩ := h.ex
  have ej : feM k j j = k := by unfold feM; rw [if_neg (by omega)]; omega
  have ek : feM k j k = k := by unfold feM; rw [if_pos hj]; omega
  obtain ⟨zj, xj, hxj⟩ := h2 j hn
  obtain ⟨zk, xk, hxk⟩ := h2 k (by omega)
  rw [ej] at zj hxj
  rw [ek] at zk hxk
  refine ⟨?_, h.sgn, fun i hi hn2 => ?_, fun i hi hn2 => ?_, fun r hr => ?_, A', h1, fun r hr => ?_⟩
  · rw [det_addOne R _ hn (by omega) (by omega)]
    exact h.dR
  · have := h.tri i hi hn2
    unfold feM at this ⊢
    rw [if_pos (by omega)] at this ⊢
    exact this
  · rw [setR_ne (by omega)]
    exact h.piv i hi hn2
  · unfold feM
    split <;> omega
  · by_cases e : r = j
    · subst e
      have em : feM k (r + 1) r = k + 1 := by unfold feM; rw [if_pos (by omega)]; omega
      rw [em]
      refine ⟨fun c hc => ?_, fun l => if l = k then R r k / R k k else xj l - R r k / R k k * xk l, fun c hc => ?_⟩
      · rw [setR_same]
        by_cases ck : c = k
        · subst ck
          grind
        · rw [zj c (by omega), zk c (by omega)]
          grind
      · rw [setR_same, hxj c hc, hxk c hc]
        have es : sumN (k + 1) (fun l => (if l = k then R r k / R k k else xj l - R r k / R k k * xk l) * A' l c) = sumN k (fun l => xj l * A' l c) + -(R r k / R k k) * sumN k (fun l => xk l * A' l c) + R r k / R k k * A' k c := by
          show sumN k _ + (if k = k then R r k / R k k else _) * A' k c = _
          rw [if_pos rfl, ← sumN_left, ← sumN_add]
          congr 1
          refine sumN_congr fun l hl => ?_
          rw [if_neg (by omega)]
          grind
        rw [es]
        grind
    · obtain ⟨z, x, hx⟩ := h2 r hr
      have em : feM k (j + 1) r = feM k j r := by
        unfold feM
        by_cases l : r < j
        · rw [if_pos l, if_pos (by omega)]
        · rw [if_neg l, if_neg (by omega)]
      rw [em]
      exact ⟨fun c hc => by rw [setR_ne e]; exact z c hc, x, fun c hc => by rw [setR_ne e]; exact hx c hc⟩
/-- a row that has a nought there already -/
theorem FE.skip {n k j : Nat} {A R : Mx} {s : Rat} (h : FE n (k + 1) (feM k j) A R s) (hj : k < j) (hn : j < n) (z0 : R j k = 0) : FE n (k + 1) (feM k (j + 1)) A R s := by
  refine (h.row hj hn).congr (fun _ _ => rfl) fun r c hr hc => ?_
  by_cases e : r = j
  · subst e
    rw [setR_same, z0]
    grind
  · rw [setR_ne e]
theorem FE.end_ {n : Nat} {A R : Mx} {s : Rat} (h : FE n n (fun r => min r n) A R s) : s * prodU n (fun i => R i i) = det n A := by
  obtain ⟨A', _, h2⟩ := h.ex
  have u : det n R = prodU n fun i => R i i := det_upper fun r c hr hc => (h2 r hr).1 c (by show c < min r n; omega)
  rw [← u, h.dR]
  rcases h.sgn with e | e <;> rw [e] <;> grind
theorem FE.none {n k : Nat} {A R : Mx} {s : Rat} (h : FE n k (fun r => min r k) A R s) (hk : k < n) (z : ∀ r, k ≤ r → r < n → R r k = 0) : det n A = 0 := by
  obtain ⟨A', _, h2⟩ := h.ex
  have u : det n R = 0 := det_block0 hk fun r c hr hr2 hc => by
    by_cases e : c = k
    · rw [e]; exact z r hr hr2
    · exact (h2 r hr2).1 c (by show c < min r k; omega)
  have := h.dR
  rw [u] at this
  rcases h.sgn with e | e <;> rw [e] at this <;> grind
/-- how great a determinant is -/
theorem bq_isI : ∀ {m : Nat} {k : Nat} {A : Mx}, (∀ i l, i < m → l < m → BQ k (A i l)) → ∃ D : Nat → Nat, (∀ i, i < m → D i ≠ 0 ∧ D i ≤ 2 ^ (k * m)) ∧ ∀ i l, i < m → l < m → IB (2 ^ (k * (m + 1))) ((D i : Rat) * A i l) := by
  intro m k A h
  refine ⟨fun i => lcmL 1 ((List.range m).map fun l => A i l), fun i hi => ⟨lcmL_pos _ 1 (by decide), ?_⟩, fun i l hi hl => ?_⟩
  · have := lcmL_lt (k := k) ((List.range m).map fun l => A i l) 1 0 (by decide) (by decide) fun q hq => by
      obtain ⟨l, hl, rfl⟩ := List.mem_map.mp hq
      exact h i l hi (List.mem_range.mp hl)
    rw [Nat.zero_add, List.length_map, List.length_range] at this
    exact this
  · have hb := lcmL_lt (k := k) ((List.range m).map fun l => A i l) 1 0 (by decide) (by decide) fun q hq => by
      obtain ⟨l, hl, rfl⟩ := List.mem_map.mp hq
      exact h i l hi (List.mem_range.mp hl)
    rw [Nat.zero_add, List.length_map, List.length_range] at hb
    have hd := (lcmL_dvd ((List.range m).map fun l => A i l) 1).2 (A i l) (List.mem_map.mpr ⟨l, List.mem_range.mpr hl, rfl⟩)
    have h0 : lcmL 1 ((List.range m).map fun l => A i l) ≠ 0 := lcmL_pos _ 1 (by decide)
    refine ⟨wholeN (lcmL 1 ((List.range m).map fun l => A i l)) (A i l), (wholeN_val h0 hd).symm, ?_⟩
    have := whole_lt (h i l hi hl) hb
    rw [show k + k * m = k * (m + 1) by rw [Nat.mul_succ]; omega] at this
    exact Nat.le_of_lt this
theorem prodN_nat : ∀ {m : Nat} {D : Nat → Nat} {b : Nat}, (∀ i, i < m → D i ≠ 0 ∧ D i ≤ 2 ^ b) → ∃ p : Nat, prodN m (fun i => (D i : Rat)) = (p : Rat) ∧ p ≠ 0 ∧ p ≤ 2 ^ (b * m)
  | 0, _, _, _ => ⟨1, rfl, by decide, by simp⟩
  | m + 1, D, b, h => by
    obtain ⟨p, e, p0, pl⟩ := prodN_nat (m := m) (D := fun i => D (i + 1)) (b := b) fun i hi => h (i + 1) (by omega)
    obtain ⟨d0, dl⟩ := h 0 (by omega)
    refine ⟨D 0 * p, ?_, Nat.mul_ne_zero d0 p0, ?_⟩
    · show (D 0 : Rat) * prodN m (fun i => (D (i + 1) : Rat)) = _
      rw [e]
      exact (by push_cast; rfl)
    · rw [Nat.mul_succ, Nat.add_comm, Nat.pow_add]
      exact Nat.mul_le_mul dl pl
theorem bq_detB {m k : Nat} {A : Mx} (hm : m ≤ 5) (h : ∀ i l, i < m → l < m → BQ k (A i l)) : BQ (30 * k + 8) (det m A) := by
  obtain ⟨D, hD, hI⟩ := bq_isI h
  obtain ⟨p, ep, p0, pl⟩ := prodN_nat hD
  have e := det_scale m (fun i => (D i : Rat)) A
  rw [ep] at e
  obtain ⟨z, hz, zl⟩ := ib_det (A := fun r c => (D r : Rat) * A r c) hI
  rw [e] at hz
  have hq : det m A = Rat.divInt z p := by
    rw [Rat.divInt_eq_div]
    have hz : (p : Rat) * det m A = (z : Rat) := hz
    have p0 : (p : Rat) ≠ 0 := fun x => p0 (by exact_mod_cast x)
    show det m A = (z : Rat) / (p : Rat)
    grind
  rw [hq]
  have hm2 : m * (m + 1) ≤ 30 := Nat.le_trans (Nat.mul_le_mul hm (show m + 1 ≤ 6 by omega)) (by decide)
  refine divInt_bits (by omega) ?_ ?_
  · refine Nat.lt_of_le_of_lt zl ?_
    rw [← Nat.pow_mul]
    have h1 : 2 ^ (k * (m + 1) * m) ≤ 2 ^ (30 * k) := Nat.pow_le_pow_right (by decide) (by
      have := Nat.mul_le_mul_left k hm2
      have e : k * (m + 1) * m = k * (m * (m + 1)) := by rw [Nat.mul_assoc, Nat.mul_comm (m + 1) m]
      rw [e]
      omega)
    rw [Nat.pow_add, Nat.mul_comm (2 ^ (30 * k))]
    exact Nat.lt_of_le_of_lt (Nat.mul_le_mul (facQ5 hm) h1) (Nat.mul_lt_mul_of_pos_right (by decide) (Nat.two_pow_pos _))
  · rw [Int.natAbs_natCast]
    refine Nat.lt_of_le_of_lt pl (Nat.pow_lt_pow_right (by decide) ?_)
    have e : k * m * m = k * (m * m) := Nat.mul_assoc ..
    have := Nat.mul_le_mul_left k (show m * m ≤ 30 from Nat.le_trans (Nat.mul_le_mul hm hm) (by decide))
    rw [e]
    omega
theorem FE.bits {n k b : Nat} {m : Nat → Nat} {A R : Mx} {s : Rat} (h : FE n k m A R s) (h5 : n ≤ 5) (hb : ∀ i l, i < n → l < n → BQ b (A i l)) {r c : Nat} (hr : r < n) (hc : c < n) : BQ (60 * b + 16) (R r c) := by
  obtain ⟨j, B, C, hj, hB, hC, h0, e⟩ := h.quot hr hc
  rw [e]
  have b1 : BQ (30 * b + 8) (det (j + 1) B) := bq_detB (by omega) fun i l hi hl => by
    obtain ⟨i', l', h1, h2, e⟩ := hB i l hi hl
    rw [e]; exact hb i' l' h1 h2
  have b2 : BQ (30 * b + 8) (det j C) := bq_detB (by omega) fun i l hi hl => by
    obtain ⟨i', l', h1, h2, e⟩ := hC i l hi hl
    rw [e]; exact hb i' l' h1 h2
  exact (b1.div b2 h0).mono (by omega)
theorem FE.prod {n k b : Nat} {m : Nat → Nat} {A R : Mx} {s : Rat} (h : FE n k m A R s) (h5 : n ≤ 5) (hb : ∀ i l, i < n → l < n → BQ b (A i l)) (hk : k ≤ n) {j : Nat} (hj : j ≤ k) : BQ (30 * b + 8) (s * prodU j fun i => R i i) := by
  obtain ⟨A', h1, h2⟩ := h.ex
  rw [← h.lead h2 j hj (by omega)]
  have b1 : BQ (30 * b + 8) (det j A') := bq_detB (by omega) fun i l hi hl => by
    obtain ⟨r', hr', e⟩ := h1 i l (by omega) (by omega)
    rw [e]; exact hb r' l hr' (by omega)
  rcases h.sgn with e | e
  · rw [e, Rat.one_mul]; exact b1
  · rw [e]
    have : (-1 : Rat) * det j A' = -det j A' := by grind
    rw [this]; exact b1.neg
end DL
namespace DL
def mixR (u : List Rat) (x : Rat) (v : List Rat) : List Rat := List.zipWith (fun p q => p + x * q) u v
def mixM (a : List (List Rat)) (x : Rat) (b : List (List Rat)) : List (List Rat) := List.zipWith (fun u v => mixR u x v) a b
theorem mixR_range {n : Nat} {u v : List Rat} {x : Rat} (hu : u.length = n) (hv : v.length = n) : mixR u x v = (List.range n).map fun c => u.getD c 0 + x * v.getD c 0 := by
  refine List.ext_getElem (by unfold mixR; rw [List.length_zipWith, hu, hv, Nat.min_self, List.length_map, List.length_range]) fun i h1 h2 => ?_
  simp only [mixR, List.getElem_zipWith, List.getElem_map, List.getElem_range]
  have h2 : i < n := by simpa using h2
  rw [getD_lt (by omega), getD_lt (by omega)]
theorem mix_sub {a b : List (List Rat)} : mixM a (-1) b = subM a b := by
  unfold mixM subM mixR subR
  congr 1
  funext u v
  congr 1
  funext p q
  grind
theorem mixM_sq {n : Nat} {a b : List (List Rat)} {x : Rat} (ha : Sq n a) (hb : Sq n b) : Sq n (mixM a x b) := ⟨by unfold mixM; rw [List.length_zipWith, ha.1, hb.1, Nat.min_self], fun r hr => by
  unfold mixM at hr
  rw [← zip_mapW] at hr
  obtain ⟨p, hp, rfl⟩ := List.mem_map.mp hr
  show (mixR p.1 x p.2).length = n
  unfold mixR
  rw [List.length_zipWith, ha.2 _ (List.of_mem_zip hp).1, hb.2 _ (List.of_mem_zip hp).2, Nat.min_self]⟩
end DL
-- DTK
set_option maxRecDepth 100000
namespace DL
open PySem PySem.Spec PyProof.Rows L2
/-! a list of lists of fractions that may change -/
def RL (R : List (List Rat)) : List D := R.map fun r => D.lst (r.map frD)
theorem RL_len {R : List (List Rat)} : (RL R).length = R.length := List.length_map _
theorem ixn {n j : Nat} (hj : j < n) : L2.ixN n (j : Int) = some j := by
  unfold L2.ixN
  rw [if_pos (by omega), if_pos (by omega), Int.toNat_natCast]
theorem x_RL {μ : Mem} {p : Addr} {R : List (List Rat)} {i : Nat} {Q : DK} (h : μ p = some (RL R)) (hi : i < R.length) (q : Q (.lst ((R.getD i []).map frD)) μ) : dIx (.ref p) (.int (i : Int)) μ Q := by
  refine x_ixR (ds := RL R) (e := .lst ((R.getD i []).map frD)) h (atI_nat (j := i) ?_) q
  unfold RL
  rw [List.getElem?_map, List.getElem?_eq_getElem hi, getD_lt hi]
  rfl
theorem x_le' {μ : Mem} {r : List Rat} {k : Nat} {Q : DK} (hk : k < r.length) (q : Q (frD (r.getD k 0)) μ) : dIx (.lst (r.map frD)) (.int (k : Int)) μ Q := by
  refine x_ixL (ds := r.map frD) (e := frD (r.getD k 0)) (atI_nat (j := k) ?_) q
  rw [List.getElem?_map, List.getElem?_eq_getElem hk, getD_lt hk]
  rfl
theorem RL_set {R : List (List Rat)} {i : Nat} {r : List Rat} : (RL R).set i (.lst (r.map frD)) = RL (R.set i r) := by
  unfold RL
  rw [List.map_set]
theorem bits_ent {n k i l : Nat} {t : List (List Rat)} (h : Sq n t) (hb : Bits k t) (hi : i < n) (hl : l < n) : BQ k (ent t i l) := by
  have r := h.row hi
  unfold ent
  rw [getD_lt (by rw [r]; exact hl)]
  refine hb _ ?_ _ (List.getElem_mem _)
  rw [getD_lt (by rw [h.1]; exact hi)]
  exact List.getElem_mem _
def swapQ (R : List (List Rat)) (i j : Nat) : List (List Rat) := (R.set i (R.getD j [])).set j (R.getD i [])
theorem swapQ_sq {n i j : Nat} {R : List (List Rat)} (h : Sq n R) (hi : i < n) (hj : j < n) : Sq n (swapQ R i j) := ⟨by unfold swapQ; rw [List.length_set, List.length_set, h.1], fun r hr => by
  rcases List.mem_or_eq_of_mem_set hr with g | g
  · rcases List.mem_or_eq_of_mem_set g with g | g
    · exact h.2 r g
    · rw [g]; exact h.row hj
  · rw [g]; exact h.row hi⟩
theorem swapQ_ent {n i j r c : Nat} {R : List (List Rat)} (h : Sq n R) (hi : i < n) (hj : j < n) (hr : r < n) : ent (swapQ R i j) r c = swapR (ent R) i j r c := by
  unfold ent swapQ swapR
  rw [getD_set (by rw [List.length_set, h.1]; exact hr), getD_set (by rw [h.1]; exact hr)]
  by_cases a : r = j
  · subst a
    by_cases b : r = i
    · subst b
      rw [if_pos rfl, if_pos rfl]
    · rw [if_pos rfl, if_neg b, if_pos rfl]
  · rw [if_neg a]
    by_cases b : r = i
    · subst b
      rw [if_pos rfl, if_pos rfl]
    · rw [if_neg b, if_neg b, if_neg a]
theorem setQ_sq {n i : Nat} {R : List (List Rat)} {x : List Rat} (h : Sq n R) (hx : x.length = n) : Sq n (R.set i x) := ⟨by rw [List.length_set, h.1], fun r hr => by
  rcases List.mem_or_eq_of_mem_set hr with g | g
  · exact h.2 r g
  · rw [g]; exact hx⟩
theorem setQ_ent {n i r c : Nat} {R : List (List Rat)} {x : List Rat} (h : Sq n R) (hr : r < n) : ent (R.set i x) r c = setR (ent R) i (fun c => x.getD c 0) r c := by
  unfold ent setR
  rw [getD_set (by rw [h.1]; exact hr)]
  by_cases b : r = i
  · rw [if_pos b, if_pos b]
  · rw [if_neg b, if_neg b]
theorem neg_divInt (q : Rat) : Rat.divInt (0 - q.num) (q.den : Int) = -q := by
  have h := divInt_self' (-q)
  rw [Rat.neg_num, Rat.neg_den] at h
  rw [Int.zero_sub]
  exact h
theorem x_iRngAB {ta : TDA} {δ : DSt} {μ : Mem} {Q : List D → Mem → Prop} (k : ta δ μ fun ds μ1 => ∃ m n : Int, ds = [.int m, .int n] ∧ (n ≤ 1000000 ∧ -1000000 ≤ n ∧ m ≤ 1000000 ∧ -1000000 ≤ m) ∧ Q ((List.range (n - m).toNat).map fun i : Nat => .int (m + (i : Int))) μ1) : iRngAB ta δ μ Q := k
theorem rngAB' {a b : Nat} : (List.range ((b : Int) - (a : Int)).toNat).map (fun i : Nat => D.int ((a : Int) + (i : Int))) = (List.range' a (b - a)).map fun k : Nat => D.int (k : Int) := by
  have e : ((b : Int) - (a : Int)).toNat = b - a := by omega
  rw [e]
  refine List.ext_getElem (by simp) fun i h1 h2 => ?_
  simp
theorem x_rab {a b : Nat} {R : Int → Int → Prop} (ha : a ≤ 1000000) (hb : b ≤ 1000000) (k : R a b) : ∃ m n : Int, [D.int (a : Int), D.int (b : Int)] = [.int m, .int n] ∧ (n ≤ 1000000 ∧ -1000000 ≤ n ∧ m ≤ 1000000 ∧ -1000000 ≤ m) ∧ R m n :=
  ⟨_, _, rfl, ⟨by omega, by omega, by omega, by omega⟩, k⟩
theorem x_varR {i : Nat} {δ : DSt} {μ : Mem} {d : D} {Q : DK} (h : δ[i]? = some (some d)) (q : Q d μ) : dVar i δ μ Q := ⟨d, h, q⟩
theorem pl_ints {xs : List Nat} : pl 1 (.lst (xs.map fun k : Nat => D.int (k : Int))) = true := List.all_eq_true.mpr fun x hx => by
  obtain ⟨q, _, rfl⟩ := List.mem_map.mp hx
  rfl
theorem Bits.mono {j k : Nat} {t : List (List Rat)} (h : Bits j t) (hk : j ≤ k) : Bits k t := fun r hr q hq =>
  ⟨Nat.lt_of_lt_of_le (h r hr q hq).1 (Nat.pow_le_pow_right (by decide) hk), Nat.lt_of_lt_of_le (h r hr q hq).2 (Nat.pow_le_pow_right (by decide) hk)⟩
end DL
-- DTL
set_option maxRecDepth 100000
set_option maxHeartbeats 1000000
/-! enumerate of a list or a tuple -/
namespace ZN
open PySem PySem.Spec PyProof.Rows L2
theorem meets_enumT (l : Addr) (items : Array Value) (n : Nat) (dct : Option Addr) (sl : Array (Option Value)) :
    Meets (Builtin.«enumerate.__new__» ⟨[.type "enumerate", .ref l], []⟩) (fun _ R s => s.heap.get? l = some { cls := .type "tuple", dict := dct, data := .seq items n, slots := sl } ∧
      R (.ok (.ret (.ref (s.heap.push { cls := .type "tuple_iterator", data := .fields #[.ref l, .int 0 0] }).objs.size)))
        { s with heap := (s.heap.push { cls := .type "tuple_iterator", data := .fields #[.ref l, .int 0 0] }).push { cls := .type "enumerate", data := .fields #[.none, .bool false, .ref s.heap.objs.size, rawInt 0, .none, .none] } }) :=
  .of_wp fun prog w A R s h => by
    obtain ⟨hp, g, d, tk, os⟩ := s; obtain ⟨hl, h⟩ := h
    have hsub := sub_enumerate
    have hL : Heap.IsTuple (Shared.heap ⟨hp, g, d, tk, os⟩) l items := ⟨_, hl, rfl, n, rfl⟩
    wp_walk using AutoSeq1.wpAny_loadPart' hl
    refine wpAny_stack_any fun st => wpAny_pure ?_
    split
    · rename_i c _ _ _ _ _
      cases (c == Value.type "enumerate")
      · wp_walk using AutoSeq1.wpAny_loadPart' hl, wpAny_pyIter_tuple hL
        exact ⟨_, rfl, h⟩
      · wp_walk using AutoSeq1.wpAny_loadPart' hl, wpAny_pyIter_tuple hL
        exact ⟨_, rfl, h⟩
    · wp_walk using AutoSeq1.wpAny_loadPart' hl, wpAny_pyIter_tuple hL
      exact ⟨_, rfl, h⟩
section
variable {prog : Program} {w : World} {A : Around} {E : Value → Shared → Prop} {s : Shared}
theorem call_enumT {l : Addr} {items : Array Value} {Q : Value → Shared → Prop} (hL : s.heap.IsTuple l items)
    (h : ∀ h', IsEnum h' (s.heap.objs.size + 1) s.heap.objs.size 0 .none → h'.IsTupleIter s.heap.objs.size l 0 → h'.objs.size = s.heap.objs.size + 2 →
      (∀ b o, s.heap.get? b = some o → h'.get? b = some o) → Q (.ref (s.heap.objs.size + 1)) { s with heap := h' }) :
    wpAny (model prog w) A (call (.type "enumerate") [.ref l]) Q E s := by
  obtain ⟨⟨c, dct, dt, sl⟩, hl, hc, n, hd⟩ := hL
  replace hc : c = .type "tuple" := hc
  replace hd : dt = .seq items n := hd
  subst hc hd
  refine callType_new F.called_enumerate (by decide) (F.typeCall_enumerate_1 _) (F.newCall_enumerate_1 _) (fun obj => F.args_object_init_2 obj _) F.entry_enumerate_new
    (meets_enumT l items n dct sl) ⟨hl, ?_⟩
  have hz : (s.heap.push { cls := .type "tuple_iterator", data := .fields #[.ref l, .int 0 0] }).objs.size = s.heap.objs.size + 1 := Heap.size_push ..
  show _ ∧ _
  rw [hz]
  have he : IsEnum ((s.heap.push { cls := .type "tuple_iterator", data := .fields #[.ref l, .int 0 0] }).push
      { cls := .type "enumerate", data := .fields #[.none, .bool false, .ref s.heap.objs.size, rawInt 0, .none, .none] }) (s.heap.objs.size + 1) s.heap.objs.size 0 .none := by
    have := Heap.get?_push_size (s.heap.push { cls := .type "tuple_iterator", data := .fields #[.ref l, .int 0 0] })
      (o := { cls := .type "enumerate", data := .fields #[.none, .bool false, .ref s.heap.objs.size, rawInt 0, .none, .none] }) rfl
    rw [hz] at this; exact this
  refine ⟨⟨_, he, rfl⟩, h _ he ⟨_, Heap.get?_push_of_some _ (Heap.get?_push_size _ rfl), rfl, rfl⟩ (by rw [Heap.size_push, hz]) fun b o x => Heap.get?_push_of_some _ (Heap.get?_push_of_some _ x)⟩
end
def IteX (K : PySem.W.Frag) (b : Bool) (a : Addr) : It :=
  ⟨fun i H => ∃ (xs : List V) (x : V), SqB b K H a xs ∧ xs[i]? = some x, fun i H v H' => ∃ T x, v = .ref T ∧ H T = none ∧ H' = upd H T (.tup [.int (i : Nat), x]) ∧ ∀ xs, SqB b K H a xs → xs[i]? = some x, fun i H => ∃ xs : List V, SqB b K H a xs ∧ xs.length = i⟩
theorem turn_enumX {P : Program} {w : World} {K : PySem.W.Frag} {b : Bool} {elts : List Expr} {kk : Nat} {tpos : Pos} (a e it : Addr) (hei : e ≠ it) (hai : a ≠ it) (hea : e ≠ a) :
    Turn P w K (.Tuple elts kk tpos) (IteX K b a) [e, it] e (fun i h => (∃ old, IsEnum h e it ((i : Nat) : Int) old) ∧ SubIt b h it a i) where
  mem := by simp
  obj := fun i h st c hb => by
    obtain ⟨⟨old, he⟩, hi⟩ := st
    have e' : c = e ∨ c = it := by simpa using hb
    rcases e' with z | z
    · rw [z]; exact ⟨_, he, fun v q => nomatch q⟩
    · rw [z]; exact subIt_obj hi
  keep := fun i h h' st k => let ⟨⟨old, he⟩, hi⟩ := st; ⟨⟨old, k e (by simp) _ he⟩, hi.at fun o q => k it (by simp) o q⟩
  item := by
    intro X hP hw hK hc i pins s σ H E I hf st hg
    subst hP hw hK
    obtain ⟨⟨old, he⟩, hit⟩ := st
    obtain ⟨xs, x, hq, hx⟩ := hg
    obtain ⟨its, rv, p⟩ := sqB_its I hq
    obtain ⟨u, hu, ru⟩ := rv.get hx
    have hel : e < s.heap.objs.size := Heap.lt_size he
    have hil : it < s.heap.objs.size := by obtain ⟨_, q, _⟩ := subIt_obj hit; exact Heap.lt_size q
    have hhd : X.A.in1.handled = none := I.ok.hd hc
    have L1 : i < its.toArray.size := by
      rcases Nat.lt_or_ge i its.toArray.size with q | q
      · exact q
      · have : its.length ≤ i := by simpa using q
        rw [List.getElem?_eq_none this] at hu
        cases hu
    refine wpAny_pyNext_enum_itemC (drawsB b hhd it a hai its.toArray) he ⟨hit, p⟩ L1 hei (by simp; exact ⟨hei, hea⟩) fun y h' tk e1 ho hit' hT hsz hk => ?_
    have e1 : u = y := by
      have e1 : its.toArray[i]? = some y := e1
      have : its[i]? = some y := by simpa using e1
      rw [hu] at this
      exact Option.some.inj this
    subst e1
    refine ⟨_, rfl, wpAny_letOwnedTupleGo_enum (s := { s with heap := h', toks := tk + 1 }) ho fun h'' he' sb => ?_⟩
    have hT2 : h''.get? s.heap.objs.size = some { cls := .type "tuple", data := .seq #[.int i tk, u] } := (sb.2 _ (Nat.ne_of_gt hel)).trans hT
    have new : ObjOk X.prog X.w (upd H s.heap.objs.size (.tup [.int (i : Nat), x])) h'' s.heap.objs.size (.tup [.int (i : Nat), x]) :=
      ⟨by show 2 ≤ sizeLine; decide, [.int i tk, u], .cons ⟨_, rfl⟩ (.cons ru .nil), ⟨_, hT2, rfl, _, rfl⟩⟩
    have I1 : Inv X pins σ (upd H s.heap.objs.size (.tup [.int (i : Nat), x])) { s with heap := h'', toks := tk + 1 } :=
      I.turnedNew (ch := [e, it]) (fun b ob hb q => (sb.2 b (fun z => hb (by simp [z]))).trans (hk b ob (fun z => hb (by simp [z])) (fun z => hb (by simp [z])) q)) hf (Nat.le_refl _) new
    refine ⟨.ref s.heap.objs.size, _, I1, rfl, ⟨_, x, rfl, I.hok.fresh (Nat.le_refl _), rfl, fun ys hy => by rw [sqB_inj I hy hq]; exact hx⟩, ⟨⟨u, ?_⟩, hit'.1.at fun o q => (sb.2 it (Ne.symm hei)).trans q⟩, fun c hb => ?_⟩
    · have e1 : ((i + 1 : Nat) : Int) = (i : Int) + 1 := by omega
      rw [e1]; exact he'
    · have hb' : c < s.heap.objs.size := by
        have e' : c = e ∨ c = it := by simpa using hb
        rcases e' with z | z
        · rw [z]; exact hel
        · rw [z]; exact hil
      rw [upd_ne (Nat.ne_of_lt hb')]
      exact (hf c hb).1
  done := by
    intro X hP hw hK hc i pins s σ H E I hf st hg
    subst hP hw hK
    obtain ⟨⟨old, he⟩, hit⟩ := st
    obtain ⟨xs, hq, hx⟩ := hg
    obtain ⟨its, rv, p⟩ := sqB_its I hq
    obtain ⟨f0, f1, f2, f3, f4, f5⟩ := hf it (by simp)
    have hl := rv.length
    have hhd : X.A.in1.handled = none := I.ok.hd hc
    have z1 : its.toArray.size = i := by simp; omega
    refine wpAny_pyNext_enum_endD (drawsB b hhd it a hai its.toArray) he ⟨by rw [z1]; exact hit, p⟩ fun h' eb => ⟨rfl, I.turned (t' := s.toks) (fun b o hb q => eb b o hb q) f0 f1 f3 f4 f5⟩
  self := fun A i s Q E st h => let ⟨⟨_, he⟩, _⟩ := st; wpAny_pyIter_enum he h
def iEnumB (K : PySem.W.Frag) (ta : TA) : TI := fun σ H R => ta σ H fun vs H1 => ∃ a xs b, vs = [.ref a] ∧ SqB b K H1 a xs ∧ R (IteX K b a) H1
theorem pi_enumX {X : Cx} {e : Expr} {ta : TA} {p pos tpos : Pos} {elts : List Expr} {kk : Nat} (hg : Gl X "enumerate") (hm : X.mg "enumerate" = none) (ha : PA X [e] ta) (hs : starEach [e] X.env = [(false, eval e X.env)] := by rfl) :
    PI X (.Tuple elts kk tpos) (.Call (.Name "enumerate" p) [e] [] pos) (iEnumB X.K ta) := by
  refine ⟨fun pins s σ H R I h => ?_⟩
  refine Call_ (ld_blt I hg hm boot_enumerate (PyProof.Rows.callWith_type1 (thn (ha.run pos pins s σ H _ I h) fun us s1 ⟨vs, H1, I1, r1, q1⟩ => ?_) hs rfl))
  obtain ⟨a, xs, b, ex, hq, q⟩ := q1
  subst ex
  cases r1 with
  | cons r rr =>
    cases rr
    cases r
    obtain ⟨its, rv, p'⟩ := sqB_its I1 hq
    have fin : ∀ h', IsEnum h' (s1.heap.objs.size + 1) s1.heap.objs.size 0 .none → SubIt b h' s1.heap.objs.size a 0 → a < s1.heap.objs.size → (∀ b o, s1.heap.get? b = some o → h'.get? b = some o) →
        wpAny (model X.prog X.w) X.A (pyIter (.ref (s1.heap.objs.size + 1))) (PIE X pins σ (.Tuple elts kk tpos) R) X.xe { s1 with heap := h' } := fun h' he hit la hk => by
      refine wpAny_pyIter_enum he ?_
      have I2 : Inv X pins σ H1 { s1 with heap := h' } := I1.kept (t' := s1.toks) hk
      refine ⟨s1.heap.objs.size + 1, [s1.heap.objs.size + 1, s1.heap.objs.size], _, _, H1, rfl, I2, turn_enumX a (s1.heap.objs.size + 1) s1.heap.objs.size (Nat.succ_ne_self _) (Nat.ne_of_lt la) (Nat.ne_of_gt (Nat.lt_succ_of_lt la)), ⟨⟨.none, he⟩, hit⟩, fun b hb => ?_, q⟩
      have e' : b = s1.heap.objs.size + 1 ∨ b = s1.heap.objs.size := by simpa using hb
      have hle : s1.heap.objs.size ≤ b := by
        rcases e' with z | z
        · rw [z]; exact Nat.le_add_right _ _
        · rw [z]; exact Nat.le_refl _
      exact I1.fpOk hle (I1.hok.fresh hle)
    cases b with
    | false =>
      have p' : s1.heap.IsList a its.toArray := p'
      refine call_enumerate_list p' fun h' he hit hsz hk => fin h' he hit ?_ hk
      obtain ⟨o, e, _⟩ := id p'
      exact Heap.lt_size e
    | true =>
      have p' : s1.heap.IsTuple a its.toArray := p'
      refine call_enumT p' fun h' he hit hsz hk => fin h' he hit ?_ hk
      obtain ⟨o, e, _⟩ := id p'
      exact Heap.lt_size e
end ZN
namespace DL
open PySem PySem.Spec PyProof.Rows L2 ZN
def iEnumXD (ta : TDA) : TDI := fun δ μ Q => ta δ μ fun ds μ1 => ∃ b xs, ds = [seqD b xs] ∧ Q (enumD xs) μ1
theorem di_enumX {X : Cx} {e : Expr} {ta : TDA} {p pos tpos : Pos} {elts : List Expr} {kk : Nat} (hm : X.mg "enumerate" = none) (ha : DA X [e] ta) (hg : Gl X "enumerate" := by rfl) (hs : starEach [e] X.env = [(false, eval e X.env)] := by rfl) :
    DI X (.Tuple elts kk tpos) (.Call (.Name "enumerate" p) [e] [] pos) (iEnumXD ta) := by
  refine PI.weak (pi_enumX hg hm ha hs) fun σ H R ⟨δ, F, μ, QD, l, rs, q, k⟩ => ⟨δ, F, μ, _, l, rs, q, fun vs ds F1 μ1 H1 e1 l1 r1 ⟨b, xs, ed, q1⟩ => ?_⟩
  subst ed
  obtain ⟨v, rfl, rv⟩ := reps1 r1
  obtain ⟨a, ws, rfl, hF, rr⟩ := seq_rep l1 rv
  refine ⟨a, ws, b, rfl, sqF_B l1.fz hF, k _ _ F1 μ1 H1 e1 l1 (fun i F2 μ2 H2 e2 l2 hi => ⟨fun d hd => ?_, fun hl => ?_⟩) q1⟩
  · have hi2 : i < xs.length := by
      by_cases z : i < xs.length
      · exact z
      · rw [List.getElem?_eq_none (by unfold enumD; rw [List.length_map, List.length_range]; omega)] at hd
        cases hd
    have hd2 : d = .tup [.int (i : Int), xs.getD i .non] := by
      unfold enumD at hd
      rw [List.getElem?_map, List.getElem?_range hi2] at hd
      cases hd
      rfl
    subst hd2
    obtain ⟨vx, hx, rx⟩ := rr.get (show xs[i]? = some (xs.getD i .non) by rw [List.getElem?_eq_getElem hi2, getD_lt hi2])
    have sa : SqB b X.K H2 a ws := sqF_B (e2.trans l2.fz) hF
    refine ⟨⟨ws, vx, sa, hx⟩, fun z H3 ⟨T, x', ez, hT, eH, f1⟩ => ?_⟩
    subst ez eH
    have e3 := (f1 _ sa).symm.trans hx
    cases e3
    exact new_pair l2 hT (.int _) (rx.mono e2)
  · have hl2 : xs.length = i := by
      unfold enumD at hl
      rw [List.length_map, List.length_range] at hl
      omega
    exact ⟨ws, sqF_B (e2.trans l2.fz) hF, by rw [rr.length]; omega⟩
theorem x_iEnumX {ta : TDA} {δ : DSt} {μ : Mem} {Q : List D → Mem → Prop} (k : ta δ μ fun ds μ1 => ∃ b xs, ds = [seqD b xs] ∧ Q (enumD xs) μ1) : iEnumXD ta δ μ Q := k
end DL
-- DTM
set_option maxRecDepth 100000
namespace DL
open PySem PySem.Spec PyProof.Rows L2
/-! tables led at rows -/
def ledV (A : List (List Rat)) (x : List Rat) : List Rat := A.map fun r => dotQ r x
def VB (d z : Nat) (x : List Rat) : Prop := ∀ q ∈ x, CB d z q
theorem ledV_len {n : Nat} {A : List (List Rat)} {x : List Rat} (sA : Sq n A) : (ledV A x).length = n := by
  unfold ledV
  rw [List.length_map, sA.1]
theorem ledV_get {n i : Nat} {A : List (List Rat)} {x : List Rat} (sA : Sq n A) (hx : x.length = n) (hi : i < n) : (ledV A x).getD i 0 = sumN n fun k => ent A i k * x.getD k 0 := by
  unfold ledV
  rw [getD_mapL (d := []) (by rw [sA.1]; exact hi), dot_sum (sA.row hi) hx]
  rfl
theorem vec_ext {n : Nat} {x y : List Rat} (hx : x.length = n) (hy : y.length = n) (h : ∀ i, i < n → x.getD i 0 = y.getD i 0) : x = y := by
  refine List.ext_getElem (by rw [hx, hy]) fun i h1 h2 => ?_
  have := h i (by omega)
  rw [getD_lt h1, getD_lt h2] at this
  exact this
theorem addR_len {n : Nat} {x y : List Rat} (hx : x.length = n) (hy : y.length = n) : (addR x y).length = n := by
  unfold addR
  rw [List.length_zipWith, hx, hy, Nat.min_self]
theorem subR_len {n : Nat} {x y : List Rat} (hx : x.length = n) (hy : y.length = n) : (subR x y).length = n := by
  unfold subR
  rw [List.length_zipWith, hx, hy, Nat.min_self]
theorem addR_get {n i : Nat} {x y : List Rat} (hx : x.length = n) (hy : y.length = n) (hi : i < n) : (addR x y).getD i 0 = x.getD i 0 + y.getD i 0 := by
  unfold addR
  rw [getD_zipWith (a := 0) (b := 0) (by omega) (by omega)]
theorem subR_get {n i : Nat} {x y : List Rat} (hx : x.length = n) (hy : y.length = n) (hi : i < n) : (subR x y).getD i 0 = x.getD i 0 - y.getD i 0 := by
  unfold subR
  rw [getD_zipWith (a := 0) (b := 0) (by omega) (by omega)]
theorem ledV_mul {n : Nat} {A B : List (List Rat)} {x : List Rat} (sA : Sq n A) (sB : Sq n B) (hx : x.length = n) (hn : n ≠ 0) : ledV (mulQ A B) x = ledV A (ledV B x) := by
  refine vec_ext (n := n) (ledV_len (sA.mul sB hn)) (ledV_len sA) fun i hi => ?_
  rw [ledV_get (sA.mul sB hn) hx hi, ledV_get sA (ledV_len sB) hi]
  have e1 : sumN n (fun k => ent (mulQ A B) i k * x.getD k 0) = sumN n (fun k => sumN n fun l => ent A i l * ent B l k * x.getD k 0) := sumN_congr fun k hk => by
    rw [ent_mul sA sB hn hi hk, ← sumN_right]
  have e2 : sumN n (fun l => ent A i l * (ledV B x).getD l 0) = sumN n (fun l => sumN n fun k => ent A i l * ent B l k * x.getD k 0) := sumN_congr fun l hl => by
    rw [ledV_get sB hx hl, ← sumN_left]
    exact sumN_congr fun k _ => by rw [Rat.mul_assoc]
  rw [e1, e2, sumN_swap]
theorem ledV_add {n : Nat} {A : List (List Rat)} {x y : List Rat} (sA : Sq n A) (hx : x.length = n) (hy : y.length = n) : ledV A (addR x y) = addR (ledV A x) (ledV A y) := by
  refine vec_ext (n := n) (ledV_len sA) (addR_len (ledV_len sA) (ledV_len sA)) fun i hi => ?_
  rw [ledV_get sA (addR_len hx hy) hi, addR_get (ledV_len sA) (ledV_len sA) hi, ledV_get sA hx hi, ledV_get sA hy hi, ← sumN_add]
  refine sumN_congr fun k hk => ?_
  rw [addR_get hx hy hk]
  grind
theorem ledV_subR {n : Nat} {A : List (List Rat)} {x y : List Rat} (sA : Sq n A) (hx : x.length = n) (hy : y.length = n) : ledV A (subR x y) = subR (ledV A x) (ledV A y) := by
  refine vec_ext (n := n) (ledV_len sA) (subR_len (ledV_len sA) (ledV_len sA)) fun i hi => ?_
  rw [ledV_get sA (subR_len hx hy) hi, subR_get (ledV_len sA) (ledV_len sA) hi, ledV_get sA hx hi, ledV_get sA hy hi]
  have e : ∀ a b : Rat, a - b = a + -1 * b := fun a b => by grind
  rw [e, ← sumN_left, ← sumN_add]
  refine sumN_congr fun k hk => ?_
  rw [subR_get hx hy hk]
  grind
theorem ledV_subM {n : Nat} {A B : List (List Rat)} {x : List Rat} (sA : Sq n A) (sB : Sq n B) (hx : x.length = n) : ledV (subM A B) x = subR (ledV A x) (ledV B x) := by
  refine vec_ext (n := n) (ledV_len (subM_sq sA sB)) (subR_len (ledV_len sA) (ledV_len sB)) fun i hi => ?_
  rw [ledV_get (subM_sq sA sB) hx hi, subR_get (ledV_len sA) (ledV_len sB) hi, ledV_get sA hx hi, ledV_get sB hx hi]
  have e : ∀ a b : Rat, a - b = a + -1 * b := fun a b => by grind
  rw [e, ← sumN_left, ← sumN_add]
  refine sumN_congr fun k hk => ?_
  rw [ent_sub sA sB hi hk]
  grind
/-- what is led to noughts is noughts, where the determinant is not 0 -/
theorem led_zero {n : Nat} {P : Mx} {x : Nat → Rat} (hD : det n P ≠ 0) (h : ∀ r, r < n → sumN n (fun l => P r l * x l) = 0) {k : Nat} (hk : k < n) : x k = 0 := by
  rw [cramer_int (m := n) (k := k) (P := P) (x := x) (p := fun _ => 0) (fun r hr => by rw [h r hr, Rat.mul_zero]) hD hk]
  exact det_zero hk fun c _ => setR_same
theorem ledV_inj {n : Nat} {A : List (List Rat)} {x y : List Rat} (sA : Sq n A) (hx : x.length = n) (hy : y.length = n) (hD : det n (ent A) ≠ 0) (h : ledV A x = ledV A y) : x = y := by
  refine vec_ext hx hy fun i hi => ?_
  have z : ∀ r, r < n → sumN n (fun l => ent A r l * (x.getD l 0 - y.getD l 0)) = 0 := fun r hr => by
    have a := ledV_get sA hx hr
    have b := ledV_get sA hy hr
    rw [h] at a
    have s : sumN n (fun l => ent A r l * (x.getD l 0 - y.getD l 0)) = sumN n (fun l => ent A r l * x.getD l 0) + -1 * sumN n (fun l => ent A r l * y.getD l 0) := by
      rw [← sumN_left, ← sumN_add]
      refine sumN_congr fun l hl => ?_
      grind
    rw [s, ← a, ← b]
    grind
  have := led_zero (P := ent A) (x := fun l => x.getD l 0 - y.getD l 0) hD z hi
  have this : x.getD i 0 - y.getD i 0 = 0 := this
  grind
theorem VB.led {n d d' z z' : Nat} {A : List (List Rat)} {x : List Rat} (sA : Sq n A) (hd : d ≠ 0) (hd' : d' ≠ 0) (cA : CBs d z A) (cx : VB d' z' x) : VB (d * d') (n * (z * z')) (ledV A x) := fun q hq => by
  obtain ⟨r, hr, rfl⟩ := List.mem_map.mp hq
  have := cb_dot hd hd' (cA r hr) cx
  rw [sA.2 r hr] at this
  exact this
theorem VB.add {d z z' : Nat} {x y : List Rat} (h : VB d z x) (k : VB d z' y) : VB d (z + z') (addR x y) := fun q hq => by
  unfold addR at hq
  rw [← zip_mapW] at hq
  obtain ⟨p, hp, rfl⟩ := List.mem_map.mp hq
  exact (h _ (List.of_mem_zip hp).1).add (k _ (List.of_mem_zip hp).2)
theorem VB.sub {d z z' : Nat} {x y : List Rat} (h : VB d z x) (k : VB d z' y) : VB d (z + z') (subR x y) := fun q hq => by
  unfold subR at hq
  rw [← zip_mapW] at hq
  obtain ⟨p, hp, rfl⟩ := List.mem_map.mp hq
  exact (h _ (List.of_mem_zip hp).1).sub (k _ (List.of_mem_zip hp).2)
theorem VB.mono {d z z' : Nat} {x : List Rat} (h : VB d z x) (l : z ≤ z') : VB d z' x := fun q hq => (h q hq).mono l
theorem VB.scale {d z : Nat} {x : List Rat} (h : VB d z x) (e : Nat) (he : e ≠ 0) : VB (d * e) (z * e) x := fun q hq => (h q hq).scale e he
theorem VB.bq {d z k : Nat} {x : List Rat} (h : VB d z x) (hd : d < 2 ^ k) (hz : z < 2 ^ k) : ∀ q ∈ x, BQ k q := fun q hq => (h q hq).bq hd hz
theorem CBs.scale {d z : Nat} {t : List (List Rat)} (h : CBs d z t) (e : Nat) (he : e ≠ 0) : CBs (d * e) (z * e) t := fun r hr q hq => (h r hr q hq).scale e he
theorem x_lenRow {μ : Mem} {Q : DK} {r : List Rat} {n : Nat} (h : r.length = n) (q : Q (.int (n : Int)) μ) : dLen [rowD r] μ Q := by
  refine x_lenT (ds := r.map frD) ?_
  rw [List.length_map, h]
  exact q
theorem enum_map {α : Type} (f : α → D) (d : α) (xs : List α) : enumD (xs.map f) = (List.range xs.length).map fun i : Nat => D.tup [.int (i : Int), f (xs.getD i d)] := by
  unfold enumD
  rw [List.length_map]
  refine List.map_congr_left fun i hi => ?_
  rw [List.mem_range] at hi
  rw [getD_mapL (d := d) hi]
end DL
-- DTN
set_option maxRecDepth 100000
namespace DL
open PySem PySem.Spec PyProof.Rows L2
/-! elimination by fractions, above and below, the pivots made 1 -/
theorem clr_scale {n w k : Nat} {δ : Rat} {P L : Mx} (h : Clr n w k δ P L) (s : Rat) : Clr n w k (s * δ) P (fun r c => s * L r c) := fun r c hr hc => by
  have e := h r c hr hc
  have e1 : sumN k (fun l => P r l * (s * L l c)) = s * sumN k (fun l => P r l * L l c) := by
    rw [← sumN_left]
    exact sumN_congr fun l _ => by grind
  rw [e1]
  split
  · rename_i q
    rw [if_pos q] at e
    grind
  · rename_i q
    rw [if_neg q] at e
    grind
theorem clr_congr {n w k : Nat} {δ : Rat} {P L L' : Mx} (h : Clr n w k δ P L) (hk : k ≤ n) (e : ∀ r c, r < n → c < w → L r c = L' r c) : Clr n w k δ P L' := fun r c hr hc => by
  rw [← e r c hr hc, ← h r c hr hc, sumN_congr fun l hl => by rw [← e l c (by omega) hc]]
structure GJ (n w k : Nat) (A R : Mx) : Prop where
  kn : k ≤ n
  ex : ∃ P : Mx, (∀ r, r < n → ∃ r', r' < n ∧ ∀ c, P r c = A r' c) ∧ (∀ r', r' < n → ∃ r, r < n ∧ ∀ c, P r c = A r' c) ∧ Clr n w k 1 P R ∧ det k P ≠ 0 ∧ (det n P = det n A ∨ det n P = -det n A)
theorem GJ.start {n w : Nat} {A : Mx} : GJ n w 0 A A := ⟨Nat.zero_le _, A, fun r hr => ⟨r, hr, fun _ => rfl⟩, fun r hr => ⟨r, hr, fun _ => rfl⟩, clr_start n w A, by show (1 : Rat) ≠ 0; decide, .inl rfl⟩
theorem GJ.congr {n w k : Nat} {A R R' : Mx} (h : GJ n w k A R) (e : ∀ r c, r < n → c < w → R r c = R' r c) : GJ n w k A R' := by
  obtain ⟨kn, P, h1, h2, h3, h4⟩ := h
  exact ⟨kn, P, h1, h2, clr_congr h3 kn e, h4⟩
theorem GJ.swap {n w k f : Nat} {A R : Mx} (h : GJ n w k A R) (hk : k < n) (hf : f < n) (hkf : k ≤ f) : GJ n w k A (swapR R k f) := by
  by_cases e0 : f = k
  · subst e0
    refine h.congr fun r c hr hc => ?_
    unfold swapR
    by_cases e : r = f
    · rw [if_pos e, e]
    · rw [if_neg e, if_neg e]
  obtain ⟨kn, P, h1, h2, h3, h4, h5⟩ := h
  refine ⟨kn, swapR P k f, fun r hr => ?_, fun r' hr' => ?_, fun r c hr hc => ?_, ?_, ?_⟩
  · unfold swapR
    exact h1 _ (by split; omega; split <;> omega)
  · obtain ⟨r, hr, e⟩ := h2 r' hr'
    refine ⟨if r = k then f else if r = f then k else r, by split; omega; split <;> omega, fun c => ?_⟩
    rw [← e c]
    unfold swapR
    by_cases a : r = k
    · rw [if_pos a, if_neg (by omega), if_pos rfl, a]
    · rw [if_neg a]
      by_cases b : r = f
      · rw [if_pos b, if_pos rfl, b]
      · rw [if_neg b, if_neg a, if_neg b]
  · have keep : ∀ r0 : Nat, sumN k (fun l => P r0 l * swapR R k f l c) = sumN k (fun l => P r0 l * R l c) := fun r0 => sumN_congr fun l hl => by
      unfold swapR
      rw [if_neg (by omega), if_neg (by omega)]
    have go : ∀ r0, r0 < n → (k ≤ r0 ↔ k ≤ r) → (∀ c, swapR P k f r c = P r0 c) → (k ≤ r → swapR R k f r c = R r0 c) → sumN k (fun l => swapR P k f r l * swapR R k f l c) + (if k ≤ r then swapR R k f r c else 0) = 1 * swapR P k f r c := fun r0 hr0 hk0 e1 e2 => by
      rw [sumN_congr fun l _ => by rw [e1 l], keep r0, e1 c, ← h3 r0 c hr0 hc]
      by_cases q : k ≤ r
      · rw [if_pos q, if_pos (hk0.mpr q), e2 q]
      · rw [if_neg q, if_neg (fun z => q (hk0.mp z))]
    by_cases a : r = k
    · subst a
      exact go f hf (by omega) (fun c => by unfold swapR; rw [if_pos rfl]) (fun _ => by unfold swapR; rw [if_pos rfl])
    · by_cases b : r = f
      · subst b
        exact go k hk (by omega) (fun c => by unfold swapR; rw [if_neg a, if_pos rfl]) (fun _ => by unfold swapR; rw [if_neg a, if_pos rfl])
      · exact go r hr Iff.rfl (fun c => by unfold swapR; rw [if_neg a, if_neg b]) (fun _ => by unfold swapR; rw [if_neg a, if_neg b])
  · rw [show det k (swapR P k f) = det k P from det_congr fun i l hi hl => by unfold swapR; rw [if_neg (by omega), if_neg (by omega)]]
    exact h4
  · rw [det_swap P hk hf (by omega)]
    rcases h5 with e | e <;> rw [e]
    · exact .inr rfl
    · exact .inl (by grind)
/-- the rows ahead of j cleared, row k made 1 there -/
def gjX (R : Mx) (k j : Nat) : Mx := fun r c => if r = k then R k c / R k k else if r < j then R r c - R r k * (R k c / R k k) else R r c
theorem GJ.step {n w k : Nat} {A R : Mx} (h : GJ n w k A R) (hk : k < n) (hw : k < w) (hp : R k k ≠ 0) : GJ n w (k + 1) A (gjX R k n) := by
  obtain ⟨kn, P, h1, h2, h3, h4, h5⟩ := h
  refine ⟨hk, P, h1, h2, ?_, ?_, h5⟩
  · have s := clr_scale (clr_step h3 (by decide) hw) (R k k)⁻¹
    have e1 : (R k k)⁻¹ * R k k = 1 := Rat.inv_mul_cancel _ hp
    rw [e1] at s
    refine clr_congr s hk fun r c hr hc => ?_
    unfold stepX gjX
    by_cases a : r = k
    · rw [if_pos a, if_pos a, Rat.div_def, Rat.mul_comm]
    · rw [if_neg a, if_neg a, if_pos hr, Rat.div_def, Rat.div_def]
      have : (1 : Rat)⁻¹ = 1 := by decide +kernel
      rw [this]
      grind
  · have s := clr_scale h3 (det k P)
    rw [Rat.mul_one] at s
    have e := clr_pivot s h4 rfl hw hk
    rw [e]
    intro z
    rcases Rat.mul_eq_zero.mp z with z | z
    · exact h4 z
    · exact hp z
theorem GJ.none {n w k : Nat} {A R : Mx} (h : GJ n w k A R) (hk : k < n) (hw : k < w) (z : ∀ r, k ≤ r → r < n → R r k = 0) : det n A = 0 := by
  obtain ⟨kn, P, h1, h2, h3, h4, h5⟩ := h
  have e := clr_none h3 (by decide) hw hk z
  rcases h5 with q | q <;> rw [q] at e
  · exact e
  · grind
theorem GJ.end_ {n w : Nat} {A R : Mx} (h : GJ n w n A R) : det n A ≠ 0 ∧ ∀ r c, r < n → c < w → sumN n (fun l => A r l * R l c) = A r c := by
  obtain ⟨kn, P, h1, h2, h3, h4, h5⟩ := h
  refine ⟨fun z => ?_, fun r c hr hc => ?_⟩
  · rcases h5 with q | q
    · exact h4 (q.trans z)
    · exact h4 (by rw [q, z]; rfl)
  · obtain ⟨r', hr', e⟩ := h2 r hr
    have := h3 r' c hr' hc
    rw [if_neg (by omega), Rat.add_zero, Rat.one_mul, e c] at this
    rw [← this]
    exact sumN_congr fun l _ => by rw [e l]
theorem GJ.bits {n w k b : Nat} {A R : Mx} (h : GJ n w k A R) (h5 : n ≤ 5) (hkw : n ≤ w) (hb : ∀ i l, i < n → l < w → BQ b (A i l)) {r c : Nat} (hr : r < n) (hc : c < w) : BQ (60 * b + 16) (R r c) := by
  obtain ⟨kn, P, h1, h2, h3, h4, _⟩ := h
  have hP : ∀ i l, i < n → l < w → BQ b (P i l) := fun i l hi hl => by
    obtain ⟨i', hi', e⟩ := h1 i hi
    rw [e l]
    exact hb i' l hi' hl
  have bd : BQ (30 * b + 8) (det k P) := bq_detB (by omega) fun i l hi hl => hP i l (by omega) (by omega)
  by_cases q : r < k
  · have e := cramer_int (m := k) (k := r) (P := P) (x := fun l => det k P * R l c) (p := fun i => P i c) (fun i hi => by
      have := h3 i c (by omega) hc
      rw [if_neg (by omega), Rat.add_zero, Rat.one_mul] at this
      rw [← this, ← sumN_left]
      exact sumN_congr fun l _ => by grind) h4 q
    have e : det k P * R r c = det k (setR (tr P) r fun i => P i c) := e
    have bn : BQ (30 * b + 8) (det k (setR (tr P) r fun i => P i c)) := bq_detB (by omega) fun i l hi hl => by
      by_cases a : i = r
      · subst a
        rw [setR_same]
        exact hP l c (by omega) hc
      · rw [setR_ne a]
        exact hP l i (by omega) (by omega)
    have e2 : R r c = det k (setR (tr P) r fun i => P i c) / det k P := by rw [← e]; grind
    rw [e2]
    exact (bn.div bd h4).mono (by omega)
  · have hkn : k < n := by omega
    have s := clr_scale h3 (det k P)
    rw [Rat.mul_one] at s
    have dk : det k (fun i l => P (if i < k then i else r) (if l < k then l else c)) = det k P := det_congr fun i l hi hl => by rw [if_pos hi, if_pos hl]
    have C' : Clr (k + 1) (k + 1) k (det k P) (fun i l => P (if i < k then i else r) (if l < k then l else c)) (fun i l => det k P * R (if i < k then i else r) (if l < k then l else c)) := fun i l hi hl => by
      have hi2 : (if i < k then i else r) < n := by split <;> omega
      have hl2 : (if l < k then l else c) < w := by split <;> omega
      have := s (if i < k then i else r) (if l < k then l else c) hi2 hl2
      have e1 : sumN k (fun m => P (if i < k then i else r) (if m < k then m else c) * (det k P * R (if m < k then m else r) (if l < k then l else c))) = sumN k (fun m => P (if i < k then i else r) m * (det k P * R m (if l < k then l else c))) := sumN_congr fun m hm => by rw [if_pos hm, if_pos hm]
      show sumN k (fun m => P (if i < k then i else r) (if m < k then m else c) * (det k P * R (if m < k then m else r) (if l < k then l else c))) + (if k ≤ i then det k P * R (if i < k then i else r) (if l < k then l else c) else 0) = det k P * P (if i < k then i else r) (if l < k then l else c)
      rw [e1, ← this]
      by_cases a : k ≤ i
      · rw [if_pos a, if_pos (show k ≤ (if i < k then i else r) by rw [if_neg (show ¬ i < k by omega)]; omega)]
      · rw [if_neg a, if_neg (show ¬ k ≤ (if i < k then i else r) by rw [if_pos (show i < k by omega)]; exact a)]
    have e := clr_pivot C' h4 dk.symm (by omega) (by omega)
    have e : det (k + 1) (fun i l => P (if i < k then i else r) (if l < k then l else c)) = det k P * R (if k < k then k else r) (if k < k then k else c) := e
    rw [if_neg (show ¬ k < k by omega), if_neg (show ¬ k < k by omega)] at e
    have bn : BQ (30 * b + 8) (det (k + 1) (fun i l => P (if i < k then i else r) (if l < k then l else c))) := bq_detB (by omega) fun i l hi hl => hP _ _ (by split <;> omega) (by split <;> omega)
    have e2 : R r c = det (k + 1) (fun i l => P (if i < k then i else r) (if l < k then l else c)) / det k P := by rw [e]; grind
    rw [e2]
    exact (bn.div bd h4).mono (by omega)
theorem gjX_zero {R : Mx} {k j r c : Nat} (hz : R r k = 0) (hr : r ≠ k) : gjX R k j r c = R r c := by
  unfold gjX
  rw [if_neg hr]
  split
  · rw [hz]; grind
  · rfl
/-! lists of rows of one length -/
def Rw (n w : Nat) (R : List (List Rat)) : Prop := R.length = n ∧ ∀ r ∈ R, r.length = w
theorem Rw.row {n w i : Nat} {R : List (List Rat)} (h : Rw n w R) (hi : i < n) : (R.getD i []).length = w := by
  rw [getD_lt (by rw [h.1]; exact hi)]
  exact h.2 _ (List.getElem_mem _)
theorem Rw.set {n w i : Nat} {R : List (List Rat)} {x : List Rat} (h : Rw n w R) (hx : x.length = w) : Rw n w (R.set i x) := ⟨by rw [List.length_set, h.1], fun r hr => by
  rcases List.mem_or_eq_of_mem_set hr with g | g
  · exact h.2 r g
  · rw [g]; exact hx⟩
theorem Rw.set_ent {n w i r c : Nat} {R : List (List Rat)} {x : List Rat} (h : Rw n w R) (hr : r < n) : ent (R.set i x) r c = setR (ent R) i (fun c => x.getD c 0) r c := by
  unfold ent setR
  rw [getD_set (by rw [h.1]; exact hr)]
  by_cases b : r = i
  · rw [if_pos b, if_pos b]
  · rw [if_neg b, if_neg b]
theorem Rw.swap {n w i j : Nat} {R : List (List Rat)} (h : Rw n w R) (hi : i < n) (hj : j < n) : Rw n w (swapQ R i j) := (h.set (h.row hj)).set (h.row hi)
theorem Rw.swap_ent {n w i j r c : Nat} {R : List (List Rat)} (h : Rw n w R) (hi : i < n) (hj : j < n) (hr : r < n) : ent (swapQ R i j) r c = swapR (ent R) i j r c := by
  unfold ent swapQ swapR
  rw [getD_set (by rw [List.length_set, h.1]; exact hr), getD_set (by rw [h.1]; exact hr)]
  by_cases a : r = j
  · subst a
    by_cases b : r = i
    · subst b
      rw [if_pos rfl, if_pos rfl]
    · rw [if_pos rfl, if_neg b, if_pos rfl]
  · rw [if_neg a]
    by_cases b : r = i
    · subst b
      rw [if_pos rfl, if_pos rfl]
    · rw [if_neg b, if_neg b, if_neg a]
theorem getD_rangeM {n c : Nat} {f : Nat → Rat} (hc : c < n) : ((List.range n).map f).getD c 0 = f c := by
  rw [getD_mapL (d := 0) (by rw [List.length_range]; exact hc), getD_range hc]
/-- rows beside rows -/
def sideQ (a b : List (List Rat)) : List (List Rat) := List.zipWith (· ++ ·) a b
theorem sideQ_rw {n m : Nat} {a b : List (List Rat)} (ha : Sq n a) (hb : b.length = n ∧ ∀ r ∈ b, r.length = m) : Rw n (n + m) (sideQ a b) := ⟨by unfold sideQ; rw [List.length_zipWith, ha.1, hb.1, Nat.min_self], fun r hr => by
  unfold sideQ at hr
  rw [← zip_mapW] at hr
  obtain ⟨p, hp, rfl⟩ := List.mem_map.mp hr
  rw [List.length_append, ha.2 _ (List.of_mem_zip hp).1, hb.2 _ (List.of_mem_zip hp).2]⟩
theorem sideQ_ent {n m r c : Nat} {a b : List (List Rat)} (ha : Sq n a) (hb : b.length = n ∧ ∀ r ∈ b, r.length = m) (hr : r < n) : (c < n → ent (sideQ a b) r c = ent a r c) ∧ ent (sideQ a b) r (n + c) = ent b r c := by
  have e : (sideQ a b).getD r [] = a.getD r [] ++ b.getD r [] := by
    unfold sideQ
    rw [getD_zipWith (a := []) (b := []) (by rw [ha.1]; exact hr) (by rw [hb.1]; exact hr)]
  have l := ha.row hr
  unfold ent
  rw [e]
  refine ⟨fun hc => ?_, ?_⟩
  · rw [List.getD_eq_getElem?_getD, List.getElem?_append_left (by rw [l]; exact hc), ← List.getD_eq_getElem?_getD]
  · rw [List.getD_eq_getElem?_getD, List.getElem?_append_right (by rw [l]; omega), l, Nat.add_sub_cancel_left, ← List.getD_eq_getElem?_getD]
end DL
-- DTO
set_option maxRecDepth 100000
namespace DL
open PySem PySem.Spec PyProof.Rows L2
/-! a tuple some times, once as well -/
theorem tuple_mul1 (l : Addr) (items : Array Value) (n : Nat) (dd : Option Addr) (sl : Array (Option Value)) (u : Tok) :
    Meets (Builtin.«tuple.__mul__» ⟨[.ref l, .int 1 u], []⟩) (fun _ R s => s.heap.get? l = some { cls := .type "tuple", dict := dd, data := .seq items n, slots := sl } ∧
      R (.ok (.ret (Value.ref l))) s) :=
  .of_wp fun prog w A R s h => by
    obtain ⟨hp, g, d, tk, os⟩ := s
    obtain ⟨hl, h⟩ := h
    have f1 := AutoSeq1.idx_int
    have c1 : (items.isEmpty || (1 : Int) == 1) = true := by rw [show ((1 : Int) == 1) = true from rfl, Bool.or_true]
    wp_walk using wpAny_loadPart' hl
    repeat (first
      | (refine wpAny_ite_false (by decide) ?_; wp_walk using wpAny_loadPart' hl)
      | (refine wpAny_ite_true (decide_eq_true (by rw [c1])) ?_; wp_walk using wpAny_loadPart' hl))
    exact ⟨_, rfl, h⟩
def rRepT1 (K : PySem.W.Frag) : R2 := fun x y H Q => ∃ l xs, x = .ref l ∧ y = .int 1 ∧ SqT K H l xs ∧ Q (.ref l) H
section
variable {X : Cx}
theorem op_repT1 : OpR X (binaryOp .Mult) (rRepT1 X.K) := by
  intro pins s σ H x y v u Q I rx ry h
  obtain ⟨l, xs, rfl, rfl, hT, q⟩ := h
  cases rx
  obtain ⟨t, rfl⟩ := ry
  obtain ⟨its, r, ⟨⟨cls, dd, data, sl⟩, ho, hc, n, hd⟩, hs⟩ := I.tuple hT
  simp only at hc hd
  subst hc hd
  refine wpAny_binaryOp_repeat_ref (T := "tuple") (U := "int") (by decide) ⟨_, ho, rfl⟩ (fun s' => typeIs_int s' 1 t) noFill_tuple_mul F.fills_int_mul F.slot_int_rmul repeat_tuple F.slot_int_index.lookup
    (call_meets F.slot_int_rmul (typeIs_int s 1 t) F.entry_int_rmul (F.args_int_rmul_2 _ _) (int_rmul_tuple 1 t l its.toArray n dd sl)
      ⟨ho, rfl, ⟨_, ho, rfl⟩, call_meets F.slot_tuple_mul ⟨_, ho, rfl⟩ F.entry_tuple_mul (F.args_tuple_mul_2 _ _) (tuple_mul1 l its.toArray n dd sl t) ⟨ho, ?_⟩⟩)
  exact ⟨.ref l, _, I, rfl, q⟩
end
def dMulT : RD2 := fun x y μ Q => ∃ xs j, x = .tup xs ∧ y = .int j ∧ xs ≠ [] ∧ 1 ≤ j ∧ j ≤ 1000 ∧ xs.length ≤ 1000 ∧ Q (.tup (List.replicate j.toNat xs).flatten) μ
theorem lift_mulT {K : PySem.W.Frag} : Lift2 K (fun x y H Q => rRepT K x y H Q ∨ rRepT1 K x y H Q) dMulT := fun x y dx dy F μ H Q QD l rx ry ⟨xs, j, ex, ey, h0, h1, h2, h3, q⟩ k => by
  by_cases e : j = 1
  · subst ex ey e
    obtain ⟨a, vs, rfl, g1, _, r1⟩ := tup_rep l rx
    have e := rep_int ry
    subst e
    have ef : (List.replicate (Int.toNat 1) xs).flatten = xs := by
      show (List.replicate 1 xs).flatten = xs
      simp
    rw [ef] at q
    exact .inr ⟨a, vs, rfl, rfl, g1, k _ _ _ _ _ (Ex.refl _) l rx q⟩
  · exact .inl (lift_repT x y dx dy F μ H Q QD l rx ry ⟨xs, j, ex, ey, h0, by omega, h2, h3, q⟩ k)
theorem op_mulT {X : Cx} : OpR X (binaryOp .Mult) (fun x y H Q => rRepT X.K x y H Q ∨ rRepT1 X.K x y H Q) := OpR.or op_repT op_repT1
theorem x_mulT {xs : List D} {j : Int} {μ : Mem} {Q : DK} (h : xs ≠ []) (h1 : 1 ≤ j) (h2 : j ≤ 1000) (h3 : xs.length ≤ 1000) (k : Q (.tup (List.replicate j.toNat xs).flatten) μ) : dMulT (.tup xs) (.int j) μ Q := ⟨xs, j, rfl, rfl, h, h1, h2, h3, k⟩
end DL
-- DTP
set_option maxRecDepth 100000
namespace DL
open PySem PySem.Spec PyProof.Rows L2
/-! rows solved for, forms, rows times a number -/
theorem cb_over {e z : Nat} {x D : Rat} {u v : Int} (he : e ≠ 0) (hD : D = Rat.divInt u e) (hu : u ≠ 0) (hv : v.natAbs ≤ z) (h : D * x = Rat.divInt v e) : CB u.natAbs z x := by
  have e0 : ((e : Int) : Rat) ≠ 0 := fun x => he (by exact_mod_cast x)
  have u0 : (u : Rat) ≠ 0 := fun x => hu (by exact_mod_cast x)
  rw [hD, Rat.divInt_eq_div, Rat.divInt_eq_div] at h
  have hx : x = (v : Rat) / (u : Rat) := by grind
  refine ⟨Int.natAbs_ne_zero.mpr hu, if 0 ≤ u then v else -v, ?_, by split <;> omega⟩
  rw [hx, Rat.divInt_eq_div]
  split
  · rename_i q
    have : ((u.natAbs : Int) : Rat) = (u : Rat) := by rw [Int.natAbs_of_nonneg q]
    rw [this]
  · rename_i q
    have : ((u.natAbs : Int) : Rat) = -(u : Rat) := by
      rw [show (u.natAbs : Int) = -u by omega]
      exact Rat.intCast_neg u
    rw [this, Rat.intCast_neg]
    grind
theorem solve_vb {n d z : Nat} {M : List (List Rat)} {x v : List Rat} (sM : Sq n M) (lx : x.length = n) (lv : v.length = n) (h5 : n ≤ 5) (hd : d ≠ 0) (hz : 0 < z) (cM : CBs d z M) (cv : VB d z v) (hD : det n (ent M) ≠ 0) (h : ledV M x = v) :
    ∃ D, D ≠ 0 ∧ D ≤ 120 * z ^ 5 ∧ VB D (120 * z ^ 5) x := by
  have le : fac n * z ^ n ≤ 120 * z ^ 5 := Nat.mul_le_mul (facQ5 h5) (Nat.pow_le_pow_right hz h5)
  obtain ⟨dn, m, em, hm⟩ := cb_det hd (fun i k hi hk => ent_cb sM cM hi hk)
  have m0 : m ≠ 0 := fun e => hD (by rw [em, e, Rat.zero_divInt])
  refine ⟨m.natAbs, Int.natAbs_ne_zero.mpr m0, Nat.le_trans hm le, fun q hq => ?_⟩
  obtain ⟨k, hk, rfl⟩ := List.mem_iff_getElem.mp hq
  have hkn : k < n := by rw [← lx]; exact hk
  have e := cramer_int (m := n) (k := k) (P := ent M) (x := fun l => det n (ent M) * x.getD l 0) (p := fun i => v.getD i 0) (fun r hr => by
    rw [← h, ledV_get sM lx hr, ← sumN_left]
    exact sumN_congr fun l _ => by grind) hD hkn
  have e : det n (ent M) * x.getD k 0 = det n (setR (tr (ent M)) k fun i => v.getD i 0) := e
  have cn : CB (d ^ n) (fac n * z ^ n) (det n (setR (tr (ent M)) k fun i => v.getD i 0)) := cb_det hd fun i l hi hl => by
    by_cases a : i = k
    · subst a
      rw [setR_same]
      rw [getD_lt (by rw [lv]; exact hl)]
      exact cv _ (List.getElem_mem _)
    · rw [setR_ne a]
      exact ent_cb sM cM hl hi
  obtain ⟨_, w, ew, hw⟩ := cn
  rw [ew, getD_lt hk] at e
  exact cb_over dn em m0 (Nat.le_trans hw le) e
theorem ledV_one {n : Nat} {v : List Rat} (lv : v.length = n) : ledV (oneQ n) v = v := by
  refine vec_ext (n := n) (ledV_len (one_sq n)) lv fun i hi => ?_
  rw [ledV_get (one_sq n) lv hi, sumN_congr (g := fun k => if k = i then v.getD k 0 else 0) fun k hk => by rw [ent_one hi hk]; split <;> grind]
  exact sumN_one _ hi
/-- a row times a number -/
def scR (s : Rat) (x : List Rat) : List Rat := x.map fun q => s * q
theorem scR_len {s : Rat} {x : List Rat} : (scR s x).length = x.length := List.length_map _
theorem scR_get {s : Rat} {x : List Rat} {i : Nat} : (scR s x).getD i 0 = s * x.getD i 0 := by
  unfold scR
  by_cases h : i < x.length
  · rw [getD_mapL (d := 0) h]
  · rw [List.getD_eq_getElem?_getD, List.getD_eq_getElem?_getD, List.getElem?_eq_none (by rw [List.length_map]; omega), List.getElem?_eq_none (by omega)]
    exact (Rat.mul_zero s).symm
theorem ledV_scR {n : Nat} {A : List (List Rat)} {x : List Rat} {s : Rat} (sA : Sq n A) (lx : x.length = n) : ledV A (scR s x) = scR s (ledV A x) := by
  refine vec_ext (n := n) (ledV_len sA) (by rw [scR_len, ledV_len sA]) fun i hi => ?_
  rw [scR_get, ledV_get sA (by rw [scR_len, lx]) hi, ledV_get sA lx hi, ← sumN_left]
  exact sumN_congr fun k _ => by rw [scR_get]; grind
theorem dot_scR {n : Nat} {x y : List Rat} {s : Rat} (lx : x.length = n) (ly : y.length = n) : dotQ (scR s x) (scR s y) = s * s * dotQ x y := by
  rw [dot_sum (by rw [scR_len, lx]) (by rw [scR_len, ly]), dot_sum lx ly, ← sumN_left]
  exact sumN_congr fun k _ => by rw [scR_get, scR_get]; grind
theorem scR_zero {n : Nat} {x : List Rat} (lx : x.length = n) : rowD (scR 0 x) = .tup (List.replicate n [frD 0]).flatten := by
  unfold rowD scR
  congr 1
  rw [List.map_map]
  subst lx
  induction x with
  | nil => rfl
  | cons q x ih =>
    rw [List.map_cons, List.length_cons, List.replicate_succ, List.flatten_cons, ih]
    show frD (0 * q) :: _ = frD 0 :: _
    rw [Rat.zero_mul]
    rfl
theorem scR_vb {d e z y : Nat} {x : List Rat} {s : Rat} (hs : CB e y s) (h : VB d z x) : VB (e * d) (y * z) (scR s x) := fun q hq => by
  obtain ⟨p, hp, rfl⟩ := List.mem_map.mp hq
  exact hs.mul (h p hp)
/-! forms -/
def bil (n : Nat) (X : Nat → Rat) (A : Mx) (Y : Nat → Rat) : Rat := sumN n fun i => X i * sumN n fun k => A i k * Y k
theorem bil_eq {n : Nat} {A : List (List Rat)} {x y : List Rat} (sA : Sq n A) (lx : x.length = n) (ly : y.length = n) : dotQ x (ledV A y) = bil n (fun i => x.getD i 0) (ent A) (fun i => y.getD i 0) := by
  rw [dot_sum lx (ledV_len sA)]
  exact sumN_congr fun k hk => by rw [ledV_get sA ly hk]
theorem bil_all {n : Nat} {X Y : Nat → Rat} {A : Mx} : bil n X A Y = sumN n fun i => sumN n fun k => X i * A i k * Y k := by
  unfold bil
  exact sumN_congr fun i _ => by
    rw [← sumN_left]
    exact sumN_congr fun k _ => by grind
theorem bil_tr {n : Nat} {X Y : Nat → Rat} {A : Mx} : bil n X A Y = bil n Y (fun i k => A k i) X := by
  rw [bil_all, bil_all, sumN_swap]
  exact sumN_congr fun i _ => sumN_congr fun k _ => by grind
theorem bil_congr {n : Nat} {X Y X' Y' : Nat → Rat} {A A' : Mx} (h1 : ∀ i, i < n → X i = X' i) (h2 : ∀ i k, i < n → k < n → A i k = A' i k) (h3 : ∀ i, i < n → Y i = Y' i) : bil n X A Y = bil n X' A' Y' := by
  unfold bil
  exact sumN_congr fun i hi => by rw [h1 i hi, sumN_congr fun k hk => by rw [h2 i k hi hk, h3 k hk]]
theorem bil_lin {n : Nat} {X Y Z : Nat → Rat} {A : Mx} {s : Rat} : bil n (fun i => X i + s * Y i) A Z = bil n X A Z + s * bil n Y A Z := by
  unfold bil
  rw [← sumN_left, ← sumN_add]
  exact sumN_congr fun i _ => by grind
theorem bil_linR {n : Nat} {X Y Z : Nat → Rat} {A : Mx} {s : Rat} : bil n Z A (fun i => X i + s * Y i) = bil n Z A X + s * bil n Z A Y := by
  rw [bil_tr, bil_lin, bil_tr (X := Z) (Y := X), bil_tr (X := Z) (Y := Y)]
theorem bil_mix {n : Nat} {X Y : Nat → Rat} {A B : Mx} {s : Rat} : bil n X (fun i k => A i k + s * B i k) Y = bil n X A Y + s * bil n X B Y := by
  rw [bil_all, bil_all, bil_all, ← sumN_left, ← sumN_add]
  exact sumN_congr fun i _ => by
    rw [← sumN_left, ← sumN_add]
    exact sumN_congr fun k _ => by grind
theorem cbs_mix {d z z' y : Nat} {a b : List (List Rat)} {x : Rat} (ha : CBs d z a) (hb : CBs d z' b) (hx : CB 1 y x) : CBs d (z + y * z') (mixM a x b) := fun r hr q hq => by
  unfold mixM at hr
  rw [← zip_mapW] at hr
  obtain ⟨p, hp, rfl⟩ := List.mem_map.mp hr
  unfold mixR at hq
  rw [← zip_mapW] at hq
  obtain ⟨s, hs, rfl⟩ := List.mem_map.mp hq
  have h2 := hx.mul (hb _ (List.of_mem_zip hp).2 _ (List.of_mem_zip hs).2)
  rw [Nat.one_mul] at h2
  exact (ha _ (List.of_mem_zip hp).1 _ (List.of_mem_zip hs).1).add h2
theorem ent_mix {n i j : Nat} {a b : List (List Rat)} {x : Rat} (ha : Sq n a) (hb : Sq n b) (hi : i < n) (hj : j < n) : ent (mixM a x b) i j = ent a i j + x * ent b i j := by
  unfold ent mixM
  rw [getD_zipWith (a := []) (b := []) (by rw [ha.1]; exact hi) (by rw [hb.1]; exact hi)]
  unfold mixR
  rw [getD_zipWith (a := 0) (b := 0) (by rw [ha.row hi]; exact hj) (by rw [hb.row hi]; exact hj)]
theorem one_cb30 (n : Nat) : CBs 30 30 (oneQ n) := fun r hr q hq => by
  have := (one_cb1 n r hr q hq).scale 30 (by decide)
  exact this
theorem cb_one : CB 1 1 1 := ⟨by decide, 1, by decide +kernel, by decide⟩
theorem cb_12 : CB 1 12 12 := ⟨by decide, 12, by decide +kernel, by decide⟩
theorem det_twoU {n : Nat} : det n (ent (mixM (oneQ n) 1 (oneQ n))) ≠ 0 := by
  have e : ∀ r c, r < n → c < n → ent (mixM (oneQ n) 1 (oneQ n)) r c = if c = r then 2 else 0 := fun r c hr hc => by
    rw [ent_mix (one_sq n) (one_sq n) hr hc, ent_one hr hc]
    split <;> decide +kernel
  rw [det_upper fun r c hr hc => by rw [e r c hr (by omega), if_neg (by omega)]]
  refine prodU_ne fun k hk => ?_
  rw [e k k hk hk, if_pos rfl]
  decide
theorem sym_mix {n : Nat} {a b : List (List Rat)} {x : Rat} (ha : Sq n a) (hb : Sq n b) (hn : n ≠ 0) (h1 : colsQ a = a) (h2 : colsQ b = b) : colsQ (mixM a x b) = mixM a x b := by
  have s := mixM_sq (x := x) ha hb
  refine sq_ext (s.cols hn) s fun i j hi hj => ?_
  rw [ent_cols s hn hi hj, ent_mix ha hb hj hi, ent_mix ha hb hi hj, ← ent_cols ha hn hi hj, ← ent_cols hb hn hi hj, h1, h2]
theorem sym_flip {n : Nat} {a : List (List Rat)} (ha : Sq n a) (hn : n ≠ 0) : colsQ (mixM a 1 (colsQ a)) = mixM a 1 (colsQ a) := by
  have hc := ha.cols hn
  have s := mixM_sq (x := 1) ha hc
  refine sq_ext (s.cols hn) s fun i j hi hj => ?_
  rw [ent_cols s hn hi hj, ent_mix ha hc hj hi, ent_mix ha hc hi hj, ent_cols ha hn hi hj, ent_cols ha hn hj hi]
  grind
/-- what lies on and under the line of a table -/
def lowQ (n : Nat) (t : List (List Rat)) : List (List Rat) := (List.range n).map fun j => (List.range n).map fun k => if k ≤ j then ent t j k else 0
theorem lowQ_sq {n : Nat} {t : List (List Rat)} : Sq n (lowQ n t) := ⟨by unfold lowQ; rw [List.length_map, List.length_range], fun r hr => by
  obtain ⟨j, _, rfl⟩ := List.mem_map.mp hr
  rw [List.length_map, List.length_range]⟩
theorem lowQ_cb {n d z : Nat} {t : List (List Rat)} (st : Sq n t) (c : CBs d z t) (hd : d ≠ 0) : CBs d z (lowQ n t) := fun r hr q hq => by
  obtain ⟨j, hj, rfl⟩ := List.mem_map.mp hr
  obtain ⟨k, hk, rfl⟩ := List.mem_map.mp hq
  rw [List.mem_range] at hj hk
  show CB d z (if k ≤ j then ent t j k else 0)
  split
  · exact ent_cb st c hj hk
  · exact ⟨hd, 0, by rw [Rat.zero_divInt], Nat.zero_le _⟩
theorem lst2_so {w k : Nat} {d e : D} (h1 : SO w k d) (h2 : SO w k e) : SO (2 * (w + 2) + 3) (k + 1) (.lst [d, e]) := so_lst (n := 2) (fun x hx => by
  simp only [List.mem_cons, List.not_mem_nil, or_false] at hx
  rcases hx with rfl | rfl
  · exact h1
  · exact h2) (Nat.le_refl _)
/-- how far a step makes the form fall, by what the step goes by -/
theorem fall_way {n : Nat} {A M : List (List Rat)} {e w : List Rat} (sA : Sq n A) (sM : Sq n M) (hn : n ≠ 0) (le : e.length = n) (lw : w.length = n) (hs : colsQ A = A) (hM : ledV M w = ledV A e) :
    dotQ w (ledV (mixM (mixM M 1 (colsQ M)) (-1) A) w) = dotQ e (ledV A e) - dotQ (subR e w) (ledV A (subR e w)) := by
  have sC := sM.cols hn
  have s1 := mixM_sq (x := 1) sM sC
  have s2 := mixM_sq (x := -1) s1 sA
  have lb := subR_len le lw
  have h0 : bil n (fun i => w.getD i 0) (ent M) (fun i => w.getD i 0) = bil n (fun i => w.getD i 0) (ent A) (fun i => e.getD i 0) := by
    rw [← bil_eq sM lw lw, ← bil_eq sA lw le, hM]
  have hA : bil n (fun i => e.getD i 0) (ent A) (fun i => w.getD i 0) = bil n (fun i => w.getD i 0) (ent A) (fun i => e.getD i 0) := by
    rw [bil_tr]
    exact bil_congr (fun _ _ => rfl) (fun i k hi hk => by rw [← ent_cols sA hn hi hk, hs]) (fun _ _ => rfl)
  have hT : bil n (fun i => w.getD i 0) (fun i k => ent M k i) (fun i => w.getD i 0) = bil n (fun i => w.getD i 0) (ent M) (fun i => w.getD i 0) := by
    rw [bil_tr]
  rw [bil_eq s2 lw lw, bil_eq sA le le, bil_eq sA lb lb]
  rw [bil_congr (A' := fun i k => (fun i k => ent M i k + 1 * (fun i k => ent M k i) i k) i k + (-1) * ent A i k) (fun _ _ => rfl) (fun i k hi hk => by rw [ent_mix s1 sA hi hk, ent_mix sM sC hi hk, ent_cols sM hn hi hk]) (fun _ _ => rfl), bil_mix, bil_mix, hT, h0]
  rw [bil_congr (X := fun i => (subR e w).getD i 0) (X' := fun i => e.getD i 0 + (-1) * w.getD i 0) (Y' := fun i => e.getD i 0 + (-1) * w.getD i 0) (fun i hi => by rw [subR_get le lw hi]; grind) (fun _ _ _ _ => rfl) (fun i hi => by rw [subR_get le lw hi]; grind), bil_lin, bil_linR, bil_linR, hA]
  grind
end DL
-- DTQ
set_option maxRecDepth 100000
namespace DL
open PySem PySem.Spec PyProof.Rows L2
/-! forms above 0 and first determinants -/
def PD (n : Nat) (A : Mx) : Prop := ∀ X : Nat → Rat, (∃ i, i < n ∧ X i ≠ 0) → 0 < bil n X A X
def Lead (n : Nat) (A : Mx) : Prop := ∀ k, 1 ≤ k → k ≤ n → 0 < det k A
theorem det_zero_row (A : Mx) : det 0 A = 1 := rfl
theorem clr_to {n : Nat} {A : Mx} : ∀ {k : Nat}, k ≤ n → (∀ j, 1 ≤ j → j ≤ k → det j A ≠ 0) → ∃ L, Clr n n k (det k A) A L
  | 0, _, _ => ⟨A, clr_start n n A⟩
  | k + 1, hk, h => by
    obtain ⟨L, hL⟩ := clr_to (n := n) (k := k) (by omega) fun j h1 h2 => h j h1 (by omega)
    have hd : det k A ≠ 0 := by
      cases k with
      | zero => rw [det_zero_row]; decide
      | succ k => exact h _ (by omega) (by omega)
    have s := clr_step hL hd (by omega)
    have e := clr_pivot hL hd rfl (by omega) (by omega)
    rw [← e] at s
    exact ⟨_, s⟩
theorem det_ne {n : Nat} {A : Mx} (h : ∀ j, 1 ≤ j → j ≤ n → det j A ≠ 0) : det n A ≠ 0 := by
  cases n with
  | zero => rw [det_zero_row]; decide
  | succ k => exact h _ (by omega) (by omega)
theorem corner_row {n : Nat} {A : Mx} (h : ∀ j, 1 ≤ j → j ≤ n → det j A ≠ 0) : ∃ (y : Nat → Rat) (c : Rat), (∀ i, i < n → sumN n (fun k => A i k * y k) + A i n = 0) ∧ sumN n (fun k => A n k * y k) + A n n = c ∧ c * det n A = det (n + 1) A := by
  obtain ⟨L, hL⟩ := clr_to (n := n + 1) (k := n) (by omega) h
  have hd := det_ne h
  have e := clr_pivot hL hd rfl (by omega) (by omega)
  have e2 : ∀ i, sumN n (fun k => A i k * (-(L k n) / det n A)) * det n A = -sumN n (fun k => A i k * L k n) := fun i => by
    rw [← sumN_right, ← sumN_neg]
    exact sumN_congr fun k _ => by grind
  refine ⟨fun k => -(L k n) / det n A, _, fun i hi => ?_, rfl, ?_⟩
  · have := hL i n (by omega) (by omega)
    rw [if_neg (by omega), Rat.add_zero] at this
    have e3 := e2 i
    rw [this] at e3
    grind
  · have := hL n n (by omega) (by omega)
    rw [if_pos (Nat.le_refl n)] at this
    have e3 := e2 n
    rw [e]
    grind
theorem form_split {n : Nat} {A : Mx} {X y : Nat → Rat} {c : Rat} (sym : ∀ i k, i < n + 1 → k < n + 1 → A i k = A k i) (h1 : ∀ i, i < n → sumN n (fun k => A i k * y k) + A i n = 0) (h2 : sumN n (fun k => A n k * y k) + A n n = c) :
    bil (n + 1) X A X = bil n (fun i => X i - X n * y i) A (fun i => X i - X n * y i) + X n * X n * c := by
  have a1 : ∀ i, sumN n (fun k => A i k * X k) = sumN n (fun k => A i k * (X k - X n * y k)) + X n * sumN n (fun k => A i k * y k) := fun i => by
    rw [← sumN_left, ← sumN_add]
    exact sumN_congr fun k _ => by grind
  have a2 : ∀ i, i < n → sumN n (fun k => A i k * X k) + A i n * X n = sumN n (fun k => A i k * (X k - X n * y k)) := fun i hi => by
    rw [a1 i]
    have := h1 i hi
    grind
  have a3 : bil n y A (fun i => X i - X n * y i) = -sumN n (fun k => A n k * (X k - X n * y k)) := by
    rw [bil_tr]
    unfold bil
    rw [← sumN_neg]
    exact sumN_congr fun i hi => by
      have e : sumN n (fun k => A k i * y k) = sumN n (fun k => A i k * y k) := sumN_congr fun k hk => by rw [sym k i (by omega) (by omega)]
      have := h1 i hi
      rw [e, sym n i (by omega) (by omega)]
      grind
  have a4 : bil (n + 1) X A X = sumN n (fun i => X i * (sumN n (fun k => A i k * X k) + A i n * X n)) + X n * (sumN n (fun k => A n k * X k) + A n n * X n) := rfl
  have a5 : sumN n (fun i => X i * (sumN n (fun k => A i k * X k) + A i n * X n)) = bil n (fun i => X i - X n * y i) A (fun i => X i - X n * y i) + X n * bil n y A (fun i => X i - X n * y i) := by
    rw [← bil_lin]
    unfold bil
    exact sumN_congr fun i hi => by
      rw [a2 i hi]
      grind
  rw [a4, a5, a3, a1 n]
  grind
theorem sq_pos {t : Rat} (h : t ≠ 0) : 0 < t * t := by
  by_cases q : t < 0
  · have := Rat.mul_pos (a := -t) (b := -t) (by grind) (by grind)
    grind
  · have : 0 < t := by grind
    exact Rat.mul_pos this this
theorem bil_zero {n : Nat} {A : Mx} {X : Nat → Rat} (h : ∀ i, i < n → X i = 0) : bil n X A X = 0 := by
  unfold bil
  rw [sumN_congr (g := fun _ => 0) fun i hi => by rw [h i hi, Rat.zero_mul], sumN_zero]
theorem pos_of_mul {c d e : Rat} (h : c * d = e) (hd : 0 < d) (he : 0 < e) : 0 < c := by
  have c0 : c ≠ 0 := fun z => by
    rw [z, Rat.zero_mul] at h
    grind
  by_cases q : c < 0
  · have := Rat.mul_pos (a := -c) (b := d) (by grind) hd
    grind
  · grind
theorem pd_of_lead : ∀ {n : Nat} {A : Mx}, (∀ i k, i < n → k < n → A i k = A k i) → Lead n A → PD n A
  | 0, _, _, _ => fun X ⟨i, hi, _⟩ => absurd hi (Nat.not_lt_zero i)
  | n + 1, A, sym, hl => fun X ⟨i, hi, hx⟩ => by
    have ih := pd_of_lead (n := n) (A := A) (fun i k h1 h2 => sym i k (by omega) (by omega)) fun k h1 h2 => hl k h1 (by omega)
    have hne : ∀ j, 1 ≤ j → j ≤ n → det j A ≠ 0 := fun j h1 h2 z => by
      have := hl j h1 (by omega)
      rw [z] at this
      grind
    obtain ⟨y, c, h1, h2, h3⟩ := corner_row hne
    have dn : 0 < det n A := by
      cases n with
      | zero => rw [det_zero_row]; decide
      | succ k => exact hl _ (by omega) (by omega)
    have hc : 0 < c := pos_of_mul h3 dn (hl (n + 1) (by omega) (Nat.le_refl _))
    rw [form_split sym h1 h2]
    by_cases t : X n = 0
    · have : i < n := by
        rcases Nat.lt_or_ge i n with q | q
        · exact q
        · have : i = n := by omega
          rw [this] at hx
          exact absurd t hx
      have := ih (fun i => X i - X n * y i) ⟨i, this, by rw [t]; grind⟩
      rw [t] at this ⊢
      grind
    · have p1 := Rat.mul_pos (sq_pos t) hc
      by_cases z : ∃ i, i < n ∧ X i - X n * y i ≠ 0
      · have := ih (fun i => X i - X n * y i) z
        grind
      · rw [bil_zero fun i hi => by
          by_cases w : X i - X n * y i = 0
          · exact w
          · exact absurd ⟨i, hi, w⟩ z]
        grind
theorem bil_under {n : Nat} {A : Mx} {X : Nat → Rat} : bil (n + 1) (fun i => if i < n then X i else 0) A (fun i => if i < n then X i else 0) = bil n X A X := by
  have e : bil (n + 1) (fun i => if i < n then X i else 0) A (fun i => if i < n then X i else 0) = sumN n (fun i => (if i < n then X i else 0) * (sumN n (fun k => A i k * (if k < n then X k else 0)) + A i n * (if n < n then X n else 0))) + (if n < n then X n else 0) * (sumN n (fun k => A n k * (if k < n then X k else 0)) + A n n * (if n < n then X n else 0)) := rfl
  rw [e, if_neg (show ¬ n < n by omega)]
  unfold bil
  rw [sumN_congr (g := fun i => X i * sumN n fun k => A i k * X k) fun i hi => by rw [if_pos hi, sumN_congr (g := fun k => A i k * X k) fun k hk => by rw [if_pos hk]]; grind]
  grind
theorem lead_of_pd : ∀ {n : Nat} {A : Mx}, (∀ i k, i < n → k < n → A i k = A k i) → PD n A → Lead n A
  | 0, _, _, _ => fun k h1 h2 => by omega
  | n + 1, A, sym, hp => by
    have ih := lead_of_pd (n := n) (A := A) (fun i k h1 h2 => sym i k (by omega) (by omega)) fun X ⟨i, hi, hx⟩ => by
      rw [← bil_under]
      exact hp _ ⟨i, by omega, by rw [if_pos hi]; exact hx⟩
    intro k h1 h2
    rcases Nat.lt_or_ge k (n + 1) with q | q
    · exact ih k h1 (by omega)
    have hk : k = n + 1 := by omega
    subst hk
    have hne : ∀ j, 1 ≤ j → j ≤ n → det j A ≠ 0 := fun j h1 h2 z => by
      have := ih j h1 h2
      rw [z] at this
      grind
    obtain ⟨y, c, g1, g2, g3⟩ := corner_row hne
    have dn : 0 < det n A := by
      cases n with
      | zero => rw [det_zero_row]; decide
      | succ k => exact ih _ (by omega) (by omega)
    have := hp (fun i => if i < n then y i else 1) ⟨n, by omega, by rw [if_neg (by omega)]; decide⟩
    rw [form_split sym g1 g2, bil_zero fun i hi => by rw [if_pos hi, if_neg (by omega)]; grind] at this
    rw [if_neg (by omega)] at this
    have hc : 0 < c := by grind
    rw [← g3]
    exact Rat.mul_pos hc dn
/-- a table S' D S -/
theorem sds_form {n : Nat} {S B : Mx} {a X : Nat → Rat} (h : ∀ i k, i < n → k < n → B i k = sumN n fun j => S j i * (a j * S j k)) :
    bil n X B X = sumN n fun j => a j * ((sumN n fun k => S j k * X k) * (sumN n fun k => S j k * X k)) := by
  rw [bil_congr (A' := fun i k => sumN n fun j => S j i * (a j * S j k)) (fun _ _ => rfl) h (fun _ _ => rfl)]
  have e1 : ∀ i, (sumN n fun k => (sumN n fun j => S j i * (a j * S j k)) * X k) = sumN n fun j => S j i * (a j * sumN n fun k => S j k * X k) := fun i => by
    rw [sumN_congr fun k _ => (sumN_right (X k) n _).symm, sumN_swap]
    exact sumN_congr fun j _ => by
      rw [← sumN_left, ← sumN_left]
      exact sumN_congr fun k _ => by grind
  unfold bil
  rw [sumN_congr fun i _ => by rw [e1 i, ← sumN_left], sumN_swap]
  exact sumN_congr fun j _ => by
    have e2 : ∀ u : Rat, (sumN n fun i => X i * (S j i * (a j * u))) = (a j * u) * sumN n fun i => S j i * X i := fun u => by
      rw [← sumN_left]
      exact sumN_congr fun i _ => by grind
    rw [e2]
    grind
theorem sum_pos {n : Nat} {f : Nat → Rat} (h : ∀ i, i < n → 0 ≤ f i) {j : Nat} (hj : j < n) (hf : 0 < f j) : 0 < sumN n f := by
  induction n with
  | zero => omega
  | succ n ih =>
    have e : sumN (n + 1) f = sumN n f + f n := rfl
    have nn : ∀ m, m ≤ n → 0 ≤ sumN m f := fun m hm => by
      induction m with
      | zero => exact Rat.le_refl
      | succ m ihm =>
        have e : sumN (m + 1) f = sumN m f + f m := rfl
        have := ihm (by omega)
        have := h m (by omega)
        grind
    rw [e]
    have h1 := h n (by omega)
    by_cases q : j = n
    · subst q
      have := nn j (Nat.le_refl _)
      grind
    · have := ih (fun i hi => h i (by omega)) (by omega)
      grind
end DL
-- DTR
set_option maxRecDepth 100000
namespace DL
open PySem PySem.Spec PyProof.Rows L2
/-! a tuple some times, never as well -/
theorem tuple_mul0 (l : Addr) (items : Array Value) (n : Nat) (dd : Option Addr) (sl : Array (Option Value)) (u : Tok) (c1 : items.isEmpty = false) :
    Meets (Builtin.«tuple.__mul__» ⟨[.ref l, .int 0 u], []⟩) (fun _ R s => s.heap.get? l = some { cls := .type "tuple", dict := dd, data := .seq items n, slots := sl } ∧
      R (.ok (.ret (Value.ref s.heap.objs.size))) { s with heap := s.heap.push { cls := Value.type "tuple", data := Data.seq #[] }, toks := s.toks }) :=
  .of_wp fun prog w A R s h => by
    obtain ⟨hp, g, d, tk, os⟩ := s
    obtain ⟨hl, h⟩ := h
    have f1 := AutoSeq1.idx_int
    have c2 : (items.isEmpty || (0 : Int) == 1) = false := by rw [c1, Bool.false_or]; rfl
    have c3 : (decide ((0 : Int) ≤ 0) || items.isEmpty) = true := by rw [show decide ((0 : Int) ≤ 0) = true from rfl, Bool.true_or]
    wp_walk using wpAny_loadPart' hl
    repeat (first
      | (refine wpAny_ite_false (by decide) ?_; wp_walk using wpAny_loadPart' hl)
      | (refine wpAny_ite_false (decide_eq_false (by rw [c2]; exact Bool.false_ne_true)) ?_; wp_walk using wpAny_loadPart' hl)
      | (refine wpAny_ite_true (decide_eq_true (by rw [c3])) ?_; wp_walk using wpAny_loadPart' hl))
    exact ⟨_, rfl, h⟩
def rRepT0 (K : PySem.W.Frag) : R2 := fun x y H Q => ∃ l xs, x = .ref l ∧ y = .int 0 ∧ SqT K H l xs ∧ xs ≠ [] ∧ ∀ p, H p = none → Q (.ref p) (upd H p (.tup []))
section
variable {X : Cx}
theorem op_repT0 : OpR X (binaryOp .Mult) (rRepT0 X.K) := by
  intro pins s σ H x y v u Q I rx ry h
  obtain ⟨l, xs, rfl, rfl, hT, hne, q⟩ := h
  cases rx
  obtain ⟨t, rfl⟩ := ry
  obtain ⟨its, r, ⟨⟨cls, dd, data, sl⟩, ho, hc, n, hd⟩, hs⟩ := I.tuple hT
  simp only at hc hd
  subst hc hd
  have hle : its.length = xs.length := r.length.symm
  have hi : its.toArray.isEmpty = false := by
    cases its with
    | nil => exact absurd (List.eq_nil_of_length_eq_zero hle.symm) hne
    | cons a b => rfl
  refine wpAny_binaryOp_repeat_ref (T := "tuple") (U := "int") (by decide) ⟨_, ho, rfl⟩ (fun s' => typeIs_int s' 0 t) noFill_tuple_mul F.fills_int_mul F.slot_int_rmul repeat_tuple F.slot_int_index.lookup
    (call_meets F.slot_int_rmul (typeIs_int s 0 t) F.entry_int_rmul (F.args_int_rmul_2 _ _) (int_rmul_tuple 0 t l its.toArray n dd sl)
      ⟨ho, rfl, ⟨_, ho, rfl⟩, call_meets F.slot_tuple_mul ⟨_, ho, rfl⟩ F.entry_tuple_mul (F.args_tuple_mul_2 _ _) (tuple_mul0 l its.toArray n dd sl t hi) ⟨ho, ?_⟩⟩)
  refine ⟨.ref s.heap.objs.size, _, I.laid (t' := s.toks) (o := .tup []) (fun b ob q => Heap.get?_push_of_some _ q) (Nat.le_refl _) ?_, rfl, q _ (I.hok.fresh (Nat.le_refl _))⟩
  exact ⟨by rw [sizeLine_eq]; decide, _, .nil, IsTup.new _ _⟩
end
def dMulT0 : RD2 := fun x y μ Q => ∃ xs j, x = .tup xs ∧ y = .int j ∧ xs ≠ [] ∧ 0 ≤ j ∧ j ≤ 1000 ∧ xs.length ≤ 1000 ∧ Q (.tup (List.replicate j.toNat xs).flatten) μ
theorem lift_mulT0 {K : PySem.W.Frag} : Lift2 K (fun x y H Q => (rRepT K x y H Q ∨ rRepT1 K x y H Q) ∨ rRepT0 K x y H Q) dMulT0 := fun x y dx dy F μ H Q QD l rx ry ⟨xs, j, ex, ey, h0, h1, h2, h3, q⟩ k => by
  by_cases e : j = 0
  · subst ex ey e
    obtain ⟨a, vs, rfl, g1, _, r1⟩ := tup_rep l rx
    have e := rep_int ry
    subst e
    have ef : (List.replicate (Int.toNat 0) xs).flatten = [] := rfl
    rw [ef] at q
    exact .inr ⟨a, vs, rfl, rfl, g1, fun z => h0 (reps_nil (by rw [← z]; exact r1)), fin_tup l .nil q k⟩
  · exact .inl (lift_mulT x y dx dy F μ H Q QD l rx ry ⟨xs, j, ex, ey, h0, by omega, h2, h3, q⟩ k)
theorem op_mulT0 {X : Cx} : OpR X (binaryOp .Mult) (fun x y H Q => (rRepT X.K x y H Q ∨ rRepT1 X.K x y H Q) ∨ rRepT0 X.K x y H Q) := OpR.or op_mulT op_repT0
theorem x_mulT0 {xs : List D} {j : Int} {μ : Mem} {Q : DK} (h : xs ≠ []) (h1 : 0 ≤ j) (h2 : j ≤ 1000) (h3 : xs.length ≤ 1000) (k : Q (.tup (List.replicate j.toNat xs).flatten) μ) : dMulT0 (.tup xs) (.int j) μ Q := ⟨xs, j, rfl, rfl, h, h1, h2, h3, k⟩
end DL
-- DTS
set_option maxRecDepth 100000
namespace DL
open PySem PySem.Spec PyProof.Rows L2
/-! a changing list that changes no more from a statement on -/
def dFrz (i : Nat) (st : TDS) : TDS := fun ED δ μ => ∃ p xs, δ[i]? = some (some (.ref p)) ∧ μ p = some xs ∧ st ED (δ.set i (some (.lst xs))) (mdel μ p)
theorem ds_frz {X : Cx} {s : Stmt} {st : TDS} (i : Nat) (h : DS X s st) : DS X s (dFrz i st) := PS.weak h fun D σ H ⟨δ, F, μ, ED, l, rs, ⟨p, xs, e, hm, q⟩, k⟩ => by
  obtain ⟨v, e1, r1⟩ := rs.get e
  obtain ⟨vs, hH, hF, l2, r2⟩ := l.freeze hm
  have ev := rep_ref r1
  subst ev
  have ex : Ex F (upd F p (.lst vs)) := Ex.new hF
  have r3 := RepSt.set r2 i (rs.mono ex)
  have es : σ.set i (some (.ref p)) = σ := by
    refine List.ext_getElem? fun j => ?_
    rw [List.getElem?_set]
    by_cases a : i = j
    · subst a
      have hl : i < σ.length := by
        by_cases z : i < σ.length
        · exact z
        · rw [List.getElem?_eq_none (by omega)] at e1
          cases e1
      rw [if_pos rfl, if_pos hl, e1]
    · rw [if_neg a]
  rw [es] at r3
  exact ⟨_, _, _, ED, l2, r3, q, k.mono ex⟩
theorem x_frz {i : Nat} {st : TDS} {ED : DEnds} {δ : DSt} {μ : Mem} {p : Addr} {xs : List D} (h : δ[i]? = some (some (.ref p))) (hm : μ p = some xs) (q : st ED (δ.set i (some (.lst xs))) (mdel μ p)) : dFrz i st ED δ μ := ⟨p, xs, h, hm, q⟩
end DL
-- DTV
set_option maxRecDepth 100000
namespace DL
open PySem PySem.Spec PyProof.Rows L2 PySem.HandSPX
/-! comprehensions of two loops -/
def lcI1 (g : Tg) (tt : TDT) (te : TD) (δ : DSt) (Dn : Addr) : List D → Mem → (Mem → Prop) → Prop
  | [], μ, k => k μ
  | d :: ds, μ, k => lcStep g tt te δ d μ fun o μ4 => ∃ acc, μ4 Dn = some acc ∧ acc.length < 1000000 ∧ match o with
    | some y => lcI1 g tt te δ Dn ds (mset μ4 Dn (acc ++ [y])) k
    | none => lcI1 g tt te δ Dn ds μ4 k
def lcO (g : Tg) (tt : TDT) (wi1 : TDI) (g1 : Tg) (tt1 : TDT) (te : TD) (vs1 : List Nat) (δ : DSt) (Dn : Addr) : List D → Mem → DK → Prop
  | [], μ, Q => ∃ acc, μ Dn = some acc ∧ Q (.lst acc) (mdel μ Dn)
  | d :: ds, μ, Q => dTg g d δ fun δ2 => tt δ2 μ fun b μ3 => if b = true then wi1 δ2 μ3 fun ds1 μ4 => lcI1 g1 tt1 te (wipeD δ2 vs1) Dn ds1 μ4 (fun μ5 => lcO g tt wi1 g1 tt1 te vs1 δ Dn ds μ5 Q) else lcO g tt wi1 g1 tt1 te vs1 δ Dn ds μ3 Q
def dLc2 (wi : TDI) (g : Tg) (tt : TDT) (wi1 : TDI) (g1 : Tg) (tt1 : TDT) (te : TD) (vs vs1 : List Nat) : TD := fun δ μ Q => wi δ μ fun ds μ1 => ∀ Dn, μ1 Dn = none → lcO g tt wi1 g1 tt1 te vs1 (wipeD δ vs) Dn ds (mset μ1 Dn []) Q
theorem lc2_sound {wi wi1 : TDI} {g g1 : Tg} {tt tt1 : TDT} {te : TD} {vs vs1 : List Nat} {K : PySem.W.Frag} (hv : ∀ i ∈ g.slots, i ∈ vs) (hv1 : ∀ i ∈ g1.slots, i ∈ vs1) {σ : L2.St} {H : Hp} {Q : VK} (h : eOf K (dLc2 wi g tt wi1 g1 tt1 te vs vs1) σ H Q) :
    tLc2 (iOf K wi) (hTg K g) (bOf K tt) (iOf K wi1) (hTg K g1) (bOf K tt1) (eOf K te) vs vs1 σ H Q := by
  obtain ⟨δ, F, μ, QD, l, rs, q, k⟩ := h
  refine ⟨δ, F, μ, _, l, rs, q, fun J ds F1 μ1 H1 e1 l1 j q1 Dn hD => ?_⟩
  have q1 := q1 Dn (l1.none_mu hD)
  refine ⟨fun i m H => ∃ F2 μ2, Ex F1 F2 ∧ Lay K F2 μ2 H ∧ lcO g tt wi1 g1 tt1 te vs1 (wipeD δ vs) Dn (ds.drop i) μ2 QD ∧ i ≤ ds.length ∧ m = ds.length - i,
    ⟨ds.length, F1, _, Ex.refl F1, l1.newM hD .nil, q1, Nat.zero_le _, rfl⟩, ?_⟩
  rintro i m H2 ⟨F2, μ2, e2, l2, q2, hle, rfl⟩
  obtain ⟨j1, j2⟩ := j i F2 _ H2 e2 l2 hle
  by_cases hlt : i < ds.length
  · refine .inr ⟨(j1 _ (List.getElem?_eq_getElem hlt)).1, fun H => ∃ F3 μ3, Ex F1 F3 ∧ Lay K F3 μ3 H ∧ lcO g tt wi1 g1 tt1 te vs1 (wipeD δ vs) Dn (ds.drop (i + 1)) μ3 QD,
      fun H' ⟨F3, μ3, e3, l3, q3⟩ => ⟨ds.length - (i + 1), by omega, F3, μ3, e3, l3, q3, hlt, rfl⟩, fun x H3 y => ?_⟩
    obtain ⟨F3, e3, l3, rx⟩ := (j1 _ (List.getElem?_eq_getElem hlt)).2 x H3 y
    rw [List.drop_eq_getElem_cons hlt] at q2
    have rw2 : RepSt K F3 (wipe σ vs) (wipeD δ vs) := repSt_wipe (rs.mono ((e1.trans e2).trans e3)) vs
    refine hTg_run l3 g rx rw2 q2 fun σ' δ' r' q' hw => ⟨?_, ?_⟩
    · rw [hw vs hv, wipe_wipe vs σ vs fun _ z => z]
    · refine ⟨δ', F3, μ2, _, l3, r', q', fun b F4 μ4 H4 e4 l4 q4 => ?_⟩
      cases b with
      | false => exact ⟨F4, μ4, (e2.trans e3).trans e4, l4, q4⟩
      | true =>
        refine ⟨δ', F4, μ4, _, l4, r'.mono e4, q4, fun J1 ds1 F5 μ5 H5 e5 l5 jj q5 => ?_⟩
        refine ⟨fun i1 m1 H => ∃ F6 μ6, Ex F5 F6 ∧ Lay K F6 μ6 H ∧ lcI1 g1 tt1 te (wipeD δ' vs1) Dn (ds1.drop i1) μ6 (fun μ => lcO g tt wi1 g1 tt1 te vs1 (wipeD δ vs) Dn (ds.drop (i + 1)) μ QD) ∧ i1 ≤ ds1.length ∧ m1 = ds1.length - i1,
          ⟨ds1.length, F5, μ5, Ex.refl F5, l5, q5, Nat.zero_le _, rfl⟩, ?_⟩
        rintro i1 m1 H6 ⟨F6, μ6, e6, l6, q6, hle1, rfl⟩
        obtain ⟨k1, k2⟩ := jj i1 F6 _ H6 e6 l6 hle1
        by_cases hlt1 : i1 < ds1.length
        · refine .inr ⟨(k1 _ (List.getElem?_eq_getElem hlt1)).1, fun H => ∃ F7 μ7, Ex F5 F7 ∧ Lay K F7 μ7 H ∧ lcI1 g1 tt1 te (wipeD δ' vs1) Dn (ds1.drop (i1 + 1)) μ7 (fun μ => lcO g tt wi1 g1 tt1 te vs1 (wipeD δ vs) Dn (ds.drop (i + 1)) μ QD),
            fun H' ⟨F7, μ7, e7, l7, q7⟩ => ⟨ds1.length - (i1 + 1), by omega, F7, μ7, e7, l7, q7, hlt1, rfl⟩, fun x1 H7 y1 => ?_⟩
          obtain ⟨F7, e7, l7, rx1⟩ := (k1 _ (List.getElem?_eq_getElem hlt1)).2 x1 H7 y1
          rw [List.drop_eq_getElem_cons hlt1] at q6
          have rw3 : RepSt K F7 (wipe σ' vs1) (wipeD δ' vs1) := repSt_wipe (r'.mono (((e4.trans e5).trans e6).trans e7)) vs1
          refine hTg_run l7 g1 rx1 rw3 q6 fun σ'' δ'' r'' q'' hw1 => ⟨?_, ?_⟩
          · rw [hw1 vs1 hv1, wipe_wipe vs1 σ' vs1 fun _ z => z]
          · refine ⟨δ'', F7, μ6, _, l7, r'', q'', fun b F8 μ8 H8 e8 l8 q8 => ?_⟩
            cases b with
            | false =>
              obtain ⟨acc, _, _, q9⟩ := q8
              exact ⟨F8, μ8, (e6.trans e7).trans e8, l8, q9⟩
            | true =>
              refine ⟨δ'', F8, μ8, _, l8, r''.mono e8, q8, fun v d F9 μ9 H9 e9 l9 r9 ⟨acc, ha, hz, q9⟩ => ?_⟩
              obtain ⟨hF, ws, hw, rws⟩ := l9.mu Dn acc ha
              exact ⟨ws, hw, by rw [rws.length]; exact mil_lt (Nat.le_of_lt hz), F9, _, ((e6.trans e7).trans e8).trans e9, l9.put ha (rws.append (.cons r9 .nil)), q9⟩
        · have e : i1 = ds1.length := by omega
          refine .inl ⟨k2 e, ?_⟩
          rw [List.drop_eq_nil_of_le (by omega)] at q6
          exact ⟨F6, μ6, ((((e2.trans e3).trans e4).trans e5).trans e6), l6, q6⟩
  · have e : i = ds.length := by omega
    refine .inl ⟨j2 e, ?_⟩
    rw [List.drop_eq_nil_of_le (by omega)] at q2
    obtain ⟨acc, ha, q3⟩ := q2
    obtain ⟨ws, _, hn, l3, r3⟩ := l2.freeze (p := Dn) ha
    exact k _ _ _ _ H2 ((e1.trans e2).trans (Ex.new hn)) l3 r3 q3
section
variable {X : Cx} {elt tg iter tg1 iter1 : Expr} {ifs ifs1 : List Expr} {scope : Scope} {own : List (Str × Nat)} {wi wi1 : TDI} {g g1 : Tg} {tt tt1 : TDT} {te : TD} {pos : Pos}
theorem de_lc2 (hc : X.calm = true) (hN : X.N.Nodup) (hi : DI X tg iter wi) (ok : BlkOk X.N X.env.scope scope own) (hv : ∀ i ∈ g.slots, i ∈ own.map (·.2)) (hv1 : ∀ i ∈ g1.slots, i ∈ own.map (·.2))
    (hg : ∀ (s : Shared) (H : Hp) (C : Addr) (cl : List (Str × Addr)) (fp : List Addr), PG (X.blk s H scope (compEnvC scope cl C X.env) fp) tg (hTg X.K g)) (ht : ∀ (s : Shared) (H : Hp) (C : Addr) (cl : List (Str × Addr)) (fp : List Addr), DTs (X.blk s H scope (compEnvC scope cl C X.env) fp) ifs tt)
    (hi1 : ∀ (s : Shared) (H : Hp) (C : Addr) (cl : List (Str × Addr)) (fp : List Addr), DI (X.blk s H scope (compEnvC scope cl C X.env) fp) tg1 iter1 wi1)
    (hg1 : ∀ (s : Shared) (H : Hp) (C : Addr) (cl : List (Str × Addr)) (fp : List Addr), PG (X.blk s H scope (compEnvC scope cl C X.env) fp) tg1 (hTg X.K g1)) (ht1 : ∀ (s : Shared) (H : Hp) (C : Addr) (cl : List (Str × Addr)) (fp : List Addr), DTs (X.blk s H scope (compEnvC scope cl C X.env) fp) ifs1 tt1)
    (he : ∀ (s : Shared) (H : Hp) (C : Addr) (cl : List (Str × Addr)) (fp : List Addr), DE (X.blk s H scope (compEnvC scope cl C X.env) fp) elt te) (hs : ∀ x, foldedSetIterable iter X.env x = pure x := by intro _; rfl) (hs1 : ∀ env x, foldedSetIterable iter1 env x = pure x := by intro _ _; rfl) :
    DE X (.ListComp elt [⟨tg, iter, ifs, 0⟩, ⟨tg1, iter1, ifs1, 0⟩] scope pos) (dLc2 wi g tt wi1 g1 tt1 te (own.map (·.2)) g1.slots) :=
  PE.weak (pe_lc2 hc hN hi ok hv1 hg ht hi1 hg1 ht1 he hs hs1) fun _ _ _ h => lc2_sound hv (fun _ z => z) h
end
theorem lcI1_map {α : Type} {g : Tg} {tt : TDT} {te : TD} {δ : DSt} {μ : Mem} {Dn : Addr} (u v : α → D) : ∀ (xs : List α) (acc : List D) {k : Mem → Prop}, acc.length + xs.length ≤ 1000000 → μ Dn = none →
    (∀ x ∈ xs, ∀ acc k, k (some (v x)) (mset μ Dn acc) → lcStep g tt te δ (u x) (mset μ Dn acc) k) → k (mset μ Dn (acc ++ xs.map v)) → lcI1 g tt te δ Dn (xs.map u) (mset μ Dn acc) k
  | [], acc, k, _, _, _, q => by rw [List.map_nil, List.append_nil] at q; exact q
  | x :: xs, acc, k, hz, hn, st, q => by
    refine st x List.mem_cons_self _ _ ⟨acc, mset_same, by rw [List.length_cons] at hz; omega, ?_⟩
    show lcI1 g tt te δ Dn (xs.map u) (mset (mset μ Dn acc) Dn (acc ++ [v x])) k
    rw [mset_mset]
    refine lcI1_map u v xs (acc ++ [v x]) (by rw [List.length_append, List.length_singleton]; rw [List.length_cons] at hz; omega) hn (fun y hy => st y (List.mem_cons_of_mem _ hy)) ?_
    rw [List.append_assoc]
    exact q
theorem x_lc2 {wi wi1 : TDI} {g g1 : Tg} {tt tt1 : TDT} {te : TD} {vs vs1 : List Nat} {δ : DSt} {μ : Mem} {Q : DK} (k : wi δ μ fun ds μ1 => ∀ Dn, μ1 Dn = none → lcO g tt wi1 g1 tt1 te vs1 (wipeD δ vs) Dn ds (mset μ1 Dn []) Q) : dLc2 wi g tt wi1 g1 tt1 te vs vs1 δ μ Q := k
/-- each of the first loop's things gives some in the second -/
theorem lcO_map {α : Type} {g : Tg} {tt : TDT} {wi1 : TDI} {g1 : Tg} {tt1 : TDT} {te : TD} {vs1 : List Nat} {δ : DSt} {μ : Mem} {Dn : Addr} {Q : DK} (u : α → D) (v : α → List D) : ∀ (xs : List α) (acc : List D), acc.length + (xs.flatMap v).length ≤ 1000000 → μ Dn = none →
    (∀ x ∈ xs, ∀ acc (k : Mem → Prop), acc.length + (v x).length ≤ 1000000 → k (mset μ Dn (acc ++ v x)) → ∀ els : Mem → Prop, dTg g (u x) δ fun δ2 => tt δ2 (mset μ Dn acc) fun b μ3 => if b = true then wi1 δ2 μ3 fun ds1 μ4 => lcI1 g1 tt1 te (wipeD δ2 vs1) Dn ds1 μ4 k else els μ3) →
    Q (.lst (acc ++ xs.flatMap v)) μ → lcO g tt wi1 g1 tt1 te vs1 δ Dn (xs.map u) (mset μ Dn acc) Q
  | [], acc, _, hn, _, q => ⟨acc, mset_same, by rw [mdel_mset hn]; rw [List.flatMap_nil, List.append_nil] at q; exact q⟩
  | x :: xs, acc, hz, hn, st, q => by
    rw [List.flatMap_cons, List.length_append] at hz
    refine st x List.mem_cons_self acc _ (by omega) ?_ _
    refine lcO_map u v xs (acc ++ v x) (by rw [List.length_append]; omega) hn (fun y hy => st y (List.mem_cons_of_mem _ hy)) ?_
    rw [List.append_assoc]
    rw [List.flatMap_cons] at q
    exact q
end DL
-- DTW
set_option maxRecDepth 100000
namespace DL
open PySem PySem.Spec PyProof.Rows L2
/-! the greater and the smaller of two whole numbers -/
def dMax : RDA := fun ds μ Q => ∃ i j : Int, ds = [.int i, .int j] ∧ Q (.int (max i j)) μ
def dMin : RDA := fun ds μ Q => ∃ i j : Int, ds = [.int i, .int j] ∧ Q (.int (min i j)) μ
theorem reps_two {K : PySem.W.Frag} {F : Hp} {vs : List V} {d e : D} (r : Reps K F vs [d, e]) : ∃ v u, vs = [v, u] ∧ Rep K F v d ∧ Rep K F u e := by
  cases r with
  | cons r1 r2 =>
    obtain ⟨u, rfl, r3⟩ := reps1 r2
    exact ⟨_, u, rfl, r1, r3⟩
theorem lift_max {K : PySem.W.Frag} : LiftA K (rNuC2 nuMax2) dMax := fun vs ds F μ H Q QD l rs ⟨i, j, e, q⟩ k => by
  subst e
  obtain ⟨v, u, rfl, r1, r2⟩ := reps_two rs
  have e1 := rep_int r1
  have e2 := rep_int r2
  subst e1 e2
  refine ⟨_, _, V.int (max i j), rfl, ?_, k _ _ F μ H (Ex.refl F) l (.int _) q⟩
  show some (if decide (i < j) = true then V.int j else V.int i) = some (V.int (max i j))
  by_cases h : i < j
  · rw [decide_eq_true h, if_pos rfl, show max i j = j by omega]
  · rw [decide_eq_false h, if_neg Bool.false_ne_true, show max i j = i by omega]
theorem lift_min {K : PySem.W.Frag} : LiftA K (rNuC2 nuMin2) dMin := fun vs ds F μ H Q QD l rs ⟨i, j, e, q⟩ k => by
  subst e
  obtain ⟨v, u, rfl, r1, r2⟩ := reps_two rs
  have e1 := rep_int r1
  have e2 := rep_int r2
  subst e1 e2
  refine ⟨_, _, V.int (min i j), rfl, ?_, k _ _ F μ H (Ex.refl F) l (.int _) q⟩
  show some (if decide (j < i) = true then V.int j else V.int i) = some (V.int (min i j))
  by_cases h : j < i
  · rw [decide_eq_true h, if_pos rfl, show min i j = j by omega]
  · rw [decide_eq_false h, if_neg Bool.false_ne_true, show min i j = i by omega]
theorem x_max {i j : Int} {μ : Mem} {Q : DK} (k : Q (.int (max i j)) μ) : dMax [.int i, .int j] μ Q := ⟨i, j, rfl, k⟩
theorem x_min {i j : Int} {μ : Mem} {Q : DK} (k : Q (.int (min i j)) μ) : dMin [.int i, .int j] μ Q := ⟨i, j, rfl, k⟩
/-- int() of a truth -/
def dIntB : RDA := fun ds μ Q => ∃ b : Bool, ds = [.bl b] ∧ Q (.int (if b = true then 1 else 0)) μ
theorem lift_intB {K : PySem.W.Frag} : LiftA K (fun xs H Q => (∃ i, xs = [.int i] ∧ Q (.int i) H) ∨ ∃ k, xs = [.bl k] ∧ Q (.int (if k then 1 else 0)) H) dIntB := fun vs ds F μ H Q QD l rs ⟨b, e, q⟩ k => by
  subst e
  obtain ⟨v, rfl, r⟩ := reps1 rs
  have e1 : v = .bl b := by cases r; rfl
  subst e1
  exact .inr ⟨b, rfl, k _ _ F μ H (Ex.refl F) l (.int _) q⟩
theorem x_intB {b : Bool} {μ : Mem} {Q : DK} (k : Q (.int (if b = true then 1 else 0)) μ) : dIntB [.bl b] μ Q := ⟨b, rfl, k⟩
end DL
-- DTX
set_option maxRecDepth 100000
namespace DL
open PySem PySem.Spec PyProof.Rows L2
/-! a row that a table without an inverse leads to noughts -/
theorem sumN_upto {m : Nat} {f : Nat → Rat} : ∀ {n : Nat}, m ≤ n → sumN n (fun l => if l < m then f l else 0) = sumN m f
  | 0, h => by
    have : m = 0 := by omega
    subst this
    rfl
  | n + 1, h => by
    by_cases e : m = n + 1
    · subst e
      exact sumN_congr fun k hk => by rw [if_pos hk]
    · show sumN n _ + (if n < m then f n else 0) = _
      rw [if_neg (by omega), Rat.add_zero, sumN_upto (n := n) (by omega)]
theorem gj_go {n : Nat} {A : Mx} : ∀ (m k : Nat) (R : Mx), k + m = n → GJ n n k A R → (∃ R', GJ n n n A R') ∨ ∃ k R, k < n ∧ GJ n n k A R ∧ ∀ r, k ≤ r → r < n → R r k = 0
  | 0, k, R, h, g => by
    have : k = n := by omega
    subst this
    exact .inl ⟨R, g⟩
  | m + 1, k, R, h, g => by
    by_cases z : ∃ f, k ≤ f ∧ f < n ∧ R f k ≠ 0
    · obtain ⟨f, h1, h2, h3⟩ := z
      have g2 := g.swap (show k < n by omega) h2 h1
      have e : swapR R k f k k = R f k := by unfold swapR; rw [if_pos rfl]
      exact gj_go m (k + 1) _ (by omega) (g2.step (by omega) (by omega) (by rw [e]; exact h3))
    · refine .inr ⟨k, R, by omega, g, fun r h1 h2 => ?_⟩
      by_cases e : R r k = 0
      · exact e
      · exact absurd ⟨r, h1, h2, e⟩ z
theorem ker_of {n : Nat} {A : Mx} (h : det n A = 0) : ∃ x : Nat → Rat, (∃ i, i < n ∧ x i ≠ 0) ∧ ∀ r, r < n → sumN n (fun l => A r l * x l) = 0 := by
  rcases gj_go (n := n) (A := A) n 0 A (by omega) GJ.start with ⟨R, g⟩ | ⟨k, R, hk, g, z⟩
  · exact absurd h g.end_.1
  · obtain ⟨kn, P, h1, h2, h3, _⟩ := g
    refine ⟨fun l => if l < k then -R l k else if l = k then 1 else 0, ⟨k, hk, ?_⟩, fun r' hr' => ?_⟩
    · show (if k < k then -R k k else if k = k then (1 : Rat) else 0) ≠ 0
      rw [if_neg (Nat.lt_irrefl k), if_pos rfl]
      decide
    · obtain ⟨r, hr, e⟩ := h2 r' hr'
      have c := h3 r k hr hk
      have e0 : (if k ≤ r then R r k else 0) = 0 := by
        split
        · rename_i q
          exact z r q hr
        · rfl
      rw [e0, Rat.add_zero, Rat.one_mul] at c
      rw [sumN_congr (g := fun l => (if l < k then -(P r l * R l k) else 0) + (if l = k then P r l else 0)) fun l _ => ?_, sumN_add, sumN_upto (f := fun l => -(P r l * R l k)) (Nat.le_of_lt hk), sumN_one (fun l => P r l) hk, sumN_neg, c]
      · grind
      · rw [← e l]
        show P r l * (if l < k then -R l k else if l = k then 1 else 0) = _
        by_cases a : l < k
        · rw [if_pos a, if_pos a, if_neg (show ¬ l = k by omega)]
          grind
        · rw [if_neg a, if_neg a]
          by_cases b : l = k
          · rw [if_pos b, if_pos b]
            grind
          · rw [if_neg b, if_neg b]
            grind
/-! sizes -/
def absQ (q : Rat) : Rat := if q < 0 then -q else q
theorem absQ_nn (q : Rat) : 0 ≤ absQ q := by
  unfold absQ
  split <;> grind
theorem absQ_le (q : Rat) : q ≤ absQ q := by
  unfold absQ
  split <;> grind
theorem absQ_neg (q : Rat) : absQ (-q) = absQ q := by
  unfold absQ
  split <;> split <;> grind
theorem absQ_le_of {q b : Rat} (h1 : q ≤ b) (h2 : -q ≤ b) : absQ q ≤ b := by
  unfold absQ
  split <;> assumption
theorem absQ_add (p q : Rat) : absQ (p + q) ≤ absQ p + absQ q := by
  have h1 := absQ_le p
  have h2 := absQ_le q
  have h3 := absQ_le (-p)
  have h4 := absQ_le (-q)
  rw [absQ_neg] at h3 h4
  exact absQ_le_of (by grind) (by grind)
theorem absQ_zero : absQ 0 = 0 := by decide +kernel
theorem absQ_pos {q : Rat} (h : 0 ≤ q) : absQ q = q := by
  unfold absQ
  rw [if_neg (by grind)]
theorem absQ_eq0 {q : Rat} (h : absQ q ≤ 0) : q = 0 := by
  have h1 := absQ_le q
  have h2 := absQ_le (-q)
  rw [absQ_neg] at h2
  grind
theorem absQ_mul (p q : Rat) : absQ (p * q) = absQ p * absQ q := by
  have nn : ∀ a b : Rat, 0 ≤ a → 0 ≤ b → absQ (a * b) = a * b := fun a b ha hb => absQ_pos (Rat.mul_nonneg ha hb)
  unfold absQ at *
  by_cases hp : p < 0
  · by_cases hq : q < 0
    · have := nn (-p) (-q) (by grind) (by grind)
      rw [if_pos hp, if_pos hq, show p * q = -p * -q by grind]
      exact this
    · have := nn (-p) q (by grind) (by grind)
      rw [if_pos hp, if_neg hq, show p * q = -(-p * q) by grind]
      have e := absQ_neg (-p * q)
      unfold absQ at e
      rw [e]
      exact this
  · by_cases hq : q < 0
    · have := nn p (-q) (by grind) (by grind)
      rw [if_neg hp, if_pos hq, show p * q = -(p * -q) by grind]
      have e := absQ_neg (p * -q)
      unfold absQ at e
      rw [e]
      exact this
    · have := nn p q (by grind) (by grind)
      rw [if_neg hp, if_neg hq]
      exact this
theorem sumN_le : ∀ {n : Nat} {f g : Nat → Rat}, (∀ k, k < n → f k ≤ g k) → sumN n f ≤ sumN n g
  | 0, _, _, _ => Rat.le_refl
  | n + 1, f, g, h => by
    have h1 := sumN_le (n := n) (f := f) (g := g) fun k hk => h k (by omega)
    have h2 := h n (by omega)
    show sumN n f + f n ≤ sumN n g + g n
    grind
theorem sumN_nn {n : Nat} {f : Nat → Rat} (h : ∀ k, k < n → 0 ≤ f k) : 0 ≤ sumN n f := by
  have := sumN_le (n := n) (f := fun _ => 0) (g := f) h
  rw [sumN_zero] at this
  exact this
theorem absQ_sum : ∀ {n : Nat} {f : Nat → Rat}, absQ (sumN n f) ≤ sumN n fun k => absQ (f k)
  | 0, f => by
    show absQ 0 ≤ 0
    rw [absQ_zero]
    exact Rat.le_refl
  | n + 1, f => by
    have h1 := absQ_sum (n := n) (f := f)
    have h2 := absQ_add (sumN n f) (f n)
    show absQ (sumN n f + f n) ≤ sumN n (fun k => absQ (f k)) + absQ (f n)
    grind
theorem absQ_fr (q : Rat) : D.tup [.int (q.num.natAbs : Int), .int (q.den : Int)] = frD (absQ q) := by
  unfold absQ
  split
  · rename_i l
    have : ¬ 0 ≤ q.num := fun z => by
      have := Rat.num_nonneg.mp z
      grind
    show _ = D.tup [.int (-q).num, .int ((-q).den : Int)]
    rw [Rat.neg_num, Rat.neg_den]
    rw [show (q.num.natAbs : Int) = -q.num by omega]
  · rename_i l
    have : 0 ≤ q.num := Rat.num_nonneg.mpr (by grind)
    show _ = D.tup [.int q.num, .int (q.den : Int)]
    rw [show (q.num.natAbs : Int) = q.num by omega]
theorem absQ_bq {k : Nat} {q : Rat} (h : BQ k q) : BQ k (absQ q) := by
  unfold absQ
  split
  · exact h.neg
  · exact h
theorem absQ_cb {d z : Nat} {q : Rat} (h : CB d z q) : CB d z (absQ q) := by
  unfold absQ
  split
  · exact h.neg
  · exact h
theorem num_posR {q : Rat} : 0 < q.num ↔ 0 < q := by
  have h1 := Rat.num_nonneg (q := q)
  have h2 := num_zero (q := q)
  constructor
  · intro h
    have a := h1.mp (by omega)
    have b : ¬ q = 0 := fun e => by have := h2.mpr e; omega
    grind
  · intro h
    have a := h1.mpr (by grind)
    have b : ¬ q.num = 0 := fun e => by have := h2.mp e; grind
    omega
/-! the greatest of some fractions and one more -/
def mxL (f : Rat) (qs : List Rat) : Rat := qs.foldl (fun f q => if f < q then q else f) f
theorem mxL_cons (f q : Rat) (qs : List Rat) : mxL f (q :: qs) = mxL (if f < q then q else f) qs := rfl
theorem mxL_ge : ∀ (qs : List Rat) (f : Rat), f ≤ mxL f qs ∧ ∀ q ∈ qs, q ≤ mxL f qs
  | [], f => ⟨Rat.le_refl, fun q h => absurd h List.not_mem_nil⟩
  | p :: qs, f => by
    obtain ⟨h1, h2⟩ := mxL_ge qs (if f < p then p else f)
    rw [mxL_cons]
    have hp : p ≤ (if f < p then p else f) := by split <;> grind
    have hf : f ≤ (if f < p then p else f) := by split <;> grind
    refine ⟨Rat.le_trans hf h1, fun q hq => ?_⟩
    rcases List.mem_cons.mp hq with e | e
    · rw [e]
      exact Rat.le_trans hp h1
    · exact h2 q e
theorem mxL_mem : ∀ (qs : List Rat) (f : Rat), mxL f qs = f ∨ mxL f qs ∈ qs
  | [], f => .inl rfl
  | p :: qs, f => by
    rw [mxL_cons]
    rcases mxL_mem qs (if f < p then p else f) with h | h
    · rw [h]
      split
      · exact .inr List.mem_cons_self
      · exact .inl rfl
    · exact .inr (List.mem_cons_of_mem _ h)
theorem mxL_le {qs : List Rat} {f b : Rat} (h1 : f ≤ b) (h2 : ∀ q ∈ qs, q ≤ b) : mxL f qs ≤ b := by
  rcases mxL_mem qs f with h | h
  · rw [h]; exact h1
  · exact h2 _ h
theorem mxL_bq {qs : List Rat} {f : Rat} {k : Nat} (h1 : BQ k f) (h2 : ∀ q ∈ qs, BQ k q) : BQ k (mxL f qs) := by
  rcases mxL_mem qs f with h | h
  · rw [h]; exact h1
  · exact h2 _ h
theorem mxL_zero {q : Rat} {qs : List Rat} (h : 0 ≤ q) : mxL 0 (q :: qs) = mxL q qs := by
  rw [mxL_cons]
  by_cases e : 0 < q
  · rw [if_pos e]
  · rw [if_neg e, show q = 0 by grind]
/-! sizes measured by amounts -/
def quoL (x a : List Rat) : List Rat := List.zipWith (fun p q => p / q) x a
def wn (x a : List Rat) : Rat := mxL 0 (quoL (x.map absQ) a)
def Amts (n : Nat) (a : List Rat) : Prop := a.length = n ∧ ∀ q ∈ a, 0 < q
theorem Amts.pos {n i : Nat} {a : List Rat} (h : Amts n a) (hi : i < n) : 0 < a.getD i 0 := by
  rw [getD_lt (by rw [h.1]; exact hi)]
  exact h.2 _ (List.getElem_mem _)
theorem quoL_len {n : Nat} {x a : List Rat} (hx : x.length = n) (ha : a.length = n) : (quoL x a).length = n := by
  unfold quoL
  rw [List.length_zipWith, hx, ha, Nat.min_self]
theorem quoL_get {n i : Nat} {x a : List Rat} (hx : x.length = n) (ha : a.length = n) (hi : i < n) : (quoL x a).getD i 0 = x.getD i 0 / a.getD i 0 := by
  unfold quoL
  exact getD_zipWith (by omega) (by omega)
theorem le_div {p q b : Rat} (hq : 0 < q) : p / q ≤ b ↔ p ≤ b * q := by
  have h : p / q * q = p := Rat.div_mul_cancel (by grind)
  constructor
  · intro z
    have := Rat.mul_le_mul_of_nonneg_right z (Rat.le_of_lt hq)
    grind
  · intro z
    by_cases c : p / q ≤ b
    · exact c
    · exfalso
      have := Rat.mul_lt_mul_of_pos_right (show b < p / q by grind) hq
      grind
theorem mxq_le {n : Nat} {x a : List Rat} {b : Rat} (hx : x.length = n) (ha : Amts n a) (h0 : 0 ≤ b) (h : ∀ i, i < n → x.getD i 0 ≤ b * a.getD i 0) : mxL 0 (quoL x a) ≤ b := by
  refine mxL_le h0 fun q hq => ?_
  obtain ⟨i, hi, rfl⟩ := List.mem_iff_getElem.mp hq
  have hin : i < n := by rw [quoL_len hx ha.1] at hi; exact hi
  have e := quoL_get hx ha.1 hin
  rw [getD_lt hi] at e
  rw [e]
  exact (le_div (ha.pos hin)).mpr (h i hin)
theorem mxq_ge {n i : Nat} {x a : List Rat} (hx : x.length = n) (ha : Amts n a) (hi : i < n) : x.getD i 0 ≤ mxL 0 (quoL x a) * a.getD i 0 := by
  have hl : i < (quoL x a).length := by rw [quoL_len hx ha.1]; exact hi
  have h := (mxL_ge (quoL x a) 0).2 _ (List.getElem_mem hl)
  have e := quoL_get hx ha.1 hi
  rw [getD_lt hl] at e
  rw [e] at h
  exact (le_div (ha.pos hi)).mp h
theorem getD_abs {x : List Rat} {i : Nat} : (x.map absQ).getD i 0 = absQ (x.getD i 0) := by
  by_cases h : i < x.length
  · exact getD_mapL (d := 0) h
  · rw [List.getD_eq_getElem?_getD, List.getD_eq_getElem?_getD, List.getElem?_eq_none (by rw [List.length_map]; omega), List.getElem?_eq_none (by omega)]
    exact absQ_zero.symm
theorem wn_nn (x a : List Rat) : 0 ≤ wn x a := (mxL_ge _ 0).1
theorem wn_le {n : Nat} {x a : List Rat} {b : Rat} (hx : x.length = n) (ha : Amts n a) (h0 : 0 ≤ b) (h : ∀ i, i < n → absQ (x.getD i 0) ≤ b * a.getD i 0) : wn x a ≤ b :=
  mxq_le (by rw [List.length_map, hx]) ha h0 fun i hi => by rw [getD_abs]; exact h i hi
theorem wn_ge {n i : Nat} {x a : List Rat} (hx : x.length = n) (ha : Amts n a) (hi : i < n) : absQ (x.getD i 0) ≤ wn x a * a.getD i 0 := by
  have := mxq_ge (x := x.map absQ) (by rw [List.length_map, hx]) ha hi
  rw [getD_abs] at this
  exact this
theorem wn_sub {n : Nat} {x y a : List Rat} (hx : x.length = n) (hy : y.length = n) (ha : Amts n a) : wn (subR x y) a ≤ wn x a + wn y a := by
  refine wn_le (subR_len hx hy) ha (by have := wn_nn x a; have := wn_nn y a; grind) fun i hi => ?_
  rw [subR_get hx hy hi]
  have h1 := wn_ge hx ha hi
  have h2 := wn_ge hy ha hi
  have h3 := absQ_add (x.getD i 0) (-y.getD i 0)
  rw [absQ_neg] at h3
  rw [show x.getD i 0 - y.getD i 0 = x.getD i 0 + -y.getD i 0 by grind, Rat.add_mul]
  grind
/-- the box factor of a table -/
def absM (t : List (List Rat)) : List (List Rat) := t.map fun r => r.map absQ
theorem absM_sq {n : Nat} {t : List (List Rat)} (h : Sq n t) : Sq n (absM t) := ⟨by unfold absM; rw [List.length_map, h.1], fun r hr => by
  obtain ⟨s, hs, rfl⟩ := List.mem_map.mp hr
  rw [List.length_map, h.2 s hs]⟩
theorem absM_ent {n i k : Nat} {t : List (List Rat)} (h : Sq n t) (hi : i < n) : ent (absM t) i k = absQ (ent t i k) := by
  unfold ent absM
  rw [getD_mapL (d := []) (by rw [h.1]; exact hi), getD_abs]
theorem absM_bits {k : Nat} {t : List (List Rat)} (h : Bits k t) : Bits k (absM t) := fun r hr q hq => by
  obtain ⟨s, hs, rfl⟩ := List.mem_map.mp hr
  obtain ⟨p, hp, rfl⟩ := List.mem_map.mp hq
  exact absQ_bq (h s hs p hp)
theorem absM_cbs {d z : Nat} {t : List (List Rat)} (h : CBs d z t) : CBs d z (absM t) := fun r hr q hq => by
  obtain ⟨s, hs, rfl⟩ := List.mem_map.mp hr
  obtain ⟨p, hp, rfl⟩ := List.mem_map.mp hq
  exact absQ_cb (h s hs p hp)
def bfac (t : List (List Rat)) (a : List Rat) : Rat := mxL 0 (quoL (ledV (absM t) a) a)
theorem bfac_nn (t : List (List Rat)) (a : List Rat) : 0 ≤ bfac t a := (mxL_ge _ 0).1
theorem bfac_le {n : Nat} {t : List (List Rat)} {a : List Rat} {b : Rat} (st : Sq n t) (ha : Amts n a) (h0 : 0 ≤ b) (h : ∀ i, i < n → (sumN n fun k => absQ (ent t i k) * a.getD k 0) ≤ b * a.getD i 0) : bfac t a ≤ b :=
  mxq_le (ledV_len (absM_sq st)) ha h0 fun i hi => by
    rw [ledV_get (absM_sq st) ha.1 hi, sumN_congr fun k _ => by rw [absM_ent st hi]]
    exact h i hi
theorem bfac_ge {n i : Nat} {t : List (List Rat)} {a : List Rat} (st : Sq n t) (ha : Amts n a) (hi : i < n) : (sumN n fun k => absQ (ent t i k) * a.getD k 0) ≤ bfac t a * a.getD i 0 := by
  have := mxq_ge (ledV_len (x := a) (absM_sq st)) ha hi
  rw [ledV_get (absM_sq st) ha.1 hi, sumN_congr fun k _ => by rw [absM_ent st hi]] at this
  exact this
theorem mulR_le {a b c : Rat} (h : a ≤ b) (hc : 0 ≤ c) : a * c ≤ b * c := Rat.mul_le_mul_of_nonneg_right h hc
theorem mulL_le {a b c : Rat} (h : a ≤ b) (hc : 0 ≤ c) : c * a ≤ c * b := Rat.mul_le_mul_of_nonneg_left h hc
/-- what a table with a box factor makes of a row -/
theorem wn_led {n : Nat} {t : List (List Rat)} {a x : List Rat} (st : Sq n t) (ha : Amts n a) (hx : x.length = n) : wn (ledV t x) a ≤ bfac t a * wn x a := by
  refine wn_le (ledV_len st) ha (Rat.mul_nonneg (bfac_nn t a) (wn_nn x a)) fun i hi => ?_
  rw [ledV_get st hx hi]
  refine Rat.le_trans absQ_sum ?_
  have h1 : sumN n (fun k => absQ (ent t i k * x.getD k 0)) ≤ sumN n fun k => wn x a * (absQ (ent t i k) * a.getD k 0) := sumN_le fun k hk => by
    rw [absQ_mul]
    have := mulL_le (wn_ge hx ha hk) (absQ_nn (ent t i k))
    grind
  refine Rat.le_trans h1 ?_
  rw [sumN_left]
  have := mulL_le (bfac_ge st ha hi) (wn_nn x a)
  grind
theorem bfac_sc {n : Nat} {t : List (List Rat)} {a : List Rat} {s : Rat} (st : Sq n t) (ha : Amts n a) (hs : 0 ≤ s) : bfac (t.map (scR s)) a ≤ s * bfac t a := by
  have s2 : Sq n (t.map (scR s)) := ⟨by rw [List.length_map, st.1], fun r hr => by
    obtain ⟨q, hq, rfl⟩ := List.mem_map.mp hr
    rw [scR_len, st.2 q hq]⟩
  refine bfac_le s2 ha (Rat.mul_nonneg hs (bfac_nn t a)) fun i hi => ?_
  have e : ∀ k, ent (t.map (scR s)) i k = s * ent t i k := fun k => by
    unfold ent
    rw [getD_mapL (d := []) (by rw [st.1]; exact hi), scR_get]
  rw [sumN_congr (g := fun k => s * (absQ (ent t i k) * a.getD k 0)) fun k _ => by rw [e, absQ_mul, absQ_pos hs]; grind, sumN_left]
  have := mulL_le (bfac_ge st ha hi) hs
  grind
/-- 1 less a table with a box factor below 1 has an inverse -/
theorem det_box {n : Nat} {t : List (List Rat)} {a : List Rat} (st : Sq n t) (ha : Amts n a) (h : bfac t a < 1) : det n (ent (subM (oneQ n) t)) ≠ 0 := by
  intro z
  obtain ⟨x, ⟨i, hi, hx⟩, hl⟩ := ker_of z
  let v : List Rat := (List.range n).map x
  have lv : v.length = n := by rw [List.length_map, List.length_range]
  have gv : ∀ k, k < n → v.getD k 0 = x k := fun k hk => getD_rangeM hk
  have ev : ledV t v = v := by
    refine vec_ext (ledV_len st) lv fun r hr => ?_
    rw [ledV_get st lv hr, gv r hr]
    have h0 := hl r hr
    have e : sumN n (fun l => ent (subM (oneQ n) t) r l * x l) = sumN n (fun l => if l = r then x l else 0) + -1 * sumN n (fun l => ent t r l * v.getD l 0) := by
      rw [← sumN_left, ← sumN_add]
      refine sumN_congr fun l hl => ?_
      rw [ent_sub (one_sq n) st hr hl, ent_one hr hl, gv l hl]
      split <;> grind
    rw [e, sumN_one x hr] at h0
    grind
  have h1 := wn_led st ha lv
  rw [ev] at h1
  have w0 := wn_nn v a
  have w1 : wn v a ≤ 0 := by
    by_cases c : wn v a ≤ 0
    · exact c
    · exfalso
      have := Rat.mul_lt_mul_of_pos_right h (show 0 < wn v a by grind)
      grind
  have h2 := wn_ge lv ha hi
  have h3 := mulR_le w1 (Rat.le_of_lt (ha.pos hi))
  rw [gv i hi] at h2
  exact hx (absQ_eq0 (by grind))
/-! lists forgotten -/
theorem othDel {a p : Addr} {μ μ' : Mem} (h : Oth a μ μ') (n : μ p = none) : Oth a μ (mdel μ' p) := fun b xs ha e => by
  unfold mdel
  rw [if_neg (fun z => by rw [z, n] at e; cases e)]
  exact h b xs ha e
theorem vatDel {a p : Addr} {μ : Mem} (h : VatAt μ a) (n : a ≠ p) : VatAt (mdel μ p) a := by
  obtain ⟨z, s, c, h⟩ := h
  exact ⟨z, s, c, by unfold mdel; rw [if_neg n]; exact h⟩
theorem vat_other {a p : Addr} {μ : Mem} (h : VatAt μ a) (hp : μ p = none) : p ≠ a := fun e => by
  obtain ⟨z, s, c, h⟩ := h
  rw [e, h] at hp
  cases hp
theorem oth_none {a p : Addr} {μ μ' : Mem} (o : Oth a μ μ') (pa : p ≠ a) (h : μ' p = none) : μ p = none := by
  cases e : μ p with
  | none => rfl
  | some xs =>
    have := o p xs pa e
    rw [h] at this
    cases this
end DL
-- DTY
set_option maxRecDepth 100000
namespace DL
open PySem PySem.Spec PyProof.Rows L2
/-! how great the rows of an elimination get, over a common denominator -/
theorem cb_ratio {D e zx zy K : Nat} {X Y : Rat} (hX : CB (D * e) zx X) (hY : CB D zy Y) (y0 : Y ≠ 0) (h1 : zx < 2 ^ K) (h2 : zy * e < 2 ^ K) : BQ K (X / Y) := by
  obtain ⟨h0, u, rfl, hu⟩ := hX
  obtain ⟨d0, m, rfl, hm⟩ := hY
  have e0 : e ≠ 0 := fun z => h0 (by rw [z, Nat.mul_zero])
  have m0 : m ≠ 0 := fun z => y0 (by rw [z, Rat.zero_divInt])
  have q : Rat.divInt u ((D * e : Nat) : Int) / Rat.divInt m (D : Int) = Rat.divInt u (m * (e : Int)) := by
    rw [Rat.divInt_eq_div, Rat.divInt_eq_div, Rat.divInt_eq_div, Int.natCast_mul, Rat.intCast_mul, Rat.intCast_mul]
    have a : ((D : Int) : Rat) ≠ 0 := fun z => d0 (by exact_mod_cast z)
    have b : ((e : Int) : Rat) ≠ 0 := fun z => e0 (by exact_mod_cast z)
    have c : ((m : Int) : Rat) ≠ 0 := fun z => m0 (by exact_mod_cast z)
    grind
  rw [q]
  refine divInt_bits (Int.mul_ne_zero m0 (by omega)) (by omega) ?_
  rw [Int.natAbs_mul, Int.natAbs_natCast]
  exact Nat.lt_of_le_of_lt (Nat.mul_le_mul_right e hm) h2
theorem facz {n z B : Nat} (h5 : n ≤ 5) (hz : 0 < z) (hz1 : z ≤ 2 ^ B) : fac n * z ^ n ≤ 120 * 2 ^ (5 * B) := by
  refine Nat.mul_le_mul (facQ5 h5) (Nat.le_trans (Nat.pow_le_pow_left hz1 n) ?_)
  rw [← Nat.pow_mul]
  exact Nat.pow_le_pow_right (by decide) (by rw [Nat.mul_comm]; exact Nat.mul_le_mul_right B h5)
theorem lt120 {B : Nat} : 120 * 2 ^ (5 * B) < 2 ^ (6 * B + 8) := by
  have h1 : 2 ^ (5 * B) ≤ 2 ^ (6 * B) := Nat.pow_le_pow_right (by decide) (by omega)
  have h2 : 0 < 2 ^ (6 * B) := Nat.pow_pos (by decide)
  rw [Nat.pow_add]
  omega
theorem lt120e {B e : Nat} (he : e ≤ 2 ^ B) : 120 * 2 ^ (5 * B) * e < 2 ^ (6 * B + 8) := by
  have h1 : 120 * 2 ^ (5 * B) * e ≤ 120 * (2 ^ (5 * B) * 2 ^ B) := by
    rw [Nat.mul_assoc]
    exact Nat.mul_le_mul_left 120 (Nat.mul_le_mul_left _ he)
  have h2 : 0 < 2 ^ (6 * B) := Nat.pow_pos (by decide)
  rw [← Nat.pow_add, show 5 * B + B = 6 * B by omega] at h1
  rw [Nat.pow_add]
  omega
theorem GJ.cbits {n w k d z B : Nat} {A R : Mx} (h : GJ n w k A R) (h5 : n ≤ 5) (hkw : n ≤ w) (hd : d ≠ 0) (hz : 0 < z) (hd1 : d ≤ 2 ^ B) (hz1 : z ≤ 2 ^ B) (hb : ∀ i l, i < n → l < w → CB d z (A i l)) {r c : Nat} (hr : r < n) (hc : c < w) : BQ (6 * B + 8) (R r c) := by
  obtain ⟨kn, P, h1, h2, h3, h4, _⟩ := h
  have hP : ∀ i l, i < n → l < w → CB d z (P i l) := fun i l hi hl => by
    obtain ⟨i', hi', e⟩ := h1 i hi
    rw [e l]
    exact hb i' l hi' hl
  have bd : CB (d ^ k) (fac k * z ^ k) (det k P) := cb_det hd fun i l hi hl => hP i l (by omega) (by omega)
  have zk : fac k * z ^ k ≤ 120 * 2 ^ (5 * B) := facz (by omega) hz hz1
  by_cases q : r < k
  · have e := cramer_int (m := k) (k := r) (P := P) (x := fun l => det k P * R l c) (p := fun i => P i c) (fun i hi => by
      have := h3 i c (by omega) hc
      rw [if_neg (by omega), Rat.add_zero, Rat.one_mul] at this
      rw [← this, ← sumN_left]
      exact sumN_congr fun l _ => by grind) h4 q
    have e : det k P * R r c = det k (setR (tr P) r fun i => P i c) := e
    have bn : CB (d ^ k) (fac k * z ^ k) (det k (setR (tr P) r fun i => P i c)) := cb_det hd fun i l hi hl => by
      by_cases a : i = r
      · subst a
        rw [setR_same]
        exact hP l c (by omega) hc
      · rw [setR_ne a]
        exact hP l i (by omega) (by omega)
    have e2 : R r c = det k (setR (tr P) r fun i => P i c) / det k P := by rw [← e]; grind
    rw [e2]
    exact cb_ratio (D := d ^ k) (e := 1) (by rw [Nat.mul_one]; exact bn) bd h4 (Nat.lt_of_le_of_lt zk lt120) (by rw [Nat.mul_one]; exact Nat.lt_of_le_of_lt zk lt120)
  · have hkn : k < n := by omega
    have s := clr_scale h3 (det k P)
    rw [Rat.mul_one] at s
    have dk : det k (fun i l => P (if i < k then i else r) (if l < k then l else c)) = det k P := det_congr fun i l hi hl => by rw [if_pos hi, if_pos hl]
    have C' : Clr (k + 1) (k + 1) k (det k P) (fun i l => P (if i < k then i else r) (if l < k then l else c)) (fun i l => det k P * R (if i < k then i else r) (if l < k then l else c)) := fun i l hi hl => by
      have hi2 : (if i < k then i else r) < n := by split <;> omega
      have hl2 : (if l < k then l else c) < w := by split <;> omega
      have := s (if i < k then i else r) (if l < k then l else c) hi2 hl2
      have e1 : sumN k (fun m => P (if i < k then i else r) (if m < k then m else c) * (det k P * R (if m < k then m else r) (if l < k then l else c))) = sumN k (fun m => P (if i < k then i else r) m * (det k P * R m (if l < k then l else c))) := sumN_congr fun m hm => by rw [if_pos hm, if_pos hm]
      show sumN k (fun m => P (if i < k then i else r) (if m < k then m else c) * (det k P * R (if m < k then m else r) (if l < k then l else c))) + (if k ≤ i then det k P * R (if i < k then i else r) (if l < k then l else c) else 0) = det k P * P (if i < k then i else r) (if l < k then l else c)
      rw [e1, ← this]
      by_cases a : k ≤ i
      · rw [if_pos a, if_pos (show k ≤ (if i < k then i else r) by rw [if_neg (show ¬ i < k by omega)]; omega)]
      · rw [if_neg a, if_neg (show ¬ k ≤ (if i < k then i else r) by rw [if_pos (show i < k by omega)]; exact a)]
    have e := clr_pivot C' h4 dk.symm (by omega) (by omega)
    have e : det (k + 1) (fun i l => P (if i < k then i else r) (if l < k then l else c)) = det k P * R (if k < k then k else r) (if k < k then k else c) := e
    rw [if_neg (show ¬ k < k by omega), if_neg (show ¬ k < k by omega)] at e
    have bn : CB (d ^ (k + 1)) (fac (k + 1) * z ^ (k + 1)) (det (k + 1) (fun i l => P (if i < k then i else r) (if l < k then l else c))) := cb_det hd fun i l hi hl => hP _ _ (by split <;> omega) (by split <;> omega)
    have e2 : R r c = det (k + 1) (fun i l => P (if i < k then i else r) (if l < k then l else c)) / det k P := by rw [e]; grind
    rw [e2]
    rw [Nat.pow_succ] at bn
    exact cb_ratio bn bd h4 (Nat.lt_of_le_of_lt (facz (by omega) hz hz1) lt120) (Nat.lt_of_le_of_lt (Nat.mul_le_mul_right d zk) (lt120e hd1))
end DL
-- DTZ
set_option maxRecDepth 100000
set_option maxHeartbeats 2000000
namespace DL
open PySem.HandSPX
open PySem PySem.Spec PyProof.Rows L2
/-! ### o[i] op= e, o a list of ints, i from 0 on -/
def rGetN : V → V → Hp → VK → Prop := fun o i H Q => ∃ p xs k z, o = .ref p ∧ i = .int k ∧ 0 ≤ k ∧ H p = some (.lst xs) ∧ xs[k.toNat]? = some z ∧ Q z H
theorem get_listN {X : Cx} : PGet X rGetN := by
  intro pins s σ H o i ov iv Q I ro ri ⟨p, xs, k, z, e1, e2, h0, hp, hz, q⟩
  subst e1 e2
  cases ro
  obtain ⟨t, rfl⟩ := ri
  obtain ⟨its, r, pl, hsz⟩ := I.list (SqL.of (K := X.K) hp)
  obtain ⟨w, ew, rw'⟩ := r.get hz
  have hl : k.toNat < xs.length := by
    rcases Nat.lt_or_ge k.toNat xs.length with h | h
    · exact h
    · rw [List.getElem?_eq_none h] at hz
      cases hz
  have hn := line63
  exact wpAny_getItem_list pl.isList h0 (by omega) (by simpa using ew) ⟨z, H, I, rw', q⟩
def dAugL (f : Int → Int → Int) (to ti te : TD) : TDS := fun E δ μ => to δ μ fun o μ1 => ti δ μ1 fun i μ2 => ∃ (a : Addr) (xs : List D) (k : Nat) (m : Int), o = .ref a ∧ i = .int (k : Int) ∧ μ2 a = some xs ∧ xs[k]? = some (.int m) ∧
  te δ μ2 fun y μ3 => ∃ (b : Int) (ys : List D), y = .int b ∧ μ3 a = some ys ∧ k < ys.length ∧ E.nx δ (mset μ3 a (ys.set k (.int (f m b))))
section
variable {X : Cx} {o i e : Expr} {to ti te : TD} {op : Operator} {f : Int → Int → Int} {pos tpos : Pos}
theorem ds_augL (hop : PIp X op (ipI f)) (ho : DE X o to) (hi : DE X i ti) (he : DE X e te) (ha : ∀ ov iv new, augStore i ov iv new = (do holding [new, ov, iv] (setItem ov iv new); release [new, ov, iv] []; pure .next) := by intros; rfl) : DS X (.AugAssign (.Subscript o i tpos) op e pos) (dAugL f to ti te) :=
  PS.weak (ps_augS ho hi get_listN he hop set_list ha) fun D σ H ⟨δ, F, μ, ED, l, rs, q, k⟩ => ⟨δ, F, μ, _, l, rs, q, fun vo d0 F1 μ1 H1 e1 l1 r1 q1 => ⟨δ, F1, μ1, _, l1, rs.mono e1, q1, fun vi di F2 μ2 H2 e2 l2 r2 ⟨a, xs, kk, m, eo, ei, hm, hx, q2⟩ => by
    subst eo ei
    obtain ⟨_, vs, hv, rv⟩ := l2.mu a xs hm
    obtain ⟨z, hz, rz⟩ := rv.get hx
    have ez := rep_int rz
    subst ez
    refine ⟨a, vs, (kk : Int), .int m, rep_ref (r1.mono e2), rep_int r2, by omega, hv, by rw [Int.toNat_natCast]; exact hz, δ, F2, μ2, _, l2, rs.mono (e1.trans e2), q2, fun y dy F3 μ3 H3 e3 l3 r3 ⟨b, ys, ey, hy, hlt, q3⟩ => ?_⟩
    subst ey
    obtain ⟨_, ws, hw, rw'⟩ := l3.mu a ys hy
    refine ⟨m, b, rfl, rep_int r3, a, ws, (kk : Int), kk, rep_ref (r1.mono e2), rep_int r2, hw, ?_, k.1 _ _ F3 _ _ ((e1.trans e2).trans e3) (l3.put hy (rw'.set (.int _) kk)) (rs.mono ((e1.trans e2).trans e3)) q3⟩
    unfold ixN
    rw [if_pos (by omega), if_pos (by rw [rw'.length]; omega), Int.toNat_natCast]⟩⟩
end
section
variable {δ : DSt} {μ : Mem} {E : DEnds} {to ti te : TD} {f : Int → Int → Int}
theorem x_augL (k : to δ μ fun o μ1 => ti δ μ1 fun i μ2 => ∃ (a : Addr) (xs : List D) (k : Nat) (m : Int), o = .ref a ∧ i = .int (k : Int) ∧ μ2 a = some xs ∧ xs[k]? = some (.int m) ∧
  te δ μ2 fun y μ3 => ∃ (b : Int) (ys : List D), y = .int b ∧ μ3 a = some ys ∧ k < ys.length ∧ E.nx δ (mset μ3 a (ys.set k (.int (f m b))))) : dAugL f to ti te E δ μ := k
theorem x_augI {i : Nat} {a : Int} (h : δ[i]? = some (some (.int a))) (k : te δ μ fun d μ1 => ∃ b : Int, d = .int b ∧ E.nx (δ.set i (some (.int (f a b)))) μ1) : dAugI f i te E δ μ := ⟨a, h, k⟩
theorem x_int1 {b : Int} {R : Int → Prop} (k : R b) : ∃ c : Int, (D.int b) = .int c ∧ R c := ⟨b, rfl, k⟩
end
theorem mul_inj {n : Nat} {M S T : List (List Rat)} (sM : Sq n M) (sS : Sq n S) (sT : Sq n T) (hn : n ≠ 0) (hD : det n (ent M) ≠ 0) (h : mulQ M S = mulQ M T) : S = T := by
  refine sq_ext sS sT fun i j hi hj => ?_
  have := led_zero (n := n) (P := ent M) (x := fun k => ent S k j + (-1) * ent T k j) hD (fun r hr => by
    have e : (sumN n fun k => ent M r k * (ent S k j + (-1) * ent T k j)) = (sumN n fun k => ent M r k * ent S k j) + (-1) * sumN n fun k => ent M r k * ent T k j := by
      rw [← sumN_left, ← sumN_add]
      exact sumN_congr fun k _ => by grind
    rw [e, ← ent_mul sM sS hn hr hj, ← ent_mul sM sT hn hr hj, h]
    grind) hi
  have : ent S i j + (-1) * ent T i j = 0 := this
  grind
/-! ### max(xs), min(xs) of a list of ints -/
def dMaxL : RDA := fun ds μ Q => ∃ (d : D) (ns : List Int), ds = [d] ∧ asL μ d = some (ns.map D.int) ∧ 0 < ns.length ∧ ∀ m, m ∈ ns → (∀ y, y ∈ ns → y ≤ m) → Q (.int m) μ
def dMinL : RDA := fun ds μ Q => ∃ (d : D) (ns : List Int), ds = [d] ∧ asL μ d = some (ns.map D.int) ∧ 0 < ns.length ∧ ∀ m, m ∈ ns → (∀ y, y ∈ ns → m ≤ y) → Q (.int m) μ
theorem lst_ints {K : PySem.W.Frag} {F : Hp} {μ : Mem} {H : Hp} (l : Lay K F μ H) {v : V} {d : D} {ns : List Int} (r : Rep K F v d) (h : asL μ d = some (ns.map D.int)) : ∃ a, v = .ref a ∧ SqL K H a (ns.map V.int) := by
  cases r with
  | @lst a vs _ hF rr =>
    have h := Option.some.inj (show some _ = some _ from h)
    subst h
    refine ⟨a, rfl, ?_⟩
    rw [← reps_intsV rr]
    exact SqL.of (l.fz _ _ hF)
  | ref a =>
    obtain ⟨_, vs, hv, rv⟩ := l.mu a _ h
    refine ⟨a, rfl, ?_⟩
    rw [← reps_intsV rv]
    exact SqL.of hv
  | @scr a ms hs =>
    have h : some (ms.map D.int) = some (ns.map D.int) := h
    have e : ms.map D.int = ns.map D.int := Option.some.inj h
    have e2 : ms = ns := by
      have inj : ∀ (xs ys : List Int), xs.map D.int = ys.map D.int → xs = ys := by
        intro xs
        induction xs with
        | nil => intro ys h; cases ys with
          | nil => rfl
          | cons y ys => cases h
        | cons x xs ih => intro ys h; cases ys with
          | nil => cases h
          | cons y ys =>
            rw [List.map_cons, List.map_cons] at h
            injection h with h1 h2
            injection h1 with h1
            rw [h1, ih ys h2]
      exact inj _ _ e
    subst e2
    rcases hs with h | h
    · exact ⟨a, rfl, .inl (ex_rd l.fz h)⟩
    · exact ⟨a, rfl, .inr h⟩
  | _ => cases h
theorem lift_maxL {K : PySem.W.Frag} : LiftA K (rMax K) dMaxL := fun vs ds F μ H Q QD l rs ⟨d, ns, e, h, h0, q⟩ k => by
  subst e
  obtain ⟨v, rfl, rv⟩ := reps1 rs
  obtain ⟨a, rfl, hs⟩ := lst_ints l rv h
  exact ⟨a, ns, rfl, hs, h0, fun m h1 h2 => k _ _ F μ H (Ex.refl F) l (.int m) (q m h1 h2)⟩
theorem lift_minL {K : PySem.W.Frag} : LiftA K (rMin K) dMinL := fun vs ds F μ H Q QD l rs ⟨d, ns, e, h, h0, q⟩ k => by
  subst e
  obtain ⟨v, rfl, rv⟩ := reps1 rs
  obtain ⟨a, rfl, hs⟩ := lst_ints l rv h
  exact ⟨a, ns, rfl, hs, h0, fun m h1 h2 => k _ _ F μ H (Ex.refl F) l (.int m) (q m h1 h2)⟩
theorem x_maxL {μ : Mem} {Q : DK} {ns : List Int} (h0 : 0 < ns.length) (q : ∀ m, m ∈ ns → (∀ y, y ∈ ns → y ≤ m) → Q (.int m) μ) : dMaxL [.lst (ns.map D.int)] μ Q := ⟨_, ns, rfl, rfl, h0, q⟩
theorem x_minL {μ : Mem} {Q : DK} {ns : List Int} (h0 : 0 < ns.length) (q : ∀ m, m ∈ ns → (∀ y, y ∈ ns → m ≤ y) → Q (.int m) μ) : dMinL [.lst (ns.map D.int)] μ Q := ⟨_, ns, rfl, rfl, h0, q⟩
/-- a list some times, a new one that may change -/
def dMulLM : RD2 := fun x y μ Q => ∃ xs j, x = .lst xs ∧ y = .int j ∧ 0 ≤ j ∧ j ≤ 1000 ∧ xs.length ≤ 1000 ∧ ∀ p, μ p = none → Q (.ref p) (mset μ p (List.replicate j.toNat xs).flatten)
theorem lift_repLM {K : PySem.W.Frag} : Lift2 K rRep dMulLM := fun x y dx dy F μ H Q QD l rx ry ⟨xs, j, ex, ey, h1, h2, h3, q⟩ k => by
  subst ex ey
  have e := rep_int ry
  subst e
  cases rx with
  | @lst a vs _ hF rr =>
    have hH : H a = some (.lst vs) := l.fz _ _ hF
    have hs : vs.length * j.toNat ≤ sizeLine := by
      rw [rr.length, sizeLine_eq]
      exact Nat.le_trans (Nat.mul_le_mul h3 (show j.toNat ≤ 1000 by omega)) (by decide)
    exact ⟨a, j, vs, rfl, rfl, hH, by omega, by omega, hs, fin_lstM l (reps_flat rr _) q k⟩
theorem lift_mulAM {K : PySem.W.Frag} : Lift2 K (fun x y H Q => (rI MulOk (fun i j => .int (i * j)) x y H Q ∨ rRepT K x y H Q) ∨ rRep x y H Q) (fun x y μ Q => dMul x y μ Q ∨ dMulLM x y μ Q) := Lift2.or lift_mul lift_repLM
/-! ### repr(e), e may raise -/
section
variable {X : Cx} {F0 : Hp} {e : Expr} {te : TD} {p pos : Pos}
theorem dex_reprU {k : Nat} (un : X.A.units + 16 * k + 200 < cLine) (hgd : X.A.guards = some []) (hm : X.mg "repr" = none) (ha : DEX X F0 e te) (hg : Gl X "repr" := by rfl)
    (he : starEach [e] X.env = (false, eval e X.env) :: starEach [] X.env := by rfl) (hpl : (backTo pos (starEach [] X.env)).any (·.1) = false := by rfl) : DEX X F0 (.Call (.Name "repr" p) [e] [] pos) (dCB dRepr (dCons te dNil)) := by
  have hc : CallR X (.builtin "repr") (fun vs H Q => ∃ F μ d p v QD, vs = [v] ∧ Lay X.K F μ H ∧ Rep X.K F v d ∧ ShowOk d p ∧ QD (.str p.shown) μ ∧ KOf X.K F QD Q) := by
    intro pins s σ H vs us Q I r ⟨F, μ, d, p, v, QD, ev, l, rd, ok, q, kk⟩
    subst ev
    obtain ⟨u, rfl, ru⟩ := vals1 r
    obtain ⟨as, hr, hn⟩ := reads_of l.fz I d rd ok.e ru
    have fin : ∀ h' uu tk, (∀ b o, s.heap.get? b = some o → h'.get? b = some o) → EP X pins σ Q (.str p.shown uu) { s with heap := h', toks := tk } := fun h' uu tk k =>
      ⟨.str p.shown, H, I.kept k, ⟨_, rfl⟩, kk _ _ F μ H (Ex.refl F) l (.str _) q⟩
    have h1 := ok.show_
    have h2 := ok.fits
    have h3 := ok.deep
    cases hr with
    | none => exact PySem.P.repr_of_none (fin s.heap _ _ fun _ _ z => z)
    | bool b => exact PySem.P.repr_of_bool (fin s.heap _ _ fun _ _ z => z)
    | int i t => exact PySem.P.repr_of_int (by simpa [PyData.showable] using h1) (fin s.heap _ _ fun _ _ z => z)
    | str x t => exact PySem.P.repr_of_str (fin s.heap _ _ fun _ _ z => z) h2
    | list a1 a2 a3 a4 => exact repr_of_reads' (.list a1 a2 a3 a4) h1 (fun z => hn (ok.dict z)) hgd (by omega) (fun _ _ z => z) fin h2
    | tuple a1 a2 a3 a4 => exact repr_of_reads' (.tuple a1 a2 a3 a4) h1 (fun z => hn (ok.dict z)) hgd (by omega) (fun _ _ z => z) fin h2
    | dict a1 a2 a3 a4 a5 => exact repr_of_reads' (.dict a1 a2 a3 a4 a5) h1 (fun z => hn (ok.dict z)) hgd (by omega) (fun _ _ z => z) fin h2
  refine PE.weak (pe_callB hc hg hm PyProof.Rows.bootS_repr (pa_cons ha pa_nil he) (he := he) (hpl := hpl)) fun σ H Q ⟨δ, F, μ, QD, e0, l, rs, q, kk⟩ => ?_
  exact ⟨δ, F, μ, _, e0, l, rs, q, fun v d F1 μ1 H1 e1 l1 r1 ⟨d', p, ed, ok, q1⟩ => by
    cases ed
    exact ⟨F1, μ1, d, p, v, QD, rfl, l1, r1, ok, q1, kk.mono e1⟩⟩
end
end DL
-- DGM
set_option maxRecDepth 100000
set_option maxHeartbeats 2000000
/-! all() over zip of lists of which some may change elsewhere -/
namespace DL
open PySem PySem.Spec PyProof.Rows L2 ZN
def seqM (μ : Mem) (d : D) (xs : List D) : Prop := (∃ b, d = seqD b xs) ∨ ∃ a, d = .ref a ∧ μ a = some xs
theorem seqM_at {K : PySem.W.Frag} {F : Hp} {μ : Mem} {H : Hp} (l : Lay K F μ H) {v : V} {d : D} {xs : List D} (r : Rep K F v d) (h : seqM μ d xs) :
    ∃ (b : Bool) (a : Addr), v = .ref a ∧ ∀ F2 μ2 H2, Ex F F2 → Lay K F2 μ2 H2 → seqM μ2 d xs → ∃ vs, SqB b K H2 a vs ∧ Reps K F2 vs xs := by
  rcases h with ⟨b, rfl⟩ | ⟨a, rfl, hm⟩
  · obtain ⟨a, vs, rfl, hF, rr⟩ := seq_rep l r
    exact ⟨b, a, rfl, fun F2 μ2 H2 e l2 _ => ⟨vs, sqF_B (e.trans l2.fz) hF, rr.mono e⟩⟩
  · have e := rep_ref r
    subst e
    refine ⟨false, a, rfl, fun F2 μ2 H2 e l2 g => ?_⟩
    rcases g with ⟨b, eb⟩ | ⟨a', ea, hm2⟩
    · cases b <;> cases eb
    · cases ea
      obtain ⟨_, vs, hv, rv⟩ := l2.mu a xs hm2
      exact ⟨vs, SqL.of hv, rv⟩
abbrev TDG := DSt → Mem → (List D → (Mem → Prop) → Mem → Prop) → Prop
def JOkG (K : PySem.W.Frag) (F : Hp) (J : It) (ds : List D) (G : Mem → Prop) : Prop := ∀ i F2 μ2 H2, Ex F F2 → Lay K F2 μ2 H2 → G μ2 → i ≤ ds.length →
  (∀ d, ds[i]? = some d → J.go i H2 ∧ ∀ x H3, J.yld i H2 x H3 → ∃ F3, Ex F2 F3 ∧ Lay K F3 μ2 H3 ∧ Rep K F3 x d) ∧ (i = ds.length → J.stop i H2)
def iOfG (K : PySem.W.Frag) (td : TDG) : TI := fun σ H R => ∃ δ F μ QD, Lay K F μ H ∧ RepSt K F σ δ ∧ td δ μ QD ∧ ∀ J ds G F' μ' H', Ex F F' → Lay K F' μ' H' → JOkG K F' J ds G → QD ds G μ' → R J H'
abbrev DIG (X : Cx) (tg e : Expr) (t : TDG) : Prop := PI X tg e (iOfG X.K t)
def iZipM (ta : TDA) : TDG := fun δ μ Q => ta δ μ fun ds μ1 => ∃ d e xs ys, ds = [d, e] ∧ seqM μ1 d xs ∧ seqM μ1 e ys ∧ Q (zipD xs ys) (fun μ2 => seqM μ2 d xs ∧ seqM μ2 e ys) μ1
section
variable {X : Cx} {e e2 : Expr} {ta : TDA} {p pos tpos : Pos}
theorem di_zipM {elts : List Expr} {kk : Nat} (hm : X.mg "zip" = none) (ha : DA X [e, e2] ta) (hg : Gl X "zip" := by rfl) (hs : starEach [e, e2] X.env = (false, eval e X.env) :: starEach [e2] X.env := by rfl) (hpl : (backTo pos (starEach [e2] X.env)).any (·.1) = false := by rfl) :
    DIG X (.Tuple elts kk tpos) (.Call (.Name "zip" p) [e, e2] [] pos) (iZipM ta) := by
  refine PI.weak (pi_zipX hg hm ha hs hpl) fun σ H R ⟨δ, F, μ, QD, l, rs, q, k⟩ => ⟨δ, F, μ, _, l, rs, q, fun vs ds F1 μ1 H1 e1 l1 r1 ⟨d, e, xs, ys, ed, g1, g2, q1⟩ => ?_⟩
  subst ed
  obtain ⟨v, u, rfl, rv, ru⟩ := reps2 r1
  obtain ⟨b1, a, rfl, f1⟩ := seqM_at l1 rv g1
  obtain ⟨b2, b, rfl, f2⟩ := seqM_at l1 ru g2
  obtain ⟨ws, s1, _⟩ := f1 F1 μ1 H1 (Ex.refl F1) l1 g1
  obtain ⟨zs, s2, _⟩ := f2 F1 μ1 H1 (Ex.refl F1) l1 g2
  refine ⟨a, b, ws, zs, b1, b2, rfl, s1, s2, k _ _ _ F1 μ1 H1 e1 l1 (fun i F2 μ2 H2 e2 l2 ⟨g3, g4⟩ hi => ?_) q1⟩
  obtain ⟨ws2, sa, rr⟩ := f1 F2 μ2 H2 e2 l2 g3
  obtain ⟨zs2, sb, tt⟩ := f2 F2 μ2 H2 e2 l2 g4
  refine ⟨fun d hd => ?_, fun hl => ?_⟩
  · obtain ⟨x, y, h1, h2, rfl⟩ := zipD_get _ _ _ _ hd
    obtain ⟨vx, hx, rx⟩ := rr.get h1
    obtain ⟨vy, hy, ry⟩ := tt.get h2
    refine ⟨⟨ws2, zs2, vx, vy, sa, sb, hx, hy⟩, fun z H3 ⟨T, x', y', ez, hT, eH, h3, h4⟩ => ?_⟩
    subst ez eH
    have e3 := (h3 _ sa).symm.trans hx
    have e4 := (h4 _ sb).symm.trans hy
    cases e3
    cases e4
    exact new_pair l2 hT rx ry
  · rw [zipD_len] at hl
    refine ⟨ws2, zs2, sa, sb, ?_⟩
    rw [rr.length, tt.length]
    omega
end
def allDG (g : Tg) (te : TD) (δ : DSt) (G : Mem → Prop) : List D → Mem → DK → Prop
  | [], μ, Q => G μ ∧ Q (.bl true) μ
  | d :: ds, μ, Q => G μ ∧ dTg g d δ fun δ2 => te δ2 μ fun y μ2 => ∃ b, y = .bl b ∧ if b = true then allDG g te δ G ds μ2 Q else Q (.bl false) μ2
theorem allDG_now {g : Tg} {te : TD} {δ : DSt} {G : Mem → Prop} {ds : List D} {μ : Mem} {Q : DK} (h : allDG g te δ G ds μ Q) : G μ := by
  cases ds with
  | nil => exact h.1
  | cons d ds => exact h.1
/-- all(elt for tg in iter) -/
def dAllM (wi : TDG) (g : Tg) (te : TD) (vs : List Nat) : TD := fun δ μ Q => wi δ μ fun ds G μ1 => allDG g te (wipeD δ vs) G ds μ1 Q
theorem allM_sound {wi : TDG} {g : Tg} {te : TD} {vs : List Nat} {K : PySem.W.Frag} {P : Addr} (hP : P ∈ gensK K) (nl : ∀ p ∈ lamsK K, p.1 ≠ P) (hv : ∀ i ∈ g.slots, i ∈ vs) {σ : L2.St} {H : Hp} {Q : VK} (h : eOf K (dAllM wi g te vs) σ H Q) : tAllG P (iOfG K wi) (hTg K g) (eOf K te) vs σ H Q := by
  obtain ⟨δ, F, μ, QD, l, rs, q, k⟩ := h
  refine ⟨δ, F, μ, _, l, rs, q, fun J ds G F1 μ1 H1 e1 l1 j q1 => ⟨(l1.tb.tg P hP).2, fun H1' tb => ?_⟩⟩
  refine ⟨fun i m H => ∃ F2 μ2, Ex F1 F2 ∧ Lay K F2 μ2 H ∧ allDG g te (wipeD δ vs) G (ds.drop i) μ2 QD ∧ i ≤ ds.length ∧ m = ds.length - i, ⟨ds.length, F1, _, Ex.refl F1, l1.tab hP nl tb, q1, Nat.zero_le _, rfl⟩, ?_⟩
  rintro i m H2 ⟨F2, μ2, e2, l2, q2, hle, rfl⟩
  obtain ⟨j1, j2⟩ := j i F2 _ H2 e2 l2 (allDG_now q2) hle
  by_cases hlt : i < ds.length
  · refine .inr ⟨(j1 _ (List.getElem?_eq_getElem hlt)).1, fun H => ∃ F3 μ3, Ex F1 F3 ∧ Lay K F3 μ3 H ∧ allDG g te (wipeD δ vs) G (ds.drop (i + 1)) μ3 QD, fun H' ⟨F3, μ3, e3, l3, q3⟩ => ⟨ds.length - (i + 1), by omega, F3, μ3, e3, l3, q3, hlt, rfl⟩, fun x H3 y => ?_⟩
    obtain ⟨F3, e3, l3, rx⟩ := (j1 _ (List.getElem?_eq_getElem hlt)).2 x H3 y
    rw [List.drop_eq_getElem_cons hlt] at q2
    have rw2 : RepSt K F3 (wipe σ vs) (wipeD δ vs) := repSt_wipe (rs.mono ((e1.trans e2).trans e3)) vs
    refine hTg_run l3 g rx rw2 q2.2 fun σ' δ' r' q' hw => ⟨?_, ?_⟩
    · rw [hw vs hv, wipe_wipe vs σ vs fun _ z => z]
    · refine ⟨δ', F3, μ2, _, l3, r', q', fun v d F4 μ4 H4 e4 l4 r4 ⟨b, eb, q4⟩ => ?_⟩
      subst eb
      refine ⟨b, rep_bl r4, fun hb => ?_, fun hb => ?_⟩
      · subst hb
        exact ⟨F4, μ4, (e2.trans e3).trans e4, l4, q4⟩
      · subst hb
        exact k _ _ F4 μ4 H4 (((e1.trans e2).trans e3).trans e4) l4 (.bl _) q4
  · have e : i = ds.length := by omega
    refine .inl ⟨j2 e, ?_⟩
    rw [List.drop_eq_nil_of_le (by omega)] at q2
    exact k _ _ F2 μ2 H2 (e1.trans e2) l2 (.bl _) q2.2
section
variable {X : Cx} {elt tg iter : Expr} {scope : Scope} {gpos pos p : Pos} {wi : TDG} {g : Tg} {te : TD} {own : List (Str × Nat)} {c P : Addr}
theorem de_allM {k : Nat} (hr : Room k X.A) (hg : Gl X "all") (hm : X.mg "all" = none) (nd : X.N.Nodup) (TB : BTab X.base X.mg c P) (hcode : X.env.code = .ref c) (hP : P ∈ gensK X.K) (nl : ∀ p ∈ lamsK X.K, p.1 ≠ P) (hi : DIG X tg iter wi) (ok : BlkOk X.N X.env.scope scope own) (hv : ∀ i ∈ g.slots, i ∈ own.map (·.2)) (noCell : ∀ y ∈ scope.names, y.2 ≠ .cell)
    (hco : scope.isCoroutine = false) (hdot : scope.names.lookup (".0" : Str) = some NameKind.local)
    (hpg : ∀ (s : Shared) (H : Hp) (C it : Addr) (code : Value) (fp : List Addr), PG (genCx X (genA X.A elt tg iter scope gpos it (genEnv scope (cloFrom X.env.cells scope.names []) C code builtinsNs X.env)) s H (genEnv scope (cloFrom X.env.cells scope.names []) C code builtinsNs X.env) fp) tg (hTg X.K g))
    (hpe : ∀ (s : Shared) (H : Hp) (C it : Addr) (code : Value) (fp : List Addr), DE (genCx X (genA X.A elt tg iter scope gpos it (genEnv scope (cloFrom X.env.cells scope.names []) C code builtinsNs X.env)) s H (genEnv scope (cloFrom X.env.cells scope.names []) C code builtinsNs X.env) fp) elt te)
    (hs : ∀ x, genFold iter X.env x = pure x := by intro _; rfl)
    (he : starEach [.GeneratorExp elt [⟨tg, iter, [], 0⟩] scope gpos] X.env = (false, eval (.GeneratorExp elt [⟨tg, iter, [], 0⟩] scope gpos) X.env) :: starEach [] X.env := by rfl) :
    DE X (.Call (.Name "all" p) [.GeneratorExp elt [⟨tg, iter, [], 0⟩] scope gpos] [] pos) (dAllM wi g te (own.map (·.2))) :=
  PE.weak (pe_allG hr hg hm nd TB hcode hi ok noCell hco hdot hpg hpe hs he) fun _ _ _ h => allM_sound hP nl hv h
end
section
variable {δ : DSt} {μ : Mem} {Q : DK} {ta : TDA}
theorem x_allM {wi : TDG} {g : Tg} {te : TD} {vs : List Nat} (k : wi δ μ fun ds G μ1 => allDG g te (wipeD δ vs) G ds μ1 Q) : dAllM wi g te vs δ μ Q := k
theorem x_iZipM {R : List D → (Mem → Prop) → Mem → Prop} (k : ta δ μ fun ds μ1 => ∃ d e xs ys, ds = [d, e] ∧ seqM μ1 d xs ∧ seqM μ1 e ys ∧ R (zipD xs ys) (fun μ2 => seqM μ2 d xs ∧ seqM μ2 e ys) μ1) : iZipM ta δ μ R := k
/-- elements by values: those ahead of the first that is not so are True -/
theorem allDG_pure {g : Tg} {te : TD} {δ : DSt} {G : Mem → Prop} (f : D → Bool) {μ : Mem} (hG : G μ) : ∀ (ds : List D), (∀ d ∈ ds, ∀ k : DK, k (.bl (f d)) μ → dTg g d δ fun δ2 => te δ2 μ k) → Q (.bl (ds.all f)) μ → allDG g te δ G ds μ Q
  | [], _, q => ⟨hG, q⟩
  | d :: ds, h, q => by
    refine ⟨hG, h d List.mem_cons_self _ ⟨f d, rfl, ?_⟩⟩
    rw [List.all_cons] at q
    cases e : f d with
    | true =>
      rw [e, Bool.true_and] at q
      rw [if_pos rfl]
      exact allDG_pure f hG ds (fun x hx => h x (List.mem_cons_of_mem _ hx)) q
    | false =>
      rw [e, Bool.false_and] at q
      rw [if_neg Bool.false_ne_true]
      exact q
theorem x_ns0 {ds : List D} {Q : DSt → Prop} (k : Q δ) : dNs2 [] ds δ Q := k
theorem x_ns1 {i : Nat} {is : List (Nat ⊕ List Nat)} {d : D} {ds : List D} {Q : DSt → Prop} (k : dNs2 is ds (δ.set i (some d)) Q) : dNs2 (.inl i :: is) (d :: ds) δ Q := k
theorem x_ns2 {js : List Nat} {is : List (Nat ⊕ List Nat)} {es ds : List D} {Q : DSt → Prop} (h : es.length = js.length) (k : dNs2 is ds (setAll js es δ) Q) : dNs2 (.inr js :: is) (.tup es :: ds) δ Q := ⟨es, rfl, h, k⟩
theorem x_tgT2 {is : List (Nat ⊕ List Nat)} {ds : List D} {Q : DSt → Prop} (h : ds.length = is.length) (k : dNs2 is ds δ Q) : dTg (.tn is) (.tup ds) δ Q := ⟨ds, rfl, h, k⟩
end
end DL
-- DGN
set_option maxRecDepth 100000
set_option maxHeartbeats 2000000
/-! lists turned round; for over zip of lists of which some change elsewhere -/
namespace DL
open PySem PySem.Spec PyProof.Rows L2 ZN
theorem Reps.reverse {K : PySem.W.Frag} {F : Hp} : ∀ {vs : List V} {ds : List D}, Reps K F vs ds → Reps K F vs.reverse ds.reverse
  | _, _, .nil => .nil
  | _, _, .cons r rs => by
    rw [List.reverse_cons, List.reverse_cons]
    exact (rs.reverse).append (.cons r .nil)
/-- xs[::-1] -/
def dRev (te : TD) : TD := fun δ μ Q => te δ μ fun x μ1 => ∃ xs, asL μ1 x = some xs ∧ Q (.lst xs.reverse) μ1
theorem de_rev {X : Cx} {e : Expr} {ta : TD} {k : Nat} {p1 p2 p3 pos : Pos} (he : DE X e ta) : DE X (.Subscript e (.Slice none none (some (.UnaryOp .USub (.Constant (.int 1) k p1) p2)) p3) pos) (dRev ta) := by
  refine PE.weak (pe_revL he) fun σ H Q ⟨δ, F, μ, QD, l, rs, q, k⟩ => ?_
  refine ⟨δ, F, μ, _, l, rs, q, fun v d F1 μ1 H1 e1 l1 r1 ⟨xs, g0, q1⟩ => ?_⟩
  obtain ⟨a, vs, rfl, g1, r4⟩ := asL_rep l1 r1 g0
  exact ⟨a, vs, rfl, g1, fin_lst l1 r4.reverse q1 (k.mono e1)⟩
theorem x_rev {te : TD} {δ : DSt} {μ : Mem} {Q : DK} (k : te δ μ fun x μ1 => ∃ xs, asL μ1 x = some xs ∧ Q (.lst xs.reverse) μ1) : dRev te δ μ Q := k
theorem x_rev1 {R : List D → Mem → Prop} {xs : List D} {μ : Mem} (k : R xs μ) : ∃ ys, asL μ (.lst xs) = some ys ∧ R ys μ := ⟨xs, rfl, k⟩
def forDG (g : Tg) (tb : TDS) (E : DEnds) (G : Mem → Prop) : List D → DSt → Mem → Prop
  | [], δ, μ => G μ ∧ E.nx δ μ
  | d :: ds, δ, μ => G μ ∧ dTg g d δ fun δ' => tb { nx := forDG g tb E G ds, rt := E.rt, bk := E.nx, ct := forDG g tb E G ds } δ' μ
theorem forDG_now {g : Tg} {tb : TDS} {E : DEnds} {G : Mem → Prop} {ds : List D} {δ : DSt} {μ : Mem} (h : forDG g tb E G ds δ μ) : G μ := by
  cases ds with
  | nil => exact h.1
  | cons d ds => exact h.1
def dForM (wi : TDG) (g : Tg) (tb : TDS) : TDS := fun E δ μ => wi δ μ fun ds G μ1 => forDG g tb E G ds δ μ1
theorem ds_forM {X : Cx} {tg iter : Expr} {body : List Stmt} {wi : TDG} {g : Tg} {tb : TDS} {pos : Pos} (hp : PassesOwn (model X.prog X.w) X.A X.env X.xe) (hc : X.calm = true) (hi : DIG X tg iter wi) (hg : PG X tg (hTg X.K g)) (hb : DSs X body tb) (hs : ∀ x, foldedSetIterable iter X.env x = pure x := by intro _; rfl) : DS X (.For tg iter body [] pos) (dForM wi g tb) := by
  refine PS.weak (ps_for hp hc hi hg hb hs) fun E σ H ⟨δ, F, μ, ED, l, rs, q, k⟩ => ?_
  refine ⟨δ, F, μ, _, l, rs, q, fun J ds G F1 μ1 H1 e1 l1 j q1 => ?_⟩
  refine ⟨fun i m σ H => ∃ δ F2 μ2, Ex F1 F2 ∧ Lay X.K F2 μ2 H ∧ RepSt X.K F2 σ δ ∧ forDG g tb ED G (ds.drop i) δ μ2 ∧ i ≤ ds.length ∧ m = ds.length - i, ⟨ds.length, δ, F1, μ1, Ex.refl F1, l1, rs.mono e1, q1, Nat.zero_le _, rfl⟩, ?_⟩
  rintro i m σ H2 ⟨δ2, F2, μ2, e2, l2, r2, q2, hle, rfl⟩
  obtain ⟨j1, j2⟩ := j i F2 μ2 H2 e2 l2 (forDG_now q2) hle
  by_cases hlt : i < ds.length
  · refine .inr ⟨(j1 _ (List.getElem?_eq_getElem hlt)).1, fun σ H => ∃ δ F3 μ3, Ex F1 F3 ∧ Lay X.K F3 μ3 H ∧ RepSt X.K F3 σ δ ∧ forDG g tb ED G (ds.drop (i + 1)) δ μ3, fun σ' H' ⟨δ3, F3, μ3, e3, l3, r3, q3⟩ => ⟨ds.length - (i + 1), by omega, δ3, F3, μ3, e3, l3, r3, q3, hlt, rfl⟩, fun x H3 y => ?_⟩
    obtain ⟨F3, e3, l3, rx⟩ := (j1 _ (List.getElem?_eq_getElem hlt)).2 x H3 y
    rw [List.drop_eq_getElem_cons hlt] at q2
    refine hTg_run l3 g rx (r2.mono e3) q2.2 fun σ' δ' r' q' _ => ?_
    have k3 := k.mono ((e1.trans e2).trans e3)
    exact ⟨δ', F3, μ2, _, l3, r', q', fun σ4 δ4 F4 μ4 H4 e4 l4 r4 q4 => ⟨δ4, F4, μ4, (e2.trans e3).trans e4, l4, r4, q4⟩, k3.2.1, k3.1, fun σ4 δ4 F4 μ4 H4 e4 l4 r4 q4 => ⟨δ4, F4, μ4, (e2.trans e3).trans e4, l4, r4, q4⟩⟩
  · have e : i = ds.length := by omega
    refine .inl ⟨j2 e, ?_⟩
    rw [List.drop_eq_nil_of_le (by omega)] at q2
    exact k.1 _ _ F2 μ2 H2 (e1.trans e2) l2 r2 q2.2
theorem x_forM {wi : TDG} {g : Tg} {tb : TDS} {E : DEnds} {δ : DSt} {μ : Mem} (k : wi δ μ fun ds G μ1 => forDG g tb E G ds δ μ1) : dForM wi g tb E δ μ := k
theorem forDG_ind {g : Tg} {tb : TDS} {E : DEnds} {G : Mem → Prop} (J : List D → DSt → Mem → Prop) (hG : ∀ ds δ μ, J ds δ μ → G μ) (h0 : ∀ δ μ, J [] δ μ → E.nx δ μ)
    (h1 : ∀ d ds δ μ, J (d :: ds) δ μ → ∀ nx : DSt → Mem → Prop, (∀ δ' μ', J ds δ' μ' → nx δ' μ') → dTg g d δ fun δ' => tb { nx := nx, rt := E.rt, bk := E.nx, ct := nx } δ' μ) : ∀ ds δ μ, J ds δ μ → forDG g tb E G ds δ μ
  | [], δ, μ, h => ⟨hG _ _ _ h, h0 δ μ h⟩
  | d :: ds, δ, μ, h => ⟨hG _ _ _ h, h1 d ds δ μ h _ fun δ' μ' h' => forDG_ind J hG h0 h1 ds δ' μ' h'⟩
end DL
-- DGO
set_option maxRecDepth 100000
set_option maxHeartbeats 2000000
/-! tables with nothing above 0 beside the line -/
namespace DL
open PySem PySem.Spec PyProof.Rows L2 ZN
/-- nothing above 0 beside the line -/
def Low (n : Nat) (A : Mx) : Prop := ∀ i k, i < n → k < n → i ≠ k → A i k ≤ 0
theorem mulR_nn {a b : Rat} (ha : 0 ≤ a) (hb : 0 ≤ b) : 0 ≤ a * b := Rat.mul_nonneg ha hb
theorem mulR_np {a b : Rat} (ha : a ≤ 0) (hb : 0 ≤ b) : a * b ≤ 0 := by
  have := Rat.mul_nonneg (show 0 ≤ -a by grind) hb
  grind
theorem sumN_np {n : Nat} {f : Nat → Rat} (h : ∀ k, k < n → f k ≤ 0) : sumN n f ≤ 0 := by
  have := sumN_nn (n := n) (f := fun k => -f k) fun k hk => by
    have := h k hk
    show 0 ≤ -f k
    grind
  rw [sumN_neg] at this
  grind
theorem nn_of_mul {c x : Rat} (hc : 0 < c) (h : 0 ≤ x * c) : 0 ≤ x := by
  by_cases g : 0 ≤ x
  · exact g
  · exfalso
    have := Rat.mul_lt_mul_of_pos_right (show x < 0 by grind) hc
    rw [Rat.zero_mul] at this
    grind
/-- first determinants above 0: what it leads to nothing below 0 is nothing below 0 -/
theorem low_mono : ∀ {n : Nat} {A : Mx}, Low n A → Lead n A → ∀ x : Nat → Rat, (∀ r, r < n → 0 ≤ sumN n fun l => A r l * x l) → ∀ i, i < n → 0 ≤ x i
  | 0, _, _, _, _, _, i, hi => absurd hi (Nat.not_lt_zero i)
  | n + 1, A, hl, hd, x, hx, i, hi => by
    have hl' : Low n A := fun i k hi hk => hl i k (by omega) (by omega)
    have hd' : Lead n A := fun k h1 h2 => hd k h1 (by omega)
    obtain ⟨y, c, h1, h2, h3⟩ := corner_row (n := n) (A := A) fun j j1 j2 => by
      have := hd' j j1 j2
      grind
    have y0 := low_mono hl' hd' y fun r hr => by
      have := h1 r hr
      have := hl r n (by omega) (by omega) (by omega)
      grind
    have dn : 0 < det n A := by
      cases n with
      | zero => show (0 : Rat) < 1; decide
      | succ n => exact hd' _ (by omega) (Nat.le_refl _)
    have c0 : 0 < c := pos_of_mul h3 dn (hd (n + 1) (by omega) (Nat.le_refl _))
    have su : ∀ r, sumN n (fun l => A r l * (x l - x n * y l)) = sumN n (fun l => A r l * x l) - x n * sumN n (fun l => A r l * y l) := fun r => by
      have e : sumN n (fun l => A r l * (x l - x n * y l)) = sumN n (fun l => A r l * x l) + sumN n (fun l => -(x n * (A r l * y l))) := by
        rw [← sumN_add]
        exact sumN_congr fun l _ => by grind
      rw [e, sumN_neg, sumN_left]
      grind
    have u0 := low_mono hl' hd' (fun l => x l - x n * y l) fun r hr => by
      rw [su]
      have a := hx r (by omega)
      have b := h1 r hr
      have a : 0 ≤ sumN n (fun l => A r l * x l) + A r n * x n := a
      have : sumN n (fun k => A r k * y k) = -A r n := by grind
      rw [this]
      grind
    have xn : 0 ≤ x n := by
      refine nn_of_mul c0 ?_
      have a := hx n (by omega)
      have a : 0 ≤ sumN n (fun l => A n l * x l) + A n n * x n := a
      have b := su n
      have d : sumN n (fun l => A n l * (x l - x n * y l)) ≤ 0 := sumN_np fun l hl2 => mulR_np (hl n l (by omega) (by omega) (by omega)) (u0 l hl2)
      rw [← h2]
      grind
    by_cases e : i = n
    · rw [e]
      exact xn
    · have a := u0 i (by omega)
      have b := mulR_nn xn (y0 i (by omega))
      grind
/-- what it leads to amounts are amounts -/
theorem low_pos {n : Nat} {A : Mx} (hl : Low n A) (hd : Lead n A) {x : Nat → Rat} (hx : ∀ r, r < n → 0 < sumN n fun l => A r l * x l) {i : Nat} (hi : i < n) : 0 < x i := by
  have h0 := low_mono hl hd x (fun r hr => by have := hx r hr; grind)
  by_cases e : x i = 0
  · exfalso
    have : sumN n (fun l => A i l * x l) ≤ 0 := sumN_np fun l hl2 => by
      by_cases c : i = l
      · rw [← c, e, Rat.mul_zero]
        exact Rat.le_refl
      · exact mulR_np (hl i l hi hl2 c) (h0 l hl2)
    have := hx i hi
    grind
  · have := h0 i hi
    grind
/-- a first determinant not above 0 behind ones above 0: contents that it leads to nothing above 0 -/
theorem low_sink {n c : Nat} {A : Mx} (hl : Low n A) (hc : c < n) (hd : Lead c A) (hn : ¬ 0 < det (c + 1) A) {w : Nat → Rat} (hw : ∀ r, r < c → sumN c (fun k => A r k * w k) + A r c * w c = 0) (w1 : w c = 1) (wz : ∀ k, c < k → k < n → w k = 0) :
    (∀ k, k < n → 0 ≤ w k) ∧ ∀ r, r < n → sumN n (fun k => A r k * w k) ≤ 0 := by
  have hl' : Low c A := fun i k hi hk => hl i k (by omega) (by omega)
  have wn : ∀ k, k < n → 0 ≤ w k := fun k hk => by
    by_cases g : k < c
    · refine low_mono hl' hd w (fun r hr => ?_) k g
      have a := hw r hr
      have b := hl r c (by omega) hc (by omega)
      rw [w1] at a
      grind
    · by_cases e : k = c
      · rw [e, w1]
        decide
      · rw [wz k (by omega) hk]
        exact Rat.le_refl
  refine ⟨wn, fun r hr => ?_⟩
  have cut : sumN n (fun k => A r k * w k) = sumN (c + 1) (fun k => A r k * w k) := by
    rw [← sumN_upto (m := c + 1) (n := n) (by omega)]
    refine sumN_congr fun k hk => ?_
    by_cases g : k < c + 1
    · rw [if_pos g]
    · rw [if_neg g, wz k (by omega) hk, Rat.mul_zero]
  rw [cut]
  show sumN c (fun k => A r k * w k) + A r c * w c ≤ 0
  by_cases g : r < c
  · rw [hw r g]
    exact Rat.le_refl
  · by_cases e : r = c
    · subst e
      obtain ⟨y, d, h1, h2, h3⟩ := corner_row (n := r) (A := A) fun j j1 j2 => by
        have := hd j j1 j2
        grind
      have dn : 0 < det r A := by
        cases r with
        | zero => show (0 : Rat) < 1; decide
        | succ r => exact hd _ (by omega) (Nat.le_refl _)
      have ey : ∀ k, k < r → y k + -1 * w k = 0 := fun k hk => led_zero (n := r) (P := A) (x := fun k => y k + -1 * w k) (by grind) (fun i hi => by
        have e : sumN r (fun l => A i l * (y l + -1 * w l)) = sumN r (fun l => A i l * y l) + -1 * sumN r (fun l => A i l * w l) := by
          rw [← sumN_left, ← sumN_add]
          exact sumN_congr fun l _ => by grind
        rw [e]
        have a := h1 i hi
        have b := hw i hi
        rw [w1] at b
        grind) hk
      have e2 : sumN r (fun k => A r k * w k) = sumN r (fun k => A r k * y k) := sumN_congr fun k hk => by
        have := ey k hk
        have : w k = y k := by grind
        rw [this]
      rw [e2, w1, Rat.mul_one, h2]
      by_cases p : d ≤ 0
      · exact p
      · exfalso
        have := Rat.mul_lt_mul_of_pos_right (show 0 < d by grind) dn
        rw [Rat.zero_mul, h3] at this
        exact hn this
    · have a : sumN c (fun k => A r k * w k) ≤ 0 := sumN_np fun k hk => mulR_np (hl r k hr (by omega) (by omega)) (wn k (by omega))
      have b := mulR_np (hl r c hr hc (by omega)) (wn c hc)
      grind
theorem arg_max {f : Nat → Rat} : ∀ {n : Nat}, 0 < n → ∃ i, i < n ∧ ∀ k, k < n → f k ≤ f i
  | 0, h => absurd h (Nat.lt_irrefl 0)
  | n + 1, _ => by
    by_cases z : n = 0
    · subst z
      refine ⟨0, by omega, fun k hk => ?_⟩
      rw [show k = 0 by omega]
      exact Rat.le_refl
    · obtain ⟨i, hi, h⟩ := arg_max (f := f) (n := n) (by omega)
      by_cases g : f n ≤ f i
      · refine ⟨i, by omega, fun k hk => ?_⟩
        by_cases e : k = n
        · rw [e]
          exact g
        · exact h k (by omega)
      · refine ⟨n, by omega, fun k hk => ?_⟩
        by_cases e : k = n
        · rw [e]
          exact Rat.le_refl
        · have := h k (by omega)
          grind
/-- amounts that it leads to amounts: no contents that it leads to nothing above 0 -/
theorem low_excl {n : Nat} {A : Mx} (hl : Low n A) {v u : Nat → Rat} (v0 : ∀ i, i < n → 0 < v i) (hv : ∀ r, r < n → 0 < sumN n fun l => A r l * v l) (u0 : ∀ i, i < n → 0 ≤ u i) (hu : ∀ r, r < n → sumN n (fun l => A r l * u l) ≤ 0) : ∀ i, i < n → u i = 0 := fun j hj => by
  obtain ⟨i, hi, h⟩ := arg_max (f := fun k => u k / v k) (n := n) (by omega)
  have vi := v0 i hi
  have ti : u i / v i * v i = u i := by grind
  have le : ∀ l, l < n → 0 ≤ u i / v i * v l - u l := fun l hl2 => by
    have a := h l hl2
    have vl := v0 l hl2
    have e : u l / v l * v l = u l := by grind
    have b := Rat.mul_le_mul_of_nonneg_right a (show 0 ≤ v l by grind)
    have b : u l / v l * v l ≤ u i / v i * v l := b
    grind
  by_cases z : u i = 0
  · have a := le j hj
    have b := u0 j hj
    rw [z, show (0 : Rat) / v i = 0 by grind, Rat.zero_mul] at a
    grind
  · exfalso
    have t0 : 0 < u i / v i := by
      by_cases p : 0 < u i / v i
      · exact p
      · exfalso
        have b := Rat.mul_le_mul_of_nonneg_right (show u i / v i ≤ 0 by grind) (show 0 ≤ v i by grind)
        rw [ti, Rat.zero_mul] at b
        have := u0 i hi
        grind
    have s : sumN n (fun l => A i l * (u i / v i * v l - u l)) ≤ 0 := sumN_np fun l hl2 => by
      by_cases c : i = l
      · rw [← c, ti, show u i - u i = 0 by grind, Rat.mul_zero]
        exact Rat.le_refl
      · exact mulR_np (hl i l hi hl2 c) (le l hl2)
    have e : sumN n (fun l => A i l * (u i / v i * v l - u l)) = u i / v i * sumN n (fun l => A i l * v l) + -sumN n (fun l => A i l * u l) := by
      rw [← sumN_left, ← sumN_neg, ← sumN_add]
      exact sumN_congr fun l _ => by grind
    have p := Rat.mul_lt_mul_of_pos_right (hv i hi) t0
    have q := hu i hi
    rw [e] at s
    rw [Rat.zero_mul] at p
    grind
end DL
-- DGP
set_option maxRecDepth 100000
set_option maxHeartbeats 2000000
/-! all(elt for target in iter for target1 in iter1) -/
namespace DL
open PySem PySem.Spec PyProof.Rows L2
abbrev gen2E (elt tg iter tg1 iter1 : Expr) (ifs1 : List Expr) (scope : Scope) (pos : Pos) : Expr := .GeneratorExp elt [⟨tg, iter, [], 0⟩, ⟨tg1, iter1, ifs1, 0⟩] scope pos
abbrev gen2Code (elt tg iter tg1 iter1 : Expr) (ifs1 : List Expr) (scope : Scope) (pos : Pos) (it : Addr) (genv : Env) : Code := .compLoop (gen2E elt tg iter tg1 iter1 ifs1 scope pos) 0 (.ref it) .none genv
abbrev gen2In (elt tg iter tg1 iter1 : Expr) (ifs1 : List Expr) (scope : Scope) (pos : Pos) (it : Addr) (genv : Env) : Code := .compLoop (gen2E elt tg iter tg1 iter1 ifs1 scope pos) 1 (.ref it) .none genv
theorem compTurn_gen2 (elt t0 i0 t1 i1 : Expr) (ifs1 : List Expr) (scope : Scope) (pos : Pos) (it acc : Value) (env : Env) :
    compTurn (gen2E elt t0 i0 t1 i1 ifs1 scope pos) 0 it acc env = (do
      standAt i0.pos
      match ← pyNext it with
      | none => pure (.done .next)
      | some v =>
        letOwnedTupleGo t0 it v
        assign t0 env v
        let mut ok := true
        for c in ([] : List Expr) do
          if ok then ok ← isTrue c env (eval c env)
        if ok then
          let x ← eval i1 env
          standAt i1.pos
          let x ← foldedSetIterable i1 env x
          let _ ← runOwn (.compStart (gen2E elt t0 i0 t1 i1 ifs1 scope pos) 1 (← holding [x] (pyIter x)) acc env) env
        again (.compLoop (gen2E elt t0 i0 t1 i1 ifs1 scope pos) 0 it acc env)) := by rfl
theorem compTurn_gen21 (elt t0 i0 t1 i1 : Expr) (ifs1 : List Expr) (scope : Scope) (pos : Pos) (it acc : Value) (env : Env) :
    compTurn (gen2E elt t0 i0 t1 i1 ifs1 scope pos) 1 it acc env = (do
      standAt i1.pos
      match ← pyNext it with
      | none => pure (.done .next)
      | some v =>
        letOwnedTupleGo t1 it v
        assign t1 env v
        let mut ok := true
        for c in ifs1 do
          if ok then ok ← isTrue c env (eval c env)
        if ok then
          (do let v ← eval elt env; standAt elt.pos; let _ ← yieldOut env v)
        again (.compLoop (gen2E elt t0 i0 t1 i1 ifs1 scope pos) 1 it acc env)) := by rfl
/-- the second loop stands in the generator's own frame -/
theorem over_in2 {Ag : Around} {elt tg iter tg1 iter1 : Expr} {ifs1 : List Expr} {scope : Scope} {pos : Pos} {it it1 : Addr} {genv : Env} {k : Result → Sem PySem.Fin} {l : List Value} {p : Pos} {kp : List Value} :
    Ag.over (gen2In elt tg iter tg1 iter1 ifs1 scope pos it1 genv) [.ret k none false l (gen2Code elt tg iter tg1 iter1 ifs1 scope pos it genv) p kp] = Ag.over (gen2Code elt tg iter tg1 iter1 ifs1 scope pos it genv) [] := rfl
theorem over_st2 {Ag : Around} {elt tg iter tg1 iter1 : Expr} {ifs1 : List Expr} {scope : Scope} {pos : Pos} {it it1 : Addr} {genv : Env} {k : Result → Sem PySem.Fin} {l : List Value} {p : Pos} {kp : List Value} :
    Ag.over (.compStart (gen2E elt tg iter tg1 iter1 ifs1 scope pos) 1 (.ref it1) .none genv) [.ret k none false l (gen2Code elt tg iter tg1 iter1 ifs1 scope pos it genv) p kp] = Ag.over (gen2Code elt tg iter tg1 iter1 ifs1 scope pos it genv) [] := rfl
/-- what is wanted of the turns of both loops: W by the turn, what is left of the first loop's turns, what is left of all yields -/
def GenW2 (J : It) (g : TG) (wi1 : TI) (g1 : TG) (tt1 : TT) (te : TE) (σw : L2.St) (vs vs1 : List Nat) (W : Nat → Nat → Nat → Hp → Prop) (Q : VK) : Prop := ∀ i o m H, W i o m H →
  (J.stop i H ∧ Q (.bl true) H) ∨ (J.go i H ∧ ∀ x H', J.yld i H x H' → g x σw H' fun σ2 H2 => wipe σ2 vs = σw ∧ wi1 σ2 H2 fun J1 H4 => ∃ W1 : Nat → Nat → Hp → Prop, W1 0 m H4 ∧ ∀ j k H, W1 j k H →
    (J1.stop j H ∧ ∃ o', o' < o ∧ ∃ m', m' ≤ k ∧ W (i + 1) o' m' H) ∨ (J1.go j H ∧ ∃ Nx1 : Hp → Prop, (∀ H', Nx1 H' → ∃ k', k' < k ∧ W1 (j + 1) k' H') ∧ ∀ x H', J1.yld j H x H' → g1 x (wipe σ2 vs1) H' fun σ3 H5 => wipe σ3 vs1 = wipe σ2 vs1 ∧ tt1 σ3 H5 fun bt H6 => if bt = true then te σ3 H6 fun y H7 => ∃ b, y = .bl b ∧ (b = true → Nx1 H7) ∧ (b = false → Q (.bl false) H7) else Nx1 H6))
section
variable {X : Cx} {σw : L2.St} {s3 : Shared} {H3 : Hp} {genv : Env} {fp : List Addr} {Ag : Around} {elt tg iter tg1 iter1 : Expr} {ifs1 : List Expr} {scope : Scope} {pos : Pos} {it : Addr} {J : It} {tn : Nat → Heap → Prop} {g : TG} {wi1 : TI} {g1 : TG} {tt1 : TT} {te : TE} {vs vs1 : List Nat} {W : Nat → Nat → Nat → Hp → Prop} {Q : VK}
/-- the first loop's turns, n yields at most left -/
def Out2 (X : Cx) (σw : L2.St) (fp : List Addr) (Ag : Around) (elt tg iter tg1 iter1 : Expr) (ifs1 : List Expr) (scope : Scope) (pos : Pos) (it : Addr) (genv : Env) (tn : Nat → Heap → Prop) (W : Nat → Nat → Nat → Hp → Prop) (Q : VK) (G : Cx) (pa : List (Addr × Obj)) (gN n o : Nat) : Prop :=
  ∀ (m i : Nat) (s0 s : Shared) (H : Hp), m < n → Inv G pa σw H s → tn i s.heap → (∀ b ∈ fp, H b = none) → W i o m H → gN ≤ s.gens.size →
    Seg (model X.prog X.w) Ag (GenR G pa σw Q) (GenY gN G pa σw Q) n s0 (gen2Code elt tg iter tg1 iter1 ifs1 scope pos it genv) ((model X.prog X.w).den (gen2Code elt tg iter tg1 iter1 ifs1 scope pos it genv)) [] s
theorem gen2_in (T : Turn X.prog X.w X.K tg J fp it tn) (hw0 : wipe σw vs = σw) (hv : ∀ i ∈ vs1, i ∈ vs) {G : Cx} (hG : genCx X (Ag.over (gen2Code elt tg iter tg1 iter1 ifs1 scope pos it genv) []) s3 H3 genv fp = G)
    (hpg1 : PG G tg1 g1) (hpt1 : PTs G ifs1 tt1) (hpe : PE G elt te) (hco : genv.scope.isCoroutine = false) {pa : List (Addr × Obj)} {gN i : Nat} {h7 : Heap} (st7 : tn (i + 1) h7) {σ8 : L2.St} (hw8 : wipe σ8 vs = σw)
    {it1 : Addr} {fp1 : List Addr} {tn1 : Nat → Heap → Prop} {J1 : It} (T1 : Turn X.prog X.w X.K tg1 J1 fp1 it1 tn1) (f1 : ∀ b ∈ fp1, ∀ H' : Hp, H' b = none → FpOk G (pa ++ pinsAt fp h7) H' b)
    {k : Result → Sem PySem.Fin} {l : List Value} {p : Pos} {kp : List Value} (hk : k (.ok .next) = .pure (.again (gen2Code elt tg iter tg1 iter1 ifs1 scope pos it genv))) :
    ∀ (n : Nat) (o : Nat) (W1 : Nat → Nat → Hp → Prop), (∀ o', o' < o → ∀ n', n' ≤ n → Out2 X σw fp Ag elt tg iter tg1 iter1 ifs1 scope pos it genv tn W Q G pa gN n' o') →
      (∀ j k H, W1 j k H → (J1.stop j H ∧ ∃ o', o' < o ∧ ∃ m', m' ≤ k ∧ W (i + 1) o' m' H) ∨ (J1.go j H ∧ ∃ Nx1 : Hp → Prop, (∀ H', Nx1 H' → ∃ k', k' < k ∧ W1 (j + 1) k' H') ∧ ∀ x H', J1.yld j H x H' → g1 x (wipe σ8 vs1) H' fun σ3 H5 => wipe σ3 vs1 = wipe σ8 vs1 ∧ tt1 σ3 H5 fun bt H6 => if bt = true then te σ3 H6 fun y H7 => ∃ b, y = .bl b ∧ (b = true → Nx1 H7) ∧ (b = false → Q (.bl false) H7) else Nx1 H6)) →
      ∀ (j m : Nat) (s0 s : Shared) (H : Hp), m < n → Inv G (pa ++ pinsAt fp h7) (wipe σ8 vs1) H s → tn1 j s.heap → (∀ b ∈ fp1, H b = none) → W1 j m H → gN ≤ s.gens.size →
      Seg (model X.prog X.w) Ag (GenR G pa σw Q) (GenY gN G pa σw Q) n s0 (gen2In elt tg iter tg1 iter1 ifs1 scope pos it1 genv) ((model X.prog X.w).den (gen2In elt tg iter tg1 iter1 ifs1 scope pos it1 genv)) [.ret k none false l (gen2Code elt tg iter tg1 iter1 ifs1 scope pos it genv) p kp] s := by
  have hGA : G.A = Ag.over (gen2Code elt tg iter tg1 iter1 ifs1 scope pos it genv) [] := by rw [← hG]
  have hGp : G.prog = X.prog := by rw [← hG]
  have hGw : G.w = X.w := by rw [← hG]
  have hGK : G.K = X.K := by rw [← hG]
  have hGc : G.calm = true := by rw [← hG]
  have hGx : G.xe = fun _ _ => False := by rw [← hG]
  have hGv : G.env = genv := by rw [← hG]
  have hl8 : σw.length = (wipe σ8 vs1).length := by rw [wipe_length, ← hw8, wipe_length]
  have hk9 : ∀ (j : Nat) v, σw[j]? = some (some v) → (wipe σ8 vs1)[j]? = some (some v) := fun j v e => by
    rw [← hw8] at e
    obtain ⟨e1, e2⟩ := wipe_some e
    rw [wipe_out fun z => e2 (hv j z)]
    exact e1
  have held : ∀ {σ' : L2.St} {H' : Hp} {s' : Shared}, Inv G (pa ++ pinsAt fp h7) σ' H' s' → ∀ c ∈ fp, ∀ o, h7.get? c = some o → s'.heap.get? c = some o ∧ H' c = none := fun I' c hc o e =>
    have q := I'.pin (c, o) (List.mem_append_right _ (List.mem_append_right _ (mem_pinsAt hc e)))
    ⟨q.1, q.2.1⟩
  intro n
  induction n with
  | zero => exact fun o W1 _ _ j m s0 s H hm => absurd hm (Nat.not_lt_zero m)
  | succ n ih =>
    intro o W1 out turn1 j m
    induction m using Nat.strongRecOn generalizing j with
    | ind m ihm =>
    intro s0 s H hm I st nf hw hn
    show Seg _ Ag _ _ _ s0 _ ((compTurn (gen2E elt tg iter tg1 iter1 ifs1 scope pos) 1 (.ref it1) .none genv).onRaise (fun x => do noteFrame x genv; theTreesLotGoes x)) _ s
    rw [compTurn_gen21, Sem.onRaise_eq_wrap]
    refine seg_bind_wrap (wpAny_standAt (seg_bind_wrap ?_))
    rw [over_in2]
    rcases turn1 j m H hw with ⟨stop, o', ho, m', hm', w'⟩ | ⟨go, Nx, hNx, step⟩
    · have td := T1.done G hGp hGw hGK hGc j _ s _ H (fun _ _ => False) I (fun b hb => f1 b hb H (nf b hb)) st stop
      rw [hGA] at td
      refine thnG hn td fun r s6 ⟨hr, I6⟩ hn6 => ?_
      subst hr
      show Seg _ Ag _ _ _ s0 _ (leafOf (.ok .next)) _ s6
      refine seg_leaf _ ?_
      rw [hk]
      refine seg_again rfl (out o' ho (n + 1) (Nat.le_refl _) m' (i + 1) s0 s6 H (by omega) ((I6.unpinned (pins := pa)).weak hl8 hk9) ?_ ?_ w' hn6)
      · exact T.keep _ _ _ st7 fun c hc o e => (held I6 c hc o e).1
      · exact fun c hc => by
          obtain ⟨o, e, _⟩ := T.obj _ _ st7 c hc
          exact (held I6 c hc o e).2
    · have ti := T1.item G hGp hGw hGK hGc j _ s _ H (fun _ _ => False) I (fun b hb => f1 b hb H (nf b hb)) st go
      rw [hGA] at ti
      refine thnG hn ti fun r s6 ⟨u, hr, h6⟩ hn6 => ?_
      subst hr
      refine seg_bind_wrap ?_
      rw [over_in2]
      refine thnG hn6 h6 fun _ s7 ⟨x, H7, I7, r7, y7, st71, n7⟩ hn7 => ?_
      have I7' := I7.pinned (fun b hb => f1 b hb H7 (n7 b hb)) (T1.obj _ _ st71)
      have pg := hpg1.run _ s7 _ H7 x u _ I7' r7 (step x H7 y7)
      rw [hGp, hGw, hGA, hGx, hGv] at pg
      refine seg_bind_wrap ?_
      rw [over_in2]
      refine thnG hn7 pg fun _ s8 ⟨σ9, H8, I8, hw9, q8⟩ hn8 => ?_
      have pt := hpt1.run _ s8 σ9 H8 _ I8 q8
      rw [hGp, hGw, hGA, hGx, hGv] at pt
      refine seg_bind_wrap ?_
      rw [over_in2]
      refine thnG hn8 pt fun bt s8' ⟨H8', I8', q8'⟩ hn8 => ?_
      clear q8 I8
      have heldN : ∀ {s9 : Shared} {H9 : Hp}, Inv G ((pa ++ pinsAt fp h7) ++ pinsAt fp1 s7.heap) σ9 H9 s9 → Inv G (pa ++ pinsAt fp h7) (wipe σ8 vs1) H9 s9 ∧ tn1 (j + 1) s9.heap ∧ ∀ c ∈ fp1, H9 c = none := fun {s9 H9} I9 => by
        have held1 : ∀ c ∈ fp1, ∀ o, s7.heap.get? c = some o → s9.heap.get? c = some o ∧ H9 c = none := fun c hc o e =>
          have q := I9.pin (c, o) (List.mem_append_right _ (List.mem_append_right _ (mem_pinsAt hc e)))
          ⟨q.1, q.2.1⟩
        refine ⟨(I9.unpinned (pins := pa ++ pinsAt fp h7)).weak (by rw [← hw9, wipe_length]) (fun j v e => by
          rw [← hw9] at e
          exact (wipe_some e).1), T1.keep _ _ _ st71 fun c hc o e => (held1 c hc o e).1, fun c hc => by
          obtain ⟨o, e, _⟩ := T1.obj _ _ st71 c hc
          exact (held1 c hc o e).2⟩
      cases bt with
      | false =>
        simp only [Bool.false_eq_true, if_false] at q8' ⊢
        obtain ⟨J9, st9, n9⟩ := heldN I8'
        obtain ⟨k', hk', w'⟩ := hNx H8' q8'
        show Seg _ Ag _ _ _ s0 _ (.pure (.again (gen2In elt tg iter tg1 iter1 ifs1 scope pos it1 genv))) _ s8'
        exact seg_again rfl (ihm k' hk' (j + 1) s0 s8' H8' (by omega) J9 st9 n9 w' hn8)
      | true =>
      simp only [if_true] at q8' ⊢
      have hy : ∀ v, yieldOut genv v = yieldValue v := fun v => by
        unfold yieldOut
        rw [hco]
        rfl
      simp only [hy]
      have pe := hpe.run _ s8' σ9 H8' _ I8' q8'
      rw [hGp, hGw, hGA, hGx, hGv] at pe
      rw [Sem.bind_eq_wrap', Sem.bind_eq_wrap', Sem.wrap_wrap, Sem.wrap_wrap]
      refine seg_wrap ?_
      rw [over_in2]
      refine thnG hn8 pe fun z s9 ⟨y, H9, I9, r9, b, eb, yes, no⟩ hn9 => ?_
      subst eb
      obtain rfl : z = .bool b := r9
      obtain ⟨J9, st9, n9⟩ := heldN I9
      have K9 : Inv G pa σw H9 s9 := (J9.unpinned (pins := pa)).weak hl8 hk9
      refine seg_at (seg_yield rfl rfl rfl ⟨b, rfl, ⟨hn9, H9, K9, no⟩, fun hb s'' e1 e2 e3 e4 => ?_⟩)
      obtain ⟨k', hk', w'⟩ := hNx H9 (yes hb)
      exact seg_again rfl (ih o W1 (fun o' ho n' hn' => out o' ho n' (by omega)) turn1 (j + 1) k' s'' s'' H9 (by omega) (inv_same J9 e1 e2 e3) (e1 ▸ st9) n9 w' e4)
theorem gen2_start {G : Cx} {n : Nat} {R : GenEnd} {Y : Protocol} {s0 s : Shared} {it1 : Addr} {fp1 : List Addr} {tn1 : Nat → Heap → Prop} {J1 : It} {j : Nat} (T1 : Turn X.prog X.w X.K tg1 J1 fp1 it1 tn1) (st : tn1 j s.heap)
    {k : Result → Sem PySem.Fin} {l : List Value} {p : Pos} {kp : List Value}
    (loop : Seg (model X.prog X.w) Ag R Y n s0 (gen2In elt tg iter tg1 iter1 ifs1 scope pos it1 genv) ((model X.prog X.w).den (gen2In elt tg iter tg1 iter1 ifs1 scope pos it1 genv)) [.ret k none false l (gen2Code elt tg iter tg1 iter1 ifs1 scope pos it genv) p kp] s) :
    Seg (model X.prog X.w) Ag R Y n s0 (.compStart (gen2E elt tg iter tg1 iter1 ifs1 scope pos) 1 (.ref it1) .none genv) ((model X.prog X.w).den (.compStart (gen2E elt tg iter tg1 iter1 ifs1 scope pos) 1 (.ref it1) .none genv)) [.ret k none false l (gen2Code elt tg iter tg1 iter1 ifs1 scope pos it genv) p kp] s := by
  show Seg _ Ag _ _ _ s0 _ ((compStart (gen2E elt tg iter tg1 iter1 ifs1 scope pos) 1 (.ref it1) .none genv).onRaise (fun x => do noteFrame x genv; standAt theWindowsPlace)) _ s
  unfold compStart
  rw [Sem.onRaise_eq_wrap]
  show Seg _ Ag _ _ _ s0 _ ((ask >>= _).wrap _ _ _ _) _ s
  refine seg_bind_wrap (wpAny_askSetting ?_)
  split
  · exact seg_again rfl loop
  · refine seg_bind_wrap (wpAny_rule ?_)
    show Seg _ Ag _ _ _ s0 _ ((standAt iter1.pos >>= _).wrap _ _ _ _) _ s
    exact seg_bind_wrap (wpAny_standAt (seg_bind_wrap (T1.self _ j s _ _ st (seg_again rfl loop))))
theorem gen2_loop (T : Turn X.prog X.w X.K tg J fp it tn) (turns : GenW2 J g wi1 g1 tt1 te σw vs vs1 W Q) (hw0 : wipe σw vs = σw) (hv : ∀ i ∈ vs1, i ∈ vs) {G : Cx} (hG : genCx X (Ag.over (gen2Code elt tg iter tg1 iter1 ifs1 scope pos it genv) []) s3 H3 genv fp = G)
    (hpg : PG G tg g) (hi1 : PI G tg1 iter1 wi1) (hpg1 : PG G tg1 g1) (hpt1 : PTs G ifs1 tt1) (hpe : PE G elt te) (hs1 : ∀ env x, foldedSetIterable iter1 env x = pure x) (hco : genv.scope.isCoroutine = false) {pa : List (Addr × Obj)} (hpa : ∀ p ∈ pa, p.1 ∉ fp) {gN : Nat} :
    ∀ (n n' : Nat), n' ≤ n → ∀ o, Out2 X σw fp Ag elt tg iter tg1 iter1 ifs1 scope pos it genv tn W Q G pa gN n' o := by
  have hGA : G.A = Ag.over (gen2Code elt tg iter tg1 iter1 ifs1 scope pos it genv) [] := by rw [← hG]
  have hGp : G.prog = X.prog := by rw [← hG]
  have hGw : G.w = X.w := by rw [← hG]
  have hGK : G.K = X.K := by rw [← hG]
  have hGc : G.calm = true := by rw [← hG]
  have hGe : G.ex = fp := by rw [← hG]
  have hGpn : G.pn = [] := by rw [← hG]
  have hGx : G.xe = fun _ _ => False := by rw [← hG]
  have hGv : G.env = genv := by rw [← hG]
  have stat : ∀ {σ' : L2.St} {H' : Hp} {s' : Shared}, Inv G pa σ' H' s' → (∀ b ∈ fp, H' b = none) → ∀ b ∈ fp, FpOk G pa H' b := fun {σ' H' s'} I' hn b hb => by
    have hb' : b ∈ G.ex := by rw [hGe]; exact hb
    exact ⟨hn b hb, (I'.ok.exf b hb').1, I'.ok.exfs b hb', .inl hb', fun x c e => (I'.ok.exf b hb').2 x c e, fun p hp z => by
      rw [hGpn] at hp
      exact hpa p hp (z ▸ hb)⟩
  intro n
  induction n with
  | zero => exact fun n' hn' o m i s0 s H hm => absurd hm (by omega)
  | succ n ih =>
    intro n' hn'
    by_cases hle : n' ≤ n
    · exact ih n' hle
    have e : n' = n + 1 := by omega
    subst e
    intro o
    induction o using Nat.strongRecOn with
    | ind o iho =>
    intro m i s0 s H hm I st nf hw hn
    have out : ∀ o', o' < o → ∀ n', n' ≤ n + 1 → Out2 X σw fp Ag elt tg iter tg1 iter1 ifs1 scope pos it genv tn W Q G pa gN n' o' := fun o' ho n' hn' => by
      by_cases hle : n' ≤ n
      · exact ih n' hle o'
      · have e : n' = n + 1 := by omega
        subst e
        exact iho o' ho
    show Seg _ Ag _ _ _ s0 _ ((compTurn (gen2E elt tg iter tg1 iter1 ifs1 scope pos) 0 (.ref it) .none genv).onRaise (leaving genv)) [] s
    rw [compTurn_gen2, Sem.onRaise_eq_wrap]
    refine seg_bind_wrap (wpAny_standAt (seg_bind_wrap ?_))
    rcases turns i o m H hw with ⟨stop, qq⟩ | ⟨go, step⟩
    · have td := T.done G hGp hGw hGK hGc i pa s _ H (fun _ _ => False) I (stat I nf) st stop
      rw [hGA] at td
      refine thnF td fun r s6 ⟨hr, I6⟩ => ?_
      subst hr
      exact seg_end (.ok .next) ⟨rfl, H, I6, qq⟩
    · have ti := T.item G hGp hGw hGK hGc i pa s _ H (fun _ _ => False) I (stat I nf) st go
      rw [hGA] at ti
      refine thnG hn ti fun r s6 ⟨u, hr, h6⟩ hn6 => ?_
      subst hr
      refine seg_bind_wrap (thnG hn6 h6 fun _ s7 ⟨x, H7, I7, r7, y7, st7, n7⟩ hn7 => ?_)
      have I7' := I7.pinned (stat I7 n7) (T.obj _ _ st7)
      have pg := hpg.run _ s7 _ H7 x u _ I7' r7 (step x H7 y7)
      rw [hGp, hGw, hGA, hGx, hGv] at pg
      refine seg_bind_wrap (thnG hn7 pg fun _ s8 ⟨σ8, H8, I8, hw8, q8⟩ hn8 => ?_)
      refine seg_bind_wrap (wpAny_of_eq (rfl : (forIn ([] : List Expr) true fun c r => if r = true then do let ok ← isTrue c genv (eval c genv); pure (ForInStep.yield ok) else pure (ForInStep.yield r) : Sem Bool) = pure true) ?_)
      simp only [if_true]
      have pi := hi1.run _ s8 σ8 H8 _ I8 q8
      rw [hGp, hGw, hGA, hGx, hGv] at pi
      refine seg_bind_wrap (thnG hn8 pi fun xv s9 hx hn9 => ?_)
      refine seg_bind_wrap (wpAny_standAt (seg_bind_wrap (wpAny_of_eq (hs1 genv xv) (seg_bind_wrap (wpAny_holding ?_)))))
      refine thnG hn9 hx fun itv s10 h10 hn10 => ?_
      obtain ⟨it1, fp1, tn1, J1, H10, e1, I10, T1, st10, f10, W1, w1, turn1⟩ := h10
      subst e1
      rw [hGp, hGw, hGK] at T1
      rw [Sem.bind_eq_wrap', Sem.wrap_wrap]
      unfold runOwn
      rw [Sem.onRaise_eq_wrap, Sem.wrap_wrap]
      refine seg_call fun p => ?_
      refine gen2_start (G := G) (J1 := J1) T1 st10 ?_
      refine gen2_in (s3 := s3) (H3 := H3) (vs := vs) (vs1 := vs1) (g1 := g1) (tt1 := tt1) (te := te) T hw0 hv hG hpg1 hpt1 hpe hco st7 hw8 T1 (fun b hb H' h => ⟨h, (f10 b hb).2⟩) ?_ (n + 1) o W1 out turn1 0 m s0 s10 H10 hm (I10.weak (wipe_length _ _) (fun j v e => (wipe_some e).1)) st10 (fun b hb => (f10 b hb).1) w1 hn10
      rfl
theorem gen2_begin (T : Turn X.prog X.w X.K tg J fp it tn) {R : GenEnd} {Y : Protocol} {n i : Nat} {s0 s : Shared} (st : tn i s.heap)
    (loop : Seg (model X.prog X.w) Ag R Y n s0 (gen2Code elt tg iter tg1 iter1 ifs1 scope pos it genv) ((model X.prog X.w).den (gen2Code elt tg iter tg1 iter1 ifs1 scope pos it genv)) [] s) :
    Seg (model X.prog X.w) Ag R Y n s0 (.compStart (gen2E elt tg iter tg1 iter1 ifs1 scope pos) 0 (.ref it) .none genv) ((model X.prog X.w).den (.compStart (gen2E elt tg iter tg1 iter1 ifs1 scope pos) 0 (.ref it) .none genv)) [] s := by
  show Seg _ Ag _ _ _ s0 _ ((compStart (gen2E elt tg iter tg1 iter1 ifs1 scope pos) 0 (.ref it) .none genv).onRaise (leaving genv)) [] s
  unfold compStart
  rw [Sem.onRaise_eq_wrap]
  show Seg _ Ag _ _ _ s0 _ ((ask >>= _).wrap _ _ _ _) [] s
  refine seg_bind_wrap (wpAny_askSetting ?_)
  split
  · exact seg_again rfl loop
  · refine seg_bind_wrap (wpAny_rule ?_)
    show Seg _ Ag _ _ _ s0 _ ((standAt iter.pos >>= _).wrap _ _ _ _) [] s
    exact seg_bind_wrap (wpAny_standAt (seg_bind_wrap (T.self _ i s _ _ st (seg_again rfl loop))))
end
theorem eval_gen2 (elt t0 i0 t1 i1 : Expr) (ifs1 : List Expr) (sc : Scope) (ps : Pos) (en : Env) (hco : sc.isCoroutine = false) : eval (gen2E elt t0 i0 t1 i1 ifs1 sc ps) en = (do
      let u ← eval i0 en
      standAt i0.pos
      let u ← genFold i0 en u
      let j ← holding [u] (pyIter u)
      enterFrame
      let cs ← closureFor sc en
      let cd ← genexprCode en ps (en.qual ++ "<genexpr>") sc
      let bs ← builtinsFor en.globals en.builtins
      let ce ← newFunctionEnv sc en.globals cs [(".0", j)] (en.qual ++ "<genexpr>.") none cd none bs
      newGenerator (.compStart (gen2E elt t0 i0 t1 i1 ifs1 sc ps) 0 j .none ce) "<genexpr>" (en.qual ++ "<genexpr>")) := by
  rw [arm_eval_GeneratorExp]; simp only [hco, Bool.false_eq_true, if_false]; cases i0 <;> rfl
/-- the generator is made -/
theorem gen2_make {M : Model} {A : Around} {E : Value → Shared → Prop} {s : Shared} {en : Env} {elt t0 i0 t1 i1 : Expr} {ifs1 : List Expr} {sc : Scope} {cs : List (Str × Addr)} {ps : Pos} {Q : Value → Shared → Prop} (hco : sc.isCoroutine = false) (hcl : closureFor sc en = pure cs) (hce : ∀ y ∈ sc.names, y.2 ≠ .cell) (h0 : sc.names.lookup (".0" : Str) = some NameKind.local) (hki : sc.kind = .function) (hro : A.depth < recursionLimit)
    (h : wpAny M A (eval i0 en) (fun u s1 => wpAny M A (pyIter u) (fun j s2 => s2.heap.NoLimit ∧ wpAny M A (genexprCode en ps (en.qual ++ "<genexpr>") sc) (fun cd s3 => wpAny M A (builtinsFor en.globals en.builtins) (fun bs s4 => ∀ h', h'.Ns s4.heap.objs.size (fun y => if y = ".0" then some j else none) → Heap.SameBut s4.heap.objs.size (s4.heap.push { cls := .type "frame", data := .dict #[] }) h' →
          Q (.ref h'.objs.size) { s4 with gens := s4.gens.push (.fresh (.compStart (gen2E elt t0 i0 t1 i1 ifs1 sc ps) 0 j .none (genEnv sc cs s4.heap.objs.size cd bs en))), toks := s4.toks + 1 + 1 + 1, heap := h'.push { cls := .type "generator", data := .fields #[.int s4.gens.size 0, .str "<genexpr>" (s4.toks + 1), .str (en.qual ++ "<genexpr>") (s4.toks + 1 + 1)] } }) E s3) E s2) E s1) E s)
    (hs : ∀ u, genFold i0 en u = pure u) : wpAny M A (eval (gen2E elt t0 i0 t1 i1 ifs1 sc ps) en) Q E s := by
  rw [eval_gen2 _ _ _ _ _ _ _ _ _ hco, hcl]
  refine wpAny_bind (wpAny_mono h (fun u s1 k1 => wpAny_bind (wpAny_standAt (wpAny_bind (wpAny_of_eq (hs u) (wpAny_bind (wpAny_holding (wpAny_mono k1 (fun j s2 k2 => wpAny_bind (wpAny_enterFrame k2.1 hro (wpAny_bind (wpAny_pure ?_)))) fun _ _ e => e))))))) fun _ _ e => e)
  refine wpAny_bind (wpAny_mono k2.2 (fun cd s3 k3 => wpAny_bind (wpAny_mono k3 (fun bs s4 k4 => ?_) fun _ _ e => e)) fun _ _ e => e)
  refine wpAny_bind (wpAny_newFunctionEnv hce (fun y hy => by
    rw [List.mem_singleton.mp hy]
    exact h0) (fun h' hn' hs' => ?_) hki)
  have e : (fun y : Str => ([((".0" : Str), j)] : List (Str × Value)).reverse.lookup y) = fun y : Str => if y = (".0" : Str) then some j else none := funext fun y => by
    by_cases q : y = ".0"
    · rw [if_pos q, q]; simp
    · have q2 : (y == (".0" : Str)) = false := by simpa using q
      simp [List.lookup, q2, q]
  rw [e] at hn'
  simp only [newGenerator, newFields]
  exact wpAny_bind (wpAny_newGen (wpAny_bind (wpAny_mkText (wpAny_bind (wpAny_mkText (wpAny_newObj_type (k4 h' hn' hs') (by size_fits)))))))
/-- the around of the generator's turns -/
abbrev gen2A (A : Around) (elt tg iter tg1 iter1 : Expr) (ifs1 : List Expr) (scope : Scope) (pos : Pos) (it : Addr) (genv : Env) : Around := A.in1.in1.over (gen2Code elt tg iter tg1 iter1 ifs1 scope pos it genv) []
section
variable {elt tg iter tg1 iter1 : Expr} {ifs1 : List Expr} {scope : Scope} {pos : Pos}
theorem gen2A_room {k : Nat} {A : Around} {it : Addr} {genv : Env} (r : Room (k + 1) A) : Room k (gen2A A elt tg iter tg1 iter1 ifs1 scope pos it genv) := by
  refine ⟨r.hd, ?_, ?_⟩
  · have := r.dp
    show A.depth + 0 + 1 + 3 * k + 5 < _
    omega
  · have := r.un
    show A.units + 1 + 1 + 0 + 3 + 16 * k + 200 < _
    omega
theorem gen2A_guards {A : Around} {it : Addr} {genv : Env} (h : A.guards = some []) : (gen2A A elt tg iter tg1 iter1 ifs1 scope pos it genv).guards = some [] := by
  show pushGuards (gen2Code elt tg iter tg1 iter1 ifs1 scope pos it genv).guards (pushGuards (guardsOf (([] : List Frame).map Frame.where_)) A.guards) = some []
  rw [h]
  rfl
theorem gen2A_frames {A : Around} {it : Addr} {genv : Env} {l : List Env} (h : A.frames = some l) : (gen2A A elt tg iter tg1 iter1 ifs1 scope pos it genv).frames = some (genv :: l) := by
  show pushEnvs (gen2Code elt tg iter tg1 iter1 ifs1 scope pos it genv).envs (pushEnvs (envsOf (([] : List Frame).map Frame.where_)) A.frames) = _
  rw [h]
  rfl
end
section
variable {X : Cx} {elt tg iter tg1 iter1 : Expr} {ifs1 : List Expr} {scope : Scope} {gpos pos p : Pos} {wi wi1 : TI} {g g1 : TG} {tt1 : TT} {te : TE} {own : List (Str × Nat)} {c P : Addr}
/-- all(elt for tg in iter): W by the turn and a measure; the def's table may have grown -/
def tAllG2 (P : Addr) (wi : TI) (g : TG) (wi1 : TI) (g1 : TG) (tt1 : TT) (te : TE) (vs vs1 : List Nat) : TE := fun σ H Q => wi σ H fun J H1 => GxR.TabG H1 P ∧ ∀ H2, GxR.Tabbed P H1 H2 → ∃ W : Nat → Nat → Nat → Hp → Prop, (∃ o m, W 0 o m H2) ∧ GenW2 J g wi1 g1 tt1 te (wipe σ vs) vs vs1 W Q
theorem pe_allG2 {vs1 : List Nat} {k : Nat} (hr : Room k X.A) (hg : Gl X "all") (hm : X.mg "all" = none) (nd : X.N.Nodup) (TB : BTab X.base X.mg c P) (hcode : X.env.code = .ref c) (hi : PI X tg iter wi) (ok : BlkOk X.N X.env.scope scope own) (noCell : ∀ y ∈ scope.names, y.2 ≠ .cell)
    (hco : scope.isCoroutine = false) (hdot : scope.names.lookup (".0" : Str) = some NameKind.local)
    (hpg : ∀ (s : Shared) (H : Hp) (C it : Addr) (code : Value) (fp : List Addr), PG (genCx X (gen2A X.A elt tg iter tg1 iter1 ifs1 scope gpos it (genEnv scope (cloFrom X.env.cells scope.names []) C code builtinsNs X.env)) s H (genEnv scope (cloFrom X.env.cells scope.names []) C code builtinsNs X.env) fp) tg g)
    (hi1 : ∀ (s : Shared) (H : Hp) (C it : Addr) (code : Value) (fp : List Addr), PI (genCx X (gen2A X.A elt tg iter tg1 iter1 ifs1 scope gpos it (genEnv scope (cloFrom X.env.cells scope.names []) C code builtinsNs X.env)) s H (genEnv scope (cloFrom X.env.cells scope.names []) C code builtinsNs X.env) fp) tg1 iter1 wi1)
    (hpg1 : ∀ (s : Shared) (H : Hp) (C it : Addr) (code : Value) (fp : List Addr), PG (genCx X (gen2A X.A elt tg iter tg1 iter1 ifs1 scope gpos it (genEnv scope (cloFrom X.env.cells scope.names []) C code builtinsNs X.env)) s H (genEnv scope (cloFrom X.env.cells scope.names []) C code builtinsNs X.env) fp) tg1 g1) (hpt1 : ∀ (s : Shared) (H : Hp) (C it : Addr) (code : Value) (fp : List Addr), PTs (genCx X (gen2A X.A elt tg iter tg1 iter1 ifs1 scope gpos it (genEnv scope (cloFrom X.env.cells scope.names []) C code builtinsNs X.env)) s H (genEnv scope (cloFrom X.env.cells scope.names []) C code builtinsNs X.env) fp) ifs1 tt1) (hv1 : ∀ i ∈ vs1, i ∈ own.map (·.2))
    (hpe : ∀ (s : Shared) (H : Hp) (C it : Addr) (code : Value) (fp : List Addr), PE (genCx X (gen2A X.A elt tg iter tg1 iter1 ifs1 scope gpos it (genEnv scope (cloFrom X.env.cells scope.names []) C code builtinsNs X.env)) s H (genEnv scope (cloFrom X.env.cells scope.names []) C code builtinsNs X.env) fp) elt te)
    (hs : ∀ x, genFold iter X.env x = pure x := by intro _; rfl) (hs1 : ∀ env x, foldedSetIterable iter1 env x = pure x := by intro _ _; rfl)
    (he : starEach [gen2E elt tg iter tg1 iter1 ifs1 scope gpos] X.env = (false, eval (gen2E elt tg iter tg1 iter1 ifs1 scope gpos) X.env) :: starEach [] X.env := by rfl) :
    PE X (.Call (.Name "all" p) [gen2E elt tg iter tg1 iter1 ifs1 scope gpos] [] pos) (tAllG2 P wi g wi1 g1 tt1 te (own.map (·.2)) vs1) := by
  refine ⟨fun pins s σ H Q I h => ?_⟩
  have freeAt : ∀ y ∈ scope.names, y.2 = .free → ∃ c, X.env.cells.lookup y.1 = some c := fun y hy e => by
    rcases ok.free y hy e with u | u
    · exact I.ok.has _ (.inl u)
    · exact I.ok.has _ (.inr u)
  refine wpAny_Call_Name_kw (ld_blt I hg hm (show bootBuiltins "all" = some (.builtin "all") by decide +kernel) ?_)
  refine PyProof.Rows.callWith_builtin1 ?_ he (by rfl)
  rw [he]
  show wpAny _ _ (spliced ((false, eval (gen2E elt tg iter tg1 iter1 ifs1 scope gpos) X.env) :: backTo pos (starEach [] X.env))) _ _ s
  refine Calls.spliced_cons (gen2_make hco (closure_ok freeAt) noCell hdot ok.kind hr.depth ?_ hs)
  refine thn (hi.run pins s σ H _ I h) fun xv s1 hx => thn hx fun itv s2 h2 => ?_
  obtain ⟨it, fp, tn, J, H1, e, I2, T, st2, f2, ⟨ps, hP, ht⟩, turns⟩ := h2
  subst e
  refine ⟨I2.nolimit, ?_⟩
  have hPs : s2.heap.get? P = some { cls := .none, data := .fields ps } := I2.hok P _ hP
  have cd : PySem.W.CodeHd s2.heap c P := TB.code.keeps fun b u e => I2.bk b u e
  have cont : ∀ (code : Value) (h3 : Heap) (tk : Nat) (more : Array Value), (∀ b o, b ≠ P → s2.heap.get? b = some o → h3.get? b = some o) → h3.get? P = some { cls := .none, data := .fields (ps ++ more) } → TriplesOk (ps ++ more).toList → s2.heap.objs.size ≤ h3.objs.size →
      wpAny (model X.prog X.w) X.A (builtinsFor X.env.globals X.env.builtins) (fun bi s4 => ∀ h', h'.Ns s4.heap.objs.size (fun y => if y = ".0" then some (.ref it) else none) → Heap.SameBut s4.heap.objs.size (s4.heap.push { cls := .type "frame", data := .dict #[] }) h' →
        (fun v s5 => wpAny (model X.prog X.w) X.A (spliced (backTo pos (starEach [] X.env))) (fun r s6 => wpAny (model X.prog X.w) X.A (call (.builtin "all") (v :: r)) (EP X pins σ Q) X.xe s6) X.xe s5) (.ref h'.objs.size) { s4 with
            gens := s4.gens.push (.fresh (.compStart (gen2E elt tg iter tg1 iter1 ifs1 scope gpos) 0 (.ref it) .none (genEnv scope (cloFrom X.env.cells scope.names []) s4.heap.objs.size code bi X.env))),
            toks := s4.toks + 1 + 1 + 1,
            heap := h'.push { cls := .type "generator", data := .fields #[.int s4.gens.size 0, .str "<genexpr>" (s4.toks + 1), .str (X.env.qual ++ "<genexpr>") (s4.toks + 1 + 1)] } }) X.xe { s2 with heap := h3, toks := tk } := by
    intro code h3 tk more k3 hP3 trip sz3
    obtain ⟨bm, ob, b1, b2, b3, b4, b5, b6, b7, b8⟩ := TB.bm
    have I3 := GxR.inv_tab (more := more) (h' := h3) (g' := s2.gens) (d' := s2.drawn) (t' := tk) I2 hP k3 hP3 I2.bare
    generalize hs3 : ({ s2 with heap := h3, gens := s2.gens, drawn := s2.drawn, toks := tk } : Shared) = s3 at I3
    have heap3 : s3.heap = h3 := by rw [← hs3]
    have bare3 : AllBare s3.gens := I3.bare
    have tabbed : GxR.Tabbed P H1 (upd H1 P (.tbl (ps ++ more))) := ⟨⟨ps ++ more, upd_same, trip⟩, fun b hb => upd_ne hb⟩
    obtain ⟨W, ⟨o0, m0, w0⟩, gw⟩ := turns _ tabbed
    generalize hH3 : upd H1 P (.tbl (ps ++ more)) = H3 at I3 w0 tabbed
    refine wpAny_builtinsFor (m := X.mg) (by rw [I3.ok.glob]; exact I3.ok.mod.glob.keeps I3.bk) b1 b2 (I3.bk _ _ b5) b6 b7 b8 ?_
    intro h4 ns4 sb4
    have sz4 : h4.objs.size = s3.heap.objs.size + 1 := by rw [sb4.1, Heap.size_push]
    have k4 : ∀ b o, s3.heap.get? b = some o → h4.get? b = some o := fun b o e => sb4.extBut b o (Nat.ne_of_lt (Heap.lt_size e)) (Heap.get?_push_of_some _ e)
    generalize hoa : ({ cls := .type "generator", data := .fields #[.int s3.gens.size 0, .str "<genexpr>" (s3.toks + 1), .str (X.env.qual ++ "<genexpr>") (s3.toks + 1 + 1)] } : Obj) = oa
    generalize hgs : GenState.fresh (.compStart (gen2E elt tg iter tg1 iter1 ifs1 scope gpos) 0 (.ref it) .none (genEnv scope (cloFrom X.env.cells scope.names []) s3.heap.objs.size code builtinsNs X.env)) = gs
    have ga : (h4.push oa).get? h4.objs.size = some oa := Heap.get?_push_size _ (by rw [← hoa] <;> rfl)
    have fz : ∀ b ∈ fp, b < s2.heap.objs.size := fun b hb => by
      obtain ⟨o, e, _⟩ := T.obj _ _ st2 b hb
      exact Heap.lt_size e
    have nP : ∀ b ∈ fp, b ≠ P := fun b hb z => by
      have := (f2 b hb).1
      rw [z, hP] at this
      cases this
    have f3 : ∀ b ∈ fp, FpOk X pins H3 b ∧ b < s3.heap.objs.size := fun b hb => by
      refine ⟨⟨?_, (f2 b hb).2⟩, Nat.lt_of_lt_of_le (fz b hb) (by rw [heap3]; exact sz3)⟩
      rw [tabbed.2 b (nP b hb)]
      exact (f2 b hb).1
    have st3 : tn 0 s3.heap := T.keep _ _ _ st2 fun b hb o e => by rw [heap3]; exact k3 b o (nP b hb) e
    refine Calls.spliced_nil (call_function_tree F.kind_all F.plain_all F.entry_all (F.args_all1 _) ?_)
    unfold Builtin.«all»
    refine wpAny_bind (m := oneArg "all" _) (wpAny_pure ?_)
    have isg : (h4.push oa).IsGen h4.objs.size s3.gens.size := ⟨oa, _, _, ga, by rw [← hoa], by rw [← hoa], by rw [← hoa]⟩
    generalize hge : genEnv scope (cloFrom X.env.cells scope.names []) s3.heap.objs.size code builtinsNs X.env = genv at hgs
    have pg := hpg s3 H3 s3.heap.objs.size it code fp
    have pe := hpe s3 H3 s3.heap.objs.size it code fp
    have pi1 := hi1 s3 H3 s3.heap.objs.size it code fp
    have pg1 := hpg1 s3 H3 s3.heap.objs.size it code fp
    have pt1 := hpt1 s3 H3 s3.heap.objs.size it code fp
    have gbare : gs.bare = true := by rw [← hgs]; rfl
    have I4 := gen_start (h4 := h4.push oa) (g4 := s3.gens.push gs) (d4 := s3.drawn) (t4 := s3.toks + 1 + 1 + 1) (code := code) (Ag := gen2A X.A elt tg iter tg1 iter1 ifs1 scope gpos it genv) (pa := [(h4.objs.size, oa)]) I3 nd ok noCell f3 (Nat.le_refl _) (ns4.keeps fun b o e => Heap.get?_push_of_some _ e)
      (fun b o e => Heap.get?_push_of_some _ (k4 b o e)) (bare3.push gbare) hr.hd (by rw [hge]; exact gen2A_frames I3.ok.frames) (fun q hq => by
        rw [List.mem_singleton] at hq
        subst hq
        exact ⟨ga, by rw [sz4]; exact Nat.le_succ _, by rw [sz4]; exact Nat.succ_ne_self _, fun v z => by rw [← hoa] at z; cases z⟩)
    rw [hge] at I4 pg pe pi1 pg1 pt1
    have back : ∀ (b : Bool) (s' : Shared) (H' : Hp), Inv (genCx X (gen2A X.A elt tg iter tg1 iter1 ifs1 scope gpos it genv) s3 H3 genv fp) [(h4.objs.size, oa)] (wipe σ (own.map (·.2))) H' s' → Q (.bl b) H' → EP X pins σ Q (.bool b) s' := fun b s' H' I6 q => by
      have I7 : Inv X pins σ H' s' := I3.call' (ch := fp) I6.os I6.base I6.hok I6.bare fun b hb => ⟨(f3 b hb).1.2.2.2.1, (f3 b hb).1.2.1, (f3 b hb).1.2.2.2.2.1, (f3 b hb).1.2.2.2.2.2⟩
      exact ⟨.bl b, H', I7, rfl, q⟩
    refine wpAny_bind (wpAny_pyIter_gen isg ?_)
    refine wpAny_pure ⟨plainId_quiet F.plain_all_loop _, ?_⟩
    have nin : ∀ q ∈ [((h4.objs.size, oa) : Addr × Obj)], q.1 ∉ fp := fun q hq z => by
      rw [List.mem_singleton] at hq
      subst hq
      have z1 := (f3 _ z).2
      have z2 : h4.objs.size < s3.heap.objs.size := z1
      omega
    have gco : genv.scope.isCoroutine = false := by rw [← hge]; exact hco
    refine all_turns (X := X) (σw := wipe σ (own.map (·.2))) (Q := Q) (G := genCx X (gen2A X.A elt tg iter tg1 iter1 ifs1 scope gpos it genv) s3 H3 genv fp) (pa := [(h4.objs.size, oa)]) (A := X.A) (oa := oa) (gI := s3.gens.size) hr.hd hr.depth rfl rfl (List.mem_singleton.mpr rfl) (by rw [← hoa]) (by rw [← hoa]) (by rw [← hoa]) back (m0 + 1) _ gs H3 I4 (by simp) ?_
    subst hgs
    refine ⟨rfl, gen2_begin (i := 0) T ?_ (gen2_loop (Ag := X.A.in1.in1) (s3 := s3) (H3 := H3) (fp := fp) (vs := own.map (·.2)) (vs1 := vs1) T gw (wipe_wipe _ _ _ fun _ z => z) hv1 rfl pg pi1 pg1 pt1 pe hs1 gco nin (m0 + 1) (m0 + 1) (Nat.le_refl _) o0 m0 0 _ _ H3 (Nat.lt_succ_self _) (inv_same I4 rfl rfl (bare_set I4.bare rfl)) ?_ (fun b hb => (f3 b hb).1.1) w0 ?_)⟩
    · exact T.keep _ _ _ st3 fun b _ o e => Heap.get?_push_of_some _ (k4 b o e)
    · exact T.keep _ _ _ st3 fun b _ o e => Heap.get?_push_of_some _ (k4 b o e)
    · rw [GenW.setGen_size]
      simp
  cases hf : codeAmong gpos ps.toList with
  | none =>
    refine wpAny_genexprCodeX hcode (cd.code hPs ht) (cd.tab hPs) hf fun c' h' tk hx hge hlt isc _ htab _ => ?_
    obtain ⟨_, _, _, _, _, _, _, _, _, _, _, _, _, _, _, _, _, _, _, trip, _⟩ := isc
    exact cont _ h' tk _ (fun b o hb e => hx b o hb e) htab.2 trip (Nat.le_trans hge (Nat.le_of_lt hlt))
  | some cv =>
    refine wpAny_genexprCode_hit hcode (cd.code hPs ht) hf ?_
    have := cont cv s2.heap s2.toks #[] (fun b o _ e => e) (by rw [Array.append_empty]; exact hPs) (by rw [Array.append_empty]; exact ht) (Nat.le_refl _)
    exact this
end
end DL
-- DGQ
set_option maxRecDepth 100000
set_option maxHeartbeats 2000000
namespace DL
open PySem PySem.Spec PyProof.Rows L2
def allI (g : Tg) (tt : TDT) (te : TD) (δ : DSt) (Q : DK) (k : Mem → Prop) : List D → Mem → Prop
  | [], μ => k μ
  | d :: ds, μ => dTg g d δ fun δ2 => tt δ2 μ fun bt μ1 => if bt = true then te δ2 μ1 fun y μ2 => ∃ b, y = .bl b ∧ if b = true then allI g tt te δ Q k ds μ2 else Q (.bl false) μ2 else allI g tt te δ Q k ds μ1
def allO (B : Nat) (g : Tg) (wi1 : TDI) (g1 : Tg) (tt1 : TDT) (te : TD) (vs1 : List Nat) (δ : DSt) (Q : DK) : List D → Mem → Prop
  | [], μ => Q (.bl true) μ
  | d :: ds, μ => dTg g d δ fun δ2 => wi1 δ2 μ fun ds1 μ1 => ds1.length ≤ B ∧ allI g1 tt1 te (wipeD δ2 vs1) Q (fun μ2 => allO B g wi1 g1 tt1 te vs1 δ Q ds μ2) ds1 μ1
/-- all(elt for g in wi for g1 in wi1) -/
def dAllG2 (wi : TDI) (g : Tg) (wi1 : TDI) (g1 : Tg) (tt1 : TDT) (te : TD) (vs vs1 : List Nat) : TD := fun δ μ Q => wi δ μ fun ds μ1 => ∃ B, allO B g wi1 g1 tt1 te vs1 (wipeD δ vs) Q ds μ1
theorem all2_sound {wi wi1 : TDI} {g g1 : Tg} {tt1 : TDT} {te : TD} {vs vs1 : List Nat} {K : PySem.W.Frag} {P : Addr} (hP : P ∈ gensK K) (nl : ∀ p ∈ lamsK K, p.1 ≠ P) (hv : ∀ i ∈ g.slots, i ∈ vs) (hv1 : ∀ i ∈ g1.slots, i ∈ vs1) {σ : L2.St} {H : Hp} {Q : VK} (h : eOf K (dAllG2 wi g wi1 g1 tt1 te vs vs1) σ H Q) : tAllG2 P (iOf K wi) (hTg K g) (iOf K wi1) (hTg K g1) (bOf K tt1) (eOf K te) vs vs1 σ H Q := by
  obtain ⟨δ, F, μ, QD, l, rs, q, k⟩ := h
  refine ⟨δ, F, μ, _, l, rs, q, fun J ds F1 μ1 H1 e1 l1 j q1 => ⟨(l1.tb.tg P hP).2, fun H1' tb => ?_⟩⟩
  obtain ⟨B, q1⟩ := q1
  refine ⟨fun i o m H => ∃ F2 μ2, Ex F1 F2 ∧ Lay K F2 μ2 H ∧ allO B g wi1 g1 tt1 te vs1 (wipeD δ vs) QD (ds.drop i) μ2 ∧ i ≤ ds.length ∧ o = ds.length - i ∧ o * B ≤ m, ⟨ds.length, ds.length * B, F1, _, Ex.refl F1, l1.tab hP nl tb, q1, Nat.zero_le _, rfl, Nat.le_refl _⟩, ?_⟩
  rintro i o m H2 ⟨F2, μ2, e2, l2, q2, hle, rfl, hm⟩
  obtain ⟨j1, j2⟩ := j i F2 _ H2 e2 l2 hle
  by_cases hlt : i < ds.length
  · refine .inr ⟨(j1 _ (List.getElem?_eq_getElem hlt)).1, fun x H3 y => ?_⟩
    obtain ⟨F3, e3, l3, rx⟩ := (j1 _ (List.getElem?_eq_getElem hlt)).2 x H3 y
    rw [List.drop_eq_getElem_cons hlt] at q2
    have rw2 : RepSt K F3 (wipe σ vs) (wipeD δ vs) := repSt_wipe (rs.mono ((e1.trans e2).trans e3)) vs
    refine hTg_run l3 g rx rw2 q2 fun σ' δ' r' q' hw => ⟨?_, ?_⟩
    · rw [hw vs hv, wipe_wipe vs σ vs fun _ z => z]
    · refine ⟨δ', F3, μ2, _, l3, r', q', fun J1 ds1 F5 μ5 H5 e5 l5 jj q5 => ?_⟩
      obtain ⟨hB, q5⟩ := q5
      refine ⟨fun i1 m1 H => ∃ F6 μ6, Ex F5 F6 ∧ Lay K F6 μ6 H ∧ allI g1 tt1 te (wipeD δ' vs1) QD (fun μ => allO B g wi1 g1 tt1 te vs1 (wipeD δ vs) QD (ds.drop (i + 1)) μ) (ds1.drop i1) μ6 ∧ i1 ≤ ds1.length ∧ (ds1.length - i1) + (ds.length - (i + 1)) * B ≤ m1,
        ⟨F5, μ5, Ex.refl F5, l5, q5, Nat.zero_le _, ?_⟩, ?_⟩
      · refine Nat.le_trans ?_ hm
        have e : ds.length - i = (ds.length - (i + 1)) + 1 := by omega
        rw [e, Nat.succ_mul]
        omega
      rintro i1 m1 H6 ⟨F6, μ6, e6, l6, q6, hle1, hm1⟩
      obtain ⟨k1, k2⟩ := jj i1 F6 _ H6 e6 l6 hle1
      by_cases hlt1 : i1 < ds1.length
      · refine .inr ⟨(k1 _ (List.getElem?_eq_getElem hlt1)).1, fun H => ∃ F7 μ7, Ex F5 F7 ∧ Lay K F7 μ7 H ∧ allI g1 tt1 te (wipeD δ' vs1) QD (fun μ => allO B g wi1 g1 tt1 te vs1 (wipeD δ vs) QD (ds.drop (i + 1)) μ) (ds1.drop (i1 + 1)) μ7,
          fun H' ⟨F7, μ7, e7, l7, q7⟩ => ⟨m1 - 1, by omega, F7, μ7, e7, l7, q7, hlt1, by omega⟩, fun x1 H7 y1 => ?_⟩
        obtain ⟨F7, e7, l7, rx1⟩ := (k1 _ (List.getElem?_eq_getElem hlt1)).2 x1 H7 y1
        rw [List.drop_eq_getElem_cons hlt1] at q6
        have rw3 : RepSt K F7 (wipe σ' vs1) (wipeD δ' vs1) := repSt_wipe (r'.mono ((e5.trans e6).trans e7)) vs1
        refine hTg_run l7 g1 rx1 rw3 q6 fun σ'' δ'' r'' q'' hw1 => ⟨?_, ?_⟩
        · rw [hw1 vs1 hv1, wipe_wipe vs1 σ' vs1 fun _ z => z]
        · refine ⟨δ'', F7, μ6, _, l7, r'', q'', fun bt F8 μ8 H8 e8 l8 q8 => ?_⟩
          cases bt with
          | false => exact ⟨F8, μ8, (e6.trans e7).trans e8, l8, q8⟩
          | true =>
            refine ⟨δ'', F8, μ8, _, l8, r''.mono e8, q8, fun v d F9 μ9 H9 e9 l9 r9 ⟨b, eb, q9⟩ => ?_⟩
            subst eb
            refine ⟨b, rep_bl r9, fun hb => ?_, fun hb => ?_⟩
            · subst hb
              exact ⟨F9, μ9, ((e6.trans e7).trans e8).trans e9, l9, q9⟩
            · subst hb
              exact k _ _ F9 μ9 H9 (((((((e1.trans e2).trans e3).trans e5).trans e6).trans e7).trans e8).trans e9) l9 (.bl _) q9
      · have e : i1 = ds1.length := by omega
        refine .inl ⟨k2 e, ds.length - (i + 1), by omega, m1, Nat.le_refl _, ?_⟩
        rw [show ds1.drop i1 = [] from List.drop_eq_nil_of_le (by omega)] at q6
        exact ⟨F6, μ6, (((e2.trans e3).trans e5).trans e6), l6, q6, hlt, rfl, by omega⟩
  · have e : i = ds.length := by omega
    refine .inl ⟨j2 e, ?_⟩
    rw [List.drop_eq_nil_of_le (by omega)] at q2
    exact k _ _ F2 μ2 H2 (e1.trans e2) l2 (.bl _) q2
section
variable {X : Cx} {elt tg iter tg1 iter1 : Expr} {ifs1 : List Expr} {scope : Scope} {gpos pos p : Pos} {wi wi1 : TDI} {g g1 : Tg} {tt1 : TDT} {te : TD} {own : List (Str × Nat)} {c P : Addr}
theorem de_allG2 {k : Nat} (hr : Room k X.A) (hg : Gl X "all") (hm : X.mg "all" = none) (nd : X.N.Nodup) (TB : BTab X.base X.mg c P) (hcode : X.env.code = .ref c) (hP : P ∈ gensK X.K) (nl : ∀ p ∈ lamsK X.K, p.1 ≠ P) (hi : DI X tg iter wi) (ok : BlkOk X.N X.env.scope scope own) (hv : ∀ i ∈ g.slots, i ∈ own.map (·.2)) (hv1 : ∀ i ∈ g1.slots, i ∈ own.map (·.2)) (noCell : ∀ y ∈ scope.names, y.2 ≠ .cell)
    (hco : scope.isCoroutine = false) (hdot : scope.names.lookup (".0" : Str) = some NameKind.local)
    (hpg : ∀ (s : Shared) (H : Hp) (C it : Addr) (code : Value) (fp : List Addr), PG (genCx X (gen2A X.A elt tg iter tg1 iter1 ifs1 scope gpos it (genEnv scope (cloFrom X.env.cells scope.names []) C code builtinsNs X.env)) s H (genEnv scope (cloFrom X.env.cells scope.names []) C code builtinsNs X.env) fp) tg (hTg X.K g))
    (hi1 : ∀ (s : Shared) (H : Hp) (C it : Addr) (code : Value) (fp : List Addr), DI (genCx X (gen2A X.A elt tg iter tg1 iter1 ifs1 scope gpos it (genEnv scope (cloFrom X.env.cells scope.names []) C code builtinsNs X.env)) s H (genEnv scope (cloFrom X.env.cells scope.names []) C code builtinsNs X.env) fp) tg1 iter1 wi1)
    (hpg1 : ∀ (s : Shared) (H : Hp) (C it : Addr) (code : Value) (fp : List Addr), PG (genCx X (gen2A X.A elt tg iter tg1 iter1 ifs1 scope gpos it (genEnv scope (cloFrom X.env.cells scope.names []) C code builtinsNs X.env)) s H (genEnv scope (cloFrom X.env.cells scope.names []) C code builtinsNs X.env) fp) tg1 (hTg X.K g1))
    (hpt1 : ∀ (s : Shared) (H : Hp) (C it : Addr) (code : Value) (fp : List Addr), DTs (genCx X (gen2A X.A elt tg iter tg1 iter1 ifs1 scope gpos it (genEnv scope (cloFrom X.env.cells scope.names []) C code builtinsNs X.env)) s H (genEnv scope (cloFrom X.env.cells scope.names []) C code builtinsNs X.env) fp) ifs1 tt1)
    (hpe : ∀ (s : Shared) (H : Hp) (C it : Addr) (code : Value) (fp : List Addr), DE (genCx X (gen2A X.A elt tg iter tg1 iter1 ifs1 scope gpos it (genEnv scope (cloFrom X.env.cells scope.names []) C code builtinsNs X.env)) s H (genEnv scope (cloFrom X.env.cells scope.names []) C code builtinsNs X.env) fp) elt te)
    (hs : ∀ x, genFold iter X.env x = pure x := by intro _; rfl) (hs1 : ∀ env x, foldedSetIterable iter1 env x = pure x := by intro _ _; rfl)
    (he : starEach [gen2E elt tg iter tg1 iter1 ifs1 scope gpos] X.env = (false, eval (gen2E elt tg iter tg1 iter1 ifs1 scope gpos) X.env) :: starEach [] X.env := by rfl) :
    DE X (.Call (.Name "all" p) [gen2E elt tg iter tg1 iter1 ifs1 scope gpos] [] pos) (dAllG2 wi g wi1 g1 tt1 te (own.map (·.2)) g1.slots) :=
  PE.weak (pe_allG2 hr hg hm nd TB hcode hi ok noCell hco hdot hpg hi1 hpg1 hpt1 hv1 hpe hs hs1 he) fun _ _ _ h => all2_sound hP nl hv (fun _ z => z) h
end
section
variable {δ : DSt} {μ : Mem} {Q : DK}
theorem x_allG2 {wi wi1 : TDI} {g g1 : Tg} {tt1 : TDT} {te : TD} {vs vs1 : List Nat} (k : wi δ μ fun ds μ1 => ∃ B, allO B g wi1 g1 tt1 te vs1 (wipeD δ vs) Q ds μ1) : dAllG2 wi g wi1 g1 tt1 te vs vs1 δ μ Q := k
/-- elements by values: p tells which are asked -/
theorem allI_pure {α : Type} {g : Tg} {tt : TDT} {te : TD} {k : Mem → Prop} (u : α → D) (f : α → Bool) {μ : Mem} : ∀ (xs : List α), (∀ x ∈ xs, ∀ (kk : DK) (k0 : Mem → Prop), (f x = true → k0 μ) → kk (.bl (f x)) μ → dTg g (u x) δ fun δ2 => tt δ2 μ fun bt μ1 => if bt = true then te δ2 μ1 kk else k0 μ1) → (xs.all f = true → k μ) → (xs.all f = false → Q (.bl false) μ) → allI g tt te δ Q k (xs.map u) μ
  | [], _, q1, _ => q1 rfl
  | x :: xs, h, q1, q2 => by
    rw [List.all_cons] at q1 q2
    refine h x List.mem_cons_self _ _ (fun e => ?_) ⟨f x, rfl, ?_⟩
    · rw [e, Bool.true_and] at q1 q2
      exact allI_pure u f xs (fun y hy => h y (List.mem_cons_of_mem _ hy)) q1 q2
    cases e : f x with
    | true =>
      rw [e, Bool.true_and] at q1 q2
      rw [if_pos rfl]
      exact allI_pure u f xs (fun y hy => h y (List.mem_cons_of_mem _ hy)) q1 q2
    | false =>
      rw [e, Bool.false_and] at q2
      rw [if_neg Bool.false_ne_true]
      exact q2 rfl
theorem allO_pure {α : Type} {B : Nat} {g g1 : Tg} {wi1 : TDI} {tt1 : TDT} {te : TD} {vs1 : List Nat} (u : α → D) (f : α → Bool) {μ : Mem} : ∀ (xs : List α), (∀ x ∈ xs, ∀ k : Mem → Prop, (f x = true → k μ) → (f x = false → Q (.bl false) μ) → dTg g (u x) δ fun δ2 => wi1 δ2 μ fun ds1 μ1 => ds1.length ≤ B ∧ allI g1 tt1 te (wipeD δ2 vs1) Q k ds1 μ1) → Q (.bl (xs.all f)) μ → allO B g wi1 g1 tt1 te vs1 δ Q (xs.map u) μ
  | [], _, q => q
  | x :: xs, h, q => by
    rw [List.all_cons] at q
    refine h x List.mem_cons_self _ (fun e => ?_) (fun e => ?_)
    · rw [e, Bool.true_and] at q
      exact allO_pure u f xs (fun y hy => h y (List.mem_cons_of_mem _ hy)) q
    · rw [e, Bool.false_and] at q
      exact q
end
end DL
-- DGR
set_option maxRecDepth 100000
namespace DL
open PySem PySem.Spec PyProof.Rows L2
/-! is True, is not True -/
def dIsB (neg : Bool) : RD2 := fun x y μ Q => ∃ a b : Bool, x = .bl a ∧ y = .bl b ∧ Q (.bl (if neg then !decide (a = b) else decide (a = b))) μ
theorem lift_isB {K : PySem.W.Frag} : Lift2 K rIsB (dIsB false) := fun x y dx dy F μ H Q QD l rx ry ⟨a, b, e1, e2, q⟩ k => by
  subst e1
  subst e2
  cases rx
  cases ry
  exact ⟨a, b, rfl, rfl, k _ _ F μ H (Ex.refl F) l (.bl _) q⟩
theorem lift_notB {K : PySem.W.Frag} : Lift2 K rNotB (dIsB true) := fun x y dx dy F μ H Q QD l rx ry ⟨a, b, e1, e2, q⟩ k => by
  subst e1
  subst e2
  cases rx
  cases ry
  exact ⟨a, b, rfl, rfl, k _ _ F μ H (Ex.refl F) l (.bl _) q⟩
theorem x_isB {a b : Bool} {μ : Mem} {Q : DK} (k : Q (.bl (decide (a = b))) μ) : dIsB false (.bl a) (.bl b) μ Q := ⟨a, b, rfl, rfl, k⟩
theorem x_notB {a b : Bool} {μ : Mem} {Q : DK} (k : Q (.bl (!decide (a = b))) μ) : dIsB true (.bl a) (.bl b) μ Q := ⟨a, b, rfl, rfl, k⟩
end DL
-- ZM
set_option maxRecDepth 100000
set_option maxHeartbeats 1000000
/-! zip of any number of tuples, or of lists -/
namespace ZM
open PySem PySem.Spec PyProof.Rows
def SubIt (b : Addr → Bool) (h : Heap) (i l : Addr) (k : Nat) : Prop := if b l = true then h.IsTupleIter i l k else h.IsListIter i l k
def SubSeq (b : Addr → Bool) (h : Heap) (l : Addr) (xs : Array Value) : Prop := if b l = true then h.IsTuple l xs else h.IsList l xs
theorem SubIt.tt {b : Addr → Bool} {h : Heap} {i l : Addr} {k : Nat} (hb : b l = true) (x : SubIt b h i l k) : h.IsTupleIter i l k := by unfold SubIt at x; rw [if_pos hb] at x; exact x
theorem SubIt.ff {b : Addr → Bool} {h : Heap} {i l : Addr} {k : Nat} (hb : b l = false) (x : SubIt b h i l k) : h.IsListIter i l k := by unfold SubIt at x; rw [if_neg (by rw [hb]; exact Bool.false_ne_true)] at x; exact x
theorem SubIt.ot {b : Addr → Bool} {h : Heap} {i l : Addr} {k : Nat} (hb : b l = true) (x : h.IsTupleIter i l k) : SubIt b h i l k := by unfold SubIt; rw [if_pos hb]; exact x
theorem SubIt.of {b : Addr → Bool} {h : Heap} {i l : Addr} {k : Nat} (hb : b l = false) (x : h.IsListIter i l k) : SubIt b h i l k := by unfold SubIt; rw [if_neg (by rw [hb]; exact Bool.false_ne_true)]; exact x
theorem SubSeq.tt {b : Addr → Bool} {h : Heap} {l : Addr} {xs : Array Value} (hb : b l = true) (x : SubSeq b h l xs) : h.IsTuple l xs := by unfold SubSeq at x; rw [if_pos hb] at x; exact x
theorem SubSeq.ff {b : Addr → Bool} {h : Heap} {l : Addr} {xs : Array Value} (hb : b l = false) (x : SubSeq b h l xs) : h.IsList l xs := by unfold SubSeq at x; rw [if_neg (by rw [hb]; exact Bool.false_ne_true)] at x; exact x
theorem SubSeq.ot {b : Addr → Bool} {h : Heap} {l : Addr} {xs : Array Value} (hb : b l = true) (x : h.IsTuple l xs) : SubSeq b h l xs := by unfold SubSeq; rw [if_pos hb]; exact x
theorem SubSeq.of {b : Addr → Bool} {h : Heap} {l : Addr} {xs : Array Value} (hb : b l = false) (x : h.IsList l xs) : SubSeq b h l xs := by unfold SubSeq; rw [if_neg (by rw [hb]; exact Bool.false_ne_true)]; exact x
theorem SubIt.at {b : Addr → Bool} {h h' : Heap} {i l : Addr} {k : Nat} (x : SubIt b h i l k) (e : ∀ o, h.get? i = some o → h'.get? i = some o) : SubIt b h' i l k := by
  cases hb : b l with
  | true => exact SubIt.ot hb (Heap.IsTupleIter.at (x.tt hb) e)
  | false => exact SubIt.of hb (Heap.IsListIter.at (x.ff hb) e)
theorem SubSeq.at {b : Addr → Bool} {h h' : Heap} {l : Addr} {xs : Array Value} (x : SubSeq b h l xs) (e : ∀ o, h.get? l = some o → h'.get? l = some o) : SubSeq b h' l xs := by
  cases hb : b l with
  | true => exact SubSeq.ot hb (Heap.IsTuple.at (x.tt hb) e)
  | false => exact SubSeq.of hb (Heap.IsList.at (x.ff hb) e)
theorem SubIt.there {b : Addr → Bool} {h : Heap} {i l : Addr} {k : Nat} (x : SubIt b h i l k) : ∃ o vs, h.get? i = some o ∧ o.data = .fields vs := by
  cases hb : b l with
  | true =>
    obtain ⟨o, h1, _, h2⟩ := (x.tt hb)
    exact ⟨o, _, h1, h2⟩
  | false =>
    obtain ⟨o, h1, _, h2⟩ := (x.ff hb)
    exact ⟨o, _, h1, h2⟩
abbrev IsZ (h : Heap) (z TI TO : Addr) (f0 : Value) (f1 : Bool) : Prop := h.get? z = some { cls := .type "zip", dict := none, data := .fields #[f0, .bool f1, .bool false, .ref TI, .ref TO], slots := #[] }
abbrev IsT (h : Heap) (T : Addr) (vs : List Value) : Prop := h.get? T = some { cls := .type "tuple", data := .seq vs.toArray }
section
variable {prog : Program} {w : World} {A : Around} {E : Value → Shared → Prop} {s : Shared}
theorem sub_item {b : Addr → Bool} {it l : Addr} {i : Nat} {items : Array Value} {x : Value} {Q : Value → Shared → Prop} (hit : SubIt b s.heap it l i) (hl : SubSeq b s.heap l items) (hx : items[i]? = some x)
    (hQ : ∀ h', SubIt b h' it l (i + 1) → Heap.SameBut it s.heap h' → Q x { s with heap := h' }) : wpAny (model prog w) A (Builtin.SmallTypes.nextOf (.ref it)) Q E s := by
  cases hb : b l with
  | true => exact RZ.nextOf_tuple_item (hit.tt hb) (hl.tt hb) hx fun h' a c => hQ h' (SubIt.ot hb a) c
  | false => exact wpAny_nextOf_list_item (hit.ff hb) (hl.ff hb) hx fun h' a c => hQ h' (SubIt.of hb a) c
theorem sub_end {b : Addr → Bool} {it l : Addr} {i : Nat} {items : Array Value} {Q : Value → Shared → Prop} (hh : A.handled = none) (hit : SubIt b s.heap it l i) (hl : SubSeq b s.heap l items) (hx : items[i]? = none)
    (hE : ∀ h' e, Heap.ExtBut it s.heap h' → (∃ o, h'.get? e = some o ∧ o.cls = .type "StopIteration") → E (.ref e) { s with heap := h' }) : wpAny (model prog w) A (Builtin.SmallTypes.nextOf (.ref it)) Q E s := by
  cases hb : b l with
  | true => exact RZ.nextOf_tuple_end hh (hit.tt hb) (hl.tt hb) hx hE
  | false => exact wpAny_nextOf_list_end hh (hit.ff hb) (hl.ff hb) hx hE
/-- apart: the zip's own parts, and from what is walked -/
structure Ap (z TI TO : Addr) (is ls : List Addr) : Prop where
  len : ls.length = is.length
  nd : is.Nodup
  zTI : z ≠ TI
  zTO : z ≠ TO
  TITO : TI ≠ TO
  zi : z ∉ is
  TIi : TI ∉ is
  TOi : TO ∉ is
  zl : z ∉ ls
  TOl : TO ∉ ls
  il : ∀ i ∈ is, i ∉ ls
/-- the first part of the loop done -/
structure Mid (b : Addr → Bool) (z TI TO : Addr) (is ls : List Addr) (row : List Value) (k : Nat) (h0 : Heap) (j : Nat) (h : Heap) : Prop where
  to_ : ∃ vs, vs.length = is.length ∧ IsT h TO vs ∧ ∀ j' : Nat, j' < j → vs[j']? = row[j']?
  its : ∀ (j' : Nat) (i l : Addr), is[j']? = some i → ls[j']? = some l → SubIt b h i l (if j' < j then k + 1 else k)
  keep : ∀ c o, c ≠ z → c ≠ TO → c ∉ is → h0.get? c = some o → h.get? c = some o
  size : h.objs.size = h0.objs.size
theorem idx_at {is : List Addr} {j : Nat} {x : Value × Nat} {rest : List (Value × Nat)} (h : x :: rest = (is.map Value.ref).zipIdx.drop j) : ∃ i, is[j]? = some i ∧ x = (Value.ref i, j) ∧ rest = (is.map Value.ref).zipIdx.drop (j + 1) := by
  have h1 : (is.map Value.ref).zipIdx[j]? = some x := by
    have := congrArg (fun l => l[0]?) h
    simpa [List.getElem?_drop] using this.symm
  have h2 : rest = (is.map Value.ref).zipIdx.drop (j + 1) := by
    have := congrArg (fun l => l.drop 1) h
    simpa [List.drop_drop, Nat.add_comm] using this
  rw [List.getElem?_zipIdx, List.getElem?_map] at h1
  cases e : is[j]? with
  | none => rw [e] at h1; cases h1
  | some i =>
    rw [e] at h1
    exact ⟨i, rfl, by simpa using (Option.some.inj h1).symm, h2⟩
theorem idx_end {is : List Addr} {j : Nat} (h : [] = (is.map Value.ref).zipIdx.drop j) : is.length ≤ j := by
  have := congrArg List.length h
  simp at this
  omega
theorem get_both {α β : Type} {xs : List α} {ys : List β} (h : xs.length = ys.length) {j : Nat} {x : α} (e : xs[j]? = some x) : ∃ y, ys[j]? = some y := by
  have h1 := (List.getElem?_eq_some_iff.mp e).1
  exact ⟨ys[j]'(h ▸ h1), List.getElem?_eq_getElem _⟩
theorem nd_ne {is : List Addr} (nd : is.Nodup) {j j' : Nat} {i i' : Addr} (h : is[j]? = some i) (h' : is[j']? = some i') (ne : j ≠ j') : i ≠ i' := fun e => by
  obtain ⟨l1, e1⟩ := List.getElem?_eq_some_iff.mp h
  obtain ⟨l2, e2⟩ := List.getElem?_eq_some_iff.mp h'
  have P := List.pairwise_iff_getElem.mp nd
  rcases Nat.lt_or_gt_of_ne ne with q | q
  · exact P j j' l1 l2 q (by rw [e1, e2, e])
  · exact P j' j l2 l1 q (by rw [e1, e2, e])
theorem w_alive {M : Model} {a : Addr} {Q : Option Obj → Shared → Prop} (h : Q (s.heap.get? a) s) : wpAny M A (loadIfAlive a) Q E s := by
  intro Γ p hΓ
  unfold loadIfAlive
  rw [Sem.wp_loadIfAlive]
  exact h
theorem free_cases {z TI TO : Addr} {f0 : Value} {f1 : Bool} {Q : Bool → Shared → Prop} (hz : IsZ s.heap z TI TO f0 f1) (h0 : f0 = .none ∨ ∃ a : Nat, f0 = rawInt a) (hT : Q true s)
    (hF : ∀ h' f1', IsZ h' z TI TO f0 f1' → (∀ c o, c ≠ z → s.heap.get? c = some o → h'.get? c = some o) → h'.objs.size = s.heap.objs.size → Q false { s with heap := h' }) : wpAny (model prog w) A (Builtin.SmallTypes.ownedTupleIsFree (.ref z)) Q E s := by
  unfold Builtin.SmallTypes.ownedTupleIsFree
  rcases h0 with rfl | ⟨a, rfl⟩
  · exact wpAny_bind (wpAny_field hz rfl (x := .none) rfl (wpAny_pure hT))
  · refine wpAny_bind (wpAny_field hz rfl (x := rawInt a) rfl ?_)
    show wpAny _ _ (loadIfAlive a >>= _) _ _ _
    refine wpAny_bind (w_alive ?_)
    cases h : s.heap.get? a with
    | none => exact wpAny_pure hT
    | some o =>
      show wpAny _ _ (field (.ref z) 1 >>= _) _ _ _
      refine wpAny_bind (wpAny_field hz rfl (x := .bool f1) rfl ?_)
      cases f1 with
      | true => exact wpAny_pure (hF s.heap true hz (fun _ _ _ e => e) rfl)
      | false =>
        show wpAny _ _ (setField (.ref z) 1 (.bool true) >>= _) _ _ _
        exact wpAny_bind (wpAny_setField_rec hz (by simp) fun h' hz' hs' => wpAny_pure (hF h' true hz' (fun c o c1 e => hs'.extBut _ _ c1 e) hs'.1))
/-- as far as the second loop has come -/
structure Mid2 (b : Addr → Bool) (z TO : Addr) (is ls : List Addr) (vs : List Value) (k : Nat) (h0 : Heap) (j : Nat) (h : Heap) : Prop where
  to_ : IsT h TO vs
  its : ∀ (j' : Nat) (i l : Addr), is[j']? = some i → ls[j']? = some l → SubIt b h i l (if j' < j then k + 1 else k)
  keep : ∀ c o, c ≠ z → c ∉ is → h0.get? c = some o → h.get? c = some o
  size : h.objs.size = h0.objs.size
theorem ref_at {is : List Addr} {j : Nat} {x : Value} {rest : List Value} (h : x :: rest = (is.map Value.ref).drop j) : ∃ i, is[j]? = some i ∧ x = Value.ref i ∧ rest = (is.map Value.ref).drop (j + 1) := by
  have h1 : (is.map Value.ref)[j]? = some x := by
    have := congrArg (fun l => l[0]?) h
    simpa [List.getElem?_drop] using this.symm
  have h2 : rest = (is.map Value.ref).drop (j + 1) := by
    have := congrArg (fun l => l.drop 1) h
    simpa [List.drop_drop, Nat.add_comm] using this
  rw [List.getElem?_map] at h1
  cases e : is[j]? with
  | none => rw [e] at h1; cases h1
  | some i =>
    rw [e] at h1
    exact ⟨i, rfl, (Option.some.inj h1).symm, h2⟩
theorem next_item {b : Addr → Bool} {z TI TO : Addr} {is ls : List Addr} {row : List Value} {k : Nat} {f0 : Value} {f1 : Bool} {vs0 : List Value} {Q : Value → Shared → Prop} (D : Ap z TI TO is ls) (ne : is ≠ []) (hr : row.length = is.length)
    (hz : IsZ s.heap z TI TO f0 f1) (h0 : f0 = .none ∨ ∃ a : Nat, f0 = rawInt a) (hTI : IsT s.heap TI (is.map .ref)) (hv : vs0.length = is.length) (hTO : IsT s.heap TO vs0) (hi : ∀ (j : Nat) (i l : Addr), is[j]? = some i → ls[j]? = some l → SubIt b s.heap i l k)
    (hx : ∀ (j : Nat) (l : Addr) (x : Value), ls[j]? = some l → row[j]? = some x → ∃ xs, SubSeq b s.heap l xs ∧ xs[k]? = some x) (hsz : is.length ≤ 1000)
    (hQ : ∀ h' f0' f1' vs, IsZ h' z TI TO f0' f1' → (f0' = .none ∨ ∃ a : Nat, f0' = rawInt a) → vs.length = is.length → IsT h' TO vs → (∀ (j : Nat) (i l : Addr), is[j]? = some i → ls[j]? = some l → SubIt b h' i l (k + 1)) → IsT h' s.heap.objs.size row → h'.objs.size = s.heap.objs.size + 1 →
      (∀ c o, c ≠ z → c ≠ TO → c ∉ is → s.heap.get? c = some o → h'.get? c = some o) → Q (.ref s.heap.objs.size) { s with heap := h' }) :
    wpAny (model prog w) A (Builtin.«zip.__next__» ⟨[.ref z], []⟩) (fun fin s' => ∃ v, fin = .done (.ret v) ∧ Q v s') E s := by
  show wpAny _ _ (field (.ref z) 2 >>= _) _ _ _
  refine wpAny_bind (wpAny_field hz rfl (x := .bool false) rfl ?_)
  show wpAny _ _ (field (.ref z) 3 >>= _) _ _ _
  refine wpAny_bind (wpAny_field hz rfl (x := .ref TI) rfl ?_)
  refine wpAny_bind (wpAny_seqItems hTI rfl ?_)
  have e0 : ((is.map Value.ref).toArray).isEmpty = false := by
    cases is with
    | nil => exact absurd rfl ne
    | cons i r => rfl
  simp only [e0]
  show wpAny _ _ (Builtin.SmallTypes.ownedTupleIsFree (.ref z) >>= _) _ _ _
  refine wpAny_bind (free_cases hz h0 ?_ (fun h₁ f1' hz₁ kp₁ sz₁ => ?_))
  all_goals simp only [if_true, Bool.false_eq_true, if_false]
  rotate_left
  · refine wpAny_bind ?_
    refine wpAny_forIn_array' _ (fun rest c s' => ∃ j h', rest = (is.map Value.ref).drop j ∧ j ≤ is.length ∧ c = (none, (row.take j).toArray) ∧ s' = { s with heap := h' } ∧ IsZ h' z TI TO f0 f1' ∧ Mid2 b z TO is ls vs0 k s.heap j h') _ ?_ ?_ _ _
      ⟨0, h₁, rfl, Nat.zero_le _, rfl, rfl, hz₁, ⟨kp₁ _ _ D.zTO.symm hTO, fun j' i l e1 e2 => ?_, fun c o c1 _ e => kp₁ _ _ c1 e, sz₁⟩⟩
    · rintro x rest c s' ⟨j, h', hrest, hj, rfl, rfl, hz', M⟩
      obtain ⟨i, hij, rfl, rfl⟩ := ref_at hrest
      obtain ⟨l, hlj⟩ := get_both D.len.symm hij
      obtain ⟨x, hxj⟩ := get_both hr.symm hij
      obtain ⟨xs, hsq, hxk⟩ := hx j l x hlj hxj
      have im : i ∈ is := List.mem_of_getElem? hij
      have lm : l ∈ ls := List.mem_of_getElem? hlj
      have lz : l ≠ z := fun e => D.zl (e ▸ lm)
      have li : l ∉ is := fun e => D.il l e lm
      have iz : i ≠ z := fun e => D.zi (e ▸ im)
      have iTO : i ≠ TO := fun e => D.TOi (e ▸ im)
      have jl : j < is.length := (List.getElem?_eq_some_iff.mp hij).1
      have hit : SubIt b h' i l k := by
        have := M.its j i l hij hlj
        rw [if_neg (Nat.lt_irrefl j)] at this
        exact this
      refine wpAny_bind (wpAny_holding ?_)
      show wpAny _ _ (Builtin.SmallTypes.nextOf (.ref i) >>= _) _ _ _
      refine wpAny_bind (sub_item (s := { s with heap := h' }) hit (hsq.at fun o e => M.keep l o lz li e) hxk fun h₂ hit₂ hs₂ => wpAny_pure (wpAny_pure ?_))
      refine ⟨j + 1, _, rfl, jl, ?_, rfl, hs₂.extBut _ _ iz.symm hz', ⟨hs₂.extBut _ _ iTO.symm M.to_, fun j' i' l' e1 e2 => ?_, fun c o c1 c3 e => hs₂.extBut _ _ (fun z => c3 (z ▸ im)) (M.keep c o c1 c3 e), hs₂.1.trans M.size⟩⟩
      · rw [List.take_add_one, hxj]
        simp
      · by_cases q : j' = j
        · subst q
          rw [hij] at e1
          rw [hlj] at e2
          cases e1
          cases e2
          rw [if_pos (Nat.lt_succ_self _)]
          exact hit₂
        · have := (M.its j' i' l' e1 e2).at (h' := h₂) fun o e => hs₂.extBut _ _ (nd_ne D.nd e1 hij q) e
          by_cases q2 : j' < j
          · rw [if_pos q2] at this
            rw [if_pos (by omega)]
            exact this
          · rw [if_neg q2] at this
            rw [if_neg (by omega)]
            exact this
    · rintro c s' ⟨j, h', hrest, hj, rfl, rfl, hz', M⟩
      have hjn : j = is.length := by
        have := congrArg List.length hrest
        simp at this
        omega
      subst hjn
      have et : row.take is.length = row := List.take_of_length_le (by omega)
      rw [et]
      show wpAny _ _ (newTuple row.toArray.toList >>= _) _ _ _
      refine wpAny_bind (wpAny_newTuple ?_ ?_)
      · refine wpAny_pure ⟨_, rfl, ?_⟩
        have hTn : IsT (h'.push { cls := .type "tuple", data := .seq row.toArray }) h'.objs.size row := Heap.get?_push_size _ rfl
        have hsn : (h'.push { cls := .type "tuple", data := .seq row.toArray }).objs.size = h'.objs.size + 1 := Heap.size_push ..
        have hzn : IsZ (h'.push { cls := .type "tuple", data := .seq row.toArray }) z TI TO f0 f1' := Heap.get?_push_of_some _ hz'
        show Q (.ref h'.objs.size) { s with heap := h'.push { cls := .type "tuple", data := .seq row.toArray } }
        rw [M.size] at hTn hsn ⊢
        refine hQ _ f0 f1' vs0 hzn h0 hv (Heap.get?_push_of_some _ M.to_) (fun j' i' l' e1 e2 => ?_) hTn hsn fun c o c1 c2 c3 e => Heap.get?_push_of_some _ (M.keep c o c1 c3 e)
        have := M.its j' i' l' e1 e2
        rw [if_pos (List.getElem?_eq_some_iff.mp e1).1] at this
        exact this.at fun o e => Heap.get?_push_of_some _ e
      · simp only [List.toList_toArray, hr]
        exact DL.mil_le (by omega)
    · rw [if_neg (Nat.not_lt_zero _)]
      exact (hi j' i l e1 e2).at fun o e => kp₁ _ _ (fun z => D.zi (z ▸ List.mem_of_getElem? e1)) e
  refine wpAny_bind (wpAny_rule ?_)
  refine wpAny_bind (wpAny_field hz rfl (x := .ref TO) rfl ?_)
  refine wpAny_bind (wpAny_setField_rec hz (by simp) fun h₁ hz₁ hs₁ => ?_)
  replace hz₁ : IsZ h₁ z TI TO .ellipsis f1 := hz₁
  refine wpAny_bind ?_
  refine wpAny_forIn_list _ (fun rest c s' => ∃ j h', rest = (is.map Value.ref).zipIdx.drop j ∧ j ≤ is.length ∧ c = (none, ()) ∧ s' = { s with heap := h' } ∧ IsZ h' z TI TO .ellipsis f1 ∧ Mid b z TI TO is ls row k s.heap j h') _ ?_ ?_ _ _
    ⟨0, h₁, rfl, Nat.zero_le _, rfl, rfl, hz₁, ⟨vs0, hv, hs₁.extBut _ _ D.zTO.symm hTO, fun j' h => absurd h (Nat.not_lt_zero _)⟩, fun j' i l e1 e2 => ?_, fun c o c1 _ _ e => hs₁.extBut _ _ c1 e, hs₁.1⟩
  · rintro x rest c s' ⟨j, h', hrest, hj, rfl, rfl, hz', M⟩
    obtain ⟨i, hij, rfl, rfl⟩ := idx_at hrest
    obtain ⟨l, hlj⟩ := get_both D.len.symm hij
    obtain ⟨x, hxj⟩ := get_both hr.symm hij
    obtain ⟨xs, hsq, hxk⟩ := hx j l x hlj hxj
    have im : i ∈ is := List.mem_of_getElem? hij
    have lm : l ∈ ls := List.mem_of_getElem? hlj
    have lz : l ≠ z := fun e => D.zl (e ▸ lm)
    have lTO : l ≠ TO := fun e => D.TOl (e ▸ lm)
    have li : l ∉ is := fun e => D.il l e lm
    have iz : i ≠ z := fun e => D.zi (e ▸ im)
    have iTO : i ≠ TO := fun e => D.TOi (e ▸ im)
    have hit : SubIt b h' i l k := by
      have := M.its j i l hij hlj
      rw [if_neg (Nat.lt_irrefl j)] at this
      exact this
    refine wpAny_bind (wpAny_onRaise ?_)
    show wpAny _ _ (Builtin.SmallTypes.nextOf (.ref i) >>= _) _ _ _
    refine wpAny_bind (sub_item (s := { s with heap := h' }) hit (hsq.at fun o e => M.keep l o lz lTO li e) hxk fun h₂ hit₂ hs₂ => wpAny_pure ?_)
    obtain ⟨vs, hvl, hvT, hvr⟩ := M.to_
    have hT₂ : IsT h₂ TO vs := hs₂.extBut _ _ iTO.symm hvT
    refine wpAny_bind (wpAny_seqItems hT₂ rfl ?_)
    refine wpAny_bind (wpAny_updateSeq hT₂ rfl ?_ ?_ ?_)
    · refine wpAny_bind (wpAny_letGo (wpAny_pure ?_))
      have sb : Heap.SameBut TO h₂ (h₂.update TO (Obj.mapSeq fun a => a.setIfInBounds j x)) := Heap.SameBut.update ..
      have hT₃ : IsT (h₂.update TO (Obj.mapSeq fun a => a.setIfInBounds j x)) TO (vs.set j x) := by
        show Heap.get? _ _ = _
        rw [Heap.get?_update_self _ hT₂ rfl]
        simp [Obj.mapSeq]
      have jl : j < is.length := (List.getElem?_eq_some_iff.mp hij).1
      refine ⟨j + 1, _, rfl, jl, rfl, rfl, sb.extBut _ _ D.zTO (hs₂.extBut _ _ iz.symm hz'), ⟨vs.set j x, by rw [List.length_set]; exact hvl, hT₃, fun j' hj' => ?_⟩, fun j' i' l' e1 e2 => ?_, fun c o c1 c2 c3 e => sb.extBut _ _ c2 (hs₂.extBut _ _ (fun z => c3 (z ▸ im)) (M.keep c o c1 c2 c3 e)), ?_⟩
      · by_cases q : j' = j
        · subst q
          rw [List.getElem?_set_self (by omega), hxj]
        · rw [List.getElem?_set_ne (fun z => q z.symm)]
          exact hvr j' (by omega)
      · by_cases q : j' = j
        · subst q
          rw [hij] at e1
          rw [hlj] at e2
          cases e1
          cases e2
          rw [if_pos (Nat.lt_succ_self _)]
          exact hit₂.at fun o e => sb.extBut _ _ iTO e
        · have i1 : i' ∈ is := List.mem_of_getElem? e1
          have := (M.its j' i' l' e1 e2).at (h' := h₂.update TO (Obj.mapSeq fun a => a.setIfInBounds j x)) fun o e => sb.extBut _ _ (fun z => D.TOi (z ▸ i1)) (hs₂.extBut _ _ (nd_ne D.nd e1 hij q) e)
          by_cases q2 : j' < j
          · rw [if_pos q2] at this
            rw [if_pos (by omega)]
            exact this
          · rw [if_neg q2] at this
            rw [if_neg (by omega)]
            exact this
      · rw [sb.1, hs₂.1, M.size]
    · rw [List.size_toArray, hvl]
      exact DL.mil_le (by omega)
    · simp only [Array.size_setIfInBounds, List.size_toArray]
      have := DL.mil_le (n := vs.length) (by omega)
      omega
  · rintro c s' ⟨j, h', hrest, hj, rfl, rfl, hz', M⟩
    have hjn : j = is.length := Nat.le_antisymm hj (idx_end hrest)
    subst hjn
    obtain ⟨vs, hvl, hvT, hvr⟩ := M.to_
    have evs : vs = row := List.ext_getElem? fun j' => by
      by_cases q : j' < is.length
      · exact hvr j' q
      · rw [List.getElem?_eq_none (by omega), List.getElem?_eq_none (by omega)]
    subst evs
    refine wpAny_bind (wpAny_seqItems hvT rfl ?_)
    refine wpAny_bind (wpAny_newTuple ?_ ?_)
    · have zlt : z < h'.objs.size := Heap.lt_size hz'
      have low : ∀ {c o}, h'.get? c = some o → c ≠ z → ∀ {G G' : Heap}, Heap.SameBut z (h'.push { cls := .type "tuple", data := .seq vs.toArray }) G → Heap.SameBut z G G' → G'.get? c = some o := fun e c1 _ _ a a' => a'.extBut _ _ c1 (a.extBut _ _ c1 (Heap.get?_push_of_some _ e))
      show wpAny _ _ (Builtin.SmallTypes.ownedTupleHandOut (.ref z) (.ref h'.objs.size) >>= _) _ _ _
      refine wpAny_bind ?_
      unfold Builtin.SmallTypes.ownedTupleHandOut
      have hzp : IsZ (h'.push { cls := .type "tuple", data := .seq vs.toArray }) z TI TO .ellipsis f1 := Heap.get?_push_of_some _ hz'
      refine wpAny_bind (wpAny_setField_rec hzp (by simp) fun G hG sG => ?_)
      replace hG : IsZ G z TI TO (rawInt h'.objs.size) f1 := hG
      refine wpAny_setField_rec hG (by simp) fun G' hG' sG' => ?_
      replace hG' : IsZ G' z TI TO (rawInt h'.objs.size) false := hG'
      refine wpAny_pure ⟨_, rfl, ?_⟩
      have up := fun {c o} (e : h'.get? c = some o) (c1 : c ≠ z) => low e c1 sG sG'
      have hT' : IsT G' h'.objs.size vs := sG'.extBut _ _ (Nat.ne_of_gt zlt) (sG.extBut _ _ (Nat.ne_of_gt zlt) (Heap.get?_push_size _ rfl))
      have hsz' : G'.objs.size = h'.objs.size + 1 := by rw [sG'.1, sG.1, Heap.size_push]
      rw [M.size] at hG' hT' hsz' ⊢
      refine hQ G' _ _ vs hG' (.inr ⟨_, rfl⟩) hvl (up hvT D.zTO.symm) (fun j' i' l' e1 e2 => ?_) hT' hsz' fun c o c1 c2 c3 e => up (M.keep c o c1 c2 c3 e) c1
      have := M.its j' i' l' e1 e2
      rw [if_pos (List.getElem?_eq_some_iff.mp e1).1] at this
      exact this.at fun o e => up e fun q => D.zi (q ▸ List.mem_of_getElem? e1)
    · simp only [List.toList_toArray, hvl]
      exact DL.mil_le (by omega)
  · rw [if_neg (Nat.not_lt_zero _)]
    exact (hi j' i l e1 e2).at fun o e => hs₁.extBut _ _ (fun z => D.zi (z ▸ List.mem_of_getElem? e1)) e
theorem next_end {b : Addr → Bool} {z TI TO : Addr} {i0 l0 : Addr} {is ls : List Addr} {k : Nat} {f0 : Value} {f1 : Bool} {xs0 : Array Value} {Q : Fin → Shared → Prop} (hh : A.handled = none) (D : Ap z TI TO (i0 :: is) (l0 :: ls))
    (hz : IsZ s.heap z TI TO f0 f1) (h0 : f0 = .none ∨ ∃ a : Nat, f0 = rawInt a) (hTI : IsT s.heap TI ((i0 :: is).map .ref)) (hi : SubIt b s.heap i0 l0 k) (hl : SubSeq b s.heap l0 xs0) (hx : xs0[k]? = none)
    (hE : ∀ h' e, (∀ c o, c ≠ z → c ∉ (i0 :: is) → s.heap.get? c = some o → h'.get? c = some o) → (∃ o, h'.get? e = some o ∧ o.cls = .type "StopIteration") → E (.ref e) { s with heap := h' }) :
    wpAny (model prog w) A (Builtin.«zip.__next__» ⟨[.ref z], []⟩) Q E s := by
  have i0z : i0 ≠ z := fun e => D.zi (e ▸ List.mem_cons_self)
  have l0z : l0 ≠ z := fun e => D.zl (e ▸ List.mem_cons_self)
  show wpAny _ _ (field (.ref z) 2 >>= _) _ _ _
  refine wpAny_bind (wpAny_field hz rfl (x := .bool false) rfl ?_)
  show wpAny _ _ (field (.ref z) 3 >>= _) _ _ _
  refine wpAny_bind (wpAny_field hz rfl (x := .ref TI) rfl ?_)
  refine wpAny_bind (wpAny_seqItems hTI rfl ?_)
  have e0 : (((i0 :: is).map Value.ref).toArray).isEmpty = false := rfl
  simp only [e0]
  show wpAny _ _ (Builtin.SmallTypes.ownedTupleIsFree (.ref z) >>= _) _ _ _
  refine wpAny_bind (free_cases hz h0 ?_ (fun h₁ f1' hz₁ kp₁ sz₁ => ?_))
  all_goals simp only [if_true, Bool.false_eq_true, if_false]
  rotate_left
  · refine wpAny_bind ?_
    rw [← Array.forIn_toList]
    simp only [List.map_cons, List.forIn_cons]
    refine wpAny_bind (wpAny_bind (wpAny_holding ?_))
    show wpAny _ _ (Builtin.SmallTypes.nextOf (.ref i0) >>= _) _ _ _
    refine wpAny_bind (sub_end (s := { s with heap := h₁ }) hh (hi.at fun o e => kp₁ _ _ i0z e) (hl.at fun o e => kp₁ _ _ l0z e) hx fun h₂ e hs₂ he => ?_)
    exact hE h₂ e (fun c o c1 c2 x => hs₂ _ _ (fun q => c2 (q ▸ List.mem_cons_self)) (kp₁ _ _ c1 x)) he
  refine wpAny_bind (wpAny_rule ?_)
  refine wpAny_bind (wpAny_field hz rfl (x := .ref TO) rfl ?_)
  refine wpAny_bind (wpAny_setField_rec hz (by simp) fun h₁ hz₁ hs₁ => ?_)
  replace hz₁ : IsZ h₁ z TI TO .ellipsis f1 := hz₁
  refine wpAny_bind ?_
  simp only [List.map_cons, List.zipIdx_cons, List.forIn_cons]
  refine wpAny_bind (wpAny_bind (wpAny_onRaise ?_))
  show wpAny _ _ (Builtin.SmallTypes.nextOf (.ref i0) >>= _) _ _ _
  refine wpAny_bind (sub_end (s := { s with heap := h₁ }) hh (hi.at fun o e => hs₁.extBut _ _ i0z e) (hl.at fun o e => hs₁.extBut _ _ l0z e) hx fun h₂ e hs₂ he => ?_)
  obtain ⟨oe, hoe, hce⟩ := he
  have hz₂ : IsZ h₂ z TI TO .ellipsis f1 := hs₂ _ _ i0z.symm hz₁
  have hez : e ≠ z := fun x => by subst x; rw [hz₂] at hoe; cases hoe; simp at hce
  exact wpAny_setField_rec hz₂ (by simp) fun h₃ _ hs₃ => hE h₃ e (fun c o c1 c3 x => hs₃.extBut _ _ c1 (hs₂ _ _ (fun q => c3 (q ▸ List.mem_cons_self)) (hs₁.extBut _ _ c1 x))) ⟨oe, hs₃.extBut _ _ hez hoe, hce⟩
theorem isZ_type {z TI TO : Addr} {f0 : Value} {f1 : Bool} (hz : IsZ s.heap z TI TO f0 f1) : s.TypeIs (.ref z) "zip" := ⟨_, hz, rfl⟩
theorem pyNext_item {b : Addr → Bool} {z TI TO : Addr} {is ls : List Addr} {row : List Value} {k : Nat} {f0 : Value} {f1 : Bool} {vs0 : List Value} {Q : Option Value → Shared → Prop} (D : Ap z TI TO is ls) (ne : is ≠ []) (hr : row.length = is.length)
    (hz : IsZ s.heap z TI TO f0 f1) (h0 : f0 = .none ∨ ∃ a : Nat, f0 = rawInt a) (hTI : IsT s.heap TI (is.map .ref)) (hv : vs0.length = is.length) (hTO : IsT s.heap TO vs0) (hi : ∀ (j : Nat) (i l : Addr), is[j]? = some i → ls[j]? = some l → SubIt b s.heap i l k)
    (hx : ∀ (j : Nat) (l : Addr) (x : Value), ls[j]? = some l → row[j]? = some x → ∃ xs, SubSeq b s.heap l xs ∧ xs[k]? = some x) (hsz : is.length ≤ 1000)
    (hQ : ∀ h' f0' f1' vs, IsZ h' z TI TO f0' f1' → (f0' = .none ∨ ∃ a : Nat, f0' = rawInt a) → vs.length = is.length → IsT h' TO vs → (∀ (j : Nat) (i l : Addr), is[j]? = some i → ls[j]? = some l → SubIt b h' i l (k + 1)) → IsT h' s.heap.objs.size row → h'.objs.size = s.heap.objs.size + 1 →
      (∀ c o, c ≠ z → c ≠ TO → c ∉ is → s.heap.get? c = some o → h'.get? c = some o) → Q (some (.ref s.heap.objs.size)) { s with heap := h' }) : wpAny (model prog w) A (pyNext (.ref z)) Q E s := by
  unfold pyNext
  exact wpAny_bind (wpAny_attempt (wpAny_callSpecial?_slot (name := Str.ofString "__next__") (isZ_type hz) F.slot_zip_next (wpAny_call_entry F.slot_zip_next (isZ_type hz) F.entry_zip_next
    (next_item D ne hr hz h0 hTI hv hTO hi hx hsz fun h' f0' f1' vs a1 a2 a3 a4 a5 a6 a7 a8 => wpAny_pure (hQ h' f0' f1' vs a1 a2 a3 a4 a5 a6 a7 a8)) (F.args_zip_next_1 _))))
theorem pyNext_end {b : Addr → Bool} {z TI TO : Addr} {i0 l0 : Addr} {is ls : List Addr} {k : Nat} {f0 : Value} {f1 : Bool} {xs0 : Array Value} {Q : Option Value → Shared → Prop} (hh : A.handled = none) (D : Ap z TI TO (i0 :: is) (l0 :: ls))
    (hz : IsZ s.heap z TI TO f0 f1) (h0 : f0 = .none ∨ ∃ a : Nat, f0 = rawInt a) (hTI : IsT s.heap TI ((i0 :: is).map .ref)) (hi : SubIt b s.heap i0 l0 k) (hl : SubSeq b s.heap l0 xs0) (hx : xs0[k]? = none)
    (hQ : ∀ h', (∀ c o, c ≠ z → c ∉ (i0 :: is) → s.heap.get? c = some o → h'.get? c = some o) → Q none { s with heap := h' }) : wpAny (model prog w) A (pyNext (.ref z)) Q E s := by
  unfold pyNext
  refine wpAny_bind (wpAny_attempt (wpAny_callSpecial?_slot (name := Str.ofString "__next__") (isZ_type hz) F.slot_zip_next (wpAny_call_entry F.slot_zip_next (isZ_type hz) F.entry_zip_next (next_end hh D hz h0 hTI hi hl hx fun h' e hk he => ?_) (F.args_zip_next_1 _))))
  obtain ⟨o, ho, hc⟩ := he
  exact wpAny_bind (wpAny_isInstance (T := "StopIteration") (b := true) ⟨o, ho, hc⟩ isSubtype_stop (wpAny_pure (hQ _ hk)))
theorem pyIter_self {z TI TO : Addr} {f0 : Value} {f1 : Bool} {Q : Value → Shared → Prop} (hz : IsZ s.heap z TI TO f0 f1) (h : Q (.ref z) s) : wpAny (model prog w) A (pyIter (.ref z)) Q E s := by
  refine wpAny_pyIter_slot (isZ_type hz) F.slot_zip_iter (wpAny_call_entry F.slot_zip_iter (isZ_type hz) F.entry_zip_iter ?_ (F.args_zip_iter_1 _))
  show wpAny _ _ (ret (.ref z)) _ _ s
  exact wpAny_pure ⟨_, rfl, "zip", _, isZ_type hz, F.slot_zip_next.lookup, h⟩
theorem newClass_zip {vs : List Value} {Q : Value × List Value → Shared → Prop} (h : Q (.type "zip", vs) s) : wpAny (model prog w) A (Builtin.SmallTypes.newClass "zip" ⟨.type "zip" :: vs, []⟩) Q E s := by
  unfold Builtin.SmallTypes.newClass
  show wpAny _ _ (isType (.type "zip") >>= _) _ _ _
  refine wpAny_bind (wpAny_pure ?_)
  show wpAny _ _ (isSubtype (.type "zip") (.type "zip") >>= _) _ _ _
  exact wpAny_bind (wpAny_of_eq sub_zip (wpAny_pure h))
theorem pyIter_sub {b : Addr → Bool} {l : Addr} {xs : Array Value} {Q : Value → Shared → Prop} (hl : SubSeq b s.heap l xs) (hQ : ∀ h', h'.objs.size = s.heap.objs.size + 1 → (∀ c o, s.heap.get? c = some o → h'.get? c = some o) → SubIt b h' s.heap.objs.size l 0 → Q (.ref s.heap.objs.size) { s with heap := h' }) :
    wpAny (model prog w) A (pyIter (.ref l)) Q E s := by
  cases hb : b l with
  | true =>
    exact wpAny_pyIter_tuple (hl.tt hb) (hQ _ (Heap.size_push ..) (fun c o e => Heap.get?_push_of_some _ e) (SubIt.ot hb ⟨_, Heap.get?_push_size _ rfl, rfl, rfl⟩))
  | false =>
    exact wpAny_pyIter_list (hl.ff hb) (hQ _ (Heap.size_push ..) (fun c o e => Heap.get?_push_of_some _ e) (SubIt.of hb ⟨_, Heap.get?_push_size _ rfl, rfl, rfl⟩))
theorem iterAll_sub {b : Addr → Bool} {ls : List Addr} {Q : List Value → Shared → Prop} (hl : ∀ l ∈ ls, ∃ xs, SubSeq b s.heap l xs)
    (hQ : ∀ h', h'.objs.size = s.heap.objs.size + ls.length → (∀ c o, s.heap.get? c = some o → h'.get? c = some o) → (∀ (j : Nat) (l : Addr), ls[j]? = some l → SubIt b h' (s.heap.objs.size + j) l 0) → Q ((List.range' s.heap.objs.size ls.length).map .ref) { s with heap := h' }) :
    wpAny (model prog w) A (Builtin.SmallTypes.iterAll (ls.map .ref)) Q E s := by
  unfold Builtin.SmallTypes.iterAll
  refine wpAny_bind (wpAny_forIn_list _ (fun rest c s' => ∃ j h', rest = (ls.map Value.ref).drop j ∧ j ≤ ls.length ∧ c = ((List.range' s.heap.objs.size j).map Value.ref).toArray ∧ s' = { s with heap := h' } ∧ h'.objs.size = s.heap.objs.size + j ∧ (∀ c o, s.heap.get? c = some o → h'.get? c = some o) ∧ (∀ (j' : Nat) (l : Addr), j' < j → ls[j']? = some l → SubIt b h' (s.heap.objs.size + j') l 0)) _ ?_ ?_ _ _
    ⟨0, s.heap, rfl, Nat.zero_le _, rfl, rfl, rfl, fun _ _ e => e, fun j' l h => absurd h (Nat.not_lt_zero _)⟩)
  · rintro x rest c s' ⟨j, h', hrest, hj, rfl, rfl, hsz, kp, its⟩
    obtain ⟨l, hlj, rfl, rfl⟩ := ref_at hrest
    obtain ⟨xs, hsq⟩ := hl l (List.mem_of_getElem? hlj)
    refine wpAny_bind (wpAny_holding (pyIter_sub (s := { s with heap := h' }) (hsq.at fun o e => kp _ _ e) fun h₂ sz₂ kp₂ it₂ => wpAny_pure ?_))
    refine ⟨j + 1, h₂, rfl, (List.getElem?_eq_some_iff.mp hlj).1, ?_, rfl, by rw [sz₂]; show h'.objs.size + 1 = _; omega, fun c o e => kp₂ c o (kp c o e), fun j' l' hj' e => ?_⟩
    · rw [show (List.range' s.heap.objs.size (j + 1)) = List.range' s.heap.objs.size j ++ [s.heap.objs.size + j] by rw [List.range'_concat]; simp]
      simp [hsz]
    · by_cases q : j' = j
      · subst q
        rw [hlj] at e
        cases e
        have := it₂
        rw [show ({ s with heap := h' } : Shared).heap.objs.size = s.heap.objs.size + j' from hsz] at this
        exact this
      · exact (its j' l' (by omega) e).at fun o e => kp₂ _ _ e
  · rintro c s' ⟨j, h', hrest, hj, rfl, rfl, hsz, kp, its⟩
    have hjn : j = ls.length := by
      have := congrArg List.length hrest
      simp at this
      omega
    subst hjn
    refine wpAny_pure ?_
    rw [List.toList_toArray]
    exact hQ h' hsz kp fun j' l e => its j' l (List.getElem?_eq_some_iff.mp e).1 e
/-- what a zip of ls is when it is made -/
def Made (b : Addr → Bool) (h0 : Heap) (ls : List Addr) (h : Heap) (z TI TO : Addr) (is : List Addr) : Prop :=
  Ap z TI TO is ls ∧ IsZ h z TI TO .none false ∧ IsT h TI (is.map .ref) ∧ (∃ vs : List Value, vs.length = is.length ∧ IsT h TO vs) ∧ (∀ (j : Nat) (i l : Addr), is[j]? = some i → ls[j]? = some l → SubIt b h i l 0) ∧
    (∀ c o, h0.get? c = some o → h.get? c = some o) ∧ ∀ c, c = z ∨ c = TI ∨ c = TO ∨ c ∈ is → h0.objs.size ≤ c
theorem meets_zip (b : Addr → Bool) (ls : List Addr) (n : ls.length ≤ 1000) : Meets (Builtin.«zip.__new__» ⟨.type "zip" :: ls.map .ref, []⟩) (fun _ R s => (∀ l ∈ ls, ∃ xs, SubSeq b s.heap l xs) ∧ ∀ h' z TI TO is, Made b s.heap ls h' z TI TO is → R (.ok (.ret (.ref z))) { s with heap := h' }) := by
  intro prog w A R s ⟨hl, hR⟩
  unfold Builtin.«zip.__new__»
  refine wpAny_bind (newClass_zip ?_)
  show wpAny _ _ (Builtin.SmallTypes.iterAll (ls.map .ref) >>= _) _ _ _
  refine wpAny_bind (iterAll_sub hl fun h' sz kp its => ?_)
  refine wpAny_bind (wpAny_newTuple ?_ (by rw [List.length_map, List.length_range']; exact DL.mil_le (by omega)))
  refine wpAny_bind (wpAny_newTuple ?_ (by rw [List.length_map, List.length_map, List.length_range']; exact DL.mil_le (by omega)))
  refine wpAny_bind ?_
  unfold Builtin.SmallTypes.newRecord
  refine wpAny_newObj_type ?_ ?_
  · let is := List.range' s.heap.objs.size ls.length
    let g1 := h'.push { cls := .type "tuple", data := .seq (is.map Value.ref).toArray }
    let g2 := g1.push { cls := .type "tuple", data := .seq ((is.map Value.ref).map fun _ => Value.none).toArray }
    have s1 : g1.objs.size = h'.objs.size + 1 := Heap.size_push ..
    have s2 : g2.objs.size = h'.objs.size + 2 := by show (Heap.push _ _).objs.size = _; rw [Heap.size_push, s1]
    have mem : ∀ {i}, i ∈ is → s.heap.objs.size ≤ i ∧ i < h'.objs.size := fun {i} h => by
      have := List.mem_range'_1.mp h
      exact ⟨this.1, by rw [sz]; exact this.2⟩
    have low : ∀ l ∈ ls, l < s.heap.objs.size := fun l h => by
      obtain ⟨xs, hq⟩ := hl l h
      cases hb : b l with
      | true =>
        obtain ⟨o, e, _⟩ := (hq.tt hb)
        exact Heap.lt_size e
      | false =>
        obtain ⟨o, e, _⟩ := (hq.ff hb)
        exact Heap.lt_size e
    have big : s.heap.objs.size ≤ h'.objs.size := by rw [sz]; exact Nat.le_add_right _ _
    refine wpAny_pure (hR _ g2.objs.size h'.objs.size g1.objs.size is ⟨⟨?_, List.nodup_range', ?_, ?_, ?_, ?_, ?_, ?_, ?_, ?_, ?_⟩, Heap.get?_push_size _ rfl, Heap.get?_push_of_some _ (Heap.get?_push_of_some _ (Heap.get?_push_size _ rfl)), ⟨_, ?_, Heap.get?_push_of_some _ (Heap.get?_push_size _ rfl)⟩, fun j i l e1 e2 => ?_, fun c o e => Heap.get?_push_of_some _ (Heap.get?_push_of_some _ (Heap.get?_push_of_some _ (kp c o e))), fun c hc => ?_⟩)
    · rw [List.length_range']
    · exact Nat.ne_of_gt (show h'.objs.size < g2.objs.size by omega)
    · exact Nat.ne_of_gt (show g1.objs.size < g2.objs.size by omega)
    · exact Nat.ne_of_lt (show h'.objs.size < g1.objs.size by omega)
    · intro h; exact absurd (show g2.objs.size < h'.objs.size from (mem h).2) (by omega)
    · intro h; exact absurd (show h'.objs.size < h'.objs.size from (mem h).2) (by omega)
    · intro h; exact absurd (show g1.objs.size < h'.objs.size from (mem h).2) (by omega)
    · intro h; exact absurd (show g2.objs.size < s.heap.objs.size from low _ h) (by omega)
    · intro h; exact absurd (show g1.objs.size < s.heap.objs.size from low _ h) (by omega)
    · intro i h h2; exact absurd (Nat.lt_of_lt_of_le (low _ h2) (mem h).1) (Nat.lt_irrefl _)
    · rw [List.length_map, List.length_map]
    · have ei : i = s.heap.objs.size + j := by
        have e1 : (List.range' s.heap.objs.size ls.length)[j]? = some i := e1
        have hj := (List.getElem?_eq_some_iff.mp e1).1
        rw [List.length_range'] at hj
        rw [List.getElem?_range' hj] at e1
        have := Option.some.inj e1
        rw [Nat.one_mul] at this
        exact this.symm
      subst ei
      exact (its j l e2).at fun o e => Heap.get?_push_of_some _ (Heap.get?_push_of_some _ (Heap.get?_push_of_some _ e))
    · rcases hc with rfl | rfl | rfl | h
      · exact (show s.heap.objs.size ≤ g2.objs.size by omega)
      · exact big
      · exact (show s.heap.objs.size ≤ g1.objs.size by omega)
      · exact (mem h).1
  · show (5 : Nat) ≤ sizeLine + 2
    rw [sizeLine_eq]
    decide
theorem tc_zip : ∀ (ls : List Value), ls ≠ [] → ls.length ≤ 5 → checkTypeCall "zip" ⟨ls, []⟩ = pure ()
  | [], h, _ => absurd rfl h
  | [a], _, _ => by kernel_rfl
  | [a, b], _, _ => by kernel_rfl
  | [a, b, c], _, _ => by kernel_rfl
  | [a, b, c, d], _, _ => by kernel_rfl
  | [a, b, c, d, e], _, _ => by kernel_rfl
  | _ :: _ :: _ :: _ :: _ :: _ :: _, _, h => absurd h (by simp)
theorem nc_zip : ∀ (ls : List Value), ls ≠ [] → ls.length ≤ 5 → checkBuiltinCall "zip.__new__" ⟨.type "zip" :: ls, []⟩ = pure ()
  | [], h, _ => absurd rfl h
  | [a], _, _ => by kernel_rfl
  | [a, b], _, _ => by kernel_rfl
  | [a, b, c], _, _ => by kernel_rfl
  | [a, b, c, d], _, _ => by kernel_rfl
  | [a, b, c, d, e], _, _ => by kernel_rfl
  | _ :: _ :: _ :: _ :: _ :: _ :: _, _, h => absurd h (by simp)
theorem oi_zip (o : Value) : ∀ (ls : List Value), ls ≠ [] → ls.length ≤ 5 → argsOk "object.__init__" ⟨o :: ls, []⟩
  | [], h, _ => absurd rfl h
  | [a], _, _ => by
    have := F.args_object_init_3 o a a
    unfold argsOk at this ⊢
    rw [signature?_of (id := "object.__init__") (o := ['t', 'c', 'e', 'j', 'b', 'o']) (n := ['_', '_', 't', 'i', 'n', 'i', '_', '_']) (by kernel_rfl) F.owner_object]
    kernel_rfl
  | [a, b], _, _ => F.args_object_init_3 o a b
  | [a, b, c], _, _ => by
    unfold argsOk
    rw [signature?_of (id := "object.__init__") (o := ['t', 'c', 'e', 'j', 'b', 'o']) (n := ['_', '_', 't', 'i', 'n', 'i', '_', '_']) (by kernel_rfl) F.owner_object]
    kernel_rfl
  | [a, b, c, d], _, _ => by
    unfold argsOk
    rw [signature?_of (id := "object.__init__") (o := ['t', 'c', 'e', 'j', 'b', 'o']) (n := ['_', '_', 't', 'i', 'n', 'i', '_', '_']) (by kernel_rfl) F.owner_object]
    kernel_rfl
  | [a, b, c, d, e], _, _ => by
    unfold argsOk
    rw [signature?_of (id := "object.__init__") (o := ['t', 'c', 'e', 'j', 'b', 'o']) (n := ['_', '_', 't', 'i', 'n', 'i', '_', '_']) (by kernel_rfl) F.owner_object]
    kernel_rfl
  | _ :: _ :: _ :: _ :: _ :: _ :: _, _, h => absurd h (by simp)
theorem call_zip {b : Addr → Bool} {ls : List Addr} {Q : Value → Shared → Prop} (n1 : ls ≠ []) (n5 : ls.length ≤ 5) (hl : ∀ l ∈ ls, ∃ xs, SubSeq b s.heap l xs) (h : ∀ h' z TI TO is, Made b s.heap ls h' z TI TO is → Q (.ref z) { s with heap := h' }) :
    wpAny (model prog w) A (call (.type "zip") (ls.map .ref)) Q E s := by
  have m1 : ls.map Value.ref ≠ [] := fun e => n1 (List.map_eq_nil_iff.mp e)
  have m5 : (ls.map Value.ref).length ≤ 5 := by rw [List.length_map]; exact n5
  exact callType_new F.called_zip (by decide) (tc_zip _ m1 m5) (nc_zip _ m1 m5) (fun obj => oi_zip obj _ m1 m5) F.entry_zip_new (meets_zip b ls (by omega)) ⟨hl, fun h' z TI TO is M => ⟨⟨_, M.2.1, rfl⟩, h h' z TI TO is M⟩⟩
end
end ZM
-- ZM2
set_option maxRecDepth 100000
set_option maxHeartbeats 1000000
/-! for a, b, c in zip(x, y, z): tuples or lists, kinds by address -/
namespace ZM
open PySem PySem.Spec PyProof.Rows L2
open ZN (SqB)
def ItM (K : PySem.W.Frag) (b : Addr → Bool) (ls : List Addr) : It :=
  ⟨fun i H => ∀ (j : Nat) (l : Addr), ls[j]? = some l → ∃ xs : List V, SqB (b l) K H l xs ∧ i < xs.length,
    fun i H v H' => ∃ T row, v = .ref T ∧ H T = none ∧ H' = upd H T (.tup row) ∧ row.length = ls.length ∧ ∀ (j : Nat) (l : Addr) (xs : List V), ls[j]? = some l → SqB (b l) K H l xs → row[j]? = xs[i]?,
    fun i H => ∃ l xs, ls[0]? = some l ∧ SqB (b l) K H l xs ∧ xs.length ≤ i⟩
def SttM (b : Addr → Bool) (z TI TO : Addr) (is ls : List Addr) (i : Nat) (h : Heap) : Prop :=
  ∃ f0 f1 vs, IsZ h z TI TO f0 f1 ∧ (f0 = .none ∨ ∃ a : Nat, f0 = rawInt a) ∧ IsT h TI (is.map .ref) ∧ (vs : List Value).length = is.length ∧ IsT h TO vs ∧ ∀ (j : Nat) (i' l : Addr), is[j]? = some i' → ls[j]? = some l → SubIt b h i' l i
section
variable {prog : Program} {w : World} {A : Around} {E : Value → Shared → Prop} {s : Shared}
theorem go_zip {elts : List Expr} {kk : Nat} {pos : Pos} {z TI TO T : Addr} {f0 : Value} {f1 : Bool} {Q : Unit → Shared → Prop} (hz : IsZ s.heap z TI TO f0 f1) (h0 : f0 = .none ∨ ∃ a : Nat, f0 = rawInt a)
    (hQ : ∀ h' f0', IsZ h' z TI TO f0' f1 → (f0' = .none ∨ ∃ a : Nat, f0' = rawInt a) → Heap.SameBut z s.heap h' → Q () { s with heap := h' }) :
    wpAny (model prog w) A (letOwnedTupleGo (.Tuple elts kk pos) (.ref z) (.ref T)) Q E s := by
  unfold letOwnedTupleGo
  refine wpAny_bind (wpAny_load hz ?_)
  dsimp only
  split
  · refine wpAny_bind (wpAny_rule ?_)
    show wpAny _ _ (setField (.ref z) 0 .none) Q E s
    exact wpAny_setField_rec hz (by simp) fun h' hz' hs' => hQ h' .none hz' (.inl rfl) hs'
  · exact wpAny_pure (hQ s.heap f0 hz h0 ⟨rfl, fun _ _ => rfl⟩)
end
section
variable {X : Cx} {pins : List (Addr × Obj)} {σ : L2.St} {H : Hp} {s : Shared}
theorem sqM_its (I : Inv X pins σ H s) {b : Addr → Bool} {l : Addr} {xs : List V} (h : SqB (b l) X.K H l xs) : ∃ its, Vals xs its ∧ SubSeq b s.heap l its.toArray := by
  cases hb : b l with
  | true =>
    rw [hb] at h
    obtain ⟨its, r, p, _⟩ := I.tuple (show SqT X.K H l xs from h)
    exact ⟨its, r, .ot hb p⟩
  | false =>
    rw [hb] at h
    obtain ⟨its, r, p, _⟩ := I.list (show SqL X.K H l xs from h)
    exact ⟨its, r, .of hb p.isList⟩
theorem sq_kind (I : Inv X pins σ H s) {k k' : Bool} {l : Addr} {xs ys : List V} (h : SqB k X.K H l xs) (h' : SqB k' X.K H l ys) : k = k' := by
  cases k with
  | true =>
    cases k' with
    | true => rfl
    | false =>
      obtain ⟨its, r, p, _⟩ := I.tuple (show SqT X.K H l xs from h)
      obtain ⟨its', r', p', _⟩ := I.list (show SqL X.K H l ys from h')
      obtain ⟨o, e1, c1, _⟩ := id (show s.heap.IsTuple l its.toArray from p)
      obtain ⟨o', e2, c2, _⟩ := id (show s.heap.IsList l its'.toArray from p'.isList)
      rw [e1] at e2
      cases e2
      rw [c1] at c2
      exact absurd c2 (by simp)
  | false =>
    cases k' with
    | false => rfl
    | true =>
      obtain ⟨its, r, p, _⟩ := I.tuple (show SqT X.K H l ys from h')
      obtain ⟨its', r', p', _⟩ := I.list (show SqL X.K H l xs from h)
      obtain ⟨o, e1, c1, _⟩ := id (show s.heap.IsTuple l its.toArray from p)
      obtain ⟨o', e2, c2, _⟩ := id (show s.heap.IsList l its'.toArray from p'.isList)
      rw [e1] at e2
      cases e2
      rw [c1] at c2
      exact absurd c2 (by simp)
theorem rows_atM (I : Inv X pins σ H s) {b : Addr → Bool} {i : Nat} : ∀ {ls : List Addr}, (∀ l ∈ ls, ∃ xs : List V, SqB (b l) X.K H l xs ∧ i < xs.length) →
    ∃ rowV row, Vals rowV row ∧ rowV.length = ls.length ∧ ∀ (j : Nat) (l : Addr), ls[j]? = some l → ∃ xs its x u, SqB (b l) X.K H l xs ∧ SubSeq b s.heap l its ∧ xs[i]? = some x ∧ its[i]? = some u ∧ rowV[j]? = some x ∧ row[j]? = some u
  | [], _ => ⟨[], [], .nil, rfl, fun j l h => by simp at h⟩
  | l :: ls, h => by
    obtain ⟨rowV, row, r, e, f⟩ := rows_atM I (ls := ls) fun l' hl => h l' (List.mem_cons_of_mem _ hl)
    obtain ⟨xs, hq, hi⟩ := h l List.mem_cons_self
    obtain ⟨its, rv, p⟩ := sqM_its I hq
    have hx : xs[i]? = some xs[i] := List.getElem?_eq_getElem hi
    obtain ⟨u, hu, ru⟩ := rv.get hx
    refine ⟨xs[i] :: rowV, u :: row, .cons ru r, by rw [List.length_cons, List.length_cons, e], fun j l' hj => ?_⟩
    cases j with
    | zero =>
      cases hj
      exact ⟨xs, its.toArray, _, u, hq, p, hx, by simpa using hu, rfl, rfl⟩
    | succ j =>
      obtain ⟨xs, its, x, u, a1, a2, a3, a4, a5, a6⟩ := f j l' (by simpa using hj)
      exact ⟨xs, its, x, u, a1, a2, a3, a4, by simpa using a5, by simpa using a6⟩
end
theorem turn_zipM {P : Program} {w : World} {K : PySem.W.Frag} {elts : List Expr} {kk : Nat} {tpos : Pos} {b : Addr → Bool} {z TI TO : Addr} {is ls : List Addr} (D : Ap z TI TO is ls) (ne : is ≠ []) (n5 : is.length ≤ 1000) :
    Turn P w K (.Tuple elts kk tpos) (ItM K b ls) (z :: TI :: TO :: is) z (SttM b z TI TO is ls) where
  mem := List.mem_cons_self
  obj := fun i h ⟨f0, f1, vs, hz, h0, hTI, hv, hTO, hi⟩ c hc => by
    rcases List.mem_cons.mp hc with q | hc
    · rw [q]; exact ⟨_, hz, fun v q => nomatch q⟩
    rcases List.mem_cons.mp hc with q | hc
    · rw [q]; exact ⟨_, hTI, fun v q => nomatch q⟩
    rcases List.mem_cons.mp hc with q | hc
    · rw [q]; exact ⟨_, hTO, fun v q => nomatch q⟩
    · obtain ⟨j, hj⟩ := List.mem_iff_getElem?.mp hc
      obtain ⟨l, hl⟩ := get_both D.len.symm hj
      obtain ⟨o, ws, e1, e2⟩ := (hi j c l hj hl).there
      exact ⟨o, e1, fun v q => by rw [e2] at q; cases q⟩
  keep := fun i h h' ⟨f0, f1, vs, hz, h0, hTI, hv, hTO, hi⟩ k => ⟨f0, f1, vs, k z (by simp) _ hz, h0, k TI (by simp) _ hTI, hv, k TO (by simp) _ hTO, fun j i' l e1 e2 => (hi j i' l e1 e2).at fun o q => k i' (by simp [List.mem_of_getElem? e1]) o q⟩
  item := by
    intro X hP hw hK hc i pins s σ H E I hf ⟨f0, f1, vs, hz, h0, hTI, hv, hTO, hi⟩ hg
    subst hP hw hK
    obtain ⟨rowV, row, rv, lv, at_⟩ := rows_atM I (ls := ls) fun l hl => by
      obtain ⟨j, hj⟩ := List.mem_iff_getElem?.mp hl
      exact hg j l hj
    have lr : row.length = is.length := by rw [← rv.length, lv, D.len]
    have hzl : z < s.heap.objs.size := Heap.lt_size hz
    refine pyNext_item D ne lr hz h0 hTI hv hTO hi (fun j l x h1 h2 => ?_) n5 fun h1' f0' f1' vs' hz1 h01 hv' hTO1 hi1 hT1 hsz kp1 => ?_
    · obtain ⟨xs, its, y, u, _, a2, _, a4, _, a6⟩ := at_ j l h1
      rw [a6] at h2
      cases h2
      exact ⟨its, a2, a4⟩
    · refine ⟨_, rfl, go_zip (s := { s with heap := h1' }) hz1 h01 fun h' f0'' hz' h0' sb => ?_⟩
      have hT : IsT h' s.heap.objs.size row := (sb.2 _ (Nat.ne_of_gt hzl)).trans hT1
      have hTO' : IsT h' TO vs' := (sb.2 _ D.zTO.symm).trans hTO1
      have kp : ∀ c o, c ≠ z → c ≠ TO → c ∉ is → s.heap.get? c = some o → h'.get? c = some o := fun c o c1 c2 c3 e => (sb.2 _ c1).trans (kp1 c o c1 c2 c3 e)
      have hi' : ∀ (j : Nat) (i' l : Addr), is[j]? = some i' → ls[j]? = some l → SubIt b h' i' l (i + 1) := fun j i' l e1 e2 => (hi1 j i' l e1 e2).at fun o q => (sb.2 _ (fun e => D.zi (e ▸ List.mem_of_getElem? e1))).trans q
      have new : ObjOk X.prog X.w (upd H s.heap.objs.size (.tup rowV)) h' s.heap.objs.size (.tup rowV) :=
        ⟨DL.mil_le (by rw [lv, D.len]; omega), row, rv, ⟨_, hT, rfl, _, rfl⟩⟩
      have I1 : Inv X pins σ (upd H s.heap.objs.size (.tup rowV)) { s with heap := h' } :=
        I.turnedNew (t' := s.toks) (ch := z :: TI :: TO :: is) (fun c o hb q => kp c o (fun e => hb (by simp [e])) (fun e => hb (by simp [e])) (fun e => hb (by simp [e])) q) hf (Nat.le_refl _) new
      have old : ∀ c ∈ z :: TI :: TO :: is, c < s.heap.objs.size := fun c hc => by
        rcases List.mem_cons.mp hc with q | hc
        · rw [q]; exact Heap.lt_size hz
        rcases List.mem_cons.mp hc with q | hc
        · rw [q]; exact Heap.lt_size hTI
        rcases List.mem_cons.mp hc with q | hc
        · rw [q]; exact Heap.lt_size hTO
        · obtain ⟨j, hj⟩ := List.mem_iff_getElem?.mp hc
          obtain ⟨l, hl⟩ := get_both D.len.symm hj
          obtain ⟨o, ws, e1, _⟩ := (hi j c l hj hl).there
          exact Heap.lt_size e1
      refine ⟨.ref s.heap.objs.size, _, I1, rfl, ⟨_, rowV, rfl, I.hok.fresh (Nat.le_refl _), rfl, lv, fun j l xs hl hs => ?_⟩, ⟨f0'', f1', vs', hz', h0', kp TI _ D.zTI.symm D.TITO D.TIi hTI, hv', hTO', hi'⟩, fun c hcm => ?_⟩
      · obtain ⟨xs', its, y, u, a1, _, a3, _, a5, _⟩ := at_ j l hl
        rw [ZN.sqB_inj I hs a1, a5, a3]
      · rw [upd_ne (Nat.ne_of_lt (old c hcm))]
        exact (hf c hcm).1
  done := by
    intro X hP hw hK hc i pins s σ H E I hf ⟨f0, f1, vs, hz, h0, hTI, hv, hTO, hi⟩ ⟨l, xs, hl, hs, hend⟩
    subst hP hw hK
    match is, ls, D, ne, hTI, hi, hl, hf with
    | i0 :: is, l0 :: ls, D, ne, hTI, hi, hl, hf =>
      cases hl
      obtain ⟨its, rv, p⟩ := sqM_its I hs
      have le := rv.length
      exact pyNext_end (I.ok.hd hc) D hz h0 hTI (hi 0 i0 _ rfl rfl) p (by rw [List.getElem?_toArray]; exact List.getElem?_eq_none (by omega)) fun h' kp => ⟨rfl, I.turnedL (t' := s.toks) (ch := z :: TI :: TO :: i0 :: is) (fun c o hb q => kp c o (fun e => hb (by simp [e])) (fun e => hb (by simp only [List.mem_cons] at e ⊢; exact .inr (.inr (.inr e)))) q) hf⟩
    | i0 :: is, [], D, _, _, _, hl, _ => simp at hl
    | [], _, _, ne, _, _, _, _ => exact absurd rfl ne
  self := fun A i s Q E ⟨f0, f1, vs, hz, _⟩ h => pyIter_self hz h
def iZipV (K : PySem.W.Frag) (ta : TA) : TI := fun σ H R => ta σ H fun vs H1 => ∃ (ls : List Addr) (ks : List Bool), vs = ls.map V.ref ∧ ls ≠ [] ∧ ls.length ≤ 5 ∧ ks.length = ls.length ∧
  (∀ (j : Nat) (l : Addr) (k : Bool), ls[j]? = some l → ks[j]? = some k → ∃ ys, SqB k K H1 l ys) ∧ ∀ b : Addr → Bool, (∀ (j : Nat) (l : Addr) (k : Bool), ls[j]? = some l → ks[j]? = some k → b l = k) → R (ItM K b ls) H1
open Classical in
theorem pi_zipM {X : Cx} {e : Expr} {rest : List Expr} {ta : TA} {p pos tpos : Pos} {elts : List Expr} {kk : Nat} (hg : Gl X "zip") (hm : X.mg "zip" = none) (ha : PA X (e :: rest) ta)
    (hs : starEach (e :: rest) X.env = (false, eval e X.env) :: starEach rest X.env := by rfl) (hpl : (backTo pos (starEach rest X.env)).any (·.1) = false := by rfl) :
    PI X (.Tuple elts kk tpos) (.Call (.Name "zip" p) (e :: rest) [] pos) (iZipV X.K ta) := by
  refine ⟨fun pins s σ H R I h => ?_⟩
  refine Call_ (ld_blt I hg hm PyProof.Rows.boot_zip (PyProof.Rows.callWith_type1 (thn (ha.run pos pins s σ H _ I h) fun us s2 ⟨vs, H1, I2, r1, q1⟩ => ?_) hs hpl))
  obtain ⟨ls, ks, ex, n1, n5, kl, hk, q⟩ := q1
  subst ex
  have eu := ZN.vals_refs r1
  subst eu
  have hbk : ∀ (j : Nat) (l : Addr) (k : Bool), ls[j]? = some l → ks[j]? = some k → (decide (∃ ys, SqB true X.K H1 l ys)) = k := fun j l k h1 h2 => by
    obtain ⟨ys, hy⟩ := hk j l k h1 h2
    cases k with
    | true => exact decide_eq_true ⟨ys, hy⟩
    | false =>
      refine decide_eq_false fun ⟨zs, hz⟩ => ?_
      exact absurd (sq_kind I2 hz hy) (by decide)
  refine call_zip (b := fun l => decide (∃ ys, SqB true X.K H1 l ys)) n1 n5 (fun l hl' => ?_) fun h' z TI TO is ⟨D, hz, hTI, ⟨vs, hv, hTO⟩, hi, kp, fresh⟩ => ?_
  · obtain ⟨j, hj⟩ := List.mem_iff_getElem?.mp hl'
    obtain ⟨k, hkj⟩ := get_both kl.symm hj
    obtain ⟨ys, hy⟩ := hk j l k hj hkj
    obtain ⟨its, _, p⟩ := sqM_its I2 (b := fun l => decide (∃ ys, SqB true X.K H1 l ys)) (l := l) (xs := ys) (by show SqB (decide (∃ ys, SqB true X.K H1 l ys)) X.K H1 l ys; rw [hbk j l k hj hkj]; exact hy)
    exact ⟨_, p⟩
  · refine pyIter_self hz ?_
    have I3 : Inv X pins σ H1 { s2 with heap := h' } := I2.kept (t' := s2.toks) kp
    have ne : is ≠ [] := fun z => n1 (List.length_eq_zero_iff.mp (by rw [D.len, z]; rfl))
    refine ⟨z, z :: TI :: TO :: is, _, _, H1, rfl, I3, turn_zipM D ne (by rw [← D.len]; omega), ⟨.none, false, vs, hz, .inl rfl, hTI, hv, hTO, hi⟩, fun c hc => ?_, q _ hbk⟩
    have hle : s2.heap.objs.size ≤ c := fresh c (by
      simp only [List.mem_cons] at hc
      exact hc)
    exact I2.fpOk hle (I2.hok.fresh hle)
end ZM
namespace DL
open PySem PySem.Spec PyProof.Rows L2
open ZN (SqB)
/-- rows under their kinds -/
def seqsD : List (Bool × List D) → List D := fun bs => bs.map fun p => seqD p.1 p.2
def iZipVD (ta : TDA) : TDI := fun δ μ Q => ta δ μ fun ds μ1 => ∃ bs : List (Bool × List D), ds = seqsD bs ∧ bs ≠ [] ∧ bs.length ≤ 5 ∧ (∀ r ∈ bs.map (·.2), r.length = ((bs.map (·.2)).headD []).length) ∧ Q (colsD (bs.map (·.2))) μ1
theorem rows_repM {K : PySem.W.Frag} {F : Hp} {μ : Mem} {H : Hp} (lay : Lay K F μ H) : ∀ {bs : List (Bool × List D)} {vs : List V}, Reps K F vs (seqsD bs) → ∃ ls : List Addr, vs = ls.map V.ref ∧ ls.length = bs.length ∧ ∀ (j : Nat) (l : Addr) (r : Bool × List D), ls[j]? = some l → bs[j]? = some r → ∃ ws, SqF r.1 K F l ws ∧ Reps K F ws r.2
  | [], _, .nil => ⟨[], rfl, rfl, fun j l r h => by simp at h⟩
  | r :: rows, v :: vs, .cons rv t => by
    obtain ⟨ls, e1, e2, f⟩ := rows_repM lay t
    obtain ⟨l, ws, rfl, h1, h2⟩ := seq_rep lay rv
    refine ⟨l :: ls, by rw [e1]; rfl, by rw [List.length_cons, List.length_cons, e2], fun j l' r' a c => ?_⟩
    cases j with
    | zero =>
      cases a
      cases c
      exact ⟨ws, h1, h2⟩
    | succ j => exact f j l' r' (by simpa using a) (by simpa using c)
theorem di_zipV {X : Cx} {e : Expr} {rest : List Expr} {ta : TDA} {p pos tpos : Pos} {elts : List Expr} {kk : Nat} (hm : X.mg "zip" = none) (ha : DA X (e :: rest) ta) (hg : Gl X "zip" := by rfl)
    (hs : starEach (e :: rest) X.env = (false, eval e X.env) :: starEach rest X.env := by rfl) (hpl : (backTo pos (starEach rest X.env)).any (·.1) = false := by rfl) :
    DI X (.Tuple elts kk tpos) (.Call (.Name "zip" p) (e :: rest) [] pos) (iZipVD ta) := by
  refine PI.weak (ZM.pi_zipM hg hm ha hs hpl) fun σ H R ⟨δ, F, μ, QD, l, rs, q, k⟩ => ⟨δ, F, μ, _, l, rs, q, fun vs ds F1 μ1 H1 e1 l1 r1 ⟨bs, hd, n1, n5, hl, q1⟩ => ?_⟩
  subst hd
  obtain ⟨ls, rfl, ll, at_⟩ := rows_repM l1 r1
  have row_of : ∀ {j : Nat} {l : Addr}, ls[j]? = some l → ∃ r, bs[j]? = some r ∧ r ∈ bs := fun {j l} h => by
    obtain ⟨r, hr⟩ := ZM.get_both ll h
    exact ⟨r, hr, List.mem_of_getElem? hr⟩
  have hlen : ∀ r ∈ bs, r.2.length = ((bs.map (·.2)).headD []).length := fun r hr => hl _ (List.mem_map.mpr ⟨r, hr, rfl⟩)
  refine ⟨ls, bs.map (·.1), rfl, fun z => n1 (List.length_eq_zero_iff.mp (by rw [← ll, z]; rfl)), by rw [ll]; exact n5, by rw [List.length_map, ll], fun j l' kd hj hkd => ?_, fun b hb => k _ _ F1 μ1 H1 e1 l1 (fun i F2 μ2 H2 e2 l2 hi => ⟨fun d hd => ?_, fun hend => ?_⟩) q1⟩
  · obtain ⟨r, hr, _⟩ := row_of hj
    obtain ⟨ws, h1, _⟩ := at_ j l' r hj hr
    rw [List.getElem?_map, hr] at hkd
    cases hkd
    exact ⟨ws, sqF_B l1.fz h1⟩
  · have kd : ∀ {j : Nat} {l' : Addr} {r : Bool × List D}, ls[j]? = some l' → bs[j]? = some r → b l' = r.1 := fun {j l' r} h1 h2 => hb j l' r.1 h1 (by rw [List.getElem?_map, h2]; rfl)
    obtain ⟨hlt, rfl⟩ := colsD_get hd
    refine ⟨fun j l' hj => ?_, fun y H3 ⟨T, row, ey, hT, eH, len, f⟩ => ?_⟩
    · obtain ⟨r, hr, hm⟩ := row_of hj
      obtain ⟨ws, h1, h2⟩ := at_ j l' r hj hr
      exact ⟨ws, by rw [kd hj hr]; exact sqF_B (e2.trans l2.fz) h1, by rw [h2.length, hlen r hm]; exact hlt⟩
    · subst ey eH
      have ex : Ex F2 (upd F2 T (.tup row)) := Ex.new (l2.none_F hT)
      refine ⟨_, ex, l2.new hT _, .tup (.inl (.inl upd_same)) (reps_at_all (by rw [len, ll, List.length_map, List.length_map]) fun j v' d' a1 a2 => ?_)⟩
      have hj : j < ls.length := by
        have := (List.getElem?_eq_some_iff.mp a1).1
        omega
      have hlj : ls[j]? = some ls[j] := List.getElem?_eq_getElem hj
      obtain ⟨r, hr, hm⟩ := row_of hlj
      obtain ⟨ws, h1, h2⟩ := at_ j _ r hlj hr
      have e3 := f j _ ws hlj (by rw [kd hlj hr]; exact sqF_B (e2.trans l2.fz) h1)
      rw [a1] at e3
      rw [List.getElem?_map, List.getElem?_map, hr] at a2
      obtain ⟨d2, hd2, rd⟩ := h2.getV e3.symm
      have e4 : d' = d2 := by
        have := Option.some.inj a2
        rw [← this]
        show r.2.getD i .non = d2
        rw [List.getD_eq_getElem?_getD, hd2]
        rfl
      rw [e4]
      exact rd.mono (e2.trans ex)
  · cases hls : ls with
    | nil =>
      rw [hls] at ll
      exact absurd (List.length_eq_zero_iff.mp ll.symm) n1
    | cons l0 lr =>
      have hj : ls[0]? = some l0 := by rw [hls]; rfl
      obtain ⟨r, hr, hm⟩ := row_of hj
      obtain ⟨ws, h1, h2⟩ := at_ 0 l0 r hj hr
      have kd : b l0 = r.1 := hb 0 l0 r.1 hj (by rw [List.getElem?_map, hr]; rfl)
      refine ⟨l0, ws, rfl, by rw [kd]; exact sqF_B (e2.trans l2.fz) h1, ?_⟩
      rw [h2.length, hlen r hm, hend]
      unfold colsD
      rw [List.length_map, List.length_range]
      exact Nat.le_refl _
/-- three or four of them, side by side -/
theorem x_iZipV {ta : TDA} {δ : DSt} {μ : Mem} {Q : List D → Mem → Prop} (k : ta δ μ fun ds μ1 => ∃ bs : List (Bool × List D), ds = seqsD bs ∧ bs ≠ [] ∧ bs.length ≤ 5 ∧ (∀ r ∈ bs.map (·.2), r.length = ((bs.map (·.2)).headD []).length) ∧ Q (colsD (bs.map (·.2))) μ1) : iZipVD ta δ μ Q := k
theorem cols3 {xs ys zs : List D} (h1 : ys.length = xs.length) (h2 : zs.length = xs.length) : colsD [xs, ys, zs] = (List.range xs.length).map fun i => .tup [xs.getD i .non, ys.getD i .non, zs.getD i .non] := rfl
theorem x_iZip3 {b1 b2 b3 : Bool} {xs ys zs : List D} {R : List D → Prop} (h1 : ys.length = xs.length) (h2 : zs.length = xs.length) (k : R ((List.range xs.length).map fun i => .tup [xs.getD i .non, ys.getD i .non, zs.getD i .non])) :
    ∃ bs : List (Bool × List D), [seqD b1 xs, seqD b2 ys, seqD b3 zs] = seqsD bs ∧ bs ≠ [] ∧ bs.length ≤ 5 ∧ (∀ r ∈ bs.map (·.2), r.length = ((bs.map (·.2)).headD []).length) ∧ R (colsD (bs.map (·.2))) :=
  ⟨[(b1, xs), (b2, ys), (b3, zs)], rfl, by simp, by simp, by simp [h1, h2], k⟩
theorem x_iZip4 {b1 b2 b3 b4 : Bool} {xs ys zs ws : List D} {R : List D → Prop} (h1 : ys.length = xs.length) (h2 : zs.length = xs.length) (h3 : ws.length = xs.length) (k : R ((List.range xs.length).map fun i => .tup [xs.getD i .non, ys.getD i .non, zs.getD i .non, ws.getD i .non])) :
    ∃ bs : List (Bool × List D), [seqD b1 xs, seqD b2 ys, seqD b3 zs, seqD b4 ws] = seqsD bs ∧ bs ≠ [] ∧ bs.length ≤ 5 ∧ (∀ r ∈ bs.map (·.2), r.length = ((bs.map (·.2)).headD []).length) ∧ R (colsD (bs.map (·.2))) :=
  ⟨[(b1, xs), (b2, ys), (b3, zs), (b4, ws)], rfl, by simp, by simp, by simp [h1, h2, h3], k⟩
/-- the like for data of one kind each: tuples and lists given as lists of Lean -/
theorem x_iZip3M {α β γ : Type} {b1 b2 b3 : Bool} {xs : List α} {ys : List β} {zs : List γ} {f : α → D} {g : β → D} {h : γ → D} {R : List D → Prop} (h1 : ys.length = xs.length) (h2 : zs.length = xs.length)
    (k : R ((xs.zip (ys.zip zs)).map fun p => .tup [f p.1, g p.2.1, h p.2.2])) :
    ∃ bs : List (Bool × List D), [seqD b1 (xs.map f), seqD b2 (ys.map g), seqD b3 (zs.map h)] = seqsD bs ∧ bs ≠ [] ∧ bs.length ≤ 5 ∧ (∀ r ∈ bs.map (·.2), r.length = ((bs.map (·.2)).headD []).length) ∧ R (colsD (bs.map (·.2))) := by
  refine x_iZip3 (by simp [h1]) (by simp [h2]) ?_
  have e : ((List.range (xs.map f).length).map fun i => D.tup [(xs.map f).getD i .non, (ys.map g).getD i .non, (zs.map h).getD i .non]) = (xs.zip (ys.zip zs)).map fun p => .tup [f p.1, g p.2.1, h p.2.2] := by
    refine List.ext_getElem (by simp [h1, h2]) fun i a c => ?_
    have hi : i < xs.length := by simpa using a
    simp [List.getD_eq_getElem?_getD, List.getElem?_eq_getElem, hi, h1, h2]
  rw [e]
  exact k
theorem x_iZip4M {α β γ ε : Type} {b1 b2 b3 b4 : Bool} {xs : List α} {ys : List β} {zs : List γ} {ws : List ε} {f : α → D} {g : β → D} {h : γ → D} {u : ε → D} {R : List D → Prop} (h1 : ys.length = xs.length) (h2 : zs.length = xs.length) (h3 : ws.length = xs.length)
    (k : R ((xs.zip (ys.zip (zs.zip ws))).map fun p => .tup [f p.1, g p.2.1, h p.2.2.1, u p.2.2.2])) :
    ∃ bs : List (Bool × List D), [seqD b1 (xs.map f), seqD b2 (ys.map g), seqD b3 (zs.map h), seqD b4 (ws.map u)] = seqsD bs ∧ bs ≠ [] ∧ bs.length ≤ 5 ∧ (∀ r ∈ bs.map (·.2), r.length = ((bs.map (·.2)).headD []).length) ∧ R (colsD (bs.map (·.2))) := by
  refine x_iZip4 (by simp [h1]) (by simp [h2]) (by simp [h3]) ?_
  have e : ((List.range (xs.map f).length).map fun i => D.tup [(xs.map f).getD i .non, (ys.map g).getD i .non, (zs.map h).getD i .non, (ws.map u).getD i .non]) = (xs.zip (ys.zip (zs.zip ws))).map fun p => .tup [f p.1, g p.2.1, h p.2.2.1, u p.2.2.2] := by
    refine List.ext_getElem (by simp [h1, h2, h3]) fun i a c => ?_
    have hi : i < xs.length := by simpa using a
    simp [List.getD_eq_getElem?_getD, List.getElem?_eq_getElem, hi, h1, h2, h3]
  rw [e]
  exact k
end DL
-- DGS
set_option maxRecDepth 100000
set_option maxHeartbeats 1000000
/-! len(set(e)), e a list of numbers -/
namespace DL
open PySem PySem.Spec PyProof.Rows L2
/-- how many different numbers there are -/
def dstL (ns : List Int) : List Int := firstMet (fun i => ns.getD i 0) ns.length
def dstN (ns : List Int) : Nat := (dstL ns).length
def rSetI (K : PySem.W.Frag) : List V → Hp → VK → Prop := fun xs H Q => ∃ (a : Addr) (ns : List Int), xs = [.ref a] ∧ SqL K H a (ns.map V.int) ∧ ns.length ≤ 1000 ∧ ∀ p, H p = none → Q (.ref p) (upd H p (.set (fun k => (dstL ns).any (· == k)) (dstN ns)))
def rLenSet : List V → Hp → VK → Prop := fun xs H Q => ∃ (p : Addr) (S : Int → Bool) (n : Nat), xs = [.ref p] ∧ H p = some (.set S n) ∧ Q (.int n) H
section
variable {X : Cx}
theorem cr_setI (hc : X.calm = true) : CallR X (.type "set") (rSetI X.K) := by
  intro pins s σ H xs us Q I r h
  obtain ⟨a, ns, rfl, hl, hn, q⟩ := h
  rw [Vals.ref1 r]
  obtain ⟨its, r', pl, hz⟩ := I.list hl
  have hi : IntsAre its.toArray.toList ns := intsAre_of r'
  have hlen : its.length = ns.length := by rw [← r'.length, List.length_map]
  have e : its.toArray.size = ns.length := by rw [List.size_toArray, hlen]
  refine call_set_list (prog := X.prog) (w := X.w) (I.ok.hd hc) pl.isList hi (by rw [e]; unfold scanBound; omega) fun h' tk hS k => ?_
  rw [e] at hS
  exact ⟨.ref s.heap.objs.size, upd H s.heap.objs.size (.set (fun k => (dstL ns).any (· == k)) (dstN ns)), I.laid (t' := tk) (fun b u e => k b u (Heap.lt_size e) e) (Nat.le_refl _) hS, rfl, q _ (I.hok.fresh (Nat.le_refl _))⟩
theorem call_len_setI : CallR X (.builtin "len") rLenSet := by
  intro pins s σ H xs us Q I r h
  obtain ⟨p, S, n, rfl, hp, q⟩ := h
  rw [Vals.ref1 r]
  obtain ⟨o, es, ep, t, h1, h2, h3, _, _, h6, h7, h8⟩ := id (show s.heap.SetOf (intKind X.prog X.w) p S n from I.hok p _ hp)
  have hb : es.size < 4096 := h6
  refine call_len_set h1 h2 h3 h7 (by omega) ⟨.int n, H, I.tok _, ⟨_, by rw [h8]⟩, q⟩
end
def dLenSet (te : TD) : TD := fun δ μ Q => te δ μ fun d μ1 => ∃ ns : List Int, d = .lst (ns.map D.int) ∧ ns.length ≤ 1000 ∧ Q (.int (dstN ns : Int)) μ1
theorem reps_intsA {K : PySem.W.Frag} {F : Hp} : ∀ {ns : List Int} {ws : List V}, Reps K F ws (ns.map D.int) → ws = ns.map V.int
  | [], _, .nil => rfl
  | n :: ns, _, .cons r t => by
    rw [reps_intsA t]
    cases r
    rfl
theorem de_lenSet {X : Cx} {e : Expr} {te : TD} {p1 p2 pos1 pos2 : Pos} (hc : X.calm = true) (hm : X.mg "len" = none) (hm2 : X.mg "set" = none) (he : DE X e te) (hg : Gl X "len" := by rfl) (hg2 : Gl X "set" := by rfl)
    (hv : bootBuiltins "len" = some (.builtin "len") := by first | exact boot_len | decide) (hv2 : bootBuiltins "set" = some (.type "set") := by decide)
    (he1 : ∀ e : Expr, starEach [.Call (.Name "set" p2) [e] [] pos2] X.env = (false, eval (.Call (.Name "set" p2) [e] [] pos2) X.env) :: starEach [] X.env := by intros; rfl) (he2 : starEach [e] X.env = (false, eval e X.env) :: starEach [] X.env := by rfl) :
    DE X (.Call (.Name "len" p1) [.Call (.Name "set" p2) [e] [] pos2] [] pos1) (dLenSet te) := by
  refine PE.weak (pe_callB call_len_setI hg hm hv (pa_cons (pe_callTy (cr_setI hc) hg2 hm2 hv2 (pa_cons he pa_nil (hs := he2)) (he := he2)) pa_nil) (he := he1 e)) fun σ H R ⟨δ, F, μ, QD, l, rs, q, k⟩ => ?_
  refine ⟨δ, F, μ, _, l, rs, q, fun v d F1 μ1 H1 e1 l1 r1 ⟨ns, ed, hn, q1⟩ => ?_⟩
  subst ed
  obtain ⟨a, ws, rfl, hF, rr⟩ := seq_rep (b := false) l1 r1
  have ew := reps_intsA rr
  subst ew
  show rSetI X.K [V.ref a] H1 fun x H2 => rLenSet [x] H2 R
  refine ⟨a, ns, rfl, sqF_B (b := false) l1.fz hF, hn, fun p hp => ⟨p, _, _, rfl, upd_same, k _ _ _ μ1 _ (e1.trans (Ex.new (l1.none_F hp))) (l1.new hp _) (.int _) q1⟩⟩
theorem nodup_le {α : Type} [BEq α] [LawfulBEq α] : ∀ {L R : List α}, L.Nodup → (∀ x ∈ L, x ∈ R) → L.length ≤ R.length
  | [], _, _, _ => Nat.zero_le _
  | x :: L, R, hn, hs => by
    have hx := hs x List.mem_cons_self
    have h1 := (List.nodup_cons.mp hn)
    have := nodup_le (L := L) (R := R.erase x) h1.2 fun y hy => (List.mem_erase_of_ne (fun e : y = x => h1.1 (e ▸ hy))).mpr (hs y (List.mem_cons_of_mem _ hy))
    rw [List.length_erase_of_mem hx] at this
    have hp := List.length_pos_of_mem hx
    rw [List.length_cons]
    omega
theorem step_nodup {σ : List Int} {v : Int} (h : σ.Nodup) : (step_dedup σ v).Nodup := by
  unfold step_dedup
  split
  · exact h
  · rename_i c
    rw [List.nodup_append]
    refine ⟨h, by simp, fun a ha b hb e => c ?_⟩
    rw [List.mem_singleton.mp hb] at e
    exact List.any_eq_true.mpr ⟨a, ha, by rw [e]; simp⟩
theorem met_nodup (f : Nat → Int) : ∀ i, (firstMet f i).Nodup
  | 0 => List.nodup_nil
  | i + 1 => by
    rw [firstMet_succ]
    exact step_nodup (met_nodup f i)
theorem mem_dst {ns : List Int} {k : Int} : k ∈ dstL ns ↔ k ∈ ns := by
  have h := firstMet_any (fun i => ns.getD i 0) ns.length k
  have e : (List.range ns.length).map (fun i => ns.getD i 0) = ns := by
    refine List.ext_getElem (by simp) fun i h1 h2 => ?_
    rw [List.getElem_map, List.getElem_range, getD_lt h2]
  rw [e] at h
  constructor
  · intro hk
    have h2 : (dstL ns).any (· == k) = true := List.any_eq_true.mpr ⟨k, hk, by simp⟩
    rw [show (dstL ns).any (· == k) = _ from h] at h2
    obtain ⟨x, hx, ex⟩ := List.any_eq_true.mp h2
    rw [← (show x = k by simpa using ex)]
    exact hx
  · intro hk
    have h2 : ns.any (· == k) = true := List.any_eq_true.mpr ⟨k, hk, by simp⟩
    rw [← h] at h2
    obtain ⟨x, hx, ex⟩ := List.any_eq_true.mp h2
    rw [← (show x = k by simpa using ex)]
    exact hx
/-- as many different numbers below n as n: every one of them -/
theorem dst_full {n : Nat} {ns : List Int} (h : ∀ i ∈ ns, 0 ≤ i ∧ i < (n : Int)) : dstN ns = n ↔ ∀ k : Nat, k < n → (k : Int) ∈ ns := by
  have nd : (dstL ns).Nodup := met_nodup _ _
  have nR : ((List.range n).map fun k : Nat => (k : Int)).Nodup := by
    rw [List.Nodup, List.pairwise_map]
    exact List.nodup_range.imp fun h => by omega
  have lR : ((List.range n).map fun k : Nat => (k : Int)).length = n := by simp
  constructor
  · intro e k hk
    by_cases c : (k : Int) ∈ ns
    · exact c
    · have := nodup_le (L := dstL ns) (R := ((List.range n).map fun k : Nat => (k : Int)).erase (k : Int)) nd fun x hx => by
        have hx := mem_dst.mp hx
        obtain ⟨h1, h2⟩ := h x hx
        refine (List.mem_erase_of_ne (fun e : x = (k : Int) => c (e ▸ hx))).mpr (List.mem_map.mpr ⟨x.toNat, List.mem_range.mpr (by omega), by omega⟩)
      rw [List.length_erase_of_mem (List.mem_map.mpr ⟨k, List.mem_range.mpr hk, rfl⟩), lR] at this
      have e : (dstL ns).length = n := e
      omega
  · intro hk
    have h1 := nodup_le (L := dstL ns) (R := (List.range n).map fun k : Nat => (k : Int)) nd fun x hx => by
      obtain ⟨h1, h2⟩ := h x (mem_dst.mp hx)
      exact List.mem_map.mpr ⟨x.toNat, List.mem_range.mpr (by omega), by omega⟩
    have h2 := nodup_le (L := (List.range n).map fun k : Nat => (k : Int)) (R := dstL ns) nR fun x hx => by
      obtain ⟨k, hk', rfl⟩ := List.mem_map.mp hx
      exact mem_dst.mpr (hk k (List.mem_range.mp hk'))
    rw [lR] at h1 h2
    show (dstL ns).length = n
    omega
theorem x_lenSet {te : TD} {δ : DSt} {μ : Mem} {Q : DK} (k : te δ μ fun d μ1 => ∃ ns : List Int, d = .lst (ns.map D.int) ∧ ns.length ≤ 1000 ∧ Q (.int (dstN ns : Int)) μ1) : dLenSet te δ μ Q := k
end DL
-- DGT
set_option maxRecDepth 100000
set_option maxHeartbeats 1000000
/-! for .. in enumerate(e, start=k0), e a list or a tuple -/
namespace ZN
open PySem PySem.Spec PyProof.Rows L2
/-- a class of the machine called with keywords -/
theorem cw_tyK {M : Model} {A : Around} {E : Value → Shared → Prop} {s : Shared} {env : Env} {pos : Pos} {T : String} {x : Sem Value} {rest : List (Bool × Sem Value)} {kw : List (Option Str × Sem Value)} {Q : Value → Shared → Prop}
    (h1 : ((false, x) :: rest).any (·.1) = false) (h2 : kw.all (·.1.isSome) = true) (h3 : kw.any (·.1.isNone) = false)
    (h : wpAny M A (spliced ((false, x) :: rest)) (fun vs s1 => wpAny M A (evalAll (kw.map (·.2))) (fun ks s2 => wpAny M A (call (.type T) vs ((kw.filterMap (·.1)).zip ks)) Q E s2) E s1) E s) :
    wpAny M A (callWith pos (.type T) [] ((false, x) :: rest) kw) Q E s := by
  have g : wpAny M A (evalArgs (.type T) true ((false, x) :: rest) kw) (fun a s1 => wpAny M A (call (.type T) a.pos a.kw) Q E s1) E s := evalArgs_kwB h2 h
  unfold callWith
  refine wpAny_bind (wpAny_holding (wpAny_mono g (fun a s1 g1 => ?_) fun _ _ z => z))
  refine wpAny_bind (wpAny_standAt ?_)
  rw [h1, h3]
  show wpAny _ _ (keeperOf (.type T) >>= _) _ _ _
  refine wpAny_bind (wpAny_pure ?_)
  show wpAny _ _ (call (.type T) a.pos a.kw >>= _) _ _ _
  refine wpAny_bind (wpAny_mono g1 (fun r s2 g2 => ?_) fun _ _ z => z)
  exact wpAny_bind (wpAny_holding (wpAny_point (wpAny_pure g2)))
def IteS (K : PySem.W.Frag) (b : Bool) (k0 : Int) (a : Addr) : It :=
  ⟨fun i H => ∃ (xs : List V) (x : V), SqB b K H a xs ∧ xs[i]? = some x, fun i H v H' => ∃ T x, v = .ref T ∧ H T = none ∧ H' = upd H T (.tup [.int ((i : Int) + k0), x]) ∧ ∀ xs, SqB b K H a xs → xs[i]? = some x, fun i H => ∃ xs : List V, SqB b K H a xs ∧ xs.length = i⟩
theorem turn_enumS {P : Program} {w : World} {K : PySem.W.Frag} {b : Bool} {k0 : Int} {elts : List Expr} {kk : Nat} {tpos : Pos} (a e it : Addr) (hei : e ≠ it) (hai : a ≠ it) (hea : e ≠ a) :
    Turn P w K (.Tuple elts kk tpos) (IteS K b k0 a) [e, it] e (fun i h => (∃ old, IsEnum h e it ((i : Int) + k0) old) ∧ SubIt b h it a i) where
  mem := by simp
  obj := fun i h st c hb => by
    obtain ⟨⟨old, he⟩, hi⟩ := st
    have e' : c = e ∨ c = it := by simpa using hb
    rcases e' with z | z
    · rw [z]; exact ⟨_, he, fun v q => nomatch q⟩
    · rw [z]; exact subIt_obj hi
  keep := fun i h h' st k => let ⟨⟨old, he⟩, hi⟩ := st; ⟨⟨old, k e (by simp) _ he⟩, hi.at fun o q => k it (by simp) o q⟩
  item := by
    intro X hP hw hK hc i pins s σ H E I hf st hg
    subst hP hw hK
    obtain ⟨⟨old, he⟩, hit⟩ := st
    obtain ⟨xs, x, hq, hx⟩ := hg
    obtain ⟨its, rv, p⟩ := sqB_its I hq
    obtain ⟨u, hu, ru⟩ := rv.get hx
    have hel : e < s.heap.objs.size := Heap.lt_size he
    have hil : it < s.heap.objs.size := by obtain ⟨_, q, _⟩ := subIt_obj hit; exact Heap.lt_size q
    have hhd : X.A.in1.handled = none := I.ok.hd hc
    have L1 : i < its.toArray.size := by
      rcases Nat.lt_or_ge i its.toArray.size with q | q
      · exact q
      · have : its.length ≤ i := by simpa using q
        rw [List.getElem?_eq_none this] at hu
        cases hu
    refine wpAny_pyNext_enum_itemC (drawsB b hhd it a hai its.toArray) he ⟨hit, p⟩ L1 hei (by simp; exact ⟨hei, hea⟩) fun y h' tk e1 ho hit' hT hsz hk => ?_
    have e1 : u = y := by
      have e1 : its.toArray[i]? = some y := e1
      have : its[i]? = some y := by simpa using e1
      rw [hu] at this
      exact Option.some.inj this
    subst e1
    refine ⟨_, rfl, wpAny_letOwnedTupleGo_enum (s := { s with heap := h', toks := tk + 1 }) ho fun h'' he' sb => ?_⟩
    have hT2 : h''.get? s.heap.objs.size = some { cls := .type "tuple", data := .seq #[.int ((i : Int) + k0) tk, u] } := (sb.2 _ (Nat.ne_of_gt hel)).trans hT
    have new : ObjOk X.prog X.w (upd H s.heap.objs.size (.tup [.int ((i : Int) + k0), x])) h'' s.heap.objs.size (.tup [.int ((i : Int) + k0), x]) :=
      ⟨by show 2 ≤ sizeLine; decide, [.int ((i : Int) + k0) tk, u], .cons ⟨_, rfl⟩ (.cons ru .nil), ⟨_, hT2, rfl, _, rfl⟩⟩
    have I1 : Inv X pins σ (upd H s.heap.objs.size (.tup [.int ((i : Int) + k0), x])) { s with heap := h'', toks := tk + 1 } :=
      I.turnedNew (ch := [e, it]) (fun b ob hb q => (sb.2 b (fun z => hb (by simp [z]))).trans (hk b ob (fun z => hb (by simp [z])) (fun z => hb (by simp [z])) q)) hf (Nat.le_refl _) new
    refine ⟨.ref s.heap.objs.size, _, I1, rfl, ⟨_, x, rfl, I.hok.fresh (Nat.le_refl _), rfl, fun ys hy => by rw [sqB_inj I hy hq]; exact hx⟩, ⟨⟨u, ?_⟩, hit'.1.at fun o q => (sb.2 it (Ne.symm hei)).trans q⟩, fun c hb => ?_⟩
    · have e1 : ((i + 1 : Nat) : Int) + k0 = (i : Int) + k0 + 1 := by omega
      rw [e1]; exact he'
    · have hb' : c < s.heap.objs.size := by
        have e' : c = e ∨ c = it := by simpa using hb
        rcases e' with z | z
        · rw [z]; exact hel
        · rw [z]; exact hil
      rw [upd_ne (Nat.ne_of_lt hb')]
      exact (hf c hb).1
  done := by
    intro X hP hw hK hc i pins s σ H E I hf st hg
    subst hP hw hK
    obtain ⟨⟨old, he⟩, hit⟩ := st
    obtain ⟨xs, hq, hx⟩ := hg
    obtain ⟨its, rv, p⟩ := sqB_its I hq
    obtain ⟨f0, f1, f2, f3, f4, f5⟩ := hf it (by simp)
    have hl := rv.length
    have hhd : X.A.in1.handled = none := I.ok.hd hc
    have z1 : its.toArray.size = i := by simp; omega
    refine wpAny_pyNext_enum_endD (drawsB b hhd it a hai its.toArray) he ⟨by rw [z1]; exact hit, p⟩ fun h' eb => ⟨rfl, I.turned (t' := s.toks) (fun b o hb q => eb b o hb q) f0 f1 f3 f4 f5⟩
  self := fun A i s Q E st h => let ⟨⟨_, he⟩, _⟩ := st; wpAny_pyIter_enum he h
def iEnumS (K : PySem.W.Frag) (k0 : Int) (ta : TA) : TI := fun σ H R => ta σ H fun vs H1 => ∃ a xs b, vs = [.ref a] ∧ SqB b K H1 a xs ∧ R (IteS K b k0 a) H1
theorem pi_enumS {X : Cx} {e : Expr} {ta : TA} {k0 : Int} {kws : List Keyword} {p pos tpos : Pos} {elts : List Expr} {kk : Nat} (hk0 : -(2 ^ 63) ≤ k0) (hk1 : k0 < 2 ^ 63) (hg : Gl X "enumerate") (hm : X.mg "enumerate" = none) (ha : PA X [e] ta) (hk : PK X kws (tCons (tC (.int k0)) tNil))
    (hs : starEach [e] X.env = [(false, eval e X.env)] := by rfl) (h2 : (backToKw pos (keywordEach kws X.env)).all (·.1.isSome) = true := by rfl) (h3 : (backToKw pos (keywordEach kws X.env)).any (·.1.isNone) = false := by rfl)
    (hks : (backToKw pos (keywordEach kws X.env)).filterMap (·.1) = [Str.ofString "start"] := by rfl) :
    PI X (.Tuple elts kk tpos) (.Call (.Name "enumerate" p) [e] kws pos) (iEnumS X.K k0 ta) := by
  refine ⟨fun pins s σ H R I h => ?_⟩
  refine wpAny_Call_Name_kw (ld_blt I hg hm boot_enumerate ?_)
  have hb : backTo pos (starEach [e] X.env) = [(false, eval e X.env)] := by rw [hs]; rfl
  have run := ha.run pos pins s σ H _ I h
  rw [hb] at run ⊢
  refine cw_tyK (env := X.env) rfl h2 h3 (thn run fun us s0 ⟨vs, H0, I0, r0, q0⟩ => ?_)
  obtain ⟨a, xs, b, ex, hq, q⟩ := q0
  subst ex
  refine thn (hk.run pos pins s0 σ H0 (fun zs H' => zs = [.int k0] ∧ H' = H0) I0 ⟨rfl, rfl⟩) fun ws s1 ⟨zs, H1, I1, r1, ez, eH⟩ => ?_
  subst ez eH
  rw [hks]
  obtain ⟨wv, rfl, tk0, rfl⟩ := vals1 r1
  rw [Vals.ref1 r0]
  obtain ⟨its, rv, p'⟩ := sqB_its I1 hq
  obtain ⟨o1, B1, f1⟩ := beginsB b a its.toArray
  refine enum_begins_start B1 p' hk0 hk1 fun h' he ho hsz hkp => ?_
  have la : a < s1.heap.objs.size := by
    cases b with
    | true => obtain ⟨o, e, _⟩ := id (show s1.heap.IsTuple a its.toArray from p'); exact Heap.lt_size e
    | false => obtain ⟨o, e, _⟩ := id (show s1.heap.IsList a its.toArray from p'); exact Heap.lt_size e
  refine wpAny_pyIter_enum he ?_
  have I2 : Inv X pins σ H1 { s1 with heap := h' } := I1.kept (t' := s1.toks) hkp
  refine ⟨s1.heap.objs.size + 1, [s1.heap.objs.size + 1, s1.heap.objs.size], _, _, H1, rfl, I2, turn_enumS a (s1.heap.objs.size + 1) s1.heap.objs.size (Nat.succ_ne_self _) (Nat.ne_of_lt la) (Nat.ne_of_gt (Nat.lt_succ_of_lt la)), ⟨⟨.none, by
    rw [show ((0 : Nat) : Int) + k0 = k0 by omega]; exact he⟩, f1 _ _ ho⟩, fun b hb => ?_, q⟩
  have e' : b = s1.heap.objs.size + 1 ∨ b = s1.heap.objs.size := by simpa using hb
  have hle : s1.heap.objs.size ≤ b := by
    rcases e' with z | z
    · rw [z]; exact Nat.le_add_right _ _
    · rw [z]; exact Nat.le_refl _
  exact I1.fpOk hle (I1.hok.fresh hle)
end ZN
namespace DL
open PySem PySem.Spec PyProof.Rows L2 ZN
/-- numbered from k0 on -/
def enumS (k0 : Int) (xs : List D) : List D := (List.range xs.length).map fun i : Nat => .tup [.int ((i : Int) + k0), xs.getD i .non]
def iEnumSD (k0 : Int) (ta : TDA) : TDI := fun δ μ Q => ta δ μ fun ds μ1 => ∃ b xs, ds = [seqD b xs] ∧ Q (enumS k0 xs) μ1
theorem di_enumS {X : Cx} {e : Expr} {ta : TDA} {k0 : Int} {kws : List Keyword} {p pos tpos : Pos} {elts : List Expr} {kk : Nat} (hm : X.mg "enumerate" = none) (ha : DA X [e] ta) (hk : PK X kws (tCons (tC (.int k0)) tNil)) (hk0 : -(2 ^ 63) ≤ k0 := by decide) (hk1 : k0 < 2 ^ 63 := by decide) (hg : Gl X "enumerate" := by rfl)
    (hs : starEach [e] X.env = [(false, eval e X.env)] := by rfl) (h2 : (backToKw pos (keywordEach kws X.env)).all (·.1.isSome) = true := by rfl) (h3 : (backToKw pos (keywordEach kws X.env)).any (·.1.isNone) = false := by rfl)
    (hks : (backToKw pos (keywordEach kws X.env)).filterMap (·.1) = [Str.ofString "start"] := by rfl) :
    DI X (.Tuple elts kk tpos) (.Call (.Name "enumerate" p) [e] kws pos) (iEnumSD k0 ta) := by
  refine PI.weak (pi_enumS hk0 hk1 hg hm ha hk hs h2 h3 hks) fun σ H R ⟨δ, F, μ, QD, l, rs, q, k⟩ => ⟨δ, F, μ, _, l, rs, q, fun vs ds F1 μ1 H1 e1 l1 r1 ⟨b, xs, ed, q1⟩ => ?_⟩
  subst ed
  obtain ⟨v, rfl, rv⟩ := reps1 r1
  obtain ⟨a, ws, rfl, hF, rr⟩ := seq_rep l1 rv
  refine ⟨a, ws, b, rfl, sqF_B l1.fz hF, k _ _ F1 μ1 H1 e1 l1 (fun i F2 μ2 H2 e2 l2 hi => ⟨fun d hd => ?_, fun hl => ?_⟩) q1⟩
  · have hi2 : i < xs.length := by
      by_cases z : i < xs.length
      · exact z
      · rw [List.getElem?_eq_none (by unfold enumS; rw [List.length_map, List.length_range]; omega)] at hd
        cases hd
    have hd2 : d = .tup [.int ((i : Int) + k0), xs.getD i .non] := by
      unfold enumS at hd
      rw [List.getElem?_map, List.getElem?_range hi2] at hd
      cases hd
      rfl
    subst hd2
    obtain ⟨vx, hx, rx⟩ := rr.get (show xs[i]? = some (xs.getD i .non) by rw [List.getElem?_eq_getElem hi2, getD_lt hi2])
    have sa : SqB b X.K H2 a ws := sqF_B (e2.trans l2.fz) hF
    refine ⟨⟨ws, vx, sa, hx⟩, fun z H3 ⟨T, x', ez, hT, eH, f1⟩ => ?_⟩
    subst ez eH
    have e3 := (f1 _ sa).symm.trans hx
    cases e3
    exact new_pair l2 hT (.int _) (rx.mono e2)
  · have hl2 : xs.length = i := by
      unfold enumS at hl
      rw [List.length_map, List.length_range] at hl
      omega
    exact ⟨ws, sqF_B (e2.trans l2.fz) hF, by rw [rr.length]; omega⟩
theorem x_iEnumS {k0 : Int} {ta : TDA} {δ : DSt} {μ : Mem} {Q : List D → Mem → Prop} (k : ta δ μ fun ds μ1 => ∃ b xs, ds = [seqD b xs] ∧ Q (enumS k0 xs) μ1) : iEnumSD k0 ta δ μ Q := k
end DL
-- R7A
set_option maxRecDepth 100000
namespace R7
open PySem PySem.Spec PyProof.Rows L2 DL
local macro_rules | `(tactic| walk_at "look") => `(tactic| first | rfl | assumption | exact mset_same | (rw [mset_ne (by assumption)]; first | rfl | assumption | exact mset_same) | (show mset _ _ _ _ = _; first | exact mset_same | (rw [mset_ne (by assumption)]; assumption)))
local macro_rules | `(tactic| walk_at "small") => `(tactic| first | exact mulc (by decide) | exact mulcl (by decide) | exact mulc ⟨by omega, by omega⟩ | exact mulcl ⟨by omega, by omega⟩)
local macro_rules | `(tactic| walk_at "x1") => `(tactic| first
  | (with_reducible first
    | refine x_seq ?_ | refine x_ifS ?_ | refine x_test ?_ | refine x_op ?_ | refine x_c ?_ | refine x_bl ?_
    | refine x_cb ?_ | refine x_call ?_ | refine x_cons ?_ | refine x_nil ?_ | refine x_int ?_ | refine x_abs ?_ | refine x_add ?_ | refine x_sub ?_
    | refine x_lt ?_ | refine x_le ?_ | refine x_gt ?_ | refine x_ge ?_ | refine x_lenT ?_ | refine x_lenL ?_ | refine x_lenS ?_ | refine x_tupOfL ?_ | refine x_tupOfT ?_
    | refine x_tup ?_ | refine x_lst ?_ | refine x_asg ?_ | refine x_set ?_ | refine x_ret ?_ | refine x_next ?_ | refine x_drop ?_
    | refine x_gCons ?_ | refine x_gNil ?_ | refine x_gName ?_ | refine x_gSub ?_
    | refine x_and ?_ | refine x_or ?_ | refine x_not ?_ | refine x_andV ?_ | refine x_orV ?_ | refine x_notV ?_ | refine x_if ?_ | refine x_chain ?_
    | refine x_sl ?_ | refine x_slT ?_ | refine x_slL ?_ | refine x_slS ?_ | refine x_sumI ?_ | refine x_lstM ?_ | refine x_yes ?_ | refine x_tgN ?_
    | refine x_mk ?_ | refine x_mk1 ?_ | refine x_mk0 ?_ | refine x_neg ?_ | refine x_neg1 ?_ | refine x_dic0 ?_ | refine x_dic1 ?_
    | refine x_for ?_ | refine x_iLst ?_ | refine x_iLst1 ?_ | refine x_iTup ?_ | refine x_iTup1 ?_ | refine x_iAny ?_ | refine x_iAnyT ?_ | refine x_iAnyL ?_ | refine x_iAnyS ?_ | refine x_iZipX ?_ | refine x_iZipV ?_ | refine x_iEnumS ?_ | refine x_lenSet ?_ | refine x_iRng ?_ | refine x_iRngAB ?_ | refine x_lc ?_ | refine x_lcM ?_ | refine x_par ?_ | refine x_par3 ?_ | refine x_isN ?_ | refine x_forget ?_ | refine x_notN ?_ | refine x_iEnum ?_ | refine x_iEnumX ?_ | refine x_par1 ?_ | refine x_app ?_
    | refine x_eqI ?_ | refine x_neI ?_ | refine x_eqS ?_ | refine x_neS ?_ | refine x_attr ?_ | refine x_augL ?_ | refine x_int1 ?_ | refine x_iZipM ?_ | refine x_allM ?_ | refine x_rev ?_ | refine x_rev1 ?_ | refine x_forM ?_ | refine x_isTyY ?_ | refine x_notTyN ?_ | refine x_gcd ?_ | refine x_ext ?_ | refine x_listRg0 ?_ | refine x_iZip ?_ | refine x_iZip1 ?_ | refine x_iZip2 ?_ | refine x_eqE ?_ | refine x_neE ?_ | refine x_allG ?_ | refine x_allG2 ?_ | refine x_isB ?_ | refine x_notB ?_ | refine x_part ?_ | refine x_neg1 ?_ | refine x_noPart ?_ | refine x_fr0 ?_ | refine x_fr1 ?_ | refine x_raise ?_ | refine x_raise0 ?_ | refine x_callX ?_ | refine x_callW ?_ | refine x_callWX ?_ | refine x_try ?_ | refine x_xattr ?_ | refine iteT ?_ | refine iteF ?_ | refine iteNT ?_ | refine iteNF ?_)
  | ((with_reducible refine x_type (n := ?nn) ?hA ?_); (case hA => rfl))
  | ((with_reducible refine x_isi (n := ?nn) (b := true) ?hA ?hB ?_); (case hA => rfl); (case hB => rfl))
  | ((with_reducible refine x_isi (n := ?nn) (b := false) ?hA ?hB ?_); (case hA => rfl); (case hB => rfl))
  | ((with_reducible refine x_isTyN ?hA ?_); (case hA => decide))
  | ((with_reducible refine x_notTyY ?hA ?_); (case hA => decide))
  | ((with_reducible refine x_var (d := ?dd) ?hA ?_); (case hA => rfl))
  | ((with_reducible refine x_augI (a := ?aa) ?hA ?_); (case hA => rfl))
  | ((with_reducible refine x_ixR (ds := ?dd) (e := ?ee) ?hA ?hB ?_); (case hA => walk_at "look"); (case hB => rfl))
  | ((with_reducible refine x_ixT (e := ?ee) ?hB ?_); (case hB => rfl))
  | ((with_reducible refine x_ixL (e := ?ee) ?hB ?_); (case hB => rfl))
  | ((with_reducible refine x_lenR (ds := ?dd) ?hA ?_); (case hA => walk_at "look"))
  | ((with_reducible refine x_slR (ds := ?dd) ?hA ?_); (case hA => walk_at "look"))
  | ((with_reducible refine x_mul ?hA ?_); (case hA => walk_at "small"))
  | ((with_reducible refine x_mod ?hA ?_); (case hA => first | decide | omega))
  | ((with_reducible refine x_fdiv ?hA ?_); (case hA => exact div_small (by decide) (by decide)))
  | ((with_reducible refine x_pow ?hA ?_); (case hA => exact ⟨by decide, by decide, by decide⟩))
  | ((with_reducible refine x_divmod ?hA ?_); (case hA => exact ⟨by omega, by omega⟩))
  | ((with_reducible refine x_gSub1 (ds := ?dd) (m := ?mm) ?hA ?hB ?_); (case hA => walk_at "look"); (case hB => rfl))
  | ((with_reducible refine x_gTup ?hA ?_); (case hA => rfl))
  | ((with_reducible refine x_iRng1 ?hA ?hB ?_); (case hA => first | decide | omega); (case hB => first | decide | omega))
  | ((with_reducible refine x_addT ?hA ?_); (case hA => first | decide | (simp only [List.length_cons, List.length_nil, List.length_append]; omega)))
  | ((with_reducible refine x_addL ?hA ?_); (case hA => first | decide | (simp only [List.length_cons, List.length_nil, List.length_append]; omega)))
  | (refine And.intro ?hA ?_; (case hA => first | decide | (simp only [List.length_cons, List.length_nil, List.length_append]; omega))))
local macro_rules | `(tactic| walk_at "x") => `(tactic| repeat (walk_at "x1"))
local macro_rules | `(tactic| walk_at "tidy") => `(tactic| simp only [mset_mset])

def top (i : Nat) : Stmt := PySem.Challenge.pw_sweepends_k48_whole_tidy_steps.main.body.getD i (.Pass ⟨0, 0, 0, 0⟩)
theorem x_lcm {μ : Mem} {Q : DK} {i j : Int} (h1 : i.natAbs < 2 ^ 6000) (h2 : j.natAbs < 2 ^ 6000) (k : Q (.int ((Nat.lcm i.natAbs j.natAbs : Nat) : Int)) μ) : dLcm [.int i, .int j] μ Q := ⟨i, j, rfl, h1, h2, k⟩
def spReduced : SpD := fun ds μ Q => ∃ a b : Int, ds = [.int a, .int b] ∧ b ≠ 0 ∧ b.natAbs < bigN ∧ Q (frD (Rat.divInt a b)) μ
set_option exponentiation.threshold 10000
def wholeF (d : Nat) : D → Option D
  | .tup [.int n, .int p] => some (.int (n * (d : Int).fdiv p))
  | _ => none
theorem wholeF_at (d : Nat) (r : Rat) : wholeF d (frD r) = some (.int (wholeN d r)) := by
  show some (D.int (r.num * (d : Int).fdiv (r.den : Int))) = _
  rw [Int.fdiv_eq_ediv_of_nonneg _ (by omega), ← Int.natCast_ediv]
  rfl
theorem wholeF_all (d : Nat) : ∀ qs : List Rat, (qs.map frD).filterMap (wholeF d) = (qs.map (wholeN d)).map D.int
  | [] => rfl
  | q :: qs => by
    rw [List.map_cons, List.filterMap_cons, wholeF_at, wholeF_all d qs]
    rfl
def spWholeR : SpD := fun ds μ Q => ∃ (qs : List Rat) (k : Nat), ds = [rowD qs] ∧ (∀ q ∈ qs, BQ k q) ∧ qs.length ≤ 100 ∧ k * (qs.length + 2) ≤ 2900 ∧ Q (.tup [.lst ((qs.map (wholeN (lcmL 1 qs))).map D.int), .int ((lcmL 1 qs : Nat) : Int)]) μ
def spWholeRA : SpD := fun ds μ Q => ∃ (b : Bool) (qs : List Rat) (k m : Nat), ds = [seqD b (qs.map frD)] ∧ (∀ q ∈ qs, BQ k q) ∧ lcmL 1 qs ≤ 2 ^ m ∧ qs.length ≤ 100 ∧ k ≤ 2900 ∧ m ≤ 2900 ∧ Q (.tup [.lst ((qs.map (wholeN (lcmL 1 qs))).map D.int), .int ((lcmL 1 qs : Nat) : Int)]) μ
theorem wholeR_A {ds : List D} {μ : Mem} {Q : DK} (h : spWholeR ds μ Q) : spWholeRA ds μ Q := by
  obtain ⟨qs, k, h1, h2, h3, h4, q⟩ := h
  have hk : k * qs.length + 2 * k ≤ 2900 := by rw [Nat.mul_add] at h4; omega
  exact ⟨true, qs, k, k * qs.length, h1, h2, Nat.le_trans (lcmL_lt qs 1 0 (by decide) (by decide) h2) (Nat.pow_le_pow_right (by decide) (by omega)), h3, by omega, by omega, q⟩
theorem pow_6000 {n m : Nat} (h : n ≤ 2 ^ m) (hm : m < 6000) : n < 2 ^ 6000 := Nat.lt_of_le_of_lt h (Nat.pow_lt_pow_right (by decide) hm)
theorem pow_big {n m : Nat} (h : n ≤ 2 ^ m) (hm : m < 3000) : n < bigN := Nat.lt_of_le_of_lt h (Nat.pow_lt_pow_right (by decide) hm)
def dotF : D → Option D
  | .tup [.int a, .int b] => some (.int (a * b))
  | _ => none
theorem zip_ints : ∀ xs ys : List Int, (zipD (xs.map D.int) (ys.map D.int)).filterMap dotF = (List.zipWith (· * ·) xs ys).map D.int
  | [], _ => rfl
  | _ :: _, [] => rfl
  | x :: xs, y :: ys => by
    show (D.tup [.int x, .int y] :: zipD (xs.map D.int) (ys.map D.int)).filterMap dotF = _
    rw [List.filterMap_cons, zip_ints xs ys]
    rfl
theorem zip_mem : ∀ {xs ys : List Int} {d : D}, d ∈ zipD (xs.map D.int) (ys.map D.int) → ∃ x y, d = .tup [.int x, .int y] ∧ x ∈ xs ∧ y ∈ ys
  | [], _, _, h => absurd h (by simp [zipD])
  | _ :: _, [], _, h => absurd h (by simp [zipD])
  | x :: xs, y :: ys, d, h => by
    have h : d ∈ D.tup [.int x, .int y] :: zipD (xs.map D.int) (ys.map D.int) := h
    rcases List.mem_cons.mp h with e | e
    · exact ⟨x, y, e, List.mem_cons_self, List.mem_cons_self⟩
    · obtain ⟨a, b, h1, h2, h3⟩ := zip_mem e
      exact ⟨a, b, h1, List.mem_cons_of_mem _ h2, List.mem_cons_of_mem _ h3⟩
def spWholeDot : SpD := fun ds μ Q => ∃ (xs ys : List Int) (a b : Nat), ds = [.lst (xs.map .int), .lst (ys.map .int)] ∧ (∀ x ∈ xs, x.natAbs < 2 ^ a) ∧ (∀ y ∈ ys, y.natAbs < 2 ^ b) ∧ a + b ≤ 100000000 ∧ xs.length ≤ 1000 ∧ Q (.int (sumP xs ys)) μ
def spDot : SpD := fun ds μ Q => ∃ (qs rs : List Rat) (k1 k2 n : Nat), ds = [rowD qs, rowD rs] ∧ qs.length = n ∧ rs.length = n ∧ n ≤ 5 ∧ (∀ q ∈ qs, BQ k1 q) ∧ (∀ r ∈ rs, BQ k2 r) ∧ k1 + k2 ≤ 400 ∧ Q (frD (dotQ qs rs)) μ
def spTurned : SpD := fun ds μ Q => ∃ (rows : List (List D)), ds = [.tup (rows.map D.tup)] ∧ rows ≠ [] ∧ rows.length ≤ 5 ∧ (∀ r ∈ rows, r.length = (rows.headD []).length) ∧ (rows.headD []).length ≤ 1000 ∧ Q (.tup (colsD rows)) μ
theorem filterMap_some {α : Type} : ∀ xs : List α, xs.filterMap some = xs
  | [] => rfl
  | x :: xs => by rw [List.filterMap_cons, filterMap_some xs]
def spMult : SpD := fun ds μ Q => ∃ (a b : List (List Rat)) (k1 k2 n : Nat), ds = [tabD a, tabD b] ∧ Sq n a ∧ Sq n b ∧ n ≠ 0 ∧ n ≤ 5 ∧ Bits k1 a ∧ Bits k2 b ∧ k1 + k2 ≤ 400 ∧ Q (tabD (mulQ a b)) μ
end R7
-- R7B
set_option maxRecDepth 100000
namespace R7
open PySem PySem.Spec PyProof.Rows L2 DL
local macro_rules | `(tactic| walk_at "look") => `(tactic| first | rfl | assumption | exact mset_same | (rw [mset_ne (by assumption)]; first | rfl | assumption | exact mset_same) | (show mset _ _ _ _ = _; first | exact mset_same | (rw [mset_ne (by assumption)]; assumption)))
local macro_rules | `(tactic| walk_at "small") => `(tactic| first | exact mulc (by decide) | exact mulcl (by decide) | exact mulc ⟨by omega, by omega⟩ | exact mulcl ⟨by omega, by omega⟩)
local macro_rules | `(tactic| walk_at "x1") => `(tactic| first
  | (with_reducible first
    | refine x_seq ?_ | refine x_ifS ?_ | refine x_test ?_ | refine x_op ?_ | refine x_c ?_ | refine x_bl ?_
    | refine x_cb ?_ | refine x_call ?_ | refine x_cons ?_ | refine x_nil ?_ | refine x_int ?_ | refine x_abs ?_ | refine x_add ?_ | refine x_sub ?_
    | refine x_lt ?_ | refine x_le ?_ | refine x_gt ?_ | refine x_ge ?_ | refine x_lenT ?_ | refine x_lenL ?_ | refine x_lenS ?_ | refine x_tupOfL ?_ | refine x_tupOfT ?_
    | refine x_tup ?_ | refine x_lst ?_ | refine x_asg ?_ | refine x_set ?_ | refine x_ret ?_ | refine x_next ?_ | refine x_drop ?_
    | refine x_gCons ?_ | refine x_gNil ?_ | refine x_gName ?_ | refine x_gSub ?_
    | refine x_and ?_ | refine x_or ?_ | refine x_not ?_ | refine x_andV ?_ | refine x_orV ?_ | refine x_notV ?_ | refine x_if ?_ | refine x_chain ?_
    | refine x_sl ?_ | refine x_slT ?_ | refine x_slL ?_ | refine x_slS ?_ | refine x_sumI ?_ | refine x_lstM ?_ | refine x_yes ?_ | refine x_tgN ?_
    | refine x_mk ?_ | refine x_mk1 ?_ | refine x_mk0 ?_ | refine x_neg ?_ | refine x_neg1 ?_ | refine x_dic0 ?_ | refine x_dic1 ?_
    | refine x_for ?_ | refine x_iLst ?_ | refine x_iLst1 ?_ | refine x_iTup ?_ | refine x_iTup1 ?_ | refine x_iAny ?_ | refine x_iAnyT ?_ | refine x_iAnyL ?_ | refine x_iAnyS ?_ | refine x_iZipX ?_ | refine x_iZipV ?_ | refine x_iEnumS ?_ | refine x_lenSet ?_ | refine x_iRng ?_ | refine x_iRngAB ?_ | refine x_lc ?_ | refine x_lcM ?_ | refine x_par ?_ | refine x_par3 ?_ | refine x_isN ?_ | refine x_forget ?_ | refine x_notN ?_ | refine x_iEnum ?_ | refine x_iEnumX ?_ | refine x_par1 ?_ | refine x_app ?_
    | refine x_eqI ?_ | refine x_neI ?_ | refine x_eqS ?_ | refine x_neS ?_ | refine x_attr ?_ | refine x_augL ?_ | refine x_int1 ?_ | refine x_iZipM ?_ | refine x_allM ?_ | refine x_rev ?_ | refine x_rev1 ?_ | refine x_forM ?_ | refine x_isTyY ?_ | refine x_notTyN ?_ | refine x_gcd ?_ | refine x_ext ?_ | refine x_listRg0 ?_ | refine x_iZip ?_ | refine x_iZip1 ?_ | refine x_iZip2 ?_ | refine x_eqE ?_ | refine x_neE ?_ | refine x_allG ?_ | refine x_allG2 ?_ | refine x_isB ?_ | refine x_notB ?_ | refine x_part ?_ | refine x_neg1 ?_ | refine x_noPart ?_ | refine x_fr0 ?_ | refine x_fr1 ?_ | refine x_raise ?_ | refine x_raise0 ?_ | refine x_callX ?_ | refine x_callW ?_ | refine x_callWX ?_ | refine x_try ?_ | refine x_xattr ?_ | refine iteT ?_ | refine iteF ?_ | refine iteNT ?_ | refine iteNF ?_)
  | ((with_reducible refine x_type (n := ?nn) ?hA ?_); (case hA => rfl))
  | ((with_reducible refine x_isi (n := ?nn) (b := true) ?hA ?hB ?_); (case hA => rfl); (case hB => rfl))
  | ((with_reducible refine x_isi (n := ?nn) (b := false) ?hA ?hB ?_); (case hA => rfl); (case hB => rfl))
  | ((with_reducible refine x_isTyN ?hA ?_); (case hA => decide))
  | ((with_reducible refine x_notTyY ?hA ?_); (case hA => decide))
  | ((with_reducible refine x_var (d := ?dd) ?hA ?_); (case hA => rfl))
  | ((with_reducible refine x_augI (a := ?aa) ?hA ?_); (case hA => rfl))
  | ((with_reducible refine x_ixR (ds := ?dd) (e := ?ee) ?hA ?hB ?_); (case hA => walk_at "look"); (case hB => rfl))
  | ((with_reducible refine x_ixT (e := ?ee) ?hB ?_); (case hB => rfl))
  | ((with_reducible refine x_ixL (e := ?ee) ?hB ?_); (case hB => rfl))
  | ((with_reducible refine x_lenR (ds := ?dd) ?hA ?_); (case hA => walk_at "look"))
  | ((with_reducible refine x_slR (ds := ?dd) ?hA ?_); (case hA => walk_at "look"))
  | ((with_reducible refine x_mul ?hA ?_); (case hA => walk_at "small"))
  | ((with_reducible refine x_mod ?hA ?_); (case hA => first | decide | omega))
  | ((with_reducible refine x_fdiv ?hA ?_); (case hA => exact div_small (by decide) (by decide)))
  | ((with_reducible refine x_pow ?hA ?_); (case hA => exact ⟨by decide, by decide, by decide⟩))
  | ((with_reducible refine x_divmod ?hA ?_); (case hA => exact ⟨by omega, by omega⟩))
  | ((with_reducible refine x_gSub1 (ds := ?dd) (m := ?mm) ?hA ?hB ?_); (case hA => walk_at "look"); (case hB => rfl))
  | ((with_reducible refine x_gTup ?hA ?_); (case hA => rfl))
  | ((with_reducible refine x_iRng1 ?hA ?hB ?_); (case hA => first | decide | omega); (case hB => first | decide | omega))
  | ((with_reducible refine x_addT ?hA ?_); (case hA => first | decide | (simp only [List.length_cons, List.length_nil, List.length_append]; omega)))
  | ((with_reducible refine x_addL ?hA ?_); (case hA => first | decide | (simp only [List.length_cons, List.length_nil, List.length_append]; omega)))
  | (refine And.intro ?hA ?_; (case hA => first | decide | (simp only [List.length_cons, List.length_nil, List.length_append]; omega))))
local macro_rules | `(tactic| walk_at "x") => `(tactic| repeat (walk_at "x1"))
local macro_rules | `(tactic| walk_at "tidy") => `(tactic| simp only [mset_mset])

def isFracM : D → Bool
  | .tup [.int a, .int b] => decide (0 < b) && decide (Nat.gcd a.natAbs b.natAbs = 1)
  | _ => false
theorem isFracM_len {xs : List D} (h : xs.length ≠ 2) : isFracM (.tup xs) = false := by
  unfold isFracM
  split
  · rename_i e
    cases e
    exact absurd rfl h
  · rfl
theorem ty_of {d : D} (h : okD d = true) : ∃ n, tyName d = some n := by
  cases d <;> first | exact ⟨_, rfl⟩ | cases h
theorem tyInt {d : D} (h : tyName d = some "int") : ∃ i, d = .int i := by
  cases d <;> first | exact ⟨_, rfl⟩ | (simp [tyName] at h)
theorem isFracM_int {a b : D} (h : ¬ (tyName a = some "int" ∧ tyName b = some "int")) : isFracM (.tup [a, b]) = false := by
  unfold isFracM
  split
  · rename_i e
    cases e
    exact absurd ⟨rfl, rfl⟩ h
  · rfl
def isRowM (n : Int) : D → Bool
  | .tup xs => decide ((xs.length : Int) = n) && xs.all isFracM
  | _ => false
def isTabM : D → Bool
  | .tup xs => (decide (1 ≤ xs.length) && decide (xs.length ≤ 5)) && xs.all (isRowM xs.length)
  | _ => false
def spIsRow : SpD := fun ds μ Q => ∃ (n : Int) (d : D), ds = [.int n, d] ∧ okD d = true ∧ Q (.bl (isRowM n d)) μ
theorem isFrac_fr (q : Rat) : isFracM (frD q) = true := by
  show (decide ((0 : Int) < (q.den : Int)) && decide (Nat.gcd q.num.natAbs ((q.den : Int)).natAbs = 1)) = true
  have h1 := q.den_nz
  rw [Int.natAbs_natCast, decide_eq_true (show (0 : Int) < (q.den : Int) by omega), decide_eq_true (show Nat.gcd q.num.natAbs q.den = 1 from q.reduced)]
  rfl
theorem isRow_row {qs : List Rat} {n : Int} (h : (qs.length : Int) = n) : isRowM n (rowD qs) = true := by
  show (decide (((qs.map frD).length : Int) = n) && (qs.map frD).all isFracM) = true
  rw [List.length_map, decide_eq_true h, Bool.true_and, List.all_map]
  exact List.all_eq_true.mpr fun q _ => isFrac_fr q
theorem isTab_tab {n : Nat} {t : List (List Rat)} (h : Sq n t) (h0 : n ≠ 0) (h5 : n ≤ 5) : isTabM (tabD t) = true := by
  show ((decide (1 ≤ (t.map rowD).length) && decide ((t.map rowD).length ≤ 5)) && (t.map rowD).all (isRowM (t.map rowD).length)) = true
  rw [List.length_map, h.1, decide_eq_true (show 1 ≤ n by omega), decide_eq_true h5, List.all_map]
  exact List.all_eq_true.mpr fun r hr => isRow_row (by rw [h.2 r hr])
theorem okD_fr {q : Rat} {k : Nat} (h : BQ k q) (hk : k < 3000) : okD (frD q) = true := by
  show (decide (2 ≤ 900) && (decide (q.num.natAbs < bigN) && (decide (((q.den : Int)).natAbs < bigN) && true))) = true
  rw [Int.natAbs_natCast, decide_eq_true (pow_big (Nat.le_of_lt h.1) hk), decide_eq_true (pow_big (Nat.le_of_lt h.2) hk)]
  rfl
theorem okDs_of {ds : List D} (h : ∀ d ∈ ds, okD d = true) : okDs ds = true := by
  induction ds with
  | nil => rfl
  | cons d ds ih =>
    rw [okDs, h d List.mem_cons_self, Bool.true_and]
    exact ih fun e he => h e (List.mem_cons_of_mem _ he)
theorem okD_tupl {ds : List D} (h : ∀ d ∈ ds, okD d = true) (l : ds.length ≤ 900) : okD (.tup ds) = true := by
  rw [okD, decide_eq_true l, Bool.true_and]
  exact okDs_of h
theorem okD_row {qs : List Rat} {k : Nat} (h : ∀ q ∈ qs, BQ k q) (hk : k < 3000) (l : qs.length ≤ 900) : okD (rowD qs) = true :=
  okD_tupl (fun d hd => by obtain ⟨q, hq, rfl⟩ := List.mem_map.mp hd; exact okD_fr (h q hq) hk) (by rw [List.length_map]; exact l)
theorem okD_tab {n k : Nat} {t : List (List Rat)} (h : Sq n t) (h5 : n ≤ 5) (b : Bits k t) (hk : k < 3000) : okD (tabD t) = true :=
  okD_tupl (fun d hd => by obtain ⟨r, hr, rfl⟩ := List.mem_map.mp hd; exact okD_row (b r hr) hk (by rw [h.2 r hr]; omega)) (by rw [List.length_map, h.1]; omega)
def spReqT : SpD := fun ds μ Q => ∃ d, ds = [d] ∧ okD d = true ∧ isTabM d = true ∧ Q .non μ
def spTurn : SpD := fun ds μ Q => ∃ (a : List (List Rat)) (k n : Nat), ds = [tabD a] ∧ Sq n a ∧ n ≠ 0 ∧ n ≤ 5 ∧ Bits k a ∧ k < 3000 ∧ Q (tabD (colsQ a)) μ
theorem turned_of {n : Nat} {b : List (List Rat)} (hb : Sq n b) (hn : n ≠ 0) (h5 : n ≤ 5) : (b.map fun r => r.map frD) ≠ [] ∧ (b.map fun r => r.map frD).length ≤ 5 ∧ (∀ r ∈ (b.map fun r => r.map frD), r.length = ((b.map fun r => r.map frD).headD []).length) ∧ ((b.map fun r => r.map frD).headD []).length ≤ 1000 := by
  have hh : ((b.map fun r => r.map frD).headD []).length = n := by
    cases b with
    | nil => exact absurd hb.1.symm hn
    | cons y ys => simp [hb.2 y List.mem_cons_self]
  refine ⟨fun z => hn (by rw [← hb.1, List.map_eq_nil_iff.mp z]; rfl), by rw [List.length_map, hb.1]; exact h5, fun r hr => ?_, by omega⟩
  obtain ⟨x, hx, rfl⟩ := List.mem_map.mp hr
  rw [List.length_map, hb.2 x hx, hh]
end R7
-- R7C
set_option maxRecDepth 100000
namespace R7
open PySem PySem.Spec PyProof.Rows L2 DL
local macro_rules | `(tactic| walk_at "look") => `(tactic| first | rfl | assumption | exact mset_same | (rw [mset_ne (by assumption)]; first | rfl | assumption | exact mset_same) | (show mset _ _ _ _ = _; first | exact mset_same | (rw [mset_ne (by assumption)]; assumption)))
local macro_rules | `(tactic| walk_at "small") => `(tactic| first | exact mulc (by decide) | exact mulcl (by decide) | exact mulc ⟨by omega, by omega⟩ | exact mulcl ⟨by omega, by omega⟩)
local macro_rules | `(tactic| walk_at "x1") => `(tactic| first
  | (with_reducible first
    | refine x_seq ?_ | refine x_ifS ?_ | refine x_test ?_ | refine x_op ?_ | refine x_c ?_ | refine x_bl ?_
    | refine x_cb ?_ | refine x_call ?_ | refine x_cons ?_ | refine x_nil ?_ | refine x_int ?_ | refine x_abs ?_ | refine x_add ?_ | refine x_sub ?_
    | refine x_lt ?_ | refine x_le ?_ | refine x_gt ?_ | refine x_ge ?_ | refine x_lenT ?_ | refine x_lenL ?_ | refine x_lenS ?_ | refine x_tupOfL ?_ | refine x_tupOfT ?_
    | refine x_tup ?_ | refine x_lst ?_ | refine x_asg ?_ | refine x_set ?_ | refine x_ret ?_ | refine x_next ?_ | refine x_drop ?_
    | refine x_gCons ?_ | refine x_gNil ?_ | refine x_gName ?_ | refine x_gSub ?_
    | refine x_and ?_ | refine x_or ?_ | refine x_not ?_ | refine x_andV ?_ | refine x_orV ?_ | refine x_notV ?_ | refine x_if ?_ | refine x_chain ?_
    | refine x_sl ?_ | refine x_slT ?_ | refine x_slL ?_ | refine x_slS ?_ | refine x_sumI ?_ | refine x_lstM ?_ | refine x_yes ?_ | refine x_tgN ?_
    | refine x_mk ?_ | refine x_mk1 ?_ | refine x_mk0 ?_ | refine x_neg ?_ | refine x_neg1 ?_ | refine x_dic0 ?_ | refine x_dic1 ?_
    | refine x_for ?_ | refine x_iLst ?_ | refine x_iLst1 ?_ | refine x_iTup ?_ | refine x_iTup1 ?_ | refine x_iAny ?_ | refine x_iAnyT ?_ | refine x_iAnyL ?_ | refine x_iAnyS ?_ | refine x_iZipX ?_ | refine x_iZipV ?_ | refine x_iEnumS ?_ | refine x_lenSet ?_ | refine x_iRng ?_ | refine x_iRngAB ?_ | refine x_lc ?_ | refine x_lcM ?_ | refine x_par ?_ | refine x_par3 ?_ | refine x_isN ?_ | refine x_forget ?_ | refine x_notN ?_ | refine x_iEnum ?_ | refine x_iEnumX ?_ | refine x_par1 ?_ | refine x_app ?_
    | refine x_eqI ?_ | refine x_neI ?_ | refine x_eqS ?_ | refine x_neS ?_ | refine x_attr ?_ | refine x_augL ?_ | refine x_int1 ?_ | refine x_iZipM ?_ | refine x_allM ?_ | refine x_rev ?_ | refine x_rev1 ?_ | refine x_forM ?_ | refine x_isTyY ?_ | refine x_notTyN ?_ | refine x_gcd ?_ | refine x_ext ?_ | refine x_listRg0 ?_ | refine x_iZip ?_ | refine x_iZip1 ?_ | refine x_iZip2 ?_ | refine x_eqE ?_ | refine x_neE ?_ | refine x_allG ?_ | refine x_allG2 ?_ | refine x_isB ?_ | refine x_notB ?_ | refine x_part ?_ | refine x_neg1 ?_ | refine x_noPart ?_ | refine x_fr0 ?_ | refine x_fr1 ?_ | refine x_raise ?_ | refine x_raise0 ?_ | refine x_callX ?_ | refine x_callW ?_ | refine x_callWX ?_ | refine x_try ?_ | refine x_xattr ?_ | refine iteT ?_ | refine iteF ?_ | refine iteNT ?_ | refine iteNF ?_)
  | ((with_reducible refine x_type (n := ?nn) ?hA ?_); (case hA => rfl))
  | ((with_reducible refine x_isi (n := ?nn) (b := true) ?hA ?hB ?_); (case hA => rfl); (case hB => rfl))
  | ((with_reducible refine x_isi (n := ?nn) (b := false) ?hA ?hB ?_); (case hA => rfl); (case hB => rfl))
  | ((with_reducible refine x_isTyN ?hA ?_); (case hA => decide))
  | ((with_reducible refine x_notTyY ?hA ?_); (case hA => decide))
  | ((with_reducible refine x_var (d := ?dd) ?hA ?_); (case hA => rfl))
  | ((with_reducible refine x_augI (a := ?aa) ?hA ?_); (case hA => rfl))
  | ((with_reducible refine x_ixR (ds := ?dd) (e := ?ee) ?hA ?hB ?_); (case hA => walk_at "look"); (case hB => rfl))
  | ((with_reducible refine x_ixT (e := ?ee) ?hB ?_); (case hB => rfl))
  | ((with_reducible refine x_ixL (e := ?ee) ?hB ?_); (case hB => rfl))
  | ((with_reducible refine x_lenR (ds := ?dd) ?hA ?_); (case hA => walk_at "look"))
  | ((with_reducible refine x_slR (ds := ?dd) ?hA ?_); (case hA => walk_at "look"))
  | ((with_reducible refine x_mul ?hA ?_); (case hA => walk_at "small"))
  | ((with_reducible refine x_mod ?hA ?_); (case hA => first | decide | omega))
  | ((with_reducible refine x_fdiv ?hA ?_); (case hA => exact div_small (by decide) (by decide)))
  | ((with_reducible refine x_pow ?hA ?_); (case hA => exact ⟨by decide, by decide, by decide⟩))
  | ((with_reducible refine x_divmod ?hA ?_); (case hA => exact ⟨by omega, by omega⟩))
  | ((with_reducible refine x_gSub1 (ds := ?dd) (m := ?mm) ?hA ?hB ?_); (case hA => walk_at "look"); (case hB => rfl))
  | ((with_reducible refine x_gTup ?hA ?_); (case hA => rfl))
  | ((with_reducible refine x_iRng1 ?hA ?hB ?_); (case hA => first | decide | omega); (case hB => first | decide | omega))
  | ((with_reducible refine x_addT ?hA ?_); (case hA => first | decide | (simp only [List.length_cons, List.length_nil, List.length_append]; omega)))
  | ((with_reducible refine x_addL ?hA ?_); (case hA => first | decide | (simp only [List.length_cons, List.length_nil, List.length_append]; omega)))
  | (refine And.intro ?hA ?_; (case hA => first | decide | (simp only [List.length_cons, List.length_nil, List.length_append]; omega))))
local macro_rules | `(tactic| walk_at "x") => `(tactic| repeat (walk_at "x1"))
local macro_rules | `(tactic| walk_at "tidy") => `(tactic| simp only [mset_mset])

def isIntD : D → Bool
  | .int _ => true
  | _ => false
abbrev s_law_cup : Stmt := top 17
theorem sc_law_cup : FnScope ["vat", "many", "found", "lap"] ["vat", "many"] (defScope s_law_cup) := ⟨rfl, rfl, rfl, by decide +kernel, rfl, by decide +kernel, by decide +kernel⟩
section
variable {P : Program} {w : World} {K : PySem.W.Frag} {mg : Str → Option Value} {base : Heap}
theorem ok_law_cup  {f : Addr} {fd : FuncData} (F : Fun K "_law_cup" "_law_cup" s_law_cup f fd) (hm : mg "_law_cup" = some (.ref f)) (hb : Binds K fd ["vat", "many"] []) (m_divmod : mg "divmod" = none) (m_int : mg "int" = none)  :
    DefOk P w K mg base 1 "_law_cup" s_law_cup ["vat", "many"] spCup := by
  refine def_ok F hm hb sc_law_cup (fun ds μ Q h => by first | (obtain ⟨_, rfl, h⟩ := h; rfl) | (obtain ⟨_, _, rfl, h⟩ := h; rfl) | (obtain ⟨_, _, _, rfl, h⟩ := h; rfl) | (obtain ⟨_, _, _, _, rfl, h⟩ := h; rfl) | (obtain ⟨_, _, _, _, _, rfl, h⟩ := h; rfl) | (obtain ⟨_, _, _, _, _, _, rfl, h⟩ := h; rfl) | (obtain ⟨_, _, _, _, _, _, _, rfl, h⟩ := h; rfl) | (obtain ⟨_, _, _, _, _, _, _, _, rfl, h⟩ := h; rfl) | (obtain ⟨_, _, _, _, _, _, _, _, _, rfl, h⟩ := h; rfl) | (obtain ⟨_, _, _, _, _, _, _, _, _, _, rfl, h⟩ := h; rfl) | (obtain ⟨_, _, _, _, _, _, _, _, _, _, _, rfl, h⟩ := h; rfl) | (obtain ⟨_, _, _, _, _, _, _, _, _, _, _, _, rfl, h⟩ := h; rfl) | (obtain ⟨_, _, _, _, _, _, _, _, _, _, _, _, _, rfl, h⟩ := h; rfl) | (obtain ⟨_, _, _, _, _, _, _, _, _, _, _, _, _, _, rfl, h⟩ := h; rfl) | (obtain ⟨_, _, _, _, _, _, _, _, _, _, _, _, _, _, _, rfl, h⟩ := h; rfl) | (obtain ⟨_, _, _, _, _, _, _, _, _, _, _, _, _, _, _, _, rfl, h⟩ := h; rfl)) _ (fun qual f cdv A fs s H E hgd room => (dss_cons (ds_if (dt_cmp op_gt lift_gt (de_ix (de_var 0 (pv 0)) de_int) de_int) (dss_cons (ds_asg (de_callB call_divmod lift_divmod rfl m_divmod (by decide +kernel) (da_cons (de_ix (de_var 0 (pv 0)) de_int) (da_cons (de_var 1 (pv 1)) da_nil))) (dg_tup (n := 2) rfl (dgs_cons (dg_sub (pg_sub (de_var 0 (pv 0)) de_int set_list)) (dgs_cons (dg_name (pg_name (i := 2) sc_law_cup.nd rfl (Or.inl rfl))) dgs_nil))))
      (dss_one (ds_ret (de_var 2 (pv 2))))) dss_nil)
      (dss_cons (ds_asg (de_op (OpR.or op_add (OpR.or op_catA op_cat)) lift_add (de_ix (de_var 0 (pv 0)) de_int) de_int) (dg_sub (pg_sub (de_var 0 (pv 0)) de_int set_list)))
      (dss_cons (ds_set (i := 3) sc_law_cup.nd rfl (Or.inl rfl) (de_op op_mod lift_mod (de_callTy call_int1 lift_int rfl m_int (by decide +kernel) (da_cons (de_op (OpR.or op_add (OpR.or op_catA op_cat)) lift_add (de_op (OpR.or op_add (OpR.or op_catA op_cat)) lift_add (de_op (OpR.or op_mulAny op_repT) lift_mul (de_ix (de_var 0 (pv 0)) de_int) de_int) (de_op (OpR.or op_mulAny op_repT) lift_mul (de_ix (de_var 0 (pv 0)) de_int) de_int)) de_int) da_nil)) de_int))
      (dss_cons (ds_asg (de_op op_mod lift_mod (de_callTy call_int1 lift_int rfl m_int (by decide +kernel) (da_cons (de_op (OpR.or op_add (OpR.or op_catA op_cat)) lift_add (de_op (OpR.or op_mulAny op_repT) lift_mul (de_var 3 (pv 3)) (de_op (OpR.or op_add (OpR.or op_catA op_cat)) lift_add (de_op (OpR.or op_mulAny op_repT) lift_mul de_int (de_op op_fdivAny lift_fdiv (de_var 3 (pv 3)) de_int)) de_int)) (de_ix (de_var 0 (pv 0)) de_int)) da_nil)) de_int) (dg_sub (pg_sub (de_var 0 (pv 0)) de_int set_list)))
      (dss_one (ds_ret (de_op op_mod lift_mod (de_callTy call_int1 lift_int rfl m_int (by decide +kernel) (da_cons (de_op op_fdivAny lift_fdiv (de_ix (de_var 0 (pv 0)) de_int) de_int) da_nil)) (de_var 1 (pv 1)))))))))) fun ds μ Q h => ?_
  obtain ⟨a, many, rfl, ⟨z, s, c, hv⟩, h1, h2, q⟩ := h
  walk_at "x"
  refine ite_d (fun hz => ?_) (fun hz => ?_)
  · walk_at "x"
    exact q _ _ _ _ (Int.emod_nonneg _ (by omega)) (Int.emod_lt_of_pos _ h1)
  · walk_at "x"
    simp only [mset_mset]
    exact q _ _ _ _ (Int.emod_nonneg _ (by omega)) (Int.emod_lt_of_pos _ h1)
end
/-- of a tuple, of a list -/
def spOneB : SpD := fun ds μ Q => spOneOf ds μ Q ∨ ∃ a xs, ds = [.ref a, .lst xs] ∧ VatAt μ a ∧ 0 < xs.length ∧ xs.length < 1000 ∧ ∀ d z s c, d ∈ xs → Q d (mset μ a (vatD z s c))
abbrev s_law_one_of : Stmt := top 18
theorem sc_law_one_of : FnScope ["vat", "some"] ["vat", "some"] (defScope s_law_one_of) := ⟨rfl, rfl, rfl, by decide +kernel, rfl, by decide +kernel, by decide +kernel⟩
section
variable {P : Program} {w : World} {K : PySem.W.Frag} {mg : Str → Option Value} {base : Heap}
theorem ok_law_one_of  {f : Addr} {fd : FuncData} (F : Fun K "_law_one_of" "_law_one_of" s_law_one_of f fd) (hm : mg "_law_one_of" = some (.ref f)) (hb : Binds K fd ["vat", "some"] []) (D_law_cup : DefOk P w K mg base 1 "_law_cup" s_law_cup ["vat", "many"] spCup) (m_len : mg "len" = none)  :
    DefOk P w K mg base 2 "_law_one_of" s_law_one_of ["vat", "some"] spOneB := by
  refine def_ok F hm hb sc_law_one_of (fun ds μ Q h => by rcases h with ⟨a1, a2, rfl, h⟩ | ⟨a1, a2, rfl, h⟩ <;> rfl) _ (fun qual f cdv A fs s H E hgd room => (dss_one (ds_ret (de_ix (de_var 1 (pv 1)) (de_call hgd D_law_cup (room.mono (by decide)) (da_cons (de_var 0 (pv 0)) (da_cons (de_callB call_len_seq lift_len rfl m_len (by decide +kernel) (da_cons (de_var 1 (pv 1)) da_nil)) da_nil))))))) fun ds μ Q h => ?_
  rcases h with ⟨a, xs, rfl, ⟨z, s, c, hv⟩, h1, h2, q⟩ | ⟨a, xs, rfl, ⟨z, s, c, hv⟩, h1, h2, q⟩
  · walk_at "x"
    refine x_cup (vat_of hv) (by omega) (by omega) fun n z' s' c' h3 h4 => ?_
    obtain ⟨d, hd, hm⟩ := atI_mem h3 h4
    exact x_ixT hd (q d _ _ _ hm)
  · walk_at "x"
    refine x_cup (vat_of hv) (by omega) (by omega) fun n z' s' c' h3 h4 => ?_
    obtain ⟨d, hd, hm⟩ := atI_mem h3 h4
    exact x_ixL hd (q d _ _ _ hm)
end
abbrev s_law_vat : Stmt := top 16
theorem sc_law_vat : FnScope ["script", "lap", "own", "stir", "each"] ["script", "lap"] (defScope s_law_vat) := ⟨rfl, rfl, rfl, by decide +kernel, rfl, by decide +kernel, by decide +kernel⟩
section
variable {P : Program} {w : World} {K : PySem.W.Frag} {mg : Str → Option Value} {base : Heap}
theorem ok_law_vat  {f : Addr} {fd : FuncData} (F : Fun K "_law_vat" "_law_vat" s_law_vat f fd) (hm : mg "_law_vat" = some (.ref f)) (hb : Binds K fd ["script", "lap"] []) (m_abs : mg "abs" = none) (m_int : mg "int" = none) (m_len : mg "len" = none) (m_sum : mg "sum" = none)  :
    DefOk P w K mg base 1 "_law_vat" s_law_vat ["script", "lap"] spVat := by
  refine def_ok F hm hb sc_law_vat (fun ds μ Q h => by first | (obtain ⟨_, rfl, h⟩ := h; rfl) | (obtain ⟨_, _, rfl, h⟩ := h; rfl) | (obtain ⟨_, _, _, rfl, h⟩ := h; rfl) | (obtain ⟨_, _, _, _, rfl, h⟩ := h; rfl) | (obtain ⟨_, _, _, _, _, rfl, h⟩ := h; rfl) | (obtain ⟨_, _, _, _, _, _, rfl, h⟩ := h; rfl) | (obtain ⟨_, _, _, _, _, _, _, rfl, h⟩ := h; rfl) | (obtain ⟨_, _, _, _, _, _, _, _, rfl, h⟩ := h; rfl) | (obtain ⟨_, _, _, _, _, _, _, _, _, rfl, h⟩ := h; rfl) | (obtain ⟨_, _, _, _, _, _, _, _, _, _, rfl, h⟩ := h; rfl) | (obtain ⟨_, _, _, _, _, _, _, _, _, _, _, rfl, h⟩ := h; rfl) | (obtain ⟨_, _, _, _, _, _, _, _, _, _, _, _, rfl, h⟩ := h; rfl) | (obtain ⟨_, _, _, _, _, _, _, _, _, _, _, _, _, rfl, h⟩ := h; rfl) | (obtain ⟨_, _, _, _, _, _, _, _, _, _, _, _, _, _, rfl, h⟩ := h; rfl) | (obtain ⟨_, _, _, _, _, _, _, _, _, _, _, _, _, _, _, rfl, h⟩ := h; rfl) | (obtain ⟨_, _, _, _, _, _, _, _, _, _, _, _, _, _, _, _, rfl, h⟩ := h; rfl)) _ (fun qual f cdv A fs s H E hgd room => (dss_cons (ds_set (i := 2) sc_law_vat.nd rfl (Or.inl rfl) (de_ifExp (dt_cmp op_lt lift_lt (de_var 1 (pv 1)) (de_callB call_len_seq lift_len rfl m_len (by decide +kernel) (da_cons (de_var 0 (pv 0)) da_nil))) (de_callTy call_int1 lift_int rfl m_int (by decide +kernel) (da_cons (de_ix (de_var 0 (pv 0)) (de_var 1 (pv 1))) da_nil)) (de_op (OpR.or op_add (OpR.or op_catA op_cat)) lift_add (de_op (OpR.or op_add (OpR.or op_catA op_cat)) lift_add (de_op (OpR.or op_mulAny op_repT) lift_mul de_int (de_var 1 (pv 1))) de_int) (de_op op_mod lift_mod (de_callTy call_int1 lift_int rfl m_int (by decide +kernel) (da_cons (de_callB (cr_sum rfl) lift_sum rfl m_sum (by decide +kernel) (da_cons (de_slice (de_var 0 (pv 0)) do_none (do_some de_int)) da_nil)) da_nil)) de_int))))
      (dss_cons (ds_set (i := 3) sc_law_vat.nd rfl (Or.inl rfl) (de_op (OpR.or op_add (OpR.or op_catA op_cat)) lift_add de_int (de_op (OpR.or op_mulAny op_repT) lift_mul de_int (de_var 1 (pv 1)))))
      (dss_cons (ds_for (g := .nm 4) PassesOwn.never rfl (di_lst (de_op (OpR.or op_add (OpR.or op_catA op_cat)) lift_add (de_slice (de_var 0 (pv 0)) do_none (do_some de_int)) (de_lst (da_cons (de_var 2 (pv 2)) da_nil)))) (pg_name (i := 4) sc_law_vat.nd rfl (Or.inl rfl)) (dss_one (ds_set (i := 3) sc_law_vat.nd rfl (Or.inl rfl) (de_op op_mod lift_mod (de_callTy call_int1 lift_int rfl m_int (by decide +kernel) (da_cons (de_op (OpR.or op_add (OpR.or op_catA op_cat)) lift_add (de_op (OpR.or op_add (OpR.or op_catA op_cat)) lift_add (de_op (OpR.or op_mulAny op_repT) lift_mul (de_var 3 (pv 3)) de_int) (de_op op_mod lift_mod (de_callTy call_int1 lift_int rfl m_int (by decide +kernel) (da_cons (de_var 4 (pv 4)) da_nil)) de_int)) de_int) da_nil)) de_int))))
      (dss_one (ds_ret (de_lstM (da_cons (de_ifExp (dt_w (dw_or (dt_cmp op_lt lift_lt (de_var 2 (pv 2)) de_int) (dw_or1 (dt_cmp op_ge lift_ge (de_var 2 (pv 2)) (de_op op_pow lift_pow de_int de_int))))) (de_callB call_abs lift_abs rfl m_abs (by decide +kernel) (da_cons (de_var 2 (pv 2)) da_nil)) de_int) (da_cons (de_var 3 (pv 3)) (da_cons de_int da_nil)))))))))) fun ds μ Q h => ?_
  obtain ⟨ns, lap, rfl, h1, h2, h3, q⟩ := h
  walk_at "x"
  have loop : ∀ (ms : List Int) (E : DEnds) (own stir : Int) (o : Option D), (∀ stir' o', E.nx [some (.scr ns), some (.int lap), some (.int own), some (.int stir'), o'] μ) →
      forD (.nm 4) (dSet 3 (dOp dMod (dCB dInt (dCons (dOp dAdd (dOp dAdd (dOp dMul (dVar 3) (dC (.int 44129))) (dOp dMod (dCB dInt (dCons (dVar 4) dNil)) (dC (.int 2147483353)))) (dC (.int 37))) dNil)) (dC (.int 2147483353)))) E
        (ms.map D.int) [some (.scr ns), some (.int lap), some (.int own), some (.int stir), o] μ := by
    intro ms
    induction ms with
    | nil => exact fun E own stir o k => k _ _
    | cons m ms ih =>
      intro E own stir o k
      refine x_fCons ?_
      walk_at "x"
      exact ih E own _ _ k
  have len : (cutI ns none (some 10)).length ≤ ns.length := cutI_le _ _ _
  refine ite_d (fun hz => ?_) (fun hz => ?_)
  · walk_at "x"
    refine x_ixS h1 hz fun n hn => ?_
    walk_at "x"
    refine x_addL (by rw [List.length_map]; show _ + 1 ≤ 1000000; omega) ?_
    refine x_iLst1 ?_
    rw [map_snoc]
    refine loop _ _ _ _ _ fun stir' o' => ?_
    walk_at "x"
    refine ite_d (fun hz => ?_) (fun hz => ?_)
    · walk_at "x"
      intro p hp
      exact q p _ _ _ hp
    · walk_at "x"
      refine ite_d (fun hz => ?_) (fun hz => ?_)
      all_goals
        walk_at "x"
        intro p hp
        exact q p _ _ _ hp
  · walk_at "x"
    refine x_addL (by rw [List.length_map]; show _ + 1 ≤ 1000000; omega) ?_
    refine x_iLst1 ?_
    rw [map_snoc]
    refine loop _ _ _ _ _ fun stir' o' => ?_
    walk_at "x"
    refine ite_d (fun hz => ?_) (fun hz => ?_)
    · walk_at "x"
      intro p hp
      exact q p _ _ _ hp
    · walk_at "x"
      refine ite_d (fun hz => ?_) (fun hz => ?_)
      all_goals
        walk_at "x"
        intro p hp
        exact q p _ _ _ hp
end
def spCommon : SpD := fun ds μ Q => ∃ a b : Int, ds = [.int a, .int b] ∧ Q (.int (gcdI a b)) μ
def spFrac : SpD := fun ds μ Q => ∃ a b : Int, ds = [.int a, .int b] ∧ b ≠ 0 ∧ b.natAbs < hugeN ∧ Q (frD (Rat.divInt a b)) μ
theorem intD_is {d : D} (h : isIntD d = true) : ∃ i, d = .int i := by
  cases d with
  | int i => exact ⟨i, rfl⟩
  | _ => exact absurd h Bool.false_ne_true
theorem frac_self {i j : Int} (hj : 0 < j) : (decide (i.fdiv (gcdI i j) = i) && decide (j.fdiv (gcdI i j) = j)) = decide (Nat.gcd i.natAbs j.natAbs = 1) := by
  have g0 := gcdI_pos (a := i) (b := j) (by omega)
  by_cases h : Nat.gcd i.natAbs j.natAbs = 1
  · have e : gcdI i j = 1 := by unfold gcdI; rw [h]; rfl
    rw [e, decide_eq_true h, Int.fdiv_one, Int.fdiv_one, decide_eq_true rfl, decide_eq_true rfl]
    rfl
  · have g2 : 2 ≤ gcdI i j := by unfold gcdI at g0 ⊢; omega
    have ne : j.fdiv (gcdI i j) ≠ j := by
      rw [Int.fdiv_eq_ediv_of_nonneg _ (by omega)]
      intro e
      have h1 := Int.ediv_mul_le j (b := gcdI i j) (by omega)
      rw [e] at h1
      have h2 : j * 2 ≤ j * gcdI i j := Int.mul_le_mul_of_nonneg_left g2 (by omega)
      omega
    rw [decide_eq_false ne, decide_eq_false h, Bool.and_false]
mutual
/-- plain data: tuples of at most L things, ints up to B -/
def okN (L B : Nat) : D → Bool
  | .tup xs => decide (xs.length ≤ L) && okNs L B xs
  | .int i => decide (i.natAbs ≤ B)
  | .non | .bl _ | .str _ | .lst _ | .dic _ => true
  | _ => false
def okNs (L B : Nat) : List D → Bool
  | [] => true
  | d :: ds => okN L B d && okNs L B ds
end
mutual
theorem okN_okD {L B : Nat} (hL : L ≤ 900) (hB : B < 1073741824) : ∀ {d : D}, okN L B d = true → okD d = true
  | .tup xs, h => by
    rw [okN, Bool.and_eq_true] at h
    rw [okD, Bool.and_eq_true]
    exact ⟨decide_eq_true (Nat.le_trans (of_decide_eq_true h.1) hL), okNs_okDs hL hB h.2⟩
  | .int i, h => decide_eq_true (small_big (Nat.lt_of_le_of_lt (of_decide_eq_true h) hB))
  | .non, _ => rfl
  | .bl _, _ => rfl
  | .str _, _ => rfl
  | .lst _, _ => rfl
  | .dic _, _ => rfl
theorem okNs_okDs {L B : Nat} (hL : L ≤ 900) (hB : B < 1073741824) : ∀ {ds : List D}, okNs L B ds = true → okDs ds = true
  | [], _ => rfl
  | d :: ds, h => by
    rw [okNs, Bool.and_eq_true] at h
    rw [okDs, Bool.and_eq_true]
    exact ⟨okN_okD hL hB h.1, okNs_okDs hL hB h.2⟩
end
def spLow : SpD := fun ds μ Q => ∃ a, ds = [.ref a] ∧ VatAt μ a ∧ ∀ i z s c, i.natAbs ≤ 60 → Q (.int i) (mset μ a (vatD z s c))
def spPart : SpD := fun ds μ Q => ∃ a, ds = [.ref a] ∧ VatAt μ a ∧ ∀ q z s c, CB 30 1800 q → Q (frD q) (mset μ a (vatD z s c))
end R7
-- R7D
set_option maxRecDepth 100000
namespace R7
open PySem PySem.Spec PyProof.Rows L2 DL
local macro_rules | `(tactic| walk_at "look") => `(tactic| first | rfl | assumption | exact mset_same | (rw [mset_ne (by assumption)]; first | rfl | assumption | exact mset_same) | (show mset _ _ _ _ = _; first | exact mset_same | (rw [mset_ne (by assumption)]; assumption)))
local macro_rules | `(tactic| walk_at "small") => `(tactic| first | exact mulc (by decide) | exact mulcl (by decide) | exact mulc ⟨by omega, by omega⟩ | exact mulcl ⟨by omega, by omega⟩)
local macro_rules | `(tactic| walk_at "x1") => `(tactic| first
  | (with_reducible first
    | refine x_seq ?_ | refine x_ifS ?_ | refine x_test ?_ | refine x_op ?_ | refine x_c ?_ | refine x_bl ?_
    | refine x_cb ?_ | refine x_call ?_ | refine x_cons ?_ | refine x_nil ?_ | refine x_int ?_ | refine x_abs ?_ | refine x_add ?_ | refine x_sub ?_
    | refine x_lt ?_ | refine x_le ?_ | refine x_gt ?_ | refine x_ge ?_ | refine x_lenT ?_ | refine x_lenL ?_ | refine x_lenS ?_ | refine x_tupOfL ?_ | refine x_tupOfT ?_
    | refine x_tup ?_ | refine x_lst ?_ | refine x_asg ?_ | refine x_set ?_ | refine x_ret ?_ | refine x_next ?_ | refine x_drop ?_
    | refine x_gCons ?_ | refine x_gNil ?_ | refine x_gName ?_ | refine x_gSub ?_
    | refine x_and ?_ | refine x_or ?_ | refine x_not ?_ | refine x_andV ?_ | refine x_orV ?_ | refine x_notV ?_ | refine x_if ?_ | refine x_chain ?_
    | refine x_sl ?_ | refine x_slT ?_ | refine x_slL ?_ | refine x_slS ?_ | refine x_sumI ?_ | refine x_lstM ?_ | refine x_yes ?_ | refine x_tgN ?_
    | refine x_mk ?_ | refine x_mk1 ?_ | refine x_mk0 ?_ | refine x_neg ?_ | refine x_neg1 ?_ | refine x_dic0 ?_ | refine x_dic1 ?_
    | refine x_for ?_ | refine x_iLst ?_ | refine x_iLst1 ?_ | refine x_iTup ?_ | refine x_iTup1 ?_ | refine x_iAny ?_ | refine x_iAnyT ?_ | refine x_iAnyL ?_ | refine x_iAnyS ?_ | refine x_iZipX ?_ | refine x_iZipV ?_ | refine x_iEnumS ?_ | refine x_lenSet ?_ | refine x_iRng ?_ | refine x_iRngAB ?_ | refine x_lc ?_ | refine x_lcM ?_ | refine x_par ?_ | refine x_par3 ?_ | refine x_isN ?_ | refine x_forget ?_ | refine x_notN ?_ | refine x_iEnum ?_ | refine x_iEnumX ?_ | refine x_par1 ?_ | refine x_app ?_
    | refine x_eqI ?_ | refine x_neI ?_ | refine x_eqS ?_ | refine x_neS ?_ | refine x_attr ?_ | refine x_augL ?_ | refine x_int1 ?_ | refine x_iZipM ?_ | refine x_allM ?_ | refine x_rev ?_ | refine x_rev1 ?_ | refine x_forM ?_ | refine x_isTyY ?_ | refine x_notTyN ?_ | refine x_gcd ?_ | refine x_ext ?_ | refine x_listRg0 ?_ | refine x_iZip ?_ | refine x_iZip1 ?_ | refine x_iZip2 ?_ | refine x_eqE ?_ | refine x_neE ?_ | refine x_allG ?_ | refine x_allG2 ?_ | refine x_isB ?_ | refine x_notB ?_ | refine x_part ?_ | refine x_neg1 ?_ | refine x_noPart ?_ | refine x_fr0 ?_ | refine x_fr1 ?_ | refine x_raise ?_ | refine x_raise0 ?_ | refine x_callX ?_ | refine x_callW ?_ | refine x_callWX ?_ | refine x_try ?_ | refine x_xattr ?_ | refine iteT ?_ | refine iteF ?_ | refine iteNT ?_ | refine iteNF ?_)
  | ((with_reducible refine x_type (n := ?nn) ?hA ?_); (case hA => rfl))
  | ((with_reducible refine x_isi (n := ?nn) (b := true) ?hA ?hB ?_); (case hA => rfl); (case hB => rfl))
  | ((with_reducible refine x_isi (n := ?nn) (b := false) ?hA ?hB ?_); (case hA => rfl); (case hB => rfl))
  | ((with_reducible refine x_isTyN ?hA ?_); (case hA => decide))
  | ((with_reducible refine x_notTyY ?hA ?_); (case hA => decide))
  | ((with_reducible refine x_var (d := ?dd) ?hA ?_); (case hA => rfl))
  | ((with_reducible refine x_augI (a := ?aa) ?hA ?_); (case hA => rfl))
  | ((with_reducible refine x_ixR (ds := ?dd) (e := ?ee) ?hA ?hB ?_); (case hA => walk_at "look"); (case hB => rfl))
  | ((with_reducible refine x_ixT (e := ?ee) ?hB ?_); (case hB => rfl))
  | ((with_reducible refine x_ixL (e := ?ee) ?hB ?_); (case hB => rfl))
  | ((with_reducible refine x_lenR (ds := ?dd) ?hA ?_); (case hA => walk_at "look"))
  | ((with_reducible refine x_slR (ds := ?dd) ?hA ?_); (case hA => walk_at "look"))
  | ((with_reducible refine x_mul ?hA ?_); (case hA => walk_at "small"))
  | ((with_reducible refine x_mod ?hA ?_); (case hA => first | decide | omega))
  | ((with_reducible refine x_fdiv ?hA ?_); (case hA => exact div_small (by decide) (by decide)))
  | ((with_reducible refine x_pow ?hA ?_); (case hA => exact ⟨by decide, by decide, by decide⟩))
  | ((with_reducible refine x_divmod ?hA ?_); (case hA => exact ⟨by omega, by omega⟩))
  | ((with_reducible refine x_gSub1 (ds := ?dd) (m := ?mm) ?hA ?hB ?_); (case hA => walk_at "look"); (case hB => rfl))
  | ((with_reducible refine x_gTup ?hA ?_); (case hA => rfl))
  | ((with_reducible refine x_iRng1 ?hA ?hB ?_); (case hA => first | decide | omega); (case hB => first | decide | omega))
  | ((with_reducible refine x_addT ?hA ?_); (case hA => first | decide | (simp only [List.length_cons, List.length_nil, List.length_append]; omega)))
  | ((with_reducible refine x_addL ?hA ?_); (case hA => first | decide | (simp only [List.length_cons, List.length_nil, List.length_append]; omega)))
  | (refine And.intro ?hA ?_; (case hA => first | decide | (simp only [List.length_cons, List.length_nil, List.length_append]; omega))))
local macro_rules | `(tactic| walk_at "x") => `(tactic| repeat (walk_at "x1"))
local macro_rules | `(tactic| walk_at "tidy") => `(tactic| simp only [mset_mset])

theorem cut_to {xs : List D} {j : Nat} (h : j ≤ xs.length) : cutD xs none (some (j : Int)) = xs.take j := by
  unfold DL.cutD
  rw [HT.sIx_none, HT.sIx_nat, Nat.min_eq_left h, List.drop_zero, Nat.sub_zero]
theorem cut_from {xs : List D} {j : Nat} (h : j ≤ xs.length) : cutD xs (some (j : Int)) none = xs.drop j := by
  unfold DL.cutD
  rw [HT.sIx_none, HT.sIx_nat, Nat.min_eq_left h]
  exact List.take_of_length_le (by rw [List.length_drop]; exact Nat.le_refl _)
/-- late steps -/
abbrev Stp := Nat × List Nat
def pksD (ps : List Nat) : D := .tup (ps.map fun k : Nat => D.int (k : Int))
def stD (s : Stp) : D := .tup [.int (s.1 : Int), pksD s.2]
def stsD (ss : List Stp) : D := .tup (ss.map stD)
def LOk (n : Nat) : List Nat → List Stp → Prop
  | _, [] => True
  | c, s :: r => s.1 < n ∧ s.2.length = n ∧ (∀ k, k < n → s.2.getD k 0 < c.getD k 0) ∧ LOk n (c.set s.1 (c.getD s.1 0 + 1)) r
def spLateStep : SpD := fun ds μ Q => ∃ (a : Addr) (n : Nat) (c : List Nat) (s : Stp), ds = [.ref a, stD s] ∧ μ a = some (c.map fun k : Nat => D.int (k : Int)) ∧ c.length = n ∧ n ≤ 5 ∧ s.1 < n ∧ s.2.length = n ∧ (∀ k, k < n → s.2.getD k 0 < c.getD k 0) ∧ Q (.bl true) μ
abbrev s_is_late_step : Stmt := top 10
theorem sc_is_late_step : FnScope ["counts", "value", "at", "picks", "pick", "count"] ["counts", "value"] (defScope s_is_late_step) := ⟨rfl, rfl, rfl, by decide +kernel, rfl, by decide +kernel, by decide +kernel⟩
section
variable {P : Program} {w : World} {K : PySem.W.Frag} {mg : Str → Option Value} {base : Heap}
theorem ok_is_late_step  {f : Addr} {fd : FuncData} (F : Fun K "is_late_step" "is_late_step" s_is_late_step f fd) (hm : mg "is_late_step" = some (.ref f)) (hb : Binds K fd ["counts", "value"] []) {c P_ : Addr} (hc : codeOf K f = some c) (TB : BTab base mg c P_) (hP : P_ ∈ gensK K) (nl : ∀ p ∈ lamsK K, p.1 ≠ P_) (m_all : mg "all" = none) (m_int : mg "int" = none) (m_len : mg "len" = none) (m_tuple : mg "tuple" = none) (m_type : mg "type" = none) (m_zip : mg "zip" = none)  :
    DefOk P w K mg base 1 "is_late_step" s_is_late_step ["counts", "value"] spLateStep := by
  refine def_okT F hm hb hc sc_is_late_step (fun ds μ Q h => by first | (obtain ⟨_, rfl, h⟩ := h; rfl) | (obtain ⟨_, _, rfl, h⟩ := h; rfl) | (obtain ⟨_, _, _, rfl, h⟩ := h; rfl) | (obtain ⟨_, _, _, _, rfl, h⟩ := h; rfl) | (obtain ⟨_, _, _, _, _, rfl, h⟩ := h; rfl) | (obtain ⟨_, _, _, _, _, _, rfl, h⟩ := h; rfl) | (obtain ⟨_, _, _, _, _, _, _, rfl, h⟩ := h; rfl) | (obtain ⟨_, _, _, _, _, _, _, _, rfl, h⟩ := h; rfl) | (obtain ⟨_, _, _, _, _, _, _, _, _, rfl, h⟩ := h; rfl) | (obtain ⟨_, _, _, _, _, _, _, _, _, _, rfl, h⟩ := h; rfl) | (obtain ⟨_, _, _, _, _, _, _, _, _, _, _, rfl, h⟩ := h; rfl) | (obtain ⟨_, _, _, _, _, _, _, _, _, _, _, _, rfl, h⟩ := h; rfl) | (obtain ⟨_, _, _, _, _, _, _, _, _, _, _, _, _, rfl, h⟩ := h; rfl) | (obtain ⟨_, _, _, _, _, _, _, _, _, _, _, _, _, _, rfl, h⟩ := h; rfl) | (obtain ⟨_, _, _, _, _, _, _, _, _, _, _, _, _, _, _, rfl, h⟩ := h; rfl) | (obtain ⟨_, _, _, _, _, _, _, _, _, _, _, _, _, _, _, _, rfl, h⟩ := h; rfl)) _ (fun qual f cdv A fs s H E hcv hgd room => have hu := room.units; (dss_cons (ds_if (dt_w (dw_or (dt_cmp op_notTyB lift_notTy (de_callTy call_type1 lift_type rfl m_type (by decide +kernel) (da_cons (de_var 1 (pv 1)) da_nil)) (de_c (v := .ty "tuple") (pe_bltn (u := .type "tuple") (by rfl) m_tuple (by decide +kernel) (by rfl)) fun _ => .ty _)) (dw_or1 (dt_cmp (OpR.or (op_neD hu) op_ne) lift_ne (de_callB call_len_seq lift_len rfl m_len (by decide +kernel) (da_cons (de_var 1 (pv 1)) da_nil)) de_int)))) (dss_one (ds_ret de_bl)) dss_nil)
      (dss_cons (ds_asg (de_var 1 (pv 1)) (dg_tup (n := 2) rfl (dgs_cons (dg_name (pg_name (i := 2) sc_is_late_step.nd rfl (Or.inl rfl))) (dgs_cons (dg_name (pg_name (i := 3) sc_is_late_step.nd rfl (Or.inl rfl))) dgs_nil))))
      (dss_cons (ds_if (dt_w (dw_or (dt_cmp op_notTyB lift_notTy (de_callTy call_type1 lift_type rfl m_type (by decide +kernel) (da_cons (de_var 2 (pv 2)) da_nil)) (de_c (v := .ty "int") (pe_bltn (u := .type "int") (by rfl) m_int (by decide +kernel) (by rfl)) fun _ => .ty _)) (dw_or (dt_cmp op_lt lift_lt (de_var 2 (pv 2)) de_int) (dw_or1 (dt_cmp op_ge lift_ge (de_var 2 (pv 2)) (de_callB call_len_seq lift_len rfl m_len (by decide +kernel) (da_cons (de_var 0 (pv 0)) da_nil))))))) (dss_one (ds_ret de_bl)) dss_nil)
      (dss_cons (ds_if (dt_w (dw_or (dt_cmp op_notTyB lift_notTy (de_callTy call_type1 lift_type rfl m_type (by decide +kernel) (da_cons (de_var 3 (pv 3)) da_nil)) (de_c (v := .ty "tuple") (pe_bltn (u := .type "tuple") (by rfl) m_tuple (by decide +kernel) (by rfl)) fun _ => .ty _)) (dw_or1 (dt_cmp (OpR.or (op_neD hu) op_ne) lift_ne (de_callB call_len_seq lift_len rfl m_len (by decide +kernel) (da_cons (de_var 3 (pv 3)) da_nil)) (de_callB call_len_seq lift_len rfl m_len (by decide +kernel) (da_cons (de_var 0 (pv 0)) da_nil)))))) (dss_one (ds_ret de_bl)) dss_nil)
      (dss_one (ds_ret (de_allM (own := [("pick", 4), ("count", 5)]) (g := .tp [4, 5]) room rfl m_all sc_is_late_step.nd TB hcv hP nl (di_zipM m_zip (da_cons (de_var 3 (pv 3)) (da_cons (de_var 0 (pv 0)) da_nil))) (blkOk_by (by kernel_rfl)) (by decide) (by decide +kernel) rfl rfl (fun _ _ _ _ _ _ => (pg_tup rfl (pgs_cons (pg_name (i := 4) sc_is_late_step.nd rfl (Or.inl rfl)) (pgs_cons (pg_name (i := 5) sc_is_late_step.nd rfl (Or.inl rfl)) pgs_nil)))) (fun _ _ _ _ _ _ => (de_and (de_cmp op_isTyB lift_isTy (de_callTy call_type1 lift_type rfl m_type (by decide +kernel) (da_cons (de_var 4 (pv 4)) da_nil)) (de_c (v := .ty "int") (pe_bltn (u := .type "int") (by rfl) m_int (by decide +kernel) (by rfl)) fun _ => .ty _)) (de_one (de_chain op_le lift_le op_lt lift_lt de_int (de_var 4 (pv 4)) (de_var 5 (pv 5)))))))))))))) fun ds μ Q h => ?_
  obtain ⟨a, n, c, ⟨i, ps⟩, rfl, hm, hc, h5, hi, hp, hlt, q⟩ := h
  have hi : i < n := hi
  have hp : ps.length = n := hp
  unfold stD pksD
  walk_at "x"
  rw [decide_eq_true (show (([D.int (i : Int), .tup (ps.map fun k : Nat => D.int (k : Int))].length : Nat) : Int) = 2 from rfl)]
  walk_at "x"
  rw [decide_eq_false (show ¬ (i : Int) < 0 by omega)]
  walk_at "x"
  rw [List.length_map, hc, decide_eq_false (show ¬ (n : Int) ≤ (i : Int) by omega)]
  walk_at "x"
  rw [List.length_map, List.length_map, hp, hc, decide_eq_true rfl]
  walk_at "x"
  refine ⟨_, _, ps.map (fun k : Nat => D.int (k : Int)), c.map (fun k : Nat => D.int (k : Int)), rfl, .inl ⟨true, rfl⟩, .inr ⟨a, rfl, hm⟩, ?_⟩
  rw [zipD_map]
  refine allDG_pure (fun _ => true) ⟨.inl ⟨true, rfl⟩, .inr ⟨a, rfl, hm⟩⟩ _ (fun d hd k hk => ?_) ?_
  · obtain ⟨p, hp2, rfl⟩ := List.mem_map.mp hd
    obtain ⟨j, hj, e⟩ := List.mem_iff_getElem.mp hp2
    have hj1 : j < n := by rw [List.length_zip, hp, hc, Nat.min_self] at hj; exact hj
    have h1 : p.1 < p.2 := by
      rw [← e, List.getElem_zip]
      have := hlt j hj1
      rw [show (i, ps).snd = ps from rfl, getD_lt (by rw [hp]; exact hj1), getD_lt (by rw [hc]; exact hj1)] at this
      exact this
    refine x_tgT (ds := [.int (p.1 : Int), .int (p.2 : Int)]) rfl ?_
    walk_at "x"
    rw [decide_eq_true (show (0 : Int) ≤ (p.1 : Int) by omega)]
    walk_at "x"
    rw [decide_eq_true (show (p.1 : Int) < (p.2 : Int) by omega)]
    exact hk
  · rw [List.all_eq_true.mpr fun _ _ => rfl]
    exact q
end
theorem natD_set {c : List Nat} {i v : Nat} : (c.map fun k : Nat => D.int (k : Int)).set i (.int (v : Int)) = (c.set i v).map fun k : Nat => D.int (k : Int) := by rw [List.map_set]
def spOddStep : SpD := fun ds μ Q => ∃ (n : Nat) (ss : List Stp), ds = [.int (n : Int), stsD ss] ∧ n ≤ 5 ∧ ss.length ≤ 200 ∧ LOk n (List.replicate n 2) ss ∧ Q .non μ
abbrev s_odd_step : Stmt := top 9
theorem sc_odd_step : FnScope ["size", "steps", "counts", "index", "value"] ["size", "steps"] (defScope s_odd_step) := ⟨rfl, rfl, rfl, by decide +kernel, rfl, by decide +kernel, by decide +kernel⟩
section
variable {P : Program} {w : World} {K : PySem.W.Frag} {mg : Str → Option Value} {base : Heap}
theorem ok_odd_step  {f : Addr} {fd : FuncData} (F : Fun K "odd_step" "odd_step" s_odd_step f fd) (hm : mg "odd_step" = some (.ref f)) (hb : Binds K fd ["size", "steps"] []) (c_MOST_LATE_STEPS : ∃ t, mg "MOST_LATE_STEPS" = some (.int 200 t)) (D_is_late_step : DefOk P w K mg base 1 "is_late_step" s_is_late_step ["counts", "value"] spLateStep) (m_enumerate : mg "enumerate" = none)  :
    DefOk P w K mg base 2 "odd_step" s_odd_step ["size", "steps"] spOddStep := by
  refine def_ok F hm hb sc_odd_step (fun ds μ Q h => by first | (obtain ⟨_, rfl, h⟩ := h; rfl) | (obtain ⟨_, _, rfl, h⟩ := h; rfl) | (obtain ⟨_, _, _, rfl, h⟩ := h; rfl) | (obtain ⟨_, _, _, _, rfl, h⟩ := h; rfl) | (obtain ⟨_, _, _, _, _, rfl, h⟩ := h; rfl) | (obtain ⟨_, _, _, _, _, _, rfl, h⟩ := h; rfl) | (obtain ⟨_, _, _, _, _, _, _, rfl, h⟩ := h; rfl) | (obtain ⟨_, _, _, _, _, _, _, _, rfl, h⟩ := h; rfl) | (obtain ⟨_, _, _, _, _, _, _, _, _, rfl, h⟩ := h; rfl) | (obtain ⟨_, _, _, _, _, _, _, _, _, _, rfl, h⟩ := h; rfl) | (obtain ⟨_, _, _, _, _, _, _, _, _, _, _, rfl, h⟩ := h; rfl) | (obtain ⟨_, _, _, _, _, _, _, _, _, _, _, _, rfl, h⟩ := h; rfl) | (obtain ⟨_, _, _, _, _, _, _, _, _, _, _, _, _, rfl, h⟩ := h; rfl) | (obtain ⟨_, _, _, _, _, _, _, _, _, _, _, _, _, _, rfl, h⟩ := h; rfl) | (obtain ⟨_, _, _, _, _, _, _, _, _, _, _, _, _, _, _, rfl, h⟩ := h; rfl) | (obtain ⟨_, _, _, _, _, _, _, _, _, _, _, _, _, _, _, _, rfl, h⟩ := h; rfl)) _ (fun qual f cdv A fs s H E hgd room => have hu := room.units; (dss_cons (ds_set (i := 2) sc_odd_step.nd rfl (Or.inl rfl) (de_op op_mulA lift_mulAM (de_lst (da_cons de_int da_nil)) (de_var 0 (pv 0))))
      (dss_cons (ds_for (g := .tp [3, 4]) PassesOwn.never rfl (di_enumX m_enumerate (da_cons (de_var 1 (pv 1)) da_nil)) (pg_tup rfl (pgs_cons (pg_name (i := 3) sc_odd_step.nd rfl (Or.inl rfl)) (pgs_cons (pg_name (i := 4) sc_odd_step.nd rfl (Or.inl rfl)) pgs_nil))) (dss_cons (ds_if (dt_w (dw_or (dt_cmp (OpR.or (op_eqD hu) op_eq) lift_eq (de_var 3 (pv 3)) (de_gInt rfl c_MOST_LATE_STEPS)) (dw_or1 (dt_not (dt_val (de_call hgd D_is_late_step (room.mono (by decide)) (da_cons (de_var 2 (pv 2)) (da_cons (de_var 4 (pv 4)) da_nil)))))))) (dss_one (ds_ret (de_forget 2 (de_var 3 (pv 3))))) dss_nil)
      (dss_one (ds_augL ip_add (de_var 2 (pv 2)) (de_ix (de_var 4 (pv 4)) de_int) de_int))))
      (dss_one (ds_ret (de_forget 2 de_non)))))) fun ds μ Q h => ?_
  obtain ⟨n, ss, rfl, h5, hl, ok, q⟩ := h
  walk_at "x"
  refine .inr ⟨[.int 2], (n : Int), rfl, rfl, by omega, by omega, by decide, fun p hp => ?_⟩
  rw [Int.toNat_natCast]
  walk_at "x"
  refine ⟨true, ss.map stD, rfl, ?_⟩
  rw [enum_map stD (0, [])]
  have e0 : (List.replicate n [D.int 2]).flatten = (List.replicate n 2).map fun k : Nat => D.int (k : Int) := by
    rw [List.map_replicate, List.flatten_replicate_singleton]
    rfl
  rw [e0, List.range_eq_range']
  refine forD_ind (fun ds δ μ' => ∃ (i m : Nat) (c : List Nat) (o3 o4 : Option D), ds = (List.range' i m).map (fun i : Nat => D.tup [.int (i : Int), stD (ss.getD i (0, []))]) ∧ i + m = ss.length ∧ c.length = n ∧ LOk n c (ss.drop i) ∧ δ = [some (.int (n : Int)), some (stsD ss), some (.ref p), o3, o4] ∧ μ' = mset μ p (c.map fun k : Nat => D.int (k : Int))) ?_ ?_ _ _ _
    ⟨0, ss.length, List.replicate n 2, none, none, rfl, by omega, by rw [List.length_replicate], ok, rfl, rfl⟩
  · rintro δ μ' ⟨i, m, c, o3, o4, hd, hi, hc, _, rfl, rfl⟩
    walk_at "x"
    exact x_forgetE rfl hp q
  · rintro d ds δ μ' ⟨i, m, c, o3, o4, hd, hi, hc, ok, rfl, rfl⟩ nx hnx
    cases m with
    | zero => cases hd
    | succ m =>
      cases hd
      have hil : i < ss.length := by omega
      rw [List.drop_eq_getElem_cons hil, ← getD_lt (d := (0, [])) hil] at ok
      obtain ⟨k1, k2, k3, k4⟩ := ok
      refine x_tgT (ds := [.int (i : Int), stD (ss.getD i (0, []))]) rfl ?_
      revert k1 k2 k3 k4
      generalize ss.getD i (0, []) = s
      intro k1 k2 k3 k4
      walk_at "x"
      rw [decide_eq_false (show ¬ (i : Int) = 200 by omega)]
      walk_at "x"
      refine ⟨p, n, c, s, rfl, mset_same, hc, h5, k1, k2, k3, ?_⟩
      walk_at "x"
      refine x_ixT (ds := [.int (s.1 : Int), pksD s.2]) (e := .int (s.1 : Int)) rfl ?_
      refine ⟨p, _, s.1, ((c.getD s.1 0 : Nat) : Int), rfl, rfl, mset_same, ?_, ?_⟩
      · rw [List.getElem?_map, List.getElem?_eq_getElem (by rw [hc]; exact k1), getD_lt (by rw [hc]; exact k1)]
        rfl
      walk_at "x"
      refine ⟨1, _, rfl, mset_same, by rw [List.length_map, hc]; exact k1, ?_⟩
      rw [mset_mset, show ((c.getD s.1 0 : Nat) : Int) + 1 = ((c.getD s.1 0 + 1 : Nat) : Int) by omega, natD_set]
      exact hnx _ _ ⟨i + 1, m, _, _, _, rfl, by omega, by rw [List.length_set, hc], k4, rfl, rfl⟩
end
def spReqSteps : SpD := fun ds μ Q => ∃ (n : Nat) (ss : List Stp), ds = [.int (n : Int), stsD ss] ∧ n ≤ 5 ∧ ss.length ≤ 200 ∧ LOk n (List.replicate n 2) ss ∧ Q .non μ
abbrev s_require_steps : Stmt := top 11
theorem sc_require_steps : FnScope ["size", "value", "index"] ["size", "value"] (defScope s_require_steps) := ⟨rfl, rfl, rfl, by decide +kernel, rfl, by decide +kernel, by decide +kernel⟩
section
variable {P : Program} {w : World} {K : PySem.W.Frag} {mg : Str → Option Value} {base : Heap}
theorem ok_require_steps  {f : Addr} {fd : FuncData} (F : Fun K "require_steps" "require_steps" s_require_steps f fd) (hm : mg "require_steps" = some (.ref f)) (hb : Binds K fd ["size", "value"] []) (D_odd_step : DefOk P w K mg base 2 "odd_step" s_odd_step ["size", "steps"] spOddStep) (m_tuple : mg "tuple" = none) (m_type : mg "type" = none)  :
    DefOk P w K mg base 3 "require_steps" s_require_steps ["size", "value"] spReqSteps := by
  refine def_ok F hm hb sc_require_steps (fun ds μ Q h => by first | (obtain ⟨_, rfl, h⟩ := h; rfl) | (obtain ⟨_, _, rfl, h⟩ := h; rfl) | (obtain ⟨_, _, _, rfl, h⟩ := h; rfl) | (obtain ⟨_, _, _, _, rfl, h⟩ := h; rfl) | (obtain ⟨_, _, _, _, _, rfl, h⟩ := h; rfl) | (obtain ⟨_, _, _, _, _, _, rfl, h⟩ := h; rfl) | (obtain ⟨_, _, _, _, _, _, _, rfl, h⟩ := h; rfl) | (obtain ⟨_, _, _, _, _, _, _, _, rfl, h⟩ := h; rfl) | (obtain ⟨_, _, _, _, _, _, _, _, _, rfl, h⟩ := h; rfl) | (obtain ⟨_, _, _, _, _, _, _, _, _, _, rfl, h⟩ := h; rfl) | (obtain ⟨_, _, _, _, _, _, _, _, _, _, _, rfl, h⟩ := h; rfl) | (obtain ⟨_, _, _, _, _, _, _, _, _, _, _, _, rfl, h⟩ := h; rfl) | (obtain ⟨_, _, _, _, _, _, _, _, _, _, _, _, _, rfl, h⟩ := h; rfl) | (obtain ⟨_, _, _, _, _, _, _, _, _, _, _, _, _, _, rfl, h⟩ := h; rfl) | (obtain ⟨_, _, _, _, _, _, _, _, _, _, _, _, _, _, _, rfl, h⟩ := h; rfl) | (obtain ⟨_, _, _, _, _, _, _, _, _, _, _, _, _, _, _, _, rfl, h⟩ := h; rfl)) _ (fun qual f cdv A fs s H E hgd room => (dss_cons (ds_if (dt_cmp op_notTyB lift_notTy (de_callTy call_type1 lift_type rfl m_type (by decide +kernel) (da_cons (de_var 1 (pv 1)) da_nil)) (de_c (v := .ty "tuple") (pe_bltn (u := .type "tuple") (by rfl) m_tuple (by decide +kernel) (by rfl)) fun _ => .ty _)) (dss_one ds_never) dss_nil)
      (dss_cons (ds_set (i := 2) sc_require_steps.nd rfl (Or.inl rfl) (de_call hgd D_odd_step (room.mono (by decide)) (da_cons (de_var 0 (pv 0)) (da_cons (de_var 1 (pv 1)) da_nil))))
      (dss_one (ds_if (dt_cmp op_notN lift_notN (de_var 2 (pv 2)) de_non) (dss_one ds_never) dss_nil))))) fun ds μ Q h => ?_
  obtain ⟨n, ss, rfl, h5, hl, ok, q⟩ := h
  walk_at "x"
  refine ⟨n, ss, rfl, h5, hl, ok, ?_⟩
  walk_at "x"
  exact q
end
/-- whole numbers over powers of the share -/
abbrev Pw := Int × Nat
def pwD (p : Pw) : D := .tup [.int p.1, .int (p.2 : Int)]
def partW (S c : Nat) (L : List (Int × Pw)) : Int := (L.map fun x => if x.2.2 < c then x.1 * x.2.1 * (S : Int) ^ (c - 1 - x.2.2) else 0).sum
theorem partW_step (S c : Nat) : ∀ L : List (Int × Pw), partW S (c + 1) L = partW S c L * (S : Int) + ((L.filter fun x => decide (x.2.2 = c)).map fun x => x.1 * x.2.1).sum
  | [] => by simp [partW]
  | x :: L => by
    have ih := partW_step S c L
    have e1 : partW S (c + 1) (x :: L) = (if x.2.2 < c + 1 then x.1 * x.2.1 * (S : Int) ^ (c + 1 - 1 - x.2.2) else 0) + partW S (c + 1) L := rfl
    have e2 : partW S c (x :: L) = (if x.2.2 < c then x.1 * x.2.1 * (S : Int) ^ (c - 1 - x.2.2) else 0) + partW S c L := rfl
    rw [e1, e2, ih, List.filter_cons]
    by_cases h : x.2.2 = c
    · rw [if_pos (show x.2.2 < c + 1 by omega), if_neg (show ¬ x.2.2 < c by omega), if_pos (decide_eq_true h), List.map_cons, List.sum_cons, show c + 1 - 1 - x.2.2 = 0 by omega, Int.pow_zero, Int.mul_one, Int.zero_add]
      omega
    · rw [decide_eq_false h]
      by_cases g : x.2.2 < c
      · have e3 : x.1 * x.2.1 * (S : Int) ^ (c + 1 - 1 - x.2.2) = x.1 * x.2.1 * (S : Int) ^ (c - 1 - x.2.2) * (S : Int) := by
          rw [show c + 1 - 1 - x.2.2 = (c - 1 - x.2.2) + 1 by omega, Int.pow_succ, Int.mul_assoc (x.1 * x.2.1)]
        rw [if_pos (show x.2.2 < c + 1 by omega), if_pos g, e3, if_neg Bool.false_ne_true, Int.add_mul, Int.add_assoc]
      · rw [if_neg (show ¬ x.2.2 < c + 1 by omega), if_neg g, if_neg Bool.false_ne_true, Int.zero_add, Int.zero_add]
theorem partW_low {S c : Nat} : ∀ {L : List (Int × Pw)}, (∀ x ∈ L, c ≤ x.2.2) → partW S c L = 0
  | [], _ => rfl
  | x :: L, h => by
    have e2 : partW S c (x :: L) = (if x.2.2 < c then x.1 * x.2.1 * (S : Int) ^ (c - 1 - x.2.2) else 0) + partW S c L := rfl
    rw [e2, partW_low fun y hy => h y (List.mem_cons_of_mem _ hy), if_neg (by have := h x List.mem_cons_self; omega)]
    rfl
theorem partW_le {S c t a C : Nat} (hS : S ≤ 2 ^ C) : ∀ {L : List (Int × Pw)}, (∀ x ∈ L, x.1.natAbs ≤ 2 ^ t ∧ x.2.1.natAbs ≤ 2 ^ (a + C * x.2.2)) → (partW S c L).natAbs ≤ L.length * 2 ^ (t + a + C * (c - 1))
  | [], _ => Nat.zero_le _
  | x :: L, h => by
    have ih := partW_le (c := c) hS (L := L) fun y hy => h y (List.mem_cons_of_mem _ hy)
    obtain ⟨h1, h2⟩ := h x List.mem_cons_self
    have e2 : partW S c (x :: L) = (if x.2.2 < c then x.1 * x.2.1 * (S : Int) ^ (c - 1 - x.2.2) else 0) + partW S c L := rfl
    rw [e2, List.length_cons, Nat.add_mul, Nat.one_mul]
    have h3 : (if x.2.2 < c then x.1 * x.2.1 * (S : Int) ^ (c - 1 - x.2.2) else 0).natAbs ≤ 2 ^ (t + a + C * (c - 1)) := by
      split
      · rename_i g
        rw [Int.natAbs_mul, Int.natAbs_mul, Int.natAbs_pow, Int.natAbs_natCast]
        have h4 : S ^ (c - 1 - x.2.2) ≤ 2 ^ (C * (c - 1 - x.2.2)) := by
          rw [Nat.pow_mul]
          exact Nat.pow_le_pow_left hS _
        refine Nat.le_trans (Nat.mul_le_mul (Nat.mul_le_mul h1 h2) h4) ?_
        rw [← Nat.pow_add, ← Nat.pow_add]
        refine Nat.pow_le_pow_right (by decide) ?_
        have : C * (c - 1) = C * x.2.2 + C * (c - 1 - x.2.2) := by rw [← Nat.mul_add]; congr 1; omega
        omega
      · exact Nat.zero_le _
    have := Int.natAbs_add_le (if x.2.2 < c then x.1 * x.2.1 * (S : Int) ^ (c - 1 - x.2.2) else 0) (partW S c L)
    omega
/-- what a whole row makes of whole numbers -/
def spTaken : SpD := fun ds μ Q => ∃ (r : List Int) (S : Nat) (pk : List Pw) (n t a C P : Nat), ds = [.lst (r.map D.int), .int (S : Int), .lst (pk.map pwD)] ∧ r.length = n ∧ pk.length = n ∧ n ≠ 0 ∧ n ≤ 5 ∧ (∀ x ∈ r, x.natAbs ≤ 2 ^ t) ∧ (∀ p ∈ pk, p.1.natAbs ≤ 2 ^ (a + C * p.2) ∧ p.2 ≤ P) ∧ S ≤ 2 ^ C ∧ t + 3 ≤ C ∧ P ≤ 1000 ∧ a ≤ 100000 ∧ C ≤ 10000 ∧
  ∀ N top, top ≤ P → (∀ p ∈ pk, p.2 ≤ top) → N = partW S (top + 1) (List.zip r pk) → N.natAbs ≤ 2 ^ (a + C * (top + 1)) → Q (.tup [.int N, .int ((top + 1 : Nat) : Int)]) μ
def spOverP : SpD := fun ds μ Q => ∃ (p : Pw) (dv S b s : Nat), ds = [pwD p, .int (dv : Int), .int (S : Int)] ∧ dv ≠ 0 ∧ S ≠ 0 ∧ dv ≤ 2 ^ b ∧ S ≤ 2 ^ s ∧ b + s * p.2 ≤ 2900 ∧ p.2 ≤ 1000 ∧ Q (frD (Rat.divInt p.1 ((dv * S ^ p.2 : Nat) : Int))) μ
end R7
-- R7E
set_option maxRecDepth 100000
namespace R7
open PySem PySem.Spec PyProof.Rows L2 DL
local macro_rules | `(tactic| walk_at "look") => `(tactic| first | rfl | assumption | exact mset_same | (rw [mset_ne (by assumption)]; first | rfl | assumption | exact mset_same) | (show mset _ _ _ _ = _; first | exact mset_same | (rw [mset_ne (by assumption)]; assumption)))
local macro_rules | `(tactic| walk_at "small") => `(tactic| first | exact mulc (by decide) | exact mulcl (by decide) | exact mulc ⟨by omega, by omega⟩ | exact mulcl ⟨by omega, by omega⟩)
local macro_rules | `(tactic| walk_at "x1") => `(tactic| first
  | (with_reducible first
    | refine x_seq ?_ | refine x_ifS ?_ | refine x_test ?_ | refine x_op ?_ | refine x_c ?_ | refine x_bl ?_
    | refine x_cb ?_ | refine x_call ?_ | refine x_cons ?_ | refine x_nil ?_ | refine x_int ?_ | refine x_abs ?_ | refine x_add ?_ | refine x_sub ?_
    | refine x_lt ?_ | refine x_le ?_ | refine x_gt ?_ | refine x_ge ?_ | refine x_lenT ?_ | refine x_lenL ?_ | refine x_lenS ?_ | refine x_tupOfL ?_ | refine x_tupOfT ?_
    | refine x_tup ?_ | refine x_lst ?_ | refine x_asg ?_ | refine x_set ?_ | refine x_ret ?_ | refine x_next ?_ | refine x_drop ?_
    | refine x_gCons ?_ | refine x_gNil ?_ | refine x_gName ?_ | refine x_gSub ?_
    | refine x_and ?_ | refine x_or ?_ | refine x_not ?_ | refine x_andV ?_ | refine x_orV ?_ | refine x_notV ?_ | refine x_if ?_ | refine x_chain ?_
    | refine x_sl ?_ | refine x_slT ?_ | refine x_slL ?_ | refine x_slS ?_ | refine x_sumI ?_ | refine x_lstM ?_ | refine x_yes ?_ | refine x_tgN ?_
    | refine x_mk ?_ | refine x_mk1 ?_ | refine x_mk0 ?_ | refine x_neg ?_ | refine x_neg1 ?_ | refine x_dic0 ?_ | refine x_dic1 ?_
    | refine x_for ?_ | refine x_iLst ?_ | refine x_iLst1 ?_ | refine x_iTup ?_ | refine x_iTup1 ?_ | refine x_iAny ?_ | refine x_iAnyT ?_ | refine x_iAnyL ?_ | refine x_iAnyS ?_ | refine x_iZipX ?_ | refine x_iZipV ?_ | refine x_iEnumS ?_ | refine x_lenSet ?_ | refine x_iRng ?_ | refine x_iRngAB ?_ | refine x_lc ?_ | refine x_lcM ?_ | refine x_par ?_ | refine x_par3 ?_ | refine x_isN ?_ | refine x_forget ?_ | refine x_notN ?_ | refine x_iEnum ?_ | refine x_iEnumX ?_ | refine x_par1 ?_ | refine x_app ?_
    | refine x_eqI ?_ | refine x_neI ?_ | refine x_eqS ?_ | refine x_neS ?_ | refine x_attr ?_ | refine x_augL ?_ | refine x_int1 ?_ | refine x_iZipM ?_ | refine x_allM ?_ | refine x_rev ?_ | refine x_rev1 ?_ | refine x_forM ?_ | refine x_isTyY ?_ | refine x_notTyN ?_ | refine x_gcd ?_ | refine x_ext ?_ | refine x_listRg0 ?_ | refine x_iZip ?_ | refine x_iZip1 ?_ | refine x_iZip2 ?_ | refine x_eqE ?_ | refine x_neE ?_ | refine x_allG ?_ | refine x_allG2 ?_ | refine x_isB ?_ | refine x_notB ?_ | refine x_part ?_ | refine x_neg1 ?_ | refine x_noPart ?_ | refine x_fr0 ?_ | refine x_fr1 ?_ | refine x_raise ?_ | refine x_raise0 ?_ | refine x_callX ?_ | refine x_callW ?_ | refine x_callWX ?_ | refine x_try ?_ | refine x_xattr ?_ | refine iteT ?_ | refine iteF ?_ | refine iteNT ?_ | refine iteNF ?_)
  | ((with_reducible refine x_type (n := ?nn) ?hA ?_); (case hA => rfl))
  | ((with_reducible refine x_isi (n := ?nn) (b := true) ?hA ?hB ?_); (case hA => rfl); (case hB => rfl))
  | ((with_reducible refine x_isi (n := ?nn) (b := false) ?hA ?hB ?_); (case hA => rfl); (case hB => rfl))
  | ((with_reducible refine x_isTyN ?hA ?_); (case hA => decide))
  | ((with_reducible refine x_notTyY ?hA ?_); (case hA => decide))
  | ((with_reducible refine x_var (d := ?dd) ?hA ?_); (case hA => rfl))
  | ((with_reducible refine x_augI (a := ?aa) ?hA ?_); (case hA => rfl))
  | ((with_reducible refine x_ixR (ds := ?dd) (e := ?ee) ?hA ?hB ?_); (case hA => walk_at "look"); (case hB => rfl))
  | ((with_reducible refine x_ixT (e := ?ee) ?hB ?_); (case hB => rfl))
  | ((with_reducible refine x_ixL (e := ?ee) ?hB ?_); (case hB => rfl))
  | ((with_reducible refine x_lenR (ds := ?dd) ?hA ?_); (case hA => walk_at "look"))
  | ((with_reducible refine x_slR (ds := ?dd) ?hA ?_); (case hA => walk_at "look"))
  | ((with_reducible refine x_mul ?hA ?_); (case hA => walk_at "small"))
  | ((with_reducible refine x_mod ?hA ?_); (case hA => first | decide | omega))
  | ((with_reducible refine x_fdiv ?hA ?_); (case hA => exact div_small (by decide) (by decide)))
  | ((with_reducible refine x_pow ?hA ?_); (case hA => exact ⟨by decide, by decide, by decide⟩))
  | ((with_reducible refine x_divmod ?hA ?_); (case hA => exact ⟨by omega, by omega⟩))
  | ((with_reducible refine x_gSub1 (ds := ?dd) (m := ?mm) ?hA ?hB ?_); (case hA => walk_at "look"); (case hB => rfl))
  | ((with_reducible refine x_gTup ?hA ?_); (case hA => rfl))
  | ((with_reducible refine x_iRng1 ?hA ?hB ?_); (case hA => first | decide | omega); (case hB => first | decide | omega))
  | ((with_reducible refine x_addT ?hA ?_); (case hA => first | decide | (simp only [List.length_cons, List.length_nil, List.length_append]; omega)))
  | ((with_reducible refine x_addL ?hA ?_); (case hA => first | decide | (simp only [List.length_cons, List.length_nil, List.length_append]; omega)))
  | (refine And.intro ?hA ?_; (case hA => first | decide | (simp only [List.length_cons, List.length_nil, List.length_append]; omega))))
local macro_rules | `(tactic| walk_at "x") => `(tactic| repeat (walk_at "x1"))
local macro_rules | `(tactic| walk_at "tidy") => `(tactic| simp only [mset_mset])

/-- nothing forgotten -/
def Gr (μ μ' : Mem) : Prop := ∀ b xs, μ b = some xs → μ' b = some xs
theorem Gr.refl (μ : Mem) : Gr μ μ := fun _ _ h => h
theorem Gr.trans {μ μ1 μ2 : Mem} (h : Gr μ μ1) (k : Gr μ1 μ2) : Gr μ μ2 := fun b xs e => k b xs (h b xs e)
theorem Gr.new {μ μ1 : Mem} {p : Addr} {xs : List D} (h : Gr μ μ1) (n : μ p = none) : Gr μ (mset μ1 p xs) := fun b ys e => by
  rw [mset_ne (fun z => by rw [z, n] at e; cases e)]
  exact h b ys e
theorem has_gr {μ μ' : Mem} {ps : List Addr} {xss : List (List D)} (h : Has μ μ' ps xss) : Gr μ μ' := fun b xs e => by
  rw [h.oth b fun m => by rw [h.no b m] at e; cases e]
  exact e
/-- each window of m steps takes everything -/
def takesB (n m : Nat) (ss : List Stp) : Bool := (List.range (ss.length + 1 - m)).all fun f => (List.range n).all fun k => decide (k ∈ ((ss.drop f).take m).map (·.1))
/-- no value taken that is out of date by m steps; c: the step's number -/
def freshB (n m : Nat) : Nat → List (List Nat) → List Stp → Bool
  | _, _, [] => true
  | c, W, s :: r => ((List.range n).all fun k => !(decide (s.2.getD k 0 + 1 < (W.getD k []).length) && decide ((W.getD k []).getD (s.2.getD k 0 + 1) 0 + m ≤ c))) && freshB n m (c + 1) (W.set s.1 (W.getD s.1 [] ++ [c])) r
def tidyB (n m : Nat) (ss : List Stp) : Bool := takesB n m ss && freshB n m 1 (List.replicate n [0, 0]) ss
def spReqNum : SpD := fun ds μ Q => ∃ v lo hi : Int, ds = [.int v, .int lo, .int hi] ∧ lo ≤ v ∧ v ≤ hi ∧ Q .non μ
abbrev s_require_number : Stmt := top 5
theorem sc_require_number : FnScope ["value", "low", "high"] ["value", "low", "high"] (defScope s_require_number) := ⟨rfl, rfl, rfl, by decide +kernel, rfl, by decide +kernel, by decide +kernel⟩
section
variable {P : Program} {w : World} {K : PySem.W.Frag} {mg : Str → Option Value} {base : Heap}
theorem ok_require_number  {f : Addr} {fd : FuncData} (F : Fun K "require_number" "require_number" s_require_number f fd) (hm : mg "require_number" = some (.ref f)) (hb : Binds K fd ["value", "low", "high"] []) (m_int : mg "int" = none) (m_type : mg "type" = none)  :
    DefOk P w K mg base 1 "require_number" s_require_number ["value", "low", "high"] spReqNum := by
  refine def_ok F hm hb sc_require_number (fun ds μ Q h => by first | (obtain ⟨_, rfl, h⟩ := h; rfl) | (obtain ⟨_, _, rfl, h⟩ := h; rfl) | (obtain ⟨_, _, _, rfl, h⟩ := h; rfl) | (obtain ⟨_, _, _, _, rfl, h⟩ := h; rfl) | (obtain ⟨_, _, _, _, _, rfl, h⟩ := h; rfl) | (obtain ⟨_, _, _, _, _, _, rfl, h⟩ := h; rfl) | (obtain ⟨_, _, _, _, _, _, _, rfl, h⟩ := h; rfl) | (obtain ⟨_, _, _, _, _, _, _, _, rfl, h⟩ := h; rfl) | (obtain ⟨_, _, _, _, _, _, _, _, _, rfl, h⟩ := h; rfl) | (obtain ⟨_, _, _, _, _, _, _, _, _, _, rfl, h⟩ := h; rfl) | (obtain ⟨_, _, _, _, _, _, _, _, _, _, _, rfl, h⟩ := h; rfl) | (obtain ⟨_, _, _, _, _, _, _, _, _, _, _, _, rfl, h⟩ := h; rfl) | (obtain ⟨_, _, _, _, _, _, _, _, _, _, _, _, _, rfl, h⟩ := h; rfl) | (obtain ⟨_, _, _, _, _, _, _, _, _, _, _, _, _, _, rfl, h⟩ := h; rfl) | (obtain ⟨_, _, _, _, _, _, _, _, _, _, _, _, _, _, _, rfl, h⟩ := h; rfl) | (obtain ⟨_, _, _, _, _, _, _, _, _, _, _, _, _, _, _, _, rfl, h⟩ := h; rfl)) _ (fun qual f cdv A fs s H E hgd room => (dss_one (ds_if (dt_w (dw_or (dt_cmp op_notTyB lift_notTy (de_callTy call_type1 lift_type rfl m_type (by decide +kernel) (da_cons (de_var 0 (pv 0)) da_nil)) (de_c (v := .ty "int") (pe_bltn (u := .type "int") (by rfl) m_int (by decide +kernel) (by rfl)) fun _ => .ty _)) (dw_or (dt_cmp op_lt lift_lt (de_var 0 (pv 0)) (de_var 1 (pv 1))) (dw_or1 (dt_cmp op_gt lift_gt (de_var 0 (pv 0)) (de_var 2 (pv 2))))))) (dss_one ds_never) dss_nil))) fun ds μ Q h => ?_
  obtain ⟨v, lo, hi, rfl, h1, h2, q⟩ := h
  walk_at "x"
  rw [decide_eq_false (show ¬ v < lo by omega)]
  walk_at "x"
  rw [decide_eq_false (show ¬ v > hi by omega)]
  walk_at "x"
  exact q
end
theorem cut_both {xs : List D} {i m : Nat} (h : i + m ≤ xs.length) : cutD xs (some (i : Int)) (some ((i : Int) + (m : Int))) = (xs.drop i).take m := by
  unfold DL.cutD
  rw [show (i : Int) + (m : Int) = ((i + m : Nat) : Int) by omega, HT.sIx_nat, HT.sIx_nat, show min i xs.length = i by omega, show min (i + m) xs.length = i + m by omega, Nat.add_sub_cancel_left]
def spTakes : SpD := fun ds μ Q => ∃ (n m : Nat) (ss : List Stp), ds = [.int (n : Int), stsD ss, .int (m : Int)] ∧ n ≤ 5 ∧ ss.length ≤ 200 ∧ (∀ s ∈ ss, s.1 < n) ∧ m ≤ 200 ∧ Q (.bl (takesB n m ss)) μ
abbrev s_takes_all : Stmt := top 13
theorem sc_takes_all : FnScope ["size", "steps", "number", "taken", "at", "_", "first"] ["size", "steps", "number"] (defScope s_takes_all) := ⟨rfl, rfl, rfl, by decide +kernel, rfl, by decide +kernel, by decide +kernel⟩
section
variable {P : Program} {w : World} {K : PySem.W.Frag} {mg : Str → Option Value} {base : Heap}
theorem ok_takes_all  {f : Addr} {fd : FuncData} (F : Fun K "takes_all" "takes_all" s_takes_all f fd) (hm : mg "takes_all" = some (.ref f)) (hb : Binds K fd ["size", "steps", "number"] []) {c P_ : Addr} (hc : codeOf K f = some c) (TB : BTab base mg c P_) (hP : P_ ∈ gensK K) (nl : ∀ p ∈ lamsK K, p.1 ≠ P_) (m_all : mg "all" = none) (m_len : mg "len" = none) (m_range : mg "range" = none) (m_set : mg "set" = none)  :
    DefOk P w K mg base 2 "takes_all" s_takes_all ["size", "steps", "number"] spTakes := by
  refine def_okT F hm hb hc sc_takes_all (fun ds μ Q h => by first | (obtain ⟨_, rfl, h⟩ := h; rfl) | (obtain ⟨_, _, rfl, h⟩ := h; rfl) | (obtain ⟨_, _, _, rfl, h⟩ := h; rfl) | (obtain ⟨_, _, _, _, rfl, h⟩ := h; rfl) | (obtain ⟨_, _, _, _, _, rfl, h⟩ := h; rfl) | (obtain ⟨_, _, _, _, _, _, rfl, h⟩ := h; rfl) | (obtain ⟨_, _, _, _, _, _, _, rfl, h⟩ := h; rfl) | (obtain ⟨_, _, _, _, _, _, _, _, rfl, h⟩ := h; rfl) | (obtain ⟨_, _, _, _, _, _, _, _, _, rfl, h⟩ := h; rfl) | (obtain ⟨_, _, _, _, _, _, _, _, _, _, rfl, h⟩ := h; rfl) | (obtain ⟨_, _, _, _, _, _, _, _, _, _, _, rfl, h⟩ := h; rfl) | (obtain ⟨_, _, _, _, _, _, _, _, _, _, _, _, rfl, h⟩ := h; rfl) | (obtain ⟨_, _, _, _, _, _, _, _, _, _, _, _, _, rfl, h⟩ := h; rfl) | (obtain ⟨_, _, _, _, _, _, _, _, _, _, _, _, _, _, rfl, h⟩ := h; rfl) | (obtain ⟨_, _, _, _, _, _, _, _, _, _, _, _, _, _, _, rfl, h⟩ := h; rfl) | (obtain ⟨_, _, _, _, _, _, _, _, _, _, _, _, _, _, _, _, rfl, h⟩ := h; rfl)) _ (fun qual f cdv A fs s H E hcv hgd room => have hu := room.units; (dss_cons (ds_set (i := 3) sc_takes_all.nd rfl (Or.inr rfl) (de_lc (own := [("at", 4), ("_", 5)]) (g := .tp [4, 5]) rfl sc_takes_all.nd (di_any (de_var 1 (pv 1))) (blkOk_by (by kernel_rfl)) (by decide) (fun _ _ _ _ _ => (pg_tup rfl (pgs_cons (pg_name (i := 4) sc_takes_all.nd rfl (Or.inl rfl)) (pgs_cons (pg_name (i := 5) sc_takes_all.nd rfl (Or.inl rfl)) pgs_nil)))) (fun _ _ _ _ _ => dts_nil) (fun _ _ _ _ _ => (de_var 4 (pv 4)))))
      (dss_one (ds_ret (de_allG (own := [("first", 6)]) (g := .nm 6) room rfl m_all sc_takes_all.nd TB hcv hP nl (di_rng m_range (da_cons (de_op (OpR.or op_add (OpR.or op_catA op_cat)) lift_add (de_op op_sub lift_sub (de_callB call_len_seq lift_len rfl m_len (by decide +kernel) (da_cons (de_var 3 (pv 3)) da_nil)) (de_var 2 (pv 2))) de_int) da_nil)) (blkOk_by (by kernel_rfl)) (by decide) (by decide +kernel) rfl rfl (fun _ _ _ _ _ _ => (pg_name (i := 6) sc_takes_all.nd rfl (Or.inl rfl))) (fun _ _ _ _ _ _ => (de_cmp (OpR.or (op_eqD (genA_room (k := 0) (room.mono (by decide))).units) op_eq) lift_eq (de_lenSet (by rfl) m_len m_set (de_slice (de_var 3 (pv 3)) (do_some (de_var 6 (pv 6))) (do_some (de_op (OpR.or op_add (OpR.or op_catA op_cat)) lift_add (de_var 6 (pv 6)) (de_var 2 (pv 2)))))) (de_var 0 (pv 0))))))))) fun ds μ Q h => ?_
  obtain ⟨n, m, ss, rfl, h5, hl, hs, hm, q⟩ := h
  unfold stsD
  walk_at "x"
  refine lc_map ss stD (fun s => D.int (s.1 : Int)) (by omega) (fun s hs Dn acc kk _ hkk => ?_) ?_
  · unfold lcStep
    refine x_tgT (ds := [.int (s.1 : Int), pksD s.2]) rfl ?_
    walk_at "x"
    exact hkk
  walk_at "x"
  refine ⟨_, rfl, by rw [List.length_map]; omega, by rw [List.length_map]; omega, ?_⟩
  rw [List.length_map, show ((ss.length : Int) - (m : Int) + 1).toNat = ss.length + 1 - m by omega]
  have full : ∀ f : Nat, decide (((dstN (((ss.drop f).take m).map fun s => (s.1 : Int)) : Nat) : Int) = (n : Int)) = (List.range n).all fun k => decide (k ∈ ((ss.drop f).take m).map (·.1)) := fun f => by
    have h := dst_full (n := n) (ns := ((ss.drop f).take m).map fun s => (s.1 : Int)) fun i hi => by
      obtain ⟨s, h1, rfl⟩ := List.mem_map.mp hi
      have := hs s (List.mem_of_mem_drop (List.mem_of_mem_take h1))
      omega
    rw [Bool.eq_iff_iff, decide_eq_true_iff, List.all_eq_true]
    constructor
    · intro e k hk
      have := h.mp (by omega) k (List.mem_range.mp hk)
      obtain ⟨s, h1, e1⟩ := List.mem_map.mp this
      exact decide_eq_true (List.mem_map.mpr ⟨s, h1, by omega⟩)
    · intro e
      have := h.mpr fun k hk => by
        obtain ⟨s, h1, e1⟩ := List.mem_map.mp (of_decide_eq_true (e k (List.mem_range.mpr hk)))
        exact List.mem_map.mpr ⟨s, h1, by omega⟩
      omega
  refine allD_pure (fun d => match d with | .int i => (List.range n).all fun k => decide (k ∈ ((ss.drop i.toNat).take m).map (·.1)) | _ => true) _ (fun d hd k hk => ?_) ?_
  · obtain ⟨f, hf, rfl⟩ := List.mem_map.mp hd
    have hf := List.mem_range.mp hf
    walk_at "x"
    rw [cut_both (by rw [List.length_map]; omega), ← List.map_drop, ← List.map_take]
    refine ⟨((ss.drop f).take m).map fun s => (s.1 : Int), by rw [List.map_map]; rfl, by rw [List.length_map, List.length_take, List.length_drop]; omega, ?_⟩
    walk_at "x"
    rw [full f]
    exact hk
  · have e : ((List.range (ss.length + 1 - m)).map fun i : Nat => D.int (i : Int)).all (fun d => match d with | .int i => (List.range n).all fun k => decide (k ∈ ((ss.drop i.toNat).take m).map (·.1)) | _ => true) = takesB n m ss := by
      rw [List.all_map]
      rfl
    rw [e]
    exact q
end
theorem enumS_map {α : Type} {k0 : Int} (f : α → D) (d : α) (xs : List α) : enumS k0 (xs.map f) = (List.range' 0 xs.length).map fun i : Nat => .tup [.int ((i : Int) + k0), f (xs.getD i d)] := by
  unfold enumS
  rw [List.length_map, List.range_eq_range']
  refine List.map_congr_left fun i hi => ?_
  have hi : i < xs.length := by
    have := (List.mem_range'_1.mp hi).2
    omega
  rw [getD_mapL (d := d) hi]
/-- the counts of values behind late steps -/
def cntL : List Nat → List Stp → List Nat
  | c, [] => c
  | c, s :: r => cntL (c.set s.1 (c.getD s.1 0 + 1)) r
theorem LOk.snoc {n : Nat} {s : Stp} : ∀ {ss : List Stp} {c : List Nat}, LOk n c ss → s.1 < n → s.2.length = n → (∀ k, k < n → s.2.getD k 0 < (cntL c ss).getD k 0) → LOk n c (ss ++ [s])
  | [], _, _, h1, h2, h3 => ⟨h1, h2, h3, trivial⟩
  | _ :: _, _, ⟨k1, k2, k3, k4⟩, h1, h2, h3 => ⟨k1, k2, k3, k4.snoc h1 h2 h3⟩
theorem cntL_snoc {s : Stp} : ∀ {ss : List Stp} {c : List Nat}, cntL c (ss ++ [s]) = (cntL c ss).set s.1 ((cntL c ss).getD s.1 0 + 1)
  | [], _ => rfl
  | s' :: r, c => cntL_snoc (ss := r) (c := c.set s'.1 (c.getD s'.1 0 + 1))
theorem cntL_len : ∀ {ss : List Stp} {c : List Nat}, (cntL c ss).length = c.length
  | [], _ => rfl
  | s :: r, c => by
    show (cntL (c.set s.1 _) r).length = _
    rw [cntL_len, List.length_set]
def natsD (c : List Nat) : List D := c.map fun k : Nat => D.int (k : Int)
theorem natsD_at {c : List Nat} {k : Nat} (hk : k < c.length) : (natsD c)[k]? = some (.int ((c.getD k 0 : Nat) : Int)) := by
  unfold natsD
  rw [List.getElem?_map, List.getElem?_eq_getElem hk, getD_lt hk]
  rfl
theorem snocN {x : List Nat} {y k : Nat} : (k < x.length → (x ++ [y]).getD k 0 = x.getD k 0) ∧ (x ++ [y]).getD x.length 0 = y := by
  constructor
  · intro h
    rw [List.getD_eq_getElem?_getD, List.getD_eq_getElem?_getD, List.getElem?_append_left h]
  · rw [List.getD_eq_getElem?_getD, List.getElem?_append_right (Nat.le_refl _), Nat.sub_self]
    rfl
theorem natsD_set {c : List Nat} {i v : Nat} : (natsD c).set i (.int (v : Int)) = natsD (c.set i v) := natD_set
theorem x_natAt {μ : Mem} {Q : DK} {p : Addr} {c : List Nat} {k : Nat} (h : μ p = some (natsD c)) (hk : k < c.length) (q : Q (.int ((c.getD k 0 : Nat) : Int)) μ) : dIx (.ref p) (.int (k : Int)) μ Q := x_ixR (ds := natsD c) (e := .int ((c.getD k 0 : Nat) : Int)) h (atI_nat (natsD_at hk)) q
theorem lens_app {V : List (List Rat)} {i : Nat} {x : Rat} (hi : i < V.length) : (V.map List.length).set i ((V.map List.length).getD i 0 + 1) = (V.set i (V.getD i [] ++ [x])).map List.length := by
  rw [List.map_set, List.length_append, getD_mapL (d := []) hi]
  rfl
theorem lens_of {n : Nat} {V : List (List Rat)} {pk : List Nat} (lV : V.length = n) (h : ∀ k, k < n → pk.getD k 0 < (V.map List.length).getD k 0) : ∀ k, k < n → pk.getD k 0 < (V.getD k []).length := fun k hk => by
  have := h k hk
  rw [getD_mapL (d := []) (by omega)] at this
  exact this
theorem lens_appN {V : List (List Nat)} {i x : Nat} (hi : i < V.length) : (V.map List.length).set i ((V.map List.length).getD i 0 + 1) = (V.set i (V.getD i [] ++ [x])).map List.length := by
  rw [List.map_set, List.length_append, getD_mapL (d := []) hi]
  rfl
def okF (m c : Nat) (l : List Nat) (p : Nat) : Bool := !(decide (p + 1 < l.length) && decide (l.getD (p + 1) 0 + m ≤ c))
theorem range_all_false {n k : Nat} {f : Nat → Bool} (hk : k < n) (h : f k = false) : (List.range n).all f = false := by
  cases e : (List.range n).all f with
  | false => rfl
  | true =>
    have := List.all_eq_true.mp e k (List.mem_range.mpr hk)
    rw [h] at this
    cases this
def spFresh : SpD := fun ds μ Q => ∃ (n m : Nat) (ss : List Stp), ds = [.int (n : Int), stsD ss, .int (m : Int)] ∧ n ≤ 5 ∧ ss.length ≤ 200 ∧ LOk n (List.replicate n 2) ss ∧ m ≤ 200 ∧ ∀ μ', Gr μ μ' → Q (.bl (freshB n m 1 (List.replicate n [0, 0]) ss)) μ'
abbrev s_has_fresh_picks : Stmt := top 14
theorem sc_has_fresh_picks : FnScope ["size", "steps", "number", "came", "_", "count", "at", "picks", "places", "pick"] ["size", "steps", "number"] (defScope s_has_fresh_picks) := ⟨rfl, rfl, rfl, by decide +kernel, rfl, by decide +kernel, by decide +kernel⟩
section
variable {P : Program} {w : World} {K : PySem.W.Frag} {mg : Str → Option Value} {base : Heap}
theorem ok_has_fresh_picks  {f : Addr} {fd : FuncData} (F : Fun K "has_fresh_picks" "has_fresh_picks" s_has_fresh_picks f fd) (hm : mg "has_fresh_picks" = some (.ref f)) (hb : Binds K fd ["size", "steps", "number"] []) (m_enumerate : mg "enumerate" = none) (m_len : mg "len" = none) (m_range : mg "range" = none) (m_zip : mg "zip" = none)  :
    DefOk P w K mg base 1 "has_fresh_picks" s_has_fresh_picks ["size", "steps", "number"] spFresh := by
  refine def_ok F hm hb sc_has_fresh_picks (fun ds μ Q h => by first | (obtain ⟨_, rfl, h⟩ := h; rfl) | (obtain ⟨_, _, rfl, h⟩ := h; rfl) | (obtain ⟨_, _, _, rfl, h⟩ := h; rfl) | (obtain ⟨_, _, _, _, rfl, h⟩ := h; rfl) | (obtain ⟨_, _, _, _, _, rfl, h⟩ := h; rfl) | (obtain ⟨_, _, _, _, _, _, rfl, h⟩ := h; rfl) | (obtain ⟨_, _, _, _, _, _, _, rfl, h⟩ := h; rfl) | (obtain ⟨_, _, _, _, _, _, _, _, rfl, h⟩ := h; rfl) | (obtain ⟨_, _, _, _, _, _, _, _, _, rfl, h⟩ := h; rfl) | (obtain ⟨_, _, _, _, _, _, _, _, _, _, rfl, h⟩ := h; rfl) | (obtain ⟨_, _, _, _, _, _, _, _, _, _, _, rfl, h⟩ := h; rfl) | (obtain ⟨_, _, _, _, _, _, _, _, _, _, _, _, rfl, h⟩ := h; rfl) | (obtain ⟨_, _, _, _, _, _, _, _, _, _, _, _, _, rfl, h⟩ := h; rfl) | (obtain ⟨_, _, _, _, _, _, _, _, _, _, _, _, _, _, rfl, h⟩ := h; rfl) | (obtain ⟨_, _, _, _, _, _, _, _, _, _, _, _, _, _, _, rfl, h⟩ := h; rfl) | (obtain ⟨_, _, _, _, _, _, _, _, _, _, _, _, _, _, _, _, rfl, h⟩ := h; rfl)) _ (fun qual f cdv A fs s H E hgd room => (dss_cons (ds_setLc (i := 3) (own := [("_", 4)]) (g := .nm 4) rfl sc_has_fresh_picks.nd rfl rfl (sw_true rfl rfl rfl (by decide +kernel)) (di_rng m_range (da_cons (de_var 0 (pv 0)) da_nil)) (blkOk_by (by kernel_rfl)) (by decide) (fun _ _ _ _ _ => (pg_name (i := 4) sc_has_fresh_picks.nd rfl (Or.inl rfl))) (fun _ _ _ _ _ => dts_nil) (fun _ _ _ _ _ => (de_lstM (da_cons de_int (da_cons de_int da_nil)))))
      (dss_cons (ds_for (g := .tn [.inl 5, .inr [6, 7]]) PassesOwn.never rfl (di_enumS m_enumerate (da_cons (de_var 1 (pv 1)) da_nil) (pk_cons pe_int pk_nil)) (pg_tup rfl (pgs_cons (pg_name (i := 5) sc_has_fresh_picks.nd rfl (Or.inl rfl)) (pgs_cons (pg_tup rfl (pgs_cons (pg_name (i := 6) sc_has_fresh_picks.nd rfl (Or.inl rfl)) (pgs_cons (pg_name (i := 7) sc_has_fresh_picks.nd rfl (Or.inl rfl)) pgs_nil))) pgs_nil))) (dss_cons (ds_for (g := .tp [8, 9]) PassesOwn.never rfl (di_zipX m_zip (da_cons (de_var 3 (pv 3)) (da_cons (de_var 7 (pv 7)) da_nil))) (pg_tup rfl (pgs_cons (pg_name (i := 8) sc_has_fresh_picks.nd rfl (Or.inl rfl)) (pgs_cons (pg_name (i := 9) sc_has_fresh_picks.nd rfl (Or.inl rfl)) pgs_nil))) (dss_one (ds_if (dt_w (dw_and (dt_cmp op_lt lift_lt (de_op (OpR.or op_add (OpR.or op_catA op_cat)) lift_add (de_var 9 (pv 9)) de_int) (de_callB call_len_seq lift_len rfl m_len (by decide +kernel) (da_cons (de_var 8 (pv 8)) da_nil))) (dw_and1 (dt_cmp op_le lift_le (de_ix (de_var 8 (pv 8)) (de_op (OpR.or op_add (OpR.or op_catA op_cat)) lift_add (de_var 9 (pv 9)) de_int)) (de_op op_sub lift_sub (de_var 5 (pv 5)) (de_var 2 (pv 2))))))) (dss_one (ds_ret de_bl)) dss_nil)))
      (dss_one (ds_app (ps_expr (pe_bm PySem.F.plainAttrs_list PySem.F.slot_list_append PySem.F.type_list_append mt_append (de_ix (de_var 3 (pv 3)) (de_var 6 (pv 6))) (da_cons (de_var 5 (pv 5)) da_nil)))))))
      (dss_one (ds_ret de_bl))))) fun ds μ Q h => ?_
  obtain ⟨n, m, ss, rfl, h5, hl, ok, hm, q⟩ := h
  unfold stsD
  walk_at "x"
  rw [Int.toNat_natCast]
  refine lc_lists (List.range n) (fun k : Nat => D.int (k : Int)) (fun _ => [.int 0, .int 0]) (by rw [List.length_range]; omega) (fun k hk μ1 kk hkk => ?_) (fun ps μ2 H2 => ?_)
  · unfold lcStep
    walk_at "x"
    exact fun p hp => hkk p hp
  walk_at "x"
  refine ⟨true, ss.map stD, rfl, ?_⟩
  rw [enumS_map stD (0, [])]
  refine forD_ind (fun ds δ μ' => ∃ (i r : Nat) (W : List (List Nat)) (o4 o5 o6 o7 o8 o9 : Option D), ds = (List.range' i r).map (fun i : Nat => D.tup [.int ((i : Int) + 1), stD (ss.getD i (0, []))]) ∧ i + r = ss.length ∧ W.length = n ∧ LOk n (W.map List.length) (ss.drop i) ∧ freshB n m (i + 1) W (ss.drop i) = freshB n m 1 (List.replicate n [0, 0]) ss ∧ Has μ μ' ps (W.map natsD) ∧ (∀ l ∈ W, l.length ≤ i + 2) ∧ δ = [some (.int (n : Int)), some (.tup (ss.map stD)), some (.int (m : Int)), some (.lst (ps.map .ref)), o4, o5, o6, o7, o8, o9]) ?_ ?_ _ _ _
    ⟨0, ss.length, List.replicate n [0, 0], none, none, none, none, none, none, rfl, by omega, List.length_replicate, by rw [List.map_replicate]; exact ok, rfl, ?_, fun l h => by rw [List.eq_of_mem_replicate h]; decide, rfl⟩
  · rintro δ μ' ⟨i, r, W, o4, o5, o6, o7, o8, o9, hd, hi, lW, ok, hf, hh, hb, rfl⟩
    have hr : r = 0 := by
      cases r with
      | zero => rfl
      | succ r => cases hd
    subst hr
    have hi : i = ss.length := hi
    subst hi
    rw [List.drop_length] at hf
    walk_at "x"
    have := q μ' (has_gr hh)
    rw [← hf] at this
    exact this
  · rintro d ds δ μ' ⟨i, r, W, o4, o5, o6, o7, o8, o9, hd, hi, lW, ok, hf, hh, hb, rfl⟩ nx hnx
    cases r with
    | zero => cases hd
    | succ r =>
      cases hd
      have hil : i < ss.length := by omega
      refine x_tgT2 (ds := [.int ((i : Int) + 1), stD (ss.getD i (0, []))]) rfl ?_
      rw [List.drop_eq_getElem_cons hil, ← getD_lt (d := (0, [])) hil] at ok hf
      revert hf
      revert ok
      generalize ss.getD i (0, []) = s
      obtain ⟨at_, pk⟩ := s
      intro ok hf
      obtain ⟨k1, k2, k3, k4⟩ := ok
      have k1 : at_ < n := k1
      have k2 : pk.length = n := k2
      have hf0 : freshB n m (i + 1) W ((at_, pk) :: ss.drop (i + 1)) = (((List.range n).all fun k => okF m (i + 1) (W.getD k []) (pk.getD k 0)) && freshB n m (i + 1 + 1) (W.set at_ (W.getD at_ [] ++ [i + 1])) (ss.drop (i + 1))) := rfl
      rw [hf0] at hf
      refine x_ns1 (x_ns2 (es := [.int (at_ : Int), pksD pk]) rfl (x_ns0 ?_))
      have lp : ps.length = n := by rw [hh.len, List.length_map, lW]
      have vk : ∀ k, k < n → W[k]? = some (W.getD k []) := fun k hk => by rw [List.getElem?_eq_getElem (by rw [lW]; exact hk), getD_lt (by rw [lW]; exact hk)]
      walk_at "x"
      refine ⟨false, true, ps.map D.ref, pk.map (fun k : Nat => D.int (k : Int)), rfl, ?_⟩
      have ez : zipD (ps.map D.ref) (pk.map fun k : Nat => D.int (k : Int)) = (List.range' 0 n).map fun k => D.tup [.ref (ps.getD k 0), .int ((pk.getD k 0 : Nat) : Int)] := by
        rw [zipD_map]
        refine List.ext_getElem (by simp [lp, k2]) fun k h1 h2 => ?_
        have hk : k < n := by simpa using h2
        simp only [List.getElem_map, List.getElem_zip, List.getElem_range', Nat.zero_add, Nat.one_mul]
        rw [getD_lt (by rw [lp]; exact hk), getD_lt (by rw [k2]; exact hk)]
      rw [ez]
      refine forD_ind (fun ds δ μ2 => ∃ (j q : Nat) (o8 o9 : Option D), ds = (List.range' j q).map (fun k => D.tup [.ref (ps.getD k 0), .int ((pk.getD k 0 : Nat) : Int)]) ∧ j + q = n ∧ (∀ k, k < j → okF m (i + 1) (W.getD k []) (pk.getD k 0) = true) ∧ μ2 = μ' ∧ δ = [some (.int (n : Int)), some (.tup (ss.map stD)), some (.int (m : Int)), some (.lst (ps.map .ref)), o4, some (.int ((i : Int) + 1)), some (.int (at_ : Int)), some (pksD pk), o8, o9]) ?_ ?_ _ _ _
        ⟨0, n, o8, o9, rfl, by omega, fun k h => absurd h (Nat.not_lt_zero k), rfl, rfl⟩
      · rintro δ μ2 ⟨j, t, o8, o9, hd, hj, hok, rfl, rfl⟩
        have ht : t = 0 := by
          cases t with
          | zero => rfl
          | succ t => cases hd
        subst ht
        have hj : j = n := hj
        subst hj
        obtain ⟨p, hp1, hp2⟩ := hh.get (i := at_) (xs := natsD (W.getD at_ [])) (by rw [List.getElem?_map, vk at_ k1]; rfl)
        have hal : ((List.range j).all fun k => okF m (i + 1) (W.getD k []) (pk.getD k 0)) = true := List.all_eq_true.mpr fun k hk => hok k (List.mem_range.mp hk)
        rw [hal, Bool.true_and] at hf
        have bl := hb _ (List.mem_of_getElem? (vk at_ k1))
        walk_at "x"
        refine x_ixL (e := .ref p) (atI_nat (by rw [List.getElem?_map, hp1]; rfl)) ?_
        refine ⟨p, rfl, ⟨_, hp2⟩, ?_⟩
        walk_at "x"
        refine ⟨_, _, rfl, hp2, by unfold natsD; rw [List.length_map]; omega, ?_⟩
        refine hnx _ _ ⟨i + 1, r, W.set at_ (W.getD at_ [] ++ [i + 1]), _, _, _, _, _, _, rfl, by omega, by rw [List.length_set, lW], by rw [← lens_appN (by omega)]; exact k4, hf, ?_, fun l hl => ?_, rfl⟩
        · have := hh.set (ys := natsD (W.getD at_ [] ++ [i + 1])) hp1
          rw [← List.map_set] at this
          have e : natsD (W.getD at_ [] ++ [i + 1]) = natsD (W.getD at_ []) ++ [.int ((i : Int) + 1)] := by
            unfold natsD
            rw [List.map_append]
            rfl
          rw [e] at this
          exact this
        · rcases List.mem_or_eq_of_mem_set hl with hl | rfl
          · have := hb l hl
            omega
          · rw [List.length_append, List.length_singleton]
            omega
      · rintro d2 ds2 δ μ2 ⟨j, t, o8, o9, hd, hj, hok, rfl, rfl⟩ nx2 hnx2
        cases t with
        | zero => cases hd
        | succ t =>
          cases hd
          have hjn : j < n := by omega
          obtain ⟨p, hp1, hp2⟩ := hh.get (i := j) (xs := natsD (W.getD j [])) (by rw [List.getElem?_map, vk j hjn]; rfl)
          have ep : ps.getD j 0 = p := by rw [List.getD_eq_getElem?_getD, hp1]; rfl
          have ln : (natsD (W.getD j [])).length = (W.getD j []).length := List.length_map _
          have next : okF m (i + 1) (W.getD j []) (pk.getD j 0) = true → ∀ k, k < j + 1 → okF m (i + 1) (W.getD k []) (pk.getD k 0) = true := fun h k hk => by
            by_cases e : k = j
            · rw [e]
              exact h
            · exact hok k (by omega)
          refine x_tgT (ds := [.ref (ps.getD j 0), .int ((pk.getD j 0 : Nat) : Int)]) rfl ?_
          rw [ep]
          walk_at "x"
          rw [ln]
          by_cases c1 : pk.getD j 0 + 1 < (W.getD j []).length
          · rw [decide_eq_true (show ((pk.getD j 0 : Nat) : Int) + 1 < (((W.getD j []).length : Nat) : Int) by omega)]
            walk_at "x"
            refine x_natAt (c := W.getD j []) (k := pk.getD j 0 + 1) hp2 c1 ?_
            walk_at "x"
            by_cases c2 : (W.getD j []).getD (pk.getD j 0 + 1) 0 + m ≤ i + 1
            · rw [decide_eq_true (show (((W.getD j []).getD (pk.getD j 0 + 1) 0 : Nat) : Int) ≤ (i : Int) + 1 - (m : Int) by omega)]
              walk_at "x"
              have z : okF m (i + 1) (W.getD j []) (pk.getD j 0) = false := by
                unfold okF
                rw [decide_eq_true c1, decide_eq_true c2]
                rfl
              rw [range_all_false (f := fun k => okF m (i + 1) (W.getD k []) (pk.getD k 0)) hjn z, Bool.false_and] at hf
              have := q μ2 (has_gr hh)
              rw [← hf] at this
              exact this
            · rw [decide_eq_false (show ¬ (((W.getD j []).getD (pk.getD j 0 + 1) 0 : Nat) : Int) ≤ (i : Int) + 1 - (m : Int) by omega)]
              walk_at "x"
              exact hnx2 _ _ ⟨j + 1, t, _, _, rfl, by omega, next (by unfold okF; rw [decide_eq_false c2, Bool.and_false]; rfl), rfl, rfl⟩
          · rw [decide_eq_false (show ¬ ((pk.getD j 0 : Nat) : Int) + 1 < (((W.getD j []).length : Nat) : Int) by omega)]
            walk_at "x"
            exact hnx2 _ _ ⟨j + 1, t, _, _, rfl, by omega, next (by unfold okF; rw [decide_eq_false c1, Bool.false_and]; rfl), rfl, rfl⟩
  · rw [List.map_replicate]
    have e : (List.range n).map (fun _ => [D.int 0, D.int 0]) = List.replicate n (natsD [0, 0]) := by
      rw [List.map_const', List.length_range]
      rfl
    rw [← e]
    exact H2
end
def spTidy : SpD := fun ds μ Q => ∃ (n m : Nat) (ss : List Stp), ds = [.int (n : Int), stsD ss, .int (m : Int)] ∧ n ≠ 0 ∧ n ≤ 5 ∧ ss.length ≤ 200 ∧ LOk n (List.replicate n 2) ss ∧ m ≠ 0 ∧ m ≤ 200 ∧ ∀ μ', Gr μ μ' → Q (.bl (tidyB n m ss)) μ'
theorem LOk.ats {n : Nat} : ∀ {ss : List Stp} {c : List Nat}, LOk n c ss → ∀ s ∈ ss, s.1 < n
  | [], _, _, s, h => absurd h List.not_mem_nil
  | s0 :: r, c, ⟨h1, _, _, h4⟩, s, h => by
    rcases List.mem_cons.mp h with rfl | h
    · exact h1
    · exact LOk.ats h4 s h
abbrev s_is_tidy : Stmt := top 12
theorem sc_is_tidy : FnScope ["size", "steps", "number"] ["size", "steps", "number"] (defScope s_is_tidy) := ⟨rfl, rfl, rfl, by decide +kernel, rfl, by decide +kernel, by decide +kernel⟩
section
variable {P : Program} {w : World} {K : PySem.W.Frag} {mg : Str → Option Value} {base : Heap}
theorem ok_is_tidy  {f : Addr} {fd : FuncData} (F : Fun K "is_tidy" "is_tidy" s_is_tidy f fd) (hm : mg "is_tidy" = some (.ref f)) (hb : Binds K fd ["size", "steps", "number"] []) (c_MOST_LATE_STEPS : ∃ t, mg "MOST_LATE_STEPS" = some (.int 200 t)) (c_MOST_ROWS : ∃ t, mg "MOST_ROWS" = some (.int 5 t)) (D_has_fresh_picks : DefOk P w K mg base 1 "has_fresh_picks" s_has_fresh_picks ["size", "steps", "number"] spFresh) (D_require_number : DefOk P w K mg base 1 "require_number" s_require_number ["value", "low", "high"] spReqNum) (D_require_steps : DefOk P w K mg base 3 "require_steps" s_require_steps ["size", "value"] spReqSteps) (D_takes_all : DefOk P w K mg base 2 "takes_all" s_takes_all ["size", "steps", "number"] spTakes)  :
    DefOk P w K mg base 4 "is_tidy" s_is_tidy ["size", "steps", "number"] spTidy := by
  refine def_ok F hm hb sc_is_tidy (fun ds μ Q h => by first | (obtain ⟨_, rfl, h⟩ := h; rfl) | (obtain ⟨_, _, rfl, h⟩ := h; rfl) | (obtain ⟨_, _, _, rfl, h⟩ := h; rfl) | (obtain ⟨_, _, _, _, rfl, h⟩ := h; rfl) | (obtain ⟨_, _, _, _, _, rfl, h⟩ := h; rfl) | (obtain ⟨_, _, _, _, _, _, rfl, h⟩ := h; rfl) | (obtain ⟨_, _, _, _, _, _, _, rfl, h⟩ := h; rfl) | (obtain ⟨_, _, _, _, _, _, _, _, rfl, h⟩ := h; rfl) | (obtain ⟨_, _, _, _, _, _, _, _, _, rfl, h⟩ := h; rfl) | (obtain ⟨_, _, _, _, _, _, _, _, _, _, rfl, h⟩ := h; rfl) | (obtain ⟨_, _, _, _, _, _, _, _, _, _, _, rfl, h⟩ := h; rfl) | (obtain ⟨_, _, _, _, _, _, _, _, _, _, _, _, rfl, h⟩ := h; rfl) | (obtain ⟨_, _, _, _, _, _, _, _, _, _, _, _, _, rfl, h⟩ := h; rfl) | (obtain ⟨_, _, _, _, _, _, _, _, _, _, _, _, _, _, rfl, h⟩ := h; rfl) | (obtain ⟨_, _, _, _, _, _, _, _, _, _, _, _, _, _, _, rfl, h⟩ := h; rfl) | (obtain ⟨_, _, _, _, _, _, _, _, _, _, _, _, _, _, _, _, rfl, h⟩ := h; rfl)) _ (fun qual f cdv A fs s H E hgd room => (dss_cons (ds_expr (de_call hgd D_require_number (room.mono (by decide)) (da_cons (de_var 0 (pv 0)) (da_cons de_int (da_cons (de_gInt rfl c_MOST_ROWS) da_nil)))))
      (dss_cons (ds_expr (de_call hgd D_require_steps (room.mono (by decide)) (da_cons (de_var 0 (pv 0)) (da_cons (de_var 1 (pv 1)) da_nil))))
      (dss_cons (ds_expr (de_call hgd D_require_number (room.mono (by decide)) (da_cons (de_var 2 (pv 2)) (da_cons de_int (da_cons (de_gInt rfl c_MOST_LATE_STEPS) da_nil)))))
      (dss_one (ds_ret (de_and (de_call hgd D_takes_all (room.mono (by decide)) (da_cons (de_var 0 (pv 0)) (da_cons (de_var 1 (pv 1)) (da_cons (de_var 2 (pv 2)) da_nil)))) (de_one (de_call hgd D_has_fresh_picks (room.mono (by decide)) (da_cons (de_var 0 (pv 0)) (da_cons (de_var 1 (pv 1)) (da_cons (de_var 2 (pv 2)) da_nil)))))))))))) fun ds μ Q h => ?_
  obtain ⟨n, m, ss, rfl, n0, h5, hl, ok, m0, hm, q⟩ := h
  walk_at "x"
  refine ⟨_, _, _, rfl, by omega, by omega, ?_⟩
  walk_at "x"
  refine ⟨n, ss, rfl, h5, hl, ok, ?_⟩
  walk_at "x"
  refine ⟨_, _, _, rfl, by omega, by omega, ?_⟩
  walk_at "x"
  refine ⟨n, m, ss, rfl, h5, hl, ok.ats, hm, ?_⟩
  walk_at "x"
  cases hT : takesB n m ss with
  | true =>
    walk_at "x"
    refine ⟨n, m, ss, rfl, h5, hl, ok, hm, fun μ' g => ?_⟩
    have := q μ' g
    unfold tidyB at this
    rw [hT, Bool.true_and] at this
    exact this
  | false =>
    have := q μ (Gr.refl μ)
    unfold tidyB at this
    rw [hT, Bool.false_and] at this
    walk_at "x"
    exact this
end
end R7
-- R7F
set_option maxRecDepth 100000
namespace R7
open PySem PySem.Spec PyProof.Rows L2 DL
local macro_rules | `(tactic| walk_at "look") => `(tactic| first | rfl | assumption | exact mset_same | (rw [mset_ne (by assumption)]; first | rfl | assumption | exact mset_same) | (show mset _ _ _ _ = _; first | exact mset_same | (rw [mset_ne (by assumption)]; assumption)))
local macro_rules | `(tactic| walk_at "small") => `(tactic| first | exact mulc (by decide) | exact mulcl (by decide) | exact mulc ⟨by omega, by omega⟩ | exact mulcl ⟨by omega, by omega⟩)
local macro_rules | `(tactic| walk_at "x1") => `(tactic| first
  | (with_reducible first
    | refine x_seq ?_ | refine x_ifS ?_ | refine x_test ?_ | refine x_op ?_ | refine x_c ?_ | refine x_bl ?_
    | refine x_cb ?_ | refine x_call ?_ | refine x_cons ?_ | refine x_nil ?_ | refine x_int ?_ | refine x_abs ?_ | refine x_add ?_ | refine x_sub ?_
    | refine x_lt ?_ | refine x_le ?_ | refine x_gt ?_ | refine x_ge ?_ | refine x_lenT ?_ | refine x_lenL ?_ | refine x_lenS ?_ | refine x_tupOfL ?_ | refine x_tupOfT ?_
    | refine x_tup ?_ | refine x_lst ?_ | refine x_asg ?_ | refine x_set ?_ | refine x_ret ?_ | refine x_next ?_ | refine x_drop ?_
    | refine x_gCons ?_ | refine x_gNil ?_ | refine x_gName ?_ | refine x_gSub ?_
    | refine x_and ?_ | refine x_or ?_ | refine x_not ?_ | refine x_andV ?_ | refine x_orV ?_ | refine x_notV ?_ | refine x_if ?_ | refine x_chain ?_
    | refine x_sl ?_ | refine x_slT ?_ | refine x_slL ?_ | refine x_slS ?_ | refine x_sumI ?_ | refine x_lstM ?_ | refine x_yes ?_ | refine x_tgN ?_
    | refine x_mk ?_ | refine x_mk1 ?_ | refine x_mk0 ?_ | refine x_neg ?_ | refine x_neg1 ?_ | refine x_dic0 ?_ | refine x_dic1 ?_
    | refine x_for ?_ | refine x_iLst ?_ | refine x_iLst1 ?_ | refine x_iTup ?_ | refine x_iTup1 ?_ | refine x_iAny ?_ | refine x_iAnyT ?_ | refine x_iAnyL ?_ | refine x_iAnyS ?_ | refine x_iZipX ?_ | refine x_iZipV ?_ | refine x_iEnumS ?_ | refine x_lenSet ?_ | refine x_iRng ?_ | refine x_iRngAB ?_ | refine x_lc ?_ | refine x_lcM ?_ | refine x_par ?_ | refine x_par3 ?_ | refine x_isN ?_ | refine x_forget ?_ | refine x_notN ?_ | refine x_iEnum ?_ | refine x_iEnumX ?_ | refine x_par1 ?_ | refine x_app ?_
    | refine x_eqI ?_ | refine x_neI ?_ | refine x_eqS ?_ | refine x_neS ?_ | refine x_attr ?_ | refine x_augL ?_ | refine x_int1 ?_ | refine x_iZipM ?_ | refine x_allM ?_ | refine x_rev ?_ | refine x_rev1 ?_ | refine x_forM ?_ | refine x_isTyY ?_ | refine x_notTyN ?_ | refine x_gcd ?_ | refine x_ext ?_ | refine x_listRg0 ?_ | refine x_iZip ?_ | refine x_iZip1 ?_ | refine x_iZip2 ?_ | refine x_eqE ?_ | refine x_neE ?_ | refine x_allG ?_ | refine x_allG2 ?_ | refine x_isB ?_ | refine x_notB ?_ | refine x_part ?_ | refine x_neg1 ?_ | refine x_noPart ?_ | refine x_fr0 ?_ | refine x_fr1 ?_ | refine x_raise ?_ | refine x_raise0 ?_ | refine x_callX ?_ | refine x_callW ?_ | refine x_callWX ?_ | refine x_try ?_ | refine x_xattr ?_ | refine iteT ?_ | refine iteF ?_ | refine iteNT ?_ | refine iteNF ?_)
  | ((with_reducible refine x_type (n := ?nn) ?hA ?_); (case hA => rfl))
  | ((with_reducible refine x_isi (n := ?nn) (b := true) ?hA ?hB ?_); (case hA => rfl); (case hB => rfl))
  | ((with_reducible refine x_isi (n := ?nn) (b := false) ?hA ?hB ?_); (case hA => rfl); (case hB => rfl))
  | ((with_reducible refine x_isTyN ?hA ?_); (case hA => decide))
  | ((with_reducible refine x_notTyY ?hA ?_); (case hA => decide))
  | ((with_reducible refine x_var (d := ?dd) ?hA ?_); (case hA => rfl))
  | ((with_reducible refine x_augI (a := ?aa) ?hA ?_); (case hA => rfl))
  | ((with_reducible refine x_ixR (ds := ?dd) (e := ?ee) ?hA ?hB ?_); (case hA => walk_at "look"); (case hB => rfl))
  | ((with_reducible refine x_ixT (e := ?ee) ?hB ?_); (case hB => rfl))
  | ((with_reducible refine x_ixL (e := ?ee) ?hB ?_); (case hB => rfl))
  | ((with_reducible refine x_lenR (ds := ?dd) ?hA ?_); (case hA => walk_at "look"))
  | ((with_reducible refine x_slR (ds := ?dd) ?hA ?_); (case hA => walk_at "look"))
  | ((with_reducible refine x_mul ?hA ?_); (case hA => walk_at "small"))
  | ((with_reducible refine x_mod ?hA ?_); (case hA => first | decide | omega))
  | ((with_reducible refine x_fdiv ?hA ?_); (case hA => exact div_small (by decide) (by decide)))
  | ((with_reducible refine x_pow ?hA ?_); (case hA => exact ⟨by decide, by decide, by decide⟩))
  | ((with_reducible refine x_divmod ?hA ?_); (case hA => exact ⟨by omega, by omega⟩))
  | ((with_reducible refine x_gSub1 (ds := ?dd) (m := ?mm) ?hA ?hB ?_); (case hA => walk_at "look"); (case hB => rfl))
  | ((with_reducible refine x_gTup ?hA ?_); (case hA => rfl))
  | ((with_reducible refine x_iRng1 ?hA ?hB ?_); (case hA => first | decide | omega); (case hB => first | decide | omega))
  | ((with_reducible refine x_addT ?hA ?_); (case hA => first | decide | (simp only [List.length_cons, List.length_nil, List.length_append]; omega)))
  | ((with_reducible refine x_addL ?hA ?_); (case hA => first | decide | (simp only [List.length_cons, List.length_nil, List.length_append]; omega)))
  | (refine And.intro ?hA ?_; (case hA => first | decide | (simp only [List.length_cons, List.length_nil, List.length_append]; omega))))
local macro_rules | `(tactic| walk_at "x") => `(tactic| repeat (walk_at "x1"))
local macro_rules | `(tactic| walk_at "tidy") => `(tactic| simp only [mset_mset])

theorem x_ninN {μ : Mem} {Q : DK} {i : Nat} {l : List Nat} (k : Q (.bl (!decide (i ∈ l))) μ) : dIn true (.int (i : Int)) (.lst (l.map fun k : Nat => D.int (k : Int))) μ Q := by
  refine x_inI (ns := l.map fun k : Nat => (k : Int)) (by show some _ = some _; rw [List.map_map]; rfl) ?_
  have e : decide ((i : Int) ∈ l.map fun k : Nat => (k : Int)) = decide (i ∈ l) := by
    congr 1
    refine propext ⟨fun h => ?_, fun h => List.mem_map.mpr ⟨i, h, rfl⟩⟩
    obtain ⟨j, hj, e⟩ := List.mem_map.mp h
    have : j = i := by omega
    rw [← this]
    exact hj
  rw [if_pos rfl, e]
  exact k
theorem x_neB {a b : Bool} {μ : Mem} {Q : DK} (q : Q (.bl (!decide (a = b))) μ) : dNe (.bl a) (.bl b) μ Q := x_ne (x := .bool a) (y := .bool b) rfl rfl rfl rfl (by cases a <;> cases b <;> exact q)
theorem filt_nil {n : Nat} {f : Nat → Bool} : ((List.range n).filter fun k => !f k) = [] ↔ (List.range n).all f = true := by
  rw [List.filter_eq_nil_iff, List.all_eq_true]
  constructor
  · intro h k hk
    have := h k hk
    cases e : f k with
    | true => rfl
    | false => rw [e] at this; exact absurd rfl this
  · intro h k hk e
    rw [h k hk] at e
    cases e
def spDueL : SpD := fun ds μ Q => ∃ (n m : Nat) (ss : List Stp), ds = [.int (n : Int), stsD ss, .int (m : Int)] ∧ n ≤ 5 ∧ ss.length ≤ 200 ∧ LOk n (List.replicate n 2) ss ∧ m ≠ 0 ∧ m ≤ 200 ∧ ∀ μ', Gr μ μ' → Q (.bl (tidyB n m ss)) μ'
abbrev s_law_is_due : Stmt := top 20
theorem sc_law_is_due : FnScope ["n", "steps", "number", "start", "taken", "k", "j", "came", "i", "picks"] ["n", "steps", "number"] (defScope s_law_is_due) := ⟨rfl, rfl, rfl, by decide +kernel, rfl, by decide +kernel, by decide +kernel⟩
section
variable {P : Program} {w : World} {K : PySem.W.Frag} {mg : Str → Option Value} {base : Heap}
theorem ok_law_is_due  {f : Addr} {fd : FuncData} (F : Fun K "_law_is_due" "_law_is_due" s_law_is_due f fd) (hm : mg "_law_is_due" = some (.ref f)) (hb : Binds K fd ["n", "steps", "number"] []) (m_len : mg "len" = none) (m_range : mg "range" = none)  :
    DefOk P w K mg base 1 "_law_is_due" s_law_is_due ["n", "steps", "number"] spDueL := by
  refine def_ok F hm hb sc_law_is_due (fun ds μ Q h => by first | (obtain ⟨_, rfl, h⟩ := h; rfl) | (obtain ⟨_, _, rfl, h⟩ := h; rfl) | (obtain ⟨_, _, _, rfl, h⟩ := h; rfl) | (obtain ⟨_, _, _, _, rfl, h⟩ := h; rfl) | (obtain ⟨_, _, _, _, _, rfl, h⟩ := h; rfl) | (obtain ⟨_, _, _, _, _, _, rfl, h⟩ := h; rfl) | (obtain ⟨_, _, _, _, _, _, _, rfl, h⟩ := h; rfl) | (obtain ⟨_, _, _, _, _, _, _, _, rfl, h⟩ := h; rfl) | (obtain ⟨_, _, _, _, _, _, _, _, _, rfl, h⟩ := h; rfl) | (obtain ⟨_, _, _, _, _, _, _, _, _, _, rfl, h⟩ := h; rfl) | (obtain ⟨_, _, _, _, _, _, _, _, _, _, _, rfl, h⟩ := h; rfl) | (obtain ⟨_, _, _, _, _, _, _, _, _, _, _, _, rfl, h⟩ := h; rfl) | (obtain ⟨_, _, _, _, _, _, _, _, _, _, _, _, _, rfl, h⟩ := h; rfl) | (obtain ⟨_, _, _, _, _, _, _, _, _, _, _, _, _, _, rfl, h⟩ := h; rfl) | (obtain ⟨_, _, _, _, _, _, _, _, _, _, _, _, _, _, _, rfl, h⟩ := h; rfl) | (obtain ⟨_, _, _, _, _, _, _, _, _, _, _, _, _, _, _, _, rfl, h⟩ := h; rfl)) _ (fun qual f cdv A fs s H E hgd room => have hu := room.units; (dss_cons (ds_for (g := .nm 3) PassesOwn.never rfl (di_rng m_range (da_cons (de_op (OpR.or op_add (OpR.or op_catA op_cat)) lift_add (de_op op_sub lift_sub (de_callB call_len_seq lift_len rfl m_len (by decide +kernel) (da_cons (de_var 1 (pv 1)) da_nil)) (de_var 2 (pv 2))) de_int) da_nil)) (pg_name (i := 3) sc_law_is_due.nd rfl (Or.inl rfl)) (dss_cons (ds_set (i := 4) sc_law_is_due.nd rfl (Or.inr rfl) (de_lc (own := [("k", 5)]) (g := .nm 5) rfl sc_law_is_due.nd (di_rngAB m_range (da_cons (de_var 3 (pv 3)) (da_cons (de_op (OpR.or op_add (OpR.or op_catA op_cat)) lift_add (de_var 3 (pv 3)) (de_var 2 (pv 2))) da_nil))) (blkOk_by (by kernel_rfl)) (by decide) (fun _ _ _ _ _ => (pg_name (i := 5) sc_law_is_due.nd rfl (Or.inl rfl))) (fun _ _ _ _ _ => dts_nil) (fun _ _ _ _ _ => (de_ix (de_ix (de_var 1 (pv 1)) (de_var 5 (pv 5))) de_int))))
      (dss_one (ds_if (dt_cmp (OpR.or (op_neD hu) op_ne) lift_ne (de_lc (own := [("j", 6)]) (g := .nm 6) rfl sc_law_is_due.nd (di_rng m_range (da_cons (de_var 0 (pv 0)) da_nil)) (blkOk_by (by kernel_rfl)) (by decide) (fun _ _ _ _ _ => (pg_name (i := 6) sc_law_is_due.nd rfl (Or.inl rfl))) (fun _ _ _ _ _ => (dts_one (dt_cmp op_notIn_seq lift_in (de_var 6 (pv 6)) (de_var 4 (pv 4))))) (fun _ _ _ _ _ => (de_var 6 (pv 6)))) (de_lst da_nil)) (dss_one (ds_ret de_bl)) dss_nil))))
      (dss_cons (ds_setLc (i := 7) (own := [("j", 6)]) (g := .nm 6) rfl sc_law_is_due.nd rfl rfl (sw_true rfl rfl rfl (by decide +kernel)) (di_rng m_range (da_cons (de_var 0 (pv 0)) da_nil)) (blkOk_by (by kernel_rfl)) (by decide) (fun _ _ _ _ _ => (pg_name (i := 6) sc_law_is_due.nd rfl (Or.inl rfl))) (fun _ _ _ _ _ => dts_nil) (fun _ _ _ _ _ => (de_lstM (da_cons de_int (da_cons de_int da_nil)))))
      (dss_cons (ds_for (g := .nm 5) PassesOwn.never rfl (di_rngAB m_range (da_cons de_int (da_cons (de_op (OpR.or op_add (OpR.or op_catA op_cat)) lift_add (de_callB call_len_seq lift_len rfl m_len (by decide +kernel) (da_cons (de_var 1 (pv 1)) da_nil)) de_int) da_nil))) (pg_name (i := 5) sc_law_is_due.nd rfl (Or.inl rfl)) (dss_cons (ds_asg (de_ix (de_var 1 (pv 1)) (de_op op_sub lift_sub (de_var 5 (pv 5)) de_int)) (dg_tup (n := 2) rfl (dgs_cons (dg_name (pg_name (i := 8) sc_law_is_due.nd rfl (Or.inl rfl))) (dgs_cons (dg_name (pg_name (i := 9) sc_law_is_due.nd rfl (Or.inl rfl))) dgs_nil))))
      (dss_cons (ds_for (g := .nm 6) PassesOwn.never rfl (di_rng m_range (da_cons (de_var 0 (pv 0)) da_nil)) (pg_name (i := 6) sc_law_is_due.nd rfl (Or.inl rfl)) (dss_one (ds_if (dt_w (dw_and (dt_cmp op_lt lift_lt (de_op (OpR.or op_add (OpR.or op_catA op_cat)) lift_add (de_ix (de_var 9 (pv 9)) (de_var 6 (pv 6))) de_int) (de_callB call_len_seq lift_len rfl m_len (by decide +kernel) (da_cons (de_ix (de_var 7 (pv 7)) (de_var 6 (pv 6))) da_nil))) (dw_and1 (dt_cmp op_le lift_le (de_ix (de_ix (de_var 7 (pv 7)) (de_var 6 (pv 6))) (de_op (OpR.or op_add (OpR.or op_catA op_cat)) lift_add (de_ix (de_var 9 (pv 9)) (de_var 6 (pv 6))) de_int)) (de_op op_sub lift_sub (de_var 5 (pv 5)) (de_var 2 (pv 2))))))) (dss_one (ds_ret de_bl)) dss_nil)))
      (dss_one (ds_app (ps_expr (pe_bm PySem.F.plainAttrs_list PySem.F.slot_list_append PySem.F.type_list_append mt_append (de_ix (de_var 7 (pv 7)) (de_var 8 (pv 8))) (da_cons (de_var 5 (pv 5)) da_nil))))))))
      (dss_one (ds_ret de_bl)))))) fun ds μ Q h => ?_
  obtain ⟨n, m, ss, rfl, h5, hl, ok, m0, hm, q⟩ := h
  unfold stsD
  walk_at "x"
  refine ⟨_, rfl, by rw [List.length_map]; omega, by rw [List.length_map]; omega, ?_⟩
  rw [List.length_map, show ((ss.length : Int) - (m : Int) + 1).toNat = ss.length + 1 - m by omega, List.range_eq_range']
  refine forD_ind (fun ds δ μ' => ∃ (j t : Nat) (o3 o4 o5 o6 o7 o8 o9 : Option D), ds = (List.range' j t).map (fun k : Nat => D.int (k : Int)) ∧ j + t = ss.length + 1 - m ∧ (∀ f, f < j → ((List.range n).all fun k => decide (k ∈ ((ss.drop f).take m).map (·.1))) = true) ∧ μ' = μ ∧ δ = [some (.int (n : Int)), some (.tup (ss.map stD)), some (.int (m : Int)), o3, o4, o5, o6, o7, o8, o9]) ?_ ?_ _ _ _
    ⟨0, ss.length + 1 - m, none, none, none, none, none, none, none, rfl, by omega, fun f h => absurd h (Nat.not_lt_zero f), rfl, rfl⟩
  · rintro δ μ0 ⟨j, t, o3, o4, o5, o6, o7, o8, o9, hd, hj, hw, rfl, rfl⟩
    have ht : t = 0 := by
      cases t with
      | zero => rfl
      | succ t => cases hd
    subst ht
    have hj : j = ss.length + 1 - m := hj
    have hT : takesB n m ss = true := List.all_eq_true.mpr fun f hf => hw f (by rw [hj]; exact List.mem_range.mp hf)
    walk_at "x"
    rw [Int.toNat_natCast]
    refine lc_lists (List.range n) (fun k : Nat => D.int (k : Int)) (fun _ => [.int 0, .int 0]) (by rw [List.length_range]; omega) (fun k hk μ1 kk hkk => ?_) (fun ps μ2 H2 => ?_)
    · unfold lcStep
      walk_at "x"
      exact fun p hp => hkk p hp
    walk_at "x"
    refine ⟨_, _, rfl, by rw [List.length_map]; omega, ?_⟩
    rw [List.length_map, show ((ss.length : Int) + 1 - 1).toNat = ss.length by omega, List.range_eq_range']
    refine forD_ind (fun ds δ μ' => ∃ (i r : Nat) (W : List (List Nat)) (o3 o4 o5 o6 o8 o9 : Option D), ds = (List.range' i r).map (fun i : Nat => D.int (1 + (i : Int))) ∧ i + r = ss.length ∧ W.length = n ∧ LOk n (W.map List.length) (ss.drop i) ∧ freshB n m (i + 1) W (ss.drop i) = freshB n m 1 (List.replicate n [0, 0]) ss ∧ Has μ0 μ' ps (W.map natsD) ∧ (∀ l ∈ W, l.length ≤ i + 2) ∧ δ = [some (.int (n : Int)), some (.tup (ss.map stD)), some (.int (m : Int)), o3, o4, o5, o6, some (.lst (ps.map .ref)), o8, o9]) ?_ ?_ _ _ _
      ⟨0, ss.length, List.replicate n [0, 0], _, _, _, _, _, _, rfl, by omega, List.length_replicate, by rw [List.map_replicate]; exact ok, rfl, ?_, fun l h => by rw [List.eq_of_mem_replicate h]; decide, rfl⟩
    · rintro δ μ' ⟨i, r, W, o3, o4, o5, o6, o8, o9, hd, hi, lW, ok, hf, hh, hb, rfl⟩
      have hr : r = 0 := by
        cases r with
        | zero => rfl
        | succ r => cases hd
      subst hr
      have hi : i = ss.length := hi
      subst hi
      rw [List.drop_length] at hf
      walk_at "x"
      have := q μ' (has_gr hh)
      unfold tidyB at this
      rw [hT, ← hf] at this
      exact this
    · rintro d ds δ μ' ⟨i, r, W, o3, o4, o5, o6, o8, o9, hd, hi, lW, ok, hf, hh, hb, rfl⟩ nx hnx
      cases r with
      | zero => cases hd
      | succ r =>
        cases hd
        have hil : i < ss.length := by omega
        rw [List.drop_eq_getElem_cons hil, ← getD_lt (d := (0, [])) hil] at ok hf
        have hst : (ss.map stD)[i]? = some (stD (ss.getD i (0, []))) := by rw [List.getElem?_map, List.getElem?_eq_getElem hil, getD_lt hil]; rfl
        revert hst
        revert hf
        revert ok
        generalize ss.getD i (0, []) = s
        obtain ⟨at_, pk⟩ := s
        intro ok hf hst
        obtain ⟨k1, k2, k3, k4⟩ := ok
        have k1 : at_ < n := k1
        have k2 : pk.length = n := k2
        have hf0 : freshB n m (i + 1) W ((at_, pk) :: ss.drop (i + 1)) = (((List.range n).all fun k => okF m (i + 1) (W.getD k []) (pk.getD k 0)) && freshB n m (i + 1 + 1) (W.set at_ (W.getD at_ [] ++ [i + 1])) (ss.drop (i + 1))) := rfl
        rw [hf0] at hf
        have vk : ∀ k, k < n → W[k]? = some (W.getD k []) := fun k hk => by rw [List.getElem?_eq_getElem (by rw [lW]; exact hk), getD_lt (by rw [lW]; exact hk)]
        walk_at "x"
        rw [show (1 : Int) + (i : Int) - 1 = (i : Int) by omega]
        refine x_ixT (e := .tup [.int (at_ : Int), pksD pk]) (atI_nat hst) ?_
        walk_at "x"
        rw [Int.toNat_natCast, List.range_eq_range']
        refine forD_ind (fun ds δ μ2 => ∃ (j t : Nat) (o6 : Option D), ds = (List.range' j t).map (fun k : Nat => D.int (k : Int)) ∧ j + t = n ∧ (∀ k, k < j → okF m (i + 1) (W.getD k []) (pk.getD k 0) = true) ∧ μ2 = μ' ∧ δ = [some (.int (n : Int)), some (.tup (ss.map stD)), some (.int (m : Int)), o3, o4, some (.int (1 + (i : Int))), o6, some (.lst (ps.map .ref)), some (.int (at_ : Int)), some (pksD pk)]) ?_ ?_ _ _ _
          ⟨0, n, o6, rfl, by omega, fun k h => absurd h (Nat.not_lt_zero k), rfl, rfl⟩
        · rintro δ μ2 ⟨j, t, o6, hd, hj, hok, rfl, rfl⟩
          have ht : t = 0 := by
            cases t with
            | zero => rfl
            | succ t => cases hd
          subst ht
          have hj : j = n := hj
          subst hj
          obtain ⟨p, hp1, hp2⟩ := hh.get (i := at_) (xs := natsD (W.getD at_ [])) (by rw [List.getElem?_map, vk at_ k1]; rfl)
          have hal : ((List.range j).all fun k => okF m (i + 1) (W.getD k []) (pk.getD k 0)) = true := List.all_eq_true.mpr fun k hk => hok k (List.mem_range.mp hk)
          rw [hal, Bool.true_and] at hf
          have bl := hb _ (List.mem_of_getElem? (vk at_ k1))
          walk_at "x"
          refine x_ixL (e := .ref p) (atI_nat (by rw [List.getElem?_map, hp1]; rfl)) ?_
          refine ⟨p, rfl, ⟨_, hp2⟩, ?_⟩
          walk_at "x"
          refine ⟨_, _, rfl, hp2, by unfold natsD; rw [List.length_map]; omega, ?_⟩
          refine hnx _ _ ⟨i + 1, r, W.set at_ (W.getD at_ [] ++ [i + 1]), _, _, _, _, _, _, rfl, by omega, by rw [List.length_set, lW], by rw [← lens_appN (by omega)]; exact k4, hf, ?_, fun l hl => ?_, rfl⟩
          · have := hh.set (ys := natsD (W.getD at_ [] ++ [i + 1])) hp1
            rw [← List.map_set] at this
            have e : natsD (W.getD at_ [] ++ [i + 1]) = natsD (W.getD at_ []) ++ [.int (1 + (i : Int))] := by
              unfold natsD
              rw [List.map_append]
              show _ ++ [D.int ((i + 1 : Nat) : Int)] = _
              rw [show ((i + 1 : Nat) : Int) = 1 + (i : Int) by omega]
            rw [e] at this
            exact this
          · rcases List.mem_or_eq_of_mem_set hl with hl | rfl
            · have := hb l hl
              omega
            · rw [List.length_append, List.length_singleton]
              omega
        · rintro d2 ds2 δ μ2 ⟨j, t, o6, hd, hj, hok, rfl, rfl⟩ nx2 hnx2
          cases t with
          | zero => cases hd
          | succ t =>
            cases hd
            have hjn : j < n := by omega
            obtain ⟨p, hp1, hp2⟩ := hh.get (i := j) (xs := natsD (W.getD j [])) (by rw [List.getElem?_map, vk j hjn]; rfl)
            have ln : (natsD (W.getD j [])).length = (W.getD j []).length := List.length_map _
            have hpk : atI (pk.map fun k : Nat => D.int (k : Int)) (j : Int) = some (.int ((pk.getD j 0 : Nat) : Int)) := atI_nat (by rw [List.getElem?_map, List.getElem?_eq_getElem (by omega), getD_lt (by omega)]; rfl)
            have hcm : atI (ps.map D.ref) (j : Int) = some (.ref p) := atI_nat (by rw [List.getElem?_map, hp1]; rfl)
            have next : okF m (i + 1) (W.getD j []) (pk.getD j 0) = true → ∀ k, k < j + 1 → okF m (i + 1) (W.getD k []) (pk.getD k 0) = true := fun h k hk => by
              by_cases e : k = j
              · rw [e]
                exact h
              · exact hok k (by omega)
            unfold pksD
            walk_at "x"
            refine x_ixT hpk ?_
            walk_at "x"
            refine x_ixL hcm ?_
            walk_at "x"
            rw [ln]
            by_cases c1 : pk.getD j 0 + 1 < (W.getD j []).length
            · rw [decide_eq_true (show ((pk.getD j 0 : Nat) : Int) + 1 < (((W.getD j []).length : Nat) : Int) by omega)]
              walk_at "x"
              refine x_ixL hcm ?_
              walk_at "x"
              refine x_ixT hpk ?_
              walk_at "x"
              refine x_natAt (c := W.getD j []) (k := pk.getD j 0 + 1) hp2 c1 ?_
              walk_at "x"
              by_cases c2 : (W.getD j []).getD (pk.getD j 0 + 1) 0 + m ≤ i + 1
              · rw [decide_eq_true (show (((W.getD j []).getD (pk.getD j 0 + 1) 0 : Nat) : Int) ≤ 1 + (i : Int) - (m : Int) by omega)]
                walk_at "x"
                have z : okF m (i + 1) (W.getD j []) (pk.getD j 0) = false := by
                  unfold okF
                  rw [decide_eq_true c1, decide_eq_true c2]
                  rfl
                rw [range_all_false (f := fun k => okF m (i + 1) (W.getD k []) (pk.getD k 0)) hjn z, Bool.false_and] at hf
                have := q μ2 (has_gr hh)
                unfold tidyB at this
                rw [hT, ← hf] at this
                exact this
              · rw [decide_eq_false (show ¬ (((W.getD j []).getD (pk.getD j 0 + 1) 0 : Nat) : Int) ≤ 1 + (i : Int) - (m : Int) by omega)]
                walk_at "x"
                exact hnx2 _ _ ⟨j + 1, t, _, rfl, by omega, next (by unfold okF; rw [decide_eq_false c2, Bool.and_false]; rfl), rfl, rfl⟩
            · rw [decide_eq_false (show ¬ ((pk.getD j 0 : Nat) : Int) + 1 < (((W.getD j []).length : Nat) : Int) by omega)]
              walk_at "x"
              exact hnx2 _ _ ⟨j + 1, t, _, rfl, by omega, next (by unfold okF; rw [decide_eq_false c1, Bool.false_and]; rfl), rfl, rfl⟩
    · rw [List.map_replicate]
      have e : (List.range n).map (fun _ => [D.int 0, D.int 0]) = List.replicate n (natsD [0, 0]) := by
        rw [List.map_const', List.length_range]
        rfl
      rw [← e]
      exact H2
  · rintro d ds δ μ' ⟨j, t, o3, o4, o5, o6, o7, o8, o9, hd, hj, hw, rfl, rfl⟩ nx hnx
    cases t with
    | zero => cases hd
    | succ t =>
      cases hd
      have hjm : j + m ≤ ss.length := by omega
      walk_at "x"
      refine ⟨_, _, rfl, by omega, ?_⟩
      rw [show (j : Int) + (m : Int) - (j : Int) = (m : Int) by omega, Int.toNat_natCast]
      refine lc_map (List.range m) (fun i : Nat => D.int ((j : Int) + (i : Int))) (fun i => D.int ((ss.getD (j + i) (0, [])).1 : Int)) (by rw [List.length_range]; omega) (fun i hi Dn acc kk _ hkk => ?_) ?_
      · have hi := List.mem_range.mp hi
        unfold lcStep
        walk_at "x"
        rw [show (j : Int) + (i : Int) = ((j + i : Nat) : Int) by omega]
        refine x_ixT (e := stD (ss.getD (j + i) (0, []))) (atI_nat (by rw [List.getElem?_map, List.getElem?_eq_getElem (by omega), getD_lt (by omega)]; rfl)) ?_
        refine x_ixT (ds := [.int ((ss.getD (j + i) (0, [])).1 : Int), pksD (ss.getD (j + i) (0, [])).2]) (e := .int ((ss.getD (j + i) (0, [])).1 : Int)) rfl ?_
        exact hkk
      have ew : (List.range m).map (fun i => D.int ((ss.getD (j + i) (0, [])).1 : Int)) = (((ss.drop j).take m).map (·.1)).map fun k : Nat => D.int (k : Int) := by
        refine List.ext_getElem (by simp; omega) fun i h1 h2 => ?_
        have hi : i < m := by simpa using h1
        simp only [List.getElem_map, List.getElem_range, List.getElem_take, List.getElem_drop]
        rw [getD_lt (by omega)]
      rw [ew]
      walk_at "x"
      rw [Int.toNat_natCast]
      refine lc_filt (List.range n) (fun k : Nat => D.int (k : Int)) (fun k : Nat => D.int (k : Int)) (fun k => !decide (k ∈ ((ss.drop j).take m).map (·.1))) (by rw [List.length_range]; omega) (fun k hk Dn acc kk _ h1 h2 => ?_) ?_
      · unfold lcStep
        walk_at "x"
        refine x_ninN ?_
        cases hc : (!decide (k ∈ ((ss.drop j).take m).map (·.1))) with
        | true =>
          walk_at "x"
          exact h1 hc
        | false =>
          walk_at "x"
          exact h2 hc
      walk_at "x"
      refine x_neP (k := 1) (b := (List.range n).all fun k => decide (k ∈ ((ss.drop j).take m).map (·.1))) pl_ints rfl (by decide) ⟨fun h => ?_, fun h => ?_⟩ ?_
      · rw [filt_nil.mpr h]
        rfl
      · refine filt_nil.mp ?_
        have h := D.lst.inj h
        exact List.map_eq_nil_iff.mp h
      cases hc : ((List.range n).all fun k => decide (k ∈ ((ss.drop j).take m).map (·.1))) with
      | true =>
        walk_at "x"
        refine hnx _ _ ⟨j + 1, t, _, _, _, _, _, _, _, rfl, by omega, fun f hf => ?_, rfl, rfl⟩
        by_cases e : f = j
        · rw [e]
          exact hc
        · exact hw f (by omega)
      | false =>
        walk_at "x"
        have hT : takesB n m ss = false := by
          cases hT : takesB n m ss with
          | false => rfl
          | true =>
            have := List.all_eq_true.mp hT j (List.mem_range.mpr (by omega))
            rw [hc] at this
            cases this
        have := q μ' (Gr.refl _)
        unfold tidyB at this
        rw [hT] at this
        exact this
end
def spDrawnL : SpD := fun ds μ Q => ∃ (a : Addr) (n m : Nat), ds = [.ref a, .int (n : Int), .int (m : Int)] ∧ VatAt μ a ∧ n ≠ 0 ∧ n ≤ 5 ∧ m ≤ 18 ∧ ∀ ss μ', ss.length = m → LOk n (List.replicate n 2) ss → Oth a μ μ' → VatAt μ' a → Q (stsD ss) μ'
abbrev s_law_drawn : Stmt := top 19
theorem sc_law_drawn : FnScope ["vat", "n", "many", "found", "last", "order", "is_wild", "old", "lap", "k", "i", "picks", "j"] ["vat", "n", "many"] (defScope s_law_drawn) := ⟨rfl, rfl, rfl, by decide +kernel, rfl, by decide +kernel, by decide +kernel⟩
section
variable {P : Program} {w : World} {K : PySem.W.Frag} {mg : Str → Option Value} {base : Heap}
theorem ok_law_drawn  {f : Addr} {fd : FuncData} (F : Fun K "_law_drawn" "_law_drawn" s_law_drawn f fd) (hm : mg "_law_drawn" = some (.ref f)) (hb : Binds K fd ["vat", "n", "many"] []) (D_law_cup : DefOk P w K mg base 1 "_law_cup" s_law_cup ["vat", "many"] spCup) (D_law_one_of : DefOk P w K mg base 2 "_law_one_of" s_law_one_of ["vat", "some"] spOneOf) (m_int : mg "int" = none) (m_max : mg "max" = none) (m_range : mg "range" = none) (m_tuple : mg "tuple" = none)  :
    DefOk P w K mg base 3 "_law_drawn" s_law_drawn ["vat", "n", "many"] spDrawnL := by
  refine def_ok F hm hb sc_law_drawn (fun ds μ Q h => by first | (obtain ⟨_, rfl, h⟩ := h; rfl) | (obtain ⟨_, _, rfl, h⟩ := h; rfl) | (obtain ⟨_, _, _, rfl, h⟩ := h; rfl) | (obtain ⟨_, _, _, _, rfl, h⟩ := h; rfl) | (obtain ⟨_, _, _, _, _, rfl, h⟩ := h; rfl) | (obtain ⟨_, _, _, _, _, _, rfl, h⟩ := h; rfl) | (obtain ⟨_, _, _, _, _, _, _, rfl, h⟩ := h; rfl) | (obtain ⟨_, _, _, _, _, _, _, _, rfl, h⟩ := h; rfl) | (obtain ⟨_, _, _, _, _, _, _, _, _, rfl, h⟩ := h; rfl) | (obtain ⟨_, _, _, _, _, _, _, _, _, _, rfl, h⟩ := h; rfl) | (obtain ⟨_, _, _, _, _, _, _, _, _, _, _, rfl, h⟩ := h; rfl) | (obtain ⟨_, _, _, _, _, _, _, _, _, _, _, _, rfl, h⟩ := h; rfl) | (obtain ⟨_, _, _, _, _, _, _, _, _, _, _, _, _, rfl, h⟩ := h; rfl) | (obtain ⟨_, _, _, _, _, _, _, _, _, _, _, _, _, _, rfl, h⟩ := h; rfl) | (obtain ⟨_, _, _, _, _, _, _, _, _, _, _, _, _, _, _, rfl, h⟩ := h; rfl) | (obtain ⟨_, _, _, _, _, _, _, _, _, _, _, _, _, _, _, _, rfl, h⟩ := h; rfl)) _ (fun qual f cdv A fs s H E hgd room => have hu := room.units; (dss_cons (ds_par3 (ps_par3 (i := 3) (j := 4) (l := 5) rfl sc_law_drawn.nd rfl rfl rfl (by decide) (by decide) (by decide) rfl rfl rfl (da_cons (de_lstM da_nil) (da_cons (de_op op_mulA lift_mulAM (de_lst (da_cons de_int da_nil)) (de_var 1 (pv 1))) (da_cons (de_lst da_nil) da_nil))) rfl))
      (dss_cons (ds_par (ps_par (i := 6) (j := 7) rfl sc_law_drawn.nd rfl rfl (by decide) rfl rfl (da_cons (de_cmp (OpR.or (op_eqD hu) op_eq) lift_eq (de_call hgd D_law_cup (room.mono (by decide)) (da_cons (de_var 0 (pv 0)) (da_cons de_int da_nil))) de_int) (da_cons (de_call hgd D_law_one_of (room.mono (by decide)) (da_cons (de_var 0 (pv 0)) (da_cons (de_tup (da_cons de_int (da_cons de_int (da_cons de_int (da_cons de_int da_nil))))) da_nil))) da_nil)) rfl))
      (dss_cons (ds_for (g := .nm 8) PassesOwn.never rfl (di_rng m_range (da_cons (de_var 2 (pv 2)) da_nil)) (pg_name (i := 8) sc_law_drawn.nd rfl (by first | exact Or.inl rfl | exact Or.inr rfl)) (dss_cons (ds_if (dt_cmp (OpR.or (op_eqD hu) op_eq) lift_eq (de_var 5 (pv 5)) (de_lst da_nil)) (dss_cons (ds_setLc (i := 5) (own := [("k", 9)]) (g := .nm 9) rfl sc_law_drawn.nd rfl rfl (sw_true rfl rfl rfl (by decide +kernel)) (di_rng m_range (da_cons (de_var 1 (pv 1)) da_nil)) (blkOk_by (by kernel_rfl)) (by decide) (fun _ _ _ _ _ => (pg_name (i := 9) sc_law_drawn.nd rfl (Or.inl rfl))) (fun _ _ _ _ _ => dts_nil) (fun _ _ _ _ _ => (de_op op_mod lift_mod (de_callTy call_int1 lift_int rfl m_int (by decide +kernel) (da_cons (de_op (OpR.or op_add (OpR.or op_catA op_cat)) lift_add (de_var 9 (pv 9)) (de_var 8 (pv 8))) da_nil)) (de_var 1 (pv 1)))))
      (dss_one (ds_set (i := 5) sc_law_drawn.nd rfl (Or.inl rfl) (de_ifExp (dt_cmp (OpR.or (op_eqD hu) op_eq) lift_eq (de_call hgd D_law_cup (room.mono (by decide)) (da_cons (de_var 0 (pv 0)) (da_cons de_int da_nil))) de_int) (de_rev (de_var 5 (pv 5))) (de_var 5 (pv 5)))))) dss_nil)
      (dss_cons (ds_par (ps_par (i := 10) (j := 11) rfl sc_law_drawn.nd rfl rfl (by decide) rfl rfl (da_cons (de_ix (de_var 5 (pv 5)) de_int) (da_cons (de_lstM da_nil) da_nil)) rfl))
      (dss_cons (ds_set (i := 5) sc_law_drawn.nd rfl (Or.inl rfl) (de_slice (de_var 5 (pv 5)) (do_some de_int) do_none))
      (dss_cons (ds_set (i := 10) sc_law_drawn.nd rfl (Or.inl rfl) (de_ifExp (dt_val (de_var 6 (pv 6))) (de_call hgd D_law_cup (room.mono (by decide)) (da_cons (de_var 0 (pv 0)) (da_cons (de_var 1 (pv 1)) da_nil))) (de_var 10 (pv 10))))
      (dss_cons (ds_for (g := .nm 12) PassesOwn.never rfl (di_rng m_range (da_cons (de_var 1 (pv 1)) da_nil)) (pg_name (i := 12) sc_law_drawn.nd rfl (Or.inl rfl)) (dss_one (ds_app (ps_expr (pe_bm PySem.F.plainAttrs_list PySem.F.slot_list_append PySem.F.type_list_append mt_append (de_var 11 (pv 11)) (da_cons (de_callB (call_max2Nu rfl) lift_max rfl m_max (by decide +kernel) (da_cons de_int (da_cons (de_op op_sub lift_sub (de_ix (de_var 4 (pv 4)) (de_var 12 (pv 12))) (de_call hgd D_law_cup (room.mono (by decide)) (da_cons (de_var 0 (pv 0)) (da_cons (de_var 7 (pv 7)) da_nil)))) da_nil))) da_nil))))))
      (dss_cons (ds_app (ps_expr (pe_bm PySem.F.plainAttrs_list PySem.F.slot_list_append PySem.F.type_list_append mt_append (de_var 3 (pv 3)) (da_cons (de_tup (da_cons (de_var 10 (pv 10)) (da_cons (de_callTy call_tuple_of lift_tupleOf rfl m_tuple (by decide +kernel) (da_cons (de_var 11 (pv 11)) da_nil)) da_nil))) da_nil))))
      (dss_one (ds_asg (de_op (OpR.or op_add (OpR.or op_catA op_cat)) lift_add (de_ix (de_var 4 (pv 4)) (de_var 10 (pv 10))) de_int) (dg_sub (pg_sub (de_var 4 (pv 4)) (de_var 10 (pv 10)) set_list)))))))))))
      (dss_one (ds_ret (de_callTy call_tuple_of lift_tupleOf rfl m_tuple (by decide +kernel) (da_cons (de_var 3 (pv 3)) da_nil)))))))) fun ds μ Q h => ?_
  obtain ⟨a, n, m, rfl, hv, hn, h5, hm, q⟩ := h
  walk_at "x"
  intro p hp
  walk_at "x"
  refine .inr ⟨[.int 1], (n : Int), rfl, rfl, by omega, by omega, by decide, fun p2 hp2 => ?_⟩
  have p2p : p2 ≠ p := fun e => by rw [e, mset_same] at hp2; cases hp2
  rw [mset_ne p2p] at hp2
  rw [Int.toNat_natCast]
  have e0 : (List.replicate n [D.int 1]).flatten = natsD (List.replicate n 1) := by
    unfold natsD
    rw [List.map_replicate, List.flatten_replicate_singleton]
    rfl
  rw [e0]
  have pa := vat_other hv hp
  have p2a := vat_other hv hp2
  walk_at "x"
  refine ⟨_, _, _, rfl, ?_⟩
  walk_at "x"
  refine x_cup (vat_ne (vat_ne hv pa.symm) p2a.symm) (by decide) (by decide) fun w z s c w1 w2 => ?_
  walk_at "x"
  refine x_one vat_set (Nat.succ_pos _) (show 4 < 1000 by decide) fun y z s c hy => ?_
  obtain ⟨old, rfl, ol1, ol2⟩ : ∃ o : Nat, y = .int (o : Int) ∧ 1 ≤ o ∧ o ≤ 3 := by
    simp only [List.mem_cons, List.not_mem_nil, or_false] at hy
    rcases hy with rfl | rfl | rfl | rfl
    · exact ⟨1, rfl, by decide, by decide⟩
    · exact ⟨1, rfl, by decide, by decide⟩
    · exact ⟨2, rfl, by decide, by decide⟩
    · exact ⟨3, rfl, by decide, by decide⟩
  rw [mset_mset]
  generalize decide (w = 0) = wild
  walk_at "x"
  rw [Int.toNat_natCast]
  refine forD_ind (fun ds δ μ' => ∃ (ss : List Stp) (l os : List Nat) (o8 o9 o10 o11 o12 : Option D), ss.length + ds.length = m ∧ (∀ d ∈ ds, ∃ k : Nat, d = .int (k : Int)) ∧ LOk n (List.replicate n 2) ss ∧ l.length = n ∧ (∀ k, k < n → (cntL (List.replicate n 2) ss).getD k 0 = l.getD k 0 + 1 ∧ 1 ≤ l.getD k 0 ∧ l.getD k 0 ≤ 1 + ss.length) ∧ (∀ k ∈ os, k < n) ∧ μ' p = some (ss.map stD) ∧ μ' p2 = some (natsD l) ∧ VatAt μ' a ∧ Oth a μ μ' ∧ δ = [some (.ref a), some (.int (n : Int)), some (.int (m : Int)), some (.ref p), some (.ref p2), some (.lst (natsD os)), some (.bl wild), some (.int (old : Int)), o8, o9, o10, o11, o12]) ?_ ?_ _ _ _
    ⟨[], List.replicate n 1, [], none, none, none, none, none, by simp, fun d hd => by
      obtain ⟨k, _, rfl⟩ := List.mem_map.mp hd
      exact ⟨k, rfl⟩, trivial, List.length_replicate, fun k hk => ?_, fun k h => absurd h List.not_mem_nil, by rw [mset_ne pa, mset_ne p2p.symm]; exact mset_same, by rw [mset_ne p2a]; exact mset_same, vat_set, (((Oth.refl a μ).new hp).new hp2).at, rfl⟩
  · rintro δ μ' ⟨ss, l, os, o8, o9, o10, o11, o12, hs, _, ok, hl, hc, ho, m1, m2, hv', oth, rfl⟩
    walk_at "x"
    refine x_tupOfR m1 ?_
    exact q ss μ' (by simpa using hs) ok oth hv'
  · rintro d ds δ μ' ⟨ss, l, os, o8, o9, o10, o11, o12, hs, hds, ok, hl, hc, ho, m1, m2, hv', oth, rfl⟩ nx hnx
    rw [List.length_cons] at hs
    obtain ⟨lap, rfl⟩ := hds d List.mem_cons_self
    refine x_tgN ?_
    with_reducible refine x_cut (fun δ' μ2 => ∃ (i : Nat) (os : List Nat) (o9 : Option D), i < n ∧ (∀ k ∈ os, k < n) ∧ δ' = [some (.ref a), some (.int (n : Int)), some (.int (m : Int)), some (.ref p), some (.ref p2), some (.lst (natsD (i :: os))), some (.bl wild), some (.int (old : Int)), some (.int (lap : Int)), o9, o10, o11, o12] ∧ μ2 p = some (ss.map stD) ∧ μ2 p2 = some (natsD l) ∧ VatAt μ2 a ∧ Oth a μ μ2) (fun nx1 hnx1 => ?_) ?_
    · walk_at "x"
      cases os with
      | nil =>
        refine x_eqSelf (d := .lst []) (k := 1) rfl (by decide) ?_
        walk_at "x"
        rw [Int.toNat_natCast]
        refine lc_map (List.range n) (fun k : Nat => D.int (k : Int)) (fun k => D.int (((k + lap) % n : Nat) : Int)) (by rw [List.length_range]; omega) (fun k hk Dn acc kk _ hkk => ?_) ?_
        · unfold lcStep
          walk_at "x"
          rw [show ((k : Int) + (lap : Int)) % (n : Int) = (((k + lap) % n : Nat) : Int) by rw [Int.natCast_emod, Int.natCast_add]]
          exact hkk
        have eL : (List.range n).map (fun k => D.int (((k + lap) % n : Nat) : Int)) = natsD ((List.range n).map fun k => (k + lap) % n) := by
          unfold natsD
          rw [List.map_map]
          rfl
        rw [eL]
        have hL : ∀ k ∈ (List.range n).map (fun k => (k + lap) % n), k < n := fun k hk => by
          obtain ⟨j, _, rfl⟩ := List.mem_map.mp hk
          exact Nat.mod_lt _ (by omega)
        have hL0 : ((List.range n).map fun k => (k + lap) % n).length = n := by rw [List.length_map, List.length_range]
        revert hL hL0
        generalize (List.range n).map (fun k => (k + lap) % n) = L
        intro hL hL0
        have fin : ∀ (L : List Nat) (μ2 : Mem) (o9 : Option D), (∀ k ∈ L, k < n) → L.length = n → μ2 p = some (ss.map stD) → μ2 p2 = some (natsD l) → VatAt μ2 a → Oth a μ μ2 → nx1 [some (.ref a), some (.int (n : Int)), some (.int (m : Int)), some (.ref p), some (.ref p2), some (.lst (natsD L)), some (.bl wild), some (.int (old : Int)), some (.int (lap : Int)), o9, o10, o11, o12] μ2 := fun L μ2 o9 h1 h2 h3 h4 h5 h6 => by
          cases L with
          | nil => exact absurd h2.symm hn
          | cons i os => exact hnx1 _ _ ⟨i, os, _, h1 i List.mem_cons_self, fun k hk => h1 k (List.mem_cons_of_mem _ hk), rfl, h3, h4, h5, h6⟩
        walk_at "x"
        refine x_cup hv' (by decide) (by decide) fun w z s c w1 w2 => ?_
        walk_at "x"
        refine ite_d (fun hw => ?_) (fun hw => ?_)
        · walk_at "x"
          rw [show (natsD L).reverse = natsD L.reverse from List.map_reverse.symm]
          exact fin L.reverse _ _ (fun k hk => hL k (List.mem_reverse.mp hk)) (by rw [List.length_reverse]; exact hL0) (by rw [mset_ne pa]; exact m1) (by rw [mset_ne p2a]; exact m2) vat_set oth.at
        · walk_at "x"
          exact fin L _ _ hL hL0 (by rw [mset_ne pa]; exact m1) (by rw [mset_ne p2a]; exact m2) vat_set oth.at
      | cons i os =>
        refine x_eqP (k := 1) (b := false) pl_ints rfl (by decide) ⟨(fun h => by cases h), (fun h => absurd (D.lst.inj h) (List.cons_ne_nil _ _))⟩ ?_
        walk_at "x"
        exact hnx1 _ _ ⟨i, os, _, ho i List.mem_cons_self, fun k hk => ho k (List.mem_cons_of_mem _ hk), rfl, m1, m2, hv', oth⟩
    clear ho m1 m2 hv' oth
    rintro δ μ1 ⟨i, os2, o9, hi, ho, rfl, m1, m2, hv', oth⟩
    with_reducible refine x_cut (fun δ' μ2 => ∃ (pp : Addr), δ' = [some (.ref a), some (.int (n : Int)), some (.int (m : Int)), some (.ref p), some (.ref p2), some (.lst (natsD (i :: os2))), some (.bl wild), some (.int (old : Int)), some (.int (lap : Int)), o9, some (.int (i : Int)), some (.ref pp), o12] ∧ μ2 pp = some [] ∧ pp ≠ a ∧ pp ≠ p ∧ pp ≠ p2 ∧ μ pp = none ∧ μ2 p = some (ss.map stD) ∧ μ2 p2 = some (natsD l) ∧ VatAt μ2 a ∧ Oth a μ μ2) (fun nx1 hnx1 => ?_) ?_
    · walk_at "x"
      refine x_ixL (e := .int (i : Int)) (show atI (natsD (i :: os2)) ((0 : Nat) : Int) = _ from atI_nat rfl) ?_
      walk_at "x"
      intro pp hpp
      have ppa := vat_other hv' hpp
      have pp1 : pp ≠ p := fun e => by rw [e, m1] at hpp; cases hpp
      have pp2 : pp ≠ p2 := fun e => by rw [e, m2] at hpp; cases hpp
      have pp0 := oth_none oth ppa hpp
      walk_at "x"
      exact hnx1 _ _ ⟨pp, rfl, mset_same, ppa, pp1, pp2, pp0, by rw [mset_ne pp1.symm]; exact m1, by rw [mset_ne pp2.symm]; exact m2, vat_ne hv' ppa.symm, oth.new pp0⟩
    clear m1 m2 hv' oth
    rintro δ μ1 ⟨pp, rfl, m0, ppa, pp1, pp2, pp0, m1, m2, hv', oth⟩
    with_reducible refine x_cut (fun δ' μ2 => δ' = [some (.ref a), some (.int (n : Int)), some (.int (m : Int)), some (.ref p), some (.ref p2), some (.lst (natsD os2)), some (.bl wild), some (.int (old : Int)), some (.int (lap : Int)), o9, some (.int (i : Int)), some (.ref pp), o12] ∧ μ2 = μ1) (fun nx1 hnx1 => ?_) ?_
    · walk_at "x"
      rw [show cutD (natsD (i :: os2)) (some 1) none = natsD os2 from cut_from (j := 1) (by unfold natsD; rw [List.length_map, List.length_cons]; omega)]
      exact hnx1 _ _ ⟨rfl, rfl⟩
    rintro δ μ1 ⟨rfl, rfl⟩
    with_reducible refine x_cut (fun δ' μ2 => ∃ (i : Nat), i < n ∧ δ' = [some (.ref a), some (.int (n : Int)), some (.int (m : Int)), some (.ref p), some (.ref p2), some (.lst (natsD os2)), some (.bl wild), some (.int (old : Int)), some (.int (lap : Int)), o9, some (.int (i : Int)), some (.ref pp), o12] ∧ μ2 pp = some [] ∧ μ2 p = some (ss.map stD) ∧ μ2 p2 = some (natsD l) ∧ VatAt μ2 a ∧ Oth a μ μ2) (fun nx1 hnx1 => ?_) ?_
    · walk_at "x"
      cases wild with
      | true =>
        walk_at "x"
        refine x_cup hv' (by omega) (by omega) fun i0 z s c i1 i2 => ?_
        obtain ⟨i', rfl⟩ : ∃ i : Nat, i0 = (i : Int) := ⟨i0.toNat, by omega⟩
        walk_at "x"
        exact hnx1 _ _ ⟨i', by omega, rfl, by rw [mset_ne ppa]; exact m0, by rw [mset_ne pa]; exact m1, by rw [mset_ne p2a]; exact m2, vat_set, oth.at⟩
      | false =>
        walk_at "x"
        exact hnx1 _ _ ⟨i, hi, rfl, m0, m1, m2, hv', oth⟩
    clear m0 m1 m2 hv' oth hi
    rintro δ μ1 ⟨i, hi, rfl, m0, m1, m2, hv', oth⟩
    walk_at "x"
    rw [Int.toNat_natCast, List.range_eq_range']
    refine forD_ind (fun ds δ μ2 => ∃ (j r : Nat) (x : List Nat) (o12 : Option D), ds = (List.range' j r).map (fun k : Nat => D.int (k : Int)) ∧ j + r = n ∧ x.length = j ∧ (∀ k, k < j → x.getD k 0 ≤ l.getD k 0) ∧ μ2 pp = some (natsD x) ∧ μ2 p = some (ss.map stD) ∧ μ2 p2 = some (natsD l) ∧ VatAt μ2 a ∧ Oth a μ μ2 ∧ δ = [some (.ref a), some (.int (n : Int)), some (.int (m : Int)), some (.ref p), some (.ref p2), some (.lst (natsD os2)), some (.bl wild), some (.int (old : Int)), some (.int (lap : Int)), o9, some (.int (i : Int)), some (.ref pp), o12]) ?_ ?_ _ _ _
      ⟨0, n, [], o12, rfl, by omega, rfl, fun k hk => absurd hk (Nat.not_lt_zero k), m0, m1, m2, hv', oth, rfl⟩
    · rintro δ μ2 ⟨j, r, x, o12, hd, hj, hx, hxl, n1, n2, n3, hv2, oth2, rfl⟩
      have hr : r = 0 := by
        cases r with
        | zero => rfl
        | succ m => cases hd
      subst hr
      have hj : j = n := by omega
      subst hj
      walk_at "x"
      refine ⟨p, rfl, ⟨_, n2⟩, ?_⟩
      walk_at "x"
      refine x_tupOfR n1 ?_
      walk_at "x"
      refine ⟨_, _, rfl, n2, by rw [List.length_map]; omega, ?_⟩
      walk_at "x"
      have il : i < l.length := by omega
      refine x_natAt (c := l) (by rw [mset_ne p2p]; exact n3) il ?_
      walk_at "x"
      refine ⟨p2, natsD l, (i : Int), i, rfl, rfl, by rw [mset_ne p2p]; exact n3, ixn (by unfold natsD; rw [List.length_map]; exact il), ?_⟩
      rw [show ((l.getD i 0 : Nat) : Int) + 1 = ((l.getD i 0 + 1 : Nat) : Int) by omega, natsD_set]
      refine hnx _ _ ⟨ss ++ [(i, x)], l.set i (l.getD i 0 + 1), os2, _, _, _, _, _, by rw [List.length_append, List.length_singleton]; omega, fun d hd => hds d (List.mem_cons_of_mem _ hd), ok.snoc (by show i < j; omega) hx (fun k hk => ?_), by rw [List.length_set, hl], fun k hk => ?_, ho, by rw [mset_ne p2p.symm, mset_same, List.map_append]; rfl, mset_same, vat_ne (vat_ne hv2 pa.symm) p2a.symm, ?_, rfl⟩
      · have h1 := hxl k hk
        have h2 := (hc k hk).1
        show x.getD k 0 < _
        omega
      · rw [cntL_snoc, getD_set (by rw [cntL_len, List.length_replicate]; exact hk), getD_set (by rw [hl]; exact hk), List.length_append, List.length_singleton]
        obtain ⟨g1, g2, g3⟩ := hc k hk
        by_cases e : k = i
        · rw [if_pos e, if_pos e]
          subst e
          show (cntL (List.replicate j 2) ss).getD k 0 + 1 = _ ∧ _
          omega
        · rw [if_neg e, if_neg e]
          omega
      · exact (oth2.new hp).new hp2
    · rintro d2 ds2 δ μ2 ⟨j, r, x, o12, hd, hj, hx, hxl, n1, n2, n3, hv2, oth2, rfl⟩ nx2 hnx2
      cases r with
      | zero => cases hd
      | succ r =>
        cases hd
        have jl : j < l.length := by omega
        walk_at "x"
        refine ⟨pp, rfl, ⟨_, n1⟩, ?_⟩
        walk_at "x"
        refine x_natAt n3 jl ?_
        walk_at "x"
        refine x_cup hv2 (by omega) (by omega) fun w z s c w1 w2 => ?_
        walk_at "x"
        refine x_max ?_
        obtain ⟨y', hy1, hy2⟩ : ∃ y' : Nat, max 0 (((l.getD j 0 : Nat) : Int) - w) = (y' : Int) ∧ y' ≤ l.getD j 0 := ⟨(max 0 (((l.getD j 0 : Nat) : Int) - w)).toNat, by omega, by omega⟩
        rw [hy1]
        walk_at "x"
        refine ⟨natsD x, _, rfl, by rw [mset_ne ppa]; exact n1, by unfold natsD; rw [List.length_map]; omega, hnx2 _ _ ⟨j + 1, r, x ++ [y'], _, rfl, by omega, by rw [List.length_append, hx]; rfl, fun k hk => ?_, by rw [mset_same]; unfold natsD; rw [List.map_append]; rfl, by rw [mset_ne pp1.symm, mset_ne pa]; exact n2, by rw [mset_ne pp2.symm, mset_ne p2a]; exact n3, vat_ne vat_set ppa.symm, oth2.at.new pp0, rfl⟩⟩
        by_cases e : k = j
        · rw [e]
          have := (snocN (x := x) (y := y') (k := 0)).2
          rw [hx] at this
          rw [this]
          exact hy2
        · rw [snocN.1 (by rw [hx]; omega)]
          exact hxl k (by omega)
  · have r1 : (List.replicate n 2).getD k 0 = 2 := by rw [getD_lt (by rw [List.length_replicate]; exact hk), List.getElem_replicate]
    have r2 : (List.replicate n 1).getD k 0 = 1 := by rw [getD_lt (by rw [List.length_replicate]; exact hk), List.getElem_replicate]
    rw [r2]
    exact ⟨r1, by omega, by omega⟩
end
theorem takesB_up {n m : Nat} {ss : List Stp} (h : takesB n m ss = true) : takesB n (m + 1) ss = true := List.all_eq_true.mpr fun f hf => by
  have hf := List.mem_range.mp hf
  have := List.all_eq_true.mp h f (List.mem_range.mpr (by omega))
  refine List.all_eq_true.mpr fun k hk => ?_
  have := of_decide_eq_true (List.all_eq_true.mp this k hk)
  refine decide_eq_true ?_
  obtain ⟨s, h1, rfl⟩ := List.mem_map.mp this
  refine List.mem_map.mpr ⟨s, ?_, rfl⟩
  obtain ⟨i, hi, e⟩ := List.mem_iff_getElem.mp h1
  rw [List.length_take, List.length_drop] at hi
  rw [List.getElem_take, List.getElem_drop] at e
  refine List.mem_iff_getElem.mpr ⟨i, by rw [List.length_take, List.length_drop]; omega, ?_⟩
  rw [List.getElem_take, List.getElem_drop]
  exact e
theorem freshB_up {n m : Nat} : ∀ {ss : List Stp} {c : Nat} {W : List (List Nat)}, freshB n m c W ss = true → freshB n (m + 1) c W ss = true
  | [], _, _, _ => rfl
  | s :: r, c, W, h => by
    have h : (((List.range n).all fun k => !(decide (s.2.getD k 0 + 1 < (W.getD k []).length) && decide ((W.getD k []).getD (s.2.getD k 0 + 1) 0 + m ≤ c))) && freshB n m (c + 1) (W.set s.1 (W.getD s.1 [] ++ [c])) r) = true := h
    rw [Bool.and_eq_true] at h
    show (((List.range n).all fun k => !(decide (s.2.getD k 0 + 1 < (W.getD k []).length) && decide ((W.getD k []).getD (s.2.getD k 0 + 1) 0 + (m + 1) ≤ c))) && freshB n (m + 1) (c + 1) (W.set s.1 (W.getD s.1 [] ++ [c])) r) = true
    rw [Bool.and_eq_true]
    refine ⟨List.all_eq_true.mpr fun k hk => ?_, freshB_up h.2⟩
    have := List.all_eq_true.mp h.1 k hk
    by_cases c2 : (W.getD k []).getD (s.2.getD k 0 + 1) 0 + (m + 1) ≤ c
    · rw [decide_eq_true (show (W.getD k []).getD (s.2.getD k 0 + 1) 0 + m ≤ c by omega)] at this
      rw [decide_eq_true c2]
      exact this
    · rw [decide_eq_false c2, Bool.and_false]
      rfl
theorem freshB_big {n m : Nat} : ∀ {ss : List Stp} {c : Nat} {W : List (List Nat)}, c + ss.length ≤ m → freshB n m c W ss = true
  | [], _, _, _ => rfl
  | s :: r, c, W, h => by
    rw [List.length_cons] at h
    show (((List.range n).all fun k => !(decide (s.2.getD k 0 + 1 < (W.getD k []).length) && decide ((W.getD k []).getD (s.2.getD k 0 + 1) 0 + m ≤ c))) && freshB n m (c + 1) (W.set s.1 (W.getD s.1 [] ++ [c])) r) = true
    rw [Bool.and_eq_true]
    refine ⟨List.all_eq_true.mpr fun k hk => ?_, freshB_big (by omega)⟩
    rw [decide_eq_false (show ¬ (W.getD k []).getD (s.2.getD k 0 + 1) 0 + m ≤ c by omega), Bool.and_false]
    rfl
theorem tidyB_up {n m : Nat} {ss : List Stp} (h : tidyB n m ss = true) : tidyB n (m + 1) ss = true := by
  unfold tidyB at h ⊢
  rw [Bool.and_eq_true] at h ⊢
  exact ⟨takesB_up h.1, freshB_up h.2⟩
theorem tidyB_le {n m : Nat} {ss : List Stp} (h : tidyB n m ss = true) : ∀ k, tidyB n (m + k) ss = true
  | 0 => h
  | k + 1 => tidyB_up (tidyB_le h k)
theorem tidyB_big {n m : Nat} {ss : List Stp} (h : ss.length < m) : tidyB n m ss = true := by
  unfold tidyB takesB
  rw [show ss.length + 1 - m = 0 by omega, freshB_big (by omega)]
  rfl
theorem gr_oth {a : Addr} {μ μ' : Mem} (h : Gr μ μ') : Oth a μ μ' := fun b xs _ e => h b xs e
theorem gr_vat {a : Addr} {μ μ' : Mem} (h : Gr μ μ') (v : VatAt μ a) : VatAt μ' a := by
  obtain ⟨z, s, c, e⟩ := v
  exact ⟨z, s, c, h a _ e⟩
def spRight : SpD := fun ds μ Q => ∃ a, ds = [.ref a] ∧ VatAt μ a ∧ ∀ μ', Oth a μ μ' → Q (.bl true) μ'
abbrev s_law_right : Stmt := top 21
theorem sc_law_right : FnScope ["vat", "n", "steps", "least", "number", "due"] ["vat"] (defScope s_law_right) := ⟨rfl, rfl, rfl, by decide +kernel, rfl, by decide +kernel, by decide +kernel⟩
section
variable {P : Program} {w : World} {K : PySem.W.Frag} {mg : Str → Option Value} {base : Heap}
theorem ok_law_right  {f : Addr} {fd : FuncData} (F : Fun K "_law_right" "_law_right" s_law_right f fd) (hm : mg "_law_right" = some (.ref f)) (hb : Binds K fd ["vat"] []) (D_law_cup : DefOk P w K mg base 1 "_law_cup" s_law_cup ["vat", "many"] spCup) (D_law_drawn : DefOk P w K mg base 3 "_law_drawn" s_law_drawn ["vat", "n", "many"] spDrawnL) (D_law_is_due : DefOk P w K mg base 1 "_law_is_due" s_law_is_due ["n", "steps", "number"] spDueL) (D_law_one_of : DefOk P w K mg base 2 "_law_one_of" s_law_one_of ["vat", "some"] spOneOf) (D_is_tidy : DefOk P w K mg base 4 "is_tidy" s_is_tidy ["size", "steps", "number"] spTidy) (m_max : mg "max" = none) (m_repr : mg "repr" = none)  :
    DefOk P w K mg base 5 "_law_right" s_law_right ["vat"] spRight := by
  refine def_ok F hm hb sc_law_right (fun ds μ Q h => by first | (obtain ⟨_, rfl, h⟩ := h; rfl) | (obtain ⟨_, _, rfl, h⟩ := h; rfl) | (obtain ⟨_, _, _, rfl, h⟩ := h; rfl) | (obtain ⟨_, _, _, _, rfl, h⟩ := h; rfl) | (obtain ⟨_, _, _, _, _, rfl, h⟩ := h; rfl) | (obtain ⟨_, _, _, _, _, _, rfl, h⟩ := h; rfl) | (obtain ⟨_, _, _, _, _, _, _, rfl, h⟩ := h; rfl) | (obtain ⟨_, _, _, _, _, _, _, _, rfl, h⟩ := h; rfl) | (obtain ⟨_, _, _, _, _, _, _, _, _, rfl, h⟩ := h; rfl) | (obtain ⟨_, _, _, _, _, _, _, _, _, _, rfl, h⟩ := h; rfl) | (obtain ⟨_, _, _, _, _, _, _, _, _, _, _, rfl, h⟩ := h; rfl) | (obtain ⟨_, _, _, _, _, _, _, _, _, _, _, _, rfl, h⟩ := h; rfl) | (obtain ⟨_, _, _, _, _, _, _, _, _, _, _, _, _, rfl, h⟩ := h; rfl) | (obtain ⟨_, _, _, _, _, _, _, _, _, _, _, _, _, _, rfl, h⟩ := h; rfl) | (obtain ⟨_, _, _, _, _, _, _, _, _, _, _, _, _, _, _, rfl, h⟩ := h; rfl) | (obtain ⟨_, _, _, _, _, _, _, _, _, _, _, _, _, _, _, _, rfl, h⟩ := h; rfl)) _ (fun qual f cdv A fs s H E hgd room => have hu := room.units; (dss_cons (ds_set (i := 1) sc_law_right.nd rfl (Or.inl rfl) (de_op (OpR.or op_add (OpR.or op_catA op_cat)) lift_add de_int (de_call hgd D_law_cup (room.mono (by decide)) (da_cons (de_var 0 (pv 0)) (da_cons de_int da_nil)))))
      (dss_cons (ds_set (i := 2) sc_law_right.nd rfl (Or.inl rfl) (de_call hgd D_law_drawn (room.mono (by decide)) (da_cons (de_var 0 (pv 0)) (da_cons (de_var 1 (pv 1)) (da_cons (de_call hgd D_law_one_of (room.mono (by decide)) (da_cons (de_var 0 (pv 0)) (da_cons (de_tup (da_cons de_int (da_cons de_int (da_cons de_int (da_cons de_int (da_cons de_int (da_cons de_int (da_cons de_int (da_cons de_int da_nil))))))))) da_nil))) da_nil)))))
      (dss_cons (ds_set (i := 3) sc_law_right.nd rfl (Or.inl rfl) de_int)
      (dss_cons (ds_while PassesOwn.never (dt_not (dt_val (de_call hgd D_law_is_due (room.mono (by decide)) (da_cons (de_var 1 (pv 1)) (da_cons (de_var 2 (pv 2)) (da_cons (de_var 3 (pv 3)) da_nil)))))) (dss_one (ds_set (i := 3) sc_law_right.nd rfl (Or.inl rfl) (de_op (OpR.or op_add (OpR.or op_catA op_cat)) lift_add (de_var 3 (pv 3)) de_int))))
      (dss_cons (ds_for (g := .nm 4) PassesOwn.never rfl (di_any (de_tup (da_cons (de_var 3 (pv 3)) (da_cons (de_op (OpR.or op_add (OpR.or op_catA op_cat)) lift_add (de_var 3 (pv 3)) de_int) (da_cons de_int (da_cons (de_op (OpR.or op_add (OpR.or op_catA op_cat)) lift_add de_int (de_call hgd D_law_cup (room.mono (by decide)) (da_cons (de_var 0 (pv 0)) (da_cons de_int da_nil)))) (da_cons (de_callB (call_max2Nu rfl) lift_max rfl m_max (by decide +kernel) (da_cons de_int (da_cons (de_op op_sub lift_sub (de_var 3 (pv 3)) de_int) da_nil))) (da_cons (de_var 1 (pv 1)) da_nil)))))))) (pg_name (i := 4) sc_law_right.nd rfl (Or.inl rfl)) (dss_cons (ds_set (i := 5) sc_law_right.nd rfl (Or.inl rfl) (de_call hgd D_law_is_due (room.mono (by decide)) (da_cons (de_var 1 (pv 1)) (da_cons (de_var 2 (pv 2)) (da_cons (de_var 4 (pv 4)) da_nil)))))
      (dss_cons (ds_if (dt_cmp (OpR.or (op_neD hu) op_ne) lift_ne (de_repr room hgd m_repr (da_cons (de_lst (da_cons (de_call hgd D_is_tidy (room.mono (by decide)) (da_cons (de_var 1 (pv 1)) (da_cons (de_var 2 (pv 2)) (da_cons (de_var 4 (pv 4)) da_nil)))) (da_cons (de_callW (by exact hgd) D_is_tidy (by exact room.mono (by decide)) [2, 1, 0] (m := 3) (fun _ _ _ _ _ _ _ ws hl => match ws, hl with | [_, _, _], _ => rfl) (dk_cons (de_var 4 (pv 4)) (dk_cons (de_var 2 (pv 2)) (dk_cons (de_var 1 (pv 1)) dk_nil))) (fun δ μ Q h => by simpa [dCons, dNil] using h)) da_nil))) da_nil)) (de_repr room hgd m_repr (da_cons (de_lst (da_cons (de_var 5 (pv 5)) (da_cons (de_var 5 (pv 5)) da_nil))) da_nil))) (dss_one (ds_ret de_bl)) dss_nil)
      (dss_one (ds_if (dt_cmp (OpR.or (op_neD hu) op_ne) lift_ne (de_var 5 (pv 5)) (de_cmp op_ge lift_ge (de_var 4 (pv 4)) (de_var 3 (pv 3)))) (dss_one (ds_ret de_bl)) dss_nil)))))
      (dss_one (ds_ret (de_cmp op_isBl lift_isB (de_call hgd D_is_tidy (room.mono (by decide)) (da_cons (de_var 1 (pv 1)) (da_cons (de_tup da_nil) (da_cons (de_op (OpR.or op_add (OpR.or op_catA op_cat)) lift_add de_int (de_call hgd D_law_cup (room.mono (by decide)) (da_cons (de_var 0 (pv 0)) (da_cons de_int da_nil)))) da_nil)))) de_bl))))))))) fun ds μ Q h => ?_
  obtain ⟨a, rfl, hv, q⟩ := h
  with_reducible refine x_cut (fun δ' μ' => ∃ n : Nat, n ≠ 0 ∧ n ≤ 5 ∧ δ' = [some (.ref a), some (.int (n : Int)), none, none, none, none] ∧ Oth a μ μ' ∧ VatAt μ' a) (fun nx hnx => ?_) ?_
  · walk_at "x"
    refine x_cup hv (by omega) (by omega) fun n0 z s c c1 c2 => ?_
    obtain ⟨m, rfl⟩ : ∃ m : Nat, n0 = (m : Int) := ⟨n0.toNat, by omega⟩
    walk_at "x"
    rw [show (1 : Int) + (m : Int) = ((m + 1 : Nat) : Int) by omega]
    exact hnx _ _ ⟨m + 1, by omega, by omega, rfl, (Oth.refl a μ).at, vat_set⟩
  rintro δ μ1 ⟨n, hn, h5, rfl, o1, hv1⟩
  with_reducible refine x_cut (fun δ' μ' => ∃ ss : List Stp, ss.length ≤ 18 ∧ LOk n (List.replicate n 2) ss ∧ δ' = [some (.ref a), some (.int (n : Int)), some (stsD ss), none, none, none] ∧ Oth a μ μ' ∧ VatAt μ' a) (fun nx hnx => ?_) ?_
  · walk_at "x"
    refine x_one hv1 (Nat.succ_pos _) (show 8 < 1000 by decide) fun d z s c hd => ?_
    have hm : ∃ m : Nat, d = .int (m : Int) ∧ m ≤ 18 := by
      simp only [List.mem_cons, List.not_mem_nil, or_false] at hd
      rcases hd with rfl | rfl | rfl | rfl | rfl | rfl | rfl | rfl
      · exact ⟨0, rfl, by decide⟩
      · exact ⟨1, rfl, by decide⟩
      · exact ⟨2, rfl, by decide⟩
      · exact ⟨3, rfl, by decide⟩
      · exact ⟨5, rfl, by decide⟩
      · exact ⟨8, rfl, by decide⟩
      · exact ⟨12, rfl, by decide⟩
      · exact ⟨18, rfl, by decide⟩
    obtain ⟨m, rfl, hm⟩ := hm
    walk_at "x"
    refine ⟨a, n, m, rfl, vat_set, hn, h5, hm, fun ss μ' ls ok o' hv' => ?_⟩
    walk_at "x"
    exact hnx _ _ ⟨ss, by omega, ok, rfl, o1.at.trans o', hv'⟩
  rintro δ μ2 ⟨ss, hl, ok, rfl, o2, hv2⟩
  with_reducible refine x_cut (fun δ' μ' => δ' = [some (.ref a), some (.int (n : Int)), some (stsD ss), some (.int ((1 : Nat) : Int)), none, none] ∧ μ' = μ2) (fun nx hnx => ?_) ?_
  · walk_at "x"
    exact hnx _ _ ⟨rfl, rfl⟩
  rintro δ μ3 ⟨rfl, rfl⟩
  with_reducible refine x_cut (fun δ' μ' => ∃ b : Nat, b ≠ 0 ∧ b ≤ 19 ∧ tidyB n b ss = true ∧ (∀ k, 1 ≤ k → k < b → tidyB n k ss = false) ∧ δ' = [some (.ref a), some (.int (n : Int)), some (stsD ss), some (.int (b : Int)), none, none] ∧ Oth a μ μ' ∧ VatAt μ' a) (fun nx hnx => ?_) ?_
  · refine ⟨fun w δ μ' => ∃ b : Nat, b ≠ 0 ∧ b + w = 20 ∧ (∀ k, 1 ≤ k → k < b → tidyB n k ss = false) ∧ δ = [some (.ref a), some (.int (n : Int)), some (stsD ss), some (.int (b : Int)), none, none] ∧ Oth a μ μ' ∧ VatAt μ' a, ⟨19, 1, by decide, by decide, fun k h1 h2 => absurd h1 (by omega), rfl, o2, hv2⟩, ?_⟩
    rintro w δ μ' ⟨b, b0, bw, hlow, rfl, o, hv'⟩
    walk_at "x"
    refine ⟨n, b, ss, rfl, h5, by omega, ok, b0, by omega, fun μ5 g => ?_⟩
    have h19 : tidyB n 19 ss = true := tidyB_big (by omega)
    have h20 : tidyB n 20 ss = true := tidyB_big (by omega)
    cases hT : tidyB n b ss with
    | true =>
      walk_at "x"
      refine hnx _ _ ⟨b, b0, ?_, hT, hlow, rfl, o.trans (gr_oth g), gr_vat g hv'⟩
      rcases Nat.lt_or_ge 19 b with h | h
      · rw [hlow 19 (by decide) h] at h19
        cases h19
      · exact h
    | false =>
      have w0 : w ≠ 0 := fun e => by
        rw [show b = 20 by omega, h20] at hT
        cases hT
      walk_at "x"
      refine ⟨w - 1, by omega, b + 1, by omega, by omega, fun k k1 k2 => ?_, rfl, o.trans (gr_oth g), gr_vat g hv'⟩
      by_cases e : k = b
      · rw [e]
        exact hT
      · exact hlow k k1 (by omega)
  rintro δ μ4 ⟨b, b0, b19, hT, hlow, rfl, o4, hv4⟩
  walk_at "x"
  refine x_cup hv4 (by decide) (by decide) fun c0 z s c c1 c2 => ?_
  walk_at "x"
  refine x_max ?_
  walk_at "x"
  refine forD_ind (fun ds δ μ' => (∀ d ∈ ds, ∃ k : Nat, d = .int (k : Int) ∧ k ≠ 0 ∧ k ≤ 200) ∧ ∃ o4 o5 : Option D, δ = [some (.ref a), some (.int (n : Int)), some (stsD ss), some (.int (b : Int)), o4, o5] ∧ Oth a μ μ' ∧ VatAt μ' a) ?_ ?_ _ _ _
    ⟨fun d hd => ?_, none, none, rfl, o4.at, vat_set⟩
  · rintro δ μ' ⟨_, o4, o5, rfl, o, hv'⟩
    walk_at "x"
    refine x_cup hv' (by decide) (by decide) fun c0 z s c c1 c2 => ?_
    obtain ⟨m, rfl⟩ : ∃ m : Nat, c0 = (m : Int) := ⟨c0.toNat, by omega⟩
    walk_at "x"
    rw [show (1 : Int) + (m : Int) = ((m + 1 : Nat) : Int) by omega]
    refine ⟨n, m + 1, [], rfl, hn, h5, by decide, trivial, by omega, by omega, fun μ6 g => ?_⟩
    rw [tidyB_big (n := n) (m := m + 1) (ss := []) (Nat.succ_pos m)]
    walk_at "x"
    exact q _ (o.at.trans (gr_oth g))
  · rintro d ds δ μ' ⟨hds, o4, o5, rfl, o, hv'⟩ nx hnx
    obtain ⟨k, rfl, k0, kl⟩ := hds d List.mem_cons_self
    walk_at "x"
    refine ⟨n, k, ss, rfl, h5, by omega, ok, k0, kl, fun μ6 g6 => ?_⟩
    walk_at "x"
    refine ⟨n, k, ss, rfl, hn, h5, by omega, ok, k0, kl, fun μ7 g7 => ?_⟩
    walk_at "x"
    refine ⟨n, k, ss, rfl, hn, h5, by omega, ok, k0, kl, fun μ8 g8 => ?_⟩
    walk_at "x"
    refine x_reprE (lst2_so so_bl so_bl) (by decide) (by decide) fun s hs => ?_
    walk_at "x"
    refine hs _ _ ?_
    refine x_neS ⟨_, rfl, ?_⟩
    rw [decide_eq_true rfl, if_neg (by decide)]
    walk_at "x"
    have key : tidyB n k ss = decide ((b : Int) ≤ (k : Int)) := by
      by_cases h : b ≤ k
      · rw [decide_eq_true (show (b : Int) ≤ (k : Int) by omega)]
        have := tidyB_le hT (k - b)
        rw [show b + (k - b) = k by omega] at this
        exact this
      · rw [decide_eq_false (show ¬ (b : Int) ≤ (k : Int) by omega)]
        exact hlow k (by omega) (by omega)
    refine x_neB ?_
    rw [key, decide_eq_true rfl]
    walk_at "x"
    exact hnx _ _ ⟨fun d hd => hds d (List.mem_cons_of_mem _ hd), _, _, rfl, ((o.trans (gr_oth g6)).trans (gr_oth g7)).trans (gr_oth g8), gr_vat g8 (gr_vat g7 (gr_vat g6 hv'))⟩
  · simp only [List.mem_cons, List.not_mem_nil, or_false] at hd
    rcases hd with rfl | rfl | rfl | rfl | rfl | rfl
    · exact ⟨b, rfl, b0, by omega⟩
    · exact ⟨b + 1, rfl, by omega, by omega⟩
    · exact ⟨200, rfl, by decide, by decide⟩
    · exact ⟨(1 + c0).toNat, by congr 1; omega, by omega, by omega⟩
    · exact ⟨(max 1 ((b : Int) - 1)).toNat, by congr 1; omega, by omega, by omega⟩
    · exact ⟨n, rfl, hn, by omega⟩
end
end R7
-- R7G
set_option maxRecDepth 100000
namespace R7
open PySem PySem.Spec PyProof.Rows L2 DL
local macro_rules | `(tactic| walk_at "look") => `(tactic| first | rfl | assumption | exact mset_same | (rw [mset_ne (by assumption)]; first | rfl | assumption | exact mset_same) | (show mset _ _ _ _ = _; first | exact mset_same | (rw [mset_ne (by assumption)]; assumption)))
local macro_rules | `(tactic| walk_at "small") => `(tactic| first | exact mulc (by decide) | exact mulcl (by decide) | exact mulc ⟨by omega, by omega⟩ | exact mulcl ⟨by omega, by omega⟩)
local macro_rules | `(tactic| walk_at "x1") => `(tactic| first
  | (with_reducible first
    | refine x_seq ?_ | refine x_ifS ?_ | refine x_test ?_ | refine x_op ?_ | refine x_c ?_ | refine x_bl ?_
    | refine x_cb ?_ | refine x_call ?_ | refine x_cons ?_ | refine x_nil ?_ | refine x_int ?_ | refine x_abs ?_ | refine x_add ?_ | refine x_sub ?_
    | refine x_lt ?_ | refine x_le ?_ | refine x_gt ?_ | refine x_ge ?_ | refine x_lenT ?_ | refine x_lenL ?_ | refine x_lenS ?_ | refine x_tupOfL ?_ | refine x_tupOfT ?_
    | refine x_tup ?_ | refine x_lst ?_ | refine x_asg ?_ | refine x_set ?_ | refine x_ret ?_ | refine x_next ?_ | refine x_drop ?_
    | refine x_gCons ?_ | refine x_gNil ?_ | refine x_gName ?_ | refine x_gSub ?_
    | refine x_and ?_ | refine x_or ?_ | refine x_not ?_ | refine x_andV ?_ | refine x_orV ?_ | refine x_notV ?_ | refine x_if ?_ | refine x_chain ?_
    | refine x_sl ?_ | refine x_slT ?_ | refine x_slL ?_ | refine x_slS ?_ | refine x_sumI ?_ | refine x_lstM ?_ | refine x_yes ?_ | refine x_tgN ?_
    | refine x_mk ?_ | refine x_mk1 ?_ | refine x_mk0 ?_ | refine x_neg ?_ | refine x_neg1 ?_ | refine x_dic0 ?_ | refine x_dic1 ?_
    | refine x_for ?_ | refine x_iLst ?_ | refine x_iLst1 ?_ | refine x_iTup ?_ | refine x_iTup1 ?_ | refine x_iAny ?_ | refine x_iAnyT ?_ | refine x_iAnyL ?_ | refine x_iAnyS ?_ | refine x_iZipX ?_ | refine x_iZipV ?_ | refine x_iEnumS ?_ | refine x_lenSet ?_ | refine x_iRng ?_ | refine x_iRngAB ?_ | refine x_lc ?_ | refine x_lcM ?_ | refine x_par ?_ | refine x_par3 ?_ | refine x_isN ?_ | refine x_forget ?_ | refine x_notN ?_ | refine x_iEnum ?_ | refine x_iEnumX ?_ | refine x_par1 ?_ | refine x_app ?_
    | refine x_eqI ?_ | refine x_neI ?_ | refine x_eqS ?_ | refine x_neS ?_ | refine x_attr ?_ | refine x_augL ?_ | refine x_int1 ?_ | refine x_iZipM ?_ | refine x_allM ?_ | refine x_rev ?_ | refine x_rev1 ?_ | refine x_forM ?_ | refine x_isTyY ?_ | refine x_notTyN ?_ | refine x_gcd ?_ | refine x_ext ?_ | refine x_listRg0 ?_ | refine x_iZip ?_ | refine x_iZip1 ?_ | refine x_iZip2 ?_ | refine x_eqE ?_ | refine x_neE ?_ | refine x_allG ?_ | refine x_allG2 ?_ | refine x_isB ?_ | refine x_notB ?_ | refine x_part ?_ | refine x_neg1 ?_ | refine x_noPart ?_ | refine x_fr0 ?_ | refine x_fr1 ?_ | refine x_raise ?_ | refine x_raise0 ?_ | refine x_callX ?_ | refine x_callW ?_ | refine x_callWX ?_ | refine x_try ?_ | refine x_xattr ?_ | refine iteT ?_ | refine iteF ?_ | refine iteNT ?_ | refine iteNF ?_)
  | ((with_reducible refine x_type (n := ?nn) ?hA ?_); (case hA => rfl))
  | ((with_reducible refine x_isi (n := ?nn) (b := true) ?hA ?hB ?_); (case hA => rfl); (case hB => rfl))
  | ((with_reducible refine x_isi (n := ?nn) (b := false) ?hA ?hB ?_); (case hA => rfl); (case hB => rfl))
  | ((with_reducible refine x_isTyN ?hA ?_); (case hA => decide))
  | ((with_reducible refine x_notTyY ?hA ?_); (case hA => decide))
  | ((with_reducible refine x_var (d := ?dd) ?hA ?_); (case hA => rfl))
  | ((with_reducible refine x_augI (a := ?aa) ?hA ?_); (case hA => rfl))
  | ((with_reducible refine x_ixR (ds := ?dd) (e := ?ee) ?hA ?hB ?_); (case hA => walk_at "look"); (case hB => rfl))
  | ((with_reducible refine x_ixT (e := ?ee) ?hB ?_); (case hB => rfl))
  | ((with_reducible refine x_ixL (e := ?ee) ?hB ?_); (case hB => rfl))
  | ((with_reducible refine x_lenR (ds := ?dd) ?hA ?_); (case hA => walk_at "look"))
  | ((with_reducible refine x_slR (ds := ?dd) ?hA ?_); (case hA => walk_at "look"))
  | ((with_reducible refine x_mul ?hA ?_); (case hA => walk_at "small"))
  | ((with_reducible refine x_mod ?hA ?_); (case hA => first | decide | omega))
  | ((with_reducible refine x_fdiv ?hA ?_); (case hA => exact div_small (by decide) (by decide)))
  | ((with_reducible refine x_pow ?hA ?_); (case hA => exact ⟨by decide, by decide, by decide⟩))
  | ((with_reducible refine x_divmod ?hA ?_); (case hA => exact ⟨by omega, by omega⟩))
  | ((with_reducible refine x_gSub1 (ds := ?dd) (m := ?mm) ?hA ?hB ?_); (case hA => walk_at "look"); (case hB => rfl))
  | ((with_reducible refine x_gTup ?hA ?_); (case hA => rfl))
  | ((with_reducible refine x_iRng1 ?hA ?hB ?_); (case hA => first | decide | omega); (case hB => first | decide | omega))
  | ((with_reducible refine x_addT ?hA ?_); (case hA => first | decide | (simp only [List.length_cons, List.length_nil, List.length_append]; omega)))
  | ((with_reducible refine x_addL ?hA ?_); (case hA => first | decide | (simp only [List.length_cons, List.length_nil, List.length_append]; omega)))
  | (refine And.intro ?hA ?_; (case hA => first | decide | (simp only [List.length_cons, List.length_nil, List.length_append]; omega))))
local macro_rules | `(tactic| walk_at "x") => `(tactic| repeat (walk_at "x1"))
local macro_rules | `(tactic| walk_at "tidy") => `(tactic| simp only [mset_mset])

def spLaw : SpD := fun ds μ Q => ∃ ns, ds = [.scr ns] ∧ ns.length ≤ 63 ∧ ∀ μ', Q (.bl true) μ'
abbrev s_law : Stmt := top 22
theorem sc_law : FnScope ["script", "lap"] ["script"] (defScope s_law) := ⟨rfl, rfl, rfl, by decide +kernel, rfl, by decide +kernel, by decide +kernel⟩
section
variable {P : Program} {w : World} {K : PySem.W.Frag} {mg : Str → Option Value} {base : Heap}
theorem ok_law  {f : Addr} {fd : FuncData} (F : Fun K "law" "law" s_law f fd) (hm : mg "law" = some (.ref f)) (hb : Binds K fd ["script"] []) (D_law_right : DefOk P w K mg base 5 "_law_right" s_law_right ["vat"] spRight) (D_law_vat : DefOk P w K mg base 1 "_law_vat" s_law_vat ["script", "lap"] spVat) (m_all : mg "all" = none) (m_range : mg "range" = none)  :
    DefOk P w K mg base 6 "law" s_law ["script"] spLaw := by
  refine def_ok F hm hb sc_law (fun ds μ Q h => by first | (obtain ⟨_, rfl, h⟩ := h; rfl) | (obtain ⟨_, _, rfl, h⟩ := h; rfl) | (obtain ⟨_, _, _, rfl, h⟩ := h; rfl) | (obtain ⟨_, _, _, _, rfl, h⟩ := h; rfl) | (obtain ⟨_, _, _, _, _, rfl, h⟩ := h; rfl) | (obtain ⟨_, _, _, _, _, _, rfl, h⟩ := h; rfl) | (obtain ⟨_, _, _, _, _, _, _, rfl, h⟩ := h; rfl) | (obtain ⟨_, _, _, _, _, _, _, _, rfl, h⟩ := h; rfl) | (obtain ⟨_, _, _, _, _, _, _, _, _, rfl, h⟩ := h; rfl) | (obtain ⟨_, _, _, _, _, _, _, _, _, _, rfl, h⟩ := h; rfl) | (obtain ⟨_, _, _, _, _, _, _, _, _, _, _, rfl, h⟩ := h; rfl) | (obtain ⟨_, _, _, _, _, _, _, _, _, _, _, _, rfl, h⟩ := h; rfl) | (obtain ⟨_, _, _, _, _, _, _, _, _, _, _, _, _, rfl, h⟩ := h; rfl) | (obtain ⟨_, _, _, _, _, _, _, _, _, _, _, _, _, _, rfl, h⟩ := h; rfl) | (obtain ⟨_, _, _, _, _, _, _, _, _, _, _, _, _, _, _, rfl, h⟩ := h; rfl) | (obtain ⟨_, _, _, _, _, _, _, _, _, _, _, _, _, _, _, _, rfl, h⟩ := h; rfl)) _ (fun qual f cdv A fs s H E hgd room => (dss_one (ds_ret (de_callB (cr_all rfl) lift_all rfl m_all (by decide +kernel) (da_cons (de_lc (own := [("lap", 1)]) (g := .nm 1) rfl sc_law.nd (di_rng m_range (da_cons de_int da_nil)) (blkOk_by (by kernel_rfl)) (by decide) (fun _ _ _ _ _ => (pg_name (i := 1) sc_law.nd rfl (Or.inl rfl))) (fun _ _ _ _ _ => dts_nil) (fun _ _ _ _ _ => (de_call hgd D_law_right (room.mono (by decide)) (da_cons (de_call hgd D_law_vat (room.mono (by decide)) (da_cons (de_var 0 (pv 0)) (da_cons (de_var 1 (pv 1)) da_nil))) da_nil)))) da_nil))))) fun ds μ Q h => ?_
  obtain ⟨ns, rfl, hn_, q⟩ := h
  walk_at "x"
  intro Dn hn
  rw [show (List.range (Int.toNat 2)).map (fun i : Nat => D.int (i : Int)) = [.int 0, .int 1] from rfl]
  unfold lcD lcStep
  walk_at "x"
  refine ⟨ns, 0, rfl, by omega, by omega, hn_, fun p z s c hp => ?_⟩
  walk_at "x"
  have hpD : Dn ≠ p := fun e => by rw [← e, mset_same] at hp; cases hp
  refine ⟨p, rfl, vat_set, fun μ1 o1 => ?_⟩
  have h1 : μ1 Dn = some [] := o1 _ _ hpD (by rw [mset_ne hpD]; exact mset_same)
  refine ⟨[], h1, by decide, ?_⟩
  unfold lcD lcStep
  walk_at "x"
  refine ⟨ns, 1, rfl, by omega, by omega, hn_, fun p2 z s c hp2 => ?_⟩
  walk_at "x"
  have hpD2 : Dn ≠ p2 := fun e => by rw [← e, mset_same] at hp2; cases hp2
  refine ⟨p2, rfl, vat_set, fun μ2 o2 => ?_⟩
  have h2 : μ2 Dn = some [.bl true] := o2 _ _ hpD2 (by rw [mset_ne hpD2]; exact mset_same)
  refine ⟨[.bl true], h2, by decide, ?_⟩
  unfold lcD
  refine ⟨_, mset_same, ?_⟩
  walk_at "x"
  refine x_all (bs := [true, true]) rfl rfl ?_
  walk_at "x"
  exact q _
end
end R7
-- R7end
set_option maxRecDepth 100000
namespace R7
open PySem PySem.Spec PyProof.Rows L2 DL

def fx (K : PySem.W.Frag) : List Bool := [freeB K "divmod" , freeB K "int" , freeB K "len" , freeB K "abs" , freeB K "sum" , freeB K "all" , freeB K "tuple" , freeB K "type" , freeB K "zip" , intB K "MOST_LATE_STEPS" (200), freeB K "enumerate" , freeB K "range" , freeB K "set" , intB K "MOST_ROWS" (5), freeB K "max" , freeB K "repr" , fnB K ("_law_cup", none) "_law_cup" , gloB K "_law_cup" , fnB K ("_law_one_of", none) "_law_one_of" , gloB K "_law_one_of" , fnB K ("_law_vat", none) "_law_vat" , gloB K "_law_vat" , fnB K ("is_late_step", none) "is_late_step" , gloB K "is_late_step" , genTabB K "is_late_step" , fnB K ("odd_step", none) "odd_step" , gloB K "odd_step" , fnB K ("require_steps", none) "require_steps" , gloB K "require_steps" , fnB K ("require_number", none) "require_number" , gloB K "require_number" , fnB K ("takes_all", none) "takes_all" , gloB K "takes_all" , genTabB K "takes_all" , fnB K ("has_fresh_picks", none) "has_fresh_picks" , gloB K "has_fresh_picks" , fnB K ("is_tidy", none) "is_tidy" , gloB K "is_tidy" , fnB K ("_law_is_due", none) "_law_is_due" , gloB K "_law_is_due" , fnB K ("_law_drawn", none) "_law_drawn" , gloB K "_law_drawn" , fnB K ("_law_right", none) "_law_right" , gloB K "_law_right" , fnB K ("law", none) "law" , gloB K "law" ]
theorem bit {l : List Bool} (h : l.all id = true) {i : Nat} {b : Bool} (e : l[i]? = some b) : b = true := List.all_eq_true.mp h b (List.mem_of_getElem? e)
set_option maxHeartbeats 0 in
theorem all_mk {P : Program} {w : World} {K : PySem.W.Frag} {h : Heap} {mg : Str → Option Value} (X : K.In h) (G : h.Ns mainGlobals mg) (c : (fx K).all id = true)
    (e_law_cup : He.fnObs K ("_law_cup", none) = fnV "_law_cup" "_law_cup" s_law_cup)
    (e_law_one_of : He.fnObs K ("_law_one_of", none) = fnV "_law_one_of" "_law_one_of" s_law_one_of)
    (e_law_vat : He.fnObs K ("_law_vat", none) = fnV "_law_vat" "_law_vat" s_law_vat)
    (eis_late_step : He.fnObs K ("is_late_step", none) = fnV "is_late_step" "is_late_step" s_is_late_step)
    (eodd_step : He.fnObs K ("odd_step", none) = fnV "odd_step" "odd_step" s_odd_step)
    (erequire_steps : He.fnObs K ("require_steps", none) = fnV "require_steps" "require_steps" s_require_steps)
    (erequire_number : He.fnObs K ("require_number", none) = fnV "require_number" "require_number" s_require_number)
    (etakes_all : He.fnObs K ("takes_all", none) = fnV "takes_all" "takes_all" s_takes_all)
    (ehas_fresh_picks : He.fnObs K ("has_fresh_picks", none) = fnV "has_fresh_picks" "has_fresh_picks" s_has_fresh_picks)
    (eis_tidy : He.fnObs K ("is_tidy", none) = fnV "is_tidy" "is_tidy" s_is_tidy)
    (e_law_is_due : He.fnObs K ("_law_is_due", none) = fnV "_law_is_due" "_law_is_due" s_law_is_due)
    (e_law_drawn : He.fnObs K ("_law_drawn", none) = fnV "_law_drawn" "_law_drawn" s_law_drawn)
    (e_law_right : He.fnObs K ("_law_right", none) = fnV "_law_right" "_law_right" s_law_right)
    (elaw : He.fnObs K ("law", none) = fnV "law" "law" s_law) :
    mg "law" = some (.ref (He.ga K "law")) ∧ ∀ base : Heap, K.In base → base.Ns mainGlobals mg → (∀ p ∈ tabsOf K, BTab base mg p.1 p.2) → DefOk P w K mg base 6 "law" s_law ["script"] spLaw := by
  refine ⟨glo_ok X G (bit c (i := 45) rfl), fun base _ _ TBs => ?_⟩
  have m_divmod := free_ok X G (bit c (i := 0) rfl)
  have m_int := free_ok X G (bit c (i := 1) rfl)
  have m_len := free_ok X G (bit c (i := 2) rfl)
  have m_abs := free_ok X G (bit c (i := 3) rfl)
  have m_sum := free_ok X G (bit c (i := 4) rfl)
  have m_all := free_ok X G (bit c (i := 5) rfl)
  have m_tuple := free_ok X G (bit c (i := 6) rfl)
  have m_type := free_ok X G (bit c (i := 7) rfl)
  have m_zip := free_ok X G (bit c (i := 8) rfl)
  have c_MOST_LATE_STEPS := int_ok X G (bit c (i := 9) rfl)
  have m_enumerate := free_ok X G (bit c (i := 10) rfl)
  have m_range := free_ok X G (bit c (i := 11) rfl)
  have m_set := free_ok X G (bit c (i := 12) rfl)
  have c_MOST_ROWS := int_ok X G (bit c (i := 13) rfl)
  have m_max := free_ok X G (bit c (i := 14) rfl)
  have m_repr := free_ok X G (bit c (i := 15) rfl)
  obtain ⟨kV_law_cup, doc_law_cup, pm_law_cup, an_law_cup, cdv_law_cup, ct_law_cup, F_law_cup⟩ := fn_of e_law_cup (bit c (i := 16) rfl)
  have hb_law_cup := F_law_cup.binds (ps := ["vat", "many"]) fun _ _ _ _ _ _ us hl => match us, hl with | [_, _], _ => rfl
  have D_law_cup := ok_law_cup (P := P) (w := w) (base := base) F_law_cup (glo_ok X G (bit c (i := 17) rfl)) hb_law_cup m_divmod m_int
  obtain ⟨kV_law_one_of, doc_law_one_of, pm_law_one_of, an_law_one_of, cdv_law_one_of, ct_law_one_of, F_law_one_of⟩ := fn_of e_law_one_of (bit c (i := 18) rfl)
  have hb_law_one_of := F_law_one_of.binds (ps := ["vat", "some"]) fun _ _ _ _ _ _ us hl => match us, hl with | [_, _], _ => rfl
  have D_law_one_of := ok_law_one_of (P := P) (w := w) (base := base) F_law_one_of (glo_ok X G (bit c (i := 19) rfl)) hb_law_one_of D_law_cup m_len
  obtain ⟨kV_law_vat, doc_law_vat, pm_law_vat, an_law_vat, cdv_law_vat, ct_law_vat, F_law_vat⟩ := fn_of e_law_vat (bit c (i := 20) rfl)
  have hb_law_vat := F_law_vat.binds (ps := ["script", "lap"]) fun _ _ _ _ _ _ us hl => match us, hl with | [_, _], _ => rfl
  have D_law_vat := ok_law_vat (P := P) (w := w) (base := base) F_law_vat (glo_ok X G (bit c (i := 21) rfl)) hb_law_vat m_abs m_int m_len m_sum
  obtain ⟨kVis_late_step, docis_late_step, pmis_late_step, anis_late_step, cdvis_late_step, ctis_late_step, Fis_late_step⟩ := fn_of eis_late_step (bit c (i := 22) rfl)
  have hbis_late_step := Fis_late_step.binds (ps := ["counts", "value"]) fun _ _ _ _ _ _ us hl => match us, hl with | [_, _], _ => rfl
  obtain ⟨cis_late_step, Pis_late_step, tinis_late_step, hcis_late_step, hPis_late_step, nlis_late_step⟩ := genTab_ok (bit c (i := 24) rfl)
  have TBis_late_step := TBs _ tinis_late_step
  have D_is_late_step := ok_is_late_step (P := P) (w := w) (base := base) Fis_late_step (glo_ok X G (bit c (i := 23) rfl)) hbis_late_step hcis_late_step TBis_late_step hPis_late_step nlis_late_step m_all m_int m_len m_tuple m_type m_zip
  obtain ⟨kVodd_step, docodd_step, pmodd_step, anodd_step, cdvodd_step, ctodd_step, Fodd_step⟩ := fn_of eodd_step (bit c (i := 25) rfl)
  have hbodd_step := Fodd_step.binds (ps := ["size", "steps"]) fun _ _ _ _ _ _ us hl => match us, hl with | [_, _], _ => rfl
  have D_odd_step := ok_odd_step (P := P) (w := w) (base := base) Fodd_step (glo_ok X G (bit c (i := 26) rfl)) hbodd_step c_MOST_LATE_STEPS D_is_late_step m_enumerate
  obtain ⟨kVrequire_steps, docrequire_steps, pmrequire_steps, anrequire_steps, cdvrequire_steps, ctrequire_steps, Frequire_steps⟩ := fn_of erequire_steps (bit c (i := 27) rfl)
  have hbrequire_steps := Frequire_steps.binds (ps := ["size", "value"]) fun _ _ _ _ _ _ us hl => match us, hl with | [_, _], _ => rfl
  have D_require_steps := ok_require_steps (P := P) (w := w) (base := base) Frequire_steps (glo_ok X G (bit c (i := 28) rfl)) hbrequire_steps D_odd_step m_tuple m_type
  obtain ⟨kVrequire_number, docrequire_number, pmrequire_number, anrequire_number, cdvrequire_number, ctrequire_number, Frequire_number⟩ := fn_of erequire_number (bit c (i := 29) rfl)
  have hbrequire_number := Frequire_number.binds (ps := ["value", "low", "high"]) fun _ _ _ _ _ _ us hl => match us, hl with | [_, _, _], _ => rfl
  have D_require_number := ok_require_number (P := P) (w := w) (base := base) Frequire_number (glo_ok X G (bit c (i := 30) rfl)) hbrequire_number m_int m_type
  obtain ⟨kVtakes_all, doctakes_all, pmtakes_all, antakes_all, cdvtakes_all, cttakes_all, Ftakes_all⟩ := fn_of etakes_all (bit c (i := 31) rfl)
  have hbtakes_all := Ftakes_all.binds (ps := ["size", "steps", "number"]) fun _ _ _ _ _ _ us hl => match us, hl with | [_, _, _], _ => rfl
  obtain ⟨ctakes_all, Ptakes_all, tintakes_all, hctakes_all, hPtakes_all, nltakes_all⟩ := genTab_ok (bit c (i := 33) rfl)
  have TBtakes_all := TBs _ tintakes_all
  have D_takes_all := ok_takes_all (P := P) (w := w) (base := base) Ftakes_all (glo_ok X G (bit c (i := 32) rfl)) hbtakes_all hctakes_all TBtakes_all hPtakes_all nltakes_all m_all m_len m_range m_set
  obtain ⟨kVhas_fresh_picks, dochas_fresh_picks, pmhas_fresh_picks, anhas_fresh_picks, cdvhas_fresh_picks, cthas_fresh_picks, Fhas_fresh_picks⟩ := fn_of ehas_fresh_picks (bit c (i := 34) rfl)
  have hbhas_fresh_picks := Fhas_fresh_picks.binds (ps := ["size", "steps", "number"]) fun _ _ _ _ _ _ us hl => match us, hl with | [_, _, _], _ => rfl
  have D_has_fresh_picks := ok_has_fresh_picks (P := P) (w := w) (base := base) Fhas_fresh_picks (glo_ok X G (bit c (i := 35) rfl)) hbhas_fresh_picks m_enumerate m_len m_range m_zip
  obtain ⟨kVis_tidy, docis_tidy, pmis_tidy, anis_tidy, cdvis_tidy, ctis_tidy, Fis_tidy⟩ := fn_of eis_tidy (bit c (i := 36) rfl)
  have hbis_tidy := Fis_tidy.binds (ps := ["size", "steps", "number"]) fun _ _ _ _ _ _ us hl => match us, hl with | [_, _, _], _ => rfl
  have D_is_tidy := ok_is_tidy (P := P) (w := w) (base := base) Fis_tidy (glo_ok X G (bit c (i := 37) rfl)) hbis_tidy c_MOST_LATE_STEPS c_MOST_ROWS D_has_fresh_picks D_require_number D_require_steps D_takes_all
  obtain ⟨kV_law_is_due, doc_law_is_due, pm_law_is_due, an_law_is_due, cdv_law_is_due, ct_law_is_due, F_law_is_due⟩ := fn_of e_law_is_due (bit c (i := 38) rfl)
  have hb_law_is_due := F_law_is_due.binds (ps := ["n", "steps", "number"]) fun _ _ _ _ _ _ us hl => match us, hl with | [_, _, _], _ => rfl
  have D_law_is_due := ok_law_is_due (P := P) (w := w) (base := base) F_law_is_due (glo_ok X G (bit c (i := 39) rfl)) hb_law_is_due m_len m_range
  obtain ⟨kV_law_drawn, doc_law_drawn, pm_law_drawn, an_law_drawn, cdv_law_drawn, ct_law_drawn, F_law_drawn⟩ := fn_of e_law_drawn (bit c (i := 40) rfl)
  have hb_law_drawn := F_law_drawn.binds (ps := ["vat", "n", "many"]) fun _ _ _ _ _ _ us hl => match us, hl with | [_, _, _], _ => rfl
  have D_law_drawn := ok_law_drawn (P := P) (w := w) (base := base) F_law_drawn (glo_ok X G (bit c (i := 41) rfl)) hb_law_drawn D_law_cup (D_law_one_of.imp fun _ _ _ h => .inl h) m_int m_max m_range m_tuple
  obtain ⟨kV_law_right, doc_law_right, pm_law_right, an_law_right, cdv_law_right, ct_law_right, F_law_right⟩ := fn_of e_law_right (bit c (i := 42) rfl)
  have hb_law_right := F_law_right.binds (ps := ["vat"]) fun _ _ _ _ _ _ us hl => match us, hl with | [_], _ => rfl
  have D_law_right := ok_law_right (P := P) (w := w) (base := base) F_law_right (glo_ok X G (bit c (i := 43) rfl)) hb_law_right D_law_cup D_law_drawn D_law_is_due (D_law_one_of.imp fun _ _ _ h => .inl h) D_is_tidy m_max m_repr
  obtain ⟨kVlaw, doclaw, pmlaw, anlaw, cdvlaw, ctlaw, Flaw⟩ := fn_of elaw (bit c (i := 44) rfl)
  have hblaw := Flaw.binds (ps := ["script"]) fun _ _ _ _ _ _ us hl => match us, hl with | [_], _ => rfl
  exact ok_law (P := P) (w := w) (base := base) Flaw (glo_ok X G (bit c (i := 45) rfl)) hblaw D_law_right D_law_vat m_all m_range
end R7
-- R7fin
set_option maxRecDepth 100000
open PySem PySem.W PyProof.Rows
set_option maxHeartbeats 0 in
theorem PySem.Challenge.cw_sweepends_k48_whole_tidy_steps_holds : PySem.Challenge.rw_sweepends_k48_whole_tidy_steps.Holds := by
  apply R7top
  k_fill
  refine DL.walkG (l := PySem.Challenge.rw_sweepends_k48_whole_tidy_steps) (n := 63) (k := 6) (x := "script") (nm := "law") (st := R7.s_law) (spd := R7.spLaw) rfl (by decide) rfl ⟨rfl, by decide, by decide⟩ (fun w h Y => PySem.W.kIn_of Y) (fun w => by kernel_rfl) (fun w mg mb mean h Y X T => DL.tabRec_ok (by kernel_rfl) X T) ?G (fun ns μ hl => ⟨ns, rfl, hl, fun _ => rfl⟩)
  case G =>
    intro w mg fa h KX G hmg
    have A := R7.all_mk (P := PySem.Challenge.rw_sweepends_k48_whole_tidy_steps.prog) (w := w) KX G (by kernel_rfl) (by kernel_rfl) (by kernel_rfl) (by kernel_rfl) (by kernel_rfl) (by kernel_rfl) (by kernel_rfl) (by kernel_rfl) (by kernel_rfl) (by kernel_rfl) (by kernel_rfl) (by kernel_rfl) (by kernel_rfl) (by kernel_rfl) (by kernel_rfl)
    exact ⟨hmg, A.2⟩
