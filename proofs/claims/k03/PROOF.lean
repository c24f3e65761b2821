import PyProof.Rows.All
import Wide.All
import OpenK.AllK
import Wide.FinOn
import HandS.ForMost
import HandS.ForExc
import HandS.Flow
import HandS.Style
import HandS.Star
import HandS.IsInst
import HandS.Lambda
import HandS.Conv
import HandS.ExcInit
import HandS.ExcOwn
import HandS.TupAny
import HandS.TupMul
import HandS.Deep
import HandS.RaiseMore
import HandS.TupLe
import KE.GoesEnum
import HandS.Walk
import HandS.Strs
import HandS.SetFor
import HandS.HeadHook4
import HandS.Head0
import HandS.Head1
import HandS.Head2
import HandS.EndTab
import HandS.HeadWalk
import KE.KExcInit
import HandS.ExcField
import HandS.ExcValue
import HandS.TryOnly
import KE.KExcIs
import KE.KTryMore
import KE.KDflt
import KE.KStateDown
import PySem.Challenge.RW_frontjobs_k03_whole_standings_refused
set_option Elab.async false
set_option linter.all false
set_option maxRecDepth 100000
set_option autoImplicit false
namespace PD
open PySem PySem.Spec L2

/-! ### data, and how it lies in a heap -/
abbrev D := PyData
def keyD : Key → D
  | .inl i => .int i
  | .inr x => .str x
mutual
inductive Dr (K : PySem.W.Frag) (H : Hp) : V → D → Prop
  | non : Dr K H .non .none
  | bl (b : Bool) : Dr K H (.bl b) (.bool b)
  | int (i : Int) : Dr K H (.int i) (.int i)
  | str (x : Str) : Dr K H (.str x) (.str x)
  | lst {a : Addr} {xs : List V} {ds : List D} : H a = some (.lst xs) → DrAll K H xs ds → Dr K H (.ref a) (.list ds)
  | tup {a : Addr} {xs : List V} {ds : List D} : SqT K H a xs → DrAll K H xs ds → Dr K H (.ref a) (.tuple ds)
  | dct {a : Addr} {kvs : List (Key × V)} {ds : List D} : H a = some (.dK kvs) → DrAll K H (kvs.map (·.2)) ds → Dr K H (.ref a) (.dict ((kvs.map fun q => keyD q.1).zip ds))
inductive DrAll (K : PySem.W.Frag) (H : Hp) : List V → List D → Prop
  | nil : DrAll K H [] []
  | cons {v : V} {vs : List V} {d : D} {ds : List D} : Dr K H v d → DrAll K H vs ds → DrAll K H (v :: vs) (d :: ds)
end
theorem sqT_same {K : PySem.W.Frag} {H H' : Hp} {a : Addr} {xs : List V} (e : Same H H') (h : SqT K H a xs) : SqT K H' a xs := by
  rcases h with (h | ⟨o, h⟩) | h
  · exact .inl (.inl (e _ _ h))
  · exact .inl (.inr ⟨o, e _ _ h⟩)
  · exact .inr h
mutual
theorem Dr.same {K : PySem.W.Frag} {H H' : Hp} (e : Same H H') : ∀ {v : V} {d : D}, Dr K H v d → Dr K H' v d
  | _, _, .non => .non
  | _, _, .bl b => .bl b
  | _, _, .int i => .int i
  | _, _, .str x => .str x
  | _, _, .lst h hs => .lst (e _ _ h) (DrAll.same e hs)
  | _, _, .tup h hs => .tup (sqT_same e h) (DrAll.same e hs)
  | _, _, .dct h hs => .dct (e _ _ h) (DrAll.same e hs)
theorem DrAll.same {K : PySem.W.Frag} {H H' : Hp} (e : Same H H') : ∀ {vs : List V} {ds : List D}, DrAll K H vs ds → DrAll K H' vs ds
  | _, _, .nil => .nil
  | _, _, .cons h hs => .cons (Dr.same e h) (DrAll.same e hs)
end
section
variable {K : PySem.W.Frag} {H : Hp}
theorem DrAll.length : ∀ {vs : List V} {ds : List D}, DrAll K H vs ds → vs.length = ds.length
  | _, _, .nil => rfl
  | _, _, .cons _ hs => by simp [DrAll.length hs]
theorem DrAll.append : ∀ {vs ws : List V} {ds es : List D}, DrAll K H vs ds → DrAll K H ws es → DrAll K H (vs ++ ws) (ds ++ es)
  | _, _, _, _, .nil, q => q
  | _, _, _, _, .cons h hs, q => .cons h (DrAll.append hs q)
theorem DrAll.get : ∀ {vs : List V} {ds : List D} {i : Nat} {v : V}, DrAll K H vs ds → vs[i]? = some v → ∃ d, ds[i]? = some d ∧ Dr K H v d
  | _, _, _, _, .nil, e => by simp at e
  | _, _, 0, _, .cons h _, e => by simp at e; subst e; exact ⟨_, rfl, h⟩
  | _, _, i + 1, v, .cons _ hs, e => by
    obtain ⟨d, h1, h2⟩ := DrAll.get (i := i) (v := v) hs (by simpa using e)
    exact ⟨d, by simpa using h1, h2⟩
theorem DrAll.getD : ∀ {vs : List V} {ds : List D} {i : Nat} {d : D}, DrAll K H vs ds → ds[i]? = some d → ∃ v, vs[i]? = some v ∧ Dr K H v d
  | _, _, _, _, .nil, e => by simp at e
  | _, _, 0, _, .cons h _, e => by simp at e; subst e; exact ⟨_, rfl, h⟩
  | _, _, i + 1, d, .cons _ hs, e => by
    obtain ⟨v, h1, h2⟩ := DrAll.getD (i := i) (d := d) hs (by simpa using e)
    exact ⟨v, by simpa using h1, h2⟩
theorem DrAll.take : ∀ {vs : List V} {ds : List D} (n : Nat), DrAll K H vs ds → DrAll K H (vs.take n) (ds.take n)
  | _, _, 0, _ => .nil
  | _, _, _ + 1, .nil => .nil
  | _, _, n + 1, .cons r t => .cons r (DrAll.take n t)
theorem DrAll.drop : ∀ {vs : List V} {ds : List D} (n : Nat), DrAll K H vs ds → DrAll K H (vs.drop n) (ds.drop n)
  | _, _, 0, r => r
  | _, _, _ + 1, .nil => .nil
  | _, _, n + 1, .cons _ t => DrAll.drop n t
theorem DrAll.rep {vs : List V} {ds : List D} (h : DrAll K H vs ds) : ∀ k : Nat, DrAll K H (List.replicate k vs).flatten (List.replicate k ds).flatten
  | 0 => .nil
  | k + 1 => by
    rw [List.replicate_succ, List.replicate_succ, List.flatten_cons, List.flatten_cons]
    exact DrAll.append h (DrAll.rep h k)
theorem DrAll.reverse {vs : List V} {ds : List D} (h : DrAll K H vs ds) : DrAll K H vs.reverse ds.reverse := by
  induction ds generalizing vs with
  | nil => cases h; exact .nil
  | cons d ds ih =>
    cases h with
    | cons h1 h2 => rw [List.reverse_cons, List.reverse_cons]; exact DrAll.append (ih h2) (.cons h1 .nil)
end

/-! ### the state of the drawing -/
structure Gen where
  great : List Int
  seed : Int
  turns : Int
def GenP (p : Addr) (g : Gen) (H0 H : Hp) : Prop := ∃ gl : Addr, H p = some (.dK [(.inr "great", .ref gl), (.inr "seed", .int g.seed), (.inr "turns", .int g.turns)]) ∧ H0 gl = some (.lst (g.great.map V.int))
/-- the drawing's dict, if there is one -/
def GenAt (gm : Option Addr) (g : Gen) (H0 H : Hp) : Prop := ∀ p, gm = some p → GenP p g H0 H
def NoG (gm : Option Addr) (H0 : Hp) : Prop := ∀ p, gm = some p → H0 p = none

/-! ### results -/
inductive Rs (α : Type) where
  | ok (a : α) (g : Gen)
  | er (c : Str) (d : D) (g : Gen)
  | st
abbrev M (α : Type) := Gen → Rs α
def M.pu {α : Type} (a : α) : M α := fun g => .ok a g
def M.bd {α β : Type} (m : M α) (k : α → M β) : M β := fun g => match m g with
  | .ok a g' => k a g'
  | .er c d g' => .er c d g'
  | .st => .st
def M.stuck {α : Type} : M α := fun _ => .st
def M.raise {α : Type} (c : Str) (d : D) : M α := fun g => .er c d g
def M.ofO {α : Type} : Option α → M α
  | some a => .pu a
  | none => .stuck

/-! ### what an expression's value is -/
inductive Vl where
  | d (x : D)
  | gn
  | sc (ns : List Int)
  | bo (ds : List D)

/-- what stays through the whole law -/
structure Sig where
  K : PySem.W.Frag
  gm : Option Addr
  T : List (Addr × Str)
  cl : Str → Addr
  at_ : Str → Str

/-- nothing is tracked there, or a table of code alone -/
def Fre (H : Hp) (a : Addr) : Prop := H a = none ∨ ∃ ps, H a = some (.tbl ps)
theorem Fre.ne {H : Hp} {a b : Addr} {o : HO} (h : Fre H a) (e : H b = some o) (n : ∀ ps, o ≠ .tbl ps) : b ≠ a := fun z => by
  rcases h with h | ⟨ps, h⟩
  · rw [z, h] at e; cases e
  · rw [z, h] at e; exact n ps (Option.some.inj e).symm
structure Stp (gm : Option Addr) (H0 H H0' H' : Hp) : Prop where
  s0 : Same H0 H0'
  fr : ∀ a o, H a = some o → gm ≠ some a → (∀ ps, o ≠ .tbl ps) → H' a = some o
  th : ∀ a, Fre H' a → Fre H a
  fresh : ∀ a, H0' a ≠ none → H0 a ≠ none ∨ Fre H a
  nt : ∀ a ps, H0' a = some (.tbl ps) → H0 a = some (.tbl ps)
theorem Stp.refl (gm : Option Addr) (H0 H : Hp) : Stp gm H0 H H0 H := ⟨Same.refl _, fun _ _ h _ _ => h, fun _ h => h, fun _ h => .inl h, fun _ _ h => h⟩
theorem Stp.trans {gm : Option Addr} {H0 H H1 H' H2 H'' : Hp} (a : Stp gm H0 H H1 H') (b : Stp gm H1 H' H2 H'') : Stp gm H0 H H2 H'' :=
  ⟨a.s0.trans b.s0, fun c o h n t => b.fr c o (a.fr c o h n t) n t, fun c h => a.th c (b.th c h),
    fun c h => by
      rcases b.fresh c h with q | q
      · exact a.fresh c q
      · exact .inr (a.th c q),
    fun c ps h => a.nt c ps (b.nt c ps h)⟩
/-- a new object at p, known as data from now on -/
theorem Stp.new {gm : Option Addr} {H0 H : Hp} {p : Addr} {o : HO} (sub : Same H0 H) (hp : H p = none) (ht : ∀ ps, o ≠ .tbl ps) : Stp gm H0 H (upd H0 p o) (upd H p o) := by
  have h0 : H0 p = none := sub.free hp
  refine ⟨fun b u e => ?_, fun a u e _ _ => ?_, fun a e => ?_, fun a e => ?_, fun a ps e => ?_⟩
  · rw [upd_ne (ne_of_none e h0)]; exact e
  · rw [upd_ne (ne_of_none e hp)]; exact e
  · by_cases z : a = p
    · subst z; exact .inl hp
    · unfold Fre at e ⊢
      rw [upd_ne z] at e; exact e
  · by_cases z : a = p
    · subst z; exact .inr (.inl hp)
    · rw [upd_ne z] at e; exact .inl e
  · by_cases z : a = p
    · subst z; rw [upd_same] at e; exact absurd (Option.some.inj e) (ht ps)
    · rw [upd_ne z] at e; exact e
theorem same_upd {H0 H : Hp} {p : Addr} {o : HO} (sub : Same H0 H) (hp : H p = none) : Same (upd H0 p o) (upd H p o) := fun b u e => by
  by_cases z : b = p
  · subst z; rw [upd_same] at e ⊢; exact e
  · rw [upd_ne z] at e ⊢; exact sub b u e

structure Aft (S : Sig) (g : Gen) (H0 H H0' H' : Hp) : Prop where
  stp : Stp S.gm H0 H H0' H'
  sub : Same H0' H'
  gen : GenAt S.gm g H0' H'
  tabs : LamX.Tabs S.T H'

inductive Sl where
  | un
  | fz (d : D)
  | ow (ds : List D)
  | gn
  | sc (ns : List Int)
abbrev Env := List Sl
def SlR (S : Sig) (He H0 H : Hp) (o : Option V) : Sl → Prop
  | .un => True
  | .fz d => ∃ v, o = some v ∧ Dr S.K H0 v d
  | .ow ds => ∃ a xs, o = some (.ref a) ∧ H a = some (.lst xs) ∧ H0 a = none ∧ Fre He a ∧ DrAll S.K H0 xs ds
  | .gn => ∃ p, S.gm = some p ∧ o = some (.ref p)
  | .sc ns => ∃ a, o = some (.ref a) ∧ SqL S.K H0 a (ns.map V.int)
structure Rl (S : Sig) (env : Env) (g : Gen) (σ : St) (He H0e H0 H : Hp) : Prop where
  stp : Stp S.gm H0e He H0 H
  sub : Same H0 H
  gen : GenAt S.gm g H0 H
  ngen : NoG S.gm H0
  tabs : LamX.Tabs S.T H
  ntbl : ∀ a ps, H0 a ≠ some (.tbl ps)
  slots : ∀ (i : Nat) (s : Sl), env[i]? = some s → ∃ o, σ[i]? = some o ∧ SlR S He H0 H o s
  own : ∀ (i j : Nat) (a : Addr), i ≠ j → (∃ ds, env[i]? = some (.ow ds)) → (∃ ds, env[j]? = some (.ow ds)) → σ[i]? = some (some (.ref a)) → σ[j]? ≠ some (some (.ref a))
theorem GenAt.nlst {gm : Option Addr} {g : Gen} {H0 H : Hp} (h : GenAt gm g H0 H) {a : Addr} {xs : List V} (e : H a = some (.lst xs)) : gm ≠ some a := fun z => by
  obtain ⟨_, e', _⟩ := h a z
  rw [e] at e'; cases e'
theorem sqL_same {K : PySem.W.Frag} {H H' : Hp} {a : Addr} {xs : List V} (e : Same H H') (h : SqL K H a xs) : SqL K H' a xs := by
  rcases h with (h | ⟨o, h⟩) | h
  · exact .inl (.inl (e _ _ h))
  · exact .inl (.inr ⟨o, e _ _ h⟩)
  · exact .inr h
theorem Aft.refl {S : Sig} {env : Env} {g : Gen} {σ : St} {He H0e H0 H : Hp} (r : Rl S env g σ He H0e H0 H) : Aft S g H0 H H0 H := ⟨Stp.refl _ _ _, r.sub, r.gen, r.tabs⟩
theorem Aft.trans {S : Sig} {g g' : Gen} {H0 H H1 H' H2 H'' : Hp} (a : Aft S g H0 H H1 H') (b : Aft S g' H1 H' H2 H'') : Aft S g' H0 H H2 H'' := ⟨a.stp.trans b.stp, b.sub, b.gen, b.tabs⟩
theorem Rl.step {S : Sig} {env : Env} {g g' : Gen} {σ : St} {He H0e H0 H H0' H' : Hp} (r : Rl S env g σ He H0e H0 H) (a : Aft S g' H0 H H0' H') : Rl S env g' σ He H0e H0' H' := by
  have fr0 : ∀ a o, H a = some o → (∀ ps, o ≠ .tbl ps) → H0 a = none → H0' a = none := fun b o h nt h0 => by
    cases e : H0' b with
    | none => rfl
    | some u =>
      rcases a.stp.fresh b (by rw [e]; simp) with q | q
      · exact absurd h0 q
      · exact absurd rfl (q.ne h nt)
  refine ⟨r.stp.trans a.stp, a.sub, a.gen, ?_, a.tabs, fun b ps e => r.ntbl b ps (a.stp.nt b ps e), fun i s e => ?_, r.own⟩
  · intro p hp
    obtain ⟨gl, e, _⟩ := r.gen p hp
    exact fr0 _ _ e (fun ps z => by cases z) (r.ngen p hp)
  · obtain ⟨o, h1, h2⟩ := r.slots i s e
    refine ⟨o, h1, ?_⟩
    cases s with
    | un => trivial
    | fz d => obtain ⟨v, e1, e2⟩ := h2; exact ⟨v, e1, e2.same a.stp.s0⟩
    | gn => exact h2
    | sc ns => obtain ⟨b, e1, e2⟩ := h2; exact ⟨b, e1, sqL_same a.stp.s0 e2⟩
    | ow ds =>
      obtain ⟨b, xs, e1, e2, e3, e4, e5⟩ := h2
      exact ⟨b, xs, e1, a.stp.fr _ _ e2 (r.gen.nlst e2) (fun ps z => by cases z), fr0 _ _ e2 (fun ps z => by cases z) e3, e4, e5.same a.stp.s0⟩

/-! ### the relation of values -/
def VR (S : Sig) (H0 H : Hp) (v : V) : Vl → Prop
  | .d x => Dr S.K H0 v x
  | .gn => ∃ p, S.gm = some p ∧ v = .ref p
  | .sc ns => ∃ a, v = .ref a ∧ SqL S.K H0 a (ns.map V.int)
  | .bo ds => ∃ a xs, v = .ref a ∧ H a = some (.lst xs) ∧ DrAll S.K H0 xs ds
theorem VR.step {S : Sig} {g g' : Gen} {H0 H H0' H' : Hp} {v : V} {x : Vl} (gen : GenAt S.gm g H0 H) (a : Aft S g' H0 H H0' H') (h : VR S H0 H v x) : VR S H0' H' v x := by
  cases x with
  | d x => exact Dr.same a.stp.s0 h
  | gn => exact h
  | sc ns => obtain ⟨b, e, h1⟩ := h; exact ⟨b, e, sqL_same a.stp.s0 h1⟩
  | bo ds =>
    obtain ⟨b, xs, e, h1, h2⟩ := h
    exact ⟨b, xs, e, a.stp.fr _ _ h1 (gen.nlst h1) (fun ps z => by cases z), h2.same a.stp.s0⟩

/-! ### what is wanted of a result -/
def Pst {α β : Type} (S : Sig) (W : WX) (σ : St) (H0 H : Hp) (rel : Hp → Hp → β → α → Prop) (Q : β → Hp → Prop) : Rs α → Prop
  | .ok x g' => ∀ v H0' H', Aft S g' H0 H H0' H' → rel H0' H' v x → Q v H'
  | .er c d g' => ∀ dx v H0' H', Aft S g' H0 H H0' H' → H' dx = some (.xd [(S.at_ c, v)]) → Dr S.K H0' v d → W (.ref (S.cl c)) (some dx) σ H'
  | .st => False
theorem Pst.bd {α β γ δ : Type} {S : Sig} {W : WX} {σ : St} {H0 H : Hp} {rel : Hp → Hp → β → α → Prop} {rel' : Hp → Hp → δ → γ → Prop} {Q : δ → Hp → Prop} {Kt : β → Hp → Prop} {m : M α} {k : α → M γ} {g : Gen}
    (h : Pst S W σ H0 H rel' Q ((m.bd k) g))
    (hk : ∀ x g' v H0' H', Aft S g' H0 H H0' H' → rel H0' H' v x → Pst S W σ H0' H' rel' Q (k x g') → Kt v H') : Pst S W σ H0 H rel Kt (m g) := by
  unfold M.bd at h
  cases e : m g with
  | st => rw [e] at h; exact h
  | er c d g' => rw [e] at h; exact h
  | ok x g' =>
    rw [e] at h
    intro v H0' H' a r
    refine hk x g' v H0' H' a r ?_
    have h : Pst S W σ H0 H rel' Q (k x g') := h
    cases e2 : k x g' with
    | st => rw [e2] at h; exact h
    | er c d g2 =>
      rw [e2] at h
      intro dx v2 H2 H3 a2 q1 q2
      exact h dx v2 H2 H3 (a.trans a2) q1 q2
    | ok y g2 =>
      rw [e2] at h
      intro v2 H2 H3 a2 q
      exact h v2 H2 H3 (a.trans a2) q
def RX {α β : Type} (S : Sig) (W : WX) (rel : Hp → Hp → β → α → Prop) (f : Env → M α) : St → Hp → (β → Hp → Prop) → Prop := fun σ H Q =>
  ∃ env g He H0e H0, Rl S env g σ He H0e H0 H ∧ Pst S W σ H0 H rel Q (f env g)
abbrev RE (S : Sig) (W : WX) (f : Env → M Vl) : TE := RX S W (VR S) f
abbrev relB : Hp → Hp → Bool → Bool → Prop := fun _ _ a b => a = b
abbrev RT (S : Sig) (W : WX) (f : Env → M Bool) : TT := RX S W relB f
inductive VRs (S : Sig) (H0 H : Hp) : List V → List Vl → Prop
  | nil : VRs S H0 H [] []
  | cons {v : V} {vs : List V} {x : Vl} {xs : List Vl} : VR S H0 H v x → VRs S H0 H vs xs → VRs S H0 H (v :: vs) (x :: xs)
abbrev RA (S : Sig) (W : WX) (f : Env → M (List Vl)) : TA := RX S W (VRs S) f
theorem VRs.step {S : Sig} {g g' : Gen} {H0 H H0' H' : Hp} (gen : GenAt S.gm g H0 H) (a : Aft S g' H0 H H0' H') : ∀ {vs : List V} {xs : List Vl}, VRs S H0 H vs xs → VRs S H0' H' vs xs
  | _, _, .nil => .nil
  | _, _, .cons h hs => .cons (VR.step gen a h) (VRs.step gen a hs)

theorem PE.weak {X : Cx} {e : Expr} {t t' : TE} (h : PE X e t) (w : ∀ σ H Q, t' σ H Q → t σ H Q) : PE X e t' := ⟨fun pins s σ H Q I q => h.run pins s σ H Q I (w σ H Q q)⟩
theorem PT.weak {X : Cx} {e : Expr} {t t' : TT} (h : PT X e t) (w : ∀ σ H Q, t' σ H Q → t σ H Q) : PT X e t' := ⟨fun pins s σ H Q I q => h.run pins s σ H Q I (w σ H Q q)⟩
theorem PW.weak {X : Cx} {e : Expr} {t t' : TT} (h : PW X e t) (w : ∀ σ H Q, t' σ H Q → t σ H Q) : PW X e t' := ⟨fun wh pins s σ H Q I q => h.run wh pins s σ H Q I (w σ H Q q)⟩
theorem PA.weak {X : Cx} {e : List Expr} {t t' : TA} (h : PA X e t) (w : ∀ σ H Q, t' σ H Q → t σ H Q) : PA X e t' := ⟨fun pos pins s σ H Q I q => h.run pos pins s σ H Q I (w σ H Q q)⟩
theorem PS.weak {X : Cx} {e : Stmt} {t t' : TS} (h : PS X e t) (w : ∀ D σ H, t' D σ H → t D σ H) : PS X e t' := ⟨fun pins s σ H D I q => h.run pins s σ H D I (w D σ H q)⟩
theorem PSs.weak {X : Cx} {e : List Stmt} {t t' : TS} (h : PSs X e t) (w : ∀ D σ H, t' D σ H → t D σ H) : PSs X e t' := ⟨fun pins s σ H D I q => h.run pins s σ H D I (w D σ H q)⟩

/-! ### operations by values -/
/-- a pure operation of two values: wanted of it: from the data of both to the data of the result, the heap only grown -/
def Op2 (S : Sig) (r : R2) (F : Vl → Vl → Option D) : Prop :=
  ∀ (g : Gen) (x y : V) (a b : Vl) (z : D) (H0 H : Hp) (Q : VK), Same H0 H → GenAt S.gm g H0 H → LamX.Tabs S.T H → VR S H0 H x a → VR S H0 H y b → F a b = some z →
    (∀ v H0' H', Aft S g H0 H H0' H' → Dr S.K H0' v z → Q v H') → r x y H Q
theorem pe_bin {X : Cx} {S : Sig} {W : WX} {a b : Expr} {op : Operator} {r : R2} {fa fb : Env → M Vl} {F : Vl → Vl → Option D} {pos : Pos} (ho : OpR X (binaryOp op) r) (hF : Op2 S r F) (ha : PE X a (RE S W fa)) (hb : PE X b (RE S W fb)) :
    PE X (.BinOp a op b pos) (RE S W fun env => (fa env).bd fun x => (fb env).bd fun y => .ofO ((F x y).map .d)) := by
  refine PE.weak (pe_op ho ha hb) fun σ H Q h => ?_
  obtain ⟨env, g, He, H0e, H0, R, h⟩ := h
  refine ⟨env, g, He, H0e, H0, R, Pst.bd h fun x g1 v H1 H1' a1 r1 h1 => ?_⟩
  refine ⟨env, g1, He, H0e, H1, R.step a1, Pst.bd h1 fun y g2 w H2 H2' a2 r2 h2 => ?_⟩
  have R2 := (R.step a1).step a2
  cases e : F x y with
  | none => rw [e] at h2; exact h2.elim
  | some z =>
    rw [e] at h2
    exact hF g2 v w x y z H2 H2' Q R2.sub R2.gen R2.tabs (r1.step (R.step a1).gen a2) r2 e fun v' H3 H3' a3 r3 => h2 v' H3 H3' a3 r3
end PD
set_option Elab.async false
set_option linter.all false
set_option maxRecDepth 100000
set_option autoImplicit false
namespace PD
open PySem PySem.Spec L2

/-! ### the small language -/
inductive Bf where
  | len | tuple | list | repr | int | all | min2 | isinst (ts : List String)
  deriving DecidableEq
inductive Tg where
  | n (i : Nat)
  | t (is : List Nat)
  deriving DecidableEq
mutual
inductive E where
  | c (x : D)
  | v (i : Nat)
  | bin (op : Operator) (a b : E)
  | neg (a : E)
  | cmp (op : CmpOp) (a b : E)
  | chain (op op' : CmpOp) (a b c : E)
  | and (a b : E)
  | or (a b : E)
  | not (a : E)
  | ite (t a b : E)
  | tup (es : List E)
  | lst (es : List E)
  | ix (a b : E)
  | sl (a : E) (lo hi : Option E)
  | bf (f : Bf) (es : List E)
  | call (f : Nat) (es : List E)
  | lc (tg : Tg) (it : I) (t : Option E) (e : E) (w : List Nat)
  | said (e : E)
  | gix (i : Nat) (k : Str)
  | dict (ks : List Str) (es : List E)
  | tups (es : List E) (e : E)
  | idx (d : D) (e : E)
  | idl (a e : E)
  | sset (a : E)
inductive I where
  | e (e : E)
  | rng1 (a : E)
  | rng2 (a b : E)
  | enum (a : E)
end
/-! ### data operations -/
def isFlat : D → Bool
  | .none | .bool _ | .int _ | .str _ => true
  | _ => false
def asD : Vl → Option D
  | .d x => some x
  | .bo ds => some (.list ds)
  | .gn => none
  | .sc _ => none
def truD : D → Option Bool
  | .none => some false
  | .bool b => some b
  | .int i => some (i != 0)
  | .str x => if x.length ≤ sizeLine then some (x.length != 0) else none
  | .list xs => some (!xs.isEmpty)
  | .tuple xs => some (!xs.isEmpty)
  | .dict _ => none
def addD : D → D → Option D
  | .int i, .int j => some (.int (i + j))
  | .str i, .str j => if i.length + j.length ≤ sizeLine then some (.str (i ++ j)) else none
  | .list i, .list j => if i.length + j.length ≤ sizeLine then some (.list (i ++ j)) else none
  | .tuple i, .tuple j => if i.length + j.length ≤ sizeLine then some (.tuple (i ++ j)) else none
  | _, _ => none
def subD : D → D → Option D
  | .int i, .int j => some (.int (i - j))
  | _, _ => none
def mulD : D → D → Option D
  | .int i, .int j => if (-(2 ^ 64) < i ∧ i < 2 ^ 64) ∨ (-(2 ^ 64) < j ∧ j < 2 ^ 64) then some (.int (i * j)) else none
  | .tuple i, .int j => if 2 ≤ j ∧ i.length = 1 ∧ j ≤ 1000 then some (.tuple (List.replicate j.toNat i).flatten) else none
  | .list i, .int j => if 0 ≤ j ∧ j ≤ 1000 ∧ i.length ≤ 1000 then some (.list (List.replicate j.toNat i).flatten) else none
  | _, _ => none
def modD : D → D → Option D
  | .int i, .int j => if 0 < j then some (.int (i % j)) else none
  | _, _ => none
def fdivD : D → D → Option D
  | .int i, .int j => if 0 < j ∧ j < 1073741824 then some (.int (i / j)) else none
  | _, _ => none
def powD : D → D → Option D
  | .int i, .int j => if 0 ≤ j ∧ j ≤ 1000000 ∧ i.natAbs < 2 ^ 64 then some (.int (i ^ j.toNat)) else none
  | _, _ => none
def opD (op : Operator) (a b : D) : Option D := match op with
  | .Add => addD a b
  | .Sub => subD a b
  | .Mult => mulD a b
  | .Mod => modD a b
  | .FloorDiv => fdivD a b
  | .Pow => powD a b
  | _ => none
def binD (op : Operator) (a b : Vl) : Option D := (asD a).bind fun x => (asD b).bind fun y => opD op x y
def inD (x : D) : List D → Bool
  | [] => false
  | y :: ys => PyData.eqv y x || inD x ys
def eqD (x y : D) : Option Bool := if SeqAt.shaped x && SeqAt.shaped y then some (PyData.eqv x y) else none
/-- a tuple beside the empty one: whatever it holds -/
def nilEq : D → D → Option Bool
  | .tuple xs, .tuple [] => some xs.isEmpty
  | _, _ => none
def eqE (x y : D) : Option Bool := match eqD x y with
  | some k => some k
  | none => nilEq x y
def ltD : D → D → Option Bool
  | .int i, .int j => some (decide (i < j))
  | _, _ => none
def leD : D → D → Option Bool
  | .int i, .int j => some (decide (i ≤ j))
  | _, _ => none
def memD (x : D) : D → Option Bool
  | .list ys => if isFlat x && ys.all isFlat then some (inD x ys) else none
  | .tuple ys => if isFlat x && ys.all isFlat then some (inD x ys) else none
  | _ => none
def isD : D → D → Option Bool
  | .none, .none => some true
  | _, .none => some false
  | .bool a, .bool b => some (decide (a = b))
  | _, _ => none
def cmpOp (op : CmpOp) (x y : D) : Option Bool := match op with
  | .Eq => eqE x y
  | .NotEq => (eqD x y).map (!·)
  | .Lt => ltD x y
  | .LtE => leD x y
  | .Gt => ltD y x
  | .GtE => leD y x
  | .In => memD x y
  | .NotIn => (memD x y).map (!·)
  | .Is => isD x y
  | .IsNot => (isD x y).map (!·)
def cmpD (op : CmpOp) (a b : Vl) : Option Bool := (asD a).bind fun x => (asD b).bind fun y => cmpOp op x y
def itD : D → D → Option D
  | .list xs, .int i => atI xs i
  | .tuple xs, .int i => atI xs i
  | _, _ => none
def ixD (a b : Vl) : Option D := (asD a).bind fun x => (asD b).bind fun y => itD x y
def cutD (xs : List D) (lo hi : Option Int) : List D := (xs.drop (HT.sIx xs.length 0 lo)).take (HT.sIx xs.length xs.length hi - HT.sIx xs.length 0 lo)
def slD (a : Vl) (lo hi : Option Int) : Option D :=
  match asD a with
  | some (.list xs) => some (.list (cutD xs lo hi))
  | some (.tuple xs) => some (.tuple (cutD xs lo hi))
  | _ => none
def tyS : D → String
  | .none => "NoneType"
  | .bool _ => "bool"
  | .int _ => "int"
  | .str _ => "str"
  | .list _ => "list"
  | .tuple _ => "tuple"
  | .dict _ => "dict"
def tySub (a b : String) : Bool := a == b || (a == "bool" && b == "int")
def lenD : D → Option D
  | .list xs => some (.int xs.length)
  | .tuple xs => some (.int xs.length)
  | .str x => if x.length ≤ sizeLine then some (.int x.length) else none
  | _ => none
def tupleD : D → Option D
  | .list xs => some (.tuple xs)
  | .tuple xs => some (.tuple xs)
  | _ => none
def listD : D → Option D
  | .list xs => some (.list xs)
  | .tuple xs => some (.list xs)
  | _ => none
def reprOk (x : D) : Bool := x.showable && decide (x.shown.length ≤ sizeLine) && decide (x.depth ≤ 64)
def reprD (x : D) : Option D := if reprOk x then some (.str x.shown) else none
def intD : D → Option D
  | .int i => some (.int i)
  | .bool b => some (.int (if b then 1 else 0))
  | _ => none
def boolOf : D → Option Bool
  | .bool b => some b
  | _ => none
def allD : D → Option D
  | .list xs => (xs.mapM boolOf).map fun bs => .bool (bs.all id)
  | _ => none
def minD : D → D → Option D
  | .int i, .int j => some (.int (if j < i then j else i))
  | _, _ => none
def isiD (ts : List String) (x : D) : D := .bool (ts.any fun t => tySub (tyS x) t)
def bf1 (f : Bf) (x : D) : Option D := match f with
  | .len => lenD x
  | .tuple => tupleD x
  | .list => listD x
  | .repr => reprD x
  | .int => intD x
  | .all => allD x
  | .isinst ts => some (isiD ts x)
  | .min2 => none
def scLen (f : Bf) (a : Vl) : Option D := match f, a with
  | .len, .sc ns => some (.int ns.length)
  | _, _ => none
def bfD (f : Bf) : List Vl → Option D
  | [a] => (match scLen f a with
    | some d => some d
    | none => (asD a).bind fun x => bf1 f x)
  | [a, b] => (match f with
    | .min2 => (asD a).bind fun x => (asD b).bind fun y => minD x y
    | _ => none)
  | _ => none
def isTupD : D → Bool
  | .tuple _ => true
  | _ => false
def strD : D → Option Str
  | .str x => some x
  | _ => none
/-- the first place of a word -/
def idxS (x : Str) : List Str → Option Nat
  | [] => none
  | y :: ys => if y = x then some 0 else (idxS x ys).map (· + 1)
def idxD (d x : D) : Option D := match d, x with
  | .tuple ds, .str x => (ds.mapM strD).bind fun ys => (idxS x ys).map fun i => .int (i : Nat)
  | _, _ => none
/-- the first place of a flat thing in a list of flat ones -/
def idxF (x : D) : List D → Option Nat
  | [] => none
  | y :: ys => if PyData.eqv y x then some 0 else (idxF x ys).map (· + 1)
def intO : D → Option Int
  | .int i => some i
  | _ => none
def insI (x : Int) : List Int → List Int
  | [] => [x]
  | y :: r => if x < y then x :: y :: r else if x = y then y :: r else y :: insI x r
/-- the members, ascending, each once -/
def ssI (ns : List Int) : List Int := ns.foldr insI []
def ssetD : D → Option D
  | .list xs => (xs.mapM intO).bind fun ns => if ns.length < 60 then some (.list ((ssI ns).map .int)) else none
  | _ => none
def idlD (ds : List D) (x : D) : Option D := if isFlat x && ds.all isFlat then (idxF x ds).map fun i => .int (i : Nat) else none
def lsOf (x : Vl) : Option (List D) := match asD x with
  | some (.list ds) => some ds
  | _ => none
/-! ### what the small language says -/
def Env.get (env : Env) (i : Nat) : M Vl := match env[i]? with
  | some (.fz d) => .pu (.d d)
  | some (.ow ds) => .pu (.bo ds)
  | some .gn => .pu .gn
  | some (.sc ns) => .pu (.sc ns)
  | _ => .stuck
def setTgs (env : Env) : List Nat → List D → Option Env
  | [], [] => some env
  | i :: is, d :: ds => if i < env.length then setTgs (env.set i (.fz d)) is ds else none
  | _, _ => none
def setTg (env : Env) : Tg → D → Option Env
  | .n i, d => if i < env.length then some (env.set i (.fz d)) else none
  | .t is, .tuple ds => setTgs env is ds
  | .t _, _ => none
def tgIx : Tg → List Nat
  | .n i => [i]
  | .t is => is
def wipeE (env : Env) : List Nat → Env
  | [] => env
  | v :: vs => (wipeE env vs).set v .un
def dOf : Vl → Option D
  | .d x => some x
  | _ => none
/-- a result that may be stored -/
def solid : Vl → M D
  | .d x => .pu x
  | _ => .stuck
def toInt : Vl → M Int
  | .d (.int i) => .pu i
  | _ => .stuck
def M.onSome {α β : Type} (o : Option α) (f : α → M β) : M (Option β) := match o with
  | none => .pu none
  | some a => (f a).bd fun b => .pu (some b)
/-- no refusal leaves -/
def M.calm {α : Type} (m : M α) : M α := fun g => match m g with
  | .ok a g' => .ok a g'
  | _ => .st
/-- over the items, one after another -/
def mapB (f : D → M (Option D)) : List D → M (List D)
  | [] => .pu []
  | x :: xs => (f x).bd fun y => (mapB f xs).bd fun ys => .pu (match y with | some y => y :: ys | none => ys)
def rngD (lo hi : Int) : Option (List D) := if -(2 ^ 62) ≤ lo ∧ lo < 2 ^ 62 ∧ -(2 ^ 62) ≤ hi ∧ hi < 2 ^ 62 then some ((List.range (hi - lo).toNat).map fun (i : Nat) => .int (lo + i)) else none
def seqOf : Vl → Option (List D)
  | .d (.list xs) => some xs
  | .d (.tuple xs) => some xs
  | .bo xs => some xs
  | _ => none
def seqE : Vl → Option (List D)
  | .sc ns => some (ns.map .int)
  | x => seqOf x
def enumD (i : Nat) : List D → List D
  | [] => []
  | x :: xs => .tuple [.int i, x] :: enumD (i + 1) xs
/-- what a refusal is called -/
def saidOf (word : Str → Option (Option Str)) (c : Str) (d : D) : Option D := match word c with
  | some (some w) => some (.tuple [.str w, d])
  | some none => some (.tuple [.str "question"])
  | none => none
/-- what the drawing's dict holds -/
def gGet (k : Str) (g : Gen) : Option D :=
  if k = "great" then some (.list (g.great.map .int)) else if k = "seed" then some (.int g.seed) else if k = "turns" then some (.int g.turns) else none
def intOf : D → Option Int
  | .int i => some i
  | _ => none
def gSet (k : Str) (d : D) (g : Gen) : Option Gen :=
  if k = "great" then (match d with
    | .list ds => (ds.mapM intOf).map fun is => { g with great := is }
    | _ => none)
  else if k = "seed" then (intOf d).map fun i => { g with seed := i }
  else if k = "turns" then (intOf d).map fun i => { g with turns := i } else none
def gxD (s : Option Sl) (k : Str) : M Vl := fun g => match s with
  | some .gn => (match gGet k g with
    | some d => .ok (.d d) g
    | none => .st)
  | _ => .st
structure Fns where
  call : Nat → List Vl → M D
  word : Str → Option (Option Str)
mutual
def ev (F : Fns) : E → Env → M Vl
  | .c x, _ => .pu (.d x)
  | .v i, env => env.get i
  | .bin op a b, env => (ev F a env).bd fun x => (ev F b env).bd fun y => .ofO ((binD op x y).map .d)
  | .neg a, env => (ev F a env).bd fun x => (toInt x).bd fun i => .pu (.d (.int (-i)))
  | .cmp op a b, env => (ev F a env).bd fun x => (ev F b env).bd fun y => .ofO ((cmpD op x y).map fun b => .d (.bool b))
  | .chain op op' a b c, env => (ev F a env).bd fun x => (ev F b env).bd fun y => (M.ofO (cmpD op x y)).bd fun k => if k then (ev F c env).bd fun z => .ofO ((cmpD op' y z).map fun b => .d (.bool b)) else .pu (.d (.bool false))
  | .and a b, env => (ev F a env).bd fun x => (M.ofO ((asD x).bind truD)).bd fun k => if k then ev F b env else .pu x
  | .or a b, env => (ev F a env).bd fun x => (M.ofO ((asD x).bind truD)).bd fun k => if k then .pu x else ev F b env
  | .not a, env => (ev F a env).bd fun x => (M.ofO ((asD x).bind truD)).bd fun k => .pu (.d (.bool !k))
  | .ite t a b, env => (evT F t env).bd fun k => if k then ev F a env else ev F b env
  | .tup es, env => (evs F es env).bd fun xs => (M.ofO (xs.mapM dOf)).bd fun ds => if ds.length ≤ sizeLine then .pu (.d (.tuple ds)) else .stuck
  | .lst es, env => (evs F es env).bd fun xs => (M.ofO (xs.mapM dOf)).bd fun ds => if ds.length ≤ sizeLine then .pu (.d (.list ds)) else .stuck
  | .ix a b, env => (ev F a env).bd fun x => (ev F b env).bd fun y => .ofO ((ixD x y).map .d)
  | .sl a lo hi, env => (ev F a env).bd fun x => (evO F lo env).bd fun l => (evO F hi env).bd fun h => .ofO ((slD x l h).map .d)
  | .bf f es, env => (evs F es env).bd fun xs => .ofO ((bfD f xs).map .d)
  | .call f es, env => (evs F es env).bd fun xs => (F.call f xs).bd fun d => .pu (.d d)
  | .lc tg it t e w, env => (evI F it env).bd fun ds => (mapB (fun d => M.calm ((M.ofO (setTg (wipeE env w) tg d)).bd fun env' => (evOT F t env').bd fun k =>
      if k then (ev F e env').bd fun y => (solid y).bd fun y => .pu (some y) else .pu none)) ds).bd fun ys => if ys.length ≤ sizeLine then .pu (.d (.list ys)) else .stuck
  | .said e, env => fun g => match ev F e env g with
    | .ok _ g' => .ok (.d (.tuple [.str "said"])) g'
    | .er c d g' => (M.ofO ((saidOf F.word c d).map .d)) g'
    | .st => .st
  | .gix i k, env => gxD env[i]? k
  | .dict ks es, env => (evs F es env).bd fun xs => (M.ofO (xs.mapM dOf)).bd fun ds => if ks.length = ds.length ∧ ks.Nodup ∧ ks.length ≤ 15 then .pu (.d (.dict ((ks.map .str).zip ds))) else .stuck
  | .tups es e, env => (evs F es env).bd fun xs => (ev F e env).bd fun y => (M.ofO (seqOf y)).bd fun zs => (M.ofO (xs.mapM dOf)).bd fun ds => if ds.length + zs.length ≤ sizeLine then .pu (.d (.tuple (ds ++ zs))) else .stuck
  | .sset a, env => (ev F a env).bd fun x => .ofO (((asD x).bind ssetD).map .d)
  | .idl a e, env => (ev F a env).bd fun x => (M.ofO (lsOf x)).bd fun ds => (ev F e env).bd fun y => .ofO (((asD y).bind (idlD ds)).map .d)
  | .idx d e, env => (ev F e env).bd fun x => .ofO (((asD x).bind (idxD d)).map .d)
termination_by structural e => e
def evT (F : Fns) : E → Env → M Bool
  | .and a b, env => (evT F a env).bd fun k => if k then evT F b env else .pu false
  | .or a b, env => (evT F a env).bd fun k => if k then .pu true else evT F b env
  | .not a, env => (evT F a env).bd fun k => .pu !k
  | .cmp op a b, env => (ev F a env).bd fun x => (ev F b env).bd fun y => .ofO (cmpD op x y)
  | .chain op op' a b c, env => (ev F a env).bd fun x => (ev F b env).bd fun y => (M.ofO (cmpD op x y)).bd fun k => if k then (ev F c env).bd fun z => .ofO (cmpD op' y z) else .pu false
  | .ite t a b, env => (evT F t env).bd fun k => if k then evT F a env else evT F b env
  | .c x, _ => .ofO (truD x)
  | .v i, env => (env.get i).bd fun x => .ofO ((asD x).bind truD)
  | .bin op a b, env => (ev F a env).bd fun x => (ev F b env).bd fun y => .ofO ((binD op x y).bind truD)
  | .ix a b, env => (ev F a env).bd fun x => (ev F b env).bd fun y => .ofO ((ixD x y).bind truD)
  | .bf f es, env => (evs F es env).bd fun xs => .ofO ((bfD f xs).bind truD)
  | .call f es, env => (evs F es env).bd fun xs => (F.call f xs).bd fun d => .ofO (truD d)
  | _, _ => .stuck
termination_by structural e => e
def evO (F : Fns) : Option E → Env → M (Option Int)
  | none, _ => .pu none
  | some e, env => (ev F e env).bd fun x => (toInt x).bd fun i => .pu (some i)
termination_by structural e => e
def evOT (F : Fns) : Option E → Env → M Bool
  | none, _ => .pu true
  | some e, env => evT F e env
termination_by structural e => e
def evs (F : Fns) : List E → Env → M (List Vl)
  | [], _ => .pu []
  | e :: es, env => (ev F e env).bd fun x => (evs F es env).bd fun xs => .pu (x :: xs)
termination_by structural e => e
def evI (F : Fns) : I → Env → M (List D)
  | .e e, env => (ev F e env).bd fun x => .ofO (seqE x)
  | .rng1 a, env => (ev F a env).bd fun x => (toInt x).bd fun i => .ofO (rngD 0 i)
  | .rng2 a b, env => (ev F a env).bd fun x => (ev F b env).bd fun y => (toInt x).bd fun i => (toInt y).bd fun j => .ofO (rngD i j)
  | .enum a, env => (ev F a env).bd fun x => (M.ofO (seqOf x)).bd fun ds => .pu (enumD 0 ds)
termination_by structural e => e
end
end PD
set_option Elab.async false
set_option linter.all false
set_option maxRecDepth 100000
set_option autoImplicit false
namespace PD
open PySem PySem.Spec L2

/-! ### from the text to the small language -/
structure Cfg where
  N : List Str
  sc : Scope
  fns : List (Str × Nat)
  consts : List (Str × D)
  excs : List Str
  gs : List Str
  lam : Bool
def ixOf : List Str → Str → Option Nat
  | [], _ => none
  | y :: ys, x => if x = y then some 0 else (ixOf ys x).map (· + 1)
def visB (sc : Scope) (x : Str) : Bool := match sc.names.lookup x with
  | some .local => true
  | some .cell => true
  | some .free => true
  | _ => false
def locB (sc : Scope) (x : Str) : Bool := match sc.names.lookup x with
  | some .local => true
  | some .cell => true
  | _ => false
def glB (sc : Scope) (x : Str) : Bool := match sc.names.lookup x with
  | some .globalImplicit => true
  | _ => false
def dbg (x : Str) : Bool := (x == ("__debug__" : Str)) || (x == ("__classdict__" : Str))
def Cfg.slot (C : Cfg) (x : Str) : Option Nat := if locB C.sc x && !dbg x then ixOf C.N x else none
def Cfg.var (C : Cfg) (x : Str) : Option Nat := if visB C.sc x && !dbg x then ixOf C.N x else none
def fnIx : List (Str × Nat) → Str → Nat → Option Nat
  | [], _, _ => none
  | (y, k) :: r, x, n => if x = y then (if k = n then some 0 else none) else (fnIx r x n).map (· + 1)
def tyName (e : Expr) (C : Cfg) : Option String := match e with
  | .Name x _ => if glB C.sc x then (if x = "str" then some "str" else if x = "int" then some "int" else if x = "bool" then some "bool" else if x = "tuple" then some "tuple" else if x = "list" then some "list" else none) else none
  | _ => none
def andE : List E → Option E
  | [] => none
  | [a] => some a
  | a :: b :: r => (andE (b :: r)).map (E.and a)
def orE : List E → Option E
  | [] => none
  | [a] => some a
  | a :: b :: r => (orE (b :: r)).map (E.or a)
def opOk : Operator → Bool
  | .Add | .Sub | .Mult | .Mod | .FloorDiv | .Pow => true
  | _ => false
def cmpOk : CmpOp → Bool
  | _ => true
def Cfg.slotE (C : Cfg) : Expr → Option Nat
  | .Name x _ => C.slot x
  | _ => none
def cName (C : Cfg) (x : Str) : Option E := match C.var x with
  | some i => some (.v i)
  | none => if glB C.sc x && !dbg x then (C.consts.lookup x).map .c else none
def rngOk (C : Cfg) (f : Str) (n : Nat) : Bool := glB C.sc f && f = "range" && (fnIx C.fns f n).isNone
def enumOk (C : Cfg) (f : Str) (tt : Bool) : Bool := glB C.sc f && f = "enumerate" && tt && (fnIx C.fns f 1).isNone
def cTg (C : Cfg) : Expr → Option Tg
  | .Name x _ => (C.slot x).map .n
  | .Tuple es _ _ => (es.mapM (C.slotE)).map .t
  | _ => none
def isTup : Expr → Bool
  | .Tuple _ _ _ => true
  | _ => false
/-- a block's scope as it runs: what is a cell outside is one within -/
def relS (sc scope : Scope) : Scope := { scope with names := scope.names.map fun (n, k) => if (k == .free && sc.kind == .function && sc.names.lookup n == some .cell) then (n, .cell) else (n, k) }
def Cfg.inn (C : Cfg) (scope : Scope) : Cfg := { C with sc := relS C.sc scope, lam := false }
/-- within a lambda -/
def Cfg.lamb (C : Cfg) (scope : Scope) : Cfg := { C with sc := scope, lam := false }
def noPar (a : Arguments) : Bool := a.posonlyargs.isEmpty && a.args.isEmpty && a.vararg.isNone && a.kwonlyargs.isEmpty && a.kw_defaults.isEmpty && a.kwarg.isNone && a.defaults.isEmpty
def onePB (a : Arguments) : Bool := match a with
  | ⟨[], [⟨y, none, _⟩], none, [], [], none, [.Constant (.int _) _ _]⟩ => decide (y = "y")
  | _ => false
def lamDB (N : List Str) (sc scope : Scope) : Bool :=
  decide (scope.kind = .function) && (!scope.isCoroutine && (!scope.isGenerator && (decide (scope.names.lookup ("y" : Str) = some NameKind.local) && (decide (("y" : Str) ∉ N) && scope.names.all fun z => !decide (z.2 = .cell) && ((!decide (z.2 = .local) || decide (z.1 = "y")) && (!decide (z.2 = .free) || (decide (sc.names.lookup z.1 = some .cell) || decide (sc.names.lookup z.1 = some .free))))))))
/-- a lambda of nothing, or of a number that none asks for -/
def lamB (C : Cfg) (params : Arguments) (scope : Scope) : Bool := (noPar params && LamX.lamSB C.sc scope) || (onePB params && lamDB C.N C.sc scope)
def Cfg.tgt (C : Cfg) (scope : Scope) : Cfg := { C with sc := scope }
def ownOf (N : List Str) (scope : Scope) : List (Str × Nat) := scope.names.filterMap fun y => match y.2 with
  | .local => (ixOf N y.1).map fun i => (y.1, i)
  | .cell => (ixOf N y.1).map fun i => (y.1, i)
  | _ => none
def keyE : Option Expr → Option Str
  | some (.Constant (.str k) _ _) => some k
  | _ => none
mutual
def cE (C : Cfg) : Expr → Option E
  | .Constant (.int i) _ _ => some (.c (.int i))
  | .Constant (.str x) _ _ => some (.c (.str x))
  | .Constant (.bool b) _ _ => some (.c (.bool b))
  | .Constant .none _ _ => some (.c .none)
  | .Name x _ => cName C x
  | .BinOp a op b _ => if opOk op then (cE C a).bind fun a => (cE C b).map fun b => .bin op a b else none
  | .UnaryOp .Not a _ => (cE C a).map .not
  | .UnaryOp .USub a _ => (cE C a).map .neg
  | .BoolOp .And es _ => (cEs C es).bind andE
  | .BoolOp .Or es _ => (cEs C es).bind orE
  | .Compare a [op] [b] _ => if behindInMarks op b then none else (cE C a).bind fun a => (cE C b).map fun b => .cmp op a b
  | .Compare a [op, op'] [b, c] _ => if lastMarks [op, op'] [b, c] then none else (cE C a).bind fun a => (cE C b).bind fun b => (cE C c).map fun c => .chain op op' a b c
  | .IfExp t a b _ => (cE C t).bind fun t => (cE C a).bind fun a => (cE C b).map fun b => .ite t a b
  | .Tuple es _ _ => match cEs C es with
    | some cs => some (.tup cs)
    | none => (cEst C es).map fun q => .tups q.1 q.2
  | .List es _ => (cEs C es).map .lst
  | .Subscript (.Name x _) (.Constant (.str k) _ _) _ => if x ∈ C.gs then (C.var x).map fun i => .gix i k else none
  | .Dict keys es _ => (keys.mapM keyE).bind fun ks => if keys.length = es.length ∧ keys.length ≤ 15 then (cEs C es).map fun cs => .dict ks cs else none
  | .Subscript a (.Slice lo hi none _) _ => (cE C a).bind fun a => (cEO C lo).bind fun lo => (cEO C hi).map fun hi => .sl a lo hi
  | .Subscript a b _ => (cE C a).bind fun a => (cE C b).map fun b => .ix a b
  | .ListComp elt [⟨tg, iter, ifs, 0⟩] scope _ => match blkC C.N C.sc scope (ownOf C.N scope) with
    | true => ((match iter with
      | .Call (.Name f _) [a] [] _ => if rngOk C f 1 then some ((cE C a).map I.rng1) else if enumOk C f (isTup tg) then some ((cE C a).map I.enum) else none
      | .Call (.Name f _) [a, b] [] _ => if rngOk C f 2 then some ((cE C a).bind fun a => (cE C b).map fun b => I.rng2 a b) else none
      | _ => none).getD ((cE C iter).map I.e)).bind fun it => (cTg (C.tgt scope) tg).bind fun t => (cIfs (C.inn scope) ifs).bind fun k => (cE (C.inn scope) elt).bind fun e =>
      if (tgIx t).all (fun i => decide (i ∈ (ownOf C.N scope).map Prod.snd)) then some (.lc t it k e ((ownOf C.N scope).map Prod.snd)) else none
    | false => none
  | .Call (.Attribute (.Name x _) m apos) [e] [] cpos =>
    if m = "index" && glB C.sc x && !dbg x && (apos.endLine == cpos.line) then (C.consts.lookup x).bind fun d => if isTupD d then (cE C e).map fun c => .idx d c else none else none
  | .Call (.Attribute (.List es _) m apos) [e] [] cpos =>
    if m = "index" && (apos.endLine == cpos.line) then (cEs C es).bind fun cs => (cE C e).map fun c => .idl (.lst cs) c else none
  | .Call (.Name f _) [a, b] [] _ =>
    if f = "isinstance" && glB C.sc f && (fnIx C.fns f 2).isNone then (match b with
      | .Tuple ts _ _ => (ts.mapM fun t => tyName t C).bind fun ts => if ts.length ≤ 10 then (cE C a).map fun a => .bf (.isinst ts) [a] else none
      | t => (tyName t C).bind fun t => (cE C a).map fun a => .bf (.isinst [t]) [a])
    else if glB C.sc f && !dbg f then (cE C a).bind fun a => (cE C b).bind fun b =>
      (match fnIx C.fns f 2 with
      | some i => some (.call i [a, b])
      | none => if f = "min" then some (.bf .min2 [a, b]) else none)
    else none
  | .Call (.Name f _) [.Lambda params body scope _] [] _ =>
    if C.lam && f = "_law_said" && glB C.sc f && lamB C params scope then (cE (C.lamb scope) body).map .said else none
  | .Call (.Name f _) es [] _ =>
    if f = "sorted" && glB C.sc f && (fnIx C.fns f 1).isNone then (match es with
      | [.Call (.Name g _) [a] [] _] => if g = "set" && glB C.sc g && (fnIx C.fns g 1).isNone then (cE C a).map .sset else none
      | _ => none)
    else if glB C.sc f && !dbg f then (cEs C es).bind fun xs => (match fnIx C.fns f xs.length with
      | some i => some (.call i xs)
      | none =>
        if f = "len" && xs.length = 1 then some (.bf .len xs)
        else if f = "tuple" && xs.length = 1 then some (.bf .tuple xs)
        else if f = "list" && xs.length = 1 then some (.bf .list xs)
        else if f = "repr" && xs.length = 1 then some (.bf .repr xs)
        else if f = "int" && xs.length = 1 then some (.bf .int xs)
        else if f = "all" && xs.length = 1 then some (.bf .all xs)
        else if f = "min" && xs.length = 2 then some (.bf .min2 xs)
        else none)
    else none
  | _ => none
termination_by structural e => e
def cEs (C : Cfg) : List Expr → Option (List E)
  | [] => some []
  | e :: es => (cE C e).bind fun a => (cEs C es).map fun as => a :: as
termination_by structural e => e
def cEst (C : Cfg) : List Expr → Option (List E × E)
  | [] => none
  | [.Starred e _] => (cE C e).map fun c => ([], c)
  | e :: es => (cE C e).bind fun a => (cEst C es).map fun q => (a :: q.1, q.2)
termination_by structural e => e
def cEO (C : Cfg) : Option Expr → Option (Option E)
  | none => some none
  | some e => (cE C e).map some
termination_by structural e => e
def cIfs (C : Cfg) : List Expr → Option (Option E)
  | [] => some none
  | [e] => (cE C e).map some
  | _ => none
termination_by structural e => e
end
end PD
set_option Elab.async false
set_option linter.all false
set_option maxRecDepth 100000
set_option autoImplicit false
namespace PD
open PySem PySem.Spec L2

/-! ### small facts of the relation -/
section
variable {S : Sig} {H0 H : Hp} {v : V} {K : PySem.W.Frag}
theorem VR.full (sub : Same H0 H) {x : Vl} {d : D} (h : VR S H0 H v x) (e : asD x = some d) : Dr S.K H v d := by
  cases x with
  | d y => cases e; exact Dr.same sub h
  | gn => cases e
  | sc _ => cases e
  | bo ds =>
    cases e
    obtain ⟨a, xs, rfl, h1, h2⟩ := h
    exact .lst h1 (h2.same sub)
theorem Dr.int_inv {i : Int} (h : Dr K H v (.int i)) : v = .int i := by cases h; rfl
theorem Dr.str_inv {i : Str} (h : Dr K H v (.str i)) : v = .str i := by cases h; rfl
theorem Dr.bl_inv {i : Bool} (h : Dr K H v (.bool i)) : v = .bl i := by cases h; rfl
theorem Dr.non_inv (h : Dr K H v .none) : v = .non := by cases h; rfl
theorem Dr.lst_inv {ds : List D} (h : Dr K H v (.list ds)) : ∃ a xs, v = .ref a ∧ H a = some (.lst xs) ∧ DrAll K H xs ds := by cases h with | lst h1 h2 => exact ⟨_, _, rfl, h1, h2⟩
theorem Dr.tup_inv {ds : List D} (h : Dr K H v (.tuple ds)) : ∃ a xs, v = .ref a ∧ SqT K H a xs ∧ DrAll K H xs ds := by cases h with | tup h1 h2 => exact ⟨_, _, rfl, h1, h2⟩
mutual
theorem Dr.dp : ∀ {v : V} {d : D}, Dr K H v d → d.canLay0 = true → Dp K H v d
  | _, _, .non, _ => .non
  | _, _, .bl b, _ => .bl b
  | _, _, .int i, _ => .int i
  | _, _, .str x, _ => .str x
  | _, _, .lst h hs, c => .lst (SqL.of h) (DrAll.dp hs (by simpa [PyData.canLay0] using c))
  | _, _, .tup h hs, c => .tup h (DrAll.dp hs (by simpa [PyData.canLay0] using c))
  | _, _, .dct _ _, c => by simp [PyData.canLay0] at c
theorem DrAll.dp : ∀ {vs : List V} {ds : List D}, DrAll K H vs ds → PyData.canLayAll0 ds = true → DpAll K H vs ds
  | _, _, .nil, _ => .nil
  | _, _, .cons h hs, c => by
    have c' := c
    simp only [PyData.canLayAll0, Bool.and_eq_true] at c'
    exact .cons (Dr.dp h c'.1) (DrAll.dp hs c'.2)
end
theorem shaped_lay {d : D} (h : SeqAt.shaped d = true) : d.canLay0 = true := SeqAt.canLay_of_shaped h
theorem DrAll.nil_iff {xs : List V} {ds : List D} (h : DrAll K H xs ds) : xs = [] ↔ ds = [] := by
  cases h with
  | nil => simp
  | cons _ _ => simp
theorem same_new {H : Hp} {p : Addr} {o : HO} (hp : H p = none) : Same H (upd H p o) := fun b u e => by rw [upd_ne (ne_of_none e hp)]; exact e
/-- what a new object at p gives -/
theorem Aft.new {g : Gen} {p : Addr} {o : HO} (sub : Same H0 H) (gen : GenAt S.gm g H0 H) (tabs : LamX.Tabs S.T H) (hp : H p = none) (ht : ∀ ps, o ≠ .tbl ps) : Aft S g H0 H (upd H0 p o) (upd H p o) := by
  have sm : Same H (upd H p o) := fun b u e => by rw [upd_ne (ne_of_none e hp)]; exact e
  refine ⟨Stp.new sub hp ht, same_upd sub hp, fun q hq => ?_, tabs.ext sm⟩
  obtain ⟨gl, e1, e2⟩ := gen q hq
  exact ⟨gl, sm _ _ e1, same_new (sub.free hp) _ _ e2⟩
theorem Aft.same {g : Gen} (sub : Same H0 H) (gen : GenAt S.gm g H0 H) (tabs : LamX.Tabs S.T H) : Aft S g H0 H H0 H := ⟨Stp.refl _ _ _, sub, gen, tabs⟩
end

end PD
set_option Elab.async false
set_option linter.all false
set_option maxRecDepth 100000
set_option autoImplicit false
namespace PD
open PySem PySem.Spec L2

section
variable {S : Sig} {H0 H : Hp} {u : V} {w : Vl} {ds : List D}
theorem VR.tup (r : VR S H0 H u w) (e : asD w = some (.tuple ds)) : Dr S.K H0 u (.tuple ds) := by
  cases w with
  | d t => cases e; exact r
  | gn => cases e
  | sc _ => cases e
  | bo t => cases e
theorem VR.lst (sub : Same H0 H) (r : VR S H0 H u w) (e : asD w = some (.list ds)) : ∃ a xs, u = .ref a ∧ H a = some (.lst xs) ∧ DrAll S.K H0 xs ds := by
  cases w with
  | d t =>
    cases e
    obtain ⟨c, zs, e4, e5, e6⟩ := Dr.lst_inv r
    exact ⟨c, zs, e4, sub _ _ e5, e6⟩
  | gn => cases e
  | sc _ => cases e
  | bo t =>
    cases e
    exact r
end
theorem bindO {a b : Vl} {α : Type} {f : D → D → Option α} {z : α} (e : ((asD a).bind fun x => (asD b).bind fun y => f x y) = some z) : ∃ x y, asD a = some x ∧ asD b = some y ∧ f x y = some z := by
  cases ea : asD a with
  | none => rw [ea] at e; cases e
  | some x =>
    cases eb : asD b with
    | none => rw [ea, eb] at e; cases e
    | some y => rw [ea, eb] at e; exact ⟨x, y, rfl, rfl, e⟩
theorem ifO {c : Prop} [Decidable c] {α : Type} {x z : α} (e : (if c then some x else none) = some z) : c ∧ x = z := by
  split at e
  · exact ⟨by assumption, Option.some.inj e⟩
  · cases e
/-- ints alone -/
theorem op2_int {S : Sig} {F : D → D → Option D} {r : R2} (C : Int → Int → Prop) (f : Int → Int → Int)
    (hF : ∀ a b z, F a b = some z → ∃ i j, a = .int i ∧ b = .int j ∧ C i j ∧ z = .int (f i j)) (hr : ∀ i j H Q, C i j → Q (.int (f i j)) H → r (.int i) (.int j) H Q) : Op2 S r (fun a b => (asD a).bind fun x => (asD b).bind fun y => F x y) := by
  intro g x y a b z H0 H Q sub gen tabs ra rb e q
  obtain ⟨da, db, ea, eb, e⟩ := bindO e
  obtain ⟨i, j, rfl, rfl, hc, rfl⟩ := hF da db z e
  obtain rfl := (ra.full sub ea).int_inv
  obtain rfl := (rb.full sub eb).int_inv
  exact hr i j H Q hc (q _ _ _ (Aft.same sub gen tabs) (.int _))
theorem op2_add {S : Sig} : Op2 S (fun x y H Q => (rI0 fun i j => .int (i + j)) x y H Q ∨ (∃ i j, x = .str i ∧ y = .str j ∧ i.length + j.length ≤ sizeLine ∧ Q (.str (i ++ j)) H) ∨ rCat x y H Q ∨ rCatA S.K x y H Q) (binD .Add) := by
  intro g x y a b z H0 H Q sub gen tabs ra rb e q
  obtain ⟨da, db, ea, eb, e⟩ := bindO e
  have e : addD da db = some z := e
  unfold addD at e
  split at e
  · obtain rfl := (ra.full sub ea).int_inv
    obtain rfl := (rb.full sub eb).int_inv
    cases e
    exact .inl ⟨_, _, rfl, rfl, q _ _ _ (Aft.same sub gen tabs) (.int _)⟩
  · obtain rfl := (ra.full sub ea).str_inv
    obtain rfl := (rb.full sub eb).str_inv
    obtain ⟨hl, rfl⟩ := ifO e
    exact .inr (.inl ⟨_, _, rfl, rfl, hl, q _ _ _ (Aft.same sub gen tabs) (.str _)⟩)
  · obtain ⟨hl, rfl⟩ := ifO e
    obtain ⟨p, xs, rfl, h1, h2⟩ := ra.lst sub ea
    obtain ⟨p', ys, rfl, h3, h4⟩ := rb.lst sub eb
    refine .inr (.inr (.inl ⟨p, p', xs, ys, rfl, rfl, h1, h3, by rw [h2.length, h4.length]; exact hl, fun l hp => ?_⟩))
    have s0 : Same H0 (upd H0 l (.lst (xs ++ ys))) := same_new (sub.free hp)
    exact q _ _ _ (Aft.new sub gen tabs hp (fun ps z => by cases z)) (.lst upd_same ((h2.append h4).same s0))
  · obtain ⟨hl, rfl⟩ := ifO e
    have ga := ra.tup ea
    have gb := rb.tup eb
    obtain ⟨p, xs, rfl, h1, h2⟩ := Dr.tup_inv ga
    obtain ⟨p', ys, rfl, h3, h4⟩ := Dr.tup_inv gb
    refine .inr (.inr (.inr ⟨p, p', xs, ys, rfl, rfl, sqT_same sub h1, sqT_same sub h3, by rw [h2.length, h4.length]; exact hl, fun z => ?_, fun _ z => ?_, fun _ _ l hp => ?_⟩))
    · have z' := h2.nil_iff.mp z
      subst z'
      exact q _ _ _ (Aft.same sub gen tabs) gb
    · have z' := h4.nil_iff.mp z
      subst z'
      rw [List.append_nil] at q
      exact q _ _ _ (Aft.same sub gen tabs) ga
    · have s0 : Same H0 (upd H0 l (.tup (xs ++ ys))) := same_new (sub.free hp)
      exact q _ _ _ (Aft.new sub gen tabs hp (fun ps z => by cases z)) (.tup (SqT.of upd_same) ((h2.append h4).same s0))
  · cases e
theorem op2_sub {S : Sig} : Op2 S (rI0 fun i j => .int (i - j)) (binD .Sub) := op2_int (fun _ _ => True) (· - ·) (fun a b z e => by
  have e : subD a b = some z := e
  unfold subD at e
  split at e
  · cases e; exact ⟨_, _, rfl, rfl, trivial, rfl⟩
  · cases e) fun i j H Q _ q => ⟨i, j, rfl, rfl, q⟩
theorem op2_mod {S : Sig} : Op2 S (rI (fun _ j => 0 < j) fun i j => .int (i % j)) (binD .Mod) := op2_int (fun _ j => 0 < j) (· % ·) (fun a b z e => by
  have e : modD a b = some z := e
  unfold modD at e
  split at e
  · obtain ⟨h, rfl⟩ := ifO e; exact ⟨_, _, rfl, rfl, h, rfl⟩
  · cases e) fun i j H Q h q => ⟨i, j, rfl, rfl, h, q⟩
theorem op2_fdiv {S : Sig} : Op2 S (rI CDiv fun i j => .int (i / j)) (binD .FloorDiv) := op2_int CDiv (· / ·) (fun a b z e => by
  have e : fdivD a b = some z := e
  unfold fdivD at e
  split at e
  · obtain ⟨h, rfl⟩ := ifO e; exact ⟨_, _, rfl, rfl, h, rfl⟩
  · cases e) fun i j H Q h q => ⟨i, j, rfl, rfl, h, q⟩
theorem op2_pow {S : Sig} : Op2 S (rI CPow fun i j => .int (i ^ j.toNat)) (binD .Pow) := op2_int CPow (fun i j => i ^ j.toNat) (fun a b z e => by
  have e : powD a b = some z := e
  unfold powD at e
  split at e
  · obtain ⟨h, rfl⟩ := ifO e; exact ⟨_, _, rfl, rfl, h, rfl⟩
  · cases e) fun i j H Q h q => ⟨i, j, rfl, rfl, h, q⟩
theorem op2_mul {S : Sig} : Op2 S (fun x y H Q => (rI CMul fun i j => .int (i * j)) x y H Q ∨ (rRepT S.K x y H Q ∨ rRep x y H Q)) (binD .Mult) := by
  intro g x y a b z H0 H Q sub gen tabs ra rb e q
  obtain ⟨da, db, ea, eb, e⟩ := bindO e
  have e : mulD da db = some z := e
  unfold mulD at e
  split at e
  · obtain ⟨hc, rfl⟩ := ifO e
    obtain rfl := (ra.full sub ea).int_inv
    obtain rfl := (rb.full sub eb).int_inv
    exact .inl ⟨_, _, rfl, rfl, hc, q _ _ _ (Aft.same sub gen tabs) (.int _)⟩
  · obtain ⟨⟨h1, h2, h3⟩, rfl⟩ := ifO e
    obtain rfl := (rb.full sub eb).int_inv
    obtain ⟨p, vs, rfl, k1, k2⟩ := Dr.tup_inv (ra.tup ea)
    have hl : vs.length = 1 := by rw [k2.length]; exact h2
    refine .inr (.inl ⟨p, _, vs, rfl, rfl, sqT_same sub k1, fun z => by rw [z] at hl; simp at hl, h1, h3, by omega, fun l hp => ?_⟩)
    exact q _ _ _ (Aft.new sub gen tabs hp (fun ps z => by cases z)) (.tup (SqT.of upd_same) ((k2.rep _).same (same_new (sub.free hp))))
  · obtain ⟨⟨h1, h2, h3⟩, rfl⟩ := ifO e
    obtain rfl := (rb.full sub eb).int_inv
    obtain ⟨p, vs, rfl, k1, k2⟩ := ra.lst sub ea
    have hl := k2.length
    refine .inr (.inr ⟨p, _, vs, rfl, rfl, k1, by omega, by omega, ?_, fun l hp => ?_⟩)
    · rw [hl, sizeLine_eq]
      exact Nat.le_trans (Nat.mul_le_mul h3 (Int.toNat_le.mpr h2)) (by decide : 1000 * 1000 ≤ 16777216)
    · exact q _ _ _ (Aft.new sub gen tabs hp (fun ps z => by cases z)) (.lst upd_same ((k2.rep _).same (same_new (sub.free hp))))
  · cases e
/-- a op b -/
def rBin (S : Sig) : Operator → R2
  | .Add => fun x y H Q => (rI0 fun i j => .int (i + j)) x y H Q ∨ (∃ i j, x = .str i ∧ y = .str j ∧ i.length + j.length ≤ sizeLine ∧ Q (.str (i ++ j)) H) ∨ rCat x y H Q ∨ rCatA S.K x y H Q
  | .Sub => rI0 fun i j => .int (i - j)
  | .Mult => fun x y H Q => (rI CMul fun i j => .int (i * j)) x y H Q ∨ (rRepT S.K x y H Q ∨ rRep x y H Q)
  | .Mod => rI (fun _ j => 0 < j) fun i j => .int (i % j)
  | .FloorDiv => rI CDiv fun i j => .int (i / j)
  | .Pow => rI CPow fun i j => .int (i ^ j.toNat)
  | _ => fun _ _ _ _ => False
theorem opR_bin {X : Cx} {S : Sig} (hK : X.K = S.K) (op : Operator) (h : opOk op = true) : OpR X (binaryOp op) (rBin S op) := by
  obtain ⟨K, gm, T, cl, at_⟩ := S
  subst hK
  cases op with
  | Add => exact op_add.or (op_add_str.or (op_cat.or op_catA))
  | Sub => exact op_sub
  | Mult => exact op_mul.or (op_repT.or op_rep)
  | Mod => exact op_mod
  | FloorDiv => exact op_fdiv
  | Pow => exact op_pow
  | _ => cases h
theorem op2_bin {S : Sig} (op : Operator) (h : opOk op = true) : Op2 S (rBin S op) (binD op) := by
  cases op with
  | Add => exact op2_add
  | Sub => exact op2_sub
  | Mult => exact op2_mul
  | Mod => exact op2_mod
  | FloorDiv => exact op2_fdiv
  | Pow => exact op2_pow
  | _ => cases h
end PD
set_option Elab.async false
set_option linter.all false
set_option maxRecDepth 100000
set_option autoImplicit false
namespace PD
open PySem PySem.Spec L2

/-- a comparison: from the data of both to its answer -/
def Op2B (S : Sig) (r : R2) (F : Vl → Vl → Option Bool) : Prop :=
  ∀ (x y : V) (a b : Vl) (k : Bool) (H0 H : Hp) (Q : VK), Same H0 H → VR S H0 H x a → VR S H0 H y b → F a b = some k → Q (.bl k) H → r x y H Q
theorem op2B {S : Sig} {r : R2} {F : D → D → Option Bool} (h : ∀ x y a b k H Q, Dr S.K H x a → Dr S.K H y b → F a b = some k → Q (.bl k) H → r x y H Q) : Op2B S r (fun a b => (asD a).bind fun x => (asD b).bind fun y => F x y) := by
  intro x y a b k H0 H Q sub ra rb e q
  obtain ⟨da, db, ea, eb, e⟩ := bindO e
  exact h x y da db k H Q (ra.full sub ea) (rb.full sub eb) e q
theorem flatV_of {K : PySem.W.Frag} {H : Hp} {x : V} {d : D} (r : Dr K H x d) (h : isFlat d = true) : flatV x = true := by
  cases r <;> first | rfl | (exfalso; simp [isFlat] at h; done)
theorem eqV_of {K : PySem.W.Frag} {H : Hp} {x y : V} {d e : D} (r : Dr K H x d) (r' : Dr K H y e) (h : isFlat d = true) (h' : isFlat e = true) : eqV x y = PyData.eqv d e := by
  cases r <;> first | (exfalso; simp [isFlat] at h; done) | (cases r' <;> first | (exfalso; simp [isFlat] at h'; done) | simp [eqV, PyData.eqv])
theorem flats_of {K : PySem.W.Frag} {H : Hp} : ∀ {xs : List V} {ds : List D}, DrAll K H xs ds → ds.all isFlat = true → xs.all flatV = true
  | _, _, .nil, _ => rfl
  | _, _, .cons r rs, h => by
    rw [List.all_cons, Bool.and_eq_true] at h ⊢
    exact ⟨flatV_of r h.1, flats_of rs h.2⟩
theorem inV_of {K : PySem.W.Frag} {H : Hp} {x : V} {d : D} (r : Dr K H x d) (h : isFlat d = true) : ∀ {xs : List V} {ds : List D}, DrAll K H xs ds → ds.all isFlat = true → inV x xs = inD d ds
  | _, _, .nil, _ => rfl
  | y :: xs, e :: ds, .cons r1 rs, h1 => by
    rw [List.all_cons, Bool.and_eq_true] at h1
    unfold inV inD
    rw [List.any_cons, eqV_of r1 r h1.1 h]
    have := inV_of r h rs h1.2
    unfold inV at this
    rw [this]
def rMem (S : Sig) (neg : Bool) : R2 := rIn S.K neg
theorem op2_mem {S : Sig} (neg : Bool) : Op2B S (rIn S.K neg) (fun a b => (asD a).bind fun x => (asD b).bind fun y => (memD x y).map fun k => if neg then !k else k) := op2B fun x y a b k H Q ra rb e q => by
  cases e1 : memD a b with
  | none => rw [e1] at e; cases e
  | some k1 =>
    rw [e1] at e
    have e2 : (if neg then !k1 else k1) = k := Option.some.inj e
    subst e2
    unfold memD at e1
    split at e1
    · obtain ⟨hc, rfl⟩ := ifO e1
      rw [Bool.and_eq_true] at hc
      obtain ⟨p, xs, rfl, h1, h2⟩ := rb.lst_inv
      refine ⟨p, xs, rfl, .inl (SqL.of h1), flatV_of ra hc.1, flats_of h2 hc.2, ?_⟩
      rw [inV_of ra hc.1 h2 hc.2]; exact q
    · obtain ⟨hc, rfl⟩ := ifO e1
      rw [Bool.and_eq_true] at hc
      obtain ⟨p, xs, rfl, h1, h2⟩ := rb.tup_inv
      refine ⟨p, xs, rfl, .inr h1, flatV_of ra hc.1, flats_of h2 hc.2, ?_⟩
      rw [inV_of ra hc.1 h2 hc.2]; exact q
    · cases e1
def rIsA : R2 := fun x y H Q => (y = .non ∧ Q (.bl (decide (x = .non))) H) ∨ rIsB x y H Q
def rIsNotA : R2 := fun x y H Q => (y = .non ∧ Q (.bl (!decide (x = .non))) H) ∨ rNotB x y H Q

def isN : D → Bool
  | .none => true
  | _ => false
theorem isD_inv {a b : D} {k : Bool} (e : isD a b = some k) : (b = .none ∧ k = isN a) ∨ ∃ p q, a = .bool p ∧ b = .bool q ∧ k = decide (p = q) := by
  cases b with
  | none => cases a <;> (cases e; exact .inl ⟨rfl, rfl⟩)
  | bool q => cases a <;> first | (cases e; done) | (cases e; exact .inr ⟨_, _, rfl, rfl, rfl⟩)
  | _ => cases a <;> cases e
theorem isNon_of {K : PySem.W.Frag} {H : Hp} {x : V} {d : D} (r : Dr K H x d) : decide (x = .non) = isN d := by
  cases r <;> simp [isN]
def rNilT (K : PySem.W.Frag) : R2 := fun x y H Q => ∃ a b xs, x = V.ref a ∧ y = V.ref b ∧ SqT K H a xs ∧ SqT K H b [] ∧ Q (.bl xs.isEmpty) H
theorem op_nilT {X : Cx} (hu : X.A.units < cLine) : OpR X (compareOp .Eq) (rNilT X.K) := by
  intro pins s σ H x y v u Q I rx ry h
  obtain ⟨a, b, xs, rfl, rfl, ha, hb, q⟩ := h
  cases (show v = Value.ref a from rx)
  cases (show u = Value.ref b from ry)
  obtain ⟨us, r1, p1, _⟩ := I.tuple ha
  obtain ⟨ws, r2, p2, _⟩ := I.tuple hb
  cases r2
  have sz : us.length = xs.length := r1.length.symm
  refine SeqAt.eq_tupleAt (e := fun _ => true) p1 p2 hu (fun j h1 h2 => absurd h2 (by simp)) ⟨.bl xs.isEmpty, H, I, ?_, q⟩
  cases xs with
  | nil =>
    cases r1
    rfl
  | cons y ys =>
    cases us with
    | nil => cases sz
    | cons z zs => rfl
def rCmp (S : Sig) : CmpOp → R2
  | .Eq => fun x y H Q => rEqD S.K x y H Q ∨ rNilT S.K x y H Q
  | .NotEq => rNeD S.K
  | .Lt => rI0 fun i j => .bl (decide (i < j))
  | .LtE => rI0 fun i j => .bl (decide (i ≤ j))
  | .Gt => rI0 fun i j => .bl (decide (j < i))
  | .GtE => rI0 fun i j => .bl (decide (j ≤ i))
  | .In => rIn S.K false
  | .NotIn => rIn S.K true
  | .Is => rIsA
  | .IsNot => rIsNotA
theorem opR_cmp {X : Cx} {S : Sig} (hK : X.K = S.K) (hu : X.A.units + 64 < cLine) (op : CmpOp) : OpR X (compareOp op) (rCmp S op) := by
  obtain ⟨K, gm, T, cl, at_⟩ := S
  subst hK
  cases op with
  | Eq => exact (op_eqD hu).or (op_nilT (by omega))
  | NotEq => exact op_neD hu
  | Lt => exact op_lt
  | LtE => exact op_le
  | Gt => exact op_gt
  | GtE => exact op_ge
  | In => exact op_in_seq
  | NotIn => exact op_notIn_seq
  | Is => exact op_isN.or op_isBl
  | IsNot => exact op_notN.or op_notBl
theorem op2_cmp {S : Sig} (op : CmpOp) : Op2B S (rCmp S op) (cmpD op) := by
  cases op with
  | Eq =>
    exact op2B fun x y a b k H Q ra rb e q => by
      have e : eqE a b = some k := e
      unfold eqE at e
      split at e
      · rename_i k' e1
        cases e
        obtain ⟨hc, rfl⟩ := ifO (show (if (SeqAt.shaped a && SeqAt.shaped b) = true then some (PyData.eqv a b) else none) = some k from e1)
        rw [Bool.and_eq_true] at hc
        exact .inl ⟨a, b, ra.dp (shaped_lay hc.1), rb.dp (shaped_lay hc.2), hc.1, hc.2, q⟩
      · unfold nilEq at e
        split at e
        · cases e
          obtain ⟨p, xs, rfl, h1, h2⟩ := ra.tup_inv
          obtain ⟨p2, ys, rfl, h3, h4⟩ := rb.tup_inv
          cases h4
          refine .inr ⟨p, p2, xs, rfl, rfl, h1, h3, ?_⟩
          cases h2 <;> exact q
        · cases e
  | NotEq =>
    exact op2B fun x y a b k H Q ra rb e q => by
      have e : (eqD a b).map (!·) = some k := e
      cases e1 : eqD a b with
      | none => rw [e1] at e; cases e
      | some k' =>
        rw [e1] at e
        cases e
        obtain ⟨hc, rfl⟩ := ifO (show (if (SeqAt.shaped a && SeqAt.shaped b) = true then some (PyData.eqv a b) else none) = some k' from e1)
        rw [Bool.and_eq_true] at hc
        exact ⟨a, b, ra.dp (shaped_lay hc.1), rb.dp (shaped_lay hc.2), hc.1, hc.2, q⟩
  | Lt =>
    exact op2B fun x y a b k H Q ra rb e q => by
      have e : ltD a b = some k := e
      unfold ltD at e
      split at e
      · cases ra; cases rb; cases e; exact ⟨_, _, rfl, rfl, q⟩
      · cases e
  | LtE =>
    exact op2B fun x y a b k H Q ra rb e q => by
      have e : leD a b = some k := e
      unfold leD at e
      split at e
      · cases ra; cases rb; cases e; exact ⟨_, _, rfl, rfl, q⟩
      · cases e
  | Gt =>
    exact op2B fun x y a b k H Q ra rb e q => by
      have e : ltD b a = some k := e
      unfold ltD at e
      split at e
      · cases ra; cases rb; cases e; exact ⟨_, _, rfl, rfl, q⟩
      · cases e
  | GtE =>
    exact op2B fun x y a b k H Q ra rb e q => by
      have e : leD b a = some k := e
      unfold leD at e
      split at e
      · cases ra; cases rb; cases e; exact ⟨_, _, rfl, rfl, q⟩
      · cases e
  | In =>
    intro x y a b k H0 H Q sub ra rb e q
    refine op2_mem false x y a b k H0 H Q sub ra rb ?_ q
    obtain ⟨da, db, ea, eb, e⟩ := bindO e
    dsimp only
    rw [ea, eb]
    show (memD da db).map _ = _
    have e : memD da db = some k := e
    rw [e]; rfl
  | NotIn =>
    intro x y a b k H0 H Q sub ra rb e q
    refine op2_mem true x y a b k H0 H Q sub ra rb ?_ q
    obtain ⟨da, db, ea, eb, e⟩ := bindO e
    dsimp only
    rw [ea, eb]
    show (memD da db).map _ = _
    have e : (memD da db).map (!·) = some k := e
    cases e1 : memD da db with
    | none => rw [e1] at e; cases e
    | some k' => rw [e1] at e; cases e; rfl
  | Is =>
    exact op2B fun x y a b k H Q ra rb e q => by
      rcases isD_inv (show isD a b = some k from e) with ⟨rfl, rfl⟩ | ⟨p, r, rfl, rfl, rfl⟩
      · cases rb
        refine .inl ⟨rfl, ?_⟩
        rw [isNon_of ra]; exact q
      · cases ra; cases rb
        exact .inr ⟨_, _, rfl, rfl, q⟩
  | IsNot =>
    exact op2B fun x y a b k H Q ra rb e q => by
      have e : (isD a b).map (!·) = some k := e
      cases e1 : isD a b with
      | none => rw [e1] at e; cases e
      | some k' =>
        rw [e1] at e
        have e2 : (!k') = k := Option.some.inj e
        subst e2
        rcases isD_inv e1 with ⟨rfl, rfl⟩ | ⟨p, r, rfl, rfl, rfl⟩
        · cases rb
          refine .inl ⟨rfl, ?_⟩
          rw [isNon_of ra]; exact q
        · cases ra; cases rb
          exact .inr ⟨_, _, rfl, rfl, q⟩
/-! ### truth -/
theorem tru_of {K : PySem.W.Frag} {H : Hp} {x : V} {d : D} {k : Bool} (r : Dr K H x d) (e : truD d = some k) : TruV K x H k := by
  cases r with
  | non => cases e; rfl
  | bl b => cases e; rfl
  | int i => cases e; rfl
  | str z =>
    obtain ⟨h, rfl⟩ := ifO (show (if z.length ≤ sizeLine then some (z.length != 0) else none) = some k from e)
    refine ⟨h, ?_⟩
    cases q : z.length with
    | zero => rfl
    | succ n =>
      have : (((n + 1 : Nat) : Int) != 0) = true := by simp; omega
      rw [this]; rfl
  | lst h hs =>
    cases e
    refine .inl ⟨_, SqL.of h, ?_⟩
    cases hs <;> rfl
  | tup h hs =>
    cases e
    refine .inr (.inl ⟨_, h, ?_⟩)
    cases hs <;> rfl
  | dct h hs => cases e
/-! ### items, slices -/
theorem ixN_len {n m : Nat} (h : n = m) (i : Int) : ixN n i = ixN m i := by rw [h]
theorem atI_of {K : PySem.W.Frag} {H : Hp} {xs : List V} {ds : List D} {i : Int} {d : D} (h : DrAll K H xs ds) (e : atI ds i = some d) : ∃ v, atI xs i = some v ∧ Dr K H v d := by
  unfold atI at e ⊢
  rw [h.length]
  cases q : ixN ds.length i with
  | none => rw [q] at e; cases e
  | some j =>
    rw [q] at e
    exact h.getD e
def rIxA (S : Sig) : R2 := rIx S.K
theorem op2_ix {S : Sig} : Op2 S (rIx S.K) ixD := by
  intro g x y a b z H0 H Q sub gen tabs ra rb e q
  obtain ⟨da, db, ea, eb, e⟩ := bindO e
  unfold itD at e
  split at e
  · obtain rfl := (rb.full sub eb).int_inv
    obtain ⟨p, xs, rfl, h1, h2⟩ := ra.lst sub ea
    obtain ⟨v, h3, h4⟩ := atI_of h2 e
    exact .inl ⟨p, xs, _, v, rfl, rfl, SqL.of h1, h3, q _ _ _ (Aft.same sub gen tabs) h4⟩
  · obtain rfl := (rb.full sub eb).int_inv
    obtain ⟨p, xs, rfl, h1, h2⟩ := Dr.tup_inv (ra.tup ea)
    obtain ⟨v, h3, h4⟩ := atI_of h2 e
    exact .inr (.inl ⟨p, xs, _, v, rfl, rfl, sqT_same sub h1, h3, q _ _ _ (Aft.same sub gen tabs) h4⟩)
  · cases e
theorem cut_of {K : PySem.W.Frag} {H : Hp} {xs : List V} {ds : List D} (h : DrAll K H xs ds) (lo hi : Option Int) : DrAll K H (cutV xs lo hi) (cutD ds lo hi) := by
  unfold cutV cutD
  rw [h.length]
  exact (h.drop _).take _
/-- a slice -/
def rSlX (K : PySem.W.Frag) : V → Option Int → Option Int → Hp → VK → Prop := fun x lo hi H Q => rSlL K x lo hi H Q ∨ rSlA K x lo hi H Q
theorem sl_any {X : Cx} : L2.SlR X (rSlX X.K) := sl_list.or sl_tupA
theorem sIx_le' (n d : Nat) (h : d ≤ n) (o : Option Int) : HT.sIx n d o ≤ n := HT.sIx_le n d h o
theorem op_sl {S : Sig} {g : Gen} {x : V} {a : Vl} {z : D} {lo hi : Option Int} {H0 H : Hp} {Q : VK} (sub : Same H0 H) (gen : GenAt S.gm g H0 H) (tabs : LamX.Tabs S.T H) (ra : VR S H0 H x a) (e : slD a lo hi = some z)
    (q : ∀ v H0' H', Aft S g H0 H H0' H' → Dr S.K H0' v z → Q v H') : rSlX S.K x lo hi H Q := by
  unfold slD at e
  split at e
  · rename_i xs ea
    cases e
    obtain ⟨p, vs, rfl, h1, h2⟩ := ra.lst sub ea
    exact .inl ⟨p, vs, rfl, SqL.of h1, fun l hp => q _ _ _ (Aft.new sub gen tabs hp (fun ps z => by cases z)) (.lst upd_same ((cut_of h2 lo hi).same (same_new (sub.free hp))))⟩
  · rename_i xs ea
    cases e
    have ga := ra.tup ea
    obtain ⟨p, vs, rfl, h1, h2⟩ := Dr.tup_inv ga
    refine .inr ⟨p, vs, rfl, sqT_same sub h1, fun hw => ?_, fun _ l hp => q _ _ _ (Aft.new sub gen tabs hp (fun ps z => by cases z)) (.tup (SqT.of upd_same) ((cut_of h2 lo hi).same (same_new (sub.free hp))))⟩
    have ec : cutD xs lo hi = xs := by
      unfold cutD
      rw [h2.length] at hw
      rw [hw.1, hw.2]
      simp
    rw [ec] at q
    exact q _ _ _ (Aft.same sub gen tabs) ga
  · cases e
end PD
set_option Elab.async false
set_option linter.all false
set_option maxRecDepth 100000
set_option autoImplicit false
namespace PD
open PySem PySem.Spec L2

section
variable {X : Cx} {pins : List (Addr × Obj)} {σ : L2.St} {H : Hp} {s : Shared}
theorem no_sys (I : Inv X pins σ H s) (sys : ∃ o, X.base.get? sysModules = some o) {a : Addr} {o : HO} (h : H a = some o) : ¬ sysModules = a := fun z => by
  obtain ⟨u, e⟩ := sys
  have n := (I.bs _ _ e).2
  rw [z, h] at n
  cases n
theorem prs_rd {P : Program} {w : World} {h : Heap} : ∀ {kvs : List (Key × V)} {vs : List (Key × Value)} {es : List DictEntry}, KV kvs vs → Pairs (mixKind P w) es vs →
    ReadsAll h (es.map (·.key)) (kvs.map fun q => keyD q.1) [] ∧ Vals (kvs.map (·.2)) (es.map (·.val)) := by
  intro kvs vs es q r
  induction q generalizing es with
  | nil => cases r; exact ⟨.nil, .nil⟩
  | cons h1 _ ih =>
    cases r with
    | cons k1 k2 k3 =>
      obtain ⟨i1, i2⟩ := ih k3
      refine ⟨?_, .cons ?_ i2⟩
      · have := i1
        rcases keyIs_shape k1 with ⟨i, t, e1, e2⟩ | ⟨x, t, e1, e2⟩
        · rw [List.map_cons, List.map_cons, e2, h1.1, e1]
          exact ReadsAll.cons (as := []) (Reads.int i t) i1
        · rw [List.map_cons, List.map_cons, e2, h1.1, e1]
          exact ReadsAll.cons (as := []) (Reads.str x t) i1
      · show RelV _ _
        dsimp only
        rw [k2]; exact h1.2
mutual
/-- what is read; the table of modules is none of it -/
theorem Dr.rds (I : Inv X pins σ H s) (sys : ∃ o, X.base.get? sysModules = some o) : ∀ {v : V} {d : D}, Dr X.K H v d → ∀ {u : Value}, RelV v u → ∃ as, Reads s.heap u d as ∧ ¬ sysModules ∈ as
  | _, _, .non, u, r => by cases r; exact ⟨_, Reads.none, by simp⟩
  | _, _, .bl b, u, r => by cases r; exact ⟨_, Reads.bool b, by simp⟩
  | _, _, .int i, u, r => by obtain ⟨t, rfl⟩ := r; exact ⟨_, Reads.int i t, by simp⟩
  | _, _, .str x, u, r => by obtain ⟨t, rfl⟩ := r; exact ⟨_, Reads.str x t, by simp⟩
  | _, _, .lst h hs, u, r => by
    cases r
    obtain ⟨z, its, n, rv, e⟩ := I.hok _ _ h
    obtain ⟨as, hr, hn⟩ := DrAll.rds I sys hs rv
    exact ⟨_, Reads.list e rfl rfl (by simpa using hr), by simp [hn, no_sys I sys h]⟩
  | _, _, .tup hq hs, u, r => by
    cases r
    obtain ⟨its, rv, ⟨o, ho, hc, n, hd⟩, _⟩ := I.tuple hq
    obtain ⟨as, hr, hn⟩ := DrAll.rds I sys hs rv
    exact ⟨_, Reads.tuple ho hc hd (by simpa using hr), hn⟩
  | _, _, .dct (kvs := kvs) (ds := ds) h hs, u, r => by
    cases r
    obtain ⟨z, zs, vs, kv, o, es, ep, e, ex, hd, ko, prs, nd⟩ := I.hok _ _ h
    have hl := hs.length
    rw [List.length_map] at hl
    obtain ⟨q1, q2⟩ := prs_rd (h := s.heap) kv prs
    obtain ⟨bs, hr, hn⟩ := DrAll.rds I sys hs q2
    refine ⟨_, Reads.dict (as := []) (bs := bs) e ex.1 hd ?_ ?_, by simp [hn, no_sys I sys h]⟩
    · rw [List.map_fst_zip (by simp [hl])]; exact q1
    · rw [List.map_snd_zip (by simp [hl])]; exact hr
theorem DrAll.rds (I : Inv X pins σ H s) (sys : ∃ o, X.base.get? sysModules = some o) : ∀ {vs : List V} {ds : List D}, DrAll X.K H vs ds → ∀ {us : List Value}, Vals vs us → ∃ as, ReadsAll s.heap us ds as ∧ ¬ sysModules ∈ as
  | _, _, .nil, us, r => by cases r; exact ⟨_, ReadsAll.nil, by simp⟩
  | _, _, .cons h hs, us, r => by
    cases r with
    | cons r1 r2 =>
      obtain ⟨as, q1, n1⟩ := Dr.rds I sys h r1
      obtain ⟨bs, q2, n2⟩ := DrAll.rds I sys hs r2
      exact ⟨_, ReadsAll.cons q1 q2, by simp [n1, n2]⟩
end
end
section
variable {X : Cx}
def rRepr (K : PySem.W.Frag) : List V → Hp → VK → Prop := fun xs H Q => ∃ x d, xs = [x] ∧ Dr K H x d ∧ reprOk d = true ∧ Q (.str d.shown) H
theorem call_reprD (sys : ∃ o, X.base.get? sysModules = some o) (hg : X.A.guards = some []) (hu : X.A.units + 100 < cLine) : CallR X (.builtin "repr") (rRepr X.K) := by
  intro pins s σ H xs us Q I r h
  obtain ⟨x, d, rfl, hd, ho, q⟩ := h
  obtain ⟨u, rfl, ru⟩ := vals1 r
  unfold reprOk at ho
  simp only [Bool.and_eq_true, decide_eq_true_eq, Bool.not_eq_true'] at ho
  obtain ⟨⟨h1, h2⟩, h3⟩ := ho
  have gen : ∀ {a : Addr}, u = .ref a → wpAny (model X.prog X.w) X.A (call (.builtin "repr") [u]) (EP X pins σ Q) X.xe s := by
    intro a e
    obtain ⟨as, hr, hn⟩ := Dr.rds I sys hd ru
    subst e
    refine repr_of_reads' hr h1 (fun _ => hn) hg (by omega) (fun _ _ e => e) (fun h' u' tk hk => ?_) h2
    exact ⟨.str d.shown, H, I.kept (t' := tk) hk, ⟨_, rfl⟩, q⟩
  cases hd with
  | non => cases ru; exact PySem.P.repr_of_none ⟨.str _, H, I.tok _, ⟨_, rfl⟩, by simpa [PyData.shown] using q⟩
  | bl b => cases ru; exact PySem.P.repr_of_bool ⟨.str _, H, I.tok _, ⟨_, rfl⟩, by simpa [PyData.shown] using q⟩
  | int i =>
    obtain ⟨t, rfl⟩ := ru
    exact PySem.P.repr_of_int (by simpa [PyData.showable] using h1) ⟨.str _, H, I.tok _, ⟨_, rfl⟩, by simpa [PyData.shown] using q⟩
  | str z =>
    obtain ⟨t, rfl⟩ := ru
    exact PySem.P.repr_of_str ⟨.str _, H, I.tok _, ⟨_, rfl⟩, by simpa [PyData.shown] using q⟩ (by simpa [PyData.shown] using h2)
  | lst h hs => cases ru; exact gen rfl
  | tup h hs => cases ru; exact gen rfl
  | dct h hs => cases ru; exact gen rfl
end
/-- a builtin of values: what it asks -/
def bfV : Bf → Option Value
  | .len => some (.builtin "len")
  | .tuple => some (.type "tuple")
  | .list => some (.type "list")
  | .repr => some (.builtin "repr")
  | .int => some (.type "int")
  | .all => some (.builtin "all")
  | .min2 => some (.builtin "min")
  | .isinst _ => none
def bfName : Bf → Str
  | .len => "len"
  | .tuple => "tuple"
  | .list => "list"
  | .repr => "repr"
  | .int => "int"
  | .all => "all"
  | .min2 => "min"
  | .isinst _ => "isinstance"
def rBf (K : PySem.W.Frag) : Bf → List V → Hp → VK → Prop
  | .len => fun xs H Q => ∃ x n, xs = [x] ∧ LenV K x H n ∧ Q (.int n) H
  | .tuple => fun xs H Q => ∃ p ys, xs = [.ref p] ∧ ((SqL K H p ys ∧ ∀ l, H l = none → Q (.ref l) (upd H l (.tup ys))) ∨ (SqT K H p ys ∧ Q (.ref p) H))
  | .list => fun xs H Q => ∃ p ys, xs = [.ref p] ∧ (SqL K H p ys ∨ SqT K H p ys) ∧ ∀ l, H l = none → Q (.ref l) (upd H l (.lst ys))
  | .repr => rRepr K
  | .int => fun xs H Q => (∃ i, xs = [.int i] ∧ Q (.int i) H) ∨ ∃ k, xs = [.bl k] ∧ Q (.int (if k then 1 else 0)) H
  | .all => rAll K
  | .min2 => fun xs H Q => ∃ i j, xs = [.int i, .int j] ∧ Q (.int (if j < i then j else i)) H
  | .isinst _ => fun _ _ _ => False
theorem callR_bf {X : Cx} (sys : ∃ o, X.base.get? sysModules = some o) (hg : X.A.guards = some []) (hu : X.A.units + 100 < cLine) (hc : X.calm = true) (f : Bf) (v : Value) (h : bfV f = some v) : CallR X v (rBf X.K f) := by
  cases f with
  | len => cases h; exact call_len
  | tuple => cases h; exact call_tuple_of
  | list => cases h; exact call_list_of
  | repr => cases h; exact call_reprD sys hg hu
  | int => cases h; exact call_int1
  | all => cases h; exact cr_all hc
  | min2 => cases h; exact call_min2 hc
  | isinst ts => cases h
theorem VRs.inv1 {S : Sig} {H0 H : Hp} {vs : List V} {a : Vl} (r : VRs S H0 H vs [a]) : ∃ v, vs = [v] ∧ VR S H0 H v a := by
  cases r with
  | cons h t => cases t; exact ⟨_, rfl, h⟩
theorem VRs.inv2 {S : Sig} {H0 H : Hp} {vs : List V} {a b : Vl} (r : VRs S H0 H vs [a, b]) : ∃ v w, vs = [v, w] ∧ VR S H0 H v a ∧ VR S H0 H w b := by
  cases r with
  | cons h t =>
    obtain ⟨w, e, h2⟩ := VRs.inv1 t
    subst e
    exact ⟨_, _, rfl, h, h2⟩
theorem bools_of {K : PySem.W.Frag} {H : Hp} : ∀ {xs : List V} {ds : List D} {bs : List Bool}, DrAll K H xs ds → ds.mapM boolOf = some bs → xs = bs.map V.bl
  | _, _, bs, .nil, e => by
    have e : some [] = some bs := by simpa using e
    cases e; rfl
  | _, d :: ds, bs, .cons r rs, e => by
    rw [List.mapM_cons] at e
    cases e1 : boolOf d with
    | none => rw [e1] at e; cases e
    | some b =>
      cases e2 : ds.mapM boolOf with
      | none => rw [e1, e2] at e; cases e
      | some bs' =>
        rw [e1, e2] at e
        have e3 : b :: bs' = bs := Option.some.inj e
        subst e3
        have h := bools_of rs e2
        subst h
        unfold boolOf at e1
        split at e1
        · cases e1; cases r; rfl
        · cases e1
theorem allD_inv {x z : D} (e : allD x = some z) : ∃ ys bs, x = .list ys ∧ ys.mapM boolOf = some bs ∧ z = .bool (bs.all id) := by
  cases x with
  | list ys =>
    have e : (ys.mapM boolOf).map (fun bs => PyData.bool (bs.all id)) = some z := e
    cases e1 : ys.mapM boolOf with
    | none => rw [e1] at e; cases e
    | some bs => rw [e1] at e; cases e; exact ⟨ys, bs, rfl, e1, rfl⟩
  | _ => cases e
theorem op_bf {S : Sig} {f : Bf} {g : Gen} {vs : List V} {xs : List Vl} {z : D} {H0 H : Hp} {Q : VK} {v : Value} (hv : bfV f = some v) (sub : Same H0 H) (gen : GenAt S.gm g H0 H) (tabs : LamX.Tabs S.T H) (ra : VRs S H0 H vs xs) (e : bfD f xs = some z)
    (q : ∀ v H0' H', Aft S g H0 H H0' H' → Dr S.K H0' v z → Q v H') : rBf S.K f vs H Q := by
  have stay : ∀ {v : V}, Dr S.K H0 v z → Q v H := fun h => q _ _ _ (Aft.same sub gen tabs) h
  unfold bfD at e
  split at e
  · rename_i a
    obtain ⟨v1, rfl, r⟩ := ra.inv1
    cases es : scLen f a with
    | some d =>
      rw [es] at e
      have e : d = z := Option.some.inj e
      subst e
      unfold scLen at es
      split at es
      · cases es
        obtain ⟨p, rfl, h1⟩ := r
        exact ⟨_, _, rfl, .inl ⟨_, sqL_same sub h1, by simp⟩, stay (.int _)⟩
      · cases es
    | none =>
    rw [es] at e
    have e : ((asD a).bind fun x => bf1 f x) = some z := e
    cases ea : asD a with
    | none => rw [ea] at e; cases e
    | some x =>
      rw [ea] at e
      have e : bf1 f x = some z := e
      have rf := r.full sub ea
      cases f with
      | len =>
        have e : lenD x = some z := e
        unfold lenD at e
        split at e
        · cases e
          obtain ⟨p, ys, rfl, h1, h2⟩ := rf.lst_inv
          exact ⟨_, _, rfl, .inl ⟨ys, SqL.of h1, rfl⟩, by rw [h2.length]; exact stay (.int _)⟩
        · cases e
          obtain ⟨p, ys, rfl, h1, h2⟩ := rf.tup_inv
          exact ⟨_, _, rfl, .inr ⟨ys, h1, rfl⟩, by rw [h2.length]; exact stay (.int _)⟩
        · obtain ⟨h, rfl⟩ := ifO e
          obtain rfl := rf.str_inv
          exact ⟨_, _, rfl, ⟨h, rfl⟩, stay (.int _)⟩
        · cases e
      | tuple =>
        have e : tupleD x = some z := e
        unfold tupleD at e
        split at e
        · cases e
          obtain ⟨p, ys, rfl, h1, h2⟩ := r.lst sub ea
          exact ⟨p, ys, rfl, .inl ⟨SqL.of h1, fun l hp => q _ _ _ (Aft.new sub gen tabs hp (fun ps z => by cases z)) (.tup (SqT.of upd_same) (h2.same (same_new (sub.free hp))))⟩⟩
        · cases e
          have h := r.tup ea
          obtain ⟨p, ys, rfl, h1, h2⟩ := h.tup_inv
          exact ⟨p, ys, rfl, .inr ⟨sqT_same sub h1, stay h⟩⟩
        · cases e
      | list =>
        have e : listD x = some z := e
        unfold listD at e
        split at e
        · cases e
          obtain ⟨p, ys, rfl, h1, h2⟩ := r.lst sub ea
          exact ⟨p, ys, rfl, .inl (SqL.of h1), fun l hp => q _ _ _ (Aft.new sub gen tabs hp (fun ps z => by cases z)) (.lst upd_same (h2.same (same_new (sub.free hp))))⟩
        · cases e
          obtain ⟨p, ys, rfl, h1, h2⟩ := (r.tup ea).tup_inv
          exact ⟨p, ys, rfl, .inr (sqT_same sub h1), fun l hp => q _ _ _ (Aft.new sub gen tabs hp (fun ps z => by cases z)) (.lst upd_same (h2.same (same_new (sub.free hp))))⟩
        · cases e
      | repr =>
        obtain ⟨h, rfl⟩ := ifO (show (if reprOk x = true then some (PyData.str x.shown) else none) = some z from e)
        exact ⟨_, x, rfl, rf, h, stay (.str _)⟩
      | int =>
        have e : intD x = some z := e
        unfold intD at e
        split at e
        · cases e
          obtain rfl := rf.int_inv
          exact .inl ⟨_, rfl, stay (.int _)⟩
        · cases e
          obtain rfl := rf.bl_inv
          exact .inr ⟨_, rfl, stay (.int _)⟩
        · cases e
      | all =>
        obtain ⟨ys, bs, rfl, e1, rfl⟩ := allD_inv e
        obtain ⟨p, ws, rfl, h1, h2⟩ := rf.lst_inv
        have hb := bools_of h2 e1
        subst hb
        exact ⟨p, bs, rfl, SqL.of h1, stay (.bl _)⟩
      | min2 => cases e
      | isinst ts => cases hv
  · rename_i a b
    obtain ⟨v1, v2, rfl, r1, r2⟩ := ra.inv2
    cases f with
    | min2 =>
      obtain ⟨da, db, ea, eb, e⟩ := bindO e
      unfold minD at e
      split at e
      · cases e
        obtain rfl := (r1.full sub ea).int_inv
        obtain rfl := (r2.full sub eb).int_inv
        exact ⟨_, _, rfl, stay (.int _)⟩
      · cases e
    | _ => cases e
  · cases e
end PD
set_option Elab.async false
set_option linter.all false
set_option maxRecDepth 100000
set_option autoImplicit false
namespace PD
open PySem PySem.Spec L2

/-! ### defs, with the guards of repr told -/
structure FnG (P : Program) (w : World) (K : PySem.W.Frag) (mg : Str → Option Value) (base : Heap) (CX : CXT) (k : Nat) (f : Addr) (fd : FuncData) (ps : List Str) (sp : Sp) : Prop where
  len : ∀ vs H Q E, sp vs H Q E → vs.length = ps.length
  run : ∀ (A : Around) (outer : List PySem.Env) (s : Shared) (H : Hp) (args : Args) (us : List Value) (vs : List V) (Q : VK) (E : XK), Room k A → A.guards = some [] → Env0 P w K mg base A outer s H → BindsTo s fd args (ps.zip us) → Vals vs us → sp vs H Q E →
    codeAny (model P w) A (.call (.ref f) args) (CR CX outer P w H s Q E) s
def relR (S : Sig) : Hp → Hp → V → D → Prop := fun H0 _ v d => Dr S.K H0 v d
def SpOk (S : Sig) (n : Nat) (m : List Vl → M D) (sp : Sp) : Prop :=
  ∀ (vs : List V) (xs : List Vl) (g : Gen) (H0 H : Hp) (Q : VK) (E : XK), xs.length = n → Same H0 H → NoG S.gm H0 → (∀ a ps, H0 a ≠ some (.tbl ps)) → GenAt S.gm g H0 H → LamX.Tabs S.T H → VRs S H0 H vs xs →
    Pst S (fun c d _ H => E c d H) [] H0 H (relR S) Q (m xs g) → sp vs H Q E
def CallOk (X : Cx) (S : Sig) (f : Str) (n : Nat) (m : List Vl → M D) : Prop :=
  ∃ (k : Nat) (fa : Addr) (fd : FuncData) (ps : List Str) (sp : Sp), FnG X.prog X.w X.K X.mg X.base (L2.CX X.prog X.w) k fa fd ps sp ∧ Room k X.A ∧ X.mg f = some (.ref fa) ∧ PySem.W.keepIn X.K (.ref fa) = true ∧ Binds X.K fd ps [] ∧ SpOk S n m sp
def bltNames : List Str := ["len", "tuple", "list", "repr", "int", "all", "min", "range", "enumerate", "isinstance", "str", "bool", "sorted", "set"]
/-- a tuple of the module's own, plain -/
def TupK (K : PySem.W.Frag) (v : V) (d : D) : Prop := isTupD d = true → ∃ p o, v = .ref p ∧ K.lookup p = some o ∧ o.cls = .type "tuple" ∧ o.dict = none
/-! ### the context -/
structure Gd0 (X : Cx) (S : Sig) (W : WX) (C : Cfg) (F : Fns) : Prop where
  hN : X.N = C.N
  hsc : X.env.scope = C.sc
  hK : X.K = S.K
  nd : C.N.Nodup
  calm : X.calm = true
  room : Room 0 X.A
  guards : X.A.guards = some []
  own : PassesOwn (model X.prog X.w) X.A X.env X.xe
  tk : Takes X W
  blt : ∀ x ∈ bltNames, X.mg x = none
  sys : ∃ o, X.base.get? sysModules = some o
  cst : ∀ x d, C.consts.lookup x = some d → ∃ u v, X.mg x = some u ∧ RelV v u ∧ (∀ H, Dr S.K H v d) ∧ TupK S.K v d
  fns : ∀ f n i, fnIx C.fns f n = some i → CallOk X S f n (F.call i)

/-! ### small lemmas -/
theorem M.bd_assoc {α β γ : Type} (m : M α) (f : α → M β) (h : β → M γ) : (m.bd f).bd h = m.bd fun a => (f a).bd h := by
  funext g; unfold M.bd; cases m g <;> rfl
theorem M.ofO_bd {α β : Type} (o : Option α) (f : α → M β) : (M.ofO o).bd f = (match o with | some a => f a | none => M.stuck) := by
  cases o <;> rfl
theorem M.pu_bd {α β : Type} (a : α) (f : α → M β) : (M.pu a).bd f = f a := rfl
theorem RX.intro {α β : Type} {S : Sig} {W : WX} {rel : Hp → Hp → β → α → Prop} {f : Env → M α} {σ : L2.St} {H : Hp} {Q : β → Hp → Prop} (env : Env) (g : Gen) {He H0e H0 : Hp} (R : Rl S env g σ He H0e H0 H) (h : Pst S W σ H0 H rel Q (f env g)) : RX S W rel f σ H Q := ⟨env, g, He, H0e, H0, R, h⟩
theorem ixOf_get : ∀ {N : List Str} {x : Str} {i : Nat}, ixOf N x = some i → N[i]? = some x
  | y :: ys, x, i, e => by
    unfold ixOf at e
    split at e
    · cases e; rename_i h; subst h; rfl
    · cases e1 : ixOf ys x with
      | none => rw [e1] at e; cases e
      | some j =>
        rw [e1] at e
        have : j + 1 = i := Option.some.inj e
        subst this
        simpa using ixOf_get e1
  | [], _, _, e => by cases e
theorem vis_of {sc : Scope} {x : Str} (h : visB sc x = true) : Vis sc x := by
  unfold visB at h
  split at h
  · exact .inl (by assumption)
  · exact .inr (.inl (by assumption))
  · exact .inr (.inr (by assumption))
  · cases h
theorem loc_of {sc : Scope} {x : Str} (h : locB sc x = true) : Loc sc x := by
  unfold locB at h
  split at h
  · exact .inl (by assumption)
  · exact .inr (by assumption)
  · cases h
theorem gl_of {X : Cx} {sc : Scope} {x : Str} (hs : X.env.scope = sc) (h : glB sc x = true) : Gl X x := by
  unfold glB at h
  split at h
  · show X.env.scope.names.lookup x = _
    rw [hs]; assumption
  · cases h
theorem dbg_of {x : Str} (h : (!dbg x) = true) : (x == ("__debug__" : Str)) = false ∧ (x == ("__classdict__" : Str)) = false := by
  unfold dbg at h
  rw [Bool.not_eq_true', Bool.or_eq_false_iff] at h
  exact h
structure SE (X : Cx) (S : Sig) (W : WX) (F : Fns) (e : Expr) (c : E) : Prop where
  pe : PE X e (RE S W (ev F c))
  pt : PT X e (RT S W (evT F c))
  ns : ∀ (rest : List Expr) (env : PySem.Env), starEach (e :: rest) env = (false, eval e env) :: starEach rest env
/-- _law_said(lambda: e), told -/
def SaidOk (X : Cx) (S : Sig) (W : WX) (C : Cfg) (F : Fns) : Prop := ∀ (params : Arguments) (body : Expr) (scope : Scope) (lpos p pos : Pos) (c : E), glB C.sc "_law_said" = true → lamB C params scope = true →
  (∀ X' W', Gd0 X' S W' (C.lamb scope) F → PE X' body (RE S W' (ev F c))) → PE X (.Call (.Name "_law_said" p) [.Lambda params body scope lpos] [] pos) (RE S W (ev F (.said c)))
structure Gd (X : Cx) (S : Sig) (W : WX) (C : Cfg) (F : Fns) : Prop extends Gd0 X S W C F where
  said : C.lam = true → SaidOk X S W C F
section
variable {X : Cx} {S : Sig} {W : WX} {C : Cfg} {F : Fns}

/-- a value's truth -/
theorem pt_of {e : Expr} {f : Env → M Vl} (G : Gd X S W C F) (h : PE X e (RE S W f)) (he : ∀ whole, isTrue e X.env whole = (do let v ← whole; standAt e.pos; holding [v] (truthy v))) :
    PT X e (RT S W fun env => (f env).bd fun x => .ofO ((asD x).bind truD)) := by
  refine PT.weak (pt_truth h he) fun σ H Q h => ?_
  obtain ⟨env, g, He, H0e, H0, R, h⟩ := h
  refine ⟨env, g, He, H0e, H0, R, Pst.bd h fun x g1 v H1 H1' a1 r1 h1 => ?_⟩
  cases e1 : asD x with
  | none => rw [e1] at h1; exact h1.elim
  | some d =>
    rw [e1] at h1
    cases e2 : truD d with
    | none =>
      have h1 : Pst S W σ H1 H1' relB Q (M.ofO (truD d) g1) := h1
      rw [e2] at h1; exact h1.elim
    | some k =>
      have h1 : Pst S W σ H1 H1' relB Q (M.ofO (truD d) g1) := h1
      rw [e2] at h1
      refine ⟨k, ?_, h1 k H1 H1' (Aft.refl (R.step a1)) rfl⟩
      rw [G.hK]
      exact tru_of (r1.full a1.sub e1) e2
theorem RT.eq {e : Expr} {f f' : Env → M Bool} (h : PT X e (RT S W f)) (q : ∀ env, f' env = f env) : PT X e (RT S W f') := by
  have : f' = f := funext q
  rw [this]; exact h
theorem RE.eq {e : Expr} {f f' : Env → M Vl} (h : PE X e (RE S W f)) (q : ∀ env, f' env = f env) : PE X e (RE S W f') := by
  have : f' = f := funext q
  rw [this]; exact h

theorem s_const {e : Expr} {v : V} {d : D} (he : PE X e (tC v)) (hd : ∀ H, Dr S.K H v d) : PE X e (RE S W fun _ => .pu (.d d)) := by
  refine PE.weak he fun σ H Q h => ?_
  obtain ⟨env, g, He, H0e, H0, R, h⟩ := h
  exact h v H0 H (Aft.refl R) (hd H0)
theorem s_var {x : Str} {pos : Pos} {i : Nat} (G : Gd X S W C F) (h : C.var x = some i) : PE X (.Name x pos) (RE S W fun env => env.get i) := by
  unfold Cfg.var at h
  split at h
  · rename_i hc
    rw [Bool.and_eq_true] at hc
    obtain ⟨d1, d2⟩ := dbg_of hc.2
    have hv : Vis X.env.scope x := by rw [G.hsc]; exact vis_of hc.1
    refine PE.weak (pe_var (i := i) (by rw [G.hN]; exact ixOf_get h) hv d1 d2) fun σ H Q q => ?_
    obtain ⟨env, g, He, H0e, H0, R, q⟩ := q
    have q : Pst S W σ H0 H (VR S) Q (Env.get env i g) := q
    unfold Env.get at q
    cases e1 : env[i]? with
    | none => rw [e1] at q; exact q.elim
    | some s =>
      rw [e1] at q
      obtain ⟨o, e2, e3⟩ := R.slots i _ e1
      cases s with
      | un => exact q.elim
      | fz d =>
        obtain ⟨v, e4, e5⟩ := e3
        subst e4
        exact ⟨v, e2, q v H0 H (Aft.refl R) e5⟩
      | ow ds =>
        obtain ⟨a, xs, e4, e5, _, _, e6⟩ := e3
        subst e4
        exact ⟨_, e2, q _ H0 H (Aft.refl R) ⟨a, xs, rfl, e5, e6⟩⟩
      | gn =>
        obtain ⟨p, e4, e5⟩ := e3
        subst e5
        exact ⟨_, e2, q _ H0 H (Aft.refl R) ⟨p, e4, rfl⟩⟩
      | sc ns =>
        obtain ⟨p, e4, e5⟩ := e3
        subst e4
        exact ⟨_, e2, q _ H0 H (Aft.refl R) ⟨p, rfl, e5⟩⟩
  · cases h
theorem s_name {x : Str} {pos : Pos} {c : E} (G : Gd X S W C F) (h : cName C x = some c) : SE X S W F (.Name x pos) c := by
  unfold cName at h
  cases e : C.var x with
  | some i =>
    rw [e] at h
    cases h
    have hp : PE X (.Name x pos) (RE S W fun env => env.get i) := s_var G e
    exact ⟨RE.eq hp fun env => by simp only [ev], RT.eq (pt_of G hp fun _ => rfl) fun env => by simp only [evT], fun _ _ => rfl⟩
  | none =>
    rw [e] at h
    simp only [] at h
    split at h
    · rename_i hc
      rw [Bool.and_eq_true] at hc
      cases e1 : C.consts.lookup x with
      | none => rw [e1] at h; cases h
      | some d =>
        rw [e1] at h
        cases h
        obtain ⟨u, v, h1, h2, h3, _⟩ := G.cst x d e1
        have hp : PE X (.Name x pos) (RE S W fun _ => .pu (.d d)) := s_const (pe_glob (gl_of G.hsc hc.1) h1 h2 (dbg_of hc.2).1) h3
        refine ⟨RE.eq hp fun env => by simp only [ev], RT.eq (pt_of G hp fun _ => rfl) fun env => by simp only [evT, M.pu_bd, asD, Option.bind], fun _ _ => rfl⟩
    · cases h
theorem s_bin {a b : Expr} {op : Operator} {pos : Pos} {ca cb : E} (G : Gd X S W C F) (h : opOk op = true) (ha : SE X S W F a ca) (hb : SE X S W F b cb) : SE X S W F (.BinOp a op b pos) (.bin op ca cb) := by
  have hp := pe_bin (pos := pos) (opR_bin (X := X) G.hK op h) (op2_bin op h) ha.pe hb.pe
  refine ⟨RE.eq hp fun env => by simp only [ev], RT.eq (pt_of G hp fun _ => rfl) fun env => ?_, fun _ _ => rfl⟩
  simp only [evT, M.bd_assoc]
  congr 1; funext x; congr 1; funext y
  rw [M.ofO_bd]
  cases binD op x y <;> rfl
/-- not, by truth -/
theorem s_not {a : Expr} {pos : Pos} {ca : E} (G : Gd X S W C F) (ha : SE X S W F a ca) : SE X S W F (.UnaryOp .Not a pos) (.not ca) := by
  refine ⟨PE.weak (pe_notT ha.pe) fun σ H Q h => ?_, PT.weak (pt_not ha.pt) fun σ H Q h => ?_, fun _ _ => rfl⟩
  · obtain ⟨env, g, He, H0e, H0, R, h⟩ := h
    simp only [ev] at h
    refine ⟨env, g, He, H0e, H0, R, Pst.bd h fun x g1 v H1 H1' a1 r1 h1 => ?_⟩
    rw [M.ofO_bd] at h1
    cases e1 : asD x with
    | none => rw [e1] at h1; exact h1.elim
    | some d =>
      rw [e1] at h1
      cases e2 : truD d with
      | none => simp only [Option.bind, e2] at h1; exact h1.elim
      | some k =>
        simp only [Option.bind, e2] at h1
        refine ⟨k, ?_, h1 _ H1 H1' (Aft.refl (R.step a1)) (Dr.bl _)⟩
        rw [G.hK]
        exact tru_of (r1.full a1.sub e1) e2
  · obtain ⟨env, g, He, H0e, H0, R, h⟩ := h
    simp only [evT] at h
    refine ⟨env, g, He, H0e, H0, R, Pst.bd h fun x g1 v H1 H1' a1 r1 h1 => ?_⟩
    have r1 : v = x := r1
    subst r1
    exact h1 _ H1 H1' (Aft.refl (R.step a1)) rfl
end
end PD
set_option Elab.async false
set_option linter.all false
set_option maxRecDepth 100000
set_option autoImplicit false
namespace PD
open PySem PySem.Spec L2

inductive SEs (X : Cx) (S : Sig) (W : WX) (F : Fns) : List Expr → List E → Prop
  | nil : SEs X S W F [] []
  | cons {e : Expr} {es : List Expr} {c : E} {cs : List E} : SE X S W F e c → SEs X S W F es cs → SEs X S W F (e :: es) (c :: cs)
section
variable {X : Cx} {S : Sig} {W : WX} {C : Cfg} {F : Fns}
theorem SEs.pa : ∀ {es : List Expr} {cs : List E}, SEs X S W F es cs → PA X es (RA S W (evs F cs))
  | _, _, .nil => PA.weak pa_nil fun σ H Q h => by
    obtain ⟨env, g, He, H0e, H0, R, h⟩ := h
    simp only [evs] at h
    exact h [] H0 H (Aft.refl R) .nil
  | e :: es, c :: cs, .cons h hs => PA.weak (pa_cons h.pe hs.pa (h.ns _ _)) fun σ H Q q => by
    obtain ⟨env, g, He, H0e, H0, R, q⟩ := q
    simp only [evs] at q
    refine ⟨env, g, He, H0e, H0, R, Pst.bd q fun x g1 v H1 H1' a1 r1 h1 => ?_⟩
    refine ⟨env, g1, He, H0e, H1, R.step a1, Pst.bd h1 fun xs g2 vs H2 H2' a2 r2 h2 => ?_⟩
    exact h2 _ H2 H2' (Aft.refl ((R.step a1).step a2)) (.cons (r1.step (R.step a1).gen a2) r2)
theorem SEs.plain (pos : Pos) (env : PySem.Env) : ∀ {es : List Expr} {cs : List E}, SEs X S W F es cs → (backTo pos (starEach es env)).any (·.1) = false
  | _, _, .nil => by simp [starEach, backTo]
  | e :: es, c :: cs, .cons h hs => by
    rw [h.ns]
    have := SEs.plain pos env hs
    unfold backTo at this ⊢
    simp only [List.map_cons, List.any_cons, this, Bool.or_self]
theorem SEs.length : ∀ {es : List Expr} {cs : List E}, SEs X S W F es cs → es.length = cs.length
  | _, _, .nil => rfl
  | _, _, .cons _ hs => by simp [SEs.length hs]
/-! ### comparisons -/
theorem cmp_bd {op : CmpOp} {fa fb : Env → M Vl} {a b : Expr} (G : Gd X S W C F) (ha : PE X a (RE S W fa)) (hb : PE X b (RE S W fb)) {σ : L2.St} {H : Hp} {Q : VK}
    (h : RX S W (VR S) (fun env => (fa env).bd fun x => (fb env).bd fun y => .ofO ((cmpD op x y).map fun b => .d (.bool b))) σ H Q) : tOp (rCmp S op) (RE S W fa) (RE S W fb) σ H Q := by
  obtain ⟨env, g, He, H0e, H0, R, h⟩ := h
  refine ⟨env, g, He, H0e, H0, R, Pst.bd h fun x g1 v H1 H1' a1 r1 h1 => ?_⟩
  refine ⟨env, g1, He, H0e, H1, R.step a1, Pst.bd h1 fun y g2 w H2 H2' a2 r2 h2 => ?_⟩
  cases e : cmpD op x y with
  | none => rw [e] at h2; exact h2.elim
  | some k =>
    rw [e] at h2
    exact op2_cmp op v w x y k H2 H2' Q a2.sub (r1.step (R.step a1).gen a2) r2 e (h2 _ H2 H2' (Aft.refl ((R.step a1).step a2)) (Dr.bl _))
theorem s_cmp {a b : Expr} {op : CmpOp} {pos : Pos} {ca cb : E} (G : Gd X S W C F) (hm : behindInMarks op b = false) (ha : SE X S W F a ca) (hb : SE X S W F b cb) : SE X S W F (.Compare a [op] [b] pos) (.cmp op ca cb) := by
  have hu : X.A.units + 64 < cLine := G.room.units
  refine ⟨PE.weak (pe_cmpR (opR_cmp G.hK hu op) ha.pe hb.pe hm) fun σ H Q h => ?_, PT.weak (pt_cmpR (opR_cmp G.hK hu op) ha.pe hb.pe hm) fun σ H Q h => ?_, fun _ _ => rfl⟩
  · simp only [ev] at h
    exact cmp_bd G ha.pe hb.pe h
  · simp only [evT] at h
    obtain ⟨env, g, He, H0e, H0, R, h⟩ := h
    refine ⟨env, g, He, H0e, H0, R, Pst.bd h fun x g1 v H1 H1' a1 r1 h1 => ?_⟩
    refine ⟨env, g1, He, H0e, H1, R.step a1, Pst.bd h1 fun y g2 w H2 H2' a2 r2 h2 => ?_⟩
    cases e : cmpD op x y with
    | none => rw [e] at h2; exact h2.elim
    | some k =>
      rw [e] at h2
      exact op2_cmp op v w x y k H2 H2' _ a2.sub (r1.step (R.step a1).gen a2) r2 e ⟨k, rfl, h2 k H2 H2' (Aft.refl ((R.step a1).step a2)) rfl⟩
theorem s_chain {a b c : Expr} {op op' : CmpOp} {pos : Pos} {ca cb cc : E} (G : Gd X S W C F) (hm : lastMarks [op, op'] [b, c] = false) (ha : SE X S W F a ca) (hb : SE X S W F b cb) (hc : SE X S W F c cc) : SE X S W F (.Compare a [op, op'] [b, c] pos) (.chain op op' ca cb cc) := by
  have hu : X.A.units + 64 < cLine := G.room.units
  refine ⟨PE.weak (pe_chain (opR_cmp G.hK hu op) (opR_cmp G.hK hu op') ha.pe hb.pe hc.pe hm) fun σ H Q h => ?_, PT.weak (pt_chain (opR_cmp G.hK hu op) (opR_cmp G.hK hu op') ha.pe hb.pe hc.pe hm) fun σ H Q h => ?_, fun _ _ => rfl⟩
  · simp only [ev] at h
    obtain ⟨env, g, He, H0e, H0, R, h⟩ := h
    refine ⟨env, g, He, H0e, H0, R, Pst.bd h fun x g1 v H1 H1' a1 r1 h1 => ?_⟩
    refine ⟨env, g1, He, H0e, H1, R.step a1, Pst.bd h1 fun y g2 w H2 H2' a2 r2 h2 => ?_⟩
    have R2 := (R.step a1).step a2
    rw [M.ofO_bd] at h2
    cases e : cmpD op x y with
    | none => rw [e] at h2; exact h2.elim
    | some k =>
      rw [e] at h2
      refine op2_cmp op v w x y k H2 H2' _ a2.sub (r1.step (R.step a1).gen a2) r2 e ⟨k, rfl, ?_⟩
      cases k with
      | false => exact iteF (h2 _ H2 H2' (Aft.refl R2) (Dr.bl _))
      | true =>
        refine iteT ⟨env, g2, He, H0e, H2, R2, Pst.bd h2 fun z g3 u H3 H3' a3 r3 h3 => ?_⟩
        cases e2 : cmpD op' y z with
        | none => rw [e2] at h3; exact h3.elim
        | some k' =>
          rw [e2] at h3
          exact op2_cmp op' w u y z k' H3 H3' _ a3.sub (r2.step R2.gen a3) r3 e2 (h3 _ H3 H3' (Aft.refl (R2.step a3)) (Dr.bl _))
  · simp only [evT] at h
    obtain ⟨env, g, He, H0e, H0, R, h⟩ := h
    refine ⟨env, g, He, H0e, H0, R, Pst.bd h fun x g1 v H1 H1' a1 r1 h1 => ?_⟩
    refine ⟨env, g1, He, H0e, H1, R.step a1, Pst.bd h1 fun y g2 w H2 H2' a2 r2 h2 => ?_⟩
    have R2 := (R.step a1).step a2
    rw [M.ofO_bd] at h2
    cases e : cmpD op x y with
    | none => rw [e] at h2; exact h2.elim
    | some k =>
      rw [e] at h2
      refine op2_cmp op v w x y k H2 H2' _ a2.sub (r1.step (R.step a1).gen a2) r2 e ⟨k, rfl, ?_⟩
      cases k with
      | false => exact iteF ⟨false, rfl, h2 _ H2 H2' (Aft.refl R2) rfl⟩
      | true =>
        refine iteT ⟨env, g2, He, H0e, H2, R2, Pst.bd h2 fun z g3 u H3 H3' a3 r3 h3 => ?_⟩
        cases e2 : cmpD op' y z with
        | none => rw [e2] at h3; exact h3.elim
        | some k' =>
          rw [e2] at h3
          exact op2_cmp op' w u y z k' H3 H3' _ a3.sub (r2.step R2.gen a3) r3 e2 ⟨k', rfl, h3 _ H3 H3' (Aft.refl (R2.step a3)) rfl⟩
/-! ### and, or -/
theorem tru_bd {x : Vl} {g : Gen} {H1 H1' : Hp} {v : V} {α β : Type} {rel : Hp → Hp → β → α → Prop} {σ : L2.St} {Q : β → Hp → Prop} {kt : Bool → M α} (G : Gd X S W C F) (sub : Same H1 H1') (r : VR S H1 H1' v x)
    (h : Pst S W σ H1 H1' rel Q (((M.ofO ((asD x).bind truD)).bd kt) g)) : ∃ k, TruV X.K v H1' k ∧ Pst S W σ H1 H1' rel Q (kt k g) := by
  rw [M.ofO_bd] at h
  cases e1 : asD x with
  | none => rw [e1] at h; exact h.elim
  | some d =>
    rw [e1] at h
    cases e2 : truD d with
    | none => simp only [Option.bind, e2] at h; exact h.elim
    | some k =>
      simp only [Option.bind, e2] at h
      refine ⟨k, ?_, h⟩
      rw [G.hK]
      exact tru_of (r.full sub e1) e2
theorem s_and (G : Gd X S W C F) (pos : Pos) : ∀ {es : List Expr} {cs : List E} {c : E}, SEs X S W F es cs → andE cs = some c → PE X (.BoolOp .And es pos) (RE S W (ev F c)) ∧ PW X (.BoolOp .And es pos) (RT S W (evT F c))
  | [], _, c, .nil, e => by cases e
  | [a], _, c, .cons ha .nil, e => by
    cases e
    exact ⟨pe_one ha.pe, pw_and1 ha.pt⟩
  | a :: b :: r, ca :: cb :: cr, c, .cons ha hs, e => by
    have e : (andE (cb :: cr)).map (E.and ca) = some c := e
    cases e1 : andE (cb :: cr) with
    | none => rw [e1] at e; cases e
    | some c' =>
      rw [e1] at e
      cases e
      obtain ⟨h1, h2⟩ := s_and G pos hs e1
      refine ⟨PE.weak (pe_andT ha.pe h1) fun σ H Q h => ?_, PW.weak (pw_and ha.pt h2) fun σ H Q h => ?_⟩
      · simp only [ev] at h
        obtain ⟨env, g, He, H0e, H0, R, h⟩ := h
        refine ⟨env, g, He, H0e, H0, R, Pst.bd h fun x g1 v H1 H1' a1 r1 h1 => ?_⟩
        obtain ⟨k, tk, h1⟩ := tru_bd G a1.sub r1 h1
        refine ⟨k, tk, ?_⟩
        cases k with
        | true => exact iteT ⟨env, g1, He, H0e, H1, R.step a1, h1⟩
        | false => exact iteF (h1 _ H1 H1' (Aft.refl (R.step a1)) r1)
      · simp only [evT] at h
        obtain ⟨env, g, He, H0e, H0, R, h⟩ := h
        refine ⟨env, g, He, H0e, H0, R, Pst.bd h fun x g1 v H1 H1' a1 r1 h1 => ?_⟩
        have r1 : v = x := r1
        subst r1
        cases v with
        | true => exact iteT ⟨env, g1, He, H0e, H1, R.step a1, h1⟩
        | false => exact iteF (h1 _ H1 H1' (Aft.refl (R.step a1)) rfl)
theorem s_or (G : Gd X S W C F) (pos : Pos) : ∀ {es : List Expr} {cs : List E} {c : E}, SEs X S W F es cs → orE cs = some c → PE X (.BoolOp .Or es pos) (RE S W (ev F c)) ∧ PW X (.BoolOp .Or es pos) (RT S W (evT F c))
  | [], _, c, .nil, e => by cases e
  | [a], _, c, .cons ha .nil, e => by
    cases e
    exact ⟨pe_one ha.pe, pw_or1 ha.pt⟩
  | a :: b :: r, ca :: cb :: cr, c, .cons ha hs, e => by
    have e : (orE (cb :: cr)).map (E.or ca) = some c := e
    cases e1 : orE (cb :: cr) with
    | none => rw [e1] at e; cases e
    | some c' =>
      rw [e1] at e
      cases e
      obtain ⟨h1, h2⟩ := s_or G pos hs e1
      refine ⟨PE.weak (pe_orT ha.pe h1) fun σ H Q h => ?_, PW.weak (pw_or ha.pt h2) fun σ H Q h => ?_⟩
      · simp only [ev] at h
        obtain ⟨env, g, He, H0e, H0, R, h⟩ := h
        refine ⟨env, g, He, H0e, H0, R, Pst.bd h fun x g1 v H1 H1' a1 r1 h1 => ?_⟩
        obtain ⟨k, tk, h1⟩ := tru_bd G a1.sub r1 h1
        refine ⟨k, tk, ?_⟩
        cases k with
        | false => exact iteF ⟨env, g1, He, H0e, H1, R.step a1, h1⟩
        | true => exact iteT (h1 _ H1 H1' (Aft.refl (R.step a1)) r1)
      · simp only [evT] at h
        obtain ⟨env, g, He, H0e, H0, R, h⟩ := h
        refine ⟨env, g, He, H0e, H0, R, Pst.bd h fun x g1 v H1 H1' a1 r1 h1 => ?_⟩
        have r1 : v = x := r1
        subst r1
        cases v with
        | false => exact iteF ⟨env, g1, He, H0e, H1, R.step a1, h1⟩
        | true => exact iteT (h1 _ H1 H1' (Aft.refl (R.step a1)) rfl)
/-! ### a if t else b -/
theorem pt_ifExp {t a b : Expr} {pos : Pos} {tc ta tb : TT} (ht : PT X t tc) (ha : PT X a ta) (hb : PT X b tb) : PT X (.IfExp t a b pos) (fun σ H Q => tc σ H fun c H1 => if c = true then ta σ H1 Q else tb σ H1 Q) := by
  refine ⟨fun pins s σ H Q I h => ?_⟩
  show wpAny _ _ (do if ← isTrue t X.env (eval t X.env) then isTrue a X.env (eval a X.env) else isTrue b X.env (eval b X.env)) _ _ _
  refine wpAny_bind (thn (ht.run pins s σ H _ I h) fun c s1 ⟨H1, I1, q1⟩ => ?_)
  cases c with
  | true => exact ha.run pins s1 σ H1 Q I1 q1
  | false => exact hb.run pins s1 σ H1 Q I1 q1
theorem s_ite {t a b : Expr} {pos : Pos} {ct ca cb : E} (ht : SE X S W F t ct) (ha : SE X S W F a ca) (hb : SE X S W F b cb) : SE X S W F (.IfExp t a b pos) (.ite ct ca cb) := by
  refine ⟨PE.weak (pe_ifExp ht.pt ha.pe hb.pe) fun σ H Q h => ?_, PT.weak (pt_ifExp ht.pt ha.pt hb.pt) fun σ H Q h => ?_, fun _ _ => rfl⟩
  · simp only [ev] at h
    obtain ⟨env, g, He, H0e, H0, R, h⟩ := h
    refine ⟨env, g, He, H0e, H0, R, Pst.bd h fun x g1 v H1 H1' a1 r1 h1 => ?_⟩
    have r1 : v = x := r1
    subst r1
    cases v with
    | true => exact iteT ⟨env, g1, He, H0e, H1, R.step a1, h1⟩
    | false => exact iteF ⟨env, g1, He, H0e, H1, R.step a1, h1⟩
  · simp only [evT] at h
    obtain ⟨env, g, He, H0e, H0, R, h⟩ := h
    refine ⟨env, g, He, H0e, H0, R, Pst.bd h fun x g1 v H1 H1' a1 r1 h1 => ?_⟩
    have r1 : v = x := r1
    subst r1
    cases v with
    | true => exact iteT ⟨env, g1, He, H0e, H1, R.step a1, h1⟩
    | false => exact iteF ⟨env, g1, He, H0e, H1, R.step a1, h1⟩
end
end PD
set_option Elab.async false
set_option linter.all false
set_option maxRecDepth 100000
set_option autoImplicit false
namespace PD
open PySem PySem.Spec L2

section
variable {X : Cx} {S : Sig} {W : WX} {C : Cfg} {F : Fns}
theorem drs_of {H0 H : Hp} : ∀ {vs : List V} {xs : List Vl} {ds : List D}, VRs S H0 H vs xs → xs.mapM dOf = some ds → DrAll S.K H0 vs ds
  | _, _, ds, .nil, e => by
    have e : some [] = some ds := by simpa using e
    cases e; exact .nil
  | _, x :: xs, ds, .cons r rs, e => by
    rw [List.mapM_cons] at e
    cases e1 : dOf x with
    | none => rw [e1] at e; cases e
    | some d =>
      cases e2 : xs.mapM dOf with
      | none => rw [e1, e2] at e; cases e
      | some ds' =>
        rw [e1, e2] at e
        have e3 : d :: ds' = ds := Option.some.inj e
        subst e3
        cases x with
        | d y => cases e1; exact .cons r (drs_of rs e2)
        | gn => cases e1
        | sc _ => cases e1
        | bo y => cases e1
theorem mapM_len {α β : Type} {f : α → Option β} : ∀ {xs : List α} {ys : List β}, xs.mapM f = some ys → xs.length = ys.length
  | [], ys, e => by
    have e : some [] = some ys := by simpa using e
    cases e; rfl
  | x :: xs, ys, e => by
    rw [List.mapM_cons] at e
    cases e1 : f x with
    | none => rw [e1] at e; cases e
    | some d =>
      cases e2 : xs.mapM f with
      | none => rw [e1, e2] at e; cases e
      | some ds' =>
        rw [e1, e2] at e
        have e3 : d :: ds' = ys := Option.some.inj e
        subst e3
        simp [mapM_len e2]
theorem s_tup {es : List Expr} {cs : List E} {k : Nat} {pos : Pos} (G : Gd X S W C F) (h : SEs X S W F es cs) : SE X S W F (.Tuple es k pos) (.tup cs) := by
  refine ⟨PE.weak (pe_tup h.pa) fun σ H Q q => ?_, ?_, fun _ _ => rfl⟩
  · simp only [ev] at q
    obtain ⟨env, g, He, H0e, H0, R, q⟩ := q
    refine ⟨env, g, He, H0e, H0, R, Pst.bd q fun xs g1 vs H1 H1' a1 r1 h1 => ?_⟩
    rw [M.ofO_bd] at h1
    cases e : xs.mapM dOf with
    | none => rw [e] at h1; exact h1.elim
    | some ds =>
      rw [e] at h1
      have hd := drs_of r1 e
      by_cases hl : ds.length ≤ sizeLine
      · simp only [if_pos hl] at h1
        refine ⟨by rw [hd.length]; exact hl, fun p hp => ?_⟩
        have R1 := R.step a1
        exact h1 _ _ _ (Aft.new R1.sub R1.gen R1.tabs hp (fun ps z => by cases z)) (Dr.tup (SqT.of upd_same) (hd.same (same_new (R1.sub.free hp))))
      · simp only [if_neg hl] at h1; exact h1.elim
  · refine ⟨fun pins s σ H Q I q => ?_⟩
    simp only [evT] at q
    obtain ⟨env, g, He, H0e, H0, R, q⟩ := q
    exact q.elim
theorem s_lst {es : List Expr} {cs : List E} {pos : Pos} (G : Gd X S W C F) (h : SEs X S W F es cs) : SE X S W F (.List es pos) (.lst cs) := by
  refine ⟨PE.weak (pe_lst h.pa) fun σ H Q q => ?_, ?_, fun _ _ => rfl⟩
  · simp only [ev] at q
    obtain ⟨env, g, He, H0e, H0, R, q⟩ := q
    refine ⟨env, g, He, H0e, H0, R, Pst.bd q fun xs g1 vs H1 H1' a1 r1 h1 => ?_⟩
    rw [M.ofO_bd] at h1
    cases e : xs.mapM dOf with
    | none => rw [e] at h1; exact h1.elim
    | some ds =>
      rw [e] at h1
      have hd := drs_of r1 e
      by_cases hl : ds.length ≤ sizeLine
      · simp only [if_pos hl] at h1
        refine ⟨by rw [hd.length]; exact hl, fun p hp => ?_⟩
        have R1 := R.step a1
        exact h1 _ _ _ (Aft.new R1.sub R1.gen R1.tabs hp (fun ps z => by cases z)) (Dr.lst upd_same (hd.same (same_new (R1.sub.free hp))))
      · simp only [if_neg hl] at h1; exact h1.elim
  · refine ⟨fun pins s σ H Q I q => ?_⟩
    simp only [evT] at q
    obtain ⟨env, g, He, H0e, H0, R, q⟩ := q
    exact q.elim
/-! ### items, slices -/
theorem s_ix {a b : Expr} {pos : Pos} {ca cb : E} (G : Gd X S W C F) (hx : PlainIx b) (ha : SE X S W F a ca) (hb : SE X S W F b cb) : SE X S W F (.Subscript a b pos) (.ix ca cb) := by
  have hp : PE X (.Subscript a b pos) (RE S W fun env => (ev F ca env).bd fun x => (ev F cb env).bd fun y => .ofO ((ixD x y).map .d)) := by
    refine PE.weak (pe_ix ix_seq ha.pe hb.pe hx) fun σ H Q h => ?_
    obtain ⟨env, g, He, H0e, H0, R, h⟩ := h
    refine ⟨env, g, He, H0e, H0, R, Pst.bd h fun x g1 v H1 H1' a1 r1 h1 => ?_⟩
    refine ⟨env, g1, He, H0e, H1, R.step a1, Pst.bd h1 fun y g2 w H2 H2' a2 r2 h2 => ?_⟩
    have R2 := (R.step a1).step a2
    cases e : ixD x y with
    | none => rw [e] at h2; exact h2.elim
    | some z =>
      rw [e] at h2
      rw [G.hK]
      exact op2_ix g2 v w x y z H2 H2' Q R2.sub R2.gen R2.tabs (r1.step (R.step a1).gen a2) r2 e fun v' H3 H3' a3 r3 => h2 v' H3 H3' a3 r3
  refine ⟨RE.eq hp fun env => by simp only [ev], RT.eq (pt_of G hp fun _ => rfl) fun env => ?_, fun _ _ => rfl⟩
  simp only [evT, M.bd_assoc]
  congr 1; funext x; congr 1; funext y
  rw [M.ofO_bd]
  cases ixD x y <;> rfl
def optV : Hp → Hp → Option Int → Option Int → Prop := fun _ _ a b => a = b
structure SO (X : Cx) (S : Sig) (W : WX) (F : Fns) (e : Option Expr) (c : Option E) : Prop where
  po : PO X e (RX S W optV (evO F c))
theorem toInt_bd {x : Vl} {g : Gen} {H1 H1' : Hp} {v : V} {α β : Type} {rel : Hp → Hp → β → α → Prop} {σ : L2.St} {Q : β → Hp → Prop} {kt : Int → M α} (r : VR S H1 H1' v x)
    (h : Pst S W σ H1 H1' rel Q (((toInt x).bd kt) g)) : ∃ i, v = .int i ∧ x = .d (.int i) ∧ Pst S W σ H1 H1' rel Q (kt i g) := by
  unfold toInt at h
  split at h
  · cases r; exact ⟨_, rfl, rfl, h⟩
  · exact h.elim
theorem po_weak {e : Option Expr} {t t' : TO} (h : PO X e t) (w : ∀ σ H Q, t' σ H Q → t σ H Q) : PO X e t' := ⟨fun pins s σ H Q I q => h.run pins s σ H Q I (w σ H Q q)⟩
theorem so_none : SO X S W F none none := ⟨po_weak po_none fun σ H Q h => by
  obtain ⟨env, g, He, H0e, H0, R, h⟩ := h
  simp only [evO] at h
  exact h none H0 H (Aft.refl R) rfl⟩
theorem so_some {e : Expr} {c : E} (he : SE X S W F e c) : SO X S W F (some e) (some c) := ⟨po_weak (po_some he.pe) fun σ H Q h => by
  obtain ⟨env, g, He, H0e, H0, R, h⟩ := h
  simp only [evO] at h
  refine ⟨env, g, He, H0e, H0, R, Pst.bd h fun x g1 v H1 H1' a1 r1 h1 => ?_⟩
  obtain ⟨i, e1, _, h1⟩ := toInt_bd r1 h1
  exact ⟨i, e1, h1 _ H1 H1' (Aft.refl (R.step a1)) rfl⟩⟩
theorem s_sl {a : Expr} {lo hi : Option Expr} {pos p2 : Pos} {ca : E} {cl ch : Option E} (G : Gd X S W C F) (ha : SE X S W F a ca) (hl : SO X S W F lo cl) (hh : SO X S W F hi ch) : SE X S W F (.Subscript a (.Slice lo hi none p2) pos) (.sl ca cl ch) := by
  refine ⟨PE.weak (pe_slice sl_any ha.pe hl.po hh.po) fun σ H Q h => ?_, ?_, fun _ _ => rfl⟩
  · simp only [ev] at h
    obtain ⟨env, g, He, H0e, H0, R, h⟩ := h
    refine ⟨env, g, He, H0e, H0, R, Pst.bd h fun x g1 v H1 H1' a1 r1 h1 => ?_⟩
    refine ⟨env, g1, He, H0e, H1, R.step a1, Pst.bd h1 fun l g2 l' H2 H2' a2 r2 h2 => ?_⟩
    have r2 : l' = l := r2
    subst r2
    have R2 := (R.step a1).step a2
    refine ⟨env, g2, He, H0e, H2, R2, Pst.bd h2 fun u g3 u' H3 H3' a3 r3 h3 => ?_⟩
    have r3 : u' = u := r3
    subst r3
    have R3 := R2.step a3
    cases e : slD x l' u' with
    | none => rw [e] at h3; exact h3.elim
    | some z =>
      rw [e] at h3
      rw [G.hK]
      exact op_sl R3.sub R3.gen R3.tabs ((r1.step (R.step a1).gen a2).step R2.gen a3) e fun v' H4 H4' a4 r4 => h3 v' H4 H4' a4 r4
  · refine ⟨fun pins s σ H Q I q => ?_⟩
    simp only [evT] at q
    obtain ⟨env, g, He, H0e, H0, R, q⟩ := q
    exact q.elim
/-! ### -a -/
theorem s_neg {a : Expr} {pos : Pos} {ca : E} (G : Gd X S W C F) (ha : SE X S W F a ca) : SE X S W F (.UnaryOp .USub a pos) (.neg ca) := by
  refine ⟨PE.weak (pe_un un_neg ha.pe) fun σ H Q h => ?_, ?_, fun _ _ => rfl⟩
  · simp only [ev] at h
    obtain ⟨env, g, He, H0e, H0, R, h⟩ := h
    refine ⟨env, g, He, H0e, H0, R, Pst.bd h fun x g1 v H1 H1' a1 r1 h1 => ?_⟩
    obtain ⟨i, e1, _, h1⟩ := toInt_bd r1 h1
    exact ⟨i, e1, h1 _ H1 H1' (Aft.refl (R.step a1)) (Dr.int _)⟩
  · refine ⟨fun pins s σ H Q I q => ?_⟩
    simp only [evT] at q
    obtain ⟨env, g, He, H0e, H0, R, q⟩ := q
    exact q.elim
/-! ### built-ins of values -/
theorem s_bf {f : Str} {b : Bf} {es : List Expr} {cs : List E} {p pos : Pos} {v : Value} (G : Gd X S W C F) (hg : glB C.sc f = true) (hb : f = bfName b) (hv : bfV b = some v) (hne : es ≠ []) (h : SEs X S W F es cs) :
    SE X S W F (.Call (.Name f p) es [] pos) (.bf b cs) := by
  have hp : PE X (.Call (.Name f p) es [] pos) (RE S W fun env => (evs F cs env).bd fun xs => .ofO ((bfD b xs).map .d)) := by
    have hu : X.A.units + 100 < cLine := by have := G.room.un; omega
    have hr := callR_bf (X := X) G.sys G.guards hu G.calm b v hv
    have gl : Gl X f := gl_of G.hsc hg
    have mgf : X.mg f = none := G.blt f (by rw [hb]; cases b <;> simp [bfName, bltNames])
    obtain ⟨e0, er, rfl⟩ : ∃ e0 er, es = e0 :: er := by
      cases es with
      | nil => exact absurd rfl hne
      | cons a b => exact ⟨a, b, rfl⟩
    have hpa := h.pa
    have hns : starEach (e0 :: er) X.env = (false, eval e0 X.env) :: starEach er X.env := by
      cases h with
      | cons h1 _ => exact h1.ns _ _
    have hpl : (backTo pos (starEach er X.env)).any (·.1) = false := by
      cases h with
      | cons _ h2 => exact h2.plain pos X.env
    have key : PE X (.Call (.Name f p) (e0 :: er) [] pos) (tCB (rBf X.K b) (RA S W (evs F cs))) := by
      cases b with
      | len => cases hv; subst hb; exact pe_callB hr gl mgf (by decide +kernel) hpa (he := hns) (hpl := hpl)
      | tuple => cases hv; subst hb; exact pe_callTy hr gl mgf (by decide +kernel) hpa (he := hns) (hpl := hpl)
      | list => cases hv; subst hb; exact pe_callTy hr gl mgf (by decide +kernel) hpa (he := hns) (hpl := hpl)
      | repr => cases hv; subst hb; exact pe_callB hr gl mgf (by decide +kernel) hpa (he := hns) (hpl := hpl)
      | int => cases hv; subst hb; exact pe_callTy hr gl mgf (by decide +kernel) hpa (he := hns) (hpl := hpl)
      | all => cases hv; subst hb; exact pe_callB hr gl mgf (by decide +kernel) hpa (he := hns) (hpl := hpl)
      | min2 => cases hv; subst hb; exact pe_callB hr gl mgf (by decide +kernel) hpa (he := hns) (hpl := hpl)
      | isinst ts => cases hv
    refine PE.weak key fun σ H Q h => ?_
    obtain ⟨env, g, He, H0e, H0, R, h⟩ := h
    refine ⟨env, g, He, H0e, H0, R, Pst.bd h fun xs g1 vs H1 H1' a1 r1 h1 => ?_⟩
    have R1 := R.step a1
    cases e : bfD b xs with
    | none => rw [e] at h1; exact h1.elim
    | some z =>
      rw [e] at h1
      rw [G.hK]
      exact op_bf hv R1.sub R1.gen R1.tabs r1 e fun v' H2 H2' a2 r2 => h1 v' H2 H2' a2 r2
  refine ⟨RE.eq hp fun env => by simp only [ev], RT.eq (pt_of G hp fun _ => rfl) fun env => ?_, fun _ _ => rfl⟩
  simp only [evT, M.bd_assoc]
  congr 1; funext xs
  rw [M.ofO_bd]
  cases bfD b xs <;> rfl
end
end PD
set_option Elab.async false
set_option linter.all false
set_option maxRecDepth 100000
set_option autoImplicit false
namespace PD
open PySem PySem.Spec L2

/-! ### calls of defs -/
section
variable {X : Cx} {CX : CXT} {k : Nat} {f : Addr} {fd : FuncData} {ps : List Str} {sp : Sp} {E : L2.St → XK} {x : Str} {p pos : Pos} {e : Expr} {es : List Expr} {t : TA}
theorem run_fnG {pins : List (Addr × Obj)} {σ : L2.St} {H : Hp} {s : Shared} {Q : VK} {us : List Value} {vs : List V} (F : FnG X.prog X.w X.K X.mg X.base CX k f fd ps sp) (hr : Room k X.A) (hgd : X.A.guards = some []) (hb : Binds X.K fd ps []) (hx : PassesAt CX X σ (E σ))
    (I : Inv X pins σ H s) (r : Vals vs us) (h : sp vs H Q (E σ)) : wpAny (model X.prog X.w) X.A (call (.ref f) us) (EP X pins σ Q) X.xe s := by
  have hl : us.length = ps.length := by rw [← r.length]; exact F.len _ _ _ _ h
  have b := hb s us I.kIn (by rw [List.append_nil]; exact hl)
  rw [List.append_nil] at b
  refine wpAny_call (codeAny_mono (F.run X.A X.stack s H ⟨us, []⟩ us vs Q (E σ) hr hgd I.env0 b r h) fun r s' hq => ?_)
  cases r with
  | error e => exact hx pins H s e s' I hq
  | ok fl =>
    cases fl with
    | ret u => exact I.after hq
    | next => exact False.elim hq
    | brk => exact False.elim hq
    | cont => exact False.elim hq
theorem pe_callG (F : FnG X.prog X.w X.K X.mg X.base CX k f fd ps sp) (hr : Room k X.A) (hgd : X.A.guards = some []) (hg : Gl X x) (hm : X.mg x = some (.ref f)) (hk : PySem.W.keepIn X.K (.ref f) = true) (hb : Binds X.K fd ps []) (hx : ∀ σ, PassesAt CX X σ (E σ))
    (ha : PA X (e :: es) t) (hdb : (x == ("__debug__" : Str)) = false) (he : starEach (e :: es) X.env = (false, eval e X.env) :: starEach es X.env) (hpl : (backTo pos (starEach es X.env)).any (·.1) = false) :
    PE X (.Call (.Name x p) (e :: es) [] pos) (tCallS sp E t) := by
  refine ⟨fun pins s σ H Q I h => ?_⟩
  refine wpAny_Call_Name_kw (ld_glob I hg hm ?_ hdb)
  refine PySem.W.callWith_K (h₀ := X.base) I.ok.mod.kin hk (thn (ha.run pos pins s σ H _ I h) fun us s1 ⟨vs, H1, I1, r, q⟩ => ⟨I1.kIn, ?_⟩) he hpl
  exact run_fnG F hr hgd hb (hx σ) I1 r q
theorem pe_callG0 (F : FnG X.prog X.w X.K X.mg X.base CX k f fd ps sp) (hr : Room k X.A) (hgd : X.A.guards = some []) (hg : Gl X x) (hm : X.mg x = some (.ref f)) (hk : PySem.W.keepIn X.K (.ref f) = true) (hb : Binds X.K fd ps []) (hx : ∀ σ, PassesAt CX X σ (E σ))
    (hdb : (x == ("__debug__" : Str)) = false) : PE X (.Call (.Name x p) [] [] pos) (tCallS sp E tNil) := by
  refine ⟨fun pins s σ H Q I h => ?_⟩
  refine wpAny_Call_Name_kw (ld_glob I hg hm ?_ hdb)
  exact PySem.W.callWith_K0 I.kIn hk (run_fnG (us := []) F hr hgd hb (hx σ) I .nil h)
end
section
variable {X : Cx} {S : Sig} {W : WX} {C : Cfg} {F : Fns}
theorem evs_len : ∀ {cs : List E} {env : Env} {g g' : Gen} {xs : List Vl}, evs F cs env g = .ok xs g' → xs.length = cs.length
  | [], env, g, g', xs, e => by
    simp only [evs] at e
    cases e; rfl
  | c :: cs, env, g, g', xs, e => by
    simp only [evs] at e
    unfold M.bd at e
    cases e1 : ev F c env g with
    | st => rw [e1] at e; cases e
    | er a b c => rw [e1] at e; cases e
    | ok x g1 =>
      rw [e1] at e
      dsimp only at e
      cases e2 : evs F cs env g1 with
      | st => rw [e2] at e; cases e
      | er a b c => rw [e2] at e; cases e
      | ok ys g2 =>
        rw [e2] at e
        cases e
        simp [evs_len e2]
/-- like Pst.bd, the equation told -/
theorem Pst.bdE {α β γ δ : Type} {S : Sig} {W : WX} {σ : L2.St} {H0 H : Hp} {rel : Hp → Hp → β → α → Prop} {rel' : Hp → Hp → δ → γ → Prop} {Q : δ → Hp → Prop} {Kt : β → Hp → Prop} {m : M α} {k : α → M γ} {g : Gen}
    (h : Pst S W σ H0 H rel' Q ((m.bd k) g))
    (hk : ∀ x g' v H0' H', m g = .ok x g' → Aft S g' H0 H H0' H' → rel H0' H' v x → Pst S W σ H0' H' rel' Q (k x g') → Kt v H') : Pst S W σ H0 H rel Kt (m g) := by
  unfold M.bd at h
  cases e : m g with
  | st => rw [e] at h; exact h
  | er c d g' => rw [e] at h; exact h
  | ok x g' =>
    rw [e] at h
    intro v H0' H' a r
    refine hk x g' v H0' H' e a r ?_
    have h : Pst S W σ H0 H rel' Q (k x g') := h
    cases e2 : k x g' with
    | st => rw [e2] at h; exact h
    | er c d g2 =>
      rw [e2] at h
      intro dx v2 H2 H3 a2 q1 q2
      exact h dx v2 H2 H3 (a.trans a2) q1 q2
    | ok y g2 =>
      rw [e2] at h
      intro v2 H2 H3 a2 q
      exact h v2 H2 H3 (a.trans a2) q
theorem fnIx_len : ∀ {fs : List (Str × Nat)} {f : Str} {n i : Nat}, fnIx fs f n = some i → True := fun _ => trivial
/-- a call's end, from the caller's side -/
theorem call_pst {m : M D} {g : Gen} {σ : L2.St} {H0 H : Hp} {Q : VK} (h : Pst S W σ H0 H (VR S) Q ((m.bd fun d => .pu (.d d)) g)) : Pst S (fun c d _ H => W c d σ H) [] H0 H (relR S) Q (m g) := by
  unfold M.bd at h
  cases e : m g with
  | st => rw [e] at h; exact h
  | er c d g' => rw [e] at h; exact h
  | ok x g' => rw [e] at h; exact h
theorem s_call {f : Str} {i : Nat} {es : List Expr} {cs : List E} {p pos : Pos} (G : Gd X S W C F) (hg : glB C.sc f = true) (hd : (!dbg f) = true) (hf : fnIx C.fns f cs.length = some i) (h : SEs X S W F es cs) :
    SE X S W F (.Call (.Name f p) es [] pos) (.call i cs) := by
  obtain ⟨k, fa, fd, ps, sp, FG, hr, hm, hk, hb, hsp⟩ := G.fns f _ i hf
  have gl : Gl X f := gl_of G.hsc hg
  have fin : ∀ {σ : L2.St} {H : Hp} {Q : VK}, RX S W (VR S) (fun env => (evs F cs env).bd fun xs => (F.call i xs).bd fun d => .pu (.d d)) σ H Q → tCallS sp (WE W) (RA S W (evs F cs)) σ H Q := by
    intro σ H Q h
    obtain ⟨env, g, He, H0e, H0, R, h⟩ := h
    refine ⟨env, g, He, H0e, H0, R, Pst.bdE h fun xs g1 vs H1 H1' e a1 r1 h1 => ?_⟩
    have R1 := R.step a1
    exact hsp vs xs g1 H1 H1' Q _ (evs_len e) R1.sub R1.ngen R1.ntbl R1.gen R1.tabs r1 (call_pst h1)
  have hp : PE X (.Call (.Name f p) es [] pos) (RE S W fun env => (evs F cs env).bd fun xs => (F.call i xs).bd fun d => .pu (.d d)) := by
    cases h with
    | nil =>
      refine PE.weak (pe_callG0 FG hr G.guards gl hm hk hb (fun σ => passAt G.tk σ) (dbg_of hd).1) fun σ H Q h => ?_
      obtain ⟨env, g, He, H0e, H0, R, h⟩ := fin h
      simp only [evs] at h
      exact h [] H0 H (Aft.refl R) .nil
    | cons h1 h2 => exact PE.weak (pe_callG FG hr G.guards gl hm hk hb (fun σ => passAt G.tk σ) (SEs.cons h1 h2).pa (dbg_of hd).1 (h1.ns _ _) (h2.plain _ _)) fun σ H Q h => fin h
  refine ⟨RE.eq hp fun env => by simp only [ev], RT.eq (pt_of G hp fun _ => rfl) fun env => ?_, fun _ _ => rfl⟩
  simp only [evT, M.bd_assoc]
  congr 1
end
end PD
set_option Elab.async false
set_option linter.all false
set_option maxRecDepth 100000
set_option autoImplicit false
namespace PD
open PySem PySem.Spec L2

/-! ### isinstance -/
theorem tyX_of {K : PySem.W.Frag} {H : Hp} {v : V} {d : D} (r : Dr K H v d) : TyX K H v (.type (tyS d)) := by
  cases r with
  | non => exact .base .non
  | bl b => exact .base (.bl b)
  | int i => exact .base (.int i)
  | str x => exact .base (.str x)
  | lst h hs => exact .base (.lst h)
  | tup h hs =>
    rcases h with (h | ⟨o, h⟩) | ⟨o, its, n, h1, h2, _⟩
    · exact .base (.tup h)
    · exact .fTuple h
    · exact .kTuple h1 h2
  | dct h hs => exact .base (.dK h)
def tyNames : List String := ["str", "int", "bool", "tuple", "list"]
def tyAll : List String := ["NoneType", "bool", "int", "str", "list", "tuple", "dict"]
theorem kit_tab : ∀ a ∈ tyAll, ∀ b ∈ tyNames, kitB a b = some (tySub a b) := by decide +kernel
theorem tyS_in (d : D) : tyS d ∈ tyAll := by cases d <;> simp [tyS, tyAll]
theorem kit_of_ty {K : PySem.W.Frag} {d : D} {t : String} (h : t ∈ tyNames) : PySem.W.kitOne K (.type (tyS d)) (.type t) = some (tySub (tyS d) t) := kit_ty (kit_tab _ (tyS_in d) _ h)
theorem kitAny_of {K : PySem.W.Frag} {d : D} : ∀ {ts : List String}, (∀ t ∈ ts, t ∈ tyNames) → PySem.W.kitAny K (.type (tyS d)) (ts.map Value.type) = some (ts.any fun t => tySub (tyS d) t)
  | [], _ => rfl
  | t :: ts, h => by
    have h1 := kit_of_ty (K := K) (d := d) (h t (List.mem_cons_self ..))
    have h2 := kitAny_of (K := K) (d := d) (ts := ts) fun t' ht => h t' (List.mem_cons_of_mem _ ht)
    rw [List.map_cons, List.any_cons]
    unfold PySem.W.kitAny
    rw [h1]
    cases tySub (tyS d) t with
    | true => rfl
    | false => exact h2
section
variable {X : Cx} {S : Sig} {W : WX} {C : Cfg} {F : Fns}
theorem tyName_inv {e : Expr} {t : String} (G : Gd X S W C F) (h : tyName e C = some t) : t ∈ tyNames ∧ PE X e (tC (.ty t)) ∧ ∀ (rest : List Expr) (env : PySem.Env), starEach (e :: rest) env = (false, eval e env) :: starEach rest env := by
  cases e with
  | Name x pos =>
    have h : (if glB C.sc x = true then (if x = "str" then some "str" else if x = "int" then some "int" else if x = "bool" then some "bool" else if x = "tuple" then some "tuple" else if x = "list" then some "list" else none) else none) = some t := h
    split at h
    · rename_i hg
      have gl : Gl X x := gl_of G.hsc hg
      split at h
      · rename_i e; cases h; subst e
        exact ⟨by simp [tyNames], pe_bltn gl (G.blt _ (by simp [bltNames])) (by decide +kernel) rfl, fun _ _ => rfl⟩
      · split at h
        · rename_i e; cases h; subst e
          exact ⟨by simp [tyNames], pe_bltn gl (G.blt _ (by simp [bltNames])) (by decide +kernel) rfl, fun _ _ => rfl⟩
        · split at h
          · rename_i e; cases h; subst e
            exact ⟨by simp [tyNames], pe_bltn gl (G.blt _ (by simp [bltNames])) (by decide +kernel) rfl, fun _ _ => rfl⟩
          · split at h
            · rename_i e; cases h; subst e
              exact ⟨by simp [tyNames], pe_bltn gl (G.blt _ (by simp [bltNames])) (by decide +kernel) rfl, fun _ _ => rfl⟩
            · split at h
              · rename_i e; cases h; subst e
                exact ⟨by simp [tyNames], pe_bltn gl (G.blt _ (by simp [bltNames])) (by decide +kernel) rfl, fun _ _ => rfl⟩
              · cases h
    · cases h
  | _ => cases h
theorem s_isi1 {f : Str} {a b : Expr} {ca : E} {p pos : Pos} {t : String} (G : Gd X S W C F) (hg : glB C.sc f = true) (hf : f = "isinstance") (ha : SE X S W F a ca) (hb : tyName b C = some t) :
    SE X S W F (.Call (.Name f p) [a, b] [] pos) (.bf (.isinst [t]) [ca]) := by
  subst hf
  obtain ⟨ht, hpe, hns⟩ := tyName_inv G hb
  have hp : PE X (.Call (.Name "isinstance" p) [a, b] [] pos) (RE S W fun env => (evs F [ca] env).bd fun xs => .ofO ((bfD (.isinst [t]) xs).map .d)) := by
    have hst : starEach [b] X.env = (false, eval b X.env) :: starEach [] X.env := hns _ _
    have hpl : (backTo pos (starEach [b] X.env)).any (·.1) = false := by rw [hst]; simp [backTo, starEach]
    refine PE.weak (pe_callB call_isi (gl_of G.hsc hg) (G.blt _ (by simp [bltNames])) (by decide +kernel) (pa_cons ha.pe (pa_cons hpe pa_nil hst) (ha.ns _ _)) (he := ha.ns _ _) (hpl := hpl)) fun σ H Q h => ?_
    obtain ⟨env, g, He, H0e, H0, R, h⟩ := h
    simp only [evs, M.bd_assoc, M.pu_bd] at h
    refine ⟨env, g, He, H0e, H0, R, Pst.bd h fun x g1 v H1 H1' a1 r1 h1 => ?_⟩
    cases ea : asD x with
    | none => simp only [bfD, ea] at h1; exact h1.elim
    | some d =>
      simp only [bfD, ea, Option.bind, bf1] at h1
      refine ⟨v, .ty t, .type (tyS d), .type t, _, rfl, .ty t, ?_, kit_of_ty (d := d) ht, ?_⟩
      · rw [G.hK]; exact tyX_of (r1.full a1.sub ea)
      · have h2 := h1 (.bl _) H1 H1' (Aft.refl (R.step a1)) (Dr.bl _)
        simpa using h2
  refine ⟨RE.eq hp fun env => by simp only [ev], RT.eq (pt_of G hp fun _ => rfl) fun env => ?_, fun _ _ => rfl⟩
  simp only [evT, M.bd_assoc]
  congr 1; funext xs
  rw [M.ofO_bd]
  cases bfD (.isinst [t]) xs <;> rfl
theorem tys_pa (G : Gd X S W C F) : ∀ {es : List Expr} {ts : List String}, es.mapM (fun t => tyName t C) = some ts → (∀ t ∈ ts, t ∈ tyNames) ∧ ∃ t : TA, PA X es t ∧ (∀ σ H Q, Q (ts.map V.ty) H → t σ H Q) ∧ (∀ (pos : Pos) (env : PySem.Env), (backTo pos (starEach es env)).any (·.1) = false)
  | [], ts, e => by
    have e : some [] = some ts := by simpa using e
    cases e
    exact ⟨fun _ h => absurd h (by simp), tNil, pa_nil, fun _ _ _ h => h, fun _ _ => by simp [starEach, backTo]⟩
  | b :: bs, ts, e => by
    rw [List.mapM_cons] at e
    cases e1 : tyName b C with
    | none => rw [e1] at e; cases e
    | some t =>
      cases e2 : bs.mapM (fun t => tyName t C) with
      | none => rw [e1, e2] at e; cases e
      | some ts' =>
        rw [e1, e2] at e
        have e3 : t :: ts' = ts := Option.some.inj e
        subst e3
        obtain ⟨h1, h2, h3⟩ := tyName_inv G e1
        obtain ⟨k1, u, k2, k3, k4⟩ := tys_pa G e2
        refine ⟨fun t' ht' => ?_, tCons (tC (.ty t)) u, pa_cons h2 k2 (h3 _ _), fun σ H Q q => k3 σ H _ q, fun pos env => ?_⟩
        · rcases List.mem_cons.mp ht' with rfl | z
          · exact h1
          · exact k1 _ z
        · rw [h3]
          have := k4 pos env
          unfold backTo at this ⊢
          simp only [List.map_cons, List.any_cons, this, Bool.or_self]
theorem clsVs : ∀ ts : List String, Paired ClsV (ts.map V.ty) (ts.map Value.type)
  | [] => .nil
  | t :: ts => .cons (.ty t) (clsVs ts)
theorem s_isi2 {f : Str} {a : Expr} {bs : List Expr} {ca : E} {p pos pt : Pos} {kt : Nat} {ts : List String} (G : Gd X S W C F) (hg : glB C.sc f = true) (hf : f = "isinstance") (ha : SE X S W F a ca) (hb : bs.mapM (fun t => tyName t C) = some ts) (hl : ts.length ≤ 10) :
    SE X S W F (.Call (.Name f p) [a, .Tuple bs kt pt] [] pos) (.bf (.isinst ts) [ca]) := by
  subst hf
  obtain ⟨k1, u, k2, k3, k4⟩ := tys_pa G hb
  have hp : PE X (.Call (.Name "isinstance" p) [a, .Tuple bs kt pt] [] pos) (RE S W fun env => (evs F [ca] env).bd fun xs => .ofO ((bfD (.isinst ts) xs).map .d)) := by
    have hpl : (backTo pos (starEach [.Tuple bs kt pt] X.env)).any (·.1) = false := rfl
    refine PE.weak (pe_callB call_isiT (gl_of G.hsc hg) (G.blt _ (by simp [bltNames])) (by decide +kernel) (pa_cons ha.pe (pa_cons (pe_tup k2) pa_nil) (ha.ns _ _)) (he := ha.ns _ _) (hpl := hpl)) fun σ H Q h => ?_
    obtain ⟨env, g, He, H0e, H0, R, h⟩ := h
    simp only [evs, M.bd_assoc, M.pu_bd] at h
    refine ⟨env, g, He, H0e, H0, R, Pst.bd h fun x g1 v H1 H1' a1 r1 h1 => ?_⟩
    refine k3 σ H1' _ ⟨by rw [List.length_map]; exact Nat.le_trans hl (by decide), fun q hq => ?_⟩
    have R1 := R.step a1
    have a2 := Aft.new (p := q) (o := .tup (ts.map V.ty)) R1.sub R1.gen R1.tabs hq (fun ps z => by cases z)
    cases ea : asD x with
    | none => simp only [bfD, ea] at h1; exact h1.elim
    | some d =>
      simp only [bfD, ea, Option.bind, bf1] at h1
      refine ⟨v, q, _, .type (tyS d), ts.map Value.type, _, rfl, upd_same, clsVs ts, ?_, kitAny_of (d := d) k1, ?_⟩
      · rw [G.hK]
        exact tyX_of ((r1.full a1.sub ea).same (same_new hq))
      · exact h1 (.bl _) _ _ a2 (Dr.bl _)
  refine ⟨RE.eq hp fun env => by simp only [ev], RT.eq (pt_of G hp fun _ => rfl) fun env => ?_, fun _ _ => rfl⟩
  simp only [evT, M.bd_assoc]
  congr 1; funext xs
  rw [M.ofO_bd]
  cases bfD (.isinst ts) xs <;> rfl
end
end PD
set_option Elab.async false
set_option linter.all false
set_option maxRecDepth 100000
set_option autoImplicit false
namespace PySem
open Sem (wp)
/-- enumerate(v), v told by what its iterator is -/
theorem pdm_enum_new {v : Value} {o : Obj} {H : Heap → Prop} (B : Begins v o H) :
    Meets (Builtin.«enumerate.__new__» ⟨[.type "enumerate", v], []⟩) (fun _ R s => H s.heap ∧
      R (.ok (.ret (.ref (s.heap.push o).objs.size)))
        { s with heap := (s.heap.push o).push { cls := .type "enumerate", data := .fields #[.none, .bool false, .ref s.heap.objs.size, rawInt 0, .none, .none] } }) :=
  .of_wp fun prog w A R s h => by
    obtain ⟨hp, g, d, tk, os⟩ := s
    obtain ⟨h1, h⟩ := h
    have hsub := sub_enumerate
    have q1 : ∀ {A' : Around} {E : Value → Shared → Prop} {Q : Value → Shared → Prop}, Q (.ref hp.objs.size) ⟨hp.push o, g, d, tk, os⟩ → wpAny (model prog w) A' (pyIter v) Q E ⟨hp, g, d, tk, os⟩ :=
      fun q => B.iter prog w _ _ ⟨hp, g, d, tk, os⟩ _ h1 q
    wp_walk using q1
    refine wpAny_stack_any fun st => wpAny_pure ?_
    split
    · rename_i c _ _ _ _ _
      cases (c == Value.type "enumerate")
      · wp_walk using q1
        exact ⟨_, rfl, h⟩
      · wp_walk using q1
        exact ⟨_, rfl, h⟩
    · wp_walk using q1
      exact ⟨_, rfl, h⟩
theorem pdm_enum {prog : Program} {w : World} {A : Around} {E : Value → Shared → Prop} {s : Shared} {v : Value} {o : Obj} {H : Heap → Prop} {Q : Value → Shared → Prop} (B : Begins v o H) (h1 : H s.heap)
    (h : ∀ h', IsEnum h' (s.heap.objs.size + 1) s.heap.objs.size 0 .none → h'.get? s.heap.objs.size = some o → h'.objs.size = s.heap.objs.size + 2 →
      (∀ b o, s.heap.get? b = some o → h'.get? b = some o) → Q (.ref (s.heap.objs.size + 1)) { s with heap := h' }) :
    wpAny (model prog w) A (call (.type "enumerate") [v]) Q E s := by
  refine callType_new F.called_enumerate (by decide) (F.typeCall_enumerate_1 _) (F.newCall_enumerate_1 _) (fun obj => F.args_object_init_2 obj _) F.entry_enumerate_new
    (pdm_enum_new B) ⟨h1, ?_⟩
  have hz : (s.heap.push o).objs.size = s.heap.objs.size + 1 := Heap.size_push ..
  show _ ∧ _
  rw [hz]
  have he : IsEnum ((s.heap.push o).push { cls := .type "enumerate", data := .fields #[.none, .bool false, .ref s.heap.objs.size, rawInt 0, .none, .none] }) (s.heap.objs.size + 1) s.heap.objs.size 0 .none := by
    have := Heap.get?_push_size (s.heap.push o) (o := { cls := .type "enumerate", data := .fields #[.none, .bool false, .ref s.heap.objs.size, rawInt 0, .none, .none] }) rfl
    rw [hz] at this; exact this
  refine ⟨⟨_, he, rfl⟩, h _ he (Heap.get?_push_of_some _ (Heap.get?_push_size _ B.free)) (by rw [Heap.size_push, hz]) fun b o x => Heap.get?_push_of_some _ (Heap.get?_push_of_some _ x)⟩
end PySem
namespace PD
open PySem PySem.Spec L2

/-- the tuple at a, each item in a new pair -/
def IteT (K : PySem.W.Frag) (a : Addr) : It :=
  ⟨fun i H => ∃ (xs : List V) (x : V), SqT K H a xs ∧ xs[i]? = some x, fun i H v H' => ∃ T x, v = .ref T ∧ H T = none ∧ H' = upd H T (.tup [.int (i : Nat), x]) ∧ ∀ xs, SqT K H a xs → xs[i]? = some x, fun i H => ∃ xs : List V, SqT K H a xs ∧ xs.length ≤ i⟩
theorem turn_enumT {P : Program} {w : World} {K : PySem.W.Frag} {elts : List Expr} {kk : Nat} {tpos : Pos} (a e it : Addr) (hea : e ≠ a) (hita : it ≠ a) :
    Turn P w K (.Tuple elts kk tpos) (IteT K a) [e, it] e (fun i h => (∃ old, IsEnum h e it ((i : Nat) : Int) old) ∧ h.IsTupleIter it a i ∧ e ≠ it) where
  mem := by simp
  obj := fun i h st b hb => by
    obtain ⟨⟨old, he⟩, ⟨o, ho, hc, hd⟩, _⟩ := st
    have e' : b = e ∨ b = it := by simpa using hb
    rcases e' with z | z
    · rw [z]; exact ⟨_, he, fun v q => nomatch q⟩
    · rw [z]; exact ⟨o, ho, fun v q => by rw [hd] at q; cases q⟩
  keep := fun i h h' st k => let ⟨⟨old, he⟩, hi, hne⟩ := st; ⟨⟨old, k e (by simp) _ he⟩, hi.at fun o q => k it (by simp) o q, hne⟩
  item := by
    intro X hP hw hK hc i pins s σ H E I hf st hg
    subst hP hw hK
    obtain ⟨⟨old, he⟩, hit, hne⟩ := st
    obtain ⟨xs, x, hq, hx⟩ := hg
    obtain ⟨its, rv, p, hz⟩ := I.tuple hq
    obtain ⟨u, hu, ru⟩ := rv.get hx
    have hel : e < s.heap.objs.size := Heap.lt_size he
    have hil : it < s.heap.objs.size := by obtain ⟨_, q, _⟩ := hit; exact Heap.lt_size q
    have hT : s.heap.IsTuple a its.toArray := p
    have D := Draws.tuple (prog := X.prog) (w := X.w) (A := X.A.in1) (I.ok.hd hc) it a (Ne.symm hita) its.toArray
    have hlt : i < its.toArray.size := by
      have := (List.getElem?_eq_some_iff.mp hu).1
      simpa using this
    refine wpAny_pyNext_enum_itemD D he ⟨hit, hT⟩ hlt hne (by simp [hne, hea]) fun x' h' tk hP ho hit' hT' hsz hk => ?_
    have ex : x' = u := by
      have h1 : its[i]? = some x' := by simpa using hP
      rw [hu] at h1; exact (Option.some.inj h1).symm
    subst ex
    refine ⟨_, rfl, wpAny_letOwnedTupleGo_enum (s := { s with heap := h', toks := tk + 1 }) ho fun h'' he' sb => ?_⟩
    have hT2 : h''.get? s.heap.objs.size = some { cls := .type "tuple", data := .seq #[.int i tk, x'] } := (sb.2 _ (Nat.ne_of_gt hel)).trans hT'
    have new : ObjOk X.prog X.w (upd H s.heap.objs.size (.tup [.int (i : Nat), x])) h'' s.heap.objs.size (.tup [.int (i : Nat), x]) :=
      ⟨by show 2 ≤ sizeLine; decide, [.int i tk, x'], .cons ⟨_, rfl⟩ (.cons ru .nil), ⟨_, hT2, rfl, _, rfl⟩⟩
    have I1 : Inv X pins σ (upd H s.heap.objs.size (.tup [.int (i : Nat), x])) { s with heap := h'', toks := tk + 1 } :=
      I.turnedNew (ch := [e, it]) (fun b ob hb q => (sb.2 b (fun z => hb (by simp [z]))).trans (hk b ob (fun z => hb (by simp [z])) (fun z => hb (by simp [z])) q)) hf (Nat.le_refl _) new
    refine ⟨.ref s.heap.objs.size, _, I1, rfl, ⟨_, x, rfl, I.hok.fresh (Nat.le_refl _), rfl, fun ys hy => by rw [I.tuple_inj hy hq]; exact hx⟩, ⟨⟨x', ?_⟩, hit'.1.at fun o q => (sb.2 it (Ne.symm hne)).trans q, hne⟩, fun b hb => ?_⟩
    · have e1 : ((i + 1 : Nat) : Int) = (i : Int) + 1 := by omega
      rw [e1]; exact he'
    · have hb' : b < s.heap.objs.size := by
        have e' : b = e ∨ b = it := by simpa using hb
        rcases e' with z | z
        · rw [z]; exact hel
        · rw [z]; exact hil
      rw [upd_ne (Nat.ne_of_lt hb')]
      exact (hf b hb).1
  done := by
    intro X hP hw hK hc i pins s σ H E I hf st hg
    subst hP hw hK
    obtain ⟨⟨old, he⟩, hit, hne⟩ := st
    obtain ⟨xs, hq, hx⟩ := hg
    obtain ⟨its, rv, p, hz⟩ := I.tuple hq
    obtain ⟨f0, f1, f2, f3, f4, f5⟩ := hf it (by simp)
    have hl := rv.length
    have hT : s.heap.IsTuple a its.toArray := p
    have hT0 : s.TypeIs (.ref e) "enumerate" := ⟨_, he, rfl⟩
    unfold pyNext
    refine wpAny_bind (wpAny_attempt (wpAny_callSpecial?_slot (name := Str.ofString "__next__") hT0 F.slot_enumerate_next
      (wpAny_call_entry F.slot_enumerate_next hT0 F.entry_enumerate_next ?_ (F.args_enumerate_next_1 _))))
    show wpAny _ _ (field (.ref e) 2 >>= _) _ _ _
    refine wpAny_bind (wpAny_field he rfl (x := .ref it) rfl ?_)
    refine wpAny_bind (wpAny_nextOf_tuple_end (I.ok.hd hc) hit hT (by simp; omega) fun h' x he' hx' => ?_)
    obtain ⟨o, ho, hcl⟩ := hx'
    refine wpAny_bind (wpAny_isInstance (T := "StopIteration") (b := true) ⟨o, ho, hcl⟩ isSubtype_stop ?_)
    exact wpAny_pure ⟨rfl, I.turned (t' := s.toks) (fun b o hb q => he' b o hb q) f0 f1 f3 f4 f5⟩
  self := fun A i s Q E st h => let ⟨⟨_, he⟩, _⟩ := st; wpAny_pyIter_enum he h
/-- enumerate of a list or a tuple -/
def iEnumA (K : PySem.W.Frag) (ta : TA) : TI := fun σ H R => ta σ H fun vs H1 => ∃ a, vs = [.ref a] ∧ ((∃ xs, SqL K H1 a xs ∧ R (Ite K a) H1) ∨ (∃ xs, SqT K H1 a xs ∧ R (IteT K a) H1))
theorem pi_enumA {X : Cx} {e : Expr} {ta : TA} {p pos tpos : Pos} {elts : List Expr} {kk : Nat} (hg : Gl X "enumerate") (hm : X.mg "enumerate" = none) (ha : PA X [e] ta) (hs : starEach [e] X.env = [(false, eval e X.env)]) :
    PI X (.Tuple elts kk tpos) (.Call (.Name "enumerate" p) [e] [] pos) (iEnumA X.K ta) := by
  refine ⟨fun pins s σ H R I h => ?_⟩
  refine PyProof.Rows.Call_ (ld_blt I hg hm PyProof.Rows.boot_enumerate (PyProof.Rows.callWith_type1 (thn (ha.run pos pins s σ H _ I h) fun us s1 ⟨vs, H1, I1, r1, q1⟩ => ?_) hs rfl))
  obtain ⟨a, ex, q⟩ := q1
  subst ex
  cases r1 with
  | cons r rr =>
    cases rr
    cases r
    rcases q with ⟨xs, hq, q⟩ | ⟨xs, hq, q⟩
    · obtain ⟨its, rv, p', hz⟩ := I1.list hq
      refine call_enumerate_list p'.isList fun h' he hit hsz hk => wpAny_pyIter_enum he ?_
      have I2 : Inv X pins σ H1 { s1 with heap := h' } := I1.kept (t' := s1.toks) hk
      refine ⟨s1.heap.objs.size + 1, [s1.heap.objs.size + 1, s1.heap.objs.size], _, _, H1, rfl, I2, turn_enum a (s1.heap.objs.size + 1) s1.heap.objs.size, ⟨⟨.none, he⟩, hit, Nat.succ_ne_self _⟩, fun b hb => ?_, q⟩
      have e' : b = s1.heap.objs.size + 1 ∨ b = s1.heap.objs.size := by simpa using hb
      have hle : s1.heap.objs.size ≤ b := by
        rcases e' with z | z
        · rw [z]; exact Nat.le_add_right _ _
        · rw [z]; exact Nat.le_refl _
      exact I1.fpOk hle (I1.hok.fresh hle)
    · obtain ⟨its, rv, p', hz⟩ := I1.tuple hq
      have hT : s1.heap.IsTuple a its.toArray := p'
      have hal : a < s1.heap.objs.size := by obtain ⟨o, ho, _⟩ := p'; exact Heap.lt_size ho
      refine pdm_enum (begins_tuple a its.toArray) hT fun h' he hit hsz hk => wpAny_pyIter_enum he ?_
      have I2 : Inv X pins σ H1 { s1 with heap := h' } := I1.kept (t' := s1.toks) hk
      refine ⟨s1.heap.objs.size + 1, [s1.heap.objs.size + 1, s1.heap.objs.size], _, _, H1, rfl, I2, turn_enumT a (s1.heap.objs.size + 1) s1.heap.objs.size (Nat.ne_of_gt (Nat.lt_succ_of_lt hal)) (Nat.ne_of_gt hal), ⟨⟨.none, he⟩, ⟨_, hit, rfl, rfl⟩, Nat.succ_ne_self _⟩, fun b hb => ?_, q⟩
      have e' : b = s1.heap.objs.size + 1 ∨ b = s1.heap.objs.size := by simpa using hb
      have hle : s1.heap.objs.size ≤ b := by
        rcases e' with z | z
        · rw [z]; exact Nat.le_add_right _ _
        · rw [z]; exact Nat.le_refl _
      exact I1.fpOk hle (I1.hok.fresh hle)
/-- over a list or a tuple -/
def iSeq (K : PySem.W.Frag) (tl : TE) : TI := fun σ H R => tl σ H fun x H1 => ∃ a, x = .ref a ∧ ((∃ xs, SqL K H1 a xs ∧ R (Itl K a) H1) ∨ (∃ xs, SqT K H1 a xs ∧ R (Itt K a) H1))
theorem pi_seq {X : Cx} {tg l : Expr} {tl : TE} (hl : PE X l tl) : PI X tg l (iSeq X.K tl) := by
  refine ⟨fun pins s σ H R I h => ?_⟩
  refine thn (hl.run pins s σ H _ I h) fun v s1 ⟨x, H1, I1, r1, q1⟩ => ?_
  obtain ⟨a, e, q⟩ := q1
  subst e
  cases r1
  rcases q with ⟨xs, hq, q⟩ | ⟨xs, hq, q⟩
  · obtain ⟨its, rv, p, hz⟩ := I1.list hq
    refine wpAny_pyIter_list p.isList ?_
    refine ⟨s1.heap.objs.size, [s1.heap.objs.size], _, _, H1, rfl, I1.kept (t' := s1.toks) fun b o e => Heap.get?_push_of_some _ e, turn_list a _, ⟨_, Heap.get?_push_size _ rfl, rfl, rfl⟩, fun b hb => ?_, q⟩
    have e : b = s1.heap.objs.size := by simpa using hb
    subst e
    exact I1.fpOk (Nat.le_refl _) (I1.hok.fresh (Nat.le_refl _))
  · obtain ⟨its, rv, p, hz⟩ := I1.tuple hq
    refine wpAny_pyIter_tuple (show s1.heap.IsTuple a its.toArray from p) ?_
    refine ⟨s1.heap.objs.size, [s1.heap.objs.size], _, _, H1, rfl, I1.kept (t' := s1.toks) fun b o e => Heap.get?_push_of_some _ e, turn_tuple a _, ⟨_, Heap.get?_push_size _ rfl, rfl, rfl⟩, fun b hb => ?_, q⟩
    have e : b = s1.heap.objs.size := by simpa using hb
    subst e
    exact I1.fpOk (Nat.le_refl _) (I1.hok.fresh (Nat.le_refl _))
end PD
set_option Elab.async false
set_option linter.all false
set_option maxRecDepth 100000
set_option autoImplicit false
namespace PD
open PySem PySem.Spec L2

/-! ### the slots -/
section
variable {S : Sig} {env : Env} {g : Gen} {σ : L2.St} {He H0e H0 H : Hp}
theorem Rl.set (R : Rl S env g σ He H0e H0 H) {i : Nat} {v : V} {d : D} (hi : i < env.length) (hd : Dr S.K H0 v d) : Rl S (env.set i (.fz d)) g (σ.set i (some v)) He H0e H0 H := by
  have hσ : i < σ.length := by
    obtain ⟨o, h, _⟩ := R.slots i env[i] (by simp [hi])
    exact (List.getElem?_eq_some_iff.mp h).1
  refine ⟨R.stp, R.sub, R.gen, R.ngen, R.tabs, R.ntbl, fun j s e => ?_, fun j k a hne h1 h2 h3 => ?_⟩
  · by_cases hj : j = i
    · subst hj
      rw [List.getElem?_set_self hi] at e
      cases e
      exact ⟨some v, List.getElem?_set_self hσ, v, rfl, hd⟩
    · rw [List.getElem?_set_ne (Ne.symm hj)] at e
      obtain ⟨o, h1, h2⟩ := R.slots j s e
      exact ⟨o, by rw [List.getElem?_set_ne (Ne.symm hj)]; exact h1, h2⟩
  · have nj : ∀ {m : Nat}, (∃ ds, (env.set i (.fz d))[m]? = some (.ow ds)) → m ≠ i ∧ ∃ ds, env[m]? = some (.ow ds) := fun {m} ⟨ds, e⟩ => by
      by_cases hm : m = i
      · subst hm; rw [List.getElem?_set_self hi] at e; cases e
      · rw [List.getElem?_set_ne (Ne.symm hm)] at e; exact ⟨hm, ds, e⟩
    obtain ⟨j1, j2⟩ := nj h1
    obtain ⟨k1, k2⟩ := nj h2
    rw [List.getElem?_set_ne (Ne.symm j1)] at h3
    rw [List.getElem?_set_ne (Ne.symm k1)]
    exact R.own j k a hne j2 k2 h3
/-- a slot forgotten -/
theorem Rl.un (R : Rl S env g σ He H0e H0 H) (i : Nat) (o : Option V) : Rl S (env.set i .un) g (σ.set i o) He H0e H0 H := by
  refine ⟨R.stp, R.sub, R.gen, R.ngen, R.tabs, R.ntbl, fun j s e => ?_, fun j k a hne h1 h2 h3 => ?_⟩
  · by_cases hj : j = i
    · subst hj
      have hi : j < env.length := by
        have := (List.getElem?_eq_some_iff.mp e).1
        simpa using this
      have hσ : j < σ.length := by
        obtain ⟨o, h, _⟩ := R.slots j env[j] (by simp [hi])
        exact (List.getElem?_eq_some_iff.mp h).1
      rw [List.getElem?_set_self hi] at e
      cases e
      exact ⟨o, List.getElem?_set_self hσ, trivial⟩
    · rw [List.getElem?_set_ne (Ne.symm hj)] at e
      obtain ⟨o', h1, h2⟩ := R.slots j s e
      exact ⟨o', by rw [List.getElem?_set_ne (Ne.symm hj)]; exact h1, h2⟩
  · have nj : ∀ {m : Nat}, (∃ ds, (env.set i .un)[m]? = some (.ow ds)) → m ≠ i ∧ ∃ ds, env[m]? = some (.ow ds) := fun {m} ⟨ds, e⟩ => by
      by_cases hm : m = i
      · subst hm
        have hi : m < env.length := by
          have := (List.getElem?_eq_some_iff.mp e).1
          simpa using this
        rw [List.getElem?_set_self hi] at e; cases e
      · rw [List.getElem?_set_ne (Ne.symm hm)] at e; exact ⟨hm, ds, e⟩
    obtain ⟨j1, j2⟩ := nj h1
    obtain ⟨k1, k2⟩ := nj h2
    rw [List.getElem?_set_ne (Ne.symm j1)] at h3
    rw [List.getElem?_set_ne (Ne.symm k1)]
    exact R.own j k a hne j2 k2 h3
theorem Rl.wipe (R : Rl S env g σ He H0e H0 H) : ∀ w : List Nat, Rl S (wipeE env w) g (L2.wipe σ w) He H0e H0 H
  | [] => R
  | v :: w => (R.wipe w).un v none
end
theorem wipe_get (σ : L2.St) (j : Nat) : ∀ w : List Nat, (L2.wipe σ w)[j]? = if j ∈ w ∧ j < σ.length then some none else σ[j]?
  | [] => by simp [L2.wipe]
  | v :: w => by
    unfold L2.wipe
    by_cases hj : j = v
    · subst hj
      by_cases hl : j < σ.length
      · rw [List.getElem?_set_self (by rw [wipe_length]; exact hl)]
        simp [hl]
      · rw [List.getElem?_eq_none (by rw [List.length_set, wipe_length]; omega)]
        simp [hl]
    · rw [List.getElem?_set_ne (Ne.symm hj), wipe_get σ j w]
      simp [hj]
theorem wipe_eq {σ σ' : L2.St} {w is : List Nat} (hl : σ'.length = σ.length) (h : ∀ j, j ∉ is → σ'[j]? = σ[j]?) (hw : ∀ i ∈ is, i ∈ w) : L2.wipe σ' w = L2.wipe σ w := by
  apply List.ext_getElem?
  intro j
  rw [wipe_get, wipe_get, hl]
  by_cases hj : j ∈ w
  · by_cases hlt : j < σ.length
    · simp [hj, hlt]
    · simp only [hj, hlt, and_false, if_false]
      rw [List.getElem?_eq_none (by omega), List.getElem?_eq_none (by omega)]
  · simp only [hj, false_and, if_false]
    exact h j fun z => hj (hw j z)
theorem wipe_wipe (σ : L2.St) (w : List Nat) : L2.wipe (L2.wipe σ w) w = L2.wipe σ w := by
  apply List.ext_getElem?
  intro j
  rw [wipe_get, wipe_get, wipe_length]
  by_cases hj : j ∈ w ∧ j < σ.length
  · simp [hj]
  · simp [hj]

/-! ### targets -/
def gD (S : Sig) (t : Tg) : TG := fun v σ H Q => ∃ env g He H0e H0 d env', Rl S env g σ He H0e H0 H ∧ Dr S.K H0 v d ∧ setTg env t d = some env' ∧
  ∀ σ', σ'.length = σ.length → (∀ j, j ∉ tgIx t → σ'[j]? = σ[j]?) → Rl S env' g σ' He H0e H0 H → Q σ' H
def gDs (S : Sig) (is : List Nat) : TGs := fun vs σ H Q => ∃ env g He H0e H0 ds env', Rl S env g σ He H0e H0 H ∧ DrAll S.K H0 vs ds ∧ setTgs env is ds = some env' ∧
  ∀ σ', σ'.length = σ.length → (∀ j, j ∉ is → σ'[j]? = σ[j]?) → Rl S env' g σ' He H0e H0 H → Q σ' H
theorem PG.weak {X : Cx} {e : Expr} {t t' : TG} (h : PG X e t) (w : ∀ v σ H Q, t' v σ H Q → t v σ H Q) : PG X e t' := ⟨fun pins s σ H v u Q I r q => h.run pins s σ H v u Q I r (w v σ H Q q)⟩
theorem PGs.weak {X : Cx} {e : List Expr} {t t' : TGs} (h : PGs X e t) (w : ∀ v σ H Q, t' v σ H Q → t v σ H Q) : PGs X e t' := ⟨fun pins s σ H v u Q I r q => h.run pins s σ H v u Q I r (w v σ H Q q)⟩
/-- what may be stored to: the slots of a cfg -/
def StOk (X : Cx) (C : Cfg) : Prop := ∀ x i, C.slot x = some i → X.N[i]? = some x ∧ Loc X.env.scope x ∧ (X.fn x = true ∨ X.env.scope.names.lookup x = some .local)
section
variable {X : Cx} {S : Sig} {C : Cfg}
theorem g_name {x : Str} {pos : Pos} {i : Nat} (hN : X.N.Nodup) (K : StOk X C) (h : C.slot x = some i) : PG X (.Name x pos) (gD S (.n i)) := by
  obtain ⟨h1, h2, h3⟩ := K x i h
  refine PG.weak (pg_name hN h1 h2 h3) fun v σ H Q q => ?_
  obtain ⟨env, g, He, H0e, H0, d, env', R, hd, e, q⟩ := q
  have e : (if i < env.length then some (env.set i (.fz d)) else none) = some env' := e
  obtain ⟨hi, rfl⟩ := ifO e
  refine q _ (by simp) (fun j hj => ?_) (R.set hi hd)
  rw [List.getElem?_set_ne (by intro z; exact hj (by simp [tgIx, z]))]
theorem g_names (hN : X.N.Nodup) (K : StOk X C) : ∀ {es : List Expr} {is : List Nat}, es.mapM C.slotE = some is → PGs X es (gDs S is) ∧ (assignEach es X.env).length = is.length ∧ (assignEach es X.env).findIdx? (·.1) = none
  | [], is, e => by
    have e : some [] = some is := by simpa using e
    cases e
    refine ⟨PGs.weak pgs_nil fun vs σ H Q q => ?_, rfl, rfl⟩
    obtain ⟨env, g, He, H0e, H0, ds, env', R, hd, e, q⟩ := q
    cases ds with
    | nil => cases hd; cases e; exact ⟨rfl, q σ rfl (fun _ _ => rfl) R⟩
    | cons d ds => cases e
  | e :: es, is, h => by
    rw [List.mapM_cons] at h
    cases e1 : C.slotE e with
    | none => rw [e1] at h; cases h
    | some i =>
      cases e2 : es.mapM C.slotE with
      | none => rw [e1, e2] at h; cases h
      | some is' =>
        rw [e1, e2] at h
        have e3 : i :: is' = is := Option.some.inj h
        subst e3
        cases e with
        | Name x pos =>
          have e1 : C.slot x = some i := e1
          obtain ⟨k1, k2, k3⟩ := g_names hN K e2
          refine ⟨PGs.weak (pgs_cons (g_name (S := S) hN K e1) k1 rfl) fun vs σ H Q q => ?_, by show (_ :: _).length = _; simp [k2], ?_⟩
          · obtain ⟨env, g, He, H0e, H0, ds, env', R, hd, e, q⟩ := q
            cases hd with
            | nil => cases e
            | @cons v vs d ds h1 h2 =>
              have e : (if i < env.length then setTgs (env.set i (.fz d)) is' ds else none) = some env' := e
              split at e
              · rename_i hi
                refine ⟨v, vs, rfl, env, g, He, H0e, H0, d, env.set i (.fz d), R, h1, if_pos hi, fun σ1 l1 s1 R1 => ?_⟩
                refine ⟨_, g, He, H0e, H0, ds, env', R1, h2, e, fun σ2 l2 s2 R2 => ?_⟩
                refine q σ2 (l2.trans l1) (fun j hj => ?_) R2
                rw [s2 j fun z => hj (List.mem_cons_of_mem _ z), s1 j fun z => hj (by
                  have : j = i := by simpa [tgIx] using z
                  simp [this])]
              · cases e
          · show List.findIdx? _ ((false, _) :: _) = none
            rw [List.findIdx?_cons]
            have k3' : (assignEach es X.env).findIdx? (·.1) = none := k3
            simp [k3']
        | _ => cases e1
theorem g_tg {tg : Expr} {t : Tg} (hN : X.N.Nodup) (hc : X.calm = true) (hK : X.K = S.K) (K : StOk X C) (h : cTg C tg = some t) : PG X tg (gD S t) := by
  cases tg with
  | Name x pos =>
    have h : (C.slot x).map Tg.n = some t := h
    cases e : C.slot x with
    | none => rw [e] at h; cases h
    | some i => rw [e] at h; cases h; exact g_name hN K e
  | Tuple es k pos =>
    have h : (es.mapM C.slotE).map Tg.t = some t := h
    cases e : es.mapM C.slotE with
    | none => rw [e] at h; cases h
    | some is =>
      rw [e] at h; cases h
      obtain ⟨k1, k2, k3⟩ := g_names (S := S) hN K e
      refine PG.weak (pg_tup hc k1 k2 k3) fun v σ H Q q => ?_
      obtain ⟨env, g, He, H0e, H0, d, env', R, hd, e, q⟩ := q
      cases d with
      | tuple ds =>
        have e : setTgs env is ds = some env' := e
        obtain ⟨a, xs, rfl, h1, h2⟩ := hd.tup_inv
        have hlen : ∀ (is : List Nat) (ds : List D) (env : Env), setTgs env is ds = some env' → ds.length = is.length := by
          intro is
          induction is with
          | nil => intro ds env e; cases ds with
            | nil => rfl
            | cons _ _ => cases e
          | cons i is ih => intro ds env e; cases ds with
            | nil => cases e
            | cons d ds =>
              have e : (if i < env.length then setTgs (env.set i (.fz d)) is ds else none) = some env' := e
              split at e
              · simp [ih _ _ e]
              · cases e
        refine ⟨a, xs, rfl, ?_, by rw [h2.length]; exact hlen _ _ _ e, env, g, He, H0e, H0, ds, env', R, h2, e, fun σ' l s R' => q σ' l s R'⟩
        rw [hK]
        exact sqT_same R.sub h1
      | _ => cases e
  | _ => cases h
end
end PD
set_option Elab.async false
set_option linter.all false
set_option maxRecDepth 100000
set_option autoImplicit false
namespace PD
open PySem PySem.Spec L2

/-! ### what is walked -/
/-- a list that is borrowed by a walk stands -/
def Hold (o : Option (Addr × List V)) (H : Hp) : Prop := match o with
  | none => True
  | some p => H p.1 = some (.lst p.2)
structure WkD (S : Sig) (J : It) (o : Option (Addr × List V)) (H0 : Hp) (ds : List D) : Prop where
  goes : ∀ (i : Nat) (H0c H : Hp), Same H0 H0c → Same H0c H → Hold o H → i < ds.length → J.go i H
  stops : ∀ (H0c H : Hp), Same H0 H0c → Same H0c H → Hold o H → J.stop ds.length H
  yields : ∀ (i : Nat) (d : D) (H0c H : Hp) (x : V) (H' : Hp), Same H0 H0c → Same H0c H → Hold o H → ds[i]? = some d → J.yld i H x H' →
    (H' = H ∧ Dr S.K H0c x d) ∨ ∃ p u, H p = none ∧ (∀ ps, u ≠ .tbl ps) ∧ H' = upd H p u ∧ Dr S.K (upd H0c p u) x d
theorem WkD.mono {S : Sig} {J : It} {o : Option (Addr × List V)} {H0 H0' : Hp} {ds : List D} (w : WkD S J o H0 ds) (s : Same H0 H0') : WkD S J o H0' ds :=
  ⟨fun i c H a => w.goes i c H (s.trans a), fun c H a => w.stops c H (s.trans a), fun i d c H x H' a => w.yields i d c H x H' (s.trans a)⟩
def relI (S : Sig) : Hp → Hp → It → List D → Prop := fun H0 H J ds => ∃ o, WkD S J o H0 ds ∧ Hold o H
theorem seq_elem {S : Sig} {H0 : Hp} {xs : List V} {ds : List D} (h : DrAll S.K H0 xs ds) {i : Nat} {d : D} {x : V} (e : ds[i]? = some d) (ex : xs[i]? = some x) : Dr S.K H0 x d := by
  obtain ⟨d', h1, h2⟩ := h.get ex
  rw [e] at h1; cases h1
  exact h2
theorem wk_tup {S : Sig} {a : Addr} {xs : List V} {H0 : Hp} {ds : List D} (h : SqT S.K H0 a xs) (hd : DrAll S.K H0 xs ds) : WkD S (Itt S.K a) none H0 ds := by
  refine ⟨fun i c H s1 s2 _ hi => ?_, fun c H s1 s2 _ => ⟨xs, sqT_same s2 (sqT_same s1 h), Nat.le_of_eq hd.length⟩, fun i d c H x H' s1 s2 _ e y => ?_⟩
  · have hx : i < xs.length := by rw [hd.length]; exact hi
    exact ⟨xs, xs[i], sqT_same s2 (sqT_same s1 h), by simp [hx]⟩
  · exact .inl ⟨y.1, (seq_elem hd e (y.2 xs (sqT_same s2 (sqT_same s1 h)))).same s1⟩
theorem wk_lst {S : Sig} {a : Addr} {xs : List V} {H0 : Hp} {ds : List D} (hd : DrAll S.K H0 xs ds) : WkD S (Itl S.K a) (some (a, xs)) H0 ds := by
  refine ⟨fun i c H s1 s2 h hi => ?_, fun c H s1 s2 h => ⟨xs, SqL.of h, Nat.le_of_eq hd.length⟩, fun i d c H x H' s1 s2 h e y => ?_⟩
  · have hx : i < xs.length := by rw [hd.length]; exact hi
    exact ⟨xs, xs[i], SqL.of h, by simp [hx]⟩
  · exact .inl ⟨y.1, (seq_elem hd e (y.2 xs (SqL.of h))).same s1⟩
theorem wk_lst0 {S : Sig} {a : Addr} {xs : List V} {H0 : Hp} {ds : List D} (h : H0 a = some (.lst xs)) (hd : DrAll S.K H0 xs ds) : WkD S (Itl S.K a) none H0 ds := by
  have w := wk_lst (S := S) (a := a) hd
  exact ⟨fun i c H s1 s2 _ => w.goes i c H s1 s2 (s2 _ _ (s1 _ _ h)), fun c H s1 s2 _ => w.stops c H s1 s2 (s2 _ _ (s1 _ _ h)), fun i d c H x H' s1 s2 _ => w.yields i d c H x H' s1 s2 (s2 _ _ (s1 _ _ h))⟩
theorem int_all {K : PySem.W.Frag} {H : Hp} : ∀ (is : List Int), DrAll K H (is.map V.int) (is.map PyData.int)
  | [] => .nil
  | i :: is => .cons (.int i) (int_all is)
theorem wk_sq {S : Sig} {a : Addr} {xs : List V} {H0 : Hp} {ds : List D} (h : SqL S.K H0 a xs) (hd : DrAll S.K H0 xs ds) : WkD S (Itl S.K a) none H0 ds := by
  refine ⟨fun i c H s1 s2 _ hi => ?_, fun c H s1 s2 _ => ⟨xs, sqL_same s2 (sqL_same s1 h), Nat.le_of_eq hd.length⟩, fun i d c H x H' s1 s2 _ e y => ?_⟩
  · have hx : i < xs.length := by rw [hd.length]; exact hi
    exact ⟨xs, xs[i], sqL_same s2 (sqL_same s1 h), by simp [hx]⟩
  · exact .inl ⟨y.1, (seq_elem hd e (y.2 xs (sqL_same s2 (sqL_same s1 h)))).same s1⟩
theorem enum_get : ∀ (ds : List D) (k i : Nat), (enumD k ds)[i]? = (ds[i]?).map fun d => .tuple [.int ((k + i : Nat) : Int), d]
  | [], k, i => by simp [enumD]
  | d :: ds, k, 0 => by simp [enumD]
  | d :: ds, k, i + 1 => by
    show (enumD (k + 1) ds)[i]? = _
    rw [enum_get ds (k + 1) i]
    simp only [List.getElem?_cons_succ]
    congr 1
    funext x
    congr 3
    omega
theorem enum_len : ∀ (ds : List D) (k : Nat), (enumD k ds).length = ds.length
  | [], _ => rfl
  | _ :: ds, k => by simp [enumD, enum_len ds]
theorem pair_dr {S : Sig} {H0 : Hp} {T : Addr} {i : Int} {x : V} {d : D} (h0 : H0 T = none) (h : Dr S.K H0 x d) : Dr S.K (upd H0 T (.tup [.int i, x])) (.ref T) (.tuple [.int i, d]) :=
  .tup (SqT.of upd_same) (.cons (.int _) (.cons (h.same (same_new h0)) .nil))
theorem wk_enumT {S : Sig} {a : Addr} {xs : List V} {H0 : Hp} {ds : List D} (h : SqT S.K H0 a xs) (hd : DrAll S.K H0 xs ds) : WkD S (IteT S.K a) none H0 (enumD 0 ds) := by
  refine ⟨fun i c H s1 s2 _ hi => ?_, fun c H s1 s2 _ => ⟨xs, sqT_same s2 (sqT_same s1 h), by rw [enum_len]; exact Nat.le_of_eq hd.length⟩, fun i d c H x H' s1 s2 _ e y => ?_⟩
  · rw [enum_len] at hi
    have hx : i < xs.length := by rw [hd.length]; exact hi
    exact ⟨xs, xs[i], sqT_same s2 (sqT_same s1 h), by simp [hx]⟩
  · obtain ⟨T, z, rfl, hT, rfl, hz⟩ := y
    rw [enum_get] at e
    cases e1 : ds[i]? with
    | none => rw [e1] at e; cases e
    | some d1 =>
      rw [e1] at e
      have e2 : PyData.tuple [.int ((0 + i : Nat) : Int), d1] = d := Option.some.inj e
      subst e2
      have hz' := seq_elem hd e1 (hz xs (sqT_same s2 (sqT_same s1 h)))
      refine .inr ⟨T, _, hT, fun ps q => (by cases q), rfl, ?_⟩
      rw [Nat.zero_add]
      exact pair_dr (s2.free hT) (hz'.same s1)
theorem wk_enumL {S : Sig} {a : Addr} {xs : List V} {H0 : Hp} {ds : List D} (hd : DrAll S.K H0 xs ds) : WkD S (Ite S.K a) (some (a, xs)) H0 (enumD 0 ds) := by
  refine ⟨fun i c H s1 s2 h hi => ?_, fun c H s1 s2 h => ⟨xs, SqL.of h, by rw [enum_len]; exact Nat.le_of_eq hd.length⟩, fun i d c H x H' s1 s2 h e y => ?_⟩
  · rw [enum_len] at hi
    have hx : i < xs.length := by rw [hd.length]; exact hi
    exact ⟨xs, xs[i], SqL.of h, by simp [hx]⟩
  · obtain ⟨T, z, rfl, hT, rfl, hz⟩ := y
    rw [enum_get] at e
    cases e1 : ds[i]? with
    | none => rw [e1] at e; cases e
    | some d1 =>
      rw [e1] at e
      have e2 : PyData.tuple [.int ((0 + i : Nat) : Int), d1] = d := Option.some.inj e
      subst e2
      have hz' := seq_elem hd e1 (hz xs (SqL.of h))
      refine .inr ⟨T, _, hT, fun ps q => (by cases q), rfl, ?_⟩
      rw [Nat.zero_add]
      exact pair_dr (s2.free hT) (hz'.same s1)
theorem wk_enumL0 {S : Sig} {a : Addr} {xs : List V} {H0 : Hp} {ds : List D} (h : H0 a = some (.lst xs)) (hd : DrAll S.K H0 xs ds) : WkD S (Ite S.K a) none H0 (enumD 0 ds) := by
  have w := wk_enumL (S := S) (a := a) hd
  exact ⟨fun i c H s1 s2 _ => w.goes i c H s1 s2 (s2 _ _ (s1 _ _ h)), fun c H s1 s2 _ => w.stops c H s1 s2 (s2 _ _ (s1 _ _ h)), fun i d c H x H' s1 s2 _ => w.yields i d c H x H' s1 s2 (s2 _ _ (s1 _ _ h))⟩
theorem wk_rng {S : Sig} {lo : Int} {n : Nat} {H0 : Hp} : WkD S (Itr lo n) none H0 ((List.range n).map fun (i : Nat) => .int (lo + i)) := by
  refine ⟨fun i c H s1 s2 _ hi => (by show i < n; simpa using hi), fun c H s1 s2 _ => (by show n ≤ _; simp), fun i d c H x H' s1 s2 _ e y => ?_⟩
  obtain ⟨rfl, rfl⟩ := y
  rw [List.getElem?_map] at e
  by_cases hi : i < n
  · rw [List.getElem?_range hi] at e
    cases e
    exact .inl ⟨rfl, .int _⟩
  · rw [List.getElem?_eq_none (by simpa using hi)] at e; cases e
section
variable {X : Cx} {S : Sig} {W : WX} {C : Cfg} {F : Fns}
theorem PI.weak {tg it : Expr} {t t' : TI} (h : PI X tg it t) (w : ∀ σ H R, t' σ H R → t σ H R) : PI X tg it t' := ⟨fun pins s σ H R I q => h.run pins s σ H R I (w σ H R q)⟩
abbrev RI (S : Sig) (W : WX) (f : Env → M (List D)) : TI := RX S W (relI S) f
theorem i_e {tg l : Expr} {c : E} (G : Gd X S W C F) (h : SE X S W F l c) : PI X tg l (RI S W (evI F (.e c))) := by
  refine PI.weak (pi_seq h.pe) fun σ H R q => ?_
  simp only [evI] at q
  obtain ⟨env, g, He, H0e, H0, R0, q⟩ := q
  refine ⟨env, g, He, H0e, H0, R0, Pst.bd q fun x g1 v H1 H1' a1 r1 h1 => ?_⟩
  rw [G.hK]
  have R1 := R0.step a1
  cases x with
  | gn => exact h1.elim
  | sc ns =>
    obtain ⟨a, rfl, e1⟩ := r1
    exact ⟨a, rfl, .inl ⟨_, sqL_same a1.sub e1, h1 _ H1 H1' (Aft.refl R1) ⟨none, wk_sq e1 (int_all ns), trivial⟩⟩⟩
  | bo ds =>
    obtain ⟨a, xs, rfl, e1, e2⟩ := r1
    exact ⟨a, rfl, .inl ⟨xs, SqL.of e1, h1 _ H1 H1' (Aft.refl R1) ⟨some (a, xs), wk_lst e2, e1⟩⟩⟩
  | d d =>
    cases d with
    | list ds =>
      obtain ⟨a, xs, rfl, e1, e2⟩ := Dr.lst_inv r1
      exact ⟨a, rfl, .inl ⟨xs, SqL.of (a1.sub _ _ e1), h1 _ H1 H1' (Aft.refl R1) ⟨none, wk_lst0 e1 e2, trivial⟩⟩⟩
    | tuple ds =>
      obtain ⟨a, xs, rfl, e1, e2⟩ := Dr.tup_inv r1
      exact ⟨a, rfl, .inr ⟨xs, sqT_same a1.sub e1, h1 _ H1 H1' (Aft.refl R1) ⟨none, wk_tup e1 e2, trivial⟩⟩⟩
    | _ => exact h1.elim
theorem i_enum {a : Expr} {elts : List Expr} {kk : Nat} {tpos p pos : Pos} {c : E} (G : Gd X S W C F) (hg : glB C.sc "enumerate" = true) (h : SE X S W F a c) : PI X (.Tuple elts kk tpos) (.Call (.Name "enumerate" p) [a] [] pos) (RI S W (evI F (.enum c))) := by
  have hst : starEach [a] X.env = [(false, eval a X.env)] := h.ns _ _
  refine PI.weak (pi_enumA (gl_of G.hsc hg) (G.blt _ (by simp [bltNames])) (pa_cons h.pe pa_nil (h.ns _ _)) hst) fun σ H R q => ?_
  simp only [evI] at q
  obtain ⟨env, g, He, H0e, H0, R0, q⟩ := q
  refine ⟨env, g, He, H0e, H0, R0, Pst.bd q fun x g1 v H1 H1' a1 r1 h1 => ?_⟩
  rw [G.hK]
  have R1 := R0.step a1
  cases x with
  | gn => exact h1.elim
  | sc _ => exact h1.elim
  | bo ds =>
    obtain ⟨b, xs, rfl, e1, e2⟩ := r1
    exact ⟨b, rfl, .inl ⟨xs, SqL.of e1, h1 _ H1 H1' (Aft.refl R1) ⟨some (b, xs), wk_enumL e2, e1⟩⟩⟩
  | d d =>
    cases d with
    | list ds =>
      obtain ⟨b, xs, rfl, e1, e2⟩ := Dr.lst_inv r1
      exact ⟨b, rfl, .inl ⟨xs, SqL.of (a1.sub _ _ e1), h1 _ H1 H1' (Aft.refl R1) ⟨none, wk_enumL0 e1 e2, trivial⟩⟩⟩
    | tuple ds =>
      obtain ⟨b, xs, rfl, e1, e2⟩ := Dr.tup_inv r1
      exact ⟨b, rfl, .inr ⟨xs, sqT_same a1.sub e1, h1 _ H1 H1' (Aft.refl R1) ⟨none, wk_enumT e1 e2, trivial⟩⟩⟩
    | _ => exact h1.elim
theorem i_rng1 {tg a : Expr} {p pos : Pos} {c : E} (G : Gd X S W C F) (hg : glB C.sc "range" = true) (h : SE X S W F a c) : PI X tg (.Call (.Name "range" p) [a] [] pos) (RI S W (evI F (.rng1 c))) := by
  have hst : starEach [a] X.env = [(false, eval a X.env)] := h.ns _ _
  refine PI.weak (pi_range1 (gl_of G.hsc hg) (G.blt _ (by simp [bltNames])) (pa_cons h.pe pa_nil (h.ns _ _)) hst) fun σ H R q => ?_
  simp only [evI] at q
  obtain ⟨env, g, He, H0e, H0, R0, q⟩ := q
  refine ⟨env, g, He, H0e, H0, R0, Pst.bd q fun x g1 v H1 H1' a1 r1 h1 => ?_⟩
  have R1 := R0.step a1
  obtain ⟨j, rfl, rfl, h3⟩ := toInt_bd r1 h1
  clear h1
  unfold rngD at h3
  split at h3
  · rename_i hb
    refine ⟨j, rfl, hb.2.2.1, hb.2.2.2, ?_⟩
    have e : (j - 0).toNat = j.toNat := by omega
    rw [e] at h3
    exact h3 _ H1 H1' (Aft.refl R1) ⟨none, wk_rng, trivial⟩
  · exact h3.elim
theorem i_rng2 {tg a b : Expr} {p pos : Pos} {c d : E} (G : Gd X S W C F) (hg : glB C.sc "range" = true) (h : SE X S W F a c) (h' : SE X S W F b d) : PI X tg (.Call (.Name "range" p) [a, b] [] pos) (RI S W (evI F (.rng2 c d))) := by
  have hst2 : starEach [b] X.env = [(false, eval b X.env)] := h'.ns _ _
  have hst : starEach [a, b] X.env = [(false, eval a X.env), (false, eval b X.env)] := by rw [h.ns, hst2]
  refine PI.weak (pi_range2 (gl_of G.hsc hg) (G.blt _ (by simp [bltNames])) (pa_cons h.pe (pa_cons h'.pe pa_nil (h'.ns _ _)) (h.ns _ _)) hst hst2) fun σ H R q => ?_
  simp only [evI] at q
  obtain ⟨env, g, He, H0e, H0, R0, q⟩ := q
  refine ⟨env, g, He, H0e, H0, R0, Pst.bd q fun x g1 v H1 H1' a1 r1 h1 => ?_⟩
  have R1 := R0.step a1
  refine ⟨env, g1, He, H0e, H1, R1, Pst.bd h1 fun y g2 w H2 H2' a2 r2 h2 => ?_⟩
  have R2 := R1.step a2
  obtain ⟨i, rfl, rfl, h3⟩ := toInt_bd (r1.step R1.gen a2) h2
  clear h2
  obtain ⟨j, rfl, rfl, h4⟩ := toInt_bd r2 h3
  clear h3
  unfold rngD at h4
  split at h4
  · rename_i hb
    exact ⟨i, j, rfl, hb, h4 _ H2 H2' (Aft.refl R2) ⟨none, wk_rng, trivial⟩⟩
  · exact h4.elim
end
end PD
set_option Elab.async false
set_option linter.all false
set_option maxRecDepth 100000
set_option autoImplicit false
namespace PD
open PySem PySem.Spec L2

/-! ### comprehensions -/
abbrev W0 : WX := fun _ _ _ _ => False
theorem calm_bd {α β : Type} (m : M α) (k : α → M β) : M.calm (m.bd k) = (M.calm m).bd fun a => M.calm (k a) := by
  funext g
  show (match (match m g with | .ok a g' => k a g' | .er c d g' => .er c d g' | .st => .st : Rs β) with | .ok a g' => .ok a g' | _ => .st : Rs β) = (match (match m g with | .ok a g' => .ok a g' | _ => .st : Rs α) with | .ok a g' => M.calm (k a) g' | .er c d g' => .er c d g' | .st => .st : Rs β)
  cases m g <;> rfl
theorem calm_pu {α : Type} (a : α) : M.calm (M.pu a) = M.pu a := rfl
theorem calm_ofO {α : Type} (o : Option α) : M.calm (M.ofO o) = M.ofO o := by cases o <;> rfl
theorem Pst.mono {α β : Type} {S : Sig} {W : WX} {σ : L2.St} {H0 H H1 H1' : Hp} {rel : Hp → Hp → β → α → Prop} {Q : β → Hp → Prop} {r : Rs α} {g : Gen} (a : Aft S g H0 H H1 H1') (h : Pst S W σ H0 H rel Q r) : Pst S W σ H1 H1' rel Q r := by
  cases r with
  | ok x g' => exact fun v H2 H3 a2 q => h v H2 H3 (a.trans a2) q
  | er c d g' => exact fun dx v H2 H3 a2 q1 q2 => h dx v H2 H3 (a.trans a2) q1 q2
  | st => exact h
/-- like Pst.bd, of a step that no refusal leaves: any wish about refusals, any slots; what is wanted is told from a base on -/
theorem Pst.bdC {α β γ δ : Type} {S : Sig} {W W' : WX} {σ σ' : L2.St} {B B' H0 H : Hp} {rel : Hp → Hp → β → α → Prop} {rel' : Hp → Hp → δ → γ → Prop} {Q : δ → Hp → Prop} {Kt : β → Hp → Prop} {m : M α} {k : α → M γ} {g : Gen}
    (h : Pst S W σ B B' rel' Q (((M.calm m).bd k) g))
    (hk : ∀ x g' v H0' H', Aft S g' H0 H H0' H' → rel H0' H' v x → Pst S W σ B B' rel' Q (k x g') → Kt v H') : Pst S W' σ' H0 H rel Kt (m g) := by
  unfold M.calm M.bd at h
  dsimp only at h
  cases e : m g with
  | st => rw [e] at h; exact h.elim
  | er c d g' => rw [e] at h; exact h.elim
  | ok x g' =>
    rw [e] at h
    exact fun v H0' H' a r => hk x g' v H0' H' a r h
theorem mapB_calm (f : D → M (Option D)) : ∀ (ds : List D) (g : Gen), (∀ d g, (∃ x g', f d g = .ok x g') ∨ f d g = .st) → (∃ ys g', mapB f ds g = .ok ys g') ∨ mapB f ds g = .st
  | [], g, _ => .inl ⟨[], g, rfl⟩
  | d :: ds, g, h => by
    show (∃ ys g', ((f d).bd fun y => (mapB f ds).bd fun ys => M.pu _) g = .ok ys g') ∨ ((f d).bd fun y => (mapB f ds).bd fun ys => M.pu _) g = .st
    unfold M.bd
    rcases h d g with ⟨x, g', e⟩ | e
    · rw [e]
      dsimp only
      rcases mapB_calm f ds g' h with ⟨ys, g2, e2⟩ | e2
      · rw [e2]; exact .inl ⟨_, _, rfl⟩
      · rw [e2]; exact .inr rfl
    · rw [e]; exact .inr rfl
theorem calm_cases {α : Type} (m : M α) (g : Gen) : (∃ x g', M.calm m g = .ok x g') ∨ M.calm m g = .st := by
  unfold M.calm
  cases m g with
  | ok x g' => exact .inl ⟨x, g', rfl⟩
  | er _ _ _ => exact .inr rfl
  | st => exact .inr rfl
/-- the heap grows by what is not yet known -/
theorem Aft.grow {S : Sig} {g : Gen} {H0 H : Hp} {p : Addr} {o : HO} (sub : Same H0 H) (gen : GenAt S.gm g H0 H) (tabs : LamX.Tabs S.T H) (hp : H p = none) : Aft S g H0 H H0 (upd H p o) := by
  have sm : Same H (upd H p o) := same_new hp
  refine ⟨⟨Same.refl _, fun a u e _ _ => sm _ _ e, fun a e => ?_, fun a e => .inl e, fun _ _ e => e⟩, sub.trans sm, fun q hq => let ⟨gl, e1, e2⟩ := gen q hq; ⟨gl, sm _ _ e1, e2⟩, tabs.ext sm⟩
  by_cases z : a = p
  · subst z; exact .inl hp
  · unfold Fre at e ⊢
    rw [upd_ne z] at e; exact e
/-- a list of ours that is not yet known is written -/
theorem Aft.wrt {S : Sig} {g : Gen} {H0 H H1 H1' : Hp} {p : Addr} {xs ys : List V} (a : Aft S g H0 H H1 H1') (hp : Fre H p) (h1 : H1 p = none) (he : H1' p = some (.lst xs)) : Aft S g H0 H H1 (upd H1' p (.lst ys)) := by
  have ne1 : ∀ {b u}, H1 b = some u → b ≠ p := fun {b u} e => ne_of_none e h1
  refine ⟨⟨a.stp.s0, fun b u e n t => ?_, fun b e => ?_, a.stp.fresh, a.stp.nt⟩, fun b u e => ?_, fun r hr => ?_, fun q hq => ?_⟩
  · rw [upd_ne (hp.ne e t)]; exact a.stp.fr b u e n t
  · by_cases z : b = p
    · rw [z]; exact hp
    · refine a.stp.th b ?_
      unfold Fre at e ⊢
      rw [upd_ne z] at e; exact e
  · rw [upd_ne (ne1 e)]; exact a.sub b u e
  · obtain ⟨gl, e1, e2⟩ := a.gen r hr
    refine ⟨gl, ?_, e2⟩
    rw [upd_ne (ne_of e1 he (by intro z; cases z))]; exact e1
  · obtain ⟨ps, k1, k2, k3⟩ := a.tabs q hq
    have n1 : q.1 ≠ p := ne_of k1 he (by intro z; cases z)
    refine ⟨ps, by rw [upd_ne n1]; exact k1, k2, fun pos cv hc => ?_⟩
    obtain ⟨c, e3, e4⟩ := k3 pos cv hc
    refine ⟨c, e3, ?_⟩
    rw [upd_ne (ne_of e4 he (by intro z; unfold LamX.CodeO at z; cases z))]
    exact e4
/-- a list of ours is known from now on -/
theorem Aft.know {S : Sig} {g : Gen} {H0 H H1 H1' : Hp} {p : Addr} {xs : List V} (a : Aft S g H0 H H1 H1') (hp : Fre H p) (h1 : H1 p = none) (he : H1' p = some (.lst xs)) : Aft S g H0 H (upd H1 p (.lst xs)) H1' := by
  refine ⟨⟨a.stp.s0.trans (same_new h1), a.stp.fr, a.stp.th, fun b e => ?_, fun b ps e => ?_⟩, fun b u e => ?_, fun q hq => let ⟨gl, e1, e2⟩ := a.gen q hq; ⟨gl, e1, same_new h1 _ _ e2⟩, a.tabs⟩
  · by_cases z : b = p
    · subst z; exact .inr hp
    · rw [upd_ne z] at e; exact a.stp.fresh b e
  · by_cases z : b = p
    · subst z; rw [upd_same] at e; cases e
    · rw [upd_ne z] at e; exact a.stp.nt b ps e
  · by_cases z : b = p
    · subst z; rw [upd_same] at e; rw [he]; exact e
    · rw [upd_ne z] at e; exact a.sub b u e
section
variable {X : Cx} {S : Sig} {W : WX} {C : Cfg} {F : Fns}
theorem lc_read {J : It} {o : Option (Addr × List V)} {env : Env} {g1 : Gen} {σ : L2.St} {He H0e H1 H1' : Hp} {Q : VK} {ds : List D} {w : List Nat} {tg : Tg} {t : Option E} {e : E}
    (R1 : Rl S env g1 σ He H0e H1 H1') (wk : WkD S J o H1 ds) (hold : Hold o H1') (hw : ∀ i ∈ tgIx tg, i ∈ w)
    (h : Pst S W σ H1 H1' (VR S) Q (((mapB (fun d => M.calm ((M.ofO (setTg (wipeE env w) tg d)).bd fun env' => (evOT F t env').bd fun k =>
      if k then (ev F e env').bd fun y => (solid y).bd fun y => .pu (some y) else .pu none)) ds).bd fun ys => if ys.length ≤ sizeLine then .pu (.d (.list ys)) else .stuck) g1)) :
    ∀ D, H1' D = none → ∃ Wv : Nat → Nat → Hp → Prop, (∃ m, Wv 0 m (upd H1' D (.lst []))) ∧ ∀ i m H, Wv i m H → (J.stop i H ∧ Q (.ref D) H) ∨ (J.go i H ∧ ∃ Nx : Hp → Prop, (∀ H', Nx H' → ∃ m', m' < m ∧ Wv (i + 1) m' H') ∧
      ∀ x H', J.yld i H x H' → gD S tg x (L2.wipe σ w) H' fun σ2 H2 => L2.wipe σ2 w = L2.wipe σ w ∧ RX S W0 relB (evOT F t) σ2 H2 fun b H3 =>
        if b = true then RE S W0 (ev F e) σ2 H3 fun y H4 => ∃ acc, H4 D = some (.lst acc) ∧ acc.length < sizeLine ∧ Nx (upd H4 D (.lst (acc ++ [y]))) else Nx H3) := by
  intro D hD
  let f : PD.D → M (Option PD.D) := fun d => M.calm ((M.ofO (setTg (wipeE env w) tg d)).bd fun env' => (evOT F t env').bd fun k =>
      if k then (ev F e env').bd fun y => (solid y).bd fun y => .pu (some y) else .pu none)
  let fin : List PD.D → M Vl := fun ys => if ys.length ≤ sizeLine then .pu (.d (.list ys)) else .stuck
  let P : Nat → Hp → Prop := fun i H => ∃ gi H0i acc accD, Aft S gi H1 H1' H0i H ∧ H D = some (.lst acc) ∧ H0i D = none ∧ DrAll S.K H0i acc accD ∧ Hold o H ∧
    Pst S W σ H1 H1' (VR S) Q (((mapB f (ds.drop i)).bd fun ys => fin (accD ++ ys)) gi)
  refine ⟨fun i m H => m = ds.length - i ∧ i ≤ ds.length ∧ P i H, ⟨ds.length, by simp, Nat.zero_le _, g1, H1, [], [], ?_⟩, ?_⟩
  · have a0 : Aft S g1 H1 H1' H1 (upd H1' D (.lst [])) := Aft.grow R1.sub R1.gen R1.tabs hD
    refine ⟨a0, upd_same, R1.sub.free hD, .nil, ?_, ?_⟩
    · cases o with
      | none => trivial
      | some p =>
        show upd H1' D (.lst []) p.1 = _
        rw [upd_ne (ne_of_none hold hD)]; exact hold
    · rw [List.drop_zero]
      exact h
  · rintro i m H ⟨rfl, hi, gi, H0i, acc, accD, a, hDi, h0D, hacc, ho, hp⟩
    by_cases hlt : i < ds.length
    · refine .inr ⟨wk.goes i H0i H a.stp.s0 a.sub ho hlt, P (i + 1), fun H' p' => ⟨ds.length - (i + 1), by omega, rfl, hlt, p'⟩, fun x H' y => ?_⟩
      -- the item
      have eds : ds.drop i = ds[i] :: ds.drop (i + 1) := List.drop_eq_getElem_cons hlt
      have hget : ds[i]? = some ds[i] := by simp [hlt]
      have Ri : Rl S (wipeE env w) gi (L2.wipe σ w) He H0e H0i H := (R1.step a).wipe w
      obtain ⟨H0j, aj, hxd⟩ : ∃ H0j, Aft S gi H0i H H0j H' ∧ Dr S.K H0j x ds[i] := by
        rcases wk.yields i ds[i] H0i H x H' a.stp.s0 a.sub ho hget y with ⟨rfl, hd⟩ | ⟨p, u, hpn, hut, rfl, hd⟩
        · exact ⟨H0i, Aft.same a.sub a.gen a.tabs, hd⟩
        · exact ⟨_, Aft.new a.sub a.gen a.tabs hpn hut, hd⟩
      have a2 := a.trans aj
      have Rj : Rl S (wipeE env w) gi (L2.wipe σ w) He H0e H0j H' := Ri.step aj
      -- D and the hold stay
      have stay : ∀ {g' : Gen} {H0k Hk : Hp}, Aft S g' H0i H H0k Hk → Hk D = some (.lst acc) ∧ H0k D = none ∧ DrAll S.K H0k acc accD ∧ Hold o Hk := by
        intro g' H0k Hk ak
        have e1 : Hk D = some (.lst acc) := ak.stp.fr _ _ hDi (a.gen.nlst hDi) (fun ps z => by cases z)
        refine ⟨e1, ?_, hacc.same ak.stp.s0, ?_⟩
        · cases q : H0k D with
          | none => rfl
          | some u =>
            rcases ak.stp.fresh D (by rw [q]; simp) with z | z
            · exact absurd h0D z
            · exact absurd rfl (z.ne hDi (fun ps q => by cases q))
        · cases o with
          | none => trivial
          | some p => exact ak.stp.fr _ _ ho (a.gen.nlst ho) (fun ps z => by cases z)
      have hp2 : Pst S W σ H1 H1' (VR S) Q (((f ds[i]).bd fun y => (mapB f (ds.drop (i + 1))).bd fun ys => fin (accD ++ (match y with | some y => y :: ys | none => ys))) gi) := by
        have q := hp
        rw [eds] at q
        have e3 : ((mapB f (ds[i] :: ds.drop (i + 1))).bd fun ys => fin (accD ++ ys)) = (f ds[i]).bd fun y => (mapB f (ds.drop (i + 1))).bd fun ys => fin (accD ++ (match y with | some y => y :: ys | none => ys)) := by
          show (((f ds[i]).bd fun y => (mapB f (ds.drop (i + 1))).bd fun ys => .pu (match y with | some y => y :: ys | none => ys)).bd fun ys => fin (accD ++ ys)) = _
          rw [M.bd_assoc]
          congr 1; funext y
          rw [M.bd_assoc]
          rfl
        rw [e3] at q
        exact q
      cases es : setTg (wipeE env w) tg ds[i] with
      | none =>
        have e4 : f ds[i] = M.stuck := by
          show M.calm ((M.ofO (setTg (wipeE env w) tg ds[i])).bd _) = _
          rw [es]; rfl
        rw [e4] at hp2
        exact hp2.elim
      | some env' =>
        have e4 : f ds[i] = (M.calm (evOT F t env')).bd fun k => M.calm (if k then (ev F e env').bd fun y => (solid y).bd fun y => .pu (some y) else .pu none) := by
          show M.calm ((M.ofO (setTg (wipeE env w) tg ds[i])).bd _) = _
          rw [es, show M.ofO (some env') = M.pu env' from rfl, M.pu_bd, calm_bd]
        rw [e4, M.bd_assoc] at hp2
        refine ⟨wipeE env w, gi, He, H0e, H0j, ds[i], env', Rj, hxd, es, fun σ2 hl2 hs2 R2 => ⟨?_, ?_⟩⟩
        · rw [wipe_eq hl2 hs2 hw, wipe_wipe]
        refine ⟨env', gi, He, H0e, H0j, R2, Pst.bdC hp2 fun b g2 b' H3 H3' a3 r3 h3 => ?_⟩
        have r3 : b' = b := r3
        subst r3
        have R3 := R2.step a3
        cases b' with
        | false =>
          refine iteF ?_
          rw [show M.calm (if false = true then (ev F e env').bd fun y => (solid y).bd fun y => M.pu (some y) else M.pu none) = M.pu none from rfl, M.pu_bd] at h3
          obtain ⟨k1, k2, k3, k4⟩ := stay (aj.trans a3)
          exact ⟨g2, H3, acc, accD, a2.trans a3, k1, k2, k3, k4, h3⟩
        | true =>
          refine iteT ⟨env', g2, He, H0e, H3, R3, ?_⟩
          rw [show (if true = true then (ev F e env').bd fun y => (solid y).bd fun y => M.pu (some y) else M.pu none) = (ev F e env').bd fun y => (solid y).bd fun y => M.pu (some y) from rfl, calm_bd, M.bd_assoc] at h3
          refine Pst.bdC h3 fun y g4 v H4 H4' a4 r4 h4 => ?_
          cases y with
          | gn => exact h4.elim
          | sc _ => exact h4.elim
          | bo zs => exact h4.elim
          | d z =>
            have h4 : Pst S W σ H1 H1' (VR S) Q (((mapB f (ds.drop (i + 1))).bd fun ys => fin (accD ++ (z :: ys))) g4) := h4
            obtain ⟨k1, k2, k3, k4⟩ := stay ((aj.trans a3).trans a4)
            -- the length
            have hl : acc.length < sizeLine := by
              rcases mapB_calm f (ds.drop (i + 1)) g4 (fun d g => calm_cases _ g) with ⟨ys, g5, e5⟩ | e5
              · have q : Pst S W σ H1 H1' (VR S) Q (fin (accD ++ z :: ys) g5) := by
                  unfold M.bd at h4
                  dsimp only at h4
                  rw [e5] at h4
                  exact h4
                have ql : (accD ++ z :: ys).length ≤ sizeLine := by
                  by_cases hc : (accD ++ z :: ys).length ≤ sizeLine
                  · exact hc
                  · have : fin (accD ++ z :: ys) = M.stuck := if_neg hc
                    rw [this] at q; exact q.elim
                rw [List.length_append, List.length_cons, ← hacc.length] at ql
                omega
              · unfold M.bd at h4
                dsimp only at h4
                rw [e5] at h4
                exact h4.elim
            have a5 := ((a2.trans a3).trans a4)
            have aw := a5.wrt (ys := acc ++ [v]) (.inl hD) k2 k1
            refine ⟨acc, k1, hl, g4, H4, acc ++ [v], accD ++ [z], aw, upd_same, k2, k3.append (.cons r4 .nil), ?_, ?_⟩
            · cases o with
              | none => trivial
              | some p =>
                show upd H4' D _ p.1 = _
                have n1 : p.1 ≠ D := ne_of_none hold hD
                rw [upd_ne n1]; exact k4
            · have e6 : (fun ys => fin (accD ++ [z] ++ ys)) = fun ys => fin (accD ++ (z :: ys)) := by
                funext ys; rw [List.append_assoc]; rfl
              rw [e6]
              exact h4
    · have e7 : i = ds.length := by omega
      subst e7
      refine .inl ⟨wk.stops H0i H a.stp.s0 a.sub ho, ?_⟩
      rw [List.drop_length] at hp
      have hp : Pst S W σ H1 H1' (VR S) Q (fin (accD ++ []) gi) := hp
      rw [List.append_nil] at hp
      by_cases hc : accD.length ≤ sizeLine
      · have e8 : fin accD = M.pu (.d (.list accD)) := if_pos hc
        rw [e8] at hp
        exact hp (.ref D) _ H (Aft.know a (.inl hD) h0D hDi) (Dr.lst upd_same (hacc.same (same_new h0D)))
      · have e8 : fin accD = M.stuck := if_neg hc
        rw [e8] at hp; exact hp.elim
end
end PD
set_option Elab.async false
set_option linter.all false
set_option maxRecDepth 100000
set_option autoImplicit false
namespace PD
open PySem PySem.Spec L2

theorem lookup_relabel {env : PySem.Env} {y : NameKind} (hy : (y == NameKind.free) = false) : ∀ {names : List (Str × NameKind)} {x : Str}, names.lookup x = some y →
    (names.map fun (n, k) => if (k == NameKind.free && env.scope.kind == .function && env.kindOf n == some .cell) then (n, NameKind.cell) else (n, k)).lookup x = some y
  | [], _, h => by simp at h
  | (n, k) :: r, x, h => by
    have ih := @lookup_relabel env y hy r x
    show List.lookup x ((if (k == NameKind.free && env.scope.kind == .function && env.kindOf n == some .cell) = true then (n, NameKind.cell) else (n, k)) :: _) = _
    cases hx : x == n with
    | true =>
      simp only [List.lookup_cons, hx] at h
      cases h
      simp [List.lookup_cons, hx, hy]
    | false =>
      simp only [List.lookup_cons, hx] at h
      by_cases hc : (k == NameKind.free && env.scope.kind == .function && env.kindOf n == some .cell) = true
      · rw [if_pos hc]; simp only [List.lookup_cons, hx]; exact ih h
      · rw [if_neg hc]; simp only [List.lookup_cons, hx]; exact ih h
section
variable {X : Cx} {S : Sig} {W : WX} {C : Cfg} {F : Fns}
theorem relS_eq {env : PySem.Env} {scope : Scope} : relabel scope env = relS env.scope scope := rfl
theorem Gd.blk (G : Gd X S W C F) {scope : Scope} (s : Shared) (H : Hp) (Ca : Addr) (cl : List (Str × Addr)) (fp : List Addr) : Gd (X.blk s H scope (compEnvC scope cl Ca X.env) fp) S W0 (C.inn scope) F where
  hN := G.hN
  hsc := by
    show relabel scope X.env = relS C.sc scope
    rw [relS_eq, G.hsc]
  hK := G.hK
  nd := G.nd
  calm := G.calm
  room := G.room
  guards := G.guards
  own := PassesOwn.never
  tk := takes0
  blt := G.blt
  sys := G.sys
  cst := G.cst
  fns := G.fns
  said := fun z => by cases z
theorem StOk.blk (G : Gd X S W C F) {scope : Scope} {own : List (Str × Nat)} (hb : blkC C.N C.sc scope own = true) (s : Shared) (H : Hp) (Ca : Addr) (cl : List (Str × Addr)) (fp : List Addr) : StOk (X.blk s H scope (compEnvC scope cl Ca X.env) fp) (C.tgt scope) := by
  intro x i h
  unfold Cfg.slot at h
  split at h
  · rename_i hc
    rw [Bool.and_eq_true] at hc
    refine ⟨by show X.N[i]? = _; rw [G.hN]; exact ixOf_get h, ?_, ?_⟩
    · show Loc (relabel scope X.env) x
      rcases loc_of hc.1 with e | e
      · exact .inl (lookup_relabel rfl e)
      · exact .inr (lookup_relabel rfl e)
    · rcases loc_of hc.1 with e | e
      · exact .inr (lookup_relabel rfl e)
      · refine .inl ?_
        show (scope.names.lookup x == some .cell) = true
        have e : scope.names.lookup x = some .cell := e
        rw [e]; rfl
  · cases h
theorem pt_stuck {e : Expr} {f : Env → M Bool} (h : ∀ env g, f env g = .st) : PT X e (RT S W f) := ⟨fun pins s σ H Q I q => by
  obtain ⟨env, g, He, H0e, H0, R, q⟩ := q
  rw [h env g] at q
  exact q.elim⟩
/-- a comprehension, by its parts -/
theorem s_lc {elt tg iter : Expr} {ifs : List Expr} {scope : Scope} {pos : Pos} {t : Tg} {it : I} {k : Option E} {e : E} (G : Gd X S W C F)
    (hb : blkC C.N C.sc scope (ownOf C.N scope) = true) (hw : (tgIx t).all (fun i => decide (i ∈ (ownOf C.N scope).map Prod.snd)) = true)
    (hs : ∀ x, foldedSetIterable iter X.env x = pure x)
    (hi : PI X tg iter (RI S W (evI F it))) (ht : cTg (C.tgt scope) tg = some t)
    (hk : ∀ X', Gd X' S W0 (C.inn scope) F → PTs X' ifs (RT S W0 (evOT F k)))
    (he : ∀ X', Gd X' S W0 (C.inn scope) F → PE X' elt (RE S W0 (ev F e))) :
    SE X S W F (.ListComp elt [⟨tg, iter, ifs, 0⟩] scope pos) (.lc t it k e ((ownOf C.N scope).map Prod.snd)) := by
  have nd : X.N.Nodup := by rw [G.hN]; exact G.nd
  refine ⟨PE.weak (pe_lc G.calm nd hi (own := ownOf C.N scope) (by rw [G.hN, G.hsc]; exact blkOk_by hb)
    (fun s H Ca cl fp => g_tg (S := S) nd G.calm G.hK (StOk.blk G hb s H Ca cl fp) ht)
    (fun s H Ca cl fp => hk _ (G.blk s H Ca cl fp)) (fun s H Ca cl fp => he _ (G.blk s H Ca cl fp)) hs) fun σ H Q q => ?_, pt_stuck fun env g => by simp only [evT]; rfl, fun _ _ => rfl⟩
  obtain ⟨env, g, He, H0e, H0, R0, q⟩ := q
  simp only [ev] at q
  refine ⟨env, g, He, H0e, H0, R0, Pst.bd q fun ds g1 J H1 H1' a1 r1 h1 => ?_⟩
  obtain ⟨o, wk, hold⟩ := r1
  exact lc_read (R0.step a1) wk hold (fun i hi => by
    have := List.all_eq_true.mp hw i hi
    simpa using this) h1
end
end PD
set_option Elab.async false
set_option linter.all false
set_option maxRecDepth 100000
set_option autoImplicit false
namespace PD
open PySem PySem.Spec L2

section
variable {X : Cx} {S : Sig} {W : WX} {C : Cfg} {F : Fns}
theorem s_varP {x : Str} {i : Nat} {p : Pos} (G : Gd X S W C F) (hv : C.var x = some i) : PE X (.Name x p) (tVar i) := by
  unfold Cfg.var at hv
  split at hv
  · rename_i hc
    rw [Bool.and_eq_true] at hc
    obtain ⟨d1, d2⟩ := dbg_of hc.2
    exact pe_var (i := i) (by rw [G.hN]; exact ixOf_get hv) (by rw [G.hsc]; exact vis_of hc.1) d1 d2
  · cases hv
theorem great_dr {K : PySem.W.Frag} {H : Hp} : ∀ (is : List Int), DrAll K H (is.map V.int) (is.map PyData.int)
  | [] => .nil
  | i :: is => .cons (.int i) (great_dr is)
/-- m['key'], m the drawing's dict -/
theorem s_gix {x k : Str} {i j : Nat} {p p2 pos : Pos} (G : Gd X S W C F) (hv : C.var x = some i) : SE X S W F (.Subscript (.Name x p) (.Constant (.str k) j p2) pos) (.gix i k) := by
  have hu : X.A.units + 1 < cLine := by have := G.room.un; omega
  refine ⟨PE.weak (pe_dget hu (s_varP G hv) pe_str (fun _ _ => rfl)) fun σ H Q h => ?_, pt_stuck fun env g => by simp only [evT]; rfl, fun _ _ => rfl⟩
  obtain ⟨env, g, He, H0e, H0, R, h⟩ := h
  simp only [ev] at h
  unfold gxD at h
  cases e1 : env[i]? with
  | none => rw [e1] at h; exact h.elim
  | some s =>
    rw [e1] at h
    obtain ⟨o, e2, e3⟩ := R.slots i _ e1
    cases s with
    | gn =>
      obtain ⟨q, e4, e5⟩ := e3
      subst e5
      dsimp only at h
      cases e6 : gGet k g with
      | none => rw [e6] at h; exact h.elim
      | some d =>
        rw [e6] at h
        obtain ⟨gl, g1, g2⟩ := R.gen q e4
        have fin : ∀ v, Dr S.K H0 v d → Q v H := fun v hv => h v H0 H (Aft.refl R) hv
        refine ⟨_, e2, q, ?_⟩
        unfold gGet at e6
        split at e6
        · cases e6
          rename_i hk
          subst hk
          exact ⟨_, rfl, DGet.k (k := .inr "great") g1, fin _ (Dr.lst g2 (great_dr _))⟩
        · split at e6
          · cases e6
            rename_i hk
            subst hk
            exact ⟨_, rfl, DGet.k (k := .inr "seed") g1, fin _ (.int _)⟩
          · split at e6
            · cases e6
              rename_i hk
              subst hk
              exact ⟨_, rfl, DGet.k (k := .inr "turns") g1, fin _ (.int _)⟩
            · cases e6
    | _ => exact h.elim
/-! ### {'k': e, ..} -/
theorem pairs_read : ∀ {cs : List E} {ks : List Str} {σ : L2.St} {H : Hp} {Q : List V → Hp → Prop} {Q' : List (V × V) → Hp → Prop}, ks.length = cs.length → RX S W (VRs S) (evs F cs) σ H Q →
    (∀ vs H', vs.length = ks.length → Q vs H' → Q' ((ks.zip vs).map fun q => (V.str q.1, q.2)) H') → tPairs ((ks.zip cs).map fun q => (tC (.str q.1), RE S W (ev F q.2))) σ H Q'
  | [], [], σ, H, Q, Q', _, h, hq => by
    obtain ⟨env, g, He, H0e, H0, R, h⟩ := h
    simp only [evs] at h
    exact hq [] H rfl (h [] H0 H (Aft.refl R) .nil)
  | [], k :: ks, _, _, _, _, hl, _, _ => by simp at hl
  | c :: cs, [], _, _, _, _, hl, _, _ => by simp at hl
  | c :: cs, k :: ks, σ, H, Q, Q', hl, h, hq => by
    obtain ⟨env, g, He, H0e, H0, R, h⟩ := h
    simp only [evs] at h
    refine ⟨env, g, He, H0e, H0, R, Pst.bd h fun x g1 v H1 H1' a1 r1 h1 => ?_⟩
    have R1 := R.step a1
    exact pairs_read (cs := cs) (ks := ks) (σ := σ) (H := H1') (Q := fun vs H' => Q (v :: vs) H') (Q' := fun ps H' => Q' ((.str k, v) :: ps) H') (by simpa using hl)
      ⟨env, g1, He, H0e, H1, R1, Pst.bd h1 fun xs g2 vs H2 H2' a2 r2 h2 => h2 (v :: vs) H2 H2' (Aft.refl (R1.step a2)) (.cons (r1.step R1.gen a2) r2)⟩
      fun vs H' e q => hq (v :: vs) H' (by simp [e]) q
/-- an object of ours, not yet known, gets its last form and is known from now on -/
theorem Aft.put {S : Sig} {g : Gen} {H0 H H1 H1' : Hp} {p : Addr} {u o : HO} (a : Aft S g H0 H H1 H1') (hp : Fre H p) (h1 : H1 p = none) (hg : S.gm ≠ some p) (he : H1' p = some u) (hu : ∀ ps, u ≠ .tbl ps) (hc : ∀ c q, u ≠ LamX.CodeO c q) (ho : ∀ ps, o ≠ .tbl ps) :
    Aft S g H0 H (upd H1 p o) (upd H1' p o) := by
  have ne1 : ∀ {b w}, H1 b = some w → b ≠ p := fun {b w} e => ne_of_none e h1
  refine ⟨⟨a.stp.s0.trans (same_new h1), fun b w e n t => ?_, fun b e => ?_, fun b e => ?_, fun b ps e => ?_⟩, fun b w e => ?_, fun r hr => ?_, fun q hq => ?_⟩
  · rw [upd_ne (hp.ne e t)]; exact a.stp.fr b w e n t
  · by_cases z : b = p
    · rw [z]; exact hp
    · refine a.stp.th b ?_
      unfold Fre at e ⊢
      rw [upd_ne z] at e; exact e
  · by_cases z : b = p
    · subst z; exact .inr hp
    · rw [upd_ne z] at e; exact a.stp.fresh b e
  · by_cases z : b = p
    · subst z; rw [upd_same] at e; exact absurd (Option.some.inj e) (ho ps)
    · rw [upd_ne z] at e; exact a.stp.nt b ps e
  · by_cases z : b = p
    · subst z; rw [upd_same] at e ⊢; exact e
    · rw [upd_ne z] at e ⊢; exact a.sub b w e
  · obtain ⟨gl, e1, e2⟩ := a.gen r hr
    refine ⟨gl, ?_, same_new h1 _ _ e2⟩
    rw [upd_ne (fun z => hg (by rw [hr, z]))]; exact e1
  · obtain ⟨ps, k1, k2, k3⟩ := a.tabs q hq
    refine ⟨ps, by rw [upd_ne (ne_of k1 he (fun z => hu ps z.symm))]; exact k1, k2, fun pos cv h => ?_⟩
    obtain ⟨c, e3, e4⟩ := k3 pos cv h
    refine ⟨c, e3, ?_⟩
    rw [upd_ne (ne_of e4 he (fun z => hc _ _ z.symm))]
    exact e4
theorem keys_pps {pos : Pos} : ∀ {keys : List (Option Expr)} {ks : List Str} {es : List Expr} {cs : List E}, keys.mapM keyE = some ks → SEs X S W F es cs → keys.length = es.length →
    PPs X pos keys es ((ks.zip cs).map fun q => (tC (.str q.1), RE S W (ev F q.2)))
  | [], ks, es, cs, e, h, hl => by
    have e : some [] = some ks := by simpa using e
    cases e
    cases h with
    | nil => exact pps_nil
    | cons _ _ => simp at hl
  | k0 :: keys, ks, es, cs, e, h, hl => by
    rw [List.mapM_cons] at e
    cases e1 : keyE k0 with
    | none => rw [e1] at e; cases e
    | some k =>
      cases e2 : keys.mapM keyE with
      | none => rw [e1, e2] at e; cases e
      | some ks' =>
        rw [e1, e2] at e
        have e3 : k :: ks' = ks := Option.some.inj e
        subst e3
        cases h with
        | nil => simp at hl
        | cons h1 h2 =>
          unfold keyE at e1
          split at e1
          · cases e1
            exact pps_cons pe_str h1.pe (keys_pps e2 h2 (by simpa using hl))
          · cases e1
theorem drop_nodup {k : Str} {v : V} {acc : List (Key × V)} (h : ∀ q ∈ acc, q.1 ≠ .inr k) : putK acc (.inr k) v = acc ++ [(.inr k, v)] := by
  refine putK_new v ?_
  unfold valV
  rw [List.find?_eq_none.mpr (fun q hq => by simpa using h q hq)]
  rfl
theorem merge_new : ∀ {ks : List Str} {vs : List V} {acc : List (Key × V)}, ks.Nodup → (∀ k ∈ ks, ∀ q ∈ acc, q.1 ≠ .inr k) →
    mergeK acc ((ks.zip vs).map fun q => ((.inr q.1 : Key), q.2)) = acc ++ (ks.zip vs).map fun q => ((.inr q.1 : Key), q.2)
  | [], _, acc, _, _ => by simp [mergeK]
  | k :: ks, [], acc, _, _ => by simp [mergeK]
  | k :: ks, v :: vs, acc, hn, h => by
    have e : mergeK acc (((k :: ks).zip (v :: vs)).map fun q => ((.inr q.1 : Key), q.2)) = mergeK (putK acc (.inr k) v) ((ks.zip vs).map fun q => ((.inr q.1 : Key), q.2)) := rfl
    rw [e, drop_nodup (h k (by simp))]
    rw [List.nodup_cons] at hn
    rw [merge_new hn.2 (fun k' hk q hq => ?_)]
    · simp
    · rcases List.mem_append.mp hq with z | z
      · exact h k' (by simp [hk]) q z
      · have z : q = (.inr k, v) := by simpa using z
        subst z
        intro z2
        have z3 : k = k' := by injection z2
        subst z3
        exact hn.1 hk
theorem zip_keys : ∀ {ks : List Str} {vs : List V}, vs.length = ks.length → ((ks.zip vs).map fun q => ((.inr q.1 : Key), q.2)).map (·.2) = vs ∧ (((ks.zip vs).map fun q => ((.inr q.1 : Key), q.2)).map fun q => keyD q.1) = ks.map PyData.str
  | [], [], _ => ⟨rfl, rfl⟩
  | [], v :: vs, h => by simp at h
  | k :: ks, [], h => by simp at h
  | k :: ks, v :: vs, h => by
    obtain ⟨h1, h2⟩ := zip_keys (ks := ks) (vs := vs) (by simpa using h)
    exact ⟨by simpa using h1, by simpa [keyD] using h2⟩
theorem s_dict {keys : List (Option Expr)} {ks : List Str} {es : List Expr} {cs : List E} {pos : Pos} (G : Gd X S W C F) (hk : keys.mapM keyE = some ks) (hl : keys.length = es.length) (h15 : keys.length ≤ 15) (h : SEs X S W F es cs) :
    SE X S W F (.Dict keys es pos) (.dict ks cs) := by
  have lk : ks.length = keys.length := (mapM_len hk).symm
  have lc := h.length
  refine ⟨?_, pt_stuck fun env g => by simp only [evT]; rfl, fun _ _ => rfl⟩
  by_cases h0 : keys = []
  · subst h0
    have hk : some [] = some ks := by simpa using hk
    cases hk
    cases h with
    | cons _ _ => simp at hl
    | nil =>
      refine PE.weak pe_dnewK fun σ H Q q => ?_
      obtain ⟨env, g, He, H0e, H0, R, q⟩ := q
      simp only [ev, evs] at q
      intro p hp
      exact q _ _ _ (Aft.new R.sub R.gen R.tabs hp (fun ps z => by cases z)) (Dr.dct (kvs := []) (ds := []) upd_same .nil)
  · have hall : keys.all (·.isSome) = true := by
      rw [List.all_eq_true]
      intro k hkm
      cases k with
      | some _ => rfl
      | none =>
        exfalso
        have : ∀ {l : List (Option Expr)} {r : List Str}, none ∈ l → l.mapM keyE = some r → False := by
          intro l
          induction l with
          | nil => intro r h; cases h
          | cons a l ih =>
            intro r hm e
            rw [List.mapM_cons] at e
            cases e1 : keyE a with
            | none => rw [e1] at e; cases e
            | some k =>
              cases e2 : l.mapM keyE with
              | none => rw [e1, e2] at e; cases e
              | some ks' =>
                rcases List.mem_cons.mp hm with z | z
                · subst z; cases e1
                · exact ih z e2
        exact this hkm hk
    refine PE.weak (pe_disp (keys_pps hk h hl) hall hl h0 h15) fun σ H Q q => ?_
    obtain ⟨env, g, He, H0e, H0, R, q⟩ := q
    simp only [ev] at q
    intro p hp
    have a0 : Aft S g H0 H H0 (upd H p (.dK [])) := Aft.grow R.sub R.gen R.tabs hp
    have ng : S.gm ≠ some p := fun z => by
      obtain ⟨gl, e1, _⟩ := R.gen p z
      rw [hp] at e1; cases e1
    have R0 := R.step a0
    have q2 : Pst S W σ H0 (upd H p (.dK [])) (VRs S) (fun vs H2 => vs.length = ks.length → H2 p = some (.dK []) ∧ ∃ kvs : List (Key × V), (ks.zip vs).map (fun q => (V.str q.1, q.2)) = kvs.map (fun kv => (kV kv.1, kv.2)) ∧ kvs.length ≤ 15 ∧ Q (.ref p) (upd H2 p (.dK (mergeK [] kvs)))) (evs F cs env g) := by
      unfold M.bd at q
      cases e : evs F cs env g with
      | st => rw [e] at q; exact q
      | er c d g' => rw [e] at q; exact fun dx v H0' H' a q1 q2 => q dx v H0' H' (a0.trans a) q1 q2
      | ok xs g' =>
        rw [e] at q
        intro vs H1 H1' a r ev
        dsimp only at q
        cases e1 : xs.mapM dOf with
        | none => rw [e1] at q; exact q.elim
        | some ds =>
          rw [e1] at q
          have hd := drs_of r e1
          dsimp only [M.ofO, M.pu] at q
          split at q
          · rename_i hz
            have hp2 : H1' p = some (.dK []) := a.stp.fr p _ upd_same ng (fun ps z => by cases z)
            have h1p : H1 p = none := by
              cases z : H1 p with
              | none => rfl
              | some u =>
                rcases a.stp.fresh p (by rw [z]; simp) with y | y
                · exact absurd (R.sub.free hp) y
                · exact absurd rfl (y.ne upd_same (fun ps z => by cases z))
            obtain ⟨z1, z2⟩ := zip_keys (ks := ks) (vs := vs) ev
            refine ⟨hp2, (ks.zip vs).map fun q => ((.inr q.1 : Key), q.2), by simp [kV], by simp; omega, ?_⟩
            rw [merge_new hz.2.1 (by simp), List.nil_append]
            have a2 := (a0.trans a).put (o := .dK ((ks.zip vs).map fun q => ((.inr q.1 : Key), q.2))) (.inl hp) h1p ng hp2 (fun ps z => by cases z) (fun c q z => by unfold LamX.CodeO at z; cases z) (fun ps z => by cases z)
            refine q (.ref p) _ _ a2 ?_
            have dd : Dr S.K (upd H1 p (.dK ((ks.zip vs).map fun q => ((.inr q.1 : Key), q.2)))) (.ref p) (.dict ((((ks.zip vs).map fun q => ((.inr q.1 : Key), q.2)).map fun q => keyD q.1).zip ds)) :=
              Dr.dct upd_same (by rw [z1]; exact hd.same (same_new h1p))
            rw [z2] at dd
            exact dd
          · exact q.elim
    exact pairs_read (by rw [lk, hl, lc]) ⟨env, g, He, H0e, H0, R0, q2⟩ fun vs H' e hq => hq e
end

/-! ### a tuple whose last part is a star -/
section
variable {X : Cx} {S : Sig} {W : WX} {C : Cfg} {F : Fns}
theorem seqOf_inv {H0 H : Hp} {v : V} {y : Vl} {zs : List D} (sub : Same H0 H) (r : VR S H0 H v y) (e : seqOf y = some zs) : ∃ p xs, v = .ref p ∧ (SqT S.K H p xs ∨ SqL S.K H p xs) ∧ DrAll S.K H0 xs zs := by
  unfold seqOf at e
  split at e
  · cases e
    obtain ⟨a, xs, rfl, h1, h2⟩ := Dr.lst_inv r
    exact ⟨a, xs, rfl, .inr (.inl (Rd.of (sub _ _ h1))), h2⟩
  · cases e
    obtain ⟨a, xs, rfl, h1, h2⟩ := Dr.tup_inv r
    exact ⟨a, xs, rfl, .inl (sqT_same sub h1), h2⟩
  · cases e
    obtain ⟨a, xs, rfl, h1, h2⟩ := r
    exact ⟨a, xs, rfl, .inr (.inl (Rd.of h1)), h2⟩
  · cases e
def evsS (F : Fns) (cs : List E) (c : E) (env : Env) : M (List Vl × List D) := (evs F cs env).bd fun xs => (ev F c env).bd fun y => (M.ofO (seqOf y)).bd fun zs => .pu (xs, zs)
def relS2 (S : Sig) : Hp → Hp → List V → List Vl × List D → Prop := fun H0 H vs q => ∃ v1 v2, vs = v1 ++ v2 ∧ VRs S H0 H v1 q.1 ∧ DrAll S.K H0 v2 q.2
theorem pa_last (G : Gd X S W C F) {e : Expr} {p : Pos} {c : E} (he : SE X S W F e c) : ∀ {es : List Expr} {cs : List E}, SEs X S W F es cs → PA X (es ++ [.Starred e p]) (RX S W (relS2 S) (evsS F cs c))
  | _, _, .nil => PA.weak (StX.pa_star he.pe pa_nil) fun σ H Q h => by
    obtain ⟨env, g, He, H0e, H0, R, h⟩ := h
    simp only [evsS, evs, M.pu_bd] at h
    refine ⟨env, g, He, H0e, H0, R, Pst.bd h fun y g1 v H1 H1' a1 r1 h1 => ?_⟩
    rw [M.ofO_bd] at h1
    cases e2 : seqOf y with
    | none => rw [e2] at h1; exact h1.elim
    | some zs =>
      rw [e2] at h1
      obtain ⟨q, xs, rfl, hq, hd⟩ := seqOf_inv a1.sub r1 e2
      refine ⟨q, xs, rfl, by rw [G.hK]; exact hq, ?_⟩
      show Q (xs ++ []) H1'
      rw [List.append_nil]
      exact h1 xs H1 H1' (Aft.refl (R.step a1)) ⟨[], xs, rfl, .nil, hd⟩
  | _ :: _, c0 :: cs, .cons h hs => PA.weak (pa_cons h.pe (pa_last G he hs) (h.ns _ _)) fun σ H Q q => by
    obtain ⟨env, g, He, H0e, H0, R, q⟩ := q
    have q : Pst S W σ H0 H (relS2 S) Q (((ev F c0 env).bd fun x => (evsS F cs c env).bd fun z => .pu (x :: z.1, z.2)) g) := by
      simpa only [evsS, evs, M.bd_assoc, M.pu_bd] using q
    refine ⟨env, g, He, H0e, H0, R, Pst.bd q fun x g1 v H1 H1' a1 r1 h1 => ?_⟩
    refine ⟨env, g1, He, H0e, H1, R.step a1, Pst.bd h1 fun z g2 vs H2 H2' a2 r2 h2 => ?_⟩
    obtain ⟨v1, v2, rfl, k1, k2⟩ := r2
    exact h2 _ H2 H2' (Aft.refl ((R.step a1).step a2)) ⟨v :: v1, v2, rfl, .cons (r1.step (R.step a1).gen a2) k1, k2⟩
theorem s_tups {es : List Expr} {cs : List E} {e : Expr} {c : E} {k : Nat} {p pos : Pos} (G : Gd X S W C F) (h : SEs X S W F es cs) (he : SE X S W F e c) : SE X S W F (.Tuple (es ++ [.Starred e p]) k pos) (.tups cs c) := by
  refine ⟨PE.weak (pe_tup (pa_last G he h)) fun σ H Q q => ?_, ?_, fun _ _ => rfl⟩
  · obtain ⟨env, g, He, H0e, H0, R, q⟩ := q
    have q : Pst S W σ H0 H (VR S) Q (((evsS F cs c env).bd fun z => (M.ofO (z.1.mapM dOf)).bd fun ds => if ds.length + z.2.length ≤ sizeLine then .pu (.d (.tuple (ds ++ z.2))) else .stuck) g) := by
      simpa only [ev, evsS, M.bd_assoc, M.pu_bd] using q
    refine ⟨env, g, He, H0e, H0, R, Pst.bd q fun z g1 vs H1 H1' a1 r1 h1 => ?_⟩
    rw [M.ofO_bd] at h1
    cases e : z.1.mapM dOf with
    | none => rw [e] at h1; exact h1.elim
    | some ds =>
      rw [e] at h1
      obtain ⟨v1, v2, rfl, k1, k2⟩ := r1
      have hd := (drs_of k1 e).append k2
      by_cases hl : ds.length + z.2.length ≤ sizeLine
      · simp only [if_pos hl] at h1
        refine ⟨by rw [hd.length, List.length_append]; exact hl, fun p hp => ?_⟩
        have R1 := R.step a1
        exact h1 _ _ _ (Aft.new R1.sub R1.gen R1.tabs hp (fun ps z => by cases z)) (Dr.tup (SqT.of upd_same) (hd.same (same_new (R1.sub.free hp))))
      · simp only [if_neg hl] at h1; exact h1.elim
  · refine ⟨fun pins s σ H Q I q => ?_⟩
    simp only [evT] at q
    obtain ⟨env, g, He, H0e, H0, R, q⟩ := q
    exact q.elim
/-! ### a word's place in a tuple of the module -/
theorem drs_strs {K : PySem.W.Frag} {H : Hp} : ∀ {vs : List V} {ds : List D} {ys : List Str}, DrAll K H vs ds → ds.mapM strD = some ys → vs = ys.map V.str
  | _, _, ys, .nil, e => by
    have e : some [] = some ys := by simpa using e
    cases e; rfl
  | _, d :: ds, ys, .cons r rs, e => by
    rw [List.mapM_cons] at e
    cases e1 : strD d with
    | none => rw [e1] at e; cases e
    | some x =>
      cases e2 : ds.mapM strD with
      | none => rw [e1, e2] at e; cases e
      | some xs =>
        rw [e1, e2] at e
        have e3 : x :: xs = ys := Option.some.inj e
        subst e3
        cases d with
        | str z => cases e1; cases r; rw [drs_strs rs e2]; rfl
        | _ => cases e1
theorem idxS_spec : ∀ {ys : List Str} {x : Str} {i : Nat}, idxS x ys = some i → ys[i]? = some x ∧ ∀ m, m < i → ys[m]? ≠ some x
  | [], _, _, e => by cases e
  | y :: ys, x, i, e => by
    unfold idxS at e
    split at e
    · rename_i h
      cases e
      subst h
      exact ⟨rfl, fun m hm => absurd hm (Nat.not_lt_zero _)⟩
    · rename_i h
      obtain ⟨j, h1, h2⟩ := Option.map_eq_some_iff.mp e
      subst h2
      obtain ⟨k1, k2⟩ := idxS_spec h1
      refine ⟨by simpa using k1, fun m hm => ?_⟩
      cases m with
      | zero => simpa using h
      | succ m => simpa using k2 m (by omega)
theorem s_idx {x : Str} {p apos cpos : Pos} {e : Expr} {c : E} {d : D} (G : Gd X S W C F) (hg : glB C.sc x = true) (hd : (!dbg x) = true) (hl : (apos.endLine == cpos.line) = true) (hc : C.consts.lookup x = some d) (ht : isTupD d = true) (he : SE X S W F e c) :
    SE X S W F (.Call (.Attribute (.Name x p) "index" apos) [e] [] cpos) (.idx d c) := by
  obtain ⟨u, v, h1, h2, h3, h4⟩ := G.cst x d hc
  obtain ⟨q, o, rfl, k1, k2, k3⟩ := h4 ht
  have po : PE X (.Name x p) (tC (.ref q)) := pe_glob (gl_of G.hsc hg) h1 h2 (dbg_of hd).1
  have hp : PE X (.Call (.Attribute (.Name x p) "index" apos) [e] [] cpos) (RE S W fun env => (ev F c env).bd fun x => .ofO (((asD x).bind (idxD d)).map .d)) := by
    refine PE.weak (pe_bm PySem.F.plainAttrs_tuple PySem.F.slot_tuple_index rfl mt_tup_index po (pa_cons he.pe pa_nil (he.ns _ _)) rfl (by rw [he.ns]; rfl) hl (he.ns _ _) rfl) fun σ H Q h => ?_
    obtain ⟨env, g, He, H0e, H0, R, h⟩ := h
    refine ⟨.inr (.inl ⟨rfl, o, by rw [G.hK]; exact k1, k2, k3⟩), env, g, He, H0e, H0, R, Pst.bd h fun y g1 w H1 H1' a1 r1 h1 => ?_⟩
    cases e1 : asD y with
    | none => rw [e1] at h1; exact h1.elim
    | some b =>
      rw [e1] at h1
      cases e2 : idxD d b with
      | none =>
        have h1 : Pst S W σ H1 H1' (VR S) Q (M.ofO ((idxD d b).map .d) g1) := h1
        rw [e2] at h1; exact h1.elim
      | some z =>
        have h1 : Pst S W σ H1 H1' (VR S) Q (M.ofO ((idxD d b).map .d) g1) := h1
        rw [e2] at h1
        have r2 := r1.full a1.sub e1
        unfold idxD at e2
        split at e2
        · rename_i ds s
          obtain ⟨ys, l1, e2⟩ := Option.bind_eq_some_iff.mp e2
          obtain ⟨i, l2, rfl⟩ := Option.map_eq_some_iff.mp e2
          obtain rfl := Dr.str_inv r2
          obtain ⟨a, xs, z1, z2, z3⟩ := Dr.tup_inv (h3 H1')
          cases z1
          obtain rfl := drs_strs z3 l1
          obtain ⟨m1, m2⟩ := idxS_spec l2
          exact ⟨_, ys, s, i, rfl, rfl, by rw [G.hK]; exact z2, m1, m2, h1 _ H1 H1' (Aft.refl (R.step a1)) (Dr.int _)⟩
        · cases e2
  refine ⟨RE.eq hp fun env => by simp only [ev], ?_, fun _ _ => rfl⟩
  refine ⟨fun pins s σ H Q I q => ?_⟩
  simp only [evT] at q
  obtain ⟨env, g, He, H0e, H0, R, q⟩ := q
  exact q.elim
/-! ### a thing's place in a list -/
theorem ifS' {c : Prop} [Decidable c] {α : Type} {o : Option α} {z : α} (e : (if c then o else none) = some z) : c ∧ o = some z := by
  split at e
  · exact ⟨by assumption, e⟩
  · cases e
theorem mapS {α β : Type} {o : Option α} {f : α → β} {b : β} (h : o.map f = some b) : ∃ a, o = some a ∧ f a = b := by
  cases o with
  | none => cases h
  | some a => exact ⟨a, rfl, Option.some.inj h⟩
theorem idxF_spec {K : PySem.W.Frag} {H : Hp} {w : V} {y : D} (r : Dr K H w y) (hy : isFlat y = true) : ∀ {xs : List V} {ds : List D} {i : Nat}, DrAll K H xs ds → ds.all isFlat = true → idxF y ds = some i →
    ∃ z, xs[i]? = some z ∧ eqV z w = true ∧ ∀ (m : Nat) (z' : V), m < i → xs[m]? = some z' → eqV z' w = false
  | _, _, _, .nil, _, e => by cases e
  | v :: vs, d :: ds, i, .cons h hs, f, e => by
    simp only [List.all_cons, Bool.and_eq_true] at f
    have q := eqV_of h r f.1 hy
    unfold idxF at e
    split at e
    · rename_i c
      cases e
      exact ⟨v, rfl, by rw [q]; exact c, fun m z' hm => absurd hm (Nat.not_lt_zero _)⟩
    · rename_i c
      obtain ⟨j, h1, h2⟩ := Option.map_eq_some_iff.mp e
      subst h2
      obtain ⟨z, k1, k2, k3⟩ := idxF_spec r hy hs f.2 h1
      refine ⟨z, by simpa using k1, k2, fun m z' hm hz => ?_⟩
      cases m with
      | zero =>
        have hz : v = z' := by simpa using hz
        rw [← hz, q]
        exact Bool.eq_false_iff.mpr c
      | succ m => exact k3 m z' (by omega) (by simpa using hz)
theorem s_idl {p apos cpos : Pos} {es : List Expr} {e : Expr} {a c : E} (G : Gd X S W C F) (hl : (apos.endLine == cpos.line) = true) (ha : SE X S W F (.List es p) a) (he : SE X S W F e c) :
    SE X S W F (.Call (.Attribute (.List es p) "index" apos) [e] [] cpos) (.idl a c) := by
  have hp : PE X (.Call (.Attribute (.List es p) "index" apos) [e] [] cpos) (RE S W fun env => (ev F a env).bd fun x => (M.ofO (lsOf x)).bd fun ds => (ev F c env).bd fun y => .ofO (((asD y).bind (idlD ds)).map .d)) := by
    refine PE.weak (pe_bm PySem.F.plainAttrs_list PySem.F.slot_list_index rfl mt_index ha.pe (pa_cons he.pe pa_nil (he.ns _ _)) rfl (by rw [he.ns]; rfl) hl (he.ns _ _) rfl) fun σ H Q h => ?_
    obtain ⟨env, g, He, H0e, H0, R, h⟩ := h
    refine ⟨env, g, He, H0e, H0, R, Pst.bd h fun x g1 v H1 H1' a1 r1 h1 => ?_⟩
    have R1 := R.step a1
    cases e1 : lsOf x with
    | none => rw [e1] at h1; exact h1.elim
    | some ds =>
      rw [e1] at h1
      unfold lsOf at e1
      split at e1
      · rename_i e3
        cases e1
        obtain ⟨q, xs, rfl, k1, k2⟩ := r1.lst a1.sub e3
        refine ⟨.inl ⟨rfl, xs, .inl (Rd.of k1)⟩, env, g1, He, H0e, H1, R1, Pst.bd h1 fun y g2 w H2 H2' a2 r2 h2 => ?_⟩
        cases e4 : asD y with
        | none => rw [e4] at h2; exact h2.elim
        | some b =>
          rw [e4] at h2
          have h2 : Pst S W σ H2 H2' (VR S) Q (M.ofO ((idlD ds b).map .d) g2) := h2
          cases e5 : idlD ds b with
          | none => rw [e5] at h2; exact h2.elim
          | some z =>
            rw [e5] at h2
            unfold idlD at e5
            obtain ⟨hc, e5⟩ := ifS' e5
            rw [Bool.and_eq_true] at hc
            obtain ⟨i, e6, rfl⟩ := mapS e5
            have hy := r2.full a2.sub e4
            have k1' : H2' q = some (.lst xs) := a2.stp.fr _ _ k1 (R1.gen.nlst k1) (fun ps z => by cases z)
            have k3 := (k2.same a2.stp.s0).same a2.sub
            obtain ⟨z, l1, l2, l3⟩ := idxF_spec hy hc.1 k3 hc.2 e6
            exact ⟨q, xs, w, i, z, rfl, rfl, .inl (Rd.of k1'), flatV_of hy hc.1, flats_of k3 hc.2, l1, l2, l3, h2 _ H2 H2' (Aft.refl (R1.step a2)) (Dr.int _)⟩
      · cases e1
  refine ⟨RE.eq hp fun env => by simp only [ev], ?_, fun _ _ => rfl⟩
  refine ⟨fun pins s σ H Q I q => ?_⟩
  simp only [evT] at q
  obtain ⟨env, g, He, H0e, H0, R, q⟩ := q
  exact q.elim
end
end PD
set_option Elab.async false
set_option linter.all false
set_option maxRecDepth 100000
set_option maxHeartbeats 4000000
namespace PD
open PySem PySem.Spec L2 PyProof.Rows

/-- an empty set of this world -/
abbrev emptyS (w : World) : Obj := { cls := .type "set", dict := none, data := .set #[] 0 (.fresh 0 0 (!w.params.followText "set-order")) }
/-- what a set made of a list says -/
def MadeS (w : World) (s : Shared) (ns : List Int) (z : Value) (t : Shared) : Prop := z = .none ∧ ∃ (hq : Heap) (kq cq : Nat), t = { s with heap := hq, toks := kq } ∧ SetR w hq s.heap.objs.size (fun j => decide (j ∈ ns)) cq ∧ cq ≤ ns.length ∧ ∀ b o, s.heap.get? b = some o → hq.get? b = some o
section
variable {P : Program} {w : World} {A : Around} {E : Value → Shared → Prop} {s : Shared}
set_option maxHeartbeats 6400000 in
theorem set_lst {p : Addr} {xs : Array Value} (ns : List Int) {Q : Value → Shared → Prop} (ah : A.handled = none) (hp : s.heap.IsList p xs) (hx : IntsAre xs.toList ns) (small : ns.length + 1 < scanBound)
    (q : ∀ (hq : Heap) (kq cq : Nat), SetR w hq s.heap.objs.size (fun j => decide (j ∈ ns)) cq → cq ≤ ns.length → (∀ b o, s.heap.get? b = some o → hq.get? b = some o) → Q (.ref s.heap.objs.size) { s with heap := hq, toks := kq }) :
    wpAny (model P w) A (call (.type "set") [.ref p]) Q E s := by
  have sz : xs.size = ns.length := (Array.length_toList (xs := xs)).symm.trans (IntsAre.length hx)
  obtain ⟨cm, tm, mro⟩ := F.called_set.mro
  have made := F.called_set.made; have sub0 := F.called_set.sub
  refine wpAny_call (codeAny_of_tree ?_); show wpAny _ _ (callAny (.type "set") _) _ _ _
  refine wpAny_pure ⟨Code.quiet_builtin _ (by decide +kernel), codeAny_builtin F.entry_type_call ?_⟩; rw [Around.under_plain (weight_type_call_type "set" [.ref p] []) rfl]
  have n1 := F.called_set.notType; have n2 := F.called_set.canCreate; have n3 := F.typeCall_set_1 (.ref p)
  repeat (any_goals (first | assumption | wp_step))
  refine codeAny_mono (code_set_led1 (.ref p) (E := E) (Q₁ := fun z t => z = .ref s.heap.objs.size ∧ t = { s with heap := s.heap.push (emptyS w) }) ⟨rfl, rfl⟩) fun z1 t1 hz1 => ?_
  cases z1 with
  | error e => exact hz1
  | ok f1 =>
    cases f1 with
    | ret ob =>
      obtain ⟨rfl, rfl⟩ := hz1
      have gS : (s.heap.push (emptyS w)).get? s.heap.objs.size = some (emptyS w) := Heap.get?_push_size _ rfl
      have tS : Shared.TypeIs { s with heap := s.heap.push (emptyS w) } (.ref s.heap.objs.size) "set" := ⟨_, gS, rfl⟩
      have n4 := F.called_set.init.lookup; have n5 := F.called_set.init.bind (.ref s.heap.objs.size)
      repeat (any_goals (first | assumption | wp_step))
      refine codeAny_mono (codeAny_call_builtin (R := wants (MadeS w s ns) E) F.called_set.init.plain F.entry_set_init (check_set_init_1 tS ?_)) fun z2 t2 hz2 => ?_
      · obtain ⟨⟨oc, od, odt, os⟩, go, hc, nn, hd⟩ := hp
        simp only at hc hd
        subst hc; subst hd
        have go' : (s.heap.push (emptyS w)).get? p = some { cls := .type "list", dict := od, data := .seq xs nn, slots := os } := Heap.get?_push_of_some _ go
        have n6 := F.sub_list_set; have n7 := F.sub_list_frozenset
        have n8 : (Value.type "list" == Value.type "dict") = false := by decide
        have isl : (s.heap.push (emptyS w)).IsList p xs := ⟨_, go', rfl, nn, rfl⟩
        unfold Builtin.«set.__init__» noKeywords Builtin.Frozenset.updateFrom
        generalize gI : pyIter = II
        wp_walk
        subst gI
        refine wpAny_pyIter_list isl ?_; refine wpAny_bind (wpAny_runValue ?_)
        have ltp : p < s.heap.objs.size := Heap.lt_size go
        have ah3 : A.in1.in1.in1.handled = none := by simp [ah]
        have szS : (s.heap.push (emptyS w)).objs.size = s.heap.objs.size + 1 := Heap.size_push ..
        have neI : p ≠ (s.heap.push (emptyS w)).objs.size := by rw [szS]; exact Nat.ne_of_lt (Nat.lt_succ_of_lt ltp)
        have nS : s.heap.objs.size ∉ [(s.heap.push (emptyS w)).objs.size, p] := by
          rw [szS]
          intro hm
          rcases List.mem_cons.mp hm with e | hm
          · omega
          · exact absurd (List.mem_singleton.mp hm) (Nat.ne_of_gt ltp)
        have vals : ∀ (i : Nat) (v : Value), xs[i]? = some v → ∃ k t, ns[i]? = some k ∧ v = .int k t := fun i v hv => by
          have li : i < ns.length := by rw [← sz]; exact (Array.getElem?_eq_some_iff.mp hv).1
          obtain ⟨t, e⟩ := PyProof.Rows.IntsAre.int_at hx i v (by rw [Array.getElem?_toList]; exact hv)
          exact ⟨ns[i], t, List.getElem?_eq_getElem li, by rw [e, List.getD_eq_getElem?_getD, List.getElem?_eq_getElem li] <;> rfl⟩
        refine set_update_ints ((Walks.list ah3 _ p neI xs).toS) s.heap.objs.size nS ns sz small vals (xs.size - 0) 0 _ (by omega) (Nat.zero_le _) ⟨⟨_, Heap.get?_push_size _ rfl, rfl, rfl⟩, (isl.push _)⟩ ?start ?last
        case start => exact ⟨0, Nat.le_refl 0, setR_new_at (Heap.get?_push_of_some _ gS)⟩
        case last =>
          intro t3 c3 mv lc rS
          obtain ⟨hq, gq, dq, kq, oq⟩ := t3
          have eg : gq = s.gens := mv.gens
          have ed : dq = s.drawn := mv.drawn
          have eo : oq = s.os := mv.os
          subst eg; subst ed; subst eo
          show wpAny _ _ _ _ _ _
          refine wpAny_pure ?_
          show wpAny _ _ (ret Value.none) _ _ _
          rw [sz] at lc
          refine wpAny_pure ⟨rfl, hq, kq, c3, rfl, rS, lc, fun b o e => ?_⟩
          have lb : b < s.heap.objs.size := Heap.lt_size e
          refine mv.heap b o (fun hm => ?_) (Heap.get?_push_of_some _ (Heap.get?_push_of_some _ e))
          rcases List.mem_cons.mp hm with e1 | hm
          · exact absurd e1 (Nat.ne_of_lt lb)
          · have e2 := List.mem_singleton.mp hm
            rw [szS] at e2
            exact absurd e2 (Nat.ne_of_lt (Nat.lt_succ_of_lt lb))
      · cases z2 with
        | error e => exact hz2
        | ok f2 =>
          cases f2 with
          | ret r =>
            obtain ⟨rfl, hq, kq, cq, rfl, rS, lc, old⟩ := hz2
            repeat (any_goals (first | assumption | wp_step))
            exact q _ _ _ rS lc old
          | _ => exact hz2.elim
    | _ => exact hz1.elim
end
/-! ### sorted(set(xs)) of whole numbers -/
theorem insI_mem {x y : Int} : ∀ {l : List Int}, y ∈ insI x l ↔ y = x ∨ y ∈ l
  | [] => by simp [insI]
  | z :: r => by
    unfold insI
    split
    · simp
    · split
      · rename_i e
        subst e
        simp
      · rw [List.mem_cons, List.mem_cons, insI_mem]
        exact ⟨fun h => by rcases h with h | h | h <;> simp [h], fun h => by rcases h with h | h | h <;> simp [h]⟩
theorem ssI_mem {y : Int} : ∀ {ns : List Int}, y ∈ ssI ns ↔ y ∈ ns
  | [] => by simp [ssI]
  | x :: r => by
    show y ∈ insI x (ssI r) ↔ _
    rw [insI_mem, ssI_mem, List.mem_cons]
theorem insI_up {x : Int} : ∀ {l : List Int}, l.Pairwise (· < ·) → (insI x l).Pairwise (· < ·)
  | [], _ => by simp [insI]
  | z :: r, h => by
    obtain ⟨h1, h2⟩ := List.pairwise_cons.mp h
    unfold insI
    split
    · rename_i e
      refine List.pairwise_cons.mpr ⟨fun a ha => ?_, h⟩
      rcases List.mem_cons.mp ha with rfl | ha
      · exact e
      · exact Int.lt_trans e (h1 a ha)
    · split
      · exact h
      · rename_i e1 e2
        refine List.pairwise_cons.mpr ⟨fun a ha => ?_, insI_up h2⟩
        rcases insI_mem.mp ha with rfl | ha
        · omega
        · exact h1 a ha
theorem ssI_up : ∀ {ns : List Int}, (ssI ns).Pairwise (· < ·)
  | [] => List.Pairwise.nil
  | x :: r => insI_up ssI_up
theorem up_one : ∀ {l m : List Int}, l.Pairwise (· < ·) → m.Pairwise (· < ·) → (∀ k, k ∈ l ↔ k ∈ m) → l = m
  | [], [], _, _, _ => rfl
  | [], y :: m, _, _, h => absurd ((h y).mpr (by simp)) (by simp)
  | x :: l, [], _, _, h => absurd ((h x).mp (by simp)) (by simp)
  | x :: l, y :: m, hl, hm, h => by
    obtain ⟨l1, l2⟩ := List.pairwise_cons.mp hl
    obtain ⟨m1, m2⟩ := List.pairwise_cons.mp hm
    have exy : x = y := by
      rcases List.mem_cons.mp ((h x).mp (by simp)) with e | e
      · exact e
      · rcases List.mem_cons.mp ((h y).mpr (by simp)) with e' | e'
        · exact e'.symm
        · have := m1 x e
          have := l1 y e'
          omega
    subst exy
    refine congrArg (x :: ·) (up_one l2 m2 fun k => ⟨fun hk => ?_, fun hk => ?_⟩)
    · rcases List.mem_cons.mp ((h k).mp (by simp [hk])) with e | e
      · have := l1 k hk
        omega
      · exact e
    · rcases List.mem_cons.mp ((h k).mpr (by simp [hk])) with e | e
      · have := m1 k hk
        omega
      · exact e
theorem ints_of_dr {K : PySem.W.Frag} {H : Hp} : ∀ {xs : List V} {ds : List D} {ns : List Int}, DrAll K H xs ds → ds.mapM intO = some ns → xs = ns.map V.int
  | _, _, ns, .nil, e => by
    have e : some [] = some ns := by simpa using e
    cases e; rfl
  | _, d :: ds, ns, .cons r rs, e => by
    rw [List.mapM_cons] at e
    cases e1 : intO d with
    | none => rw [e1] at e; cases e
    | some i =>
      cases e2 : ds.mapM intO with
      | none => rw [e1, e2] at e; cases e
      | some is =>
        rw [e1, e2] at e
        have e3 : i :: is = ns := Option.some.inj e
        subst e3
        have h := ints_of_dr rs e2
        subst h
        unfold intO at e1
        split at e1
        · cases e1
          rw [r.int_inv]
          rfl
        · cases e1
theorem dr_ints {K : PySem.W.Frag} {H : Hp} : ∀ (ns : List Int), DrAll K H (ns.map V.int) (ns.map PyData.int)
  | [] => .nil
  | n :: ns => .cons (Dr.int n) (dr_ints ns)
def rSetI (K : PySem.W.Frag) (w : World) : List V → Hp → VK → Prop := fun vs H Q => ∃ (l : Addr) (ns : List Int), vs = [V.ref l] ∧ SqL K H l (ns.map V.int) ∧ ns.length + 1 < scanBound ∧ ∀ (p : Addr) (c : Nat), c ≤ ns.length → H p = none → Q (.ref p) (upd H p (SetO w p (fun j => decide (j ∈ ns)) c))
theorem cr_setI {X : Cx} (hc : X.calm = true) : CallR X (.type "set") (rSetI X.K X.w) := by
  intro pins s σ H vs us Q I r h
  obtain ⟨l, ns, rfl, hq, small, q⟩ := h
  obtain ⟨its, rv, pl, hz⟩ := I.list hq
  rw [Vals.ref1 r]
  refine set_lst ns (I.ok.hd hc) pl.isList (by simpa using rv.ints) small fun hq' kq cq R lc old => ?_
  exact ⟨.ref _, upd H s.heap.objs.size (SetO X.w s.heap.objs.size (fun j => decide (j ∈ ns)) cq), I.laid (t' := kq) (fun b u e => old b u e) (Nat.le_refl _) (setO_new R), rfl, q _ cq lc (I.hok.fresh (Nat.le_refl _))⟩
section
variable {X : Cx} {S : Sig} {W : WX} {C : Cfg} {F : Fns}
theorem s_sset {p p2 q pos : Pos} {a : Expr} {c : E} (G : Gd X S W C F) (g1 : glB C.sc "sorted" = true) (g2 : glB C.sc "set" = true) (h : SE X S W F a c) :
    SE X S W F (.Call (.Name "sorted" p) [.Call (.Name "set" p2) [a] [] q] [] pos) (.sset c) := by
  have hp : PE X (.Call (.Name "sorted" p) [.Call (.Name "set" p2) [a] [] q] [] pos) (RE S W fun env => (ev F c env).bd fun x => .ofO (((asD x).bind ssetD).map .d)) := by
    have inner := pe_callTy (p := p2) (cr_setI G.calm) (gl_of G.hsc g2) (G.blt _ (by simp [bltNames])) (by decide +kernel) (pa_cons h.pe pa_nil (h.ns _ _)) (he := h.ns _ _) (pos := q)
    refine PE.weak (pe_callB (cr_sortedSet G.calm) (gl_of G.hsc g1) (G.blt _ (by simp [bltNames])) (by decide +kernel) (pa_cons inner pa_nil rfl)) fun σ H Q z => ?_
    obtain ⟨env, g, He, H0e, H0, R, z⟩ := z
    refine ⟨env, g, He, H0e, H0, R, Pst.bd z fun x g1 v H1 H1' a1 r1 z1 => ?_⟩
    have R1 := R.step a1
    cases e1 : asD x with
    | none => rw [e1] at z1; exact z1.elim
    | some d =>
      rw [e1] at z1
      have z1 : Pst S W σ H1 H1' (VR S) Q (M.ofO ((ssetD d).map .d) g1) := z1
      cases e2 : ssetD d with
      | none => rw [e2] at z1; exact z1.elim
      | some y =>
        rw [e2] at z1
        unfold ssetD at e2
        split at e2
        · rename_i ds
          cases e3 : ds.mapM intO with
          | none => rw [e3] at e2; cases e2
          | some ns =>
          rw [e3] at e2
          obtain ⟨small, rfl⟩ := ifO (show (if ns.length < 60 then some (PyData.list ((ssI ns).map .int)) else none) = some y from e2)
          obtain ⟨l, xs, rfl, k1, k2⟩ := r1.lst a1.sub e1
          have ex := ints_of_dr k2 e3
          subst ex
          refine ⟨l, ns, rfl, by rw [G.hK]; exact SqL.of k1, by unfold scanBound; omega, fun pS cS lc hn => ?_⟩
          have aG := Aft.grow (o := SetO X.w pS (fun j => decide (j ∈ ns)) cS) R1.sub R1.gen R1.tabs hn
          refine ⟨pS, _, cS, rfl, upd_same, by omega, fun out pL up mem len hn2 => ?_⟩
          have eo : out = ssI ns := up_one up ssI_up fun k => by rw [mem k, ssI_mem]; simp
          subst eo
          have aN := Aft.new (o := .lst ((ssI ns).map V.int)) aG.sub aG.gen aG.tabs hn2 (fun ps z => by cases z)
          exact z1 _ _ _ (aG.trans aN) (Dr.lst upd_same (dr_ints _))
        · cases e2
  refine ⟨RE.eq hp fun env => by simp only [ev], ?_, fun _ _ => rfl⟩
  refine ⟨fun pins s σ H Q I q => ?_⟩
  simp only [evT] at q
  obtain ⟨env, g, He, H0e, H0, R, q⟩ := q
  exact q.elim
end
end PD
set_option Elab.async false
set_option linter.all false
set_option maxRecDepth 100000
set_option autoImplicit false
namespace PD
open PySem PySem.Spec L2

/-! ### a call, by its forms -/
def genCall (C : Cfg) (f : Str) (es : List Expr) : Option E :=
    if f = "sorted" && glB C.sc f && (fnIx C.fns f 1).isNone then (match es with
      | [.Call (.Name g _) [a] [] _] => if g = "set" && glB C.sc g && (fnIx C.fns g 1).isNone then (cE C a).map .sset else none
      | _ => none)
    else if glB C.sc f && !dbg f then (cEs C es).bind fun xs => (match fnIx C.fns f xs.length with
      | some i => some (.call i xs)
      | none =>
        if f = "len" && xs.length = 1 then some (.bf .len xs)
        else if f = "tuple" && xs.length = 1 then some (.bf .tuple xs)
        else if f = "list" && xs.length = 1 then some (.bf .list xs)
        else if f = "repr" && xs.length = 1 then some (.bf .repr xs)
        else if f = "int" && xs.length = 1 then some (.bf .int xs)
        else if f = "all" && xs.length = 1 then some (.bf .all xs)
        else if f = "min" && xs.length = 2 then some (.bf .min2 xs)
        else none)
    else none
def twoCall (C : Cfg) (f : Str) (a b : Expr) : Option E :=
    if f = "isinstance" && glB C.sc f && (fnIx C.fns f 2).isNone then (match b with
      | .Tuple ts _ _ => (ts.mapM fun t => tyName t C).bind fun ts => if ts.length ≤ 10 then (cE C a).map fun a => .bf (.isinst ts) [a] else none
      | t => (tyName t C).bind fun t => (cE C a).map fun a => .bf (.isinst [t]) [a])
    else if glB C.sc f && !dbg f then (cE C a).bind fun a => (cE C b).bind fun b =>
      (match fnIx C.fns f 2 with
      | some i => some (.call i [a, b])
      | none => if f = "min" then some (.bf .min2 [a, b]) else none)
    else none
theorem cE_call {C : Cfg} {f : Str} {p pos : Pos} {es : List Expr} {c : E} (h : cE C (.Call (.Name f p) es [] pos) = some c) :
    (∃ a b, es = [a, b] ∧ twoCall C f a b = some c) ∨ (∃ params body scope lpos, es = [.Lambda params body scope lpos] ∧ (if C.lam && f = "_law_said" && glB C.sc f && lamB C params scope then (cE (C.lamb scope) body).map E.said else none) = some c) ∨ genCall C f es = some c := by
  rw [cE.eq_def] at h
  cases es with
  | nil => exact .inr (.inr h)
  | cons x r =>
    cases r with
    | nil =>
      cases x with
      | Lambda params body scope lpos => exact .inr (.inl ⟨params, body, scope, lpos, rfl, h⟩)
      | _ => exact .inr (.inr h)
    | cons b r =>
      cases r with
      | cons _ _ => cases x <;> exact .inr (.inr h)
      | nil => cases x <;> exact .inl ⟨_, b, rfl, h⟩
def mkI (C : Cfg) (tg iter : Expr) : Option I := (match iter with
      | .Call (.Name f _) [a] [] _ => if rngOk C f 1 then some ((cE C a).map I.rng1) else if enumOk C f (isTup tg) then some ((cE C a).map I.enum) else none
      | .Call (.Name f _) [a, b] [] _ => if rngOk C f 2 then some ((cE C a).bind fun a => (cE C b).map fun b => I.rng2 a b) else none
      | _ => none).getD ((cE C iter).map I.e)
def mkLc (C : Cfg) (elt tg iter : Expr) (ifs : List Expr) (scope : Scope) : Option E := match blkC C.N C.sc scope (ownOf C.N scope) with
    | true => (mkI C tg iter).bind fun it => (cTg (C.tgt scope) tg).bind fun t => (cIfs (C.inn scope) ifs).bind fun k => (cE (C.inn scope) elt).bind fun e =>
      if (tgIx t).all (fun i => decide (i ∈ (ownOf C.N scope).map Prod.snd)) then some (.lc t it k e ((ownOf C.N scope).map Prod.snd)) else none
    | false => none
theorem cE_lc {C : Cfg} {elt tg iter : Expr} {ifs : List Expr} {scope : Scope} {pos : Pos} {c : E} (h : cE C (.ListComp elt [⟨tg, iter, ifs, 0⟩] scope pos) = some c) : mkLc C elt tg iter ifs scope = some c := by
  rw [cE.eq_def] at h; exact h
theorem bindS {α β : Type} {o : Option α} {f : α → Option β} {b : β} (h : o.bind f = some b) : ∃ a, o = some a ∧ f a = some b := by
  cases o with
  | none => cases h
  | some a => exact ⟨a, rfl, h⟩
theorem cEst_inv {C : Cfg} : ∀ {es : List Expr} {q : List E × E}, cEst C es = some q → ∃ es1 e p, es = es1 ++ [.Starred e p] ∧ cEs C es1 = some q.1 ∧ cE C e = some q.2
  | [], q, h => by rw [cEst] at h; cases h
  | e :: es, q, h => by
    have plain : ((cE C e).bind fun a => (cEst C es).map fun q => (a :: q.1, q.2)) = some q → ∃ es1 e' p, e :: es = es1 ++ [.Starred e' p] ∧ cEs C es1 = some q.1 ∧ cE C e' = some q.2 := fun h => by
      obtain ⟨a, h1, h⟩ := bindS h
      obtain ⟨q', h2, rfl⟩ := mapS h
      obtain ⟨es1, e', p, rfl, k1, k2⟩ := cEst_inv h2
      exact ⟨e :: es1, e', p, rfl, by rw [cEs, h1, k1]; rfl, k2⟩
    cases es with
    | cons b r =>
      refine plain ?_
      rw [cEst.eq_def] at h
      cases e <;> exact h
    | nil =>
      cases e with
      | Starred e' p =>
        rw [cEst.eq_def] at h
        obtain ⟨c, h1, rfl⟩ := mapS h
        exact ⟨[], e', p, rfl, by rw [cEs], h1⟩
      | _ =>
        refine plain ?_
        rw [cEst.eq_def] at h
        exact h
section
variable {X : Cx} {S : Sig} {W : WX} {C : Cfg} {F : Fns}
theorem ses_of : ∀ (es : List Expr) {cs : List E}, (∀ e ∈ es, ∀ c, cE C e = some c → SE X S W F e c) → cEs C es = some cs → SEs X S W F es cs
  | [], cs, _, h => by
    have h : some [] = some cs := h
    cases h; exact .nil
  | e :: es, cs, ih, h => by
    rw [cEs] at h
    obtain ⟨c, h1, h⟩ := bindS h
    obtain ⟨cs', h2, rfl⟩ := mapS h
    exact .cons (ih e (by simp) c h1) (ses_of es (fun e' he => ih e' (by simp [he])) h2)
theorem so_of {o : Option Expr} {c : Option E} (ih : ∀ e, o = some e → ∀ c, cE C e = some c → SE X S W F e c) (h : cEO C o = some c) : SO X S W F o c := by
  cases o with
  | none =>
    have h : some none = some c := h
    cases h; exact so_none
  | some e =>
    rw [cEO] at h
    obtain ⟨c', h1, rfl⟩ := mapS h
    exact so_some (ih e rfl _ h1)
theorem sifs_of {es : List Expr} {c : Option E} (ih : ∀ e ∈ es, ∀ c, cE C e = some c → SE X S W F e c) (h : cIfs C es = some c) : PTs X es (RT S W (evOT F c)) := by
  cases es with
  | nil =>
    have h : some none = some c := h
    cases h
    exact ⟨fun pins s σ H Q I q => pts_nil.run pins s σ H Q I (by
      obtain ⟨env, g, He, H0e, H0, R, q⟩ := q
      simp only [evOT] at q
      exact q true H0 H (Aft.refl R) rfl)⟩
  | cons e r =>
    cases r with
    | nil =>
      rw [cIfs] at h
      obtain ⟨c', h1, rfl⟩ := mapS h
      have p := (ih e (by simp) _ h1).pt
      have p : PT X e (RT S W (evOT F (some c'))) := RT.eq p fun env => by simp only [evOT]
      exact pts_one p
    | cons _ _ => rw [cIfs] at h; cases h; all_goals simp
/-- the tests of lists etc. are of the size below -/
theorem s_bool {op : BoolOp} {es : List Expr} {cs : List E} {c : E} {pos : Pos} (G : Gd X S W C F) (h : SEs X S W F es cs) (e : (match op with | .And => andE cs | .Or => orE cs) = some c) : SE X S W F (.BoolOp op es pos) c := by
  cases op with
  | And =>
    obtain ⟨h1, h2⟩ := s_and G pos h e
    exact ⟨h1, h2.pt, fun _ _ => rfl⟩
  | Or =>
    obtain ⟨h1, h2⟩ := s_or G pos h e
    exact ⟨h1, h2.pt, fun _ _ => rfl⟩
theorem s_two {f : Str} {p pos : Pos} {a b : Expr} {c : E} (G : Gd X S W C F) (iha : ∀ c, cE C a = some c → SE X S W F a c) (ih : ∀ c, cE C b = some c → SE X S W F b c) (h : twoCall C f a b = some c) : SE X S W F (.Call (.Name f p) [a, b] [] pos) c := by
  unfold twoCall at h
  split at h
  · rename_i hc
    simp only [Bool.and_eq_true, decide_eq_true_eq] at hc
    split at h
    · obtain ⟨ts, h1, h⟩ := bindS h
      split at h
      · obtain ⟨ca, h2, rfl⟩ := mapS h
        exact s_isi2 G hc.1.2 hc.1.1 (iha _ h2) h1 (by assumption)
      · cases h
    · obtain ⟨t, h1, h⟩ := bindS h
      obtain ⟨ca, h2, rfl⟩ := mapS h
      exact s_isi1 G hc.1.2 hc.1.1 (iha _ h2) h1
  · split at h
    · rename_i hc
      simp only [Bool.and_eq_true] at hc
      obtain ⟨ca, h1, h⟩ := bindS h
      obtain ⟨cb, h2, h⟩ := bindS h
      have hs : SEs X S W F [a, b] [ca, cb] := .cons (iha _ h1) (.cons (ih _ h2) .nil)
      split at h
      · cases h
        exact s_call G hc.1 hc.2 (by assumption) hs
      · split at h
        · cases h
          exact s_bf (b := .min2) (hv := rfl) G hc.1 (by assumption) (by simp) hs
        · cases h
    · cases h
theorem s_gen {f : Str} {p pos : Pos} {es : List Expr} {c : E} (G : Gd X S W C F) (ih : ∀ e ∈ es, ∀ c, cE C e = some c → SE X S W F e c) (ih2 : ∀ g p2 a p3, es = [.Call (.Name g p2) [a] [] p3] → ∀ c, cE C a = some c → SE X S W F a c) (h : genCall C f es = some c) : SE X S W F (.Call (.Name f p) es [] pos) c := by
  unfold genCall at h
  split at h
  · rename_i hc
    simp only [Bool.and_eq_true, decide_eq_true_eq] at hc
    obtain ⟨⟨rfl, c2⟩, _⟩ := hc
    split at h
    · rename_i g p2 a p3
      obtain ⟨hc, h5⟩ := ifS' h
      simp only [Bool.and_eq_true, decide_eq_true_eq] at hc
      obtain ⟨⟨hg, c4⟩, _⟩ := hc
      obtain ⟨ca, h1, rfl⟩ := mapS h5
      subst hg
      exact s_sset G c2 c4 (ih2 _ _ a _ rfl ca h1)
    · cases h
  split at h
  · rename_i hc
    simp only [Bool.and_eq_true] at hc
    obtain ⟨xs, h1, h⟩ := bindS h
    have hs := ses_of es ih h1
    have hl := hs.length
    split at h
    · cases h
      exact s_call G hc.1 hc.2 (by assumption) hs
    · have nn : ∀ {k : Nat}, xs.length = k + 1 → es ≠ [] := fun e z => by subst z; rw [← hl] at e; cases e
      simp only [Bool.and_eq_true, decide_eq_true_eq] at h
      split at h
      · rename_i q; cases h; exact s_bf (b := .len) (hv := rfl) G hc.1 q.1 (nn q.2) hs
      split at h
      · rename_i q; cases h; exact s_bf (b := .tuple) (hv := rfl) G hc.1 q.1 (nn q.2) hs
      split at h
      · rename_i q; cases h; exact s_bf (b := .list) (hv := rfl) G hc.1 q.1 (nn q.2) hs
      split at h
      · rename_i q; cases h; exact s_bf (b := .repr) (hv := rfl) G hc.1 q.1 (nn q.2) hs
      split at h
      · rename_i q; cases h; exact s_bf (b := .int) (hv := rfl) G hc.1 q.1 (nn q.2) hs
      split at h
      · rename_i q; cases h; exact s_bf (b := .all) (hv := rfl) G hc.1 q.1 (nn q.2) hs
      split at h
      · rename_i q; cases h; exact s_bf (b := .min2) (hv := rfl) G hc.1 q.1 (nn q.2) hs
      cases h
  · cases h
/-- a walked expression's own -/
theorem i_of {tg iter : Expr} {it : I} (G : Gd X S W C F) (ih : ∀ e, sizeOf e ≤ sizeOf iter → ∀ c, cE C e = some c → SE X S W F e c) (h : mkI C tg iter = some it) :
    PI X tg iter (RI S W (evI F it)) ∧ ∀ x, foldedSetIterable iter X.env x = pure x := by
  have plain : (cE C iter).map I.e = some it → PI X tg iter (RI S W (evI F it)) ∧ ∀ x, foldedSetIterable iter X.env x = pure x := fun h => by
    obtain ⟨c, h1, rfl⟩ := mapS h
    refine ⟨i_e G (ih iter (Nat.le_refl _) c h1), ?_⟩
    cases iter with
    | Set _ _ _ => rw [cE.eq_def] at h1; cases h1
    | _ => intro x; rfl
  unfold mkI at h
  split at h
  · rename_i f p a pos
    split at h
    · rename_i hc
      have h : (cE C a).map I.rng1 = some it := h
      obtain ⟨c, h1, rfl⟩ := mapS h
      unfold rngOk at hc
      simp only [Bool.and_eq_true, decide_eq_true_eq] at hc
      obtain ⟨⟨h2, rfl⟩, _⟩ := hc
      exact ⟨i_rng1 G h2 (ih a (by simp; omega) c h1), fun _ => rfl⟩
    · split at h
      · rename_i hc
        have h : (cE C a).map I.enum = some it := h
        obtain ⟨c, h1, rfl⟩ := mapS h
        unfold enumOk at hc
        simp only [Bool.and_eq_true, decide_eq_true_eq] at hc
        obtain ⟨⟨⟨h2, rfl⟩, h3⟩, _⟩ := hc
        cases tg with
        | Tuple es k tp => exact ⟨i_enum G h2 (ih a (by simp; omega) c h1), fun _ => rfl⟩
        | _ => cases h3
      · exact plain h
  · rename_i f p a b pos
    split at h
    · rename_i hc
      have h : ((cE C a).bind fun a => (cE C b).map fun b => I.rng2 a b) = some it := h
      obtain ⟨c, h1, h⟩ := bindS h
      obtain ⟨d, h2, rfl⟩ := mapS h
      unfold rngOk at hc
      simp only [Bool.and_eq_true, decide_eq_true_eq] at hc
      obtain ⟨⟨h3, rfl⟩, _⟩ := hc
      exact ⟨i_rng2 G h3 (ih a (by simp; omega) c h1) (ih b (by simp; omega) d h2), fun _ => rfl⟩
    · exact plain h
  · exact plain h
end
theorem s_lit {X : Cx} {S : Sig} {W : WX} {C : Cfg} {F : Fns} {v : Const} {k : Nat} {pos : Pos} {w : V} {d : D} (G : Gd X S W C F) (hp : PE X (.Constant v k pos) (tC w)) (hd : ∀ H, Dr S.K H w d) : SE X S W F (.Constant v k pos) (.c d) := by
  have h := s_const (W := W) hp hd
  exact ⟨RE.eq h fun env => by simp only [ev], RT.eq (pt_of G h fun _ => rfl) fun env => by simp only [evT, M.pu_bd, asD, Option.bind], fun _ _ => rfl⟩
theorem se_all {S : Sig} {F : Fns} : ∀ (n : Nat) (e : Expr), sizeOf e < n → ∀ {X : Cx} {W : WX} {C : Cfg} {c : E}, Gd X S W C F → cE C e = some c → SE X S W F e c := by
  intro n
  induction n with
  | zero => intro e h; omega
  | succ n ih =>
    intro e hn X W C c G h
    have mem : ∀ {es : List Expr}, sizeOf es < n + 1 → ∀ e ∈ es, sizeOf e < n := fun {es} hs e he => by
      have := List.sizeOf_lt_of_mem he
      omega
    cases e with
    | Constant v k pos =>
      rw [cE.eq_def] at h
      cases v with
      | int i => cases h; exact s_lit G pe_int fun _ => Dr.int i
      | str i => cases h; exact s_lit G pe_str fun _ => Dr.str i
      | bool i => cases h; exact s_lit G pe_bl fun _ => Dr.bl i
      | none => cases h; exact s_lit G pe_non fun _ => Dr.non
      | _ => cases h
    | Name x pos =>
      rw [cE.eq_def] at h
      exact s_name G h
    | BinOp a op b pos =>
      rw [cE.eq_def] at h
      dsimp only at h
      split at h
      · obtain ⟨ca, h1, h⟩ := bindS h
        obtain ⟨cb, h2, rfl⟩ := mapS h
        simp only [Expr.BinOp.sizeOf_spec] at hn
        exact s_bin G (by assumption) (ih a (by omega) G h1) (ih b (by omega) G h2)
      · cases h
    | UnaryOp op a pos =>
      rw [cE.eq_def] at h
      simp only [Expr.UnaryOp.sizeOf_spec] at hn
      cases op with
      | Not =>
        obtain ⟨ca, h1, rfl⟩ := mapS h
        exact s_not G (ih a (by omega) G h1)
      | USub =>
        obtain ⟨ca, h1, rfl⟩ := mapS h
        exact s_neg G (ih a (by omega) G h1)
      | _ => cases h
    | BoolOp op es pos =>
      rw [cE.eq_def] at h
      simp only [Expr.BoolOp.sizeOf_spec] at hn
      cases op with
      | And =>
        obtain ⟨cs, h1, h⟩ := bindS h
        exact s_bool (op := .And) G (ses_of es (fun e he c hc => ih e (mem (by omega) e he) G hc) h1) h
      | Or =>
        obtain ⟨cs, h1, h⟩ := bindS h
        exact s_bool (op := .Or) G (ses_of es (fun e he c hc => ih e (mem (by omega) e he) G hc) h1) h
    | Compare a ops bs pos =>
      rw [cE.eq_def] at h
      simp only [Expr.Compare.sizeOf_spec] at hn
      cases ops with
      | nil => cases h
      | cons op ops =>
        cases ops with
        | nil =>
          cases bs with
          | nil => cases h
          | cons b bs =>
            cases bs with
            | cons _ _ => cases h
            | nil =>
              dsimp only at h
              split at h
              · cases h
              · obtain ⟨ca, h1, h⟩ := bindS h
                obtain ⟨cb, h2, rfl⟩ := mapS h
                simp at hn
                exact s_cmp G (Bool.eq_false_iff.mpr (by assumption)) (ih a (by omega) G h1) (ih b (by omega) G h2)
        | cons op' ops =>
          cases ops with
          | cons _ _ => cases h
          | nil =>
            cases bs with
            | nil => cases h
            | cons b bs =>
              cases bs with
              | nil => cases h
              | cons c' bs =>
                cases bs with
                | cons _ _ => cases h
                | nil =>
                  dsimp only at h
                  split at h
                  · cases h
                  · obtain ⟨ca, h1, h⟩ := bindS h
                    obtain ⟨cb, h2, h⟩ := bindS h
                    obtain ⟨cc, h3, rfl⟩ := mapS h
                    simp at hn
                    exact s_chain G (Bool.eq_false_iff.mpr (by assumption)) (ih a (by omega) G h1) (ih b (by omega) G h2) (ih c' (by omega) G h3)
    | IfExp t a b pos =>
      rw [cE.eq_def] at h
      simp only [Expr.IfExp.sizeOf_spec] at hn
      obtain ⟨ct, h1, h⟩ := bindS h
      obtain ⟨ca, h2, h⟩ := bindS h
      obtain ⟨cb, h3, rfl⟩ := mapS h
      exact s_ite (ih t (by omega) G h1) (ih a (by omega) G h2) (ih b (by omega) G h3)
    | Tuple es k pos =>
      rw [cE.eq_def] at h
      simp only [Expr.Tuple.sizeOf_spec] at hn
      have ihe : ∀ e ∈ es, ∀ c, cE C e = some c → SE X S W F e c := fun e he c hc => ih e (mem (by omega) e he) G hc
      dsimp only at h
      split at h
      · rename_i cs h1
        cases h
        exact s_tup G (ses_of es ihe h1)
      · obtain ⟨q, h1, rfl⟩ := mapS h
        obtain ⟨es1, e2, p2, rfl, h2, h3⟩ := cEst_inv h1
        refine s_tups G (ses_of es1 (fun e he c hc => ihe e (by simp [he]) c hc) h2) (ih e2 ?_ G h3)
        have := List.sizeOf_lt_of_mem (show Expr.Starred e2 p2 ∈ es1 ++ [.Starred e2 p2] by simp)
        simp only [Expr.Starred.sizeOf_spec] at this
        omega
    | List es pos =>
      rw [cE.eq_def] at h
      simp only [Expr.List.sizeOf_spec] at hn
      obtain ⟨cs, h1, rfl⟩ := mapS h
      exact s_lst G (ses_of es (fun e he c hc => ih e (mem (by omega) e he) G hc) h1)
    | Subscript a b pos =>
      rw [cE.eq_def] at h
      simp only [Expr.Subscript.sizeOf_spec] at hn
      have plain : PlainIx b → ((cE C a).bind fun a => (cE C b).map fun b => E.ix a b) = some c → SE X S W F (.Subscript a b pos) c := fun pl h => by
        obtain ⟨ca, h1, h⟩ := bindS h
        obtain ⟨cb, h2, rfl⟩ := mapS h
        exact s_ix G pl (ih a (by omega) G h1) (ih b (by omega) G h2)
      cases b with
      | Constant cv j p2 =>
        cases cv with
        | str k =>
          cases a with
          | Name x p =>
            obtain ⟨_, h⟩ := ifS' (show (if x ∈ C.gs then (C.var x).map fun i => E.gix i k else none) = some c from h)
            obtain ⟨i, h1, rfl⟩ := mapS h
            exact s_gix G h1
          | _ => exact plain (fun _ _ => rfl) h
        | _ => cases a <;> exact plain (fun _ _ => rfl) h
      | Slice lo hi st p2 =>
        cases st with
        | some st => cases a <;> exact plain (fun _ _ => rfl) h
        | none =>
          have h : ((cE C a).bind fun a => (cEO C lo).bind fun lo => (cEO C hi).map fun hi => E.sl a lo hi) = some c := by cases a <;> exact h
          obtain ⟨ca, h1, h⟩ := bindS h
          obtain ⟨cl, h2, h⟩ := bindS h
          obtain ⟨ch, h3, rfl⟩ := mapS h
          simp only [Expr.Slice.sizeOf_spec] at hn
          refine s_sl G (ih a (by omega) G h1) (so_of (C := C) (fun e he c hc => ih e ?_ G hc) h2) (so_of (C := C) (fun e he c hc => ih e ?_ G hc) h3)
          · subst he; simp at hn; omega
          · subst he; simp at hn; omega
      | _ => cases a <;> exact plain (fun _ _ => rfl) h
    | Dict keys es pos =>
      rw [cE.eq_def] at h
      simp only [Expr.Dict.sizeOf_spec] at hn
      obtain ⟨ks, h1, h⟩ := bindS h
      split at h
      · rename_i hc
        obtain ⟨cs, h2, rfl⟩ := mapS h
        exact s_dict G h1 hc.1 hc.2 (ses_of es (fun e he c hc => ih e (mem (by omega) e he) G hc) h2)
      · cases h
    | ListComp elt gs scope pos =>
      cases gs with
      | nil => rw [cE.eq_def] at h; cases h
      | cons g gs =>
        cases gs with
        | cons _ _ => rw [cE] at h; cases h; all_goals simp
        | nil =>
          obtain ⟨tg, iter, ifs, as⟩ := g
          by_cases ha : as = 0
          · subst ha
            have h := cE_lc h
            unfold mkLc at h
            split at h
            · obtain ⟨it, h1, h⟩ := bindS h
              obtain ⟨t, h2, h⟩ := bindS h
              obtain ⟨k, h3, h⟩ := bindS h
              obtain ⟨e, h4, h⟩ := bindS h
              split at h
              · cases h
                simp at hn
                obtain ⟨hi, hs⟩ := i_of (tg := tg) G (fun e he c hc => ih e (by omega) G hc) h1
                exact s_lc G (by assumption) (by assumption) hs hi h2 (fun X' G' => sifs_of (fun e he c hc => ih e (by have := List.sizeOf_lt_of_mem he; omega) G' hc) h3) (fun X' G' => (ih elt (by omega) G' h4).pe)
              · cases h
            · cases h
          · rw [cE] at h; cases h; all_goals simp [ha]
    | Call f es ks pos =>
      cases f with
      | Name f p =>
        cases ks with
        | nil =>
          simp only [Expr.Call.sizeOf_spec] at hn
          rcases cE_call h with ⟨a, b, rfl, h⟩ | ⟨params, body, scope, lpos, rfl, h2⟩ | h
          · exact s_two G (fun c hc => ih a (mem (es := [a, b]) (by omega) a (by simp)) G hc) (fun c hc => ih b (mem (es := [a, b]) (by omega) b (by simp)) G hc) h
          · obtain ⟨hc, h3⟩ := ifS' h2
            simp only [Bool.and_eq_true, decide_eq_true_eq] at hc
            obtain ⟨⟨⟨c1, c2⟩, c3⟩, c4⟩ := hc
            subst c2
            obtain ⟨cb, h1, rfl⟩ := mapS h3
            simp at hn
            exact ⟨G.said c1 params body scope lpos p pos cb c3 c4 fun X' W' G' => (ih body (by omega) (C := C.lamb scope) ⟨G', fun z => by cases z⟩ h1).pe, pt_stuck fun env g => by simp only [evT]; rfl, fun _ _ => rfl⟩
          · exact s_gen G (fun e he c hc => ih e (mem (es := es) (by omega) e he) G hc) (fun g p2 a p3 z c hc => ih a (by subst z; simp at hn; omega) G hc) h
        | cons _ _ => rw [cE] at h; cases h; all_goals simp
      | Attribute o m apos =>
        rw [cE.eq_def] at h
        cases o with
        | Name x p =>
          cases es with
          | nil => cases h
          | cons e es =>
            cases es with
            | cons _ _ => cases h
            | nil =>
              cases ks with
              | cons _ _ => cases h
              | nil =>
                dsimp only at h
                split at h
                · rename_i hc
                  simp only [Bool.and_eq_true, decide_eq_true_eq] at hc
                  obtain ⟨⟨⟨rfl, c2⟩, c3⟩, c4⟩ := hc
                  obtain ⟨d, h1, h⟩ := bindS h
                  split at h
                  · obtain ⟨c, h2, rfl⟩ := mapS h
                    simp at hn
                    exact s_idx G c2 c3 c4 h1 (by assumption) (ih e (by omega) G h2)
                  · cases h
                · cases h
        | List ls lp =>
          cases es with
          | nil => cases h
          | cons e es =>
            cases es with
            | cons _ _ => cases h
            | nil =>
              cases ks with
              | cons _ _ => cases h
              | nil =>
                dsimp only at h
                split at h
                · rename_i hc
                  simp only [Bool.and_eq_true, decide_eq_true_eq] at hc
                  obtain ⟨rfl, c4⟩ := hc
                  obtain ⟨cs, h1, h⟩ := bindS h
                  obtain ⟨c, h2, rfl⟩ := mapS h
                  simp at hn
                  exact s_idl G c4 (s_lst G (ses_of ls (fun e he c hc => ih e (by have := List.sizeOf_lt_of_mem he; omega) G hc) h1)) (ih e (by omega) G h2)
                · cases h
        | _ => cases h
      | _ => rw [cE.eq_def] at h; cases h
    | _ => rw [cE.eq_def] at h; cases h
theorem se_of {S : Sig} {F : Fns} {e : Expr} {X : Cx} {W : WX} {C : Cfg} {c : E} (G : Gd X S W C F) (h : cE C e = some c) : SE X S W F e c := se_all (sizeOf e + 1) e (by omega) G h
end PD
set_option Elab.async false
set_option linter.all false
set_option maxRecDepth 100000
set_option autoImplicit false
namespace PD
open PySem PySem.Spec L2

/-! ### statements -/
inductive Sm where
  | asg (t : Tg) (e : E)
  | par (is : List Nat) (es : List E)
  | asgF (i : Nat) (e : E)
  | ap (i : Nat) (e : E)
  | ret (e : E)
  | retN
  | iff (t : E) (a b : List Sm)
  | for_ (tg : Tg) (it : I) (body : List Sm)
  | whl (t : E) (body : List Sm)
  | raise (c : Str) (e : E)
  | nop | brk | cont | bad
  | expr (e : E)
  | gput (i : Nat) (k : Str) (e : E)
  | fr (is : List Nat) (s : Sm)
inductive Fl where
  | nx (e : Env)
  | rt (d : D)
  | bk (e : Env)
  | ct (e : Env)
/-- an own list becomes data -/
def frz1 (env : Env) (i : Nat) : Env := match env[i]? with
  | some (.ow ds) => env.set i (.fz (.list ds))
  | _ => env
def freezeE (env : Env) : List Nat → Env
  | [] => env
  | i :: is => freezeE (frz1 env i) is
def seqS : Vl → Option (List D)
  | .d (.list xs) => some xs
  | .d (.tuple xs) => some xs
  | _ => none
def seqJ : Vl → Option (List D)
  | .sc ns => some (ns.map .int)
  | x => seqS x
/-- what a for walks over: no list of its own -/
def evJ (F : Fns) : I → Env → M (List D)
  | .e e, env => (ev F e env).bd fun x => .ofO (seqJ x)
  | .enum a, env => (ev F a env).bd fun x => (M.ofO (seqS x)).bd fun ds => .pu (enumD 0 ds)
  | it, env => evI F it env
def gpD (s : Option Sl) (k : Str) (d : D) (env : Env) : M Fl := fun g => match s with
  | some .gn => (match gSet k d g with
    | some g' => .ok (.nx env) g'
    | none => .st)
  | _ => .st
/-- a fresh list -/
def evFr (F : Fns) : E → Env → M (List D)
  | .lst es, env => (evs F es env).bd fun xs => (M.ofO (xs.mapM dOf)).bd fun ds => if ds.length ≤ sizeLine then .pu ds else .stuck
  | .bin .Add a b, env => (ev F a env).bd fun x => (ev F b env).bd fun y => .ofO (match asD x, asD y with
    | some (.list i), some (.list j) => if i.length + j.length ≤ sizeLine then some (i ++ j) else none
    | _, _ => none)
  | _, _ => .stuck
def forB (tg : Tg) (body : Env → M Fl) : List D → Env → M Fl
  | [], env => .pu (.nx env)
  | d :: ds, env => (M.ofO (setTg env tg d)).bd fun env' => (body env').bd fun r => match r with
    | .nx e => forB tg body ds e
    | .ct e => forB tg body ds e
    | .bk e => .pu (.nx e)
    | .rt d => .pu (.rt d)
def whB (test : Env → M Bool) (body : Env → M Fl) : Nat → Env → M Fl
  | 0, _ => .stuck
  | n + 1, env => (test env).bd fun k => if k then (body env).bd fun r => (match r with
    | .nx e => whB test body n e
    | .ct e => whB test body n e
    | .bk e => .pu (.nx e)
    | .rt d => .pu (.rt d)) else .pu (.nx env)
mutual
def exS (F : Fns) (n : Nat) : Sm → Env → M Fl
  | .asg t e, env => (ev F e env).bd fun x => (solid x).bd fun d => (M.ofO (setTg env t d)).bd fun env' => .pu (.nx env')
  | .par is es, env => (evs F es env).bd fun xs => (M.ofO (xs.mapM dOf)).bd fun ds => (M.ofO (setTgs env is ds)).bd fun env' => .pu (.nx env')
  | .asgF i e, env => (evFr F e env).bd fun ds => if i < env.length then .pu (.nx (env.set i (.ow ds))) else .stuck
  | .ap i e, env => (match env[i]? with
    | some (.ow ds) => (ev F e env).bd fun x => (solid x).bd fun d => if ds.length < sizeLine then .pu (.nx (env.set i (.ow (ds ++ [d])))) else .stuck
    | _ => .stuck)
  | .ret e, env => (ev F e env).bd fun x => (solid x).bd fun d => .pu (.rt d)
  | .retN, _ => .pu (.rt .none)
  | .iff t a b, env => (evT F t env).bd fun k => if k then exSs F n a env else exSs F n b env
  | .for_ tg it body, env => (evJ F it env).bd fun ds => forB tg (exSs F n body) ds env
  | .whl t body, env => whB (evT F t) (exSs F n body) n env
  | .raise c e, env => (ev F e env).bd fun x => (solid x).bd fun d => M.raise c d
  | .nop, env => .pu (.nx env)
  | .brk, env => .pu (.bk env)
  | .cont, env => .pu (.ct env)
  | .bad, _ => .stuck
  | .expr e, env => (ev F e env).bd fun _ => .pu (.nx env)
  | .gput i k e, env => (ev F e env).bd fun x => (solid x).bd fun d => gpD env[i]? k d env
  | .fr is s, env => exS F n s (freezeE env is)
termination_by structural s => s
def exSs (F : Fns) (n : Nat) : List Sm → Env → M Fl
  | [], env => .pu (.nx env)
  | s :: r, env => (exS F n s env).bd fun x => match x with
    | .nx e => exSs F n r e
    | .rt d => .pu (.rt d)
    | .bk e => .pu (.bk e)
    | .ct e => .pu (.ct e)
termination_by structural s => s
end

/-! ### what is wanted of a statement -/
def PstS (S : Sig) (W : WX) (He H0e Hs : Hp) (D : Ends) : Rs Fl → Prop
  | .ok (.nx env') g' => ∀ σ' H0' H', Rl S env' g' σ' He H0e H0' H' → Same Hs H0' → D.nx σ' H'
  | .ok (.bk env') g' => ∀ σ' H0' H', Rl S env' g' σ' He H0e H0' H' → Same Hs H0' → D.bk σ' H'
  | .ok (.ct env') g' => ∀ σ' H0' H', Rl S env' g' σ' He H0e H0' H' → Same Hs H0' → D.ct σ' H'
  | .ok (.rt d) g' => ∀ v H0' H', Aft S g' H0e He H0' H' → Dr S.K H0' v d → D.rt v H'
  | .er c d g' => ∀ dx v σ H0' H', Aft S g' H0e He H0' H' → H' dx = some (.xd [(S.at_ c, v)]) → Dr S.K H0' v d → W (.ref (S.cl c)) (some dx) σ H'
  | .st => False
def RS (S : Sig) (W : WX) (f : Env → M Fl) : TS := fun D σ H => ∃ env g He H0e H0, Rl S env g σ He H0e H0 H ∧ PstS S W He H0e H0 D (f env g)
section
variable {S : Sig} {W : WX} {env : Env} {g g' : Gen} {σ : L2.St} {He H0e H0 H H0' H' Hs Hs' : Hp} {D : Ends}
theorem Rl.aft (R : Rl S env g σ He H0e H0 H) (a : Aft S g' H0 H H0' H') : Aft S g' H0e He H0' H' := ⟨R.stp.trans a.stp, a.sub, a.gen, a.tabs⟩
theorem PstS.mono {r : Rs Fl} (h : PstS S W He H0e Hs D r) (s : Same Hs Hs') : PstS S W He H0e Hs' D r := by
  unfold PstS at h ⊢
  split at h
  · exact fun σ' H0' H' R q => h σ' H0' H' R (s.trans q)
  · exact fun σ' H0' H' R q => h σ' H0' H' R (s.trans q)
  · exact fun σ' H0' H' R q => h σ' H0' H' R (s.trans q)
  · exact h
  · exact h
  · exact h
theorem PstS.bd {α β : Type} {rel : Hp → Hp → β → α → Prop} {Kt : β → Hp → Prop} {m : M α} {k : α → M Fl} (R : Rl S env g σ He H0e H0 H) (h : PstS S W He H0e Hs D ((m.bd k) g))
    (hk : ∀ x g' v H0' H', Aft S g' H0 H H0' H' → rel H0' H' v x → PstS S W He H0e Hs D (k x g') → Kt v H') : Pst S W σ H0 H rel Kt (m g) := by
  unfold M.bd at h
  cases e : m g with
  | st => rw [e] at h; exact h
  | er c d g' => rw [e] at h; exact fun dx v H0' H' a q1 q2 => h dx v σ H0' H' (R.aft a) q1 q2
  | ok x g' => rw [e] at h; exact fun v H0' H' a r => hk x g' v H0' H' a r h
/-- a statement, and what comes behind it -/
theorem PstS.sq {D' : Ends} {k : Fl → M Fl} {m : M Fl} (h : PstS S W He H0e Hs D ((m.bd k) g))
    (hk : ∀ x g', PstS S W He H0e Hs D (k x g') → PstS S W He H0e Hs' D' (.ok x g')) : PstS S W He H0e Hs' D' (m g) := by
  unfold M.bd at h
  cases e : m g with
  | st => rw [e] at h; exact h
  | er c d g' => rw [e] at h; exact h
  | ok x g' => rw [e] at h; exact hk x g' h
theorem Rl.frz (R : Rl S env g σ He H0e H0 H) (i : Nat) : ∃ H0', Rl S (frz1 env i) g σ He H0e H0' H ∧ Same H0 H0' := by
  unfold frz1
  split
  · rename_i ds e
    obtain ⟨o, e1, a, xs, e2, e3, e4, e5, e6⟩ := R.slots i _ e
    subst e2
    have sm : Same H0 (upd H0 a (.lst xs)) := same_new e4
    have hi : i < env.length := (List.getElem?_eq_some_iff.mp e).1
    refine ⟨upd H0 a (.lst xs), ⟨⟨R.stp.s0.trans sm, R.stp.fr, R.stp.th, fun b q => ?_, fun b ps q => ?_⟩, fun b u q => ?_, ?_, ?_, R.tabs, fun b ps q => ?_, fun j s q => ?_, fun j k b hne h1 h2 h3 => ?_⟩, sm⟩
    · by_cases z : b = a
      · subst z; exact .inr e5
      · rw [upd_ne z] at q; exact R.stp.fresh b q
    · by_cases z : b = a
      · subst z; rw [upd_same] at q; cases q
      · rw [upd_ne z] at q; exact R.stp.nt b ps q
    · by_cases z : b = a
      · subst z; rw [upd_same] at q; rw [e3]; exact q
      · rw [upd_ne z] at q; exact R.sub b u q
    · intro q hq
      obtain ⟨gl, k1, k2⟩ := R.gen q hq
      exact ⟨gl, k1, sm _ _ k2⟩
    · intro p hp
      rw [upd_ne (fun z => R.gen.nlst e3 (by rw [hp, z]))]; exact R.ngen p hp
    · by_cases z : b = a
      · subst z; rw [upd_same] at q; cases q
      · rw [upd_ne z] at q; exact R.ntbl b ps q
    · by_cases z : j = i
      · subst z
        rw [List.getElem?_set_self hi] at q
        cases q
        exact ⟨_, e1, _, rfl, Dr.lst upd_same (e6.same sm)⟩
      · rw [List.getElem?_set_ne (Ne.symm z)] at q
        obtain ⟨o, k1, k2⟩ := R.slots j s q
        refine ⟨o, k1, ?_⟩
        cases s with
        | un => trivial
        | fz d => obtain ⟨v, l1, l2⟩ := k2; exact ⟨v, l1, l2.same sm⟩
        | gn => exact k2
        | sc ns => obtain ⟨b, l1, l2⟩ := k2; exact ⟨b, l1, sqL_same sm l2⟩
        | ow es =>
          obtain ⟨b, ys, l1, l2, l3, l4, l5⟩ := k2
          subst l1
          have nb : b ≠ a := fun z2 => by
            subst z2
            exact R.own i j b (Ne.symm z) ⟨_, e⟩ ⟨_, q⟩ e1 k1
          exact ⟨b, ys, rfl, l2, by rw [upd_ne nb]; exact l3, l4, l5.same sm⟩
    · have nj : ∀ {m : Nat}, (∃ es, (env.set i (.fz (.list ds)))[m]? = some (.ow es)) → ∃ es, env[m]? = some (.ow es) := fun {m} ⟨es, q⟩ => by
        by_cases hm : m = i
        · subst hm; rw [List.getElem?_set_self hi] at q; cases q
        · rw [List.getElem?_set_ne (Ne.symm hm)] at q; exact ⟨es, q⟩
      exact R.own j k b hne (nj h1) (nj h2) h3
  · exact ⟨H0, R, Same.refl _⟩
theorem Rl.freeze : ∀ (is : List Nat) {env : Env} {H0 : Hp}, Rl S env g σ He H0e H0 H → ∃ H0', Rl S (freezeE env is) g σ He H0e H0' H ∧ Same H0 H0'
  | [], _, _, R => ⟨_, R, Same.refl _⟩
  | i :: is, _, _, R => by
    obtain ⟨H1, R1, s1⟩ := R.frz i
    obtain ⟨H2, R2, s2⟩ := Rl.freeze is R1
    exact ⟨H2, R2, s1.trans s2⟩
end
end PD
set_option Elab.async false
set_option linter.all false
set_option maxRecDepth 100000
set_option autoImplicit false
namespace PD
open PySem PySem.Spec L2

section
variable {X : Cx} {S : Sig} {W : WX} {C : Cfg} {F : Fns} {pos : Pos} {N : Nat}
abbrev SS (X : Cx) (S : Sig) (W : WX) (F : Fns) (N : Nat) (st : Stmt) (s : Sm) : Prop := PS X st (RS S W (exS F N s))
abbrev SSs (X : Cx) (S : Sig) (W : WX) (F : Fns) (N : Nat) (st : List Stmt) (s : List Sm) : Prop := PSs X st (RS S W (exSs F N s))
theorem RSeq {st : Stmt} {f f' : Env → M Fl} (h : PS X st (RS S W f)) (q : ∀ env, f' env = f env) : PS X st (RS S W f') := by
  have : f' = f := funext q
  rw [this]; exact h
/-- target = value -/
theorem st_asg {tg e : Expr} {t : Tg} {c : E} (he : SE X S W F e c) (hg : PG X tg (gD S t)) (hs : swapsWithSole [tg] e pos.line X.env = pure false) (hw : swappedStores [tg] e X.env = pure none)
    (h1 : (assignEach [tg] X.env).map (·.2) = [assign tg X.env]) : SS X S W F N (.Assign [tg] e pos) (.asg t c) := by
  refine PS.weak (ps_asg he.pe hg hs hw h1) fun D σ H q => ?_
  obtain ⟨env, g, He, H0e, H0, R, q⟩ := q
  simp only [exS] at q
  refine ⟨env, g, He, H0e, H0, R, PstS.bd R q fun x g1 v H1 H1' a1 r1 h1 => ?_⟩
  have R1 := R.step a1
  cases x with
  | gn => exact h1.elim
  | sc _ => exact h1.elim
  | bo ds => exact h1.elim
  | d d =>
    have h1 : PstS S W He H0e H0 D (((M.ofO (setTg env t d)).bd fun env' => M.pu (.nx env')) g1) := h1
    cases e1 : setTg env t d with
    | none => rw [e1] at h1; exact h1.elim
    | some env' =>
      rw [e1] at h1
      exact ⟨env, g1, He, H0e, H1, d, env', R1, r1, e1, fun σ' _ _ R' => h1 σ' H1 H1' R' a1.stp.s0⟩
/-- name = [.. for ..] on one line -/
theorem st_lcset {elt tg iter : Expr} {ifs : List Expr} {scope : Scope} {lp py : Pos} {x : Str} {i : Nat} {t : Tg} {it : I} {k : Option E} {e : E} (G : Gd X S W C F) (hx : C.slot x = some i)
    (hl : X.env.scope.names.lookup x = some .local) (hsw : swapsWith (.ListComp elt [⟨tg, iter, ifs, 0⟩] scope lp) (some (.Name x py)) pos.line X.env = pure true)
    (hb : blkC C.N C.sc scope (ownOf C.N scope) = true) (hw : (tgIx t).all (fun i => decide (i ∈ (ownOf C.N scope).map Prod.snd)) = true)
    (hs : ∀ x, foldedSetIterable iter X.env x = pure x)
    (hi : PI X tg iter (RI S W (evI F it))) (ht : cTg (C.tgt scope) tg = some t)
    (hk : ∀ X', Gd X' S W0 (C.inn scope) F → PTs X' ifs (RT S W0 (evOT F k)))
    (he : ∀ X', Gd X' S W0 (C.inn scope) F → PE X' elt (RE S W0 (ev F e))) :
    SS X S W F N (.Assign [.Name x py] (.ListComp elt [⟨tg, iter, ifs, 0⟩] scope lp) pos) (.asg (.n i) (.lc t it k e ((ownOf C.N scope).map Prod.snd))) := by
  have nd : X.N.Nodup := by rw [G.hN]; exact G.nd
  have hx' : ixOf C.N x = some i := by
    unfold Cfg.slot at hx
    split at hx
    · exact hx
    · cases hx
  refine PS.weak (ps_setLc (i := i) G.calm nd (by rw [G.hN]; exact ixOf_get hx') hl hsw hi (own := ownOf C.N scope) (by rw [G.hN, G.hsc]; exact blkOk_by hb)
    (fun s H Ca cl fp => g_tg (S := S) nd G.calm G.hK (StOk.blk G hb s H Ca cl fp) ht)
    (fun s H Ca cl fp => hk _ (G.blk s H Ca cl fp)) (fun s H Ca cl fp => he _ (G.blk s H Ca cl fp)) hs) fun D σ H q => ?_
  obtain ⟨env, g, He, H0e, H0, R, q⟩ := q
  simp only [exS] at q
  -- as a value
  have q2 : Pst S W σ H0 H (VR S) (fun v H' => D.nx (σ.set i (some v)) H') (ev F (.lc t it k e ((ownOf C.N scope).map Prod.snd)) env g) := by
    refine PstS.bd R q fun x g1 v H1 H1' a1 r1 h1 => ?_
    cases x with
    | gn => exact h1.elim
    | sc _ => exact h1.elim
    | bo ds => exact h1.elim
    | d d =>
      have h1 : PstS S W He H0e H0 D (((M.ofO (if i < env.length then some (env.set i (.fz d)) else none)).bd fun env' => M.pu (.nx env')) g1) := h1
      split at h1
      · exact h1 _ H1 H1' ((R.step a1).set (by assumption) r1) a1.stp.s0
      · exact h1.elim
  simp only [ev] at q2
  refine ⟨env, g, He, H0e, H0, R, Pst.bd q2 fun ds g1 J H1 H1' a1 r1 h1 => ?_⟩
  obtain ⟨o, wk, hold⟩ := r1
  exact lc_read (R.step a1) wk hold (fun i hi => by
    have := List.all_eq_true.mp hw i hi
    simpa using this) h1
/-- return e -/
theorem st_ret {e : Expr} {c : E} (he : SE X S W F e c) : SS X S W F N (.Return (some e) pos) (.ret c) := by
  refine PS.weak (ps_ret he.pe) fun D σ H q => ?_
  obtain ⟨env, g, He, H0e, H0, R, q⟩ := q
  simp only [exS] at q
  refine ⟨env, g, He, H0e, H0, R, PstS.bd R q fun x g1 v H1 H1' a1 r1 h1 => ?_⟩
  cases x with
  | gn => exact h1.elim
  | sc _ => exact h1.elim
  | bo ds => exact h1.elim
  | d d => exact h1 v H1 H1' (R.aft a1) r1
theorem st_retN : SS X S W F N (.Return none pos) .retN := PS.weak ps_retN fun D σ H q => by
  obtain ⟨env, g, He, H0e, H0, R, q⟩ := q
  simp only [exS] at q
  exact q .non H0 H (R.aft (Aft.refl R)) .non
theorem st_nop {st : Stmt} (h : PS X st tNext) : SS X S W F N st .nop := PS.weak h fun D σ H q => by
  obtain ⟨env, g, He, H0e, H0, R, q⟩ := q
  simp only [exS] at q
  exact q σ H0 H R (Same.refl _)
theorem st_bad {st : Stmt} : SS X S W F N st .bad := ⟨fun pins s σ H D I q => by
  obtain ⟨env, g, He, H0e, H0, R, q⟩ := q
  simp only [exS] at q
  exact q.elim⟩
theorem st_brk : SS X S W F N (.Break pos) .brk := PS.weak ps_break fun D σ H q => by
  obtain ⟨env, g, He, H0e, H0, R, q⟩ := q
  simp only [exS] at q
  exact q σ H0 H R (Same.refl _)
theorem st_cont : SS X S W F N (.Continue pos) .cont := PS.weak ps_continue fun D σ H q => by
  obtain ⟨env, g, He, H0e, H0, R, q⟩ := q
  simp only [exS] at q
  exact q σ H0 H R (Same.refl _)
theorem st_expr {e : Expr} {c : E} (he : SE X S W F e c) (hs : swapsWith e none pos.line X.env = pure false) : SS X S W F N (.Expr e pos) (.expr c) := by
  refine PS.weak (ps_expr he.pe hs) fun D σ H q => ?_
  obtain ⟨env, g, He, H0e, H0, R, q⟩ := q
  simp only [exS] at q
  exact ⟨env, g, He, H0e, H0, R, PstS.bd R q fun x g1 v H1 H1' a1 r1 h1 => h1 σ H1 H1' (R.step a1) a1.stp.s0⟩
theorem st_if {t : Expr} {a b : List Stmt} {ct : E} {ca cb : List Sm} (ht : SE X S W F t ct) (ha : SSs X S W F N a ca) (hb : SSs X S W F N b cb) : SS X S W F N (.If t a b pos) (.iff ct ca cb) := by
  refine PS.weak (ps_if ht.pt ha hb) fun D σ H q => ?_
  obtain ⟨env, g, He, H0e, H0, R, q⟩ := q
  simp only [exS] at q
  refine ⟨env, g, He, H0e, H0, R, PstS.bd R q fun x g1 v H1 H1' a1 r1 h1 => ?_⟩
  have r1 : v = x := r1
  subst r1
  have h1 := h1.mono a1.stp.s0
  cases v with
  | true => exact iteT ⟨env, g1, He, H0e, H1, R.step a1, h1⟩
  | false => exact iteF ⟨env, g1, He, H0e, H1, R.step a1, h1⟩
theorem st_fr {st : Stmt} {is : List Nat} {s : Sm} (h : SS X S W F N st s) : SS X S W F N st (.fr is s) := PS.weak h fun D σ H q => by
  obtain ⟨env, g, He, H0e, H0, R, q⟩ := q
  simp only [exS] at q
  obtain ⟨H1, R1, s1⟩ := R.freeze is
  exact ⟨_, g, He, H0e, H1, R1, q.mono s1⟩
theorem sts_nil : SSs X S W F N [] [] := PSs.weak pss_nil fun D σ H q => by
  obtain ⟨env, g, He, H0e, H0, R, q⟩ := q
  simp only [exSs] at q
  exact q σ H0 H R (Same.refl _)
theorem sts_cons {st : Stmt} {r : List Stmt} {s : Sm} {ss : List Sm} (h : SS X S W F N st s) (hr : SSs X S W F N r ss) : SSs X S W F N (st :: r) (s :: ss) := by
  refine PSs.weak (pss_cons h hr) fun D σ H q => ?_
  obtain ⟨env, g, He, H0e, H0, R, q⟩ := q
  simp only [exSs] at q
  refine ⟨env, g, He, H0e, H0, R, PstS.sq q fun x g1 h1 => ?_⟩
  cases x with
  | nx e => exact fun σ' H0' H' R' s' => ⟨e, g1, He, H0e, H0', R', h1.mono s'⟩
  | rt d => exact h1
  | bk e => exact h1
  | ct e => exact h1
/-- while -/
theorem st_whl {t : Expr} {b : List Stmt} {ct : E} {cb : List Sm} (G : Gd X S W C F) (ht : SE X S W F t ct) (hb : SSs X S W F N b cb) : SS X S W F N (.While t b [] pos) (.whl ct cb) := by
  refine PS.weak (ps_while G.own ht.pt hb) fun D σ H q => ?_
  obtain ⟨env, g, He, H0e, H0, R, q⟩ := q
  simp only [exS] at q
  refine ⟨fun m σ H => ∃ env g H1, Rl S env g σ He H0e H1 H ∧ Same H0 H1 ∧ PstS S W He H0e H0 D (whB (evT F ct) (exSs F N cb) m env g), ⟨N, env, g, H0, R, Same.refl _, q⟩, ?_⟩
  rintro m σ1 H1' ⟨env1, g1, H1, R1, s1, q1⟩
  cases m with
  | zero => exact q1.elim
  | succ m =>
    have q1 : PstS S W He H0e H0 D (((evT F ct env1).bd fun k => if k then (exSs F N cb env1).bd fun r => (match r with
      | .nx e => whB (evT F ct) (exSs F N cb) m e
      | .ct e => whB (evT F ct) (exSs F N cb) m e
      | .bk e => .pu (.nx e)
      | .rt d => .pu (.rt d)) else .pu (.nx env1)) g1) := q1
    refine ⟨env1, g1, He, H0e, H1, R1, PstS.bd R1 q1 fun x g2 v H2 H2' a2 r2 h2 => ?_⟩
    have r2 : v = x := r2
    subst r2
    have R2 := R1.step a2
    have s2 := s1.trans a2.stp.s0
    cases v with
    | false => exact iteF (h2 σ1 H2 H2' R2 s2)
    | true =>
      refine iteT ⟨fun σ' H' => ∃ env g H1, Rl S env g σ' He H0e H1 H' ∧ Same H0 H1 ∧ PstS S W He H0e H0 D (whB (evT F ct) (exSs F N cb) m env g), fun σ' H' n => ⟨m, by omega, n⟩, env1, g2, He, H0e, H2, R2, ?_⟩
      have h2 : PstS S W He H0e H0 D (((exSs F N cb env1).bd fun r => (match r with
      | .nx e => whB (evT F ct) (exSs F N cb) m e
      | .ct e => whB (evT F ct) (exSs F N cb) m e
      | .bk e => .pu (.nx e)
      | .rt d => .pu (.rt d))) g2) := h2
      refine PstS.sq h2 fun x g3 h3 => ?_
      cases x with
      | nx e => exact fun σ' H0' H' R' s' => ⟨e, g3, H0', R', s2.trans s', h3⟩
      | ct e => exact fun σ' H0' H' R' s' => ⟨e, g3, H0', R', s2.trans s', h3⟩
      | bk e => exact fun σ' H0' H' R' s' => h3 σ' H0' H' R' (s2.trans s')
      | rt d => exact h3
/-! ### for -/
def relJ (S : Sig) : Hp → Hp → It → List PD.D → Prop := fun H0 _ J ds => WkD S J none H0 ds
abbrev RJ (S : Sig) (W : WX) (f : Env → M (List PD.D)) : TI := RX S W (relJ S) f
/-- what a range walks: nothing borrowed -/
theorem j_e {tg l : Expr} {c : E} (G : Gd X S W C F) (h : SE X S W F l c) : PI X tg l (RJ S W (evJ F (.e c))) := by
  refine PI.weak (pi_seq h.pe) fun σ H R q => ?_
  unfold evJ at q
  obtain ⟨env, g, He, H0e, H0, R0, q⟩ := q
  refine ⟨env, g, He, H0e, H0, R0, Pst.bd q fun x g1 v H1 H1' a1 r1 h1 => ?_⟩
  rw [G.hK]
  have R1 := R0.step a1
  cases x with
  | gn => exact h1.elim
  | sc ns =>
    obtain ⟨a, rfl, e1⟩ := r1
    exact ⟨a, rfl, .inl ⟨_, sqL_same a1.sub e1, h1 _ H1 H1' (Aft.refl R1) (wk_sq e1 (int_all ns))⟩⟩
  | bo ds => exact h1.elim
  | d d =>
    cases d with
    | list ds =>
      obtain ⟨a, xs, rfl, e1, e2⟩ := Dr.lst_inv r1
      exact ⟨a, rfl, .inl ⟨xs, SqL.of (a1.sub _ _ e1), h1 _ H1 H1' (Aft.refl R1) (wk_lst0 e1 e2)⟩⟩
    | tuple ds =>
      obtain ⟨a, xs, rfl, e1, e2⟩ := Dr.tup_inv r1
      exact ⟨a, rfl, .inr ⟨xs, sqT_same a1.sub e1, h1 _ H1 H1' (Aft.refl R1) (wk_tup e1 e2)⟩⟩
    | _ => exact h1.elim
theorem j_enum {a : Expr} {elts : List Expr} {kk : Nat} {tpos p pos : Pos} {c : E} (G : Gd X S W C F) (hg : glB C.sc "enumerate" = true) (h : SE X S W F a c) : PI X (.Tuple elts kk tpos) (.Call (.Name "enumerate" p) [a] [] pos) (RJ S W (evJ F (.enum c))) := by
  have hst : starEach [a] X.env = [(false, eval a X.env)] := h.ns _ _
  refine PI.weak (pi_enumA (gl_of G.hsc hg) (G.blt _ (by simp [bltNames])) (pa_cons h.pe pa_nil (h.ns _ _)) hst) fun σ H R q => ?_
  unfold evJ at q
  obtain ⟨env, g, He, H0e, H0, R0, q⟩ := q
  refine ⟨env, g, He, H0e, H0, R0, Pst.bd q fun x g1 v H1 H1' a1 r1 h1 => ?_⟩
  rw [G.hK]
  have R1 := R0.step a1
  cases x with
  | gn => exact h1.elim
  | sc _ => exact h1.elim
  | bo ds => exact h1.elim
  | d d =>
    cases d with
    | list ds =>
      obtain ⟨b, xs, rfl, e1, e2⟩ := Dr.lst_inv r1
      exact ⟨b, rfl, .inl ⟨xs, SqL.of (a1.sub _ _ e1), h1 _ H1 H1' (Aft.refl R1) (wk_enumL0 e1 e2)⟩⟩
    | tuple ds =>
      obtain ⟨b, xs, rfl, e1, e2⟩ := Dr.tup_inv r1
      exact ⟨b, rfl, .inr ⟨xs, sqT_same a1.sub e1, h1 _ H1 H1' (Aft.refl R1) (wk_enumT e1 e2)⟩⟩
    | _ => exact h1.elim
theorem j_rng1 {tg a : Expr} {p pos : Pos} {c : E} (G : Gd X S W C F) (hg : glB C.sc "range" = true) (h : SE X S W F a c) : PI X tg (.Call (.Name "range" p) [a] [] pos) (RJ S W (evJ F (.rng1 c))) := by
  have hst : starEach [a] X.env = [(false, eval a X.env)] := h.ns _ _
  refine PI.weak (pi_range1 (gl_of G.hsc hg) (G.blt _ (by simp [bltNames])) (pa_cons h.pe pa_nil (h.ns _ _)) hst) fun σ H R q => ?_
  unfold evJ at q
  simp only [evI] at q
  obtain ⟨env, g, He, H0e, H0, R0, q⟩ := q
  refine ⟨env, g, He, H0e, H0, R0, Pst.bd q fun x g1 v H1 H1' a1 r1 h1 => ?_⟩
  have R1 := R0.step a1
  obtain ⟨j, rfl, rfl, h3⟩ := toInt_bd r1 h1
  clear h1
  unfold rngD at h3
  split at h3
  · rename_i hb
    refine ⟨j, rfl, hb.2.2.1, hb.2.2.2, ?_⟩
    have e : (j - 0).toNat = j.toNat := by omega
    rw [e] at h3
    exact h3 _ H1 H1' (Aft.refl R1) wk_rng
  · exact h3.elim
theorem j_rng2 {tg a b : Expr} {p pos : Pos} {c d : E} (G : Gd X S W C F) (hg : glB C.sc "range" = true) (h : SE X S W F a c) (h' : SE X S W F b d) : PI X tg (.Call (.Name "range" p) [a, b] [] pos) (RJ S W (evJ F (.rng2 c d))) := by
  have hst2 : starEach [b] X.env = [(false, eval b X.env)] := h'.ns _ _
  have hst : starEach [a, b] X.env = [(false, eval a X.env), (false, eval b X.env)] := by rw [h.ns, hst2]
  refine PI.weak (pi_range2 (gl_of G.hsc hg) (G.blt _ (by simp [bltNames])) (pa_cons h.pe (pa_cons h'.pe pa_nil (h'.ns _ _)) (h.ns _ _)) hst hst2) fun σ H R q => ?_
  unfold evJ at q
  simp only [evI] at q
  obtain ⟨env, g, He, H0e, H0, R0, q⟩ := q
  refine ⟨env, g, He, H0e, H0, R0, Pst.bd q fun x g1 v H1 H1' a1 r1 h1 => ?_⟩
  have R1 := R0.step a1
  refine ⟨env, g1, He, H0e, H1, R1, Pst.bd h1 fun y g2 w H2 H2' a2 r2 h2 => ?_⟩
  have R2 := R1.step a2
  obtain ⟨i, rfl, rfl, h3⟩ := toInt_bd (r1.step R1.gen a2) h2
  clear h2
  obtain ⟨j, rfl, rfl, h4⟩ := toInt_bd r2 h3
  clear h3
  unfold rngD at h4
  split at h4
  · rename_i hb
    exact ⟨i, j, rfl, hb, h4 _ H2 H2' (Aft.refl R2) wk_rng⟩
  · exact h4.elim
theorem st_for {tg iter : Expr} {b : List Stmt} {t : Tg} {it : I} {cb : List Sm} (G : Gd X S W C F) (hi : PI X tg iter (RJ S W (evJ F it))) (hg : PG X tg (gD S t)) (hb : SSs X S W F N b cb)
    (hs : ∀ x, foldedSetIterable iter X.env x = pure x) : SS X S W F N (.For tg iter b [] pos) (.for_ t it cb) := by
  refine PS.weak (ps_for G.own G.calm hi hg hb (by first | exact hs | skip)) fun D σ H q => ?_
  obtain ⟨env, g, He, H0e, H0, R, q⟩ := q
  simp only [exS] at q
  refine ⟨env, g, He, H0e, H0, R, PstS.bd R q fun ds g1 J H1 H1' a1 wk h1 => ?_⟩
  have wk : WkD S J none H1 ds := wk
  refine ⟨fun i m σ H => m = ds.length - i ∧ i ≤ ds.length ∧ ∃ env g H2, Rl S env g σ He H0e H2 H ∧ Same H1 H2 ∧ PstS S W He H0e H1 D (forB t (exSs F N cb) (ds.drop i) env g),
    ⟨ds.length, by simp, Nat.zero_le _, env, g1, H1, R.step a1, Same.refl _, by rw [List.drop_zero]; exact h1.mono a1.stp.s0⟩, ?_⟩
  rintro i m σ1 H2' ⟨rfl, hile, env1, g2, H2, R2, s2, q2⟩
  by_cases hlt : i < ds.length
  · have eds : ds.drop i = ds[i] :: ds.drop (i + 1) := List.drop_eq_getElem_cons hlt
    have hget : ds[i]? = some ds[i] := by simp [hlt]
    refine .inr ⟨wk.goes i H2 H2' s2 R2.sub trivial hlt, fun σ' H' => ∃ env g H3, Rl S env g σ' He H0e H3 H' ∧ Same H1 H3 ∧ PstS S W He H0e H1 D (forB t (exSs F N cb) (ds.drop (i + 1)) env g), fun σ' H' n => ⟨ds.length - (i + 1), by omega, rfl, hlt, n⟩, fun x H' y => ?_⟩
    obtain ⟨H3, a3, hxd⟩ : ∃ H3, Aft S g2 H2 H2' H3 H' ∧ Dr S.K H3 x ds[i] := by
      rcases wk.yields i ds[i] H2 H2' x H' s2 R2.sub trivial hget y with ⟨rfl, hd⟩ | ⟨p, u, hpn, hut, rfl, hd⟩
      · exact ⟨H2, Aft.same R2.sub R2.gen R2.tabs, hd⟩
      · exact ⟨_, Aft.new R2.sub R2.gen R2.tabs hpn hut, hd⟩
    have R3 := R2.step a3
    rw [eds] at q2
    have q2 : PstS S W He H0e H1 D (((M.ofO (setTg env1 t ds[i])).bd fun env' => (exSs F N cb env').bd fun r => match r with
      | .nx e => forB t (exSs F N cb) (ds.drop (i + 1)) e
      | .ct e => forB t (exSs F N cb) (ds.drop (i + 1)) e
      | .bk e => .pu (.nx e)
      | .rt d => .pu (.rt d)) g2) := q2
    cases es : setTg env1 t ds[i] with
    | none => rw [es] at q2; exact q2.elim
    | some env' =>
      rw [es] at q2
      refine ⟨env1, g2, He, H0e, H3, ds[i], env', R3, hxd, es, fun σ2 _ _ R4 => ⟨env', g2, He, H0e, H3, R4, ?_⟩⟩
      have q2 : PstS S W He H0e H1 D (((exSs F N cb env').bd fun r => match r with
        | .nx e => forB t (exSs F N cb) (ds.drop (i + 1)) e
        | .ct e => forB t (exSs F N cb) (ds.drop (i + 1)) e
        | .bk e => .pu (.nx e)
        | .rt d => .pu (.rt d)) g2) := q2
      have s3 := s2.trans a3.stp.s0
      refine PstS.sq q2 fun x g3 h3 => ?_
      cases x with
      | nx e => exact fun σ' H0' H' R' s' => ⟨e, g3, H0', R', s3.trans s', h3⟩
      | ct e => exact fun σ' H0' H' R' s' => ⟨e, g3, H0', R', s3.trans s', h3⟩
      | bk e => exact fun σ' H0' H' R' s' => h3 σ' H0' H' R' (s3.trans s')
      | rt d => exact h3
  · have e7 : i = ds.length := by omega
    subst e7
    rw [List.drop_length] at q2
    exact .inl ⟨wk.stops H2 H2' s2 R2.sub trivial, q2 σ1 H2 H2' R2 s2⟩
end
end PD
set_option Elab.async false
set_option linter.all false
set_option maxRecDepth 100000
set_option autoImplicit false
namespace PD
open PySem PySem.Spec L2

section
variable {X : Cx} {S : Sig} {W : WX} {C : Cfg} {F : Fns} {pos : Pos} {N : Nat}
theorem slot_ix {x : Str} {i : Nat} (G : Gd X S W C F) (h : C.slot x = some i) : X.N[i]? = some x := by
  rw [G.hN]
  unfold Cfg.slot at h
  split at h
  · exact ixOf_get h
  · cases h
theorem ifS {c : Prop} [Decidable c] {α : Type} {o : Option α} {z : α} (e : (if c then o else none) = some z) : c ∧ o = some z := by
  split at e
  · exact ⟨by assumption, e⟩
  · cases e
/-- a, b = x, y -/
theorem st_par2 {x y : Str} {i j : Nat} {a b : Expr} {ca cb : E} {px py pt pt2 : Pos} {kt k2 : Nat} (G : Gd X S W C F) (hi : C.slot x = some i) (hj : C.slot y = some j) (hij : i ≠ j)
    (hx : X.env.scope.names.lookup x = some .local) (hy : X.env.scope.names.lookup y = some .local) (ha : SE X S W F a ca) (hb : SE X S W F b cb)
    (hw : swappedStores [.Tuple [.Name x px, .Name y py] kt pt] (.Tuple [a, b] k2 pt2) X.env = pure (some [x, y])) :
    SS X S W F N (.Assign [.Tuple [.Name x px, .Name y py] kt pt] (.Tuple [a, b] k2 pt2) pos) (.par [i, j] [ca, cb]) := by
  have nd : X.N.Nodup := by rw [G.hN]; exact G.nd
  have hp : SEs X S W F [a, b] [ca, cb] := .cons ha (.cons hb .nil)
  refine PS.weak (ps_par G.calm nd (slot_ix G hi) (slot_ix G hj) hij hx hy hp.pa hw) fun D σ H q => ?_
  obtain ⟨env, g, He, H0e, H0, R, q⟩ := q
  simp only [exS] at q
  refine ⟨env, g, He, H0e, H0, R, PstS.bd R q fun xs g1 vs H1 H1' a1 r1 h1 => ?_⟩
  rw [M.ofO_bd] at h1
  cases e1 : xs.mapM dOf with
  | none => rw [e1] at h1; exact h1.elim
  | some ds =>
    rw [e1] at h1
    have hd := drs_of r1 e1
    have h1 : PstS S W He H0e H0 D (((M.ofO (setTgs env [i, j] ds)).bd fun env' => M.pu (.nx env')) g1) := h1
    cases e2 : setTgs env [i, j] ds with
    | none => rw [e2] at h1; exact h1.elim
    | some env' =>
      rw [e2] at h1
      cases hd with
      | nil => cases e2
      | cons k1 hd =>
        cases hd with
        | nil => exfalso; revert e2; unfold setTgs; split <;> simp [setTgs]
        | cons k2 hd =>
          cases hd with
          | cons _ _ => exfalso; revert e2; unfold setTgs; split <;> simp [setTgs]
          | nil =>
            rename_i v1 d1 v2 d2
            have e2 : (if i < env.length then (if j < (env.set i (.fz d1)).length then some ((env.set i (.fz d1)).set j (.fz d2)) else none) else none) = some env' := e2
            obtain ⟨b1, e2⟩ := ifS e2
            obtain ⟨b2, rfl⟩ := ifO e2
            exact ⟨v1, v2, rfl, h1 _ H1 H1' (((R.step a1).set b1 k1).set b2 k2) a1.stp.s0⟩
theorem st_par3 {x y z : Str} {i j l : Nat} {a b c : Expr} {ca cb cc : E} {px py pz pt pt2 : Pos} {kt k2 : Nat} (G : Gd X S W C F) (hi : C.slot x = some i) (hj : C.slot y = some j) (hl : C.slot z = some l) (hij : i ≠ j) (hil : i ≠ l) (hjl : j ≠ l)
    (hx : X.env.scope.names.lookup x = some .local) (hy : X.env.scope.names.lookup y = some .local) (hz : X.env.scope.names.lookup z = some .local) (ha : SE X S W F a ca) (hb : SE X S W F b cb) (hc : SE X S W F c cc)
    (hw : swappedStores [.Tuple [.Name x px, .Name y py, .Name z pz] kt pt] (.Tuple [a, b, c] k2 pt2) X.env = pure (some [x, y, z])) :
    SS X S W F N (.Assign [.Tuple [.Name x px, .Name y py, .Name z pz] kt pt] (.Tuple [a, b, c] k2 pt2) pos) (.par [i, j, l] [ca, cb, cc]) := by
  have nd : X.N.Nodup := by rw [G.hN]; exact G.nd
  have hp : SEs X S W F [a, b, c] [ca, cb, cc] := .cons ha (.cons hb (.cons hc .nil))
  refine PS.weak (ps_par3 G.calm nd (slot_ix G hi) (slot_ix G hj) (slot_ix G hl) hij hil hjl hx hy hz hp.pa hw) fun D σ H q => ?_
  obtain ⟨env, g, He, H0e, H0, R, q⟩ := q
  simp only [exS] at q
  refine ⟨env, g, He, H0e, H0, R, PstS.bd R q fun xs g1 vs H1 H1' a1 r1 h1 => ?_⟩
  rw [M.ofO_bd] at h1
  cases e1 : xs.mapM dOf with
  | none => rw [e1] at h1; exact h1.elim
  | some ds =>
    rw [e1] at h1
    have hd := drs_of r1 e1
    have h1 : PstS S W He H0e H0 D (((M.ofO (setTgs env [i, j, l] ds)).bd fun env' => M.pu (.nx env')) g1) := h1
    cases e2 : setTgs env [i, j, l] ds with
    | none => rw [e2] at h1; exact h1.elim
    | some env' =>
      rw [e2] at h1
      cases hd with
      | nil => cases e2
      | cons k1 hd =>
        cases hd with
        | nil => exfalso; revert e2; unfold setTgs; split <;> simp [setTgs]
        | cons k2 hd =>
          cases hd with
          | nil => exfalso; revert e2; unfold setTgs; split <;> simp [setTgs]
          | cons k3 hd =>
            cases hd with
            | cons _ _ => exfalso; revert e2; unfold setTgs; split <;> simp [setTgs]
            | nil =>
              rename_i v1 d1 v2 d2 v3 d3
              have e2 : (if i < env.length then (if j < (env.set i (.fz d1)).length then (if l < ((env.set i (.fz d1)).set j (.fz d2)).length then some (((env.set i (.fz d1)).set j (.fz d2)).set l (.fz d3)) else none) else none) else none) = some env' := e2
              obtain ⟨b1, e2⟩ := ifS e2
              obtain ⟨b2, e2⟩ := ifS e2
              obtain ⟨b3, rfl⟩ := ifO e2
              exact ⟨v1, v2, v3, rfl, h1 _ H1 H1' ((((R.step a1).set b1 k1).set b2 k2).set b3 k3) a1.stp.s0⟩
/-! ### own lists -/
def VRf (S : Sig) (Hb : Hp) : Hp → Hp → V → List PD.D → Prop := fun H0 H v ds => ∃ a xs, v = .ref a ∧ H a = some (.lst xs) ∧ H0 a = none ∧ Fre Hb a ∧ DrAll S.K H0 xs ds
def RF (S : Sig) (W : WX) (f : Env → M (List PD.D)) : TE := fun σ H Q => ∃ env g He H0e H0, Rl S env g σ He H0e H0 H ∧ Pst S W σ H0 H (VRf S H) Q (f env g)
theorem Rl.he {S : Sig} {env : Env} {g : Gen} {σ : L2.St} {He H0e H0 H : Hp} (R : Rl S env g σ He H0e H0 H) {p : Addr} (h : Fre H p) : Fre He p := R.stp.th p h
theorem Stp.back {gm : Option Addr} {H0 H H0' H' : Hp} (a : Stp gm H0 H H0' H') {p : Addr} (h : Fre H' p) : Fre H p := a.th p h
theorem fr_lst {es : List Expr} {cs : List E} {pos : Pos} (G : Gd X S W C F) (h : SEs X S W F es cs) : PE X (.List es pos) (RF S W (evFr F (.lst cs))) := by
  refine PE.weak (pe_lst h.pa) fun σ H Q q => ?_
  obtain ⟨env, g, He, H0e, H0, R, q⟩ := q
  unfold evFr at q
  refine ⟨env, g, He, H0e, H0, R, Pst.bd q fun xs g1 vs H1 H1' a1 r1 h1 => ?_⟩
  rw [M.ofO_bd] at h1
  have R1 := R.step a1
  cases e1 : xs.mapM dOf with
  | none => rw [e1] at h1; exact h1.elim
  | some ds =>
    rw [e1] at h1
    have hd := drs_of r1 e1
    dsimp only at h1
    split at h1
    · rename_i hz
      refine ⟨by rw [hd.length]; exact hz, fun p hp => ?_⟩
      exact h1 _ H1 (upd H1' p (.lst vs)) (Aft.grow R1.sub R1.gen R1.tabs hp) ⟨p, vs, rfl, upd_same, R1.sub.free hp, a1.stp.back (.inl hp), hd⟩
    · exact h1.elim
theorem fr_add {a b : Expr} {ca cb : E} {pos : Pos} (G : Gd X S W C F) (ha : SE X S W F a ca) (hb : SE X S W F b cb) : PE X (.BinOp a .Add b pos) (RF S W (evFr F (.bin .Add ca cb))) := by
  refine PE.weak (pe_op op_cat ha.pe hb.pe) fun σ H Q q => ?_
  obtain ⟨env, g, He, H0e, H0, R, q⟩ := q
  unfold evFr at q
  refine ⟨env, g, He, H0e, H0, R, Pst.bd q fun x g1 v H1 H1' a1 r1 h1 => ?_⟩
  have R1 := R.step a1
  refine ⟨env, g1, He, H0e, H1, R1, Pst.bd h1 fun y g2 w H2 H2' a2 r2 h2 => ?_⟩
  have R2 := R1.step a2
  have r1' := r1.step R1.gen a2
  split at h2
  · rename_i i j e1 e2
    split at h2
    · rename_i hz
      obtain ⟨l1, xs, rfl, k1, k2⟩ := VR.lst R2.sub r1' e1
      obtain ⟨l2, ys, rfl, k3, k4⟩ := VR.lst R2.sub r2 e2
      refine ⟨l1, l2, xs, ys, rfl, rfl, k1, k3, by rw [k2.length, k4.length]; exact hz, fun p hp => ?_⟩
      exact h2 _ H2 (upd H2' p (.lst (xs ++ ys))) (Aft.grow R2.sub R2.gen R2.tabs hp) ⟨p, _, rfl, upd_same, R2.sub.free hp, a1.stp.back (a2.stp.back (.inl hp)), k2.append k4⟩
    · exact h2.elim
  · exact h2.elim
/-- an own list in a slot -/
theorem Rl.setO {S : Sig} {env : Env} {g : Gen} {σ : L2.St} {He H0e H0 H : Hp} (R : Rl S env g σ He H0e H0 H) {i : Nat} {a : Addr} {xs : List V} {ds : List PD.D} (hi : i < env.length) (h1 : H a = some (.lst xs)) (h2 : H0 a = none) (h3 : Fre He a) (h4 : DrAll S.K H0 xs ds)
    (new : ∀ j b, (∃ es, env[j]? = some (.ow es)) → j ≠ i → σ[j]? = some (some (.ref b)) → b ≠ a) : Rl S (env.set i (.ow ds)) g (σ.set i (some (.ref a))) He H0e H0 H := by
  have hσ : i < σ.length := by
    obtain ⟨o, h, _⟩ := R.slots i env[i] (by simp [hi])
    exact (List.getElem?_eq_some_iff.mp h).1
  refine ⟨R.stp, R.sub, R.gen, R.ngen, R.tabs, R.ntbl, fun j s e => ?_, fun j k b hne k1 k2 k3 k4 => ?_⟩
  · by_cases hj : j = i
    · subst hj
      rw [List.getElem?_set_self hi] at e
      cases e
      exact ⟨_, List.getElem?_set_self hσ, a, xs, rfl, h1, h2, h3, h4⟩
    · rw [List.getElem?_set_ne (Ne.symm hj)] at e
      obtain ⟨o, l1, l2⟩ := R.slots j s e
      exact ⟨o, by rw [List.getElem?_set_ne (Ne.symm hj)]; exact l1, l2⟩
  · by_cases hj : j = i
    · subst hj
      rw [List.getElem?_set_self hσ] at k3
      cases k3
      have hk : k ≠ j := Ne.symm hne
      rw [List.getElem?_set_ne (Ne.symm hk)] at k2 k4
      exact new k _ k2 hk k4 rfl
    · rw [List.getElem?_set_ne (Ne.symm hj)] at k1 k3
      by_cases hk : k = i
      · subst hk
        rw [List.getElem?_set_self hσ] at k4
        cases k4
        exact new j _ k1 hj k3 rfl
      · rw [List.getElem?_set_ne (Ne.symm hk)] at k2 k4
        exact R.own j k b hne k1 k2 k3 k4
theorem st_asgF {x : Str} {i : Nat} {e : Expr} {c : E} {pos' : Pos} (G : Gd X S W C F) (K : StOk X C) (hi : C.slot x = some i) (he : PE X e (RF S W (evFr F c))) (hs : swapsWith e (some (.Name x pos')) pos.line X.env = pure false) :
    SS X S W F N (.Assign [.Name x pos'] e pos) (.asgF i c) := by
  have nd : X.N.Nodup := by rw [G.hN]; exact G.nd
  obtain ⟨k1, k2, k3⟩ := K x i hi
  refine PS.weak (ps_set nd k1 k2 he hs k3) fun D σ H q => ?_
  obtain ⟨env, g, He, H0e, H0, R, q⟩ := q
  simp only [exS] at q
  refine ⟨env, g, He, H0e, H0, R, PstS.bd R q fun ds g1 v H1 H1' a1 r1 h1 => ?_⟩
  obtain ⟨a, xs, rfl, l1, l2, l3, l4⟩ := r1
  split at h1
  · refine h1 _ H1 H1' ((R.step a1).setO (by assumption) l1 l2 (R.he l3) l4 fun j b ho hj e2 => ?_) a1.stp.s0
    obtain ⟨es, ho⟩ := ho
    obtain ⟨o, m1, c, ys, m2, m3, _⟩ := R.slots j _ ho
    rw [e2] at m1
    cases m1
    cases m2
    exact l3.ne m3 (fun ps z => by cases z)
  · exact h1.elim
theorem Rl.app {S : Sig} {env : Env} {g : Gen} {σ : L2.St} {He H0e H0 H : Hp} (R : Rl S env g σ He H0e H0 H) {i : Nat} {a : Addr} {xs : List V} {ds : List PD.D} {v : V} {d : PD.D} (e0 : env[i]? = some (.ow ds)) (e1 : σ[i]? = some (some (.ref a))) (h1 : H a = some (.lst xs)) (h2 : H0 a = none) (h3 : Fre He a) (h4 : DrAll S.K H0 xs ds) (hv : Dr S.K H0 v d) :
    Rl S (env.set i (.ow (ds ++ [d]))) g σ He H0e H0 (upd H a (.lst (xs ++ [v]))) := by
  have A := (R.aft (Aft.refl R)).wrt (ys := xs ++ [v]) h3 h2 h1
  have hi : i < env.length := (List.getElem?_eq_some_iff.mp e0).1
  refine ⟨A.stp, A.sub, A.gen, R.ngen, A.tabs, R.ntbl, fun j s e => ?_, fun j k b hne k1 k2 k3 => ?_⟩
  · by_cases hj : j = i
    · subst hj
      rw [List.getElem?_set_self hi] at e
      cases e
      exact ⟨_, e1, a, _, rfl, upd_same, h2, h3, h4.append (.cons hv .nil)⟩
    · rw [List.getElem?_set_ne (Ne.symm hj)] at e
      obtain ⟨o, l1, l2⟩ := R.slots j s e
      refine ⟨o, l1, ?_⟩
      cases s with
      | un => trivial
      | fz d => exact l2
      | gn => exact l2
      | sc _ => exact l2
      | ow es =>
        obtain ⟨b, ys, m1, m2, m3, m4, m5⟩ := l2
        subst m1
        have nb : b ≠ a := fun z => by
          subst z
          exact R.own i j b (Ne.symm hj) ⟨_, e0⟩ ⟨_, e⟩ e1 l1
        exact ⟨b, ys, rfl, by rw [upd_ne nb]; exact m2, m3, m4, m5⟩
  · have nj : ∀ {m : Nat}, (∃ es, (env.set i (.ow (ds ++ [d])))[m]? = some (.ow es)) → ∃ es, env[m]? = some (.ow es) := fun {m} ⟨es, q⟩ => by
      by_cases hm : m = i
      · subst hm; exact ⟨_, e0⟩
      · rw [List.getElem?_set_ne (Ne.symm hm)] at q; exact ⟨es, q⟩
    exact R.own j k b hne (nj k1) (nj k2) k3
/-- x.append(e), x an own list -/
theorem st_ap {x m : Str} {i : Nat} {e : Expr} {c : E} {p apos cpos : Pos} (G : Gd X S W C F) (hm : m = "append") (hv : C.var x = some i) (he : SE X S W F e c) (hline : (apos.endLine == cpos.line) = true) :
    SS X S W F N (.Expr (.Call (.Attribute (.Name x p) m apos) [e] [] cpos) pos) (.ap i c) := by
  subst hm
  have vis : PE X (.Name x p) (tVar i) := by
    unfold Cfg.var at hv
    split at hv
    · rename_i hc
      rw [Bool.and_eq_true] at hc
      obtain ⟨d1, d2⟩ := dbg_of hc.2
      exact pe_var (i := i) (by rw [G.hN]; exact ixOf_get hv) (by rw [G.hsc]; exact vis_of hc.1) d1 d2
    · cases hv
  have pa : PA X [e] (tCons (RE S W (ev F c)) tNil) := pa_cons he.pe pa_nil (he.ns _ _)
  refine PS.weak (ps_expr (pe_bm PySem.F.plainAttrs_list PySem.F.slot_list_append PySem.F.type_list_append mt_append vis pa (hline := hline) (hs := he.ns _ _) (hfew := by
    rw [he.ns]
    rfl)) rfl) fun D σ H q => ?_
  obtain ⟨env, g, He, H0e, H0, R, q⟩ := q
  simp only [exS] at q
  cases e0 : env[i]? with
  | none => rw [e0] at q; exact q.elim
  | some s =>
    rw [e0] at q
    cases s with
    | un => exact q.elim
    | fz _ => exact q.elim
    | gn => exact q.elim
    | sc _ => exact q.elim
    | ow ds =>
      obtain ⟨o, e1, a, xs, e2, e3, e4, e5, e6⟩ := R.slots i _ e0
      subst e2
      refine ⟨.ref a, e1, .inl ⟨rfl, _, SqL.of e3⟩, ?_⟩
      refine ⟨env, g, He, H0e, H0, R, PstS.bd R q fun y g1 v H1 H1' a1 r1 h1 => ?_⟩
      have R1 := R.step a1
      cases y with
      | gn => exact h1.elim
      | sc _ => exact h1.elim
      | bo _ => exact h1.elim
      | d d =>
        obtain ⟨o', f1, a', xs', f2, f3, f4, f5, f6⟩ := R1.slots i _ e0
        rw [e1] at f1
        cases f1
        cases f2
        have f3' := a1.stp.fr _ _ e3 (R.gen.nlst e3) (fun ps z => by cases z)
        have h1 : PstS S W He H0e H0 D ((if ds.length < sizeLine then M.pu (.nx (env.set i (.ow (ds ++ [d])))) else M.stuck) g1) := h1
        split at h1
        · rename_i hz
          refine ⟨a, xs', v, rfl, rfl, f3, by rw [f6.length]; exact hz, ?_⟩
          exact h1 σ H1 _ (R1.app e0 e1 f3 f4 f5 f6 r1) a1.stp.s0
        · exact h1.elim
/-! ### raise -/
def tMkX (c : Str) (S : Sig) (ta : TA) : L2.St → Hp → XK → Prop := fun σ H Q => ta σ H fun vs H1 => ∃ v, vs = [v] ∧ ∀ d, H1 d = none → Q (.ref (S.cl c)) (some d) (upd H1 d (.xd [(S.at_ c, v)]))
/-- a class of errors with one field: what its call makes -/
def ExcOk (X : Cx) (S : Sig) (c : Str) : Prop := ∀ (a : Expr) (ta : TA) (p pos : Pos), PA X [a] ta → starEach [a] X.env = [(false, eval a X.env)] → PMk X (.Call (.Name c p) [a] [] pos) (tMkX c S ta)
theorem st_raise {x : Str} {e : Expr} {c : E} {p cpos : Pos} (G : Gd X S W C F) (hx : ExcOk X S x) (he : SE X S W F e c) : SS X S W F N (.Raise (some (.Call (.Name x p) [e] [] cpos)) none pos) (.raise x c) := by
  have pa : PA X [e] (tCons (RE S W (ev F c)) tNil) := pa_cons he.pe pa_nil (he.ns _ _)
  refine PS.weak (ps_raise G.calm G.tk (hx e _ p cpos pa (he.ns _ _))) fun D σ H q => ?_
  obtain ⟨env, g, He, H0e, H0, R, q⟩ := q
  simp only [exS] at q
  refine ⟨env, g, He, H0e, H0, R, PstS.bd R q fun y g1 v H1 H1' a1 r1 h1 => ?_⟩
  have R1 := R.step a1
  cases y with
  | gn => exact h1.elim
  | sc _ => exact h1.elim
  | bo _ => exact h1.elim
  | d d =>
    refine ⟨v, rfl, fun dx hd => ?_⟩
    have h1 : ∀ dx v σ H0' H', Aft S g1 H0e He H0' H' → H' dx = some (.xd [(S.at_ x, v)]) → Dr S.K H0' v d → W (.ref (S.cl x)) (some dx) σ H' := h1
    exact h1 dx v σ H1 _ (R.aft (a1.trans (Aft.grow R1.sub R1.gen R1.tabs hd))) upd_same r1
end
end PD
set_option Elab.async false
set_option linter.all false
set_option maxRecDepth 100000
set_option autoImplicit false
namespace PD
open PySem PySem.Spec L2

section
variable {X : Cx} {S : Sig} {W : WX} {C : Cfg} {F : Fns} {pos : Pos} {N : Nat}
theorem intsOf {K : PySem.W.Frag} {H : Hp} : ∀ {vs : List V} {ds : List D} {is : List Int}, DrAll K H vs ds → ds.mapM intOf = some is → vs = is.map V.int
  | _, _, is, .nil, e => by
    have e : some [] = some is := by simpa using e
    cases e; rfl
  | _, d :: ds, is, .cons r rs, e => by
    rw [List.mapM_cons] at e
    cases e1 : intOf d with
    | none => rw [e1] at e; cases e
    | some i =>
      cases e2 : ds.mapM intOf with
      | none => rw [e1, e2] at e; cases e
      | some is' =>
        rw [e1, e2] at e
        have e3 : i :: is' = is := Option.some.inj e
        subst e3
        have h := intsOf rs e2
        subst h
        unfold intOf at e1
        split at e1
        · cases e1; cases r; rfl
        · cases e1
/-- the drawing's dict is written -/
theorem Rl.gset {S : Sig} {env : Env} {g g' : Gen} {σ : L2.St} {He H0e H0 H : Hp} (R : Rl S env g σ He H0e H0 H) {q : Addr} {k : Str} {v : V} {d : D} (hq : S.gm = some q) (e : gSet k d g = some g') (hv : Dr S.K H0 v d) :
    ∃ kvs, H q = some (.dK kvs) ∧ kvs.length < sizeLine ∧ Rl S env g' σ He H0e H0 (upd H q (.dK (putK kvs (.inr k) v))) := by
  obtain ⟨gl, g1, g2⟩ := R.gen q hq
  have g3 : ∀ b u, H b = some u → (∀ kvs, u ≠ .dK kvs) → b ≠ q := fun b u h n z => by
    rw [z, g1] at h
    exact n _ (Option.some.inj h).symm
  have key : GenP q g' H0 (upd H q (.dK (putK [(.inr "great", .ref gl), (.inr "seed", .int g.seed), (.inr "turns", .int g.turns)] (.inr k) v))) := by
    unfold gSet at e
    split at e
    · rename_i hk
      subst hk
      split at e
      · rename_i ds
        obtain ⟨is, h1, rfl⟩ := mapS e
        obtain ⟨b, xs, rfl, h2, h3⟩ := hv.lst_inv
        exact ⟨b, upd_same, by rw [h2, intsOf h3 h1]⟩
      · cases e
    · split at e
      · rename_i hk
        subst hk
        obtain ⟨i, h1, rfl⟩ := mapS e
        unfold intOf at h1
        split at h1
        · cases h1; cases hv; exact ⟨gl, upd_same, g2⟩
        · cases h1
      · split at e
        · rename_i hk
          subst hk
          obtain ⟨i, h1, rfl⟩ := mapS e
          unfold intOf at h1
          split at h1
          · cases h1; cases hv; exact ⟨gl, upd_same, g2⟩
          · cases h1
        · cases e
  refine ⟨_, g1, by simp [sizeLine_eq], ⟨⟨R.stp.s0, fun b o h n t => ?_, fun b h => ?_, R.stp.fresh, R.stp.nt⟩, fun b u h => ?_, fun p hp => ?_, R.ngen, fun p hp => ?_, R.ntbl, fun i s h => ?_, R.own⟩⟩
  · rw [upd_ne (fun z => n (by rw [hq, z]))]; exact R.stp.fr b o h n t
  · refine R.stp.th b ?_
    by_cases z : b = q
    · subst z
      unfold Fre at h
      rw [upd_same] at h
      rcases h with h | ⟨ps, h⟩ <;> cases h
    · unfold Fre at h ⊢
      rw [upd_ne z] at h; exact h
  · rw [upd_ne (fun z => by rw [z, R.ngen q hq] at h; cases h)]; exact R.sub b u h
  · rw [hq] at hp
    cases hp
    exact key
  · obtain ⟨ps, k1, k2, k3⟩ := R.tabs p hp
    refine ⟨ps, by rw [upd_ne (g3 _ _ k1 (fun _ z => by cases z))]; exact k1, k2, fun pos cv h => ?_⟩
    obtain ⟨c, e3, e4⟩ := k3 pos cv h
    refine ⟨c, e3, ?_⟩
    rw [upd_ne (g3 _ _ e4 (fun _ z => by unfold LamX.CodeO at z; cases z))]
    exact e4
  · obtain ⟨o, h1, h2⟩ := R.slots i s h
    refine ⟨o, h1, ?_⟩
    cases s with
    | ow ds =>
      obtain ⟨a, xs, m1, m2, m3⟩ := h2
      exact ⟨a, xs, m1, by rw [upd_ne (g3 _ _ m2 (fun _ z => by cases z))]; exact m2, m3⟩
    | _ => exact h2
/-- m['key'] = e -/
theorem st_gput {x k : Str} {i j : Nat} {p p2 p3 : Pos} {e : Expr} {c : E} (G : Gd X S W C F) (hv : C.var x = some i) (he : SE X S W F e c)
    (hs : swapsWith e (some (.Subscript (.Name x p) (.Constant (.str k) j p3) p2)) pos.line X.env = pure false) :
    SS X S W F N (.Assign [.Subscript (.Name x p) (.Constant (.str k) j p3) p2] e pos) (.gput i k c) := by
  have hu : X.A.units + 1 < cLine := by have := G.room.un; omega
  refine PS.weak (ps_dput hu (s_varP G hv) pe_str he.pe hs) fun D σ H q => ?_
  obtain ⟨env, g, He, H0e, H0, R, q⟩ := q
  simp only [exS] at q
  refine ⟨env, g, He, H0e, H0, R, PstS.bd R q fun y g1 v H1 H1' a1 r1 h1 => ?_⟩
  have R1 := R.step a1
  cases y with
  | gn => exact h1.elim
  | sc _ => exact h1.elim
  | bo _ => exact h1.elim
  | d d =>
    have h1 : PstS S W He H0e H0 D (gpD env[i]? k d env g1) := h1
    unfold gpD at h1
    cases e1 : env[i]? with
    | none => rw [e1] at h1; exact h1.elim
    | some s =>
      rw [e1] at h1
      obtain ⟨o, e2, e3⟩ := R1.slots i _ e1
      cases s with
      | gn =>
        obtain ⟨q, e4, e5⟩ := e3
        subst e5
        dsimp only at h1
        cases e6 : gSet k d g1 with
        | none => rw [e6] at h1; exact h1.elim
        | some g2 =>
          rw [e6] at h1
          obtain ⟨kvs, k1, k2, R2⟩ := R1.gset e4 e6 r1
          exact ⟨_, e2, q, _, rfl, .inl ⟨kvs, .inr k, k1, rfl, k2, rfl⟩, h1 σ H1 _ R2 a1.stp.s0⟩
      | _ => exact h1.elim
end
end PD
set_option Elab.async false
set_option linter.all false
set_option maxRecDepth 100000
set_option autoImplicit false
namespace PD
open PySem PySem.Spec L2

/-! ### where an own list gets out -/
def vals : E → List Nat
  | .v i => [i]
  | .ite _ a b => vals a ++ vals b
  | .and a b => vals a ++ vals b
  | .or a b => vals a ++ vals b
  | _ => []
mutual
def esc : E → List Nat
  | .bin _ a b => esc a ++ esc b
  | .neg a => esc a
  | .cmp _ a b => esc a ++ esc b
  | .chain _ _ a b c => esc a ++ (esc b ++ esc c)
  | .and a b => esc a ++ esc b
  | .or a b => esc a ++ esc b
  | .not a => esc a
  | .ite t a b => esc t ++ (esc a ++ esc b)
  | .tup es => escs es
  | .lst es => escs es
  | .ix a b => esc a ++ esc b
  | .sl a _ _ => esc a
  | .bf _ es => escB es
  | .call _ es => escs es
  | .lc _ it t e _ => escI it ++ (escO t ++ (vals e ++ esc e))
  | .said e => esc e
  | .dict _ es => escs es
  | .tups es e => escs es ++ esc e
  | .idx _ e => esc e
  | .idl a e => esc a ++ esc e
  | .sset a => esc a
  | _ => []
termination_by structural e => e
def escs : List E → List Nat
  | [] => []
  | e :: es => vals e ++ (esc e ++ escs es)
termination_by structural e => e
def escB : List E → List Nat
  | [] => []
  | e :: es => esc e ++ escB es
termination_by structural e => e
def escO : Option E → List Nat
  | none => []
  | some e => esc e
termination_by structural e => e
def escI : I → List Nat
  | .e e => esc e
  | .rng1 a => esc a
  | .rng2 a b => esc a ++ esc b
  | .enum a => esc a
termination_by structural e => e
end
def valsI : I → List Nat
  | .e e => vals e
  | .enum e => vals e
  | _ => []
/-! ### from the text to statements -/
def Cfg.own (C : Cfg) (L : List Str) : List Nat := L.filterMap C.slot
def wrap (C : Cfg) (L : List Str) (is : List Nat) (s : Sm) : Sm := match (is.filter fun i => decide (i ∈ C.own L)).eraseDups with
  | [] => s
  | js => .fr js s
def lk (sc : Scope) (x : Str) : Bool := match sc.names.lookup x with
  | some .local => true
  | _ => false
def fnK (sc : Scope) : Bool := match sc.kind with
  | .function => true
  | _ => false
def stars (vs : List Expr) : Bool := vs.any fun | .Starred .. => true | _ => false
def isTupE : Expr → Bool
  | .Tuple _ _ _ => true
  | _ => false
def noComp : Expr → Bool
  | .ListComp _ _ _ _ => false
  | .SetComp _ _ _ _ => false
  | .DictComp _ _ _ _ _ => false
  | _ => true
def cPar2 (C : Cfg) (x y : Str) (px py : Pos) (a b : Expr) : Option Sm :=
  if fnK C.sc && lk C.sc x && lk C.sc y && (py.line == px.line) && decide (x ≠ y) && !(stars [a, b]) && !([a, b].all (foldedForSure 8)) && !([a, b].all (constantsAlone 8)) then
    (C.slot x).bind fun i => (C.slot y).bind fun j => (cE C a).bind fun ca => (cE C b).bind fun cb => if i ≠ j then some (.par [i, j] [ca, cb]) else none
  else none
def cPar3 (C : Cfg) (x y z : Str) (px py pz : Pos) (a b c : Expr) : Option Sm :=
  if fnK C.sc && lk C.sc x && lk C.sc y && lk C.sc z && (py.line == px.line) && (pz.line == px.line) && decide (x ≠ y) && decide (x ≠ z) && decide (y ≠ z) && !(stars [a, b, c]) && !([a, b, c].all (foldedForSure 8)) && !([a, b, c].all (constantsAlone 8)) then
    (C.slot x).bind fun i => (C.slot y).bind fun j => (C.slot z).bind fun l => (cE C a).bind fun ca => (cE C b).bind fun cb => (cE C c).bind fun cc => if i ≠ j ∧ i ≠ l ∧ j ≠ l then some (.par [i, j, l] [ca, cb, cc]) else none
  else none
def cSet (C : Cfg) (L : List Str) (x : Str) (e : Expr) : Option Sm := (C.slot x).bind fun i =>
  if x ∈ L then (match e with
    | .List es _ => (cEs C es).map fun cs => .asgF i (.lst cs)
    | .BinOp a .Add b _ => (cE C a).bind fun a => (cE C b).map fun b => .asgF i (.bin .Add a b)
    | _ => none)
  else (cE C e).map fun c => .asg (.n i) c
def foldT : Expr → Bool
  | .Tuple vs _ _ => vs.all (foldedForSure 8)
  | _ => false
/-- a target that is no plain local of the frame -/
def outT (C : Cfg) (ts : List Expr) : Bool := ts.any fun | .Name x _ => !lk C.sc x | _ => false
def cTup (C : Cfg) (ts : List Expr) (k : Nat) (pt : Pos) (e : Expr) : Option Sm := if foldT e || outT C ts then (cTg C (.Tuple ts k pt)).bind fun t => (cE C e).map fun c => .asg t c else match e with
  | .Tuple [a, b] _ _ => (match ts with
    | [.Name x px, .Name y py] => cPar2 C x y px py a b
    | _ => none)
  | .Tuple [a, b, c] _ _ => (match ts with
    | [.Name x px, .Name y py, .Name z pz] => cPar3 C x y z px py pz a b c
    | _ => none)
  | e => if (!isTupE e) || !(ts.length == 2 || ts.length == 3) then (cTg C (.Tuple ts k pt)).bind fun t => (cE C e).map fun c => .asg t c else none
def smE : Sm → List Nat
  | .asg _ e => vals e ++ esc e
  | .par _ es => escs es
  | .asgF _ e => esc e
  | .ap _ e => vals e ++ esc e
  | .ret e => vals e ++ esc e
  | .iff t _ _ => esc t
  | .for_ _ it _ => valsI it ++ escI it
  | .whl t _ => esc t
  | .raise _ e => vals e ++ esc e
  | .expr e => esc e
  | .gput _ _ e => vals e ++ esc e
  | _ => []
def cAp (C : Cfg) (L : List Str) (x m : Str) (apos cpos : Pos) (e : Expr) : Option Sm :=
  if x ∈ L ∧ m = "append" ∧ (apos.endLine == cpos.line) = true then (C.var x).bind fun i => (cE C e).map fun c => .ap i c else none
def cGp (C : Cfg) (x k : Str) (e : Expr) : Option Sm :=
  if x ∈ C.gs ∧ noComp e = true then (C.var x).bind fun i => (cE C e).map fun c => .gput i k c else none
def cGpE (C : Cfg) (o i e : Expr) : Option Sm := match o, i with
  | .Name x _, .Constant (.str k) _ _ => cGp C x k e
  | _, _ => none
mutual
def cS (C : Cfg) (L : List Str) : Stmt → Option Sm
  | .Assign [.Name x _] e _ => (cSet C L x e).map fun s => wrap C L (smE s) s
  | .Assign [.Subscript o i _] e _ => (cGpE C o i e).map fun s => wrap C L (smE s) s
  | .Assign [.Tuple ts k pt] e _ => (cTup C ts k pt e).map fun s => wrap C L (smE s) s
  | .Return none _ => some .retN
  | .Return (some e) _ => (cE C e).map fun c => wrap C L (vals c ++ esc c) (.ret c)
  | .If t a b _ => (cE C t).bind fun ct => (cSs C L a).bind fun ca => (cSs C L b).map fun cb => wrap C L (esc ct) (.iff ct ca cb)
  | .While t b [] _ => (cE C t).bind fun ct => (cSs C L b).map fun cb => wrap C L (esc ct) (.whl ct cb)
  | .For tg iter b [] _ => (mkI C tg iter).bind fun it => (cTg C tg).bind fun t => (cSs C L b).map fun cb => wrap C L (valsI it ++ escI it) (.for_ t it cb)
  | .Raise (some (.Call (.Name x _) [e] [] _)) none _ => if x ∈ C.excs ∧ glB C.sc x = true then (cE C e).map fun c => wrap C L (vals c ++ esc c) (.raise x c) else some .bad
  | .Pass _ => some .nop
  | .Break _ => some .brk
  | .Continue _ => some .cont
  | .Expr (.Constant (.str _) _ _) _ => some .nop
  | .Expr (.Call (.Attribute (.Name x _) m apos) [e] [] cpos) _ => (cAp C L x m apos cpos e).map fun s => wrap C L (smE s) s
  | .Expr e _ => if noComp e then (cE C e).map fun c => wrap C L (esc c) (.expr c) else none
  | _ => none
termination_by structural s => s
def cSs (C : Cfg) (L : List Str) : List Stmt → Option (List Sm)
  | [] => some []
  | s :: r => (cSs C L r).map fun b => (cS C L s).getD .bad :: b
termination_by structural s => s
end
end PD
set_option Elab.async false
set_option linter.all false
set_option maxRecDepth 100000
set_option autoImplicit false
namespace PD
open PySem PySem.Spec L2

section
variable {X : Cx} {S : Sig} {W : WX} {C : Cfg} {F : Fns} {pos : Pos} {N : Nat}
theorem lk_of {sc : Scope} {x : Str} (h : lk sc x = true) : sc.names.lookup x = some .local := by
  unfold lk at h
  split at h
  · assumption
  · cases h
theorem fnK_of {sc : Scope} (h : fnK sc = true) : sc.kind = .function := by
  unfold fnK at h
  split at h
  · assumption
  · cases h
theorem bk_of {env : PySem.Env} (h : env.scope.kind = .function) : env.blockKind = .function := by
  unfold Env.blockKind; rw [h]; rfl
theorem sw2 {x y : Str} {px py pt pt2 : Pos} {kt k2 : Nat} {a b : Expr} {env : PySem.Env} (hk : env.scope.kind = .function) (hx : env.scope.names.lookup x = some .local) (hy : env.scope.names.lookup y = some .local) (hl : (py.line == px.line) = true) (hn : x ≠ y)
    (hs : stars [a, b] = false) (hf : [a, b].all (foldedForSure 8) = false) (hc : [a, b].all (constantsAlone 8) = false) :
    swappedStores [.Tuple [.Name x px, .Name y py] kt pt] (.Tuple [a, b] k2 pt2) env = pure (some [x, y]) := by
  have kx : env.kindOf x = some .local := hx
  have ky : env.kindOf y = some .local := hy
  have e1 : ([x, y] : List Str).eraseDups = [x, y] := by
    simp [List.eraseDups_cons, hn.symm, Ne.symm hn, hn]
  unfold swappedStores
  unfold stars at hs
  simp only [bk_of hk, kx, ky, hl, hs, hf, hc, List.filterMap, List.head?, Option.map, Option.getD, Expr.pos]
  simp [e1]
  intro h
  obtain ⟨h1, h2⟩ := Bool.or_eq_false_iff.mp hs
  obtain ⟨h2, _⟩ := Bool.or_eq_false_iff.mp h2
  rcases h with h | h
  · exact Bool.noConfusion (h.symm.trans h1)
  · exact Bool.noConfusion (h.symm.trans h2)
theorem sw3 {x y z : Str} {px py pz pt pt2 : Pos} {kt k2 : Nat} {a b c : Expr} {env : PySem.Env} (hk : env.scope.kind = .function) (hx : env.scope.names.lookup x = some .local) (hy : env.scope.names.lookup y = some .local) (hz : env.scope.names.lookup z = some .local) (hl : (py.line == px.line) = true) (hl' : (pz.line == px.line) = true) (hn : x ≠ y) (hn' : x ≠ z) (hn2 : y ≠ z)
    (hs : stars [a, b, c] = false) (hf : [a, b, c].all (foldedForSure 8) = false) (hc : [a, b, c].all (constantsAlone 8) = false) :
    swappedStores [.Tuple [.Name x px, .Name y py, .Name z pz] kt pt] (.Tuple [a, b, c] k2 pt2) env = pure (some [x, y, z]) := by
  have kx : env.kindOf x = some .local := hx
  have ky : env.kindOf y = some .local := hy
  have kz : env.kindOf z = some .local := hz
  have e1 : ([x, y, z] : List Str).eraseDups = [x, y, z] := by
    simp [List.eraseDups_cons, hn.symm, Ne.symm hn, hn, hn'.symm, hn2.symm]
  unfold swappedStores
  unfold stars at hs
  simp only [bk_of hk, kx, ky, kz, hl, hl', hs, hf, hc, List.filterMap, List.head?, Option.map, Option.getD, Expr.pos]
  simp [e1]
  intro h
  obtain ⟨h1, h2⟩ := Bool.or_eq_false_iff.mp hs
  obtain ⟨h2, h3⟩ := Bool.or_eq_false_iff.mp h2
  obtain ⟨h3, _⟩ := Bool.or_eq_false_iff.mp h3
  rcases h with h | h | h
  · exact Bool.noConfusion (h.symm.trans h1)
  · exact Bool.noConfusion (h.symm.trans h2)
  · exact Bool.noConfusion (h.symm.trans h3)
theorem sw0 {ts : List Expr} {kt : Nat} {pt : Pos} {e : Expr} {env : PySem.Env} (h : (!isTupE e || !(ts.length == 2 || ts.length == 3)) = true) : swappedStores [.Tuple ts kt pt] e env = pure none := by
  cases e with
  | Tuple vs k p =>
    have h : (!(ts.length == 2 || ts.length == 3)) = true := by simpa [isTupE] using h
    unfold swappedStores
    simp only [h, Bool.true_or, if_true]
  | _ => rfl
theorem swF {ts : List Expr} {kt : Nat} {pt : Pos} {e : Expr} {env : PySem.Env} (h : foldT e = true) : swappedStores [.Tuple ts kt pt] e env = pure none := by
  cases e with
  | Tuple vs k p =>
    have h : vs.all (foldedForSure 8) = true := h
    unfold swappedStores
    dsimp only
    split
    · rfl
    · split
      · rfl
      · split
        · rfl
        · first | rfl | rw [if_pos h]
  | _ => cases h
theorem swO {ts : List Expr} {kt : Nat} {pt : Pos} {e : Expr} {env : PySem.Env} (hs : env.scope = C.sc) (h : outT C ts = true) : swappedStores [.Tuple ts kt pt] e env = pure none := by
  have short : ∀ line : Nat, (ts.filterMap fun
      | .Name id pos => if env.kindOf id == some .local && pos.line == line then some id else none
      | _ => none).length ≠ ts.length := fun line q => by
    rw [List.filterMap_length_eq_length] at q
    unfold outT at h
    obtain ⟨t, ht, k⟩ := List.any_eq_true.mp h
    have q := q t ht
    cases t with
    | Name x px =>
      dsimp only at q k
      split at q
      · rename_i c
        rw [Bool.and_eq_true, beq_iff_eq] at c
        have c1 : env.scope.names.lookup x = some .local := c.1
        rw [hs] at c1
        unfold lk at k
        rw [c1] at k
        cases k
      · cases q
    | _ => cases k
  cases e with
  | Tuple vs k p =>
    unfold swappedStores
    dsimp only
    split
    · rfl
    · split
      · rfl
      · split
        · rfl
        · rename_i c
          rw [Bool.or_eq_true, not_or] at c
          have c := c.1
          rw [bne_iff_ne, Classical.not_not] at c
          exact absurd c (short _)
  | _ => rfl
theorem swT {ts : List Expr} {kt : Nat} {pt : Pos} {e : Expr} {l : Nat} {env : PySem.Env} : swapsWithSole [.Tuple ts kt pt] e l env = pure false := by
  cases e <;> rfl
theorem swN {x : Str} {py : Pos} {e : Expr} {env : PySem.Env} : swappedStores [.Name x py] e env = pure none := by
  cases e <;> rfl
/-- whether the list is stored within the comprehension's frame -/
def swB (C : Cfg) (x : Str) (py lp : Pos) (scope : Scope) : Bool :=
  lk C.sc x && (py.line == lp.line) && !(scope.names.any fun (n, k) => n == x && (k == .local || k == .cell))
theorem swL {x : Str} {py lp : Pos} {elt : Expr} {gs : List Comprehension} {scope : Scope} {l : Nat} {env : PySem.Env} (hk : env.scope.kind = .function) (hs : env.scope = C.sc) :
    swapsWith (.ListComp elt gs scope lp) (some (.Name x py)) l env = pure (swB C x py lp scope) := by
  unfold swapsWith swB lk
  rw [← hs]
  simp only [bk_of hk, Expr.pos, Env.kindOf]
  cases e : env.scope.names.lookup x with
  | none => simp
  | some k => cases k <;> simp <;> rfl
theorem mem_sz {es : List Expr} {e : Expr} (h : e ∈ es) : sizeOf e < sizeOf es := List.sizeOf_lt_of_mem h
/-- name = e -/
theorem st_set {x : Str} {py : Pos} {e : Expr} {i : Nat} {c : E} (G : Gd X S W C F) (K : StOk X C) (hk : X.env.scope.kind = .function) (hi : C.slot x = some i) (h : cE C e = some c) : SS X S W F N (.Assign [.Name x py] e pos) (.asg (.n i) c) := by
  have nd : X.N.Nodup := by rw [G.hN]; exact G.nd
  have plain : swapsWithSole [.Name x py] e pos.line X.env = pure false → SS X S W F N (.Assign [.Name x py] e pos) (.asg (.n i) c) := fun hs =>
    st_asg (se_of G h) (g_name nd K hi) hs swN rfl
  cases e with
  | ListComp elt gs scope lp =>
    have e1 := swL (C := C) (x := x) (py := py) (lp := lp) (elt := elt) (gs := gs) (scope := scope) (l := pos.line) hk G.hsc
    cases hb : swB C x py lp scope with
    | false => exact plain (by rw [hb] at e1; exact e1)
    | true =>
      rw [hb] at e1
      cases gs with
      | nil => rw [cE.eq_def] at h; cases h
      | cons g gs =>
        cases gs with
        | cons _ _ => rw [cE] at h; cases h; all_goals simp
        | nil =>
          obtain ⟨tg, iter, ifs, as⟩ := g
          by_cases ha : as = 0
          · subst ha
            have h := cE_lc h
            unfold mkLc at h
            split at h
            · obtain ⟨it, h1, h⟩ := bindS h
              obtain ⟨t, h2, h⟩ := bindS h
              obtain ⟨k, h3, h⟩ := bindS h
              obtain ⟨e, h4, h⟩ := bindS h
              split at h
              · cases h
                obtain ⟨hi', hs⟩ := i_of (tg := tg) G (fun e he c hc => se_of G hc) h1
                have hl : X.env.scope.names.lookup x = some .local := by
                  rw [G.hsc]
                  unfold swB at hb
                  simp only [Bool.and_eq_true] at hb
                  exact lk_of hb.1.1
                exact st_lcset G hi hl e1 (by assumption) (by assumption) hs hi' h2 (fun X' G' => sifs_of (fun e he c hc => se_of G' hc) h3) (fun X' G' => (se_of G' h4).pe)
              · cases h
            · cases h
          · rw [cE] at h; cases h; all_goals simp [ha]
  | SetComp _ _ _ _ => rw [cE.eq_def] at h; cases h
  | DictComp _ _ _ _ _ => rw [cE.eq_def] at h; cases h
  | _ => exact plain rfl
/-- what is walked by a for -/
theorem j_of {tg iter : Expr} {it : I} (G : Gd X S W C F) (h : mkI C tg iter = some it) :
    PI X tg iter (RJ S W (evJ F it)) ∧ ∀ x, foldedSetIterable iter X.env x = pure x := by
  have plain : (cE C iter).map I.e = some it → PI X tg iter (RJ S W (evJ F it)) ∧ ∀ x, foldedSetIterable iter X.env x = pure x := fun h => by
    obtain ⟨c, h1, rfl⟩ := mapS h
    refine ⟨j_e G (se_of G h1), ?_⟩
    cases iter with
    | Set _ _ _ => rw [cE.eq_def] at h1; cases h1
    | _ => intro x; rfl
  unfold mkI at h
  split at h
  · rename_i f p a pos
    split at h
    · rename_i hc
      have h : (cE C a).map I.rng1 = some it := h
      obtain ⟨c, h1, rfl⟩ := mapS h
      unfold rngOk at hc
      simp only [Bool.and_eq_true, decide_eq_true_eq] at hc
      obtain ⟨⟨h2, rfl⟩, _⟩ := hc
      exact ⟨j_rng1 G h2 (se_of G h1), fun _ => rfl⟩
    · split at h
      · rename_i hc
        have h : (cE C a).map I.enum = some it := h
        obtain ⟨c, h1, rfl⟩ := mapS h
        unfold enumOk at hc
        simp only [Bool.and_eq_true, decide_eq_true_eq] at hc
        obtain ⟨⟨⟨h2, rfl⟩, h3⟩, _⟩ := hc
        cases tg with
        | Tuple es k tp => exact ⟨j_enum G h2 (se_of G h1), fun _ => rfl⟩
        | _ => cases h3
      · exact plain h
  · rename_i f p a b pos
    split at h
    · rename_i hc
      have h : ((cE C a).bind fun a => (cE C b).map fun b => I.rng2 a b) = some it := h
      obtain ⟨c, h1, h⟩ := bindS h
      obtain ⟨d, h2, rfl⟩ := mapS h
      unfold rngOk at hc
      simp only [Bool.and_eq_true, decide_eq_true_eq] at hc
      obtain ⟨⟨h3, rfl⟩, _⟩ := hc
      exact ⟨j_rng2 G h3 (se_of G h1) (se_of G h2), fun _ => rfl⟩
    · exact plain h
  · exact plain h
structure Gs (X : Cx) (S : Sig) (W : WX) (C : Cfg) (F : Fns) : Prop where
  g : Gd X S W C F
  sto : StOk X C
  kind : X.env.scope.kind = .function
  exc : ∀ c ∈ C.excs, glB C.sc c = true → ExcOk X S c
theorem st_wrap {st : Stmt} {s : Sm} {L : List Str} {is : List Nat} (h : SS X S W F N st s) : SS X S W F N st (wrap C L is s) := by
  unfold wrap
  split
  · exact h
  · exact st_fr h
theorem st_cSet {L : List Str} {x : Str} {py : Pos} {e : Expr} {s : Sm} (G : Gs X S W C F) (h : cSet C L x e = some s) : SS X S W F N (.Assign [.Name x py] e pos) s := by
  unfold cSet at h
  obtain ⟨i, hi, h⟩ := bindS h
  split at h
  · split at h
    · obtain ⟨cs, h1, rfl⟩ := mapS h
      exact st_asgF G.g G.sto hi (fr_lst G.g (ses_of _ (fun e _ c hc => se_of G.g hc) h1)) rfl
    · obtain ⟨ca, h1, h⟩ := bindS h
      obtain ⟨cb, h2, rfl⟩ := mapS h
      exact st_asgF G.g G.sto hi (fr_add G.g (se_of G.g h1) (se_of G.g h2)) rfl
    · cases h
  · obtain ⟨c, h1, rfl⟩ := mapS h
    exact st_set G.g G.sto G.kind hi h1
theorem st_cTup {ts : List Expr} {k : Nat} {pt : Pos} {e : Expr} {s : Sm} (G : Gs X S W C F) (h : cTup C ts k pt e = some s) : SS X S W F N (.Assign [.Tuple ts k pt] e pos) s := by
  have nd : X.N.Nodup := by rw [G.g.hN]; exact G.g.nd
  have lx : ∀ {x : Str}, lk C.sc x = true → X.env.scope.names.lookup x = some .local := fun h => by rw [G.g.hsc]; exact lk_of h
  unfold cTup at h
  split at h
  · rename_i hf
    obtain ⟨t, h1, h⟩ := bindS h
    obtain ⟨c, h2, rfl⟩ := mapS h
    exact st_asg (se_of G.g h2) (g_tg nd G.g.calm G.g.hK G.sto h1) swT (by
      rw [Bool.or_eq_true] at hf
      exact hf.elim swF (swO G.g.hsc)) rfl
  split at h
  · split at h
    · unfold cPar2 at h
      split at h
      · rename_i hc
        simp only [Bool.and_eq_true, Bool.not_eq_true', decide_eq_true_eq] at hc
        obtain ⟨⟨⟨⟨⟨⟨⟨c1, c2⟩, c3⟩, c4⟩, c5⟩, c6⟩, c7⟩, c8⟩ := hc
        obtain ⟨i, h1, h⟩ := bindS h
        obtain ⟨j, h2, h⟩ := bindS h
        obtain ⟨ca, h3, h⟩ := bindS h
        obtain ⟨cb, h4, h⟩ := bindS h
        split at h
        · cases h
          exact st_par2 G.g h1 h2 (by assumption) (lx c2) (lx c3) (se_of G.g h3) (se_of G.g h4) (sw2 G.kind (lx c2) (lx c3) c4 c5 c6 c7 c8)
        · cases h
      · cases h
    · cases h
  · split at h
    · unfold cPar3 at h
      split at h
      · rename_i hc
        simp only [Bool.and_eq_true, Bool.not_eq_true', decide_eq_true_eq] at hc
        obtain ⟨⟨⟨⟨⟨⟨⟨⟨⟨⟨⟨c1, c2⟩, c3⟩, c4⟩, c5⟩, c6⟩, c7⟩, c8⟩, c9⟩, c10⟩, c11⟩, c12⟩ := hc
        obtain ⟨i, h1, h⟩ := bindS h
        obtain ⟨j, h2, h⟩ := bindS h
        obtain ⟨l, h5, h⟩ := bindS h
        obtain ⟨ca, h3, h⟩ := bindS h
        obtain ⟨cb, h4, h⟩ := bindS h
        obtain ⟨cc, h6, h⟩ := bindS h
        split at h
        · rename_i hd
          cases h
          exact st_par3 G.g h1 h2 h5 hd.1 hd.2.1 hd.2.2 (lx c2) (lx c3) (lx c4) (se_of G.g h3) (se_of G.g h4) (se_of G.g h6) (sw3 G.kind (lx c2) (lx c3) (lx c4) c5 c6 c7 c8 c9 c10 c11 c12)
        · cases h
      · cases h
    · cases h
  · split at h
    · obtain ⟨t, h1, h⟩ := bindS h
      obtain ⟨c, h2, rfl⟩ := mapS h
      exact st_asg (se_of G.g h2) (g_tg nd G.g.calm G.g.hK G.sto h1) swT (sw0 (by assumption)) rfl
    · cases h
theorem st_cGp {x k : Str} {p p2 p3 : Pos} {j : Nat} {e : Expr} {s : Sm} (G : Gs X S W C F) (h : cGp C x k e = some s) : SS X S W F N (.Assign [.Subscript (.Name x p) (.Constant (.str k) j p3) p2] e pos) s := by
  unfold cGp at h
  obtain ⟨hc, h⟩ := ifS' h
  obtain ⟨i, h1, h⟩ := bindS h
  obtain ⟨c, h2, rfl⟩ := mapS h
  refine st_gput G.g h1 (se_of G.g h2) ?_
  cases e with
  | ListComp _ _ _ _ => exact absurd hc.2 (by simp [noComp])
  | SetComp _ _ _ _ => exact absurd hc.2 (by simp [noComp])
  | DictComp _ _ _ _ _ => exact absurd hc.2 (by simp [noComp])
  | _ => rfl
theorem st_cAp {L : List Str} {x m : Str} {p apos cpos : Pos} {e : Expr} {s : Sm} (G : Gs X S W C F) (h : cAp C L x m apos cpos e = some s) : SS X S W F N (.Expr (.Call (.Attribute (.Name x p) m apos) [e] [] cpos) pos) s := by
  unfold cAp at h
  split at h
  · rename_i hc
    obtain ⟨i, h1, h⟩ := bindS h
    obtain ⟨c, h2, rfl⟩ := mapS h
    exact st_ap G.g hc.2.1 h1 (se_of G.g h2) hc.2.2
  · cases h
end
end PD
set_option Elab.async false
set_option linter.all false
set_option maxRecDepth 100000
set_option autoImplicit false
namespace PD
open PySem PySem.Spec L2

section
variable {X : Cx} {S : Sig} {W : WX} {C : Cfg} {F : Fns} {N : Nat} {L : List Str}
theorem sss_of : ∀ (ss : List Stmt) {cs : List Sm}, (∀ s ∈ ss, ∀ c, cS C L s = some c → SS X S W F N s c) → cSs C L ss = some cs → SSs X S W F N ss cs
  | [], cs, _, h => by
    have h : some [] = some cs := h
    cases h; exact sts_nil
  | s :: ss, cs, ih, h => by
    rw [cSs] at h
    obtain ⟨cs', h2, rfl⟩ := mapS h
    refine sts_cons ?_ (sss_of ss (fun s' hs => ih s' (by simp [hs])) h2)
    cases e : cS C L s with
    | none => exact st_bad
    | some c => exact ih s (by simp) c e
theorem st_e {e : Expr} {pos : Pos} {s : Sm} (G : Gs X S W C F) (h : (if noComp e then (cE C e).map fun c => wrap C L (esc c) (.expr c) else none) = some s) : SS X S W F N (.Expr e pos) s := by
  split at h
  · rename_i hc
    obtain ⟨c, h1, rfl⟩ := mapS h
    refine st_wrap (st_expr (se_of G.g h1) ?_)
    cases e with
    | ListComp _ _ _ _ => cases hc
    | SetComp _ _ _ _ => cases hc
    | DictComp _ _ _ _ _ => cases hc
    | _ => rfl
  · cases h
theorem ss_all (G : Gs X S W C F) : ∀ (n : Nat) (st : Stmt), sizeOf st < n → ∀ {s : Sm}, cS C L st = some s → SS X S W F N st s := by
  intro n
  induction n with
  | zero => intro e h; omega
  | succ n ih =>
    intro st hn s h
    have mem : ∀ {es : List Stmt}, sizeOf es < n + 1 → ∀ {cs : List Sm}, cSs C L es = some cs → SSs X S W F N es cs := fun {es} hs {cs} h =>
      sss_of es (fun e he c hc => ih e (by have := List.sizeOf_lt_of_mem he; omega) hc) h
    cases st with
    | Assign ts e pos =>
      cases ts with
      | nil => rw [cS.eq_def] at h; cases h
      | cons t ts =>
        cases ts with
        | cons _ _ => rw [cS.eq_def] at h; cases t <;> cases h
        | nil =>
          rw [cS.eq_def] at h
          cases t with
          | Name x py =>
            obtain ⟨s', h1, rfl⟩ := mapS h
            exact st_wrap (st_cSet G h1)
          | Tuple ts k pt =>
            obtain ⟨s', h1, rfl⟩ := mapS h
            exact st_wrap (st_cTup G h1)
          | Subscript o i p2 =>
            obtain ⟨s', h1, rfl⟩ := mapS h
            unfold cGpE at h1
            split at h1
            · exact st_wrap (st_cGp G h1)
            · cases h1
          | _ => cases h
    | Return v pos =>
      rw [cS.eq_def] at h
      cases v with
      | none => cases h; exact st_retN
      | some e =>
        obtain ⟨c, h1, rfl⟩ := mapS h
        exact st_wrap (st_ret (se_of G.g h1))
    | If t a b pos =>
      rw [cS.eq_def] at h
      simp only [Stmt.If.sizeOf_spec] at hn
      obtain ⟨ct, h1, h⟩ := bindS h
      obtain ⟨ca, h2, h⟩ := bindS h
      obtain ⟨cb, h3, rfl⟩ := mapS h
      exact st_wrap (st_if (se_of G.g h1) (mem (by omega) h2) (mem (by omega) h3))
    | While t b o pos =>
      rw [cS.eq_def] at h
      cases o with
      | cons _ _ => cases h
      | nil =>
        simp only [Stmt.While.sizeOf_spec] at hn
        obtain ⟨ct, h1, h⟩ := bindS h
        obtain ⟨cb, h2, rfl⟩ := mapS h
        exact st_wrap (st_whl G.g (se_of G.g h1) (mem (by omega) h2))
    | For tg iter b o pos =>
      rw [cS.eq_def] at h
      cases o with
      | cons _ _ => cases h
      | nil =>
        simp only [Stmt.For.sizeOf_spec] at hn
        obtain ⟨it, h1, h⟩ := bindS h
        obtain ⟨t, h2, h⟩ := bindS h
        obtain ⟨cb, h3, rfl⟩ := mapS h
        obtain ⟨k1, k2⟩ := j_of G.g h1
        exact st_wrap (st_for G.g k1 (g_tg (by rw [G.g.hN]; exact G.g.nd) G.g.calm G.g.hK G.sto h2) (mem (by omega) h3) k2)
    | Raise exc cause pos =>
      rw [cS.eq_def] at h
      cases exc with
      | none => cases h
      | some v =>
        cases v with
        | Call f es ks cpos =>
          cases f with
          | Name x p =>
            cases es with
            | nil => cases h
            | cons e es =>
              cases es with
              | cons _ _ => cases h
              | nil =>
                cases ks with
                | cons _ _ => cases h
                | nil =>
                  cases cause with
                  | some _ => cases h
                  | none =>
                    dsimp only at h
                    split at h
                    · rename_i hc
                      obtain ⟨c, h1, rfl⟩ := mapS h
                      exact st_wrap (st_raise G.g (G.exc x hc.1 hc.2) (se_of G.g h1))
                    · cases h; exact st_bad
          | _ => cases h
        | _ => cases h
    | Pass pos => rw [cS.eq_def] at h; cases h; exact st_nop ps_pass
    | Break pos => rw [cS.eq_def] at h; cases h; exact st_brk
    | Continue pos => rw [cS.eq_def] at h; cases h; exact st_cont
    | Expr e pos =>
      rw [cS.eq_def] at h
      cases e with
      | Constant v k p =>
        cases v with
        | str x => cases h; exact st_nop ps_doc
        | _ => exact st_e G h
      | Call f es ks cpos =>
        cases f with
        | Attribute o m apos =>
          cases o with
          | Name x p =>
            cases es with
            | nil => exact st_e G h
            | cons e es =>
              cases es with
              | cons _ _ => exact st_e G h
              | nil =>
                cases ks with
                | cons _ _ => exact st_e G h
                | nil =>
                  obtain ⟨s', h1, rfl⟩ := mapS h
                  exact st_wrap (st_cAp G h1)
          | _ => exact st_e G h
        | _ => exact st_e G h
      | _ => exact st_e G h
    | _ => rw [cS.eq_def] at h; cases h
theorem ss_of (G : Gs X S W C F) {ss : List Stmt} {cs : List Sm} (h : cSs C L ss = some cs) : SSs X S W F N ss cs :=
  sss_of ss (fun s _ c hc => ss_all G (sizeOf s + 1) s (by omega) hc) h
end
end PD
set_option Elab.async false
set_option linter.all false
set_option maxRecDepth 100000
set_option autoImplicit false
namespace PD
open PySem PySem.Spec L2

/-! ### a program: defs by text and by hand -/
inductive Df where
  | tx (n len : Nat) (body : List Sm)
  | sp (n : Nat) (m : List Vl → M D)
def Df.ar : Df → Nat
  | .tx n _ _ => n
  | .sp n _ => n
def slOf : Vl → Option Sl
  | .d x => some (.fz x)
  | .gn => some .gn
  | .sc ns => some (.sc ns)
  | .bo _ => none
/-- what a def tells when it ends so -/
def endD : Fl → M D
  | .rt d => .pu d
  | .nx _ => .pu .none
  | _ => .stuck
def callF (w : Str → Option (Option Str)) (nW : Nat) (P : List Df) : Nat → Nat → List Vl → M D
  | 0, _, _ => .stuck
  | f + 1, i, xs => match P[i]? with
    | some (.tx n len body) => (M.ofO (xs.mapM slOf)).bd fun sl => (exSs ⟨callF w nW P f, w⟩ nW body (sl ++ List.replicate (len - n) .un)).bd endD
    | some (.sp _ m) => m xs
    | none => .stuck
def spOf (S : Sig) (n : Nat) (m : List Vl → M D) : Sp := fun vs H Q E => ∃ xs g H0, xs.length = n ∧ vs.length = n ∧ Same H0 H ∧ NoG S.gm H0 ∧ (∀ a ps, H0 a ≠ some (.tbl ps)) ∧ GenAt S.gm g H0 H ∧ LamX.Tabs S.T H ∧ VRs S H0 H vs xs ∧
  Pst S (fun c d _ H => E c d H) [] H0 H (relR S) Q (m xs g)
theorem VRs.length {S : Sig} {H0 H : Hp} : ∀ {vs : List V} {xs : List Vl}, VRs S H0 H vs xs → vs.length = xs.length
  | _, _, .nil => rfl
  | _, _, .cons _ hs => by simp [VRs.length hs]
theorem spOk_of {S : Sig} {n : Nat} {m : List Vl → M D} : SpOk S n m (spOf S n m) := fun vs xs g H0 H Q E hn sub gn nt gen tabs r h =>
  ⟨xs, g, H0, hn, by rw [r.length]; exact hn, sub, gn, nt, gen, tabs, r, h⟩
/-- the slots at the entry -/
theorem VRs.get {S : Sig} {H0 H : Hp} : ∀ {vs : List V} {xs : List Vl} {sl : List Sl}, VRs S H0 H vs xs → xs.mapM slOf = some sl → sl.length = vs.length ∧ ∀ (i : Nat) (s : Sl), sl[i]? = some s → ∃ v, vs[i]? = some v ∧ SlR S H H0 H (some v) s ∧ ∀ ds, s ≠ .ow ds
  | _, _, sl, .nil, e => by
    have e : some [] = some sl := by simpa using e
    cases e
    exact ⟨rfl, fun i s h => by simp at h⟩
  | v :: vs, x :: xs, sl, .cons h hs, e => by
    rw [List.mapM_cons] at e
    cases e1 : slOf x with
    | none => rw [e1] at e; cases e
    | some s =>
      cases e2 : xs.mapM slOf with
      | none => rw [e1, e2] at e; cases e
      | some sl' =>
        rw [e1, e2] at e
        have e3 : s :: sl' = sl := Option.some.inj e
        subst e3
        obtain ⟨k1, k2⟩ := VRs.get hs e2
        refine ⟨by simp [k1], fun i s' hi => ?_⟩
        cases i with
        | zero =>
          have hi : s = s' := by simpa using hi
          subst hi
          refine ⟨v, rfl, ?_⟩
          cases x with
          | d d => cases e1; exact ⟨⟨v, rfl, h⟩, fun _ z => nomatch z⟩
          | gn => cases e1; obtain ⟨p, k1, k2⟩ := h; exact ⟨⟨p, k1, by rw [k2]⟩, fun _ z => nomatch z⟩
          | sc ns => cases e1; obtain ⟨p, k1, k2⟩ := h; exact ⟨⟨p, by rw [k1], k2⟩, fun _ z => nomatch z⟩
          | bo _ => cases e1
        | succ i =>
          obtain ⟨v', l1, l2⟩ := k2 i s' (by simpa using hi)
          exact ⟨v', by simpa using l1, l2⟩
theorem rl_start {S : Sig} {g : Gen} {H0 H : Hp} {vs : List V} {xs : List Vl} {sl : List Sl} {Nn : List Str} {n : Nat} (sub : Same H0 H) (gn : NoG S.gm H0) (nt : ∀ a ps, H0 a ≠ some (.tbl ps)) (gen : GenAt S.gm g H0 H) (tabs : LamX.Tabs S.T H) (r : VRs S H0 H vs xs) (e : xs.mapM slOf = some sl) (hn : vs.length = n) (hN : n ≤ Nn.length) :
    Rl S (sl ++ List.replicate (Nn.length - n) .un) g (L2.start Nn vs) H H0 H0 H := by
  obtain ⟨k1, k2⟩ := r.get e
  refine ⟨Stp.refl _ _ _, sub, gen, gn, tabs, nt, fun i s hi => ?_, fun i j a hne h1 h2 h3 => ?_⟩
  · by_cases hl : i < sl.length
    · rw [List.getElem?_append_left hl] at hi
      obtain ⟨v, l1, l2⟩ := k2 i s hi
      refine ⟨some v, ?_, ?_⟩
      · unfold L2.start
        rw [List.getElem?_append_left (by simpa [← k1] using hl), List.getElem?_map, l1]; rfl
      · exact l2.1
    · rw [List.getElem?_append_right (by omega)] at hi
      have hlt : i - sl.length < Nn.length - n := by
        have := (List.getElem?_eq_some_iff.mp hi).1
        simpa using this
      rw [List.getElem?_replicate] at hi
      rw [if_pos hlt] at hi
      cases hi
      refine ⟨none, ?_, trivial⟩
      unfold L2.start
      rw [List.getElem?_append_right (by simp; omega), List.getElem?_replicate, if_pos (by simp; omega)]
  · obtain ⟨ds, h1⟩ := h1
    by_cases hl : i < sl.length
    · rw [List.getElem?_append_left hl] at h1
      obtain ⟨v, l1, l2⟩ := k2 i _ h1
      exact absurd rfl (l2.2 _)
    · rw [List.getElem?_append_right (by omega), List.getElem?_replicate] at h1
      split at h1 <;> cases h1
end PD
set_option Elab.async false
set_option linter.all false
set_option maxRecDepth 100000
set_option autoImplicit false
namespace PD
open PySem PySem.Spec L2

/-! ### a head's hook over told addresses -/
def obsL (as : List Addr) (fa : List He.Fa) (fn : List He.DefD) (tf : List He.Defn) (ex : PySem.W.Frag → Bool) (g : Addr → Option Obj) : He.AlX :=
  (He.obsT fa fn [] (He.frT g as), (match g sysModules with | some ⟨_, _, .dict _ _, _⟩ => true | _ => false) && (ex (He.frT g as) && He.tabsB g tf (He.frT g as)))
/-- the modules' table is a dict -/
def SysOk (h : Heap) : Prop := ∃ c d es n sl, h.get? sysModules = some ⟨c, d, .dict es n, sl⟩
theorem saysL_of {as : List Addr} {fa : List He.Fa} {fn : List He.DefD} {tf : List He.Defn} {ex : PySem.W.Frag → Bool} {w : World} {h : Heap} (e : obsL as fa fn tf ex h.get? = He.valX fn [] w) : He.SaysX fa fn [] tf ex w h (He.frT h.get? as) ∧ SysOk h := by
  have told : He.obsT fa fn [] (He.frT h.get? as) = He.valT fn [] w := congrArg Prod.fst e
  have rest := congrArg Prod.snd e
  have rest : ((match h.get? sysModules with | some ⟨_, _, .dict _ _, _⟩ => true | _ => false) && (ex (He.frT h.get? as) && He.tabsB h.get? tf (He.frT h.get? as))) = true := rest
  rw [Bool.and_eq_true, Bool.and_eq_true] at rest
  obtain ⟨r0, r1, r2⟩ := rest
  have at_ : ∀ p ∈ tf, PySem.W.codeHdIn (He.frT h.get? as) (He.cT (He.frT h.get? as) p).1 (He.cT (He.frT h.get? as) p).2 = true ∧ ∃ o, h.get? (He.cT (He.frT h.get? as) p).2 = some o ∧ He.emptyTab o = true := by
    intro p hp
    have one := List.all_eq_true.mp r2 p hp
    rw [Bool.and_eq_true] at one
    refine ⟨one.1, ?_⟩
    have two := one.2
    split at two
    · exact ⟨_, by assumption, two⟩
    · cases two
  refine ⟨{ t := told, more := r1, hd := fun p hp => (at_ p hp).1, out := fun p hp => ?_, empty := fun p hp => ?_ }, ?_⟩
  · obtain ⟨o, q, z⟩ := (at_ p hp).2
    exact He.frT_none q z
  · obtain ⟨o, q, z⟩ := (at_ p hp).2
    rw [q, He.emptyTab_eq z]
  · split at r0
    · exact ⟨_, _, _, _, _, by assumption⟩
    · cases r0
def hookL (as : List Addr) (fa : List He.Fa) (fn : List He.DefD) (tf : List He.Defn) (ex : PySem.W.Frag → Bool) : PySem.W.Hook where
  α := He.AlX
  obs := fun s => obsL as fa fn tf ex s.heap.get?
  val := fun w => He.valX fn [] w
  says := fun w h => ∃ K : PySem.W.Frag, K.In h ∧ He.SaysX fa fn [] tf ex w h K ∧ SysOk h
  of := fun _ _ e => ⟨_, He.frT_in, saysL_of e⟩
  keeps := fun _ _ _ z k => by
    obtain ⟨K, hK, c, d⟩ := z
    obtain ⟨c1, c2, c3, c4, c5, e⟩ := d
    exact ⟨K, PySem.W.Frag.In.keeps hK k, { t := c.t, more := c.more, hd := c.hd, out := c.out, empty := fun p hp => k _ _ (c.empty p hp) }, c1, c2, c3, c4, c5, k _ _ e⟩
theorem obsL_eq {as : List Addr} {fa : List He.Fa} {fn : List He.DefD} {tf : List He.Defn} {ex : PySem.W.Frag → Bool} {g : Addr → Option Obj} {s : Shared} (h : ∀ a, g a = s.heap.get? a) : obsL as fa fn tf ex g = (hookL as fa fn tf ex).obs s := by
  obtain rfl : g = s.heap.get? := funext h
  rfl
end PD
set_option Elab.async false
set_option linter.all false
set_option maxRecDepth 100000
set_option autoImplicit false
namespace PD
open PySem PySem.Spec L2

/-! ### a law's call: the caller's guards are told -/
abbrev tab0 : Obj := { cls := .none, data := .fields #[] }
/-- what is tracked at the law's entry: the tables of code, and the script where it is no written object -/
def entryH (Ts : List Addr) (K : PySem.W.Frag) (a : Addr) (o : Obj) (ns : List Int) : Hp := fun b =>
  if b ∈ Ts then some (.tbl #[]) else if b = a ∧ K.lookup a = none then some (.frz o (.lst (ns.map V.int))) else none
section
variable {Ts : List Addr} {K : PySem.W.Frag} {a b : Addr} {o : Obj} {ns : List Int}
theorem entryH_tab (h : b ∈ Ts) : entryH Ts K a o ns b = some (.tbl #[]) := if_pos h
theorem entryH_some {u : HO} (e : entryH Ts K a o ns b = some u) : (b ∈ Ts ∧ u = .tbl #[]) ∨ (b ∉ Ts ∧ b = a ∧ K.lookup a = none ∧ u = .frz o (.lst (ns.map V.int))) := by
  unfold entryH at e
  by_cases h : b ∈ Ts
  · rw [if_pos h] at e; cases e; exact .inl ⟨h, rfl⟩
  · rw [if_neg h] at e
    by_cases h2 : b = a ∧ K.lookup a = none
    · rw [if_pos h2] at e; cases e; exact .inr ⟨h, h2.1, h2.2, rfl⟩
    · rw [if_neg h2] at e; cases e
end
section
variable {P : Program} {w : World} {K : PySem.W.Frag} {mg mb : Str → Option Value} {CX : CXT} {k : Nat} {fa a : Addr} {cs : List (Addr × Addr)} {fd : FuncData} {x : Str} {sp : Sp} {s : Shared} {vs : List Value} {ns : List Int}
theorem law_callG (sysD : SysOk s.heap) (inK : K.In s.heap) (gNs : s.heap.Ns mainGlobals mg) (bNs : s.heap.Ns builtinsNs mb) (boot : ∀ x : Str, x ≠ "__name__" → mb x = bootBuiltins x) (free : s.heap.NoLimit) (gens : s.gens = #[])
    (tabs : ∀ p ∈ cs, s.heap.get? p.2 = some tab0) (tabK : ∀ p ∈ cs, K.lookup p.2 = none) (codes : ∀ p ∈ cs, PySem.W.CodeHd s.heap p.1 p.2)
    (bMain : ∃ (bm : Addr) (ob : Obj), mg "__builtins__" = some (.ref bm) ∧ bm ≠ builtinsNs ∧ s.heap.get? bm = some ob ∧ ob.cls = .type "module" ∧ ob.dict = some builtinsNs ∧ ob.data = .plain)
    (scr : s.heap.get? a = some { cls := .type "list", data := .seq vs.toArray }) (isInts : PyProof.Rows.IntsAre vs ns) (len : ns.length ≤ sizeLine) (room : Room k callerA)
    (F : ∀ base : Heap, K.In base → base.Ns mainGlobals mg → (∃ o, base.get? sysModules = some o) → (∀ p ∈ cs, LamX.TabB base mg p.1 p.2) → FnG P w K mg base CX k fa fd [x] sp) (bind : ∀ (s : Shared) (u : Value), BindsTo s fd ⟨[u], []⟩ [(x, u)])
    (start : ∀ H : Hp, (∀ p ∈ cs, H p.2 = some (.tbl #[])) → SqL K H a (ns.map V.int) → (∀ b u, H b = some u → (∃ p ∈ cs, p.2 = b) ∨ b = a) → sp [.ref a] H (fun v _ => v = .bl true) fun _ _ _ => False)
    (noX : ∀ H e s', CX [] H s (fun _ _ _ => False) e s' → False) :
    codeAny (model P w) callerA (.call (.ref fa) ⟨[.ref a], []⟩) (fun r s' => r = .ok (.ret (.bool true)) ∧ OldK s.heap s'.heap ∧ s'.os = s.os ∧ PyProof.Rows.AllBare s'.gens) s := by
  have rel := vals_ints isInts
  have vl := isInts.length
  generalize hTs : cs.map (·.2) = Ts
  have tOf : ∀ {b}, b ∈ Ts → ∃ p ∈ cs, p.2 = b := fun {b} hb => by rw [← hTs] at hb; exact List.mem_map.mp hb
  have tIn : ∀ {p}, p ∈ cs → p.2 ∈ Ts := fun {p} hp => by rw [← hTs]; exact List.mem_map.mpr ⟨p, hp, rfl⟩
  have tabAt : ∀ {b}, b ∈ Ts → s.heap.get? b = some tab0 := fun {b} hb => by
    obtain ⟨p, hp, rfl⟩ := tOf hb
    exact tabs p hp
  have notT : a ∉ Ts := fun z => by
    have q := (tabAt z).symm.trans scr
    have q2 : Data.fields #[] = Data.seq vs.toArray _ := congrArg Obj.data (Option.some.inj q)
    cases q2
  let H : Hp := entryH Ts K a { cls := .type "list", data := .seq vs.toArray } ns
  -- what is not a list, not an empty record, is not tracked
  have bareOf : ∀ {b : Addr} {u : Obj}, s.heap.get? b = some u → (∀ ys n, u.data ≠ .seq ys n) → u.data ≠ .fields #[] → H b = none := fun {b u} e n1 n2 => by
    cases q : H b with
    | none => rfl
    | some t =>
      rcases entryH_some q with ⟨hb, _⟩ | ⟨_, rfl, _, _⟩
      · rw [tabAt hb] at e; cases e; exact absurd rfl n2
      · rw [scr] at e; cases e; exact absurd rfl (n1 _ _)
  have toBase : ∀ {b : Addr} {u : Obj}, s.heap.get? b = some u → H b = none → (hidT s.heap H).get? b = some u := fun e n => hidT_get e n
  have nsBase : ∀ {b : Addr} {m : Str → Option Value}, s.heap.Ns b m → (hidT s.heap H).Ns b m := fun {b m} ⟨u, es, ep, h1, h2, h3⟩ =>
    ⟨u, es, ep, toBase h1 (bareOf h1 (fun ys n z => by rw [h2] at z; cases z) fun z => by rw [h2] at z; cases z), h2, h3⟩
  have kBase : K.In (hidT s.heap H) := fun b u e => toBase (inK b u e) (by
    cases q : H b with
    | none => rfl
    | some t =>
      rcases entryH_some q with ⟨hb, _⟩ | ⟨_, rfl, nk, _⟩
      · obtain ⟨p, hp, rfl⟩ := tOf hb
        rw [tabK p hp] at e; cases e
      · rw [nk] at e; cases e)
  have modB : L2.Mod K mg (hidT s.heap H) := ⟨kBase, nsBase gNs, ⟨mb, nsBase bNs, boot⟩, let ⟨mc, h1, h2⟩ := free; ⟨mc, nsBase h1, h2⟩⟩
  have sysB : ∃ o, (hidT s.heap H).get? sysModules = some o := by
    obtain ⟨c, d, es, n, sl, e⟩ := sysD
    exact ⟨_, toBase e (bareOf e (fun ys n z => by cases z) fun z => by cases z)⟩
  have tabB : ∀ p ∈ cs, LamX.TabB (hidT s.heap H) mg p.1 p.2 := fun p hp => by
    have at2 := tabs p hp
    refine ⟨?_, ?_, fun z => ?_⟩
    · obtain ⟨oc, us, file, tf, flags, tg, inF, text, tt, c1, c2, c3, c4, rest⟩ := codes p hp
      refine ⟨oc, us, file, tf, flags, tg, inF, text, tt, toBase c1 (bareOf c1 (fun ys n z => ?_) fun z => ?_), c2, c3, c4, rest⟩
      · rw [c3] at z; cases z
      · rw [c3] at z; cases z; simp at c4
    · obtain ⟨bm, ob, m1, m2, m3, m4, m5, m6⟩ := bMain
      refine ⟨bm, ob, m1, m2, fun z => ?_, fun z => ?_, toBase m3 (bareOf m3 (fun ys n z => ?_) fun z => ?_), m4, m5, m6⟩
      · obtain ⟨u, es, ep, h1, h2, _⟩ := gNs
        rw [z, h1] at m3; cases m3
        rw [h2] at m6; cases m6
      · rw [z, at2] at m3; cases m3; cases m6
      · rw [m6] at z; cases z
      · rw [m6] at z; cases z
    · obtain ⟨u, es, ep, h1, h2, _⟩ := gNs
      rw [z, at2] at h1; cases h1; cases h2
  have allOk : HOk P w H s.heap := fun b u e => by
    rcases entryH_some e with ⟨hb, rfl⟩ | ⟨_, rfl, _, rfl⟩
    · exact tabAt hb
    · exact ⟨scr, by rw [List.length_map]; exact len, vs, _, rel, scr⟩
  have sq : SqL K H a (ns.map V.int) := by
    cases q : K.lookup a with
    | none => exact .inl (.inr ⟨_, by show entryH _ _ _ _ _ _ = _; unfold entryH; rw [if_neg notT, if_pos ⟨rfl, q⟩]⟩)
    | some u =>
      have e := inK a u q
      rw [scr] at e
      cases e
      exact .inr ⟨_, vs.toArray, _, q, rfl, rfl, rfl, by rw [List.size_toArray, vl]; exact len, by simpa using rel⟩
  have e0 : Env0 P w K mg (hidT s.heap H) callerA [] s H := ⟨rfl, modB, fun b u e => of_hidT e, Nat.le_of_eq (hidT_size _ _), trivial, fun b hb => absurd (show b ∈ ([] : List Addr) from hb) (by simp), allOk, .of_eq gens⟩
  have st := start H (fun p hp => entryH_tab (tIn hp)) sq fun b u e => by
    rcases entryH_some e with ⟨hb, _⟩ | ⟨_, hb, _⟩
    · exact .inl (tOf hb)
    · exact .inr hb
  refine codeAny_mono ((F _ kBase (nsBase gNs) sysB tabB).run callerA [] s H ⟨[.ref a], []⟩ [.ref a] [.ref a] _ _ room rfl e0 (bind s (.ref a)) (.cons rfl .nil) st) fun r s' res => ?_
  match r, res with
  | .error e, res => exact (noX H e s' res).elim
  | .ok .next, res => exact False.elim res
  | .ok .brk, res => exact False.elim res
  | .ok .cont, res => exact False.elim res
  | .ok (.ret u), ⟨v, H', os, bare, un, hok', rv, isT⟩ =>
    have isT : v = .bl true := isT
    subst isT
    obtain rfl : u = Value.bool true := rv
    have same : ∀ b u, b ∉ Ts → s.heap.get? b = some u → s'.heap.get? b = some u := fun b u nb e => by
      cases q : H b with
      | none => exact un.keep b u e q (fun z => absurd (show b ∈ ([] : List Addr) from z) (by simp)) (by simp)
      | some t =>
        rcases entryH_some q with ⟨hb, _⟩ | ⟨_, rfl, _, rfl⟩
        · exact absurd hb nb
        · obtain ⟨h2, _⟩ := hok' _ _ (un.frzs _ _ _ q)
          rw [scr] at e; cases e
          exact h2
    have grown : ∀ {b}, b ∈ Ts → ∃ more : Array Value, s'.heap.get? b = some { cls := .none, data := .fields more } := fun {b} hb => by
      obtain ⟨more, z⟩ := un.tbls b #[] (entryH_tab hb)
      exact ⟨_, hok' b _ z⟩
    refine ⟨rfl, ⟨fun b u e => ?_, fun b u e => ?_⟩, os, bare⟩
    · by_cases hb : b ∈ Ts
      · obtain ⟨p, hp, rfl⟩ := tOf hb
        obtain ⟨more, hm⟩ := grown hb
        rw [tabs p hp] at e
        cases e
        exact .inr (.inl ⟨((codes p hp).tab (tabs p hp)).isCodeTable, rfl, #[], more, rfl, by rw [Array.empty_append]; exact hm⟩)
      · exact .inl (same b u hb e)
    · by_cases hb : b ∈ Ts
      · obtain ⟨more, hm⟩ := grown hb
        exact ⟨_, hm⟩
      · exact ⟨u, same b u hb e⟩
end
/-- what is told of the law's def at the head's heap -/
def LawG (l : PySem.W.OpenLaw) (w : World) (K : PySem.W.Frag) (CX : CXT) (k n : Nat) (x : Str) (mg : Str → Option Value) (fa : Addr) (h : Heap) : Prop :=
  ∃ (fd : FuncData) (cs : List (Addr × Addr)) (sp : Sp), (∀ p ∈ cs, h.get? p.2 = some tab0) ∧ (∀ p ∈ cs, K.lookup p.2 = none) ∧ (∀ p ∈ cs, PySem.W.CodeHd h p.1 p.2) ∧ (∀ (s : Shared) (u : Value), BindsTo s fd ⟨[u], []⟩ [(x, u)]) ∧
    (∀ (H : Hp) (a : Addr) (ns : List Int), ns.length ≤ n → (∀ z ∈ ns, Builtin.Int.intBits z ≤ 1048576) → (∀ p ∈ cs, H p.2 = some (.tbl #[])) → SqL K H a (ns.map V.int) → (∀ b u, H b = some u → (∃ p ∈ cs, p.2 = b) ∨ b = a) → sp [.ref a] H (fun v _ => v = .bl true) fun _ _ _ => False) ∧
    SysOk h ∧ ∀ base : Heap, K.In base → base.Ns mainGlobals mg → (∃ o, base.get? sysModules = some o) → (∀ p ∈ cs, LamX.TabB base mg p.1 p.2) → FnG l.prog w K mg base CX k fa fd [x] sp
theorem walk_ofG {l : PySem.W.OpenLaw} {n k : Nat} {q : Program} {loose : List Str} {XP : (Str → Option Value) → Heap → Prop} {YP : World → Heap → Prop} {d : DefRec} {CX : World → CXT} {x : Str}
    (most : l.most = some n) (few : n ≤ sizeLine) (nodef : d.params.defaults = []) (room : Room k callerA)
    (F : ∀ (w : World) (mg : Str → Option Value) (fa : Addr) (h : Heap), YP w h → h.Ns mainGlobals mg → mg d.name = some (.ref fa) → ∃ K : PySem.W.Frag, K.In h ∧ LawG l w K (CX w) k n x mg fa h)
    (noX : ∀ (w : World) (H : Hp) (s : Shared) (e : Value) (s' : Shared), CX w [] H s (fun _ _ _ => False) e s' → False) :
    PySem.W.WalkO q loose XP YP l.row.toRowW d [] (fun f vs => PySem.call f vs) :=
  Att.attach_callB most nodef fun w _ s1 mg _ fa _ _ _ _ a vs ns G Y _ _ _ isL atA isInts len bits gens => by
    obtain ⟨K, inK, fd, cs, sp, t1, t2, t3, bd, start, sysD, FF⟩ := F w mg fa _ Y G.T.g isL
    exact law_callG sysD inK G.T.g G.T.b G.T.builtins G.T.nolimit gens t1 t2 t3 G.T.bmain atA isInts (Nat.le_trans len few) room FF bd (fun H k1 k2 k3 => start H a ns len bits k1 k2 k3) fun H e s' => noX w H s1 e s'
end PD
set_option Elab.async false
set_option linter.all false
set_option maxRecDepth 100000
set_option autoImplicit false
namespace PD
open PySem PySem.Spec L2

/-! ### classes of errors over ValueError -/
def oexB (K : PySem.W.Frag) (C : Addr) : Bool := (match K.lookup C with
  | some ⟨.type "type", _, .cls ⟨_, _, .ref C' :: bm, _, _, true, _, _, _, _, false⟩, sl⟩ => (match sl.toList with
    | [_, _, _, _, some (.builtin n), _] => C' == C && n == "ValueError.__new__" && PySem.HandSPX.refsVE bm
    | _ => false)
  | _ => false) && (decide (PySem.W.findIn K (.ref C) "__setattr__" = some (some (.builtin "object.__setattr__"))) && (decide (PySem.W.subIn K (.ref C) (.type "BaseException") = some true) &&
    (decide (PySem.W.typeIn K (.ref C) = some (.type "type")) && PySem.W.keepIn K (.ref C))))
theorem oexB_ok {K : PySem.W.Frag} {C : Addr} (h : oexB K C = true) : OexC K C := by
  unfold oexB at h
  simp only [Bool.and_eq_true, decide_eq_true_eq] at h
  obtain ⟨h1, h2, h3, h4, h5⟩ := h
  refine ⟨?_, h2, h3, h4, h5⟩
  split at h1
  · rename_i dd nm bs C' bm N q sn sub ab col sl e
    split at h1
    · rename_i k0 k1 k2 k3 n k5 hs
      simp only [Bool.and_eq_true, beq_iff_eq] at h1
      obtain ⟨⟨rfl, rfl⟩, h8⟩ := h1
      have hsl : sl = #[k0, k1, k2, k3, some (.builtin "ValueError.__new__"), k5] := by
        obtain ⟨l⟩ := sl
        simp only at hs
        rw [hs]
      subst hsl
      exact ⟨_, _, _, _, _, _, _, _, _, _, _, _, _, _, _, e, h8⟩
    · cases h1
  · cases h1
end PD
set_option Elab.async false
set_option linter.all false
set_option maxRecDepth 100000
set_option autoImplicit false
namespace PD
open PySem PySem.Spec L2

def spInit (K : PySem.W.Frag) (attr : Str) : Sp := fun vs H Q _ => ∃ (a C : Addr) (x : V), vs = [.ref a, x] ∧ OexC K C ∧ H a = some (exo a C none) ∧ PySem.W.findIn K (.ref C) attr = some none ∧
  ∀ dx, H dx = none → dx ≠ a → Q .non (upd (upd H dx (exd dx [(attr, x)])) a (exo a C (some dx)))
section
variable {P : Program} {w : World} {K : PySem.W.Frag} {mg : Str → Option Value} {base : Heap}
theorem ok_init {x qual par attr : Str} {params : Arguments} {p1 p2 p3 p4 : Pos} {scope : Scope} {f : Addr} {fd : FuncData} (F : FunD K x qual params [.Assign [.Attribute (.Name "self" p1) attr p2] (.Name par p3) p4] scope [] [] f fd)
    (S : FnScope ["self", par] ["self", par] scope) (v0 : Vis scope "self") (v1 : Vis scope par) (d1 : (par == ("__debug__" : Str)) = false) (d2 : (par == ("__classdict__" : Str)) = false) : FnOk P w K mg base CX0 1 f fd ["self", par] (spInit K attr) := by
  refine F.ok S (fun vs H Q E h => ?_) (fun cdv A outer s H vs Q E hr h => ⟨_, PSs.nox (pss_one (ps_ost (pe_var (i := 0) rfl v0 (by decide) (by decide)) (pe_var (i := 1) rfl v1 d1 d2))), ?_⟩)
  · obtain ⟨a, C, x, rfl, _⟩ := h
    rfl
  · obtain ⟨a, C, x, rfl, T, e, hno, hq⟩ := h
    exact ⟨x, rfl, .ref a, rfl, a, C, rfl, T, hno, .inl ⟨e, fun dx h1 h2 => hq dx h1 h2⟩⟩
end
section
variable {X : Cx}
/-- a reading of arguments, made wide -/
def wideA (ta : TA) : TA := fun σ H Q => ∃ Q0, (∀ vs H', Q0 vs H' → Q vs H') ∧ ta σ H Q0
theorem pa_wide {es : List Expr} {ta : TA} (h : PA X es ta) : PA X es (wideA ta) := ⟨fun pos pins s σ H Q I q => by
  obtain ⟨Q0, m, q⟩ := q
  refine wpAny_mono (h.run pos pins s σ H Q0 I q) (fun us s' z => ?_) fun _ _ z => z
  obtain ⟨vs, H', I', r, z⟩ := z
  exact ⟨vs, H', I', r, m _ _ z⟩⟩
theorem excOk_of {S : Sig} {c attr par : Str} {C fI : Addr} {fd : FuncData} (T : OexC X.K C) (iC : PySem.W.findIn X.K (.ref C) "__init__" = some (some (.ref fI))) (tI : PySem.W.typeIn X.K (.ref fI) = some (.type "function"))
    (F1 : FnOk X.prog X.w X.K X.mg X.base CX0 1 fI fd ["self", par] (spInit X.K attr)) (hr : Room 2 X.A) (hb : Binds X.K fd ["self", par] []) (hno : PySem.W.findIn X.K (.ref C) attr = some none)
    (hg : Gl X c) (hm : X.mg c = some (.ref C)) (hd : (c == ("__debug__" : Str)) = false) (e1 : S.cl c = C) (e2 : S.at_ c = attr) : ExcOk X S c := by
  intro a ta p pos ha he
  have h := pmk_oex (pos := pos) (p := p) T iC tI F1 hr hb .nil pass0 hg hm (pa_wide ha) hd he rfl
  intro pins s σ H Q I q
  refine h pins s σ H Q I ?_
  refine ⟨_, fun vs H1 z => ?_, q⟩
  obtain ⟨v, rfl, z⟩ := z
  refine ⟨by simp, fun a na => ⟨a, C, v, rfl, T, upd_same, hno, fun dx hdx nda => ?_⟩⟩
  have h1 : H1 dx = none := by rw [upd_ne nda] at hdx; exact hdx
  refine ⟨rfl, dx, [(attr, v)], upd_same, by rw [upd_ne nda, upd_same], h1, ?_⟩
  have z := z dx h1
  rw [e1, e2] at z
  have eq : upd (L2.del (upd (upd (upd H1 a (exo a C none)) dx (exd dx [(attr, v)])) a (exo a C (some dx))) a) dx (.xd [(attr, v)]) = upd H1 dx (.xd [(attr, v)]) := by
    funext b
    by_cases hb : b = dx
    · rw [hb, upd_same, upd_same]
    · rw [upd_ne hb, upd_ne hb]
      by_cases h2 : b = a
      · rw [h2, del_same, na]
      · rw [del_ne h2, upd_ne h2, upd_ne hb, upd_ne h2]
  rw [eq]
  exact z
end
end PD
set_option Elab.async false
set_option linter.all false
set_option maxRecDepth 100000
set_option autoImplicit false
namespace PD
open PySem PySem.Spec L2 PySem.Builtin PySem.Builtin.ObjectAttr

/-! ### classes of errors over a built-in class other than ValueError -/
structure OexG (K : PySem.W.Frag) (C : Addr) (bmB : List Value) (newId : String) : Prop where
  cls : ∃ nm q N bs bm sn sub ab col dd k0 k1 k2 k3 k5, K.lookup C = some (excClassObj nm q C N bs bm true sn sub ab col dd k0 k1 k2 k3 k5 newId) ∧ PySem.W.excTail bmB bm = true
  sets : PySem.W.findIn K (.ref C) "__setattr__" = some (some (.builtin "object.__setattr__"))
  isE : PySem.W.subIn K (.ref C) (.type "BaseException") = some true
  isT : PySem.W.typeIn K (.ref C) = some (.type "type")
  kept : PySem.W.keepIn K (.ref C) = true
def oegB (K : PySem.W.Frag) (C : Addr) (bmB : List Value) (newId : String) : Bool := (match K.lookup C with
  | some ⟨.type "type", _, .cls ⟨_, _, .ref C' :: bm, _, _, true, _, _, _, _, false⟩, sl⟩ => (match sl.toList with
    | [_, _, _, _, some (.builtin n), _] => decide (C' = C) && (decide (n = newId) && PySem.W.excTail bmB bm)
    | _ => false)
  | _ => false) && (decide (PySem.W.findIn K (.ref C) "__setattr__" = some (some (.builtin "object.__setattr__"))) && (decide (PySem.W.subIn K (.ref C) (.type "BaseException") = some true) &&
    (decide (PySem.W.typeIn K (.ref C) = some (.type "type")) && PySem.W.keepIn K (.ref C))))
theorem oegB_ok {K : PySem.W.Frag} {C : Addr} {bmB : List Value} {newId : String} (h : oegB K C bmB newId = true) : OexG K C bmB newId := by
  unfold oegB at h
  simp only [Bool.and_eq_true, decide_eq_true_eq] at h
  obtain ⟨h1, h2, h3, h4, h5⟩ := h
  refine ⟨?_, h2, h3, h4, h5⟩
  split at h1
  · rename_i dd nm bs C' bm N q sn sub ab col sl e
    split at h1
    · rename_i k0 k1 k2 k3 n k5 hs
      simp only [Bool.and_eq_true, decide_eq_true_eq] at h1
      obtain ⟨rfl, rfl, h8⟩ := h1
      have hsl : sl = #[k0, k1, k2, k3, some (.builtin n), k5] := by
        obtain ⟨l⟩ := sl
        simp only at hs
        rw [hs]
      subst hsl
      exact ⟨_, _, _, _, _, _, _, _, _, _, _, _, _, _, _, e, h8⟩
    · cases h1
  · cases h1
section
variable {X : Cx} {pins : List (Addr × Obj)} {σ : L2.St} {H : Hp} {s : Shared} {a C : Addr} {f : Str} {y : V} {u : Value} {Q : Unit → Shared → Prop} {E : Value → Shared → Prop} {A : Around} {B newId initId : String} {bmB : List Value}
/-- the first store into such an error -/
theorem setG (T : OexG X.K C bmB newId) (SF : StoreFacts B bmB "object.__setattr__" "object") (I : Inv X pins σ H s) (here : H a = some (exo a C none)) (no : PySem.W.findIn X.K (.ref C) f = some none) (ry : RelV y u)
    (fin : ∀ dx s', H dx = none → dx ≠ a → Inv X pins σ (upd (upd H dx (exd dx [(f, y)])) a (exo a C (some dx))) s' → Q () s') : wpAny (model X.prog X.w) A (setAttr (.ref a) f u) Q E s := by
  obtain ⟨nm, q, N, bs, bm, sn, sub, ab, col, dd, k0, k1, k2, k3, k5, hC, tail⟩ := T.cls
  have clsE : PySem.W.clsIn X.K C = some { name := nm, bases := bs, mro := .ref C :: bm, ns := N, qualname := q, hasDict := true, slotNames := sn, subclasses := sub, abstract := ab, collection := col, hasDel := false } := by
    unfold PySem.W.clsIn
    rw [hC] <;> rfl
  have over : PySem.W.excOver X.K C bmB = true := by
    unfold PySem.W.excOver
    rw [clsE]
    simp [tail]
  have taker : PySem.W.takerIn X.K C f = some none := by
    unfold PySem.W.takerIn
    rw [no] <;> rfl
  obtain ⟨t1, ho⟩ := exo_at I.hok here
  obtain ⟨hp, g, d, t, os⟩ := s
  have at_ : PySem.W.InstAt hp a ({ cls := .ref C, dict := none, data := .fields #[.ref t1, .none, .none, .none, .bool false, .none] } : Obj) C none := ⟨ho, rfl, rfl, trivial⟩
  refine PySem.W.set_plain I.kIn at_ T.sets (PySem.W.osa_openX SF I.kIn at_ over taker fun b => ?_)
  have lc : PySem.W.Looks (model X.prog X.w) hp (classData C) _ := PySem.W.looks_clsIn I.kIn clsE
  have ne : a ≠ hp.objs.size := Nat.ne_of_lt (Heap.lt_size ho)
  show wpAny _ _ (storeInOwnDict (.ref a) (.ref C) (.str f _) f u b) _ _ _
  unfold storeInOwnDict ownDictForStores
  repeat (first | with_reducible refine PySem.HandSPX.store_in_new ?_ ?_ | with_reducible refine wpAny_loadPart_at ho ?_ | with_reducible refine lc.at ?_ | wp_step)
  · exact ⟨_, #[], _, (Heap.get?_update_ne _ _ _ _ ne.symm).trans (Heap.get?_push_at rfl rfl), rfl, fun e he => absurd he (by simp), fun _ => rfl⟩
  intro h' tk' ns' same
  have ha' : (hp.push { cls := .type "dict", data := .dict #[] }).get? a = some _ := Heap.get?_push_of_some _ ho
  have new : h'.get? a = some { cls := .ref C, dict := some hp.objs.size, data := .fields #[.ref t1, .none, .none, .none, .bool false, .none] } := (same.2 a ne).trans (Heap.get?_update_self _ ha' rfl)
  have old : ∀ b o, b ≠ a → hp.get? b = some o → h'.get? b = some o := fun b o nb q => (same.2 b (Nat.ne_of_lt (Heap.lt_size q))).trans ((Heap.get?_update_ne _ _ _ _ nb).trans (Heap.get?_push_of_some _ q))
  have nD : H hp.objs.size = none := I.hok.fresh (Nat.le_refl _)
  have offA : ∀ {b : Addr}, H b = none → b ≠ a := fun n z => by rw [z, here] at n; cases n
  have offD : ∀ {b : Addr} {o : Obj}, hp.get? b = some o → b ≠ hp.objs.size := fun q => Nat.ne_of_lt (Heap.lt_size q)
  have stay : ∀ {b : Addr} {o : HO}, H b = some o → exo a C none ≠ o → (upd (upd H hp.objs.size (exd hp.objs.size [(f, y)])) a (exo a C (some hp.objs.size))) b = some o := fun {b o} q z => by
    rw [upd_ne (at_ne here q z), upd_ne (ne_of_none q nD)]; exact q
  have un : Un X.fs [] H (upd (upd H hp.objs.size (exd hp.objs.size [(f, y)])) a (exo a C (some hp.objs.size))) hp h' :=
    { keep := fun b o q n _ _ => old b o (offA n) q, slot := fun b o q n _ _ => ⟨o.slots, old b o (offA n) q⟩
      free := fun b o q n _ => by rw [upd_ne (offA n), upd_ne (offD q)]; exact n
      there := fun b o q _ => by
        rcases Nat.decEq b a with nb | eb
        · exact ⟨o, old b o nb q⟩
        · subst eb; exact ⟨_, new⟩
      tups := fun b xs q => stay q exo_tup, frzs := fun b o v q => stay q exo_frz
      tbls := fun b ps q => ⟨#[], by rw [stay q exo_tbl]; simp⟩ }
  refine fin hp.objs.size _ nD ne.symm (I.un (t' := tk') un fun b o q => ?_)
  rcases Nat.decEq b a with nb | eb
  · rw [upd_ne nb] at q
    rcases Nat.decEq b hp.objs.size with nd | ed
    · rw [upd_ne nd] at q
      exact (I.hok b o q).stay (fun c v hc z => old c v (hc.elim (fun e => by rw [e]; exact nb) fun e => at_ne here e exo_own) z) (fun c hc => stay hc exo_own) (fun c xs hc => stay hc exo_tup)
    · subst ed
      rw [upd_same] at q
      cases q
      exact exd_ok ns' (relO_put (fs := []) ry fun _ => True.intro)
  · subst eb
    rw [upd_same] at q
    cases q
    exact exo_ok new
end
def spInitG (K : PySem.W.Frag) (attr : Str) (bmB : List Value) (newId : String) : Sp := fun vs H Q _ => ∃ (a C : Addr) (x : V), vs = [.ref a, x] ∧ OexG K C bmB newId ∧ H a = some (exo a C none) ∧ PySem.W.findIn K (.ref C) attr = some none ∧
  ∀ dx, H dx = none → dx ≠ a → Q .non (upd (upd H dx (exd dx [(attr, x)])) a (exo a C (some dx)))
def tSetG (K : PySem.W.Frag) (f : Str) (bmB : List Value) (newId : String) (to te : TE) : TS := fun D σ H => te σ H fun y H1 => to σ H1 fun x H2 => ∃ a C : Addr, x = .ref a ∧ OexG K C bmB newId ∧ PySem.W.findIn K (.ref C) f = some none ∧ H2 a = some (exo a C none) ∧
  ∀ dx, H2 dx = none → dx ≠ a → D.nx σ (upd (upd H2 dx (exd dx [(f, y)])) a (exo a C (some dx)))
section
variable {X : Cx} {o e : Expr} {es : List Expr} {to te : TE} {ta : TA} {f : Str} {p p' pos : Pos} {B newId initId : String} {bmB : List Value}
theorem ps_setG (SF : StoreFacts B bmB "object.__setattr__" "object") (ho : PE X o to) (he : PE X e te) (hs : swapsWith e (some (.Attribute o f p')) pos.line X.env = pure false := by rfl) : PS X (.Assign [.Attribute o f p'] e pos) (tSetG X.K f bmB newId to te) := ⟨fun pins s σ H D I h => by
  refine plainObj_wpAny_Assign_Attribute (thn (he.run pins s σ H _ I h) fun v s1 z1 => ?_) hs
  obtain ⟨y, H1, I1, r1, q1⟩ := z1
  refine thn (ho.run pins s1 σ H1 _ I1 q1) fun u s2 z2 => ?_
  obtain ⟨x, H2, I2, r2, a, C, ex, T, no, ea, q⟩ := z2
  subst ex
  obtain rfl : u = Value.ref a := r2
  exact setG T SF I2 ea no r1 fun dx s' n ne J => ⟨σ, _, J, q dx n ne⟩⟩
theorem pmkG {CX : CXT} {x : Str} {C fI : Addr} {k : Nat} {fd : FuncData} {ps : List Str} {sp : Sp} (T : OexG X.K C bmB newId) (EB : ExcBaseFacts B newId initId bmB) (iC : PySem.W.findIn X.K (.ref C) "__init__" = some (some (.ref fI))) (tI : PySem.W.typeIn X.K (.ref fI) = some (.type "function"))
    (F1 : FnOk X.prog X.w X.K X.mg X.base CX k fI fd ps sp) (hr : Room (k + 1) X.A) (hb : Binds X.K fd ps []) (hx : Passes CX X (fun _ _ _ => False)) (hg : Gl X x) (hm : X.mg x = some (.ref C)) (ha : PA X (e :: es) ta) (hdb : (x == ("__debug__" : Str)) = false)
    (he : starEach (e :: es) X.env = (false, eval e X.env) :: starEach es X.env) (hpl : (backTo pos (starEach es X.env)).any (·.1) = false) : PMk X (.Call (.Name x p) (e :: es) [] pos) (tMkO C sp [] ta) := by
  intro pins s σ H Q I h
  obtain ⟨nm, q, N, bs, bm, sn, sub, ab, col, dd, k0, k1, k2, k3, k5, hC, tail⟩ := T.cls
  have mro : ∀ Y : String, bm.contains (.type Y) = bmB.contains (.type Y) := fun Y => PySem.W.excTail_contains Y bm tail
  refine wpAny_Call_Name_kw (ld_glob I hg hm ?_ hdb)
  refine PySem.W.callWith_K (h₀ := X.base) I.ok.mod.kin T.kept (thn (ha.run pos pins s σ H _ I h) fun us s1 z => ?_) he hpl
  obtain ⟨vs, H1, I1, r1, few, go⟩ := z
  refine ⟨I1.kIn, ?_⟩
  show wpAny _ _ (call (.ref C) us) _ _ _
  obtain ⟨hp, g, dr, tk, os⟩ := s1
  -- the arguments' tuple at the heap's end, the error behind it
  have above : hp.objs.size ≤ hp.objs.size + 1 := Nat.le_succ _
  have go := go _ (I1.hok.fresh above)
  have made : ((hp.push (PySem.W.kdv_tup us)).push (PySem.HandSPX.excO C hp.objs.size)).get? (hp.objs.size + 1) = some (PySem.HandSPX.excO C hp.objs.size) := by heap_get
  have kept : ∀ b o, hp.get? b = some o → ((hp.push (PySem.W.kdv_tup us)).push (PySem.HandSPX.excO C hp.objs.size)).get? b = some o := fun b o z => Heap.get?_push_of_some _ (Heap.get?_push_of_some _ z)
  have I2 := I1.laid (t' := tk) (a := hp.objs.size + 1) (o := exo (hp.objs.size + 1) C none) kept above (exo_ok made)
  have r2 : Vals (V.ref (hp.objs.size + 1) :: (vs ++ [])) (Value.ref (hp.objs.size + 1) :: us) := .cons rfl (by rw [List.append_nil]; exact r1)
  have len := F1.len _ _ _ _ go
  rw [r2.length] at len
  have fits : us.length ≤ sizeLine := by
    have := Paired.length r1
    rw [sizeLine_eq]; omega
  have bind := hb ⟨_, g, dr, tk, os⟩ (Value.ref (hp.objs.size + 1) :: us) I2.kIn (by rw [List.append_nil]; exact len)
  rw [List.append_nil] at bind
  refine wpAny_call (PySem.HandSPX.call_own EB mro (I1.kIn _ _ hC) (PySem.W.looks_findIn I1.kIn iC) (fun self => PySem.W.bind_fn I1.kIn self tI) fits
    (codeAny_mono (F1.run _ X.stack _ _ ⟨Value.ref (hp.objs.size + 1) :: us, []⟩ (Value.ref (hp.objs.size + 1) :: us) _ _ (fun _ _ _ => False) (hr.make C us []) (I2.env0.make C us []) bind r2 go) fun r s' out => ?_))
  match r, out with
  | .error er, out => exact hx pins σ _ _ er s' I2 out
  | .ok (.ret u), out =>
    obtain ⟨v, H2, os2, bare2, un2, hok2, rv, ev, d, fs, ea, ed, hd1, q2⟩ := out
    subst ev
    obtain ⟨h2, g2, d2, t2, os'⟩ := s'
    exact ⟨rv, mk_end (raises_own T.isE T.isT) I1 above kept un2 hok2 os2 bare2 ea ed hd1 q2⟩
  | .ok .next, out => exact False.elim out
  | .ok .brk, out => exact False.elim out
  | .ok .cont, out => exact False.elim out
end
section
variable {P : Program} {w : World} {K : PySem.W.Frag} {mg : Str → Option Value} {base : Heap} {B newId initId : String} {bmB : List Value}
theorem ok_initG {x qual par attr : Str} {params : Arguments} {p1 p2 p3 p4 : Pos} {scope : Scope} {f : Addr} {fd : FuncData} (SF : StoreFacts B bmB "object.__setattr__" "object") (F : FunD K x qual params [.Assign [.Attribute (.Name "self" p1) attr p2] (.Name par p3) p4] scope [] [] f fd)
    (S : FnScope ["self", par] ["self", par] scope) (v0 : Vis scope "self") (v1 : Vis scope par) (d1 : (par == ("__debug__" : Str)) = false) (d2 : (par == ("__classdict__" : Str)) = false) : FnOk P w K mg base CX0 1 f fd ["self", par] (spInitG K attr bmB newId) := by
  refine F.ok S (fun vs H Q E h => ?_) (fun cdv A outer s H vs Q E hr h => ⟨_, PSs.nox (pss_one (ps_setG (newId := newId) SF (pe_var (i := 0) rfl v0 (by decide) (by decide)) (pe_var (i := 1) rfl v1 d1 d2))), ?_⟩)
  · obtain ⟨a, C, x, rfl, _⟩ := h
    rfl
  · obtain ⟨a, C, x, rfl, T, e, no, hq⟩ := h
    exact ⟨x, rfl, .ref a, rfl, a, C, rfl, T, no, e, fun dx h1 h2 => hq dx h1 h2⟩
end
theorem excOk_ofG {X : Cx} {S : Sig} {c attr par : Str} {C fI : Addr} {fd : FuncData} {B newId initId : String} {bmB : List Value} (T : OexG X.K C bmB newId) (EB : ExcBaseFacts B newId initId bmB) (iC : PySem.W.findIn X.K (.ref C) "__init__" = some (some (.ref fI))) (tI : PySem.W.typeIn X.K (.ref fI) = some (.type "function"))
    (F1 : FnOk X.prog X.w X.K X.mg X.base CX0 1 fI fd ["self", par] (spInitG X.K attr bmB newId)) (hr : Room 2 X.A) (hb : Binds X.K fd ["self", par] []) (hno : PySem.W.findIn X.K (.ref C) attr = some none)
    (hg : Gl X c) (hm : X.mg c = some (.ref C)) (hd : (c == ("__debug__" : Str)) = false) (e1 : S.cl c = C) (e2 : S.at_ c = attr) : ExcOk X S c := by
  intro a ta p pos ha he
  have h := pmkG (pos := pos) (p := p) T EB iC tI F1 hr hb pass0 hg hm (pa_wide ha) hd he rfl
  intro pins s σ H Q I q
  refine h pins s σ H Q I ?_
  refine ⟨_, fun vs H1 z => ?_, q⟩
  obtain ⟨v, rfl, z⟩ := z
  refine ⟨by simp, fun a na => ⟨a, C, v, rfl, T, upd_same, hno, fun dx hdx nda => ?_⟩⟩
  have h1 : H1 dx = none := by rw [upd_ne nda] at hdx; exact hdx
  refine ⟨rfl, dx, [(attr, v)], upd_same, by rw [upd_ne nda, upd_same], h1, ?_⟩
  have z := z dx h1
  rw [e1, e2] at z
  have eq : upd (L2.del (upd (upd (upd H1 a (exo a C none)) dx (exd dx [(attr, v)])) a (exo a C (some dx))) a) dx (.xd [(attr, v)]) = upd H1 dx (.xd [(attr, v)]) := by
    funext b
    by_cases hb : b = dx
    · rw [hb, upd_same, upd_same]
    · rw [upd_ne hb, upd_ne hb]
      by_cases h2 : b = a
      · rw [h2, del_same, na]
      · rw [del_ne h2, upd_ne h2, upd_ne hb, upd_ne h2]
  rw [eq]
  exact z
end PD
set_option Elab.async false
set_option linter.all false
set_option maxRecDepth 100000
set_option autoImplicit false
namespace PD
open PySem PySem.Spec L2

/-! ### constants of the module -/
def all2 (f : Value → D → Bool) : List Value → List D → Bool
  | [], [] => true
  | u :: us, d :: ds => f u d && all2 f us ds
  | _, _ => false
def drB (K : PySem.W.Frag) : Nat → Value → D → Bool
  | 0, _, _ => false
  | n + 1, u, d => match u, d with
    | .none, .none => true
    | .bool b, .bool c => b == c
    | .int i _, .int j => decide (i = j)
    | .str x _, .str y => decide (x = y)
    | .ref a, .tuple ds => (match K.lookup a with
      | some ⟨.type c, _, .seq its _, _⟩ => decide (c = "tuple") && (decide (its.size ≤ sizeLine) && all2 (drB K n) its.toList ds)
      | _ => false)
    | _, _ => false
theorem all2_ok {K : PySem.W.Frag} {f : Value → D → Bool} (h : ∀ u d, f u d = true → ∃ v, RelV v u ∧ ∀ H, Dr K H v d) : ∀ {us : List Value} {ds : List D}, all2 f us ds = true → ∃ vs, Vals vs us ∧ ∀ H, DrAll K H vs ds
  | [], [], _ => ⟨[], .nil, fun _ => .nil⟩
  | [], _ :: _, e => by cases e
  | _ :: _, [], e => by cases e
  | u :: us, d :: ds, e => by
    unfold all2 at e
    rw [Bool.and_eq_true] at e
    obtain ⟨v, r, q⟩ := h u d e.1
    obtain ⟨vs, rs, qs⟩ := all2_ok h e.2
    exact ⟨v :: vs, .cons r rs, fun H => .cons (q H) (qs H)⟩
theorem drB_ok {K : PySem.W.Frag} : ∀ (n : Nat) (u : Value) (d : D), drB K n u d = true → ∃ v, RelV v u ∧ ∀ H, Dr K H v d := by
  intro n
  induction n with
  | zero => intro u d e; cases e
  | succ n ih =>
    intro u d e
    unfold drB at e
    split at e
    · exact ⟨.non, rfl, fun _ => .non⟩
    · have e := eq_of_beq e
      subst e
      exact ⟨.bl _, rfl, fun _ => .bl _⟩
    · have e := of_decide_eq_true e
      subst e
      exact ⟨.int _, ⟨_, rfl⟩, fun _ => .int _⟩
    · have e := of_decide_eq_true e
      subst e
      exact ⟨.str _, ⟨_, rfl⟩, fun _ => .str _⟩
    · rename_i a ds
      split at e
      · rename_i c od its k sl lk
        simp only [Bool.and_eq_true, decide_eq_true_eq] at e
        obtain ⟨rfl, h1, h2⟩ := e
        obtain ⟨vs, r, q⟩ := all2_ok ih h2
        exact ⟨.ref a, rfl, fun H => .tup (.inr ⟨_, its, k, lk, rfl, rfl, h1, r⟩) (q H)⟩
      · cases e
    · cases e
def ndB (K : PySem.W.Frag) (u : Value) : Bool := match u with
  | .ref a => (match K.lookup a with
    | some ⟨.type c, none, _, _⟩ => decide (c = "tuple")
    | _ => false)
  | _ => false
theorem ndB_ok {K : PySem.W.Frag} {u : Value} {v : V} {d : D} (r : RelV v u) (h : (!isTupD d || ndB K u) = true) : TupK K v d := fun ht => by
  rw [ht] at h
  have h : ndB K u = true := by simpa using h
  unfold ndB at h
  split at h
  · rename_i a
    split at h
    · rename_i c dt sl e
      have h := of_decide_eq_true h
      subst h
      cases v with
      | ref p => cases r; exact ⟨_, _, rfl, e, rfl, rfl⟩
      | non => cases r
      | bl b => cases r
      | int i => obtain ⟨t, r⟩ := r; cases r
      | str x => obtain ⟨t, r⟩ := r; cases r
      | byt b => obtain ⟨t, r⟩ := r; cases r
      | flt b => obtain ⟨t, r⟩ := r; cases r
      | ty n => cases r
    · cases h
  · cases h
def constB (K : PySem.W.Frag) (q : Str × D) : Bool := match PySem.W.nsIn K mainGlobals q.1 with
  | some (some u) => drB K 9 u q.2 && (!isTupD q.2 || ndB K u)
  | _ => false
theorem constB_ok {K : PySem.W.Frag} {h : Heap} {mg : Str → Option Value} (X : K.In h) (G : h.Ns mainGlobals mg) {x : Str} {d : D} (c : constB K (x, d) = true) : ∃ u v, mg x = some u ∧ RelV v u ∧ (∀ H, Dr K H v d) ∧ TupK K v d := by
  unfold constB at c
  split at c
  · rename_i u e
    rw [Bool.and_eq_true] at c
    obtain ⟨v, r, q⟩ := drB_ok _ _ _ c.1
    exact ⟨u, v, PySem.W.mg_of X G e, r, q, ndB_ok r c.2⟩
  · cases c
/-- an error's class, as the head tells it -/
def leT : List Value := [.type "LookupError", .type "Exception", .type "BaseException", .type "object"]
def oeT : List Value := [.type "OverflowError", .type "ArithmeticError", .type "Exception", .type "BaseException", .type "object"]
def excB (K : PySem.W.Frag) (q : Str × Str) : Bool := (oexB K (He.ga K q.1) || (oegB K (He.ga K q.1) leT "LookupError.__new__" || oegB K (He.ga K q.1) oeT "OverflowError.__new__")) && (decide (PySem.W.findIn K (.ref (He.ga K q.1)) "__init__" = some (some (.ref (He.ma K (He.ga K q.1) "__init__")))) &&
  (decide (PySem.W.typeIn K (.ref (He.ma K (He.ga K q.1) "__init__")) = some (.type "function")) && decide (PySem.W.findIn K (.ref (He.ga K q.1)) q.2 = some none)))
/-- all that the head's Bool tells -/
def moreB (consts : List (Str × D)) (excs : List (Str × Str)) (K : PySem.W.Frag) : Bool := consts.all (constB K) && excs.all (excB K)
theorem opt_get {α : Type} {o : Option (List α)} (h : o.isSome = true) : o = some (o.getD []) := by
  cases o with
  | none => cases h
  | some x => rfl
theorem lookup_memD : ∀ {l : List (Str × D)} {x : Str} {d : D}, l.lookup x = some d → (x, d) ∈ l
  | [], _, _, h => by cases h
  | (y, e) :: r, x, d, h => by
    rw [List.lookup_cons] at h
    cases q : x == y with
    | true =>
      rw [q] at h
      cases h
      rw [eq_of_beq q]
      exact List.mem_cons_self
    | false =>
      rw [q] at h
      exact List.mem_cons_of_mem _ (lookup_memD h)
/-- what the classes' texts are: name, attribute, parameter, its place -/
structure ExcTx (K : PySem.W.Frag) (c attr : Str) : Prop where
  ex : ∃ (x qual par : Str) (params : Arguments) (p1 p2 p3 p4 : Pos) (scope : Scope) (fd : FuncData), FunD K x qual params [.Assign [.Attribute (.Name "self" p1) attr p2] (.Name par p3) p4] scope [] [] (He.ma K (He.ga K c) "__init__") fd ∧
    FnScope ["self", par] ["self", par] scope ∧ Vis scope "self" ∧ Vis scope par ∧ (par == ("__debug__" : Str)) = false ∧ (par == ("__classdict__" : Str)) = false ∧ Binds K fd ["self", par] []
end PD
set_option Elab.async false
set_option linter.all false
set_option maxRecDepth 100000
set_option autoImplicit false
namespace PD
open PySem PySem.Spec L2

/-! ### a caught error, held as a value -/
def exv (a : Addr) (cls : Value) (d : Option Addr) : HO := .ext fun h => ∃ (oe : Obj) (vs : Array Value), h.get? a = some oe ∧ Zc cls d oe ∧ oe.data = .fields vs
section
variable {X : Cx} {pins : List (Addr × Obj)} {σ : L2.St} {H : Hp} {s : Shared} {a : Addr} {oe : Obj} {vs : Array Value} {cls : Value} {d : Option Addr}
theorem Inv.hold (I : Inv X ((a, oe) :: pins) σ H s) (n0 : X.s_0.heap.get? a = none) (np : ∀ p ∈ X.pn ++ pins, p.1 ≠ a) (hz : Zc cls d oe) (hd : oe.data = .fields vs) : Inv X pins σ (upd H a (exv a cls d)) s := by
  obtain ⟨k1, k2, k3, k4, k5⟩ := I.pin (a, oe) (by simp)
  have ne : ∀ {b u}, H b = some u → b ≠ a := fun {b u} e => ne_of_none e k2
  have n0' : ∀ {b o}, X.s_0.heap.get? b = some o → b ≠ a := fun {b o} e z => by rw [z, n0] at e; cases e
  refine ⟨I.ok, I.os, I.bare, ⟨I.base.keep, I.base.slot, fun b o e n hx => ?_, I.base.there, fun b xs e => ?_, fun b o u e => ?_, fun b ps e => ?_⟩, I.loc, I.cell, ?_, fun x c e => ?_, fun p hp => ?_, ?_, I.len⟩
  · rw [upd_ne (n0' e)]; exact I.base.free b o e n hx
  · have z := I.base.tups b xs e
    rw [upd_ne (ne z)]; exact z
  · have z := I.base.frzs b o u e
    rw [upd_ne (ne z)]; exact z
  · obtain ⟨more, z⟩ := I.base.tbls b ps e
    exact ⟨more, by rw [upd_ne (ne z)]; exact z⟩
  · rw [upd_ne (Ne.symm k3)]; exact I.free
  · have hc : c ≠ a := fun z => by
      obtain ⟨v, o, ho, hv⟩ := I.cell x c e
      rw [z, k1] at ho
      cases ho
      exact k5 v hv
    rw [upd_ne hc]; exact I.freeC x c e
  · obtain ⟨m1, m2, m3⟩ := I.pin p (by
      rcases List.mem_append.mp hp with z | z
      · exact List.mem_append_left _ z
      · exact List.mem_append_right _ (List.mem_cons_of_mem _ z))
    exact ⟨m1, by rw [upd_ne (np p hp)]; exact m2, m3⟩
  · exact L2.HOk.laidN I.hok (fun _ _ z => z) k2 ⟨⟨oe, vs, k1, hz, hd⟩, ⟨oe, k1⟩, fun _ _ ⟨o, v, q, r⟩ k => ⟨o, v, k o q, r⟩⟩
theorem exv_at (I : Inv X pins σ H s) {D dx : Addr} {fs : List (Str × V)} (h1 : H a = some (exv a (.ref D) (some dx))) (h2 : H dx = some (.xd fs)) : ∃ oe od mA, PySem.W.InstAt s.heap a oe D (some od) ∧ s.heap.Ns1 dx mA ∧ s.heap.get? dx = some od ∧ (∀ f, RelO (fs.lookup f) (mA f)) := by
  have x : ObjOk X.prog X.w H s.heap a (.ext fun h => ∃ (oe : Obj) (vs : Array Value), h.get? a = some oe ∧ Zc (.ref D) (some dx) oe ∧ oe.data = .fields vs) := I.hok a _ h1
  obtain ⟨oe, vs, e1, e2, e3⟩ := x.1
  obtain ⟨mA, hns, hr⟩ := (show ObjOk X.prog X.w H s.heap dx (.xd fs) from I.hok dx _ h2)
  obtain ⟨od, es, ep, ho, hrest⟩ := id hns
  exact ⟨oe, od, mA, ⟨e1, e2.1, by unfold PySem.W.notCls; rw [e3] <;> rfl, by rw [e2.2]; exact ho⟩, hns, ho, hr⟩
end
/-- what a class of errors must say, so that its instances are asked rightly -/
structure XvC (K : PySem.W.Frag) (D : Addr) : Prop where
  cl : (PySem.W.clsIn K D).isSome = true
  xf : XfC K D
  ha : PySem.W.findIn K (.ref D) "__class__" = some (some (.builtin "object.__class__"))
  hn : PySem.W.specialIn K (.builtin "object.__class__") "__get__" = some (some (.builtin "getset_descriptor.__get__"))
  ht : PySem.W.takesIn K (.builtin "object.__class__") = some true
  hm : PySem.W.mroIn K D (.type "object") = some true
def xvB (K : PySem.W.Frag) (D : Addr) : Bool := (PySem.W.clsIn K D).isSome && (xfB K D && (decide (PySem.W.findIn K (.ref D) "__class__" = some (some (.builtin "object.__class__"))) &&
  (decide (PySem.W.specialIn K (.builtin "object.__class__") "__get__" = some (some (.builtin "getset_descriptor.__get__"))) && (decide (PySem.W.takesIn K (.builtin "object.__class__") = some true) && decide (PySem.W.mroIn K D (.type "object") = some true)))))
theorem xvB_ok {K : PySem.W.Frag} {D : Addr} (h : xvB K D = true) : XvC K D := by
  unfold xvB at h
  simp only [Bool.and_eq_true, decide_eq_true_eq] at h
  obtain ⟨h1, h2, h3, h4, h5, h6⟩ := h
  exact ⟨h1, xfB_ok h2, h3, h4, h5, h6⟩
/-- isinstance(e, C), e such an error -/
def rIsV (K : PySem.W.Frag) : List V → Hp → VK → Prop := fun xs H Q => ∃ (a C D dx : Addr) (fs : List (Str × V)) (b : Bool), xs = [.ref a, .ref C] ∧ H a = some (exv a (.ref D) (some dx)) ∧ H dx = some (.xd fs) ∧ XvC K D ∧ PySem.W.kitOne K (.ref D) (.ref C) = some b ∧ Q (.bl b) H
theorem call_isV {X : Cx} : CallR X (.builtin "isinstance") (rIsV X.K) := by
  intro pins s σ H xs us Q I r h
  obtain ⟨a, C, D, dx, fs, b, rfl, h1, h2, T, e, q⟩ := h
  obtain ⟨u1, u2, rfl, r1, r2⟩ := vals2 r
  cases (show u1 = Value.ref a from r1)
  cases (show u2 = Value.ref C from r2)
  obtain ⟨oe, od, mA, J, _, _, _⟩ := exv_at I h1 h2
  exact PySem.W.kia_one (PySem.W.kitx_exc T.cl T.xf.ga T.xf.gg T.xf.exC T.ha T.hn T.ht T.hm) I.kIn J e (fun z => nomatch z) fun tk => ⟨.bl b, H, I.tok tk, rfl, q⟩
/-- e.f, e such an error -/
def tXv (K : PySem.W.Frag) (f : Str) (te : TE) : TE := fun σ H Q => te σ H fun x H1 => ∃ (a D dx : Addr) (fs : List (Str × V)) (v : V), x = .ref a ∧ H1 a = some (exv a (.ref D) (some dx)) ∧ H1 dx = some (.xd fs) ∧ XvC K D ∧ PySem.W.findIn K (.ref D) f = some none ∧ fs.lookup f = some v ∧ Q v H1
theorem pe_xv {X : Cx} {e : Expr} {te : TE} {pos : Pos} {n : Str} (he : PE X e te) (hb : attributeBase e n X.env (eval e X.env) = eval e X.env) : PE X (.Attribute e n pos) (tXv X.K n te) := by
  refine ⟨fun pins s σ H Q I h => ?_⟩
  refine attr_of hb (thn (he.run pins s σ H _ I h) fun u s1 ⟨x, H1, I1, rx, a, D, dx, fs, v, ex, h1, h2, T, hno, l, q⟩ => ?_)
  subst ex
  obtain rfl : u = Value.ref a := rx
  obtain ⟨oe, od, mA, J, hns, ho, hr⟩ := exv_at I1 h1 h2
  obtain ⟨od', ho', hl⟩ := lookIn_ns hns
  rw [ho] at ho'
  cases ho'
  obtain ⟨u, hu, ru⟩ := RelO.some_of (v := v) (o := mA n) (by rw [← l]; exact hr n)
  exact HandSPX.exc_get I1.kIn J T.xf.ga T.xf.gg T.xf.exC (PySem.W.findObj_own T.xf.hdC hno rfl (by rw [hl, hu])) (handed_of ru) ⟨v, H1, I1.tok _, ru, q⟩
end PD
set_option Elab.async false
set_option linter.all false
set_option maxRecDepth 100000
set_option autoImplicit false
namespace PD
open PySem PySem.Spec L2

def wGot (K : PySem.W.Frag) (cs : List Value) (i j : Nat) (D : Ends) : WX := fun cls d σ H => PySem.W.exmAny K cls cs = some true ∧ ∀ a, H a = none → D.nx (((σ.set i (some (.ref a))).set j (some (.ref a))).set i none) (upd H a (exv a cls d))
theorem fly_push {B h : Heap} {l : List PySem.Env} {a : Addr} {Z : Obj → Prop} {o : Obj} (x : HandSPX.FlyingZ B l a Z h) : HandSPX.FlyingZ B l a Z (h.push o) := by
  obtain ⟨k1, k2, k3, oe, vs, T, oT, ts, h1, h2, h3, h4, h5, h6, h7, h8, h9⟩ := x
  exact ⟨fun b u e => Heap.get?_push_of_some _ (k1 b u e), k2, k3.of_keeps fun b u e _ => ⟨u, Heap.get?_push_of_some _ e, rfl⟩, oe, vs, T, oT, ts, Heap.get?_push_of_some _ h1, h2, h3, h4, h5, h6, Heap.get?_push_of_some _ h7, h8, h9⟩
section
variable {X : Cx}
/-- try: body / except (A, B, C) as n: y = n -/
theorem ps_catch {x1 x2 x3 n y : Str} {C1 C2 C3 : Addr} {i j kk : Nat} {body : List Stmt} {p1 p2 p3 p4 p5 p6 p7 pos pos' : Pos} {tb : WX → TS} (hs : X.stack = X.env :: X.outer) (hf : X.env.frame = some X.env.locals) (hex : X.ex = []) (hN : X.N.Nodup)
    (hi : X.N[i]? = some n) (hj : X.N[j]? = some y) (hln : X.env.kindOf n = some .local) (hly : X.env.kindOf y = some .local) (dn : (n == ("__debug__" : Str)) = false) (dn2 : (n == ("__classdict__" : Str)) = false)
    (g1 : Gl X x1) (m1 : X.mg x1 = some (.ref C1)) (d1 : (x1 == ("__debug__" : Str)) = false) (g2 : Gl X x2) (m2 : X.mg x2 = some (.ref C2)) (d2 : (x2 == ("__debug__" : Str)) = false) (g3 : Gl X x3) (m3 : X.mg x3 = some (.ref C3)) (d3 : (x3 == ("__debug__" : Str)) = false)
    (hb : ∀ (W : WX) (pn : List (Addr × Obj)) (xe : Value → Shared → Prop), Takes (X.tr pn xe) W → PassesOwn (model X.prog X.w) X.A X.env xe → PSs (X.tr pn xe) body (tb W)) :
    PS X (.Try body [.ExceptHandler (some (.Tuple [.Name x1 p1, .Name x2 p2, .Name x3 p3] kk p4)) (some n) [.Assign [.Name y p5] (.Name n p6) p7] pos'] [] [] pos)
      (fun D σ H => tb (wGot X.K [.ref C1, .ref C2, .ref C3] i j D) D σ H) := by
  refine ⟨fun pins s σ H D I h => ?_⟩
  have ok := I.ok
  have hfr : X.A.frames = some (X.env :: X.outer) := by rw [ok.frames, hs]
  have hloc : Loc X.env.scope n := .inl hln
  let hnd : ExceptHandler := .ExceptHandler (some (.Tuple [.Name x1 p1, .Name x2 p2, .Name x3 p3] kk p4)) (some n) [.Assign [.Name y p5] (.Name n p6) p7] pos'
  refine wpAny_Try_except ?_
  refine wpAny_mono ((hb (wGot X.K [.ref C1, .ref C2, .ref C3] i j D) (X.pn ++ pins) (fun e s1 => wpAny (model X.prog X.w) X.A (noteFrame e X.env) (fun _ s2 => wpAny (model X.prog X.w) X.A (setFlight e none) (fun _ s3 =>
    wpAny (model X.prog X.w) X.A (handleBy e X.env [hnd]) (SP X pins D) X.xe s3) X.xe s2) X.xe s1) (fun u s' got => ?_) PassesOwn.looking).run [] s σ H D (I.toTry _) h) (fun f s1 hsp => ?_) (fun e s1 he => he)
  · obtain ⟨a, B, sI, pins', σ', H', cls, d, rfl, J', nb, up, sky, na, os, ag, hx, hq⟩ := got
    have J : Inv X pins σ' H' sI := J'.ofTry ok
    have sky2 : Sky B (X.env :: X.outer) a (Zc cls d) X.env.locals s'.heap := by rw [← hs]; exact sky
    show wpAny (model X.prog X.w) X.A (noteFrame (.ref a) X.env) _ _ _
    refine Sky.land Zc.steady hfr hf sky2 fun h3 fl3 up3 => ?_
    have J3 : Inv X pins σ' H' { s' with heap := h3 } := J.landed nb fl3.1 (up.trans up3) os ag
    obtain ⟨oe3, vs3, he3, hz3, hd3⟩ := fl3.there
    have nfr : a ∉ frs (X.env :: X.outer) := fun hm => by
      obtain ⟨_, o', e', hnf⟩ := fl3.2.2.1.mem hm
      rw [he3] at e'; cases e'
      exact hnf _ hd3
    have nL : a ≠ X.env.locals := fun z => nfr (List.mem_filterMap.mpr ⟨X.env, List.mem_cons_self, by rw [hf, z]⟩)
    have nF : a ∉ X.fs := fun hm => by
      obtain ⟨e, he, q⟩ := List.mem_filterMap.mp hm
      exact nfr (List.mem_filterMap.mpr ⟨e, List.mem_cons_of_mem _ he, q⟩)
    have fresh : sI.heap.get? a = none := by
      cases q : sI.heap.get? a with
      | none => rfl
      | some o =>
        have z := nb a o q (by rw [hs]; exact nfr)
        rw [fl3.2.1] at z; cases z
    have n0 : X.s_0.heap.get? a = none := by
      cases q : X.s_0.heap.get? a with
      | none => rfl
      | some o =>
        obtain ⟨o', z⟩ := J.base.there a o q (by rw [hex]; simp)
        rw [fresh] at z; cases z
    have np : ∀ p ∈ X.pn ++ pins, p.1 ≠ a := fun p hp z => by
      have z1 := (J.pin p hp).1
      rw [z, fresh] at z1; cases z1
    have S3 := J3.suite he3 hd3 na nL nF
    refine wpAny_handleBy_cons (codeAny_handlers_test ?_) (by intro q; cases q)
    refine wpAny_Tuple_spliced ?_
    show wpAny _ _ (spliced ((false, eval (.Name x1 p1) X.env) :: (false, eval (.Name x2 p2) X.env) :: (false, eval (.Name x3 p3) X.env) :: [])) _ _ _
    refine Calls.spliced_cons (ld_glob (X := X.suite a ((a, oe3) :: (X.pn ++ pins))) S3 g1 m1 ?_ d1)
    refine Calls.spliced_cons (ld_glob (X := X.suite a ((a, oe3) :: (X.pn ++ pins))) S3 g2 m2 ?_ d2)
    refine Calls.spliced_cons (ld_glob (X := X.suite a ((a, oe3) :: (X.pn ++ pins))) S3 g3 m3 ?_ d3)
    refine Calls.spliced_nil ⟨by simp [sizeLine_eq], ?_⟩
    have flp := fly_push (o := { cls := .type "tuple", data := .seq [Value.ref C1, Value.ref C2, Value.ref C3].toArray }) fl3
    have kp : ∀ b o, h3.get? b = some o → (h3.push { cls := .type "tuple", data := .seq [Value.ref C1, Value.ref C2, Value.ref C3].toArray }).get? b = some o := fun b o e => Heap.get?_push_of_some _ e
    have LT : PySem.W.Looks (model X.prog X.w) (h3.push { cls := .type "tuple", data := .seq [Value.ref C1, Value.ref C2, Value.ref C3].toArray }) (typeOf (.ref a)) cls := fun A Q E s k q => wpAny_typeOf_ref (k _ _ (kp _ _ he3)) (by rw [hz3.1]; exact q)
    have LM := PySem.W.exm_tup3 (M := model X.prog X.w) (J3.kIn.keeps kp) LT (Heap.get?_push_size h3 rfl) hx
    refine LM.here ?_
    refine codeAny_handlers_suite_as ?_
    refine HandSPX.lands_againZ flp fun h4 fl4 up4 => ?_
    have J4 : Inv X pins σ' H' { s' with heap := h4 } := J.landed nb fl4.1 (((up.trans up3).trans (Heap.UpToSlots.of_keeps kp)).trans up4) os ag
    obtain ⟨oe4, vs4, he4, hz4, hd4⟩ := fl4.there
    have S4 := J4.suite he4 hd4 na nL nF
    refine store_ok (X := X.suite a ((a, oe4) :: (X.pn ++ pins))) (v := .ref a) S4 hN hi hloc rfl (fun s5 S5 => ?_) (.inr hln)
    have hil : i < σ'.length := by rw [S4.len]; exact (List.getElem?_eq_some_iff.mp hi).1
    have body := pss_one (ps_set (X := X.suite a ((a, oe4) :: (X.pn ++ pins))) (i := j) (pos := p7) (pos' := p5) hN hj (.inl hly) (pe_var (pos := p6) (i := i) hi (.inl hln) dn dn2) rfl (.inr hly))
    refine wpAny_mono (body.run [] s5 _ H' { nx := fun σ6 H6 => σ6 = (σ'.set i (some (.ref a))).set j (some (.ref a)) ∧ H6 = H', rt := fun _ _ => False, bk := fun _ _ => False, ct := fun _ _ => False } S5 ⟨.ref a, List.getElem?_set_self hil, rfl, rfl⟩) (fun f s6 hsp => ?_) (fun _ _ z => False.elim z)
    cases f with
    | next =>
      obtain ⟨σ6, H6, S6, rfl, rfl⟩ := hsp
      have J6 : Inv X ((a, oe4) :: pins) ((σ'.set i (some (.ref a))).set j (some (.ref a))) H6 s6 :=
        ⟨ok, S6.os, S6.bare, S6.base, S6.loc, S6.cell, S6.free, S6.freeC, fun p hp => S6.pin p (by
          have : p ∈ X.pn ∨ p = (a, oe4) ∨ p ∈ pins := by simpa using hp
          simp only [List.append_nil, List.mem_cons, List.mem_append]
          rcases this with z | z | z
          · exact .inr (.inl z)
          · exact .inl z
          · exact .inr (.inr z)), S6.hok, S6.len⟩
      exact gone_ok J6 hN hi hln fun s7 J7 => ⟨_, _, Inv.hold J7 n0 np hz4 hd4, hq a na⟩
    | brk => obtain ⟨_, _, _, z⟩ := hsp; exact z.elim
    | cont => obtain ⟨_, _, _, z⟩ := hsp; exact z.elim
    | ret u => obtain ⟨_, _, _, _, _, z⟩ := hsp; exact z.elim
  · cases f with
    | next =>
      obtain ⟨σ2, H2, J2, q⟩ := hsp
      exact wpAny_execs_nil ⟨σ2, H2, J2.ofTry ok, q⟩
    | brk =>
      obtain ⟨σ2, H2, J2, q⟩ := hsp
      exact ⟨σ2, H2, J2.ofTry ok, q⟩
    | cont =>
      obtain ⟨σ2, H2, J2, q⟩ := hsp
      exact ⟨σ2, H2, J2.ofTry ok, q⟩
    | ret u =>
      obtain ⟨v, σ2, H2, J2, r, q⟩ := hsp
      exact ⟨v, σ2, H2, J2.ofTry ok, r, q⟩
end
end PD
set_option Elab.async false
set_option linter.all false
set_option maxRecDepth 100000
set_option autoImplicit false
namespace PD
open PySem PySem.Spec L2

/-- where the telling of an error stands: the error at a, its class E, its one field; the list of what was found -/
structure Sd (S : Sig) (g : Gen) (H0i Hi : Hp) (a E dx l : Addr) (at_ : Str) (v : V) (d : D) (ws : List D) (σ : L2.St) (H0 H : Hp) : Prop where
  aft : Aft S g H0i Hi H0 H
  s1 : σ[1]? = some (some (.ref a))
  s2 : σ[2]? = some (some (.ref l))
  ha : H a = some (exv a (.ref E) (some dx))
  hx : H dx = some (.xd [(at_, v)])
  hv : Dr S.K H0 v d
  hl : ∃ xs, H l = some (.lst xs) ∧ DrAll S.K H0 xs ws
  nl : Fre Hi l
  n0 : H0 l = none
  few : ws.length < 100
def hitD (w : Str) (attr : Option Str) (d : D) : D := match attr with
  | some _ => .tuple [.str w, d]
  | none => .tuple [.str w]
/-- one question of the telling -/
inductive IsTst : Str → Str → Option Str → Stmt → Prop
  | fld {c w attr : Str} {k1 k2 : Nat} {p1 p2 p3 p4 p5 p6 p7 p8 p9 p10 p11 p12 p13 : Pos} : (p6.endLine == p11.line) = true →
      IsTst c w (some attr) (.If (.Call (.Name "isinstance" p1) [.Name "caught" p2, .Name c p3] [] p4) [.Expr (.Call (.Attribute (.Name "found" p5) "append" p6) [.Tuple [.Constant (.str w) k1 p7, .Attribute (.Name "caught" p8) attr p9] k2 p10] [] p11) p12] [] p13)
  | bare {c w : Str} {k1 k2 : Nat} {p1 p2 p3 p4 p5 p6 p7 p10 p11 p12 p13 : Pos} : (p6.endLine == p11.line) = true →
      IsTst c w none (.If (.Call (.Name "isinstance" p1) [.Name "caught" p2, .Name c p3] [] p4) [.Expr (.Call (.Attribute (.Name "found" p5) "append" p6) [.Tuple [.Constant (.str w) k1 p7] k2 p10] [] p11) p12] [] p13)
/-- the def's own names -/
structure SaidX (Z : Cx) (S : Sig) : Prop where
  hK : Z.K = S.K
  n1 : Z.N[1]? = some ("caught" : Str)
  n2 : Z.N[2]? = some ("found" : Str)
  v1 : Vis Z.env.scope "caught"
  v2 : Vis Z.env.scope "found"
  gi : Gl Z "isinstance"
  mi : Z.mg "isinstance" = none
def tTst (Z : Cx) (S : Sig) (C : Addr) (w : Str) (attr : Option Str) : TS := fun D σ H => ∃ g H0i Hi a E dx l at_ v d ws H0 b, Sd S g H0i Hi a E dx l at_ v d ws σ H0 H ∧ ws.length < 90 ∧ XvC S.K E ∧ PySem.W.kitOne S.K (.ref E) (.ref C) = some b ∧
  (b = true → (∀ x, attr = some x → x = at_ ∧ PySem.W.findIn S.K (.ref E) x = some none) ∧ ∀ H0' H', Sd S g H0i Hi a E dx l at_ v d (ws ++ [hitD w attr d]) σ H0' H' → D.nx σ H') ∧ (b = false → D.nx σ H)
section
variable {Z : Cx} {S : Sig}
theorem Sd.app {g : Gen} {H0i Hi : Hp} {a E dx l : Addr} {at_ : Str} {v : V} {d : D} {ws : List D} {σ : L2.St} {H0 H : Hp} (s : Sd S g H0i Hi a E dx l at_ v d ws σ H0 H) (hw : ws.length < 90) {vs : List V} {ds : List D} (hd : DrAll S.K H0 vs ds) {p : Addr} (hp : H p = none) :
    ∃ xs, upd H p (.tup vs) l = some (.lst xs) ∧ xs.length < sizeLine ∧ Sd S g H0i Hi a E dx l at_ v d (ws ++ [.tuple ds]) σ (upd H0 p (.tup vs)) (upd (upd H p (.tup vs)) l (.lst (xs ++ [.ref p]))) := by
  obtain ⟨xs, h1, h2⟩ := s.hl
  have np : ∀ {b u}, H b = some u → b ≠ p := fun {b u} e => ne_of_none e hp
  have a1 : Aft S g H0 H (upd H0 p (.tup vs)) (upd H p (.tup vs)) := Aft.new s.aft.sub s.aft.gen s.aft.tabs hp (fun ps z => by cases z)
  have n0 : upd H0 p (.tup vs) l = none := by rw [upd_ne (np h1)]; exact s.n0
  have e1 : upd H p (.tup vs) l = some (.lst xs) := by rw [upd_ne (np h1)]; exact h1
  have sm : Same H0 (upd H0 p (.tup vs)) := same_new (s.aft.sub.free hp)
  have nal : a ≠ l := fun z => by
    have q := s.ha
    rw [z, h1] at q
    unfold exv at q
    cases q
  have ndl : dx ≠ l := fun z => by have := s.hx; rw [z, h1] at this; cases this
  refine ⟨xs, e1, by rw [h2.length, sizeLine_eq]; omega, (s.aft.trans a1).wrt s.nl n0 e1, s.s1, s.s2, ?_, ?_, s.hv.same sm, ⟨_, upd_same, ?_⟩, s.nl, n0, by simp; omega⟩
  · rw [upd_ne nal, upd_ne (np s.ha)]; exact s.ha
  · rw [upd_ne ndl, upd_ne (np s.hx)]; exact s.hx
  · exact (h2.same sm).append (.cons (.tup (SqT.of upd_same) (hd.same sm)) .nil)
theorem tst_one (N : SaidX Z S) {c w : Str} {attr : Option Str} {C : Addr} {st : Stmt} (h : IsTst c w attr st) (gc : Gl Z c) (mc : Z.mg c = some (.ref C)) (dc : (c == ("__debug__" : Str)) = false) : PS Z st (tTst Z S C w attr) := by
  obtain ⟨hK, n1, n2, v1, v2, gi, mi⟩ := N
  have test : ∀ {p1 p2 p3 p4 : Pos}, PT Z (.Call (.Name "isinstance" p1) [.Name "caught" p2, .Name c p3] [] p4) _ := fun {p1 p2 p3 p4} =>
    pt_val (pe_callB call_isV gi mi (by decide +kernel) (pa_cons (pe_var (pos := p2) (i := 1) n1 v1 (by decide) (by decide)) (pa_cons (pe_glob (pos := p3) (v := .ref C) gc mc rfl dc) pa_nil)))
  cases h with
  | fld hline =>
    rename_i at2 k1 k2 p1 p2 p3 p4 p5 p6 p7 p8 p9 p10 p11 p12 p13
    refine PS.weak (ps_if test (pss_one (ps_expr (pos := p12) (pe_bm (cpos := p11) (apos := p6) PySem.F.plainAttrs_list PySem.F.slot_list_append PySem.F.type_list_append mt_append (pe_var (pos := p5) (i := 2) n2 v2 (by decide) (by decide))
      (pa_cons (pe_tup (x1 := k2) (pos := p10) (pa_cons (pe_str (x := w)) (pa_cons (pe_xv (n := at2) (pe_var (pos := p8) (i := 1) n1 v1 (by decide) (by decide)) rfl) pa_nil))) pa_nil) (hline := hline)) rfl)) pss_nil) fun D σ H q => ?_
    obtain ⟨g, H0i, Hi, a, E, dx, l, at_, v, d, ws, H0, b, s, hw, T, hk, ht, hf⟩ := q
    refine ⟨_, s.s1, a, C, E, dx, _, b, rfl, s.ha, s.hx, by rw [hK]; exact T, by rw [hK]; exact hk, b, rfl, ?_⟩
    cases b with
    | false => exact hf rfl
    | true =>
      obtain ⟨ha, ht⟩ := ht rfl
      obtain ⟨rfl, hno⟩ := ha at2 rfl
      obtain ⟨xs, h1, h2⟩ := s.hl
      refine ⟨_, s.s2, .inl ⟨rfl, _, SqL.of h1⟩, ?_⟩
      refine ⟨_, s.s1, a, E, dx, _, v, rfl, s.ha, s.hx, by rw [hK]; exact T, by rw [hK]; exact hno, by simp [List.lookup], ?_⟩
      refine ⟨by simp [sizeLine_eq], fun p hp => ?_⟩
      obtain ⟨xs', k1, k2, s'⟩ := s.app hw (.cons (.str w) (.cons s.hv .nil)) hp
      exact ⟨l, xs', .ref p, rfl, rfl, k1, k2, ht _ _ s'⟩
  | bare hline =>
    rename_i k1 k2 p1 p2 p3 p4 p5 p6 p7 p10 p11 p12 p13
    refine PS.weak (ps_if test (pss_one (ps_expr (pos := p12) (pe_bm (cpos := p11) (apos := p6) PySem.F.plainAttrs_list PySem.F.slot_list_append PySem.F.type_list_append mt_append (pe_var (pos := p5) (i := 2) n2 v2 (by decide) (by decide))
      (pa_cons (pe_tup (x1 := k2) (pos := p10) (pa_cons (pe_str (x := w)) pa_nil)) pa_nil) (hline := hline)) rfl)) pss_nil) fun D σ H q => ?_
    obtain ⟨g, H0i, Hi, a, E, dx, l, at_, v, d, ws, H0, b, s, hw, T, hk, ht, hf⟩ := q
    refine ⟨_, s.s1, a, C, E, dx, _, b, rfl, s.ha, s.hx, by rw [hK]; exact T, by rw [hK]; exact hk, b, rfl, ?_⟩
    cases b with
    | false => exact hf rfl
    | true =>
      obtain ⟨_, ht⟩ := ht rfl
      obtain ⟨xs, h1, h2⟩ := s.hl
      refine ⟨_, s.s2, .inl ⟨rfl, _, SqL.of h1⟩, ?_⟩
      refine ⟨by simp [sizeLine_eq], fun p hp => ?_⟩
      obtain ⟨xs', k1, k2, s'⟩ := s.app hw (.cons (.str w) .nil) hp
      exact ⟨l, xs', .ref p, rfl, rfl, k1, k2, ht _ _ s'⟩
end
end PD
set_option Elab.async false
set_option linter.all false
set_option maxRecDepth 100000
set_option autoImplicit false
namespace PD
open PySem PySem.Spec L2

/-! ### a lambda, called by the def that got it: guards told, what is raised wished for at that def's slots -/
section
variable {X : Cx} {pins : List (Addr × Obj)} {σ : L2.St} {H : Hp} {s : Shared}
/-- the callee's context, entered at s -/
abbrev inDef (X : Cx) (CXg : CXT) (Ng : List Str) (qg : Str) (sg : Scope) (g : Addr) (cdg : Value) (s : Shared) (H : Hp) (Eg : XK) (pn : List (Addr × Obj)) (xe : Value → Shared → Prop) : Cx :=
  (cxOf CXg X.prog X.w X.K X.mg X.base Ng qg sg g cdg X.A X.stack s H Eg).tr pn xe
theorem act_call {CXg : CXT} {Eg : XK} {Ng : List Str} {qg : Str} {sg : Scope} {g f c' : Addr} {cdg pm ctv : Value} {params : Arguments} {body : Expr} {scope : Scope} {k i : Nat} {a : Str} {pn : List (Addr × Obj)} {xe : Value → Shared → Prop} {W : WX} {tb : XK → TE} {p1 p2 : Pos}
    (I : Inv X pins σ H s) (L : LamX.LamS X.env.scope scope) (isF : s.heap.get? f = some (PySem.W.kla_obj "<lambda>" (X.env.qual ++ "<lambda>") params body scope (cloFrom X.env.cells scope.names []) pm c' ctv)) (nf : H f = none) (nst : f ∉ frs X.stack)
    (none_ : bindArgs (PySem.W.kla_fn "<lambda>" (X.env.qual ++ "<lambda>") params body scope (cloFrom X.env.cells scope.names []) pm (.ref c') ctv) ⟨[], []⟩ = pure [])
    (tk : Takes (inDef X CXg Ng qg sg g cdg s H Eg pn xe) W) (room : Room (k + 1) (X.A.deeper (PyProof.Rows.envOfC qg sg s.heap.objs.size g cdg))) (hgd : X.A.guards = some [])
    (inner : ∀ (A : Around) (outer : List PySem.Env) (s : Shared) (H : Hp) (E : XK), A.guards = some [] → Room k (A.deeper (LamX.lamEnv X scope s.heap.objs.size f c')) → PE (LamX.lamCx X A outer s H E scope f c') body (tb E))
    (hN : Ng[i]? = some a) (hv : Vis sg a) (d1 : (a == ("__debug__" : Str)) = false) (d2 : (a == ("__classdict__" : Str)) = false) :
    PE (inDef X CXg Ng qg sg g cdg s H Eg pn xe) (.Call (.Name a p1) [] [] p2)
      (fun σZ HZ Q => σZ[i]? = some (some (.ref f)) ∧ HZ c' = some (LamX.CodeO c' (X.env.qual ++ "<lambda>")) ∧ tb (WE W σZ) σ HZ Q) := by
  refine ⟨fun pinsZ sZ σZ HZ Q IZ hq => ?_⟩
  obtain ⟨q1, q2, q3⟩ := hq
  have look := (pe_var (X := inDef X CXg Ng qg sg g cdg s H Eg pn xe) (pos := p1) (i := i) hN hv d1 d2).run pinsZ sZ σZ HZ (fun v H1 => v = .ref f ∧ H1 = HZ) IZ ⟨.ref f, q1, rfl, rfl⟩
  refine wpAny_Call_Name_kw (thn look fun u s1 ⟨v, H1, J, r, ev, eH⟩ => ?_)
  subst ev eH
  obtain rfl : u = Value.ref f := r
  have stays : Un (frs X.stack) [] H H1 s.heap s1.heap := J.base
  have isF1 := stays.keep f _ isF nf nst (fun z => nomatch (show f ∈ ([] : List Addr) from z))
  refine PySem.W.callWith_F0 ⟨_, _, _, _, isF1⟩ ?_
  obtain ⟨⟨oc, fs, t, code1, code2, code3⟩, _, _⟩ := J.hok c' _ q2
  let A2 : Around := X.A.deeper (PyProof.Rows.envOfC qg sg s.heap.objs.size g cdg)
  have ran : codeAny (model X.prog X.w) A2 (.call (.ref f) ⟨[], []⟩) (CR (L2.CX X.prog X.w) (PyProof.Rows.envOfC qg sg s.heap.objs.size g cdg :: X.stack) X.prog X.w H1 s1 Q (WE W σZ)) s1 := by
    refine PySem.W.kla_callFunE room.depth isF1 rfl L.co L.gen rfl ⟨c', oc, fs, t, rfl, code1, code2, code3⟩ ?_
    rw [none_]
    refine wpAny_pure (wpAny_newFunctionEnv (fun y hy => (L.own y hy).2) (fun y hy => absurd hy (by simp)) (fun h1 hns hsb => ⟨J.nolimit.fresh _ hsb, ?_⟩) L.kind)
    show codeAny _ _ (.expr body (LamX.lamEnv X scope s1.heap.objs.size f c')) _ _
    have kp : ∀ b o, s1.heap.get? b = some o → h1.get? b = some o := fun b o e => hsb.extBut b o (Nat.ne_of_lt (Heap.lt_size e)) (Heap.get?_push_of_some _ e)
    have st : Inv (LamX.lamCx X A2 (PyProof.Rows.envOfC qg sg s.heap.objs.size g cdg :: X.stack) s1 H1 (WE W σZ) scope f c') [] σ H1 { s1 with heap := h1, toks := s1.toks + ([] : List (Str × Value)).length } :=
      LamX.lam_start2 I L J.env0 room.hd stays hns kp
    refine PySem.W.kla_codeExpr (wpAny_mono ((inner A2 _ s1 H1 _ hgd (room.deeper _)).run [] _ _ H1 Q st q3) (fun v s2 hs => ?_) fun e s2 hs => hs)
    obtain ⟨v', H2, J2, rv, q⟩ := hs
    exact ⟨v', H2, J2.os, J2.bare, J2.base, J2.hok, rv, q⟩
  refine wpAny_call (codeAny_mono ran fun r s2 hs => ?_)
  match r, hs with
  | .error e, hs => exact passAt tk σZ pinsZ H1 s1 e s2 J hs
  | .ok (.ret u), hs => exact J.after hs
  | .ok .next, hs => exact False.elim hs
  | .ok .brk, hs => exact False.elim hs
  | .ok .cont, hs => exact False.elim hs
/-- x(lambda: body): TT tells what x makes of it -/
theorem lam_call {T : List (Addr × Str)} {x a : Str} {g c P : Addr} {k : Nat} {pg : Arguments} {bg : List Stmt} {sg : Scope} {dV kV doc pm cdv ct oc : Value} {an od : Option Addr} {osl : Array (Option Value)} {Ng : List Str}
    {params : Arguments} {body : Expr} {scope : Scope} {t : XK → TE} {p lpos pos : Pos} {TT : (XK → Hp → VK → Prop) → Hp → VK → Prop} (hg : Gl X x) (hm : X.mg x = some (.ref g)) (kp : PySem.W.keepIn X.K (.ref g) = true)
    (lk : X.K.lookup g = some ⟨oc, od, .func (PySem.W.fnOf x x pg bg sg dV kV doc pm an cdv ct), osl⟩) (cg : PySem.W.codeIn X.K cdv x = true) (bd : L2.Binds X.K (PySem.W.fnOf x x pg bg sg dV kV doc pm an cdv ct) [a] []) (Sg : FnScope Ng [a] sg) (n0 : Ng[0]? = some a) (va : Vis sg a)
    (TB : LamX.TabB X.base X.mg c P) (code : X.env.code = .ref c) (inT : (P, X.env.qual ++ "<lambda>") ∈ T) (only : ∀ p ∈ T, p.1 = P → p.2 = X.env.qual ++ "<lambda>") (room : Room (k + 2) X.A) (hgd : X.A.guards = some []) (L : LamX.LamS X.env.scope scope) (nodef : defaultsOf params X.env = ([], []))
    (none_ : ∀ (q : Str) (cl : List (Str × Addr)) (pm cv ctv : Value), bindArgs (PySem.W.kla_fn "<lambda>" q params body scope cl pm cv ctv) ⟨[], []⟩ = pure [])
    (inner : ∀ (A : Around) (outer : List PySem.Env) (s : Shared) (H : Hp) (E : XK) (f c' : Addr), A.guards = some [] → Room k (A.deeper (LamX.lamEnv X scope s.heap.objs.size f c')) → PE (LamX.lamCx X A outer s H E scope f c') body (t E))
    (d0 : (x == ("__debug__" : Str)) = false) (d1 : (a == ("__debug__" : Str)) = false) (d2 : (a == ("__classdict__" : Str)) = false)
    (callee : ∀ (f c' : Addr) (s : Shared) (H : Hp) (Q : VK) (tl : XK → Hp → VK → Prop),
      (∀ (W : WX) (pn : List (Addr × Obj)) (xe : Value → Shared → Prop) (p1 p2 : Pos), Takes (inDef X CX0 Ng x sg g cdv s H E0 pn xe) W →
        PE (inDef X CX0 Ng x sg g cdv s H E0 pn xe) (.Call (.Name a p1) [] [] p2) (fun σZ HZ Q => σZ[0]? = some (some (.ref f)) ∧ HZ c' = some (LamX.CodeO c' (X.env.qual ++ "<lambda>")) ∧ tl (WE W σZ) HZ Q)) →
      H c' = some (LamX.CodeO c' (X.env.qual ++ "<lambda>")) → TT tl H Q →
      ∃ t, PSs (cxOf CX0 X.prog X.w X.K X.mg X.base Ng x sg g cdv X.A X.stack s H E0).nox bg t ∧ t { nx := fun _ H' => Q .non H', rt := Q } (L2.start Ng [.ref f]) H) :
    PE X (.Call (.Name x p) [.Lambda params body scope lpos] [] pos) (fun σ H Q => LamX.Tabs T H ∧ ∀ H1, LamX.ExtN H H1 → LamX.Tabs T H1 → TT (fun E H' Q' => t E σ H' Q') H1 Q) := by
  refine ⟨fun pins s σ H Q I hq => ?_⟩
  obtain ⟨tabs, hq⟩ := hq
  refine wpAny_Call_Name_kw (ld_glob I hg hm ?_ d0)
  refine PySem.W.callWith_K (h₀ := X.base) I.ok.mod.kin kp ?_ (by rfl) (by rfl)
  show wpAny _ _ (spliced ((false, eval (.Lambda params body scope lpos) X.env) :: [])) _ _ s
  refine Calls.spliced_cons (LamX.lam_make2 I TB code inT only tabs nodef (L.has I.ok) fun f c' pm' ctv H1 s1 J ext tabs1 isF nf nst isC => ?_)
  refine Calls.spliced_nil ⟨J.kIn, ?_⟩
  have ran : codeAny (model X.prog X.w) X.A (.call (.ref g) ⟨[.ref f], []⟩) (CR CX0 X.stack X.prog X.w H1 s1 Q E0) s1 := by
    refine LamX.run_ofS (N := Ng) (ps := [a]) (us := [.ref f]) (vs := [.ref f]) lk cg Sg room J.env0 (bd s1 [.ref f] J.kIn rfl) (.cons rfl .nil) rfl fun room' => ?_
    obtain ⟨t2, k1, k2⟩ := callee f c' s1 H1 Q (fun E H' Q' => t E σ H' Q') (fun W pn xe p1 p2 tk => act_call (i := 0) J L isF nf nst (none_ _ _ _ _ _) tk room' hgd (fun A outer s H E gd r2 => inner A outer s H E f c' gd r2) n0 va d1 d2) isC (hq H1 ext tabs1)
    exact ⟨t2, k1.nox, k2⟩
  refine wpAny_call (codeAny_mono ran fun r s2 hs => ?_)
  match r, hs with
  | .error e, hs => exact (show False from hs).elim
  | .ok (.ret u), hs => exact J.after hs
  | .ok .next, hs => exact False.elim hs
  | .ok .brk, hs => exact False.elim hs
  | .ok .cont, hs => exact False.elim hs
end
end PD
set_option Elab.async false
set_option linter.all false
set_option maxRecDepth 100000
set_option autoImplicit false
namespace PD
open PySem PySem.Spec L2

/-- a lambda's making: tables may change, all else stays -/
theorem Aft.lam {S : Sig} {g : Gen} {H0 H H1 : Hp} (sub : Same H0 H) (nt : ∀ a ps, H0 a ≠ some (.tbl ps)) (gen : GenAt S.gm g H0 H) (e : LamX.ExtN H H1) (t : LamX.Tabs S.T H1) : Aft S g H0 H H0 H1 := by
  refine ⟨⟨Same.refl _, fun a o h _ n => e a o h n, fun a h => ?_, fun a h => .inl h, fun _ _ h => h⟩, fun b u h => e b u (sub b u h) (fun ps z => nt b ps (by rw [← z]; exact h)), fun p hp => ?_, t⟩
  · cases q : H a with
    | none => exact .inl q
    | some o =>
      by_cases z : ∃ ps, o = .tbl ps
      · obtain ⟨ps, rfl⟩ := z
        exact .inr ⟨ps, q⟩
      · exact absurd rfl (h.ne (e a o q (fun ps y => z ⟨ps, y⟩)) (fun ps y => z ⟨ps, y⟩))
  · obtain ⟨gl, h1, h2⟩ := gen p hp
    exact ⟨gl, e p _ h1 (fun ps z => by cases z), h2⟩
abbrev Tst : Type := Str × Str × Option Str
inductive Tsts : List Tst → Stmt → List Stmt → Prop
  | nil {R : Stmt} : Tsts [] R [R]
  | cons {c w : Str} {attr : Option Str} {st R : Stmt} {ts : List Tst} {rest : List Stmt} : IsTst c w attr st → Tsts ts R rest → Tsts ((c, w, attr) :: ts) R (st :: rest)
/-- the telling's text -/
inductive SaidBody : List Tst → List Stmt → Prop
  | mk {ts : List Tst} {rest : List Stmt} {k1 k2 k3 k4 k5 k6 k7 k8 k9 k10 k11 : Nat} {px py pt a1 a2 a3 a4 b1 b2 b3 b4 b5 b6 b7 b8 b9 b10 b11 b12 c1 c2 c3 c4 c5 c6 c7 e1 e2 e3 e4 e5 e6 e7 e8 e9 e10 e11 e12 : Pos} :
    (py.line == px.line) = true →
    Tsts ts (.Return (some (.IfExp (.Compare (.Call (.Name "len" e1) [.Name "found" e2] [] e3) [.Eq] [.Constant (.int 1) k8 e4] e5) (.Subscript (.Name "found" e6) (.Constant (.int 0) k9 e7) e8) (.Tuple [.Constant (.str "odd") k10 e9] k11 e10) e11)) e12) rest →
    SaidBody ts (.Assign [.Tuple [.Name "caught" px, .Name "found" py] k1 pt] (.Tuple [.Constant .none k2 a1, .List [] a2] k3 a3) a4 ::
      .Try [.Expr (.Call (.Name "call" b1) [] [] b2) b3] [.ExceptHandler (some (.Tuple [.Name "JobError" b4, .Name "MissError" b5, .Name "TooMany" b6] k4 b7)) (some "e") [.Assign [.Name "caught" b8] (.Name "e" b9) b10] b11] [] [] b12 ::
      .If (.Compare (.Name "caught" c1) [.Is] [.Constant .none k5 c2] c3) [.Return (some (.Tuple [.Constant (.str "said") k6 c4] k7 c5)) c6] [] c7 :: rest)
/-- what the module says of the telling's def, and of the classes it names -/
structure SaidDef (K : PySem.W.Frag) (mg : Str → Option Value) (S : Sig) (excs : List Str) (ts : List Tst) (wd : Str → Option (Option Str)) : Prop where
  df : ∃ (g : Addr) (pg : Arguments) (bg : List Stmt) (sg : Scope) (dV kV doc pm cdv ct oc : Value) (an od : Option Addr) (osl : Array (Option Value)), mg "_law_said" = some (.ref g) ∧ PySem.W.keepIn K (.ref g) = true ∧
    K.lookup g = some ⟨oc, od, .func (PySem.W.fnOf "_law_said" "_law_said" pg bg sg dV kV doc pm an cdv ct), osl⟩ ∧ PySem.W.codeIn K cdv "_law_said" = true ∧ L2.Binds K (PySem.W.fnOf "_law_said" "_law_said" pg bg sg dV kV doc pm an cdv ct) ["call"] [] ∧
    FnScope ["call", "caught", "found", "e"] ["call"] sg ∧ SaidBody ts bg ∧ (["call", "caught", "found", "e"] : List Str).all (lk sg) = true ∧ (("isinstance" : Str) :: "len" :: "JobError" :: "MissError" :: "TooMany" :: ts.map (·.1)).all (fun x => glB sg x && !dbg x) = true
  cls : ∀ x ∈ ("JobError" : Str) :: "MissError" :: "TooMany" :: ts.map (·.1), mg x = some (.ref (S.cl x))
  xv : ∀ c ∈ excs, XvC K (S.cl c)
  caught : ∀ c ∈ excs, PySem.W.exmAny K (.ref (S.cl c)) [.ref (S.cl "JobError"), .ref (S.cl "MissError"), .ref (S.cl "TooMany")] = some true
  kit : ∀ c ∈ excs, ∀ q ∈ ts, PySem.W.kitOne K (.ref (S.cl c)) (.ref (S.cl q.1)) = some (decide (c = q.1))
  attr : ∀ c ∈ excs, ∀ q ∈ ts, c = q.1 → ∀ x, q.2.2 = some x → x = S.at_ c ∧ PySem.W.findIn K (.ref (S.cl c)) x = some none
  one : ∀ c ∈ excs, ∀ d, ∃ r, saidOf wd c d = some r ∧ (ts.filter fun q => decide (c = q.1)).map (fun q => hitD q.2.1 q.2.2 d) = [r]
  few : ts.length < 50
section
variable {X : Cx}
theorem pss_ex {ι : Type} {ss : List Stmt} {t : ι → TS} (h : ∀ i, PSs X ss (t i)) : PSs X ss (fun D σ H => ∃ i, t i D σ H) := ⟨fun pins s σ H D I q => by
  obtain ⟨i, q⟩ := q
  exact (h i).run pins s σ H D I q⟩
end
section
variable {Z : Cx} {S : Sig}
def tTs (Z : Cx) (S : Sig) (ts : List Tst) (tR : List D → TS) : TS := fun D σ H => ∃ g H0i Hi a E dx l at_ v d ws H0, ∃ hit : Str → Bool, Sd S g H0i Hi a E dx l at_ v d ws σ H0 H ∧ ws.length + ts.length < 90 ∧ XvC S.K E ∧
  (∀ q ∈ ts, PySem.W.kitOne S.K (.ref E) (.ref (S.cl q.1)) = some (hit q.1) ∧ (hit q.1 = true → ∀ x, q.2.2 = some x → x = at_ ∧ PySem.W.findIn S.K (.ref E) x = some none)) ∧
  ∀ H0' H', Sd S g H0i Hi a E dx l at_ v d (ws ++ (ts.filter fun q => hit q.1).map fun q => hitD q.2.1 q.2.2 d) σ H0' H' → tR (ws ++ (ts.filter fun q => hit q.1).map fun q => hitD q.2.1 q.2.2 d) D σ H'
theorem tsts_run (N : SaidX Z S) {R : Stmt} {tR : List D → TS} (hR : ∀ ws, PS Z R (tR ws)) : ∀ {ts : List Tst} {rest : List Stmt}, Tsts ts R rest → (∀ q ∈ ts, Gl Z q.1 ∧ Z.mg q.1 = some (.ref (S.cl q.1)) ∧ (q.1 == ("__debug__" : Str)) = false) → PSs Z rest (tTs Z S ts tR)
  | _, _, .nil, _ => by
    refine PSs.weak (pss_ex fun ws => pss_one (hR ws)) fun D σ H q => ?_
    obtain ⟨g, H0i, Hi, a, E, dx, l, at_, v, d, ws, H0, hit, s, _, _, _, q⟩ := q
    have q := q H0 H (by simpa using s)
    exact ⟨_, q⟩
  | _, _, .cons (c := c) (w := w) (attr := attr) (ts := ts) h1 h2, hm => by
    obtain ⟨m1, m2, m3⟩ := hm _ List.mem_cons_self
    have ih := tsts_run N hR h2 fun q hq => hm q (List.mem_cons_of_mem _ hq)
    refine PSs.weak (pss_cons (tst_one N h1 m1 m2 m3) ih) fun D σ H q => ?_
    obtain ⟨g, H0i, Hi, a, E, dx, l, at_, v, d, ws, H0, hit, s, few, T, facts, q⟩ := q
    have few : ws.length + (ts.length + 1) < 90 := by simpa using few
    obtain ⟨f1, f2⟩ := facts (c, w, attr) List.mem_cons_self
    refine ⟨g, H0i, Hi, a, E, dx, l, at_, v, d, ws, H0, hit c, s, by omega, T, f1, fun hb => ⟨fun x hx => f2 hb x hx, fun H0' H' s' => ?_⟩, fun hb => ?_⟩
    · refine ⟨g, H0i, Hi, a, E, dx, l, at_, v, d, _, H0', hit, s', by simp; omega, T, fun q hq => facts q (List.mem_cons_of_mem _ hq), fun H2 H2' s2 => ?_⟩
      have e : ws ++ ((((c, w, attr) : Tst) :: ts).filter fun q => hit q.1).map (fun q => hitD q.2.1 q.2.2 d) = (ws ++ [hitD w attr d]) ++ (ts.filter fun q => hit q.1).map fun q => hitD q.2.1 q.2.2 d := by
        rw [List.filter_cons_of_pos (by exact hb)]; simp
      have z := q H2 H2' (by rw [e]; exact s2)
      rw [e] at z
      exact z
    · refine ⟨g, H0i, Hi, a, E, dx, l, at_, v, d, ws, H0, hit, s, by omega, T, fun q hq => facts q (List.mem_cons_of_mem _ hq), fun H2 H2' s2 => ?_⟩
      have e : ((((c, w, attr) : Tst) :: ts).filter fun q => hit q.1) = ts.filter fun q => hit q.1 := List.filter_cons_of_neg (by simpa using hb)
      have z := q H2 H2' (by rw [e]; exact s2)
      rw [e] at z
      exact z
end
end PD
set_option Elab.async false
set_option linter.all false
set_option maxRecDepth 100000
set_option autoImplicit false
namespace PD
open PySem PySem.Spec L2

/-- what the telling asks of the lambda's call, a list l being its own -/
def TTs (S : Sig) (excs : List Str) (wd : Str → Option (Option Str)) : (XK → Hp → VK → Prop) → Hp → VK → Prop := fun tl H Q => ∀ l, H l = none → ∀ (Ex : XK) (Qn : VK),
  (∀ (c : Str) (dx : Addr) (v : V) (d r : D) (g : Gen) (H0i Hi H0' H' : Hp), c ∈ excs → H' l = some (.lst []) → H0' l = none → Fre Hi l → Aft S g H0i Hi H0' H' → H' dx = some (.xd [(S.at_ c, v)]) → Dr S.K H0' v d → saidOf wd c d = some r →
    (∀ w H2 H2', Aft S g H0i Hi H2 H2' → Dr S.K H2 w r → Q w H2') → Ex (.ref (S.cl c)) (some dx) H') →
  (∀ (v : V) (g : Gen) (H0i Hi H0' H' : Hp), Aft S g H0i Hi H0' H' → (∀ w H2 H2', Aft S g H0i Hi H2 H2' → Dr S.K H2 w (.tuple [.str "said"]) → Q w H2') → Qn v H') → tl Ex (upd H l (.lst [])) Qn
section
variable {X : Cx} {S : Sig} {excs : List Str} {ts : List Tst} {wd : Str → Option (Option Str)}
theorem gl_b {Y : Cx} {sc : Scope} {x : Str} (e : Y.env.scope = sc) (h : (glB sc x && !dbg x) = true) : Gl Y x ∧ (x == ("__debug__" : Str)) = false := by
  rw [Bool.and_eq_true] at h
  exact ⟨gl_of e h.1, (dbg_of h.2).1⟩
theorem said_callee {g : Addr} {bg : List Stmt} {sg : Scope} {cdv : Value} (hK : X.K = S.K) (SD : SaidDef X.K X.mg S excs ts wd) (hb : SaidBody ts bg) (Sc : FnScope ["call", "caught", "found", "e"] ["call"] sg)
    (loc : (["call", "caught", "found", "e"] : List Str).all (lk sg) = true) (glb : (("isinstance" : Str) :: "len" :: "JobError" :: "MissError" :: "TooMany" :: ts.map (·.1)).all (fun x => glB sg x && !dbg x) = true) (blt : ∀ x ∈ bltNames, X.mg x = none)
    {f c' : Addr} {s : Shared} {H : Hp} {Q : VK} {tl : XK → Hp → VK → Prop} {q : Str}
    (act : ∀ (W : WX) (pn : List (Addr × Obj)) (xe : Value → Shared → Prop) (p1 p2 : Pos), Takes (inDef X CX0 ["call", "caught", "found", "e"] "_law_said" sg g cdv s H E0 pn xe) W →
        PE (inDef X CX0 ["call", "caught", "found", "e"] "_law_said" sg g cdv s H E0 pn xe) (.Call (.Name "call" p1) [] [] p2) (fun σZ HZ Q => σZ[0]? = some (some (.ref f)) ∧ HZ c' = some (LamX.CodeO c' q) ∧ tl (WE W σZ) HZ Q))
    (isC : H c' = some (LamX.CodeO c' q)) (tt : TTs S excs wd tl H Q) :
    ∃ t, PSs (cxOf CX0 X.prog X.w X.K X.mg X.base ["call", "caught", "found", "e"] "_law_said" sg g cdv X.A X.stack s H E0).nox bg t ∧ t { nx := fun _ H' => Q .non H', rt := Q } (L2.start ["call", "caught", "found", "e"] [.ref f]) H := by
  let Z : Cx := (cxOf CX0 X.prog X.w X.K X.mg X.base ["call", "caught", "found", "e"] "_law_said" sg g cdv X.A X.stack s H E0).nox
  have lkx : ∀ x ∈ (["call", "caught", "found", "e"] : List Str), sg.names.lookup x = some .local := fun x hx => lk_of (List.all_eq_true.mp loc x hx)
  have l1 : Z.env.scope.names.lookup ("caught" : Str) = some .local := lkx _ (by simp)
  have l2 : Z.env.scope.names.lookup ("found" : Str) = some .local := lkx _ (by simp)
  have l3 : Z.env.scope.names.lookup ("e" : Str) = some .local := lkx _ (by simp)
  have v1 : Vis Z.env.scope "caught" := .inl l1
  have v2 : Vis Z.env.scope "found" := .inl l2
  have glx : ∀ x ∈ (("isinstance" : Str) :: "len" :: "JobError" :: "MissError" :: "TooMany" :: ts.map (·.1)), Gl Z x ∧ (x == ("__debug__" : Str)) = false := fun x hx => gl_b (Y := Z) rfl (List.all_eq_true.mp glb x hx)
  have cls := SD.cls
  have hN : SaidX Z S := ⟨hK, rfl, rfl, v1, v2, (glx _ (by simp)).1, blt _ (by simp [bltNames])⟩
  cases hb with
  | mk hline hts =>
    have facts : ∀ q ∈ ts, Gl Z q.1 ∧ Z.mg q.1 = some (.ref (S.cl q.1)) ∧ (q.1 == ("__debug__" : Str)) = false := fun q hq => by
      have m1 : q.1 ∈ ts.map (·.1) := List.mem_map.mpr ⟨q, hq, rfl⟩
      have g1 := glx q.1 (by simp only [List.mem_cons]; exact .inr (.inr (.inr (.inr (.inr m1)))))
      exact ⟨g1.1, cls q.1 (by simp only [List.mem_cons]; exact .inr (.inr (.inr m1))), g1.2⟩
    have tail := fun h => tsts_run hN (tR := fun _ => tRet (tIf (tTest (tOp rEq (tCB (fun xs H Q => ∃ x n, xs = [x] ∧ LenV Z.K x H n ∧ Q (.int n) H) (tCons (tVar 2) tNil)) (tC (.int 1)))) (tOp (rIx Z.K) (tVar 2) (tC (.int 0))) (tTup (tCons (tC (.str "odd")) tNil)))) h hts facts
    have ret := tail fun _ => ps_ret (pe_ifExp (pt_cmpR op_eq (pe_callB call_len (glx "len" (by simp)).1 (blt "len" (by simp [bltNames])) boot_len (pa_cons (pe_var (i := 2) rfl v2 (by decide) (by decide)) pa_nil)) pe_int (nomark _))
          (pe_ix ix_seq (pe_var (i := 2) rfl v2 (by decide) (by decide)) pe_int (fun _ _ => rfl)) (pe_tup (pa_cons pe_str pa_nil)))
    refine ⟨_, pss_cons (ps_par (X := Z) (i := 1) (j := 2) rfl Sc.nd rfl rfl (by decide) l1 l2 (pa_cons pe_non (pa_cons (pe_lst pa_nil) pa_nil)) (sw2 Sc.kind l1 l2 hline (by decide) rfl rfl rfl))
      (pss_cons (ps_catch (X := Z) (i := 3) (j := 1) rfl rfl rfl Sc.nd rfl rfl l3 l1 (by decide) (by decide) (glx "JobError" (by simp)).1 (cls _ (by simp)) (by decide) (glx "MissError" (by simp)).1 (cls _ (by simp)) (by decide) (glx "TooMany" (by simp)).1 (cls _ (by simp)) (by decide)
          (fun W pn xe tk _ => pss_one (ps_expr (act W pn xe _ _ tk) rfl)))
        (pss_cons (ps_if (pt_cmpR op_isN (pe_var (i := 1) rfl v1 (by decide) (by decide)) pe_non (nomark _)) (pss_one (ps_ret (pe_tup (pa_cons pe_str pa_nil)))) pss_nil) ret)), ?_⟩
    refine ⟨by simp [sizeLine_eq], fun l hl => ?_⟩
    refine ⟨_, _, rfl, ?_⟩
    refine ⟨rfl, by rw [upd_ne (ne_of_none isC hl)]; exact isC, ?_⟩
    refine tt l hl _ _ (fun c dx v d r g H0i Hi H0' H' hc h1 h2 h3 h4 h5 h6 h7 h8 => ?_) (fun v g H0i Hi H0' H' h1 h2 => ?_)
    · refine ⟨SD.caught c hc, fun a na => ?_⟩
      have a1 : Aft S g H0i Hi H0' (upd H' a (exv a (.ref (S.cl c)) (some dx))) := h4.trans (Aft.grow h4.sub h4.gen h4.tabs na)
      have nal : l ≠ a := ne_of_none h1 na
      have nad : dx ≠ a := ne_of_none h5 na
      have s1 : Sd S g H0i Hi a (S.cl c) dx l (S.at_ c) v d [] [some (.ref f), some (.ref a), some (.ref l), none] H0' (upd H' a (exv a (.ref (S.cl c)) (some dx))) :=
        ⟨a1, rfl, rfl, upd_same, by rw [upd_ne nad]; exact h5, h6, ⟨[], by rw [upd_ne nal]; exact h1, .nil⟩, h3, h2, by simp⟩
      refine ⟨.ref a, rfl, rfl, false, by simp, iteF ?_⟩
      obtain ⟨r', e1, e2⟩ := SD.one c hc d
      rw [h7] at e1
      cases e1
      refine ⟨g, H0i, Hi, a, S.cl c, dx, l, S.at_ c, v, d, [], H0', fun x => decide (c = x), s1, by have := SD.few; simp; omega, by rw [← hK]; exact SD.xv c hc, fun q hq => ⟨by rw [← hK]; exact SD.kit c hc q hq, fun hd x hx => ?_⟩, fun H2 H2' s2 => ?_⟩
      · rw [← hK]
        exact SD.attr c hc q hq (of_decide_eq_true hd) x hx
      · rw [List.nil_append, e2] at s2
        obtain ⟨xs, k1, k2⟩ := s2.hl
        cases k2 with
        | cons k3 k4 =>
          cases k4
          rename_i w
          refine ⟨_, s2.s2, _, 1, rfl, .inl ⟨[w], SqL.of k1, rfl⟩, rfl, true, by simp, iteT ?_⟩
          exact ⟨_, s2.s2, .inl ⟨l, [w], 0, w, rfl, rfl, SqL.of k1, rfl, h8 w H2 H2' s2.aft k3⟩⟩
    · refine ⟨.non, rfl, rfl, true, by simp, iteT ?_⟩
      refine ⟨by simp [sizeLine_eq], fun p hp => ?_⟩
      exact h2 (.ref p) _ _ (h1.trans (Aft.new h1.sub h1.gen h1.tabs hp (fun ps z => by cases z))) (.tup (SqT.of upd_same) (.cons (.str _) .nil))
end
end PD
set_option Elab.async false
set_option linter.all false
set_option maxRecDepth 100000
set_option autoImplicit false
namespace PD
open PySem PySem.Spec L2

/-! ### a lambda with one parameter that has a number of its own, called with nothing -/
def oneP (y : Str) (p : Pos) (i : Int) (k : Nat) (p2 : Pos) : Arguments := ⟨[], [⟨y, none, p⟩], none, [], [], none, [.Constant (.int i) k p2]⟩
structure LamD (N : List Str) (sc scope : Scope) (y : Str) : Prop where
  kd : scope.kind = .function
  noco : scope.isCoroutine = false
  nogn : scope.isGenerator = false
  nms : ∀ z ∈ scope.names, z.2 ≠ .cell ∧ (z.2 = .local → z.1 = y)
  out : ∀ z ∈ scope.names, z.2 = .free → sc.names.lookup z.1 = some .cell ∨ sc.names.lookup z.1 = some .free
  loc : scope.names.lookup y = some .local
  far : y ∉ N
theorem LamD.got {X : Cx} {scope : Scope} {y : Str} (L : LamD X.N X.env.scope scope y) (ok : X.Ok) : ∀ z ∈ scope.names, z.2 = .free → ∃ c, X.env.cells.lookup z.1 = some c :=
  fun z hz e => (L.out z hz e).elim (fun q => ok.has _ (.inl q)) (fun q => ok.has _ (.inr q))
abbrev fnD (q : Str) (y : Str) (p : Pos) (i : Int) (k : Nat) (p2 : Pos) (body : Expr) (scope : Scope) (cl : List (Str × Addr)) (t : Addr) (doc pm : Value) (c' : Addr) (ctv : Value) : Obj :=
  PySem.W.kdv_obj "<lambda>" q (oneP y p i k p2) (.expr body) scope cl (.ref t) doc pm c' ctv
section
variable {X : Cx} {pins : List (Addr × Obj)} {σ : L2.St} {H : Hp} {s : Shared}
/-- its making -/
theorem lamD_make {T : List (Addr × Str)} {c P : Addr} {y : Str} {p p2 pos : Pos} {i : Int} {k : Nat} {body : Expr} {scope : Scope} {Q : Value → Shared → Prop} (I : Inv X pins σ H s) (TB : LamX.TabB X.base X.mg c P) (code : X.env.code = .ref c)
    (inT : (P, X.env.qual ++ "<lambda>") ∈ T) (only : ∀ q ∈ T, q.1 = P → q.2 = X.env.qual ++ "<lambda>") (tabs : LamX.Tabs T H) (got : ∀ z ∈ scope.names, z.2 = .free → ∃ c, X.env.cells.lookup z.1 = some c)
    (fin : ∀ (f t c' : Addr) (doc pm ctv u : Value) (H1 : Hp) (s' : Shared), Inv X pins σ H1 s' → LamX.ExtN H H1 → LamX.Tabs T H1 → s'.heap.get? f = some (fnD (X.env.qual ++ "<lambda>") y p i k p2 body scope (cloFrom X.env.cells scope.names []) t doc pm c' ctv) →
      s'.heap.get? t = some (PySem.W.kdv_tup [u]) → H1 f = none → H1 t = none → f ∉ frs X.stack → t ∉ frs X.stack → H1 c' = some (LamX.CodeO c' (X.env.qual ++ "<lambda>")) → Q (.ref f) s') :
    wpAny (model X.prog X.w) X.A (eval (.Lambda (oneP y p i k p2) body scope pos) X.env) Q X.xe s := by
  refine PySem.W.kdv_lam rfl rfl (PySem.W.kdv_all1 (thn ((pe_int (X := X) (i := i)).run pins s σ H (fun v H' => v = .int i ∧ H' = H) I ⟨rfl, rfl⟩) fun u s1 ⟨v, H', I1, r, ev, eH⟩ => PySem.W.kdv_all0 ?_))
  subst eH
  have away : ∀ b, s1.heap.objs.size ≤ b → b ∉ frs X.stack := fun b hb z => (List.mem_cons.mp (I1.stkSub _ z)).elim (fun e => by
    have lt := I1.lt
    rw [← e] at lt
    exact absurd (Nat.lt_of_lt_of_le lt hb) (Nat.lt_irrefl _)) fun e => I1.nofs hb e
  rw [makeFunction_eq]
  simp only [List.zip_nil_right, List.filterMap_nil, List.isEmpty_nil, List.isEmpty_cons, if_true, pure_bind, Bool.false_eq_true, if_false]
  refine wpAny_bind (wpAny_newTextTuple ?_)
  -- the tuple of the one number stands behind all
  have I2 : Inv X pins σ H' { s1 with heap := s1.heap.push (PySem.W.kdv_tup [u]) } := I1.kept (t' := s1.toks) fun b o e => Heap.get?_push_of_some _ e
  have tt : (s1.heap.push (PySem.W.kdv_tup [u])).get? s1.heap.objs.size = some (PySem.W.kdv_tup [u]) := Heap.get?_push_size _ rfl
  have szp : (s1.heap.push (PySem.W.kdv_tup [u])).objs.size = s1.heap.objs.size + 1 := by rw [Heap.size_push]
  obtain ⟨ps, hP, tri, among⟩ := tabs _ inT
  have hP2 := I2.hok P _ hP
  have bP := TB.bm.keeps I2.bk
  have nt : H' s1.heap.objs.size = none := I1.hok.fresh (Nat.le_refl _)
  cases hc : codeAmong pos ps.toList with
  | some cv =>
    obtain ⟨c', rfl, hco⟩ := among pos cv hc
    refine PySem.W.kdv_makeTailHit (c := c) (P := P) (mg := X.mg) (ps := ps) (closure_ok got) I2.ok.glob (I2.mod.glob.keeps I2.bk) code (TB.code.keeps I2.bk) hP2 tri hc bP fun ctv doc h' tk kp sz => ?_
    have sz' : s1.heap.objs.size + 1 ≤ h'.objs.size := by rw [← szp]; exact sz
    have I3 : Inv X pins σ H' { s1 with heap := h'.push (fnD (X.env.qual ++ "<lambda>") y p i k p2 body scope (cloFrom X.env.cells scope.names []) s1.heap.objs.size doc ((X.mg "__name__").getD .none) c' ctv), toks := tk } := I2.kept (t' := tk) fun b o e => Heap.get?_push_of_some _ (kp b o e)
    exact fin _ _ c' doc _ ctv u H' _ I3 (LamX.ExtN.refl H') tabs (Heap.get?_push_size _ rfl) (Heap.get?_push_of_some _ (kp _ _ tt)) (I1.hok.fresh (by omega)) nt (away _ (by omega)) (away _ (Nat.le_refl _)) hco
  | none =>
    refine PySem.W.kdv_makeTail (c := c) (P := P) (mg := X.mg) (ps := ps) (closure_ok got) I2.ok.glob (I2.mod.glob.keeps I2.bk) code (TB.code.keeps I2.bk) hP2 tri hc TB.gP bP fun c' ctv doc h' tk kp ge lt hrec tab' => ?_
    have ge' : s1.heap.objs.size + 1 ≤ c' := by rw [← szp]; exact ge
    obtain ⟨c2, oc, vs, tk2, e2, o1, o2, o3⟩ := hrec
    cases e2
    have nC : H' c' = none := I1.hok.fresh (by omega)
    have P_lt : P < s1.heap.objs.size + 1 := by rw [← szp]; exact Heap.lt_size hP2
    let o3f : Obj := fnD (X.env.qual ++ "<lambda>") y p i k p2 body scope (cloFrom X.env.cells scope.names []) s1.heap.objs.size doc ((X.mg "__name__").getD .none) c' ctv
    have I3 := LamX.inv_table (t' := tk) (q := X.env.qual ++ "<lambda>") (more := #[rawInt pos.line, rawInt pos.col, .ref c']) (h' := h'.push o3f) I2 hP (fun b o hb e => Heap.get?_push_of_some _ (kp b o hb e)) (Heap.get?_push_of_some _ tab') ge ⟨oc, vs, tk2, Heap.get?_push_of_some _ o1, o2, o3⟩
    have ex : LamX.ExtN H' (upd (upd H' P (.tbl (ps ++ #[rawInt pos.line, rawInt pos.col, .ref c']))) c' (LamX.CodeO c' (X.env.qual ++ "<lambda>"))) := by
      intro b o e n
      have b1 : b ≠ c' := ne_of_none e nC
      have b2 : b ≠ P := by
        intro z
        rw [z, hP] at e
        exact n ps (Option.some.inj e).symm
      rw [upd_ne b1, upd_ne b2, e]
    have pc : P ≠ c' := ne_of_none hP nC
    have lst : (ps ++ #[rawInt pos.line, rawInt pos.col, .ref c']).toList = ps.toList ++ [rawInt pos.line, rawInt pos.col, .ref c'] := by simp
    have tabs3 : LamX.Tabs T (upd (upd H' P (.tbl (ps ++ #[rawInt pos.line, rawInt pos.col, .ref c']))) c' (LamX.CodeO c' (X.env.qual ++ "<lambda>"))) := by
      intro q hq
      by_cases at_ : q.1 = P
      · rw [only q hq at_, at_]
        refine ⟨_, (upd_ne pc).trans upd_same, ?_, ?_⟩
        · rw [lst]; exact PySem.TriplesOk_snoc _ _ _ _ tri
        · intro pos' cv' hcv
          rw [lst] at hcv
          exact (LamX.among_app _ tri hcv).elim (fun old => let ⟨c0, z1, z2⟩ := among pos' cv' old; ⟨c0, z1, ex _ _ z2 LamX.codeO_ne⟩) fun new => ⟨c', new, upd_same⟩
      · obtain ⟨ps1, w1, w2, w3⟩ := tabs q hq
        refine ⟨ps1, ?_, w2, fun pos' cv' hcv => let ⟨c0, z1, z2⟩ := w3 pos' cv' hcv; ⟨c0, z1, ex _ _ z2 LamX.codeO_ne⟩⟩
        rw [upd_ne (ne_of_none w1 nC), upd_ne at_, w1]
    have still : ∀ b, b ≠ c' → b ≠ P → H' b = none → upd (upd H' P (.tbl (ps ++ #[rawInt pos.line, rawInt pos.col, .ref c']))) c' (LamX.CodeO c' (X.env.qual ++ "<lambda>")) b = none := fun b z1 z2 z3 => by rw [upd_ne z1, upd_ne z2, z3]
    have tP : s1.heap.objs.size ≠ P := fun z => by rw [z, hP] at nt; cases nt
    exact fin _ _ c' doc _ ctv u _ _ I3 ex tabs3 (Heap.get?_push_size _ rfl) (Heap.get?_push_of_some _ (kp _ _ tP tt)) (still h'.objs.size (Nat.ne_of_gt lt) (Nat.ne_of_gt (Nat.lt_of_lt_of_le P_lt (Nat.le_trans ge' (Nat.le_of_lt lt)))) (I1.hok.fresh (Nat.le_trans (Nat.le_of_succ_le ge') (Nat.le_of_lt lt)))) (still _ (Nat.ne_of_lt ge') tP nt) (away _ (Nat.le_trans (Nat.le_of_succ_le ge') (Nat.le_of_lt lt))) (away _ (Nat.le_refl _)) upd_same
end
end PD
set_option Elab.async false
set_option linter.all false
set_option maxRecDepth 100000
set_option autoImplicit false
namespace PD
open PySem PySem.Spec L2

section
variable {X : Cx} {pins : List (Addr × Obj)} {σ : L2.St} {H HZ : Hp} {s s1 : Shared}
/-- its frame, entered: its own name is none of the caller's -/
theorem lamD_start {A : Around} {outer : List PySem.Env} {E : XK} {scope : Scope} {y : Str} {f c' : Addr} {h1 : Heap} {tk : Nat} {m : Str → Option Value} (I : Inv X pins σ H s) (L : LamD X.N X.env.scope scope y) (e0 : Env0 X.prog X.w X.K X.mg X.base A outer s1 HZ) (quiet : A.handled = none)
    (un : Un (frs X.stack) [] H HZ s.heap s1.heap) (frame : h1.Ns s1.heap.objs.size m) (kept : ∀ b o, s1.heap.get? b = some o → h1.get? b = some o) :
    Inv (LamX.lamCx X A outer s1 HZ E scope f c') [] σ HZ { s1 with heap := h1, toks := tk } := by
  have fre := L.got I.ok
  -- a captured cell is the maker's
  have same : ∀ x c, (cloFrom X.env.cells scope.names []).lookup x = some c → X.env.cells.lookup x = some c := by
    intro x c e
    rcases cloFrom_mem (PySem.mem_of_lookup e) with z | ⟨z1, z2⟩
    · exact nomatch z
    · obtain ⟨c1, q⟩ := fre _ z1 rfl
      have q : X.env.cells.lookup x = some c1 := q
      have e3 : c = c1 := by rw [z2, q] <;> rfl
      exact e3 ▸ q
  have there : ∀ x, scope.names.lookup x = some .free → ∃ c, (cloFrom X.env.cells scope.names []).lookup x = some c := fun x q =>
    mem_lookup (cloFrom_has (cells := X.env.cells) (acc := []) (PySem.mem_of_lookup q))
  have cells : ∀ {c : Addr} {v : Option Value}, H c = none → s.heap.IsCell c v → h1.IsCell c v := by
    intro c v n q
    obtain ⟨o, q1, q2⟩ := q
    obtain ⟨sl, q3⟩ := un.any q1 n (by simp)
    exact ⟨_, kept _ _ q3, q2⟩
  have ex0 : ∀ b : Addr, b ∉ (LamX.lamCx X A outer s1 HZ E scope f c').ex := fun b z => nomatch (show b ∈ ([] : List Addr) from z)
  have oks : (LamX.lamCx X A outer s1 HZ E scope f c').Ok :=
    { mod := e0.mod, kind := L.kd, glob := rfl, blt := rfl, above := Nat.le_refl _
      inj := fun x z c q1 q2 => I.ok.inj x z c (same _ _ q1) (same _ _ q2)
      has := fun x q => by
        have q : scope.names.lookup x = some .cell ∨ scope.names.lookup x = some .free := q
        exact q.elim (fun q => absurd rfl (L.nms _ (PySem.mem_of_lookup q)).1) fun q => there x q
      cab := fun x c z _ => by
        have z : false = true := z
        exact nomatch z
      hd := fun _ => quiet, frames := Around.frames_deeper e0.frames, stk := .inr ⟨rfl, rfl⟩
      exf := fun b z => absurd z (ex0 b), bs := e0.bs, bsz := e0.bsz, noex := fun b _ _ => ex0 b, exfs := fun b z => absurd z (ex0 b), funs := e0.funs, frf := e0.frf }
  refine { ok := oks, os := rfl, bare := e0.bare, base := Un.kept kept, loc := ⟨m, frame, ?_⟩, cell := ?_, free := e0.hok.fresh (Nat.le_refl _), freeC := ?_, pin := (fun q hq => absurd (show q ∈ ([] : List (Addr × Obj)) ++ [] from hq) (by simp)), hok := e0.hok.kept kept, len := I.len }
  · intro i x v q1 q2 q3
    have q3 : Vis scope x := q3
    have mem : x ∈ X.N := List.mem_of_getElem? q1
    rcases q3 with z | z | z
    · exact absurd ((L.nms _ (PySem.mem_of_lookup z)).2 rfl ▸ mem) L.far
    · exact absurd rfl (L.nms _ (PySem.mem_of_lookup z)).1
    · obtain ⟨m0, _, all⟩ := I.loc
      have up := L.out _ (PySem.mem_of_lookup z) rfl
      obtain ⟨u, r, lk⟩ := all i x v q1 q2 (up.elim (fun q => .inr (.inl q)) fun q => .inr (.inr q))
      obtain ⟨c, hc⟩ := there x z
      refine ⟨u, r, .inr ⟨.inr z, c, hc, ?_⟩⟩
      rcases lk with ⟨own, _⟩ | ⟨_, c3, e3, cl⟩
      · have own : X.env.scope.names.lookup x = some .local := own
        have up : X.env.scope.names.lookup x = some .cell ∨ X.env.scope.names.lookup x = some .free := up
        rcases up with up | up <;> (rw [up] at own; cases own)
      · have e4 : c3 = c := Option.some.inj (e3.symm.trans (same _ _ hc))
        subst e4
        exact cells (I.freeC x _ e3) cl
  · intro x c e
    obtain ⟨v, q⟩ := I.cell x c (same _ _ e)
    exact ⟨v, cells (I.freeC x c (same _ _ e)) q⟩
  · intro x c e
    obtain ⟨v, o, q, _⟩ := I.cell x c (same _ _ e)
    exact un.free c o q (I.freeC x c (same _ _ e)) (by simp)
theorem lamD_binds {q : Str} {p p2 : Pos} {i : Int} {k : Nat} {body : Expr} {scope : Scope} {cl : List (Str × Addr)} {t c' : Addr} {doc pm ctv u : Value} (ht : s.heap.get? t = some (PySem.W.kdv_tup [u])) :
    BindsTo s (PySem.W.kdv_fn "<lambda>" q (oneP "y" p i k p2) (.expr body) scope cl (.ref t) doc pm (.ref c') ctv) ⟨[], []⟩ [(("y" : Str), u)] :=
  BindsTo.of_defaults (T := t) rfl ht rfl rfl rfl
end

section
variable {X : Cx} {pins : List (Addr × Obj)} {σ : L2.St} {H : Hp} {s : Shared}
theorem actD {CXg : CXT} {Eg : XK} {Ng : List Str} {qg : Str} {sg : Scope} {g f t c' : Addr} {cdg pm ctv doc u0 : Value} {p p3 : Pos} {i0 : Int} {k0 : Nat} {body : Expr} {scope : Scope} {k i : Nat} {a : Str} {pn : List (Addr × Obj)} {xe : Value → Shared → Prop} {W : WX} {tb : XK → TE} {p1 p2 : Pos}
    (I : Inv X pins σ H s) (L : LamD X.N X.env.scope scope "y") (isF : s.heap.get? f = some (fnD (X.env.qual ++ "<lambda>") "y" p i0 k0 p3 body scope (cloFrom X.env.cells scope.names []) t doc pm c' ctv)) (isT : s.heap.get? t = some (PySem.W.kdv_tup [u0])) (nf : H f = none) (nt : H t = none) (nst : f ∉ frs X.stack) (nst2 : t ∉ frs X.stack)
    (tk : Takes (inDef X CXg Ng qg sg g cdg s H Eg pn xe) W) (room : Room (k + 1) (X.A.deeper (PyProof.Rows.envOfC qg sg s.heap.objs.size g cdg))) (hgd : X.A.guards = some [])
    (inner : ∀ (A : Around) (outer : List PySem.Env) (s : Shared) (H : Hp) (E : XK), A.guards = some [] → Room k (A.deeper (LamX.lamEnv X scope s.heap.objs.size f c')) → PE (LamX.lamCx X A outer s H E scope f c') body (tb E))
    (hN : Ng[i]? = some a) (hv : Vis sg a) (d1 : (a == ("__debug__" : Str)) = false) (d2 : (a == ("__classdict__" : Str)) = false) :
    PE (inDef X CXg Ng qg sg g cdg s H Eg pn xe) (.Call (.Name a p1) [] [] p2)
      (fun σZ HZ Q => σZ[i]? = some (some (.ref f)) ∧ HZ c' = some (LamX.CodeO c' (X.env.qual ++ "<lambda>")) ∧ tb (WE W σZ) σ HZ Q) := by
  refine ⟨fun pinsZ sZ σZ HZ Q IZ hq => ?_⟩
  obtain ⟨q1, q2, q3⟩ := hq
  have look := (pe_var (X := inDef X CXg Ng qg sg g cdg s H Eg pn xe) (pos := p1) (i := i) hN hv d1 d2).run pinsZ sZ σZ HZ (fun v H1 => v = .ref f ∧ H1 = HZ) IZ ⟨.ref f, q1, rfl, rfl⟩
  refine wpAny_Call_Name_kw (thn look fun u s1 ⟨v, H1, J, r, ev, eH⟩ => ?_)
  subst ev eH
  obtain rfl : u = Value.ref f := r
  have stays : Un (frs X.stack) [] H H1 s.heap s1.heap := J.base
  have isF1 := stays.keep f _ isF nf nst (fun z => nomatch (show f ∈ ([] : List Addr) from z))
  have isT1 := stays.keep t _ isT nt nst2 (fun z => nomatch (show t ∈ ([] : List Addr) from z))
  refine PySem.W.callWith_F0 ⟨_, _, _, _, isF1⟩ ?_
  obtain ⟨⟨oc, fs, tq, code1, code2, code3⟩, _, _⟩ := J.hok c' _ q2
  let A2 : Around := X.A.deeper (PyProof.Rows.envOfC qg sg s.heap.objs.size g cdg)
  have ran : codeAny (model X.prog X.w) A2 (.call (.ref f) ⟨[], []⟩) (CR (L2.CX X.prog X.w) (PyProof.Rows.envOfC qg sg s.heap.objs.size g cdg :: X.stack) X.prog X.w H1 s1 Q (WE W σZ)) s1 := by
    refine PySem.W.kla_callFunE room.depth isF1 rfl L.noco L.nogn rfl ⟨c', oc, fs, tq, rfl, code1, code2, code3⟩ (lamD_binds isT1 _ _ _ _ ?_)
    refine wpAny_newFunctionEnv (fun z hz => (L.nms z hz).1) (fun z hz => by
      obtain rfl : z = (("y" : Str), u0) := by simpa using hz
      exact L.loc) (fun h1 hns hsb => ⟨J.nolimit.fresh _ hsb, ?_⟩) L.kd
    show codeAny _ _ (.expr body (LamX.lamEnv X scope s1.heap.objs.size f c')) _ _
    have kp : ∀ b o, s1.heap.get? b = some o → h1.get? b = some o := fun b o e => hsb.extBut b o (Nat.ne_of_lt (Heap.lt_size e)) (Heap.get?_push_of_some _ e)
    have st := lamD_start (E := WE W σZ) (A := A2) (outer := PyProof.Rows.envOfC qg sg s.heap.objs.size g cdg :: X.stack) (f := f) (c' := c') (tk := s1.toks + ([(("y" : Str), u0)] : List (Str × Value)).length) I L J.env0 room.hd stays hns kp
    refine PySem.W.kla_codeExpr (wpAny_mono ((inner A2 _ s1 H1 _ hgd (room.deeper _)).run [] _ _ H1 Q st q3) (fun v s2 hs => ?_) fun e s2 hs => hs)
    obtain ⟨v', H2, J2, rv, q⟩ := hs
    exact ⟨v', H2, J2.os, J2.bare, J2.base, J2.hok, rv, q⟩
  refine wpAny_call (codeAny_mono ran fun r s2 hs => ?_)
  match r, hs with
  | .error e, hs => exact passAt tk σZ pinsZ H1 s1 e s2 J hs
  | .ok (.ret u), hs => exact J.after hs
  | .ok .next, hs => exact False.elim hs
  | .ok .brk, hs => exact False.elim hs
  | .ok .cont, hs => exact False.elim hs
/-- x(lambda y=0: body): TT tells what x makes of it -/
theorem lamD_call {T : List (Addr × Str)} {x a : Str} {g c P : Addr} {k : Nat} {pg : Arguments} {bg : List Stmt} {sg : Scope} {dV kV doc pm cdv ct oc : Value} {an od : Option Addr} {osl : Array (Option Value)} {Ng : List Str}
    {pa pb : Pos} {i0 : Int} {k0 : Nat} {body : Expr} {scope : Scope} {t : XK → TE} {p lpos pos : Pos} {TT : (XK → Hp → VK → Prop) → Hp → VK → Prop} (hg : Gl X x) (hm : X.mg x = some (.ref g)) (kp : PySem.W.keepIn X.K (.ref g) = true)
    (lk : X.K.lookup g = some ⟨oc, od, .func (PySem.W.fnOf x x pg bg sg dV kV doc pm an cdv ct), osl⟩) (cg : PySem.W.codeIn X.K cdv x = true) (bd : L2.Binds X.K (PySem.W.fnOf x x pg bg sg dV kV doc pm an cdv ct) [a] []) (Sg : FnScope Ng [a] sg) (n0 : Ng[0]? = some a) (va : Vis sg a)
    (TB : LamX.TabB X.base X.mg c P) (code : X.env.code = .ref c) (inT : (P, X.env.qual ++ "<lambda>") ∈ T) (only : ∀ p ∈ T, p.1 = P → p.2 = X.env.qual ++ "<lambda>") (room : Room (k + 2) X.A) (hgd : X.A.guards = some []) (L : LamD X.N X.env.scope scope "y")
    (inner : ∀ (A : Around) (outer : List PySem.Env) (s : Shared) (H : Hp) (E : XK) (f c' : Addr), A.guards = some [] → Room k (A.deeper (LamX.lamEnv X scope s.heap.objs.size f c')) → PE (LamX.lamCx X A outer s H E scope f c') body (t E))
    (d0 : (x == ("__debug__" : Str)) = false) (d1 : (a == ("__debug__" : Str)) = false) (d2 : (a == ("__classdict__" : Str)) = false)
    (callee : ∀ (f c' : Addr) (s : Shared) (H : Hp) (Q : VK) (tl : XK → Hp → VK → Prop),
      (∀ (W : WX) (pn : List (Addr × Obj)) (xe : Value → Shared → Prop) (p1 p2 : Pos), Takes (inDef X CX0 Ng x sg g cdv s H E0 pn xe) W →
        PE (inDef X CX0 Ng x sg g cdv s H E0 pn xe) (.Call (.Name a p1) [] [] p2) (fun σZ HZ Q => σZ[0]? = some (some (.ref f)) ∧ HZ c' = some (LamX.CodeO c' (X.env.qual ++ "<lambda>")) ∧ tl (WE W σZ) HZ Q)) →
      H c' = some (LamX.CodeO c' (X.env.qual ++ "<lambda>")) → TT tl H Q →
      ∃ t, PSs (cxOf CX0 X.prog X.w X.K X.mg X.base Ng x sg g cdv X.A X.stack s H E0).nox bg t ∧ t { nx := fun _ H' => Q .non H', rt := Q } (L2.start Ng [.ref f]) H) :
    PE X (.Call (.Name x p) [.Lambda (oneP "y" pa i0 k0 pb) body scope lpos] [] pos) (fun σ H Q => LamX.Tabs T H ∧ ∀ H1, LamX.ExtN H H1 → LamX.Tabs T H1 → TT (fun E H' Q' => t E σ H' Q') H1 Q) := by
  refine ⟨fun pins s σ H Q I hq => ?_⟩
  obtain ⟨tabs, hq⟩ := hq
  refine wpAny_Call_Name_kw (ld_glob I hg hm ?_ d0)
  refine PySem.W.callWith_K (h₀ := X.base) I.ok.mod.kin kp ?_ (by rfl) (by rfl)
  show wpAny _ _ (spliced ((false, eval (.Lambda (oneP "y" pa i0 k0 pb) body scope lpos) X.env) :: [])) _ _ s
  refine Calls.spliced_cons (lamD_make I TB code inT only tabs (L.got I.ok) fun f tt c' doc' pm' ctv u0 H1 s1 J ext tabs1 isF isT nf nt nst nst2 isC => ?_)
  refine Calls.spliced_nil ⟨J.kIn, ?_⟩
  have ran : codeAny (model X.prog X.w) X.A (.call (.ref g) ⟨[.ref f], []⟩) (CR CX0 X.stack X.prog X.w H1 s1 Q E0) s1 := by
    refine LamX.run_ofS (N := Ng) (ps := [a]) (us := [.ref f]) (vs := [.ref f]) lk cg Sg room J.env0 (bd s1 [.ref f] J.kIn rfl) (.cons rfl .nil) rfl fun room' => ?_
    obtain ⟨t2, k1, k2⟩ := callee f c' s1 H1 Q (fun E H' Q' => t E σ H' Q') (fun W pn xe p1 p2 tk => actD (i := 0) J L isF isT nf nt nst nst2 tk room' hgd (fun A outer s H E gd r2 => inner A outer s H E f c' gd r2) n0 va d1 d2) isC (hq H1 ext tabs1)
    exact ⟨t2, k1.nox, k2⟩
  refine wpAny_call (codeAny_mono ran fun r s2 hs => ?_)
  match r, hs with
  | .error e, hs => exact (show False from hs).elim
  | .ok (.ret u), hs => exact J.after hs
  | .ok .next, hs => exact False.elim hs
  | .ok .brk, hs => exact False.elim hs
  | .ok .cont, hs => exact False.elim hs
end
end PD
set_option Elab.async false
set_option linter.all false
set_option maxRecDepth 100000
set_option autoImplicit false
namespace PD
open PySem PySem.Spec L2

theorem noPar_eq {a : Arguments} (h : noPar a = true) : a = ⟨[], [], none, [], [], none, []⟩ := by
  obtain ⟨a1, a2, a3, a4, a5, a6, a7⟩ := a
  unfold noPar at h
  simp only [Bool.and_eq_true, List.isEmpty_iff, Option.isNone_iff_eq_none] at h
  obtain ⟨⟨⟨⟨⟨⟨rfl, rfl⟩, rfl⟩, rfl⟩, rfl⟩, rfl⟩, rfl⟩ := h
  rfl
theorem onePB_eq {a : Arguments} (h : onePB a = true) : ∃ pa i0 k0 pb, a = oneP "y" pa i0 k0 pb := by
  unfold onePB at h
  split at h
  · have e := of_decide_eq_true h
    subst e
    exact ⟨_, _, _, _, rfl⟩
  · cases h
theorem lamD_by {N : List Str} {sc scope : Scope} (h : lamDB N sc scope = true) : LamD N sc scope "y" := by
  unfold lamDB at h
  simp only [Bool.and_eq_true, Bool.or_eq_true, Bool.not_eq_true', decide_eq_true_eq, decide_eq_false_iff_not, List.all_eq_true] at h
  obtain ⟨h1, h2, h3, h4, h5, h6⟩ := h
  refine ⟨h1, h2, h3, fun z hz => ⟨(h6 z hz).1, fun e => ?_⟩, fun z hz e => ?_, h4, h5⟩
  · exact (h6 z hz).2.1.elim (fun q => absurd e q) id
  · exact (h6 z hz).2.2.elim (fun q => absurd e q) id
/-- a def at a level, whatever its caller -/
def CallAt (P : Program) (w : World) (K : PySem.W.Frag) (mg : Str → Option Value) (base : Heap) (S : Sig) (k : Nat) (f : Str) (n : Nat) (m : List Vl → M D) : Prop :=
  ∃ (fa : Addr) (fd : FuncData) (ps : List Str) (sp : Sp), FnG P w K mg base (L2.CX P w) k fa fd ps sp ∧ mg f = some (.ref fa) ∧ PySem.W.keepIn K (.ref fa) = true ∧ Binds K fd ps [] ∧ SpOk S n m sp
/-- what a def's code object says of its table -/
def TabAt (base : Heap) (mg : Str → Option Value) (T : List (Addr × Str)) (code : Value) (q : Str) : Prop :=
  ∃ c P, code = .ref c ∧ (P, q ++ "<lambda>") ∈ T ∧ (∀ p ∈ T, p.1 = P → p.2 = q ++ "<lambda>") ∧ LamX.TabB base mg c P
theorem said_ok {X : Cx} {S : Sig} {W : WX} {C : Cfg} {F : Fns} {excs : List Str} {ts : List Tst} {k : Nat} (G : Gd0 X S W C F) (SD : SaidDef X.K X.mg S excs ts F.word) (known : ∀ c, F.word c ≠ none → c ∈ excs) (tab : TabAt X.base X.mg S.T X.env.code X.env.qual)
    (fns : ∀ f n i, fnIx C.fns f n = some i → CallAt X.prog X.w X.K X.mg X.base S k f n (F.call i)) (room : Room (k + 2) X.A) : SaidOk X S W C F := by
  intro params body scope lpos p pos c hg hlb hbody
  obtain ⟨g, pg, bg, sg, dV, kV, doc, pm, cdv, ct, oc, an, od, osl, m1, m2, m3, m4, m5, m6, m7, m8, m9⟩ := SD.df
  obtain ⟨cc, P, t1, t2, t3, t4⟩ := tab
  have va : Vis sg "call" := .inl (lk_of (List.all_eq_true.mp m8 _ (by simp)))
  have inner : ∀ (A : Around) (outer : List PySem.Env) (s : Shared) (H : Hp) (E : XK) (f c' : Addr), A.guards = some [] → Room k (A.deeper (LamX.lamEnv X scope s.heap.objs.size f c')) → PE (LamX.lamCx X A outer s H E scope f c') body (RE S (fun cls d _ H => E cls d H) (ev F c)) := fun A outer s H E f c' gd r => hbody _ _
      { hN := G.hN, hsc := rfl, hK := G.hK, nd := G.nd, calm := rfl, room := r.mono (Nat.zero_le _), guards := gd, own := passes_of rfl, tk := takes_of rfl rfl rfl rfl, blt := G.blt, sys := G.sys, cst := G.cst,
        fns := fun x n i hi => by
          obtain ⟨fa, fd, ps, sp, k1, k2, k3, k4, k5⟩ := fns x n i hi
          exact ⟨k, fa, fd, ps, sp, k1, r, k2, k3, k4, k5⟩ }
  have call : PE X (.Call (.Name "_law_said" p) [.Lambda params body scope lpos] [] pos) (fun σ H Q => LamX.Tabs S.T H ∧ ∀ H1, LamX.ExtN H H1 → LamX.Tabs S.T H1 → TTs S excs F.word (fun E H' Q' => RE S (fun cls d _ H => E cls d H) (ev F c) σ H' Q') H1 Q) := by
    unfold lamB at hlb
    rw [Bool.or_eq_true, Bool.and_eq_true, Bool.and_eq_true] at hlb
    rcases hlb with ⟨hnp, hls⟩ | ⟨hnp, hls⟩
    · have hp := noPar_eq hnp
      subst hp
      have L : LamX.LamS X.env.scope scope := by rw [G.hsc]; exact LamX.lamS_by hls
      exact lam_call (X := X) (T := S.T) (k := k) (t := fun E => RE S (fun cls d _ H => E cls d H) (ev F c)) (TT := TTs S excs F.word) (params := ⟨[], [], none, [], [], none, []⟩) (scope := scope) (p := p) (lpos := lpos) (pos := pos) (body := body) (gl_of G.hsc hg) m1 m2 m3 m4 m5 m6 rfl va t4 t1 t2 t3 room G.guards L rfl (fun _ _ _ _ _ => rfl)
        inner (by decide) (by decide) (by decide) (fun f c' s H Q tl act isC tt => said_callee G.hK SD m7 m6 m8 m9 G.blt act isC tt)
    · obtain ⟨pa, i0, k0, pb, rfl⟩ := onePB_eq hnp
      have L : LamD X.N X.env.scope scope "y" := by rw [G.hsc, G.hN]; exact lamD_by hls
      exact lamD_call (X := X) (T := S.T) (k := k) (t := fun E => RE S (fun cls d _ H => E cls d H) (ev F c)) (TT := TTs S excs F.word) (scope := scope) (p := p) (lpos := lpos) (pos := pos) (body := body) (gl_of G.hsc hg) m1 m2 m3 m4 m5 m6 rfl va t4 t1 t2 t3 room G.guards L
        inner (by decide) (by decide) (by decide) (fun f c' s H Q tl act isC tt => said_callee G.hK SD m7 m6 m8 m9 G.blt act isC tt)
  refine PE.weak call fun σ H Q h => ?_
  obtain ⟨env, g0, He, H0e, H0, R, h⟩ := h
  refine ⟨R.tabs, fun H1 ext tabs1 l hl Ex Qn hex hno => ?_⟩
  have a1 : Aft S g0 H0 H H0 H1 := Aft.lam R.sub R.ntbl R.gen ext tabs1
  have a2 : Aft S g0 H0 H H0 (upd H1 l (.lst [])) := a1.trans (Aft.grow a1.sub a1.gen a1.tabs hl)
  have R2 := R.step a2
  have ng : S.gm ≠ some l := fun z => by
    obtain ⟨gl, e1, _⟩ := a1.gen l z
    rw [hl] at e1; cases e1
  have l0 : H0 l = none := a1.sub.free hl
  -- l may be a table's place at the call: it is not, by what is tracked
  have lH : Fre H l := a1.stp.th l (.inl hl)
  have key : ∀ {g' : Gen} {H2 H2' : Hp}, Aft S g' H0 (upd H1 l (.lst [])) H2 H2' → H2' l = some (.lst []) ∧ H2 l = none := fun {g' H2 H2'} a => by
    refine ⟨a.stp.fr l _ upd_same ng (fun ps z => by cases z), ?_⟩
    cases z : H2 l with
    | none => rfl
    | some u =>
      rcases a.stp.fresh l (by rw [z]; simp) with y | y
      · exact absurd l0 y
      · exact absurd rfl (y.ne upd_same (fun ps z => by cases z))
  refine ⟨env, g0, He, H0e, H0, R2, ?_⟩
  simp only [ev] at h
  cases e : ev F c env g0 with
  | st => rw [e] at h; exact h
  | ok x g' =>
    rw [e] at h
    exact fun v H2 H2' a r => hno v g' H0 H H2 H2' (a2.trans a) fun w H3 H3' a3 hw => h w H3 H3' a3 hw
  | er cn d g' =>
    rw [e] at h
    intro dx v H2 H2' a q1 q2
    have h : Pst S W σ H0 H (VR S) Q ((M.ofO ((saidOf F.word cn d).map Vl.d)) g') := h
    cases e2 : saidOf F.word cn d with
    | none => rw [e2] at h; exact h.elim
    | some r =>
      rw [e2] at h
      have hc : cn ∈ excs := known cn fun z => by
        unfold saidOf at e2
        rw [z] at e2; cases e2
      obtain ⟨k1, k2⟩ := key a
      refine hex cn dx v d r g' H0 H H2 H2' hc k1 k2 lH (a2.trans a) q1 q2 e2 fun w H3 H3' a3 hw => h w H3 H3' a3 hw
end PD
set_option Elab.async false
set_option linter.all false
set_option maxRecDepth 100000
set_option autoImplicit false
set_option maxHeartbeats 1000000
namespace PD
open PySem PySem.Spec L2

/-- the level of a def's promise by fuel: a call is one, a call through a lambda three -/
def lv (f : Nat) : Nat := 3 * f + 4
/-! ### what is told of a program's globals -/
structure Glb (P : Program) (w : World) (K : PySem.W.Frag) (mg : Str → Option Value) (base : Heap) (S : Sig) (consts : List (Str × D)) (excs : List Str) : Prop where
  hK : K = S.K
  blt : ∀ x ∈ bltNames, mg x = none
  sys : ∃ o, base.get? sysModules = some o
  cst : ∀ x d, consts.lookup x = some d → ∃ u v, mg x = some u ∧ RelV v u ∧ (∀ H, Dr S.K H v d) ∧ TupK S.K v d
  exc : ∀ c ∈ excs, ∀ X : Cx, X.prog = P → X.w = w → X.K = K → X.mg = mg → X.base = base → X.calm = true → X.ex = [] → Room 2 X.A → Gl X c → ExcOk X S c
theorem TabAt.ne {base : Heap} {mg : Str → Option Value} {T : List (Addr × Str)} {code : Value} {q : Str} (h : TabAt base mg T code q) : T ≠ [] := by
  obtain ⟨c, P, _, h1, _⟩ := h
  exact List.ne_nil_of_mem h1
/-- a def, as it stands -/
structure En where
  nm : Str
  fa : Addr
  fd : FuncData
  ps : List Str
/-- by its text -/
structure DefTx (K : PySem.W.Frag) (mg : Str → Option Value) (base : Heap) (tb : List (Addr × Str)) (fns : List (Str × Nat)) (consts : List (Str × D)) (excs : List Str) (e : En) (n len : Nat) (body : List Sm) : Prop where
  tx : ∃ (name qual : Str) (params : Arguments) (bd : List Stmt) (scope : Scope) (dV kV doc pm cdv ct oc : Value) (an od : Option Addr) (osl : Array (Option Value)) (N L gs : List Str) (lam : Bool),
    e.fd = PySem.W.fnOf name qual params bd scope dV kV doc pm an cdv ct ∧ K.lookup e.fa = some ⟨oc, od, .func (PySem.W.fnOf name qual params bd scope dV kV doc pm an cdv ct), osl⟩ ∧ PySem.W.codeIn K cdv qual = true ∧ FnScope N e.ps scope ∧
    cSs ⟨N, scope, fns, consts, excs, gs, lam⟩ L bd = some body ∧ N.length = len ∧ (lam = true → TabAt base mg tb cdv (qual ++ ".<locals>."))
  n : e.ps.length = n
def fnsOf (T : List (En × Df)) : List (Str × Nat) := T.map fun q => (q.1.nm, q.2.ar)
theorem fnIx_get : ∀ {T : List (En × Df)} {x : Str} {n i : Nat}, fnIx (fnsOf T) x n = some i → ∃ q, T[i]? = some q ∧ q.1.nm = x ∧ q.2.ar = n
  | [], _, _, _, h => by cases h
  | q :: T, x, n, i, h => by
    have h : (if x = q.1.nm then (if q.2.ar = n then some 0 else none) else (fnIx (fnsOf T) x n).map (· + 1)) = some i := h
    split at h
    · split at h
      · cases h
        exact ⟨q, rfl, Eq.symm (by assumption), by assumption⟩
      · cases h
    · obtain ⟨j, h1, rfl⟩ := mapS h
      obtain ⟨q', k1, k2⟩ := fnIx_get h1
      exact ⟨q', by simpa using k1, k2⟩
/-- the globals of the defs -/
structure DefGl (K : PySem.W.Frag) (mg : Str → Option Value) (e : En) : Prop where
  gf : mg e.nm = some (.ref e.fa)
  kf : PySem.W.keepIn K (.ref e.fa) = true
  bf : Binds K e.fd e.ps []
section
variable {P : Program} {w : World} {K : PySem.W.Frag} {mg : Str → Option Value} {base : Heap} {S : Sig} {consts : List (Str × D)} {excs : List Str} {tst : List Tst} {wd : Str → Option (Option Str)} {nW : Nat}
theorem fnG_st {k : Nat} {e : En} {n : Nat} (hn : e.ps.length = n) : FnG P w K mg base (L2.CX P w) k e.fa e.fd e.ps (spOf S n fun _ => M.stuck) :=
  ⟨fun vs H Q E ⟨xs, g, H0, a, b, _⟩ => by rw [b, hn], fun A outer s H args us vs Q E hr hgd e0 hb r h => by
    obtain ⟨xs, g, H0, _, _, _, _, _, _, _, _, h⟩ := h
    exact h.elim⟩
theorem fnG_tx {T : List (En × Df)} (B : Glb P w K mg base S consts excs) (hG : ∀ q ∈ T, DefGl K mg q.1) {f : Nat}
    (ih : ∀ i q, T[i]? = some q → FnG P w K mg base (L2.CX P w) (lv f) q.1.fa q.1.fd q.1.ps (spOf S q.2.ar (callF wd nW (T.map (·.2)) f i)))
    {e : En} {n len : Nat} {body : List Sm} (D : DefTx K mg base S.T (fnsOf T) consts excs e n len body) (hsd : S.T ≠ [] → SaidDef K mg S excs tst wd ∧ ∀ c, wd c ≠ none → c ∈ excs) :
    FnG P w K mg base (L2.CX P w) (lv f + 3) e.fa e.fd e.ps (spOf S n fun xs => (M.ofO (xs.mapM slOf)).bd fun sl => (exSs ⟨callF wd nW (T.map (·.2)) f, wd⟩ nW body (sl ++ List.replicate (len - n) .un)).bd endD) := by
  obtain ⟨⟨name, qual, params, bd, scope, dV, kV, doc, pm, cdv, ct, oc, an, od, osl, N, L, gs, lam, e1, lk, hcd, Sc, hc, hlen, htab⟩, hn⟩ := D
  refine ⟨fun vs H Q E ⟨xs, g, H0, a, b, _⟩ => by rw [b, hn], fun A outer s H args us vs Q E hr hgd e0 hb r h => ?_⟩
  obtain ⟨xs, g, H0, hxs, hvs, sub, gn, nt, gen, tabs, rv, h⟩ := h
  rw [e1] at hb
  refine LamX.run_ofS (N := N) lk hcd Sc hr e0 hb r (by rw [hvs, hn]) fun hr' => ?_
  let X : Cx := cxOf (L2.CX P w) P w K mg base N qual scope e.fa cdv A outer s H E
  let C : Cfg := ⟨N, scope, fnsOf T, consts, excs, gs, lam⟩
  have tk : Takes X (fun cls d _ H => E cls d H) := takes_of rfl rfl rfl rfl
  have G0 : Gd0 X S (fun cls d _ H => E cls d H) C ⟨callF wd nW (T.map (·.2)) f, wd⟩ :=
    { hN := rfl, hsc := rfl, hK := B.hK, nd := Sc.nd, calm := rfl, room := hr'.mono (Nat.zero_le _), guards := hgd, own := passes_of rfl, tk := tk, blt := B.blt, sys := B.sys, cst := B.cst,
      fns := fun x m i hi => by
        obtain ⟨q, k1, k2, k3⟩ := fnIx_get hi
        have dg := hG q (List.mem_of_getElem? k1)
        refine ⟨lv f, q.1.fa, q.1.fd, q.1.ps, _, ih i q k1, hr'.mono (by omega), ?_, dg.kf, dg.bf, ?_⟩
        · rw [← k2]; exact dg.gf
        · rw [← k3]; exact spOk_of }
  have G : Gd X S (fun cls d _ H => E cls d H) C ⟨callF wd nW (T.map (·.2)) f, wd⟩ := ⟨G0, fun hl => said_ok (k := lv f) G0 (hsd (htab hl).ne).1 (hsd (htab hl).ne).2 (htab hl) (fun x m i hi => by
    obtain ⟨q, k1, k2, k3⟩ := fnIx_get hi
    have dg := hG q (List.mem_of_getElem? k1)
    refine ⟨q.1.fa, q.1.fd, q.1.ps, _, ih i q k1, ?_, dg.kf, dg.bf, ?_⟩
    · rw [← k2]; exact dg.gf
    · rw [← k3]; exact spOk_of) hr'⟩
  have Gt : Gs X S (fun cls d _ H => E cls d H) C ⟨callF wd nW (T.map (·.2)) f, wd⟩ :=
    { g := G, kind := Sc.kind,
      sto := fun x i hi => ⟨slot_ix G hi, (by
        unfold Cfg.slot at hi
        split at hi
        · rename_i hc
          rw [Bool.and_eq_true] at hc
          exact loc_of hc.1
        · cases hi), Or.inl rfl⟩,
      exc := fun c hc hg => B.exc c hc X rfl rfl rfl rfl rfl rfl rfl (hr'.mono (by unfold lv; omega)) (gl_of (sc := scope) rfl hg) }
  refine ⟨_, ss_of (N := nW) Gt hc, ?_⟩
  dsimp only at h
  rw [M.ofO_bd] at h
  cases e2 : xs.mapM slOf with
  | none => rw [e2] at h; exact h.elim
  | some sl =>
    rw [e2] at h
    have hN : n ≤ N.length := by
      have := congrArg List.length Sc.pre
      rw [List.length_take] at this
      omega
    have R := rl_start (Nn := N) (n := n) sub gn nt gen tabs rv e2 hvs hN
    rw [hlen] at R
    refine ⟨_, g, H, H0, H0, R, ?_⟩
    have h : Pst S (fun c d _ H => E c d H) [] H0 H (relR S) Q (((exSs ⟨callF wd nW (T.map (·.2)) f, wd⟩ nW body (sl ++ List.replicate (len - n) .un)).bd endD) g) := h
    unfold M.bd at h
    cases e3 : exSs ⟨callF wd nW (T.map (·.2)) f, wd⟩ nW body (sl ++ List.replicate (len - n) .un) g with
    | st => rw [e3] at h; exact h.elim
    | er c d g' => rw [e3] at h; exact fun dx v σ H0' H' a q1 q2 => h dx v H0' H' a q1 q2
    | ok x g' =>
      rw [e3] at h
      cases x with
      | nx e' => exact fun σ' H0' H' R' _ => h .non H0' H' (R'.aft (Aft.refl R')) .non
      | rt d => exact fun v H0' H' a r => h v H0' H' a r
      | bk e' => exact h.elim
      | ct e' => exact h.elim
/-- every def keeps what is told of it -/
theorem fn_all {T : List (En × Df)} (B : Glb P w K mg base S consts excs) (hG : ∀ q ∈ T, DefGl K mg q.1)
    (hn : ∀ q ∈ T, q.1.ps.length = q.2.ar)
    (htx : ∀ q ∈ T, ∀ n len body, q.2 = .tx n len body → DefTx K mg base S.T (fnsOf T) consts excs q.1 n len body) (hsd : S.T ≠ [] → SaidDef K mg S excs tst wd ∧ ∀ c, wd c ≠ none → c ∈ excs)
    (hsp : ∀ q ∈ T, ∀ n m, q.2 = .sp n m → ∀ f, FnG P w K mg base (L2.CX P w) (lv f + 3) q.1.fa q.1.fd q.1.ps (spOf S n m)) :
    ∀ f i q, T[i]? = some q → FnG P w K mg base (L2.CX P w) (lv f) q.1.fa q.1.fd q.1.ps (spOf S q.2.ar (callF wd nW (T.map (·.2)) f i)) := by
  intro f
  induction f with
  | zero => exact fun i q hq => fnG_st (hn q (List.mem_of_getElem? hq))
  | succ f ih =>
    intro i q hq
    have hm := List.mem_of_getElem? hq
    have e0 : (T.map (·.2))[i]? = some q.2 := by rw [List.getElem?_map, hq]; rfl
    have e1 : callF wd nW (T.map (·.2)) (f + 1) i = fun xs => match (T.map (·.2))[i]? with
      | some (.tx n len body) => (M.ofO (xs.mapM slOf)).bd fun sl => (exSs ⟨callF wd nW (T.map (·.2)) f, wd⟩ nW body (sl ++ List.replicate (len - n) .un)).bd endD
      | some (.sp _ m) => m xs
      | none => .stuck := rfl
    rw [e1, e0]
    cases e2 : q.2 with
    | tx n len body => exact fnG_tx B hG ih (htx q hm n len body e2) hsd
    | sp n m => exact hsp q hm n m e2 f
end
end PD
set_option Elab.async false
set_option linter.all false
set_option maxRecDepth 100000
set_option autoImplicit false
set_option maxHeartbeats 1000000
namespace PD
open PySem PySem.Spec L2

/-! ### a law's def -/
def gDict (g : Gen) : D := .dict [(.str "great", .list (g.great.map .int)), (.str "seed", .int g.seed), (.str "turns", .int g.turns)]
def Sig.on (S : Sig) (gm : Option Addr) : Sig := { S with gm := gm }
/-- what is known, the tables left out -/
def knownH (H : Hp) : Hp := fun b => match H b with
  | some (.tbl _) => none
  | o => o
theorem known_sub {H : Hp} : Same (knownH H) H := fun b u e => by
  unfold knownH at e
  split at e
  · cases e
  · exact e
theorem known_at {H : Hp} {b : Addr} {u : HO} (e : H b = some u) (n : ∀ ps, u ≠ .tbl ps) : knownH H b = some u := by
  unfold knownH
  split
  · rename_i ps h
    rw [h] at e
    exact absurd (Option.some.inj e).symm (n ps)
  · exact e
theorem known_sq {K : PySem.W.Frag} {H : Hp} {a : Addr} {xs : List V} (h : SqL K H a xs) : SqL K (knownH H) a xs := by
  rcases h with (h | ⟨o, h⟩) | h
  · exact .inl (.inl (known_at h (fun ps z => by cases z)))
  · exact .inl (.inr ⟨o, known_at h (fun ps z => by cases z)⟩)
  · exact .inr h
def offH (H : Hp) (p : Addr) : Hp := fun b => if b = p then none else H b
theorem offH_ne {H : Hp} {p b : Addr} (h : b ≠ p) : offH H p b = H b := if_neg h
theorem offH_sub {H : Hp} {p : Addr} : Same (offH H p) H := fun b u e => by
  unfold offH at e
  split at e
  · cases e
  · exact e
theorem ints_inv {K : PySem.W.Frag} {H : Hp} : ∀ {vs : List V} {ns : List Int}, DrAll K H vs (ns.map PyData.int) → vs = ns.map V.int
  | [], [], _ => rfl
  | [], n :: ns, h => by cases h
  | v :: vs, [], h => by cases h
  | v :: vs, n :: ns, h => by
    cases h with
    | cons h1 h2 =>
      cases h1
      rw [ints_inv h2]; rfl
theorem keyD_str {k : Key} {x : Str} (h : keyD k = .str x) : k = .inr x := by
  cases k with
  | inl i => cases h
  | inr y => cases h; rfl
/-- from data to the drawing's dict -/
theorem Rl.toG {S : Sig} {env : Env} {g gg : Gen} {σ : L2.St} {He H0e H0 H : Hp} {i : Nat} (R : Rl (S.on none) env g σ He H0e H0 H) (hi : env[i]? = some (.fz (gDict gg)))
    (hn : ∀ j s, env[j]? = some s → j ≠ i → s = .un ∨ ∃ ns, s = .sc ns) : ∃ gm H0', Rl (S.on (some gm)) (env.set i .gn) gg σ H H0' H0' H := by
  obtain ⟨o, h1, v, rfl, h2⟩ := R.slots i _ hi
  have h2 : Dr S.K H0 v (gDict gg) := h2
  generalize hd : gDict gg = dd at h2
  cases h2 with
  | @dct gm kvs ds k1 k2 =>
    have hd : [(PyData.str "great", PyData.list (gg.great.map .int)), (.str "seed", .int gg.seed), (.str "turns", .int gg.turns)] = (kvs.map fun q => keyD q.1).zip ds := by
      have := hd
      unfold gDict at this
      injection this
    have hl := k2.length
    rw [List.length_map] at hl
    match kvs, ds, hl, k1, k2, hd with
    | [p1, p2, p3], [d1, d2, d3], _, k1, k2, hd =>
      simp only [List.map_cons, List.map_nil, List.zip_cons_cons, List.zip_nil_right, List.cons.injEq, Prod.mk.injEq, and_true] at hd
      obtain ⟨⟨e1, rfl⟩, ⟨e2, rfl⟩, e3, rfl⟩ := hd
      obtain ⟨p1a, p1b⟩ := p1
      obtain ⟨p2a, p2b⟩ := p2
      obtain ⟨p3a, p3b⟩ := p3
      obtain rfl := keyD_str e1.symm
      obtain rfl := keyD_str e2.symm
      obtain rfl := keyD_str e3.symm
      cases k2 with
      | cons m1 k2 =>
        cases k2 with
        | cons m2 k2 =>
          cases k2 with
          | cons m3 _ =>
            obtain ⟨gl, xs, e4, e5, e6⟩ := Dr.lst_inv m1
            have e4 : p1b = .ref gl := e4
            subst e4
            obtain rfl : p2b = V.int gg.seed := Dr.int_inv m2
            obtain rfl : p3b = V.int gg.turns := Dr.int_inv m3
            have e7 := ints_inv e6
            subst e7
            have ne : ∀ {b u}, H0 b = some u → (∀ l, u ≠ .dK l) → b ≠ gm := fun {b u} q n z => by
              rw [z, k1] at q
              exact n _ (Option.some.inj q).symm
            have hi2 : i < env.length := (List.getElem?_eq_some_iff.mp hi).1
            refine ⟨gm, offH H0 gm, ⟨Stp.refl _ _ _, offH_sub.trans R.sub, fun p hp => ?_, fun p hp => ?_, R.tabs, fun a ps e => R.ntbl a ps (offH_sub _ _ e), fun j s e => ?_, fun j k a hne q1 q2 q3 => ?_⟩⟩
            · cases hp
              refine ⟨gl, R.sub _ _ k1, ?_⟩
              rw [offH_ne (ne e5 (fun l z => by cases z))]
              exact e5
            · cases hp
              exact if_pos rfl
            · by_cases hj : j = i
              · subst hj
                rw [List.getElem?_set_self hi2] at e
                cases e
                exact ⟨_, h1, gm, rfl, rfl⟩
              · rw [List.getElem?_set_ne (Ne.symm hj)] at e
                obtain ⟨o, l1, l2⟩ := R.slots j s e
                refine ⟨o, l1, ?_⟩
                rcases hn j s e hj with rfl | ⟨ns, rfl⟩
                · trivial
                · obtain ⟨a, m1, m2⟩ := l2
                  refine ⟨a, m1, ?_⟩
                  rcases m2 with (m2 | ⟨o', m2⟩) | m2
                  · exact .inl (.inl (by rw [offH_ne (ne m2 (fun l z => by cases z))]; exact m2))
                  · exact .inl (.inr ⟨o', by rw [offH_ne (ne m2 (fun l z => by cases z))]; exact m2⟩)
                  · exact .inr m2
            · obtain ⟨ds, q1⟩ := q1
              by_cases hj : j = i
              · subst hj
                rw [List.getElem?_set_self hi2] at q1; cases q1
              · rw [List.getElem?_set_ne (Ne.symm hj)] at q1
                rcases hn j _ q1 hj with z | ⟨ns, z⟩ <;> cases z
    | [], [], _, _, _, hd => simp at hd
    | [_], [_], _, _, _, hd => simp at hd
    | [_, _], [_, _], _, _, _, hd => simp at hd
    | _ :: _ :: _ :: _ :: _, _ :: _ :: _ :: _ :: _, _, _, _, hd => simp at hd
  | _ => unfold gDict at hd; cases hd
/-- what a law's def is asked, and tells -/
def spLaw (K : PySem.W.Frag) (T : List (Addr × Str)) (P : List Int → Prop) : Sp := fun vs H Q _ => ∃ a ns, vs = [.ref a] ∧ SqL K H a (ns.map V.int) ∧ P ns ∧ LamX.Tabs T H ∧ ∀ H', Q (.bl true) H'
/-- the law's text: its first statement, the rest -/
structure LawTx (K : PySem.W.Frag) (mg : Str → Option Value) (base : Heap) (tb : List (Addr × Str)) (fns : List (Str × Nat)) (consts : List (Str × D)) (excs : List Str) (e : En) (len : Nat) (b0 : Sm) (b1 : List Sm) : Prop where
  tx : ∃ (name qual : Str) (params : Arguments) (s0 : Stmt) (s1 : List Stmt) (scope : Scope) (dV kV doc pm cdv ct oc : Value) (an od : Option Addr) (osl : Array (Option Value)) (N L gs : List Str) (lam : Bool),
    e.fd = PySem.W.fnOf name qual params (s0 :: s1) scope dV kV doc pm an cdv ct ∧ K.lookup e.fa = some ⟨oc, od, .func (PySem.W.fnOf name qual params (s0 :: s1) scope dV kV doc pm an cdv ct), osl⟩ ∧ PySem.W.codeIn K cdv qual = true ∧ FnScope N e.ps scope ∧
    cS ⟨N, scope, fns, consts, excs, gs, lam⟩ L s0 = some b0 ∧ cSs ⟨N, scope, fns, consts, excs, gs, lam⟩ L s1 = some b1 ∧ N.length = len ∧ (lam = true → TabAt base mg tb cdv (qual ++ ".<locals>."))
  n : e.ps.length = 1
end PD
set_option Elab.async false
set_option linter.all false
set_option maxRecDepth 100000
set_option autoImplicit false
set_option maxHeartbeats 1000000
namespace PD
open PySem PySem.Spec L2

def lawEnv (len : Nat) (ns : List Int) : Env := .sc ns :: List.replicate (len - 1) .un
section
variable {P : Program} {w : World} {K : PySem.W.Frag} {mg : Str → Option Value} {base : Heap} {S : Sig} {consts : List (Str × D)} {excs : List Str} {tst : List Tst} {wd : Str → Option (Option Str)} {nW : Nat}
theorem fnG_law {T : List (En × Df)} (B : ∀ gm, Glb P w K mg base (S.on gm) consts excs) (hG : ∀ q ∈ T, DefGl K mg q.1) {f : Nat}
    (ih : ∀ gm i q, T[i]? = some q → FnG P w K mg base (L2.CX P w) (lv f) q.1.fa q.1.fd q.1.ps (spOf (S.on gm) q.2.ar (callF wd nW (T.map (·.2)) f i)))
    {e : En} {len mi : Nat} {c0 : Sm} {cb : List Sm} (D : LawTx K mg base S.T (fnsOf T) consts excs e len c0 cb) (hsd : S.T ≠ [] → SaidDef K mg S excs tst wd ∧ ∀ c, wd c ≠ none → c ∈ excs) {Pn : List Int → Prop} (h0 : 0 < mi) (hmi : mi < len)
    (pure : ∀ ns, Pn ns → ∀ g, ∃ gg g' g2, exS ⟨callF wd nW (T.map (·.2)) f, wd⟩ nW c0 (lawEnv len ns) g = .ok (.nx ((lawEnv len ns).set mi (.fz (gDict gg)))) g' ∧
      exSs ⟨callF wd nW (T.map (·.2)) f, wd⟩ nW cb ((lawEnv len ns).set mi .gn) gg = .ok (.rt (.bool true)) g2) :
    FnG P w K mg base (L2.CX P w) (lv f + 3) e.fa e.fd e.ps (spLaw K S.T Pn) := by
  obtain ⟨⟨name, qual, params, s0, s1, scope, dV, kV, doc, pm, cdv, ct, oc, an, od, osl, N, L, gs, lam, e1, lk, hcd, Sc, hc0, hc1, hlen, htab⟩, hn⟩ := D
  refine ⟨fun vs H Q E ⟨a, ns, b, _⟩ => by rw [b, hn]; rfl, fun A outer s H args us vs Q E hr hgd e0 hb r h => ?_⟩
  obtain ⟨a, ns, rfl, sq, hP, tabs, hQ⟩ := h
  rw [e1] at hb
  refine LamX.run_ofS (N := N) lk hcd Sc hr e0 hb r (by rw [hn]; rfl) fun hr' => ?_
  let X : Cx := cxOf (L2.CX P w) P w K mg base N qual scope e.fa cdv A outer s H E
  let C : Cfg := ⟨N, scope, fnsOf T, consts, excs, gs, lam⟩
  have tk : Takes X (fun cls d _ H => E cls d H) := takes_of rfl rfl rfl rfl
  have hK : K = S.K := (B none).hK
  have G : ∀ gm, Gs X (S.on gm) (fun cls d _ H => E cls d H) C ⟨callF wd nW (T.map (·.2)) f, wd⟩ := fun gm =>
    have g0 : Gd0 X (S.on gm) (fun cls d _ H => E cls d H) C ⟨callF wd nW (T.map (·.2)) f, wd⟩ :=
      { hN := rfl, hsc := rfl, hK := hK, nd := Sc.nd, calm := rfl, room := hr'.mono (Nat.zero_le _), guards := hgd, own := passes_of rfl, tk := tk, blt := (B none).blt, sys := (B none).sys, cst := (B none).cst,
        fns := fun x m i hi => by
          obtain ⟨q, k1, k2, k3⟩ := fnIx_get hi
          have dg := hG q (List.mem_of_getElem? k1)
          refine ⟨lv f, q.1.fa, q.1.fd, q.1.ps, _, ih gm i q k1, hr'.mono (by omega), ?_, dg.kf, dg.bf, ?_⟩
          · rw [← k2]; exact dg.gf
          · rw [← k3]; exact spOk_of }
    have sd : SaidDef K mg S excs tst wd → SaidDef K mg (S.on gm) excs tst wd := fun h => ⟨h.df, h.cls, h.xv, h.caught, h.kit, h.attr, h.one, h.few⟩
    have g : Gd X (S.on gm) (fun cls d _ H => E cls d H) C ⟨callF wd nW (T.map (·.2)) f, wd⟩ := ⟨g0, fun hl => said_ok (k := lv f) g0 (sd (hsd (htab hl).ne).1) (hsd (htab hl).ne).2 (htab hl) (fun x m i hi => by
      obtain ⟨q, k1, k2, k3⟩ := fnIx_get hi
      have dg := hG q (List.mem_of_getElem? k1)
      refine ⟨q.1.fa, q.1.fd, q.1.ps, _, ih gm i q k1, ?_, dg.kf, dg.bf, ?_⟩
      · rw [← k2]; exact dg.gf
      · rw [← k3]; exact spOk_of) hr'⟩
    { g := g, kind := Sc.kind,
      sto := fun x i hi => ⟨slot_ix g hi, (by
        unfold Cfg.slot at hi
        split at hi
        · rename_i hc
          rw [Bool.and_eq_true] at hc
          exact loc_of hc.1
        · cases hi), Or.inl rfl⟩,
      exc := fun c hc hg => (B gm).exc c hc X rfl rfl rfl rfl rfl rfl rfl (hr'.mono (by unfold lv; omega)) (gl_of (sc := scope) rfl hg) }
  refine ⟨_, pss_cons (ss_all (N := nW) (G none) (sizeOf s0 + 1) s0 (by omega) hc0) (pss_ex fun gm => ss_of (N := nW) (G (some gm)) hc1), ?_⟩
  obtain ⟨gg, g', g2, p1, p2⟩ := pure ns hP ⟨[], 0, 0⟩
  have hN : 1 ≤ N.length := by omega
  have R0 : Rl (S.on none) (lawEnv len ns) ⟨[], 0, 0⟩ (L2.start N [.ref a]) H (knownH H) (knownH H) H := by
    have R := rl_start (S := S.on none) (g := ⟨[], 0, 0⟩) (vs := [.ref a]) (xs := [.sc ns]) (sl := [.sc ns]) (Nn := N) (n := 1) (H0 := knownH H) (H := H) known_sub (fun p z => by cases z) (fun b ps z => by
      unfold knownH at z
      split at z
      · cases z
      · rename_i h; exact h ps z) (fun p z => by cases z) tabs (.cons ⟨a, rfl, by show SqL S.K _ _ _; rw [← hK]; exact known_sq sq⟩ .nil) rfl rfl hN
    rw [hlen] at R
    exact R
  refine ⟨lawEnv len ns, ⟨[], 0, 0⟩, H, knownH H, knownH H, R0, ?_⟩
  rw [p1]
  intro σ' H0' H' R' s'
  have ml : mi < (lawEnv len ns).length := by simp [lawEnv]; omega
  obtain ⟨gm, H0n, R2⟩ := R'.toG (i := mi) (gg := gg) (List.getElem?_set_self ml) (fun j s hj hne => by
    rw [List.getElem?_set_ne (Ne.symm hne)] at hj
    cases j with
    | zero => have hj : Sl.sc ns = s := by simpa [lawEnv] using hj
              exact .inr ⟨ns, hj.symm⟩
    | succ j =>
      have hj : (List.replicate (len - 1) Sl.un)[j]? = some s := by simpa [lawEnv] using hj
      rw [List.getElem?_replicate] at hj
      split at hj
      · cases hj; exact .inl rfl
      · cases hj)
  rw [List.set_set] at R2
  refine ⟨gm, _, gg, H', H0n, H0n, R2, ?_⟩
  rw [p2]
  intro v H1 H1' a1 hv
  have hv : v = .bl true := Dr.bl_inv hv
  subst hv
  exact hQ _
end
end PD
set_option Elab.async false
set_option linter.all false
set_option maxRecDepth 100000
set_option autoImplicit false
set_option maxHeartbeats 1000000
namespace PD
open PySem PySem.Spec L2

theorem glb_of {P : Program} {w : World} {K : PySem.W.Frag} {mg : Str → Option Value} {base : Heap} {S : Sig} {consts : List (Str × D)} {excs : List (Str × Str)} (X : K.In base) (G : base.Ns mainGlobals mg) (hK : K = S.K)
    (cl : ∀ q ∈ excs, S.cl q.1 = He.ga K q.1) (at_ : ∀ q ∈ excs, S.at_ q.1 = q.2) (mb : moreB consts excs K = true) (glo : ∀ q ∈ excs, mg q.1 = some (.ref (He.ga K q.1))) (nd : ∀ q ∈ excs, (q.1 == ("__debug__" : Str)) = false)
    (blt : ∀ x ∈ bltNames, mg x = none) (sys : ∃ o, base.get? sysModules = some o) (tx : ∀ q ∈ excs, ExcTx K q.1 q.2) : Glb P w K mg base S consts (excs.map (·.1)) := by
  unfold moreB at mb
  rw [Bool.and_eq_true] at mb
  refine ⟨hK, blt, sys, fun x d h => ?_, fun c hc => ?_⟩
  · obtain ⟨u, v, h1, h2, h3, h4⟩ := constB_ok X G (List.all_eq_true.mp mb.1 _ (lookup_memD h))
    exact ⟨u, v, h1, h2, by rw [← hK]; exact h3, by rw [← hK]; exact h4⟩
  · obtain ⟨q, hq, rfl⟩ := List.mem_map.mp hc
    intro Y hP hw hYK hmg hbase hcalm hex room hgl
    have c1 := List.all_eq_true.mp mb.2 q hq
    unfold excB at c1
    simp only [Bool.and_eq_true, decide_eq_true_eq] at c1
    obtain ⟨b1, b2, b3, b4⟩ := c1
    obtain ⟨⟨x, qual, par, params, p1, p2, p3, p4, scope, fd, F, Sc, v0, v1, d1, d2, bd⟩⟩ := tx q hq
    rw [← hYK] at bd b2 b3 b4
    rw [Bool.or_eq_true, Bool.or_eq_true] at b1
    rcases b1 with b1 | b1 | b1
    · have f1 := ok_init (P := Y.prog) (w := Y.w) (mg := Y.mg) (base := Y.base) F Sc v0 v1 d1 d2
      rw [← hYK] at f1
      have T := oexB_ok b1
      rw [← hYK] at T
      exact excOk_of T b2 b3 f1 room bd b4 hgl (by rw [hmg, glo q hq, hYK]) (nd q hq) (by rw [cl q hq, hYK]) (at_ q hq)
    · have f1 := ok_initG (P := Y.prog) (w := Y.w) (mg := Y.mg) (base := Y.base) (newId := "LookupError.__new__") PySem.F.store_LookupError F Sc v0 v1 d1 d2
      rw [← hYK] at f1
      have T := oegB_ok b1
      rw [← hYK] at T
      exact excOk_ofG T PySem.F.excBase_LookupError b2 b3 f1 room bd b4 hgl (by rw [hmg, glo q hq, hYK]) (nd q hq) (by rw [cl q hq, hYK]) (at_ q hq)
    · have f1 := ok_initG (P := Y.prog) (w := Y.w) (mg := Y.mg) (base := Y.base) (newId := "OverflowError.__new__") PySem.F.store_OverflowError F Sc v0 v1 d1 d2
      rw [← hYK] at f1
      have T := oegB_ok b1
      rw [← hYK] at T
      exact excOk_ofG T PySem.F.excBase_OverflowError b2 b3 f1 room bd b4 hgl (by rw [hmg, glo q hq, hYK]) (nd q hq) (by rw [cl q hq, hYK]) (at_ q hq)
/-- a def of the table, whole -/
structure DefAll (K : PySem.W.Frag) (mg : Str → Option Value) (base : Heap) (tb : List (Addr × Str)) (fns : List (Str × Nat)) (consts : List (Str × D)) (excs : List Str) (q : En × Df) : Prop where
  gl : DefGl K mg q.1
  ar : q.1.ps.length = q.2.ar
  tx : ∀ n len body, q.2 = .tx n len body → DefTx K mg base tb fns consts excs q.1 n len body
  nosp : ∀ n m, q.2 ≠ .sp n m
section
variable {K : PySem.W.Frag} {mg : Str → Option Value} {base : Heap} {tb : List (Addr × Str)} {fns : List (Str × Nat)} {consts : List (Str × D)} {excs : List Str}
theorem tabAt_of {x qual : Str} {params : Arguments} {body : List Stmt} {scope : Scope} {f : Addr} {fd : FuncData} {dvs : List V} {kws : List (Str × V)} (F : FunD K x qual params body scope dvs kws f fd) (h : ∀ c, fd.code = .ref c → ∃ P, (P, (qual ++ ".<locals>.") ++ "<lambda>") ∈ tb ∧ (∀ p ∈ tb, p.1 = P → p.2 = (qual ++ ".<locals>.") ++ "<lambda>") ∧ LamX.TabB base mg c P) :
    ∀ (dV kV doc pm cdv ct : Value) (an : Option Addr), fd = PySem.W.fnOf x qual params body scope dV kV doc pm an cdv ct → TabAt base mg tb cdv (qual ++ ".<locals>.") := by
  intro dV kV doc pm cdv ct an e
  obtain ⟨oc, od, dV2, kV2, doc2, pm2, an2, cdv2, ct2, osl, e2, lk, hcd, _, _⟩ := F.ex
  rw [e] at e2
  have ec : cdv = cdv2 := congrArg FuncData.code e2
  obtain ⟨c, hc⟩ := He.codeIn_ref hcd
  rw [← ec] at hc
  obtain ⟨P, h1, h2, h3⟩ := h c (by rw [e]; exact hc)
  exact ⟨c, P, hc, h1, h2, h3⟩
theorem defAll_of {x : Str} {params : Arguments} {body : List Stmt} {scope : Scope} {fd : FuncData} {N ps L gs : List Str} {lam : Bool} (F : FunD K x x params body scope [] [] (He.ga K x) fd) (Sc : FnScope N ps scope) (h : (cSs ⟨N, scope, fns, consts, excs, gs, lam⟩ L body).isSome = true)
    (bd : Binds K fd ps []) (glo : mg x = some (.ref (He.ga K x))) (htab : lam = true → ∀ c, fd.code = .ref c → ∃ P, (P, (x ++ ".<locals>.") ++ "<lambda>") ∈ tb ∧ (∀ p ∈ tb, p.1 = P → p.2 = (x ++ ".<locals>.") ++ "<lambda>") ∧ LamX.TabB base mg c P) :
    DefAll K mg base tb fns consts excs (⟨x, He.ga K x, fd, ps⟩, .tx ps.length N.length ((cSs ⟨N, scope, fns, consts, excs, gs, lam⟩ L body).getD [])) := by
  refine ⟨⟨glo, F.kp, bd⟩, rfl, fun n len b e => ?_, fun n m z => by cases z⟩
  cases e
  have tt := fun hl => tabAt_of F (htab hl)
  obtain ⟨oc, od, dV, kV, doc, pm, an, cdv, ct, osl, e, lk, hcd, _, _⟩ := F.ex
  subst e
  exact ⟨⟨x, x, params, body, scope, dV, kV, doc, pm, cdv, ct, oc, an, od, osl, N, L, gs, lam, rfl, lk, hcd, Sc, opt_get h, rfl, fun hl => tt hl _ _ _ _ _ _ _ rfl⟩, rfl⟩
theorem lawTx_of {x : Str} {params : Arguments} {s0 : Stmt} {s1 : List Stmt} {scope : Scope} {f : Addr} {fd : FuncData} {N ps L gs : List Str} {lam : Bool} {c0 : Sm} (F : FunD K x x params (s0 :: s1) scope [] [] f fd) (Sc : FnScope N ps scope)
    (h0 : cS ⟨N, scope, fns, consts, excs, gs, lam⟩ L s0 = some c0) (h : (cSs ⟨N, scope, fns, consts, excs, gs, lam⟩ L s1).isSome = true) (hp : ps.length = 1)
    (htab : lam = true → ∀ c, fd.code = .ref c → ∃ P, (P, (x ++ ".<locals>.") ++ "<lambda>") ∈ tb ∧ (∀ p ∈ tb, p.1 = P → p.2 = (x ++ ".<locals>.") ++ "<lambda>") ∧ LamX.TabB base mg c P) :
    LawTx K mg base tb fns consts excs ⟨x, f, fd, ps⟩ N.length c0 ((cSs ⟨N, scope, fns, consts, excs, gs, lam⟩ L s1).getD []) := by
  have tt := fun hl => tabAt_of F (htab hl)
  obtain ⟨oc, od, dV, kV, doc, pm, an, cdv, ct, osl, e, lk, hcd, _, _⟩ := F.ex
  subst e
  exact ⟨⟨x, x, params, s0, s1, scope, dV, kV, doc, pm, cdv, ct, oc, an, od, osl, N, L, gs, lam, rfl, lk, hcd, Sc, h0, opt_get h, rfl, fun hl => tt hl _ _ _ _ _ _ _ rfl⟩, hp⟩
end
/-! ### the telling, as the head tells it -/
def wdOf (ts : List Tst) (excs : List Str) (c : Str) : Option (Option Str) := if c ∈ excs then (match ts.lookup c with
  | some (w, some _) => some (some w)
  | some (_, none) => some none
  | none => none) else none
def oneB (ts : List Tst) (excs : List Str) : Bool := excs.all fun c => match ts.filter fun q => decide (c = q.1) with
  | [q] => (match q.2.2 with
    | some _ => decide (wdOf ts excs c = some (some q.2.1))
    | none => decide (wdOf ts excs c = some none) && decide (q.2.1 = "question"))
  | _ => false
theorem one_of {ts : List Tst} {excs : List Str} (h : oneB ts excs = true) : ∀ c ∈ excs, ∀ d, ∃ r, saidOf (wdOf ts excs) c d = some r ∧ (ts.filter fun q => decide (c = q.1)).map (fun q => hitD q.2.1 q.2.2 d) = [r] := by
  intro c hc d
  have h1 := List.all_eq_true.mp h c hc
  split at h1
  · rename_i q e
    rw [e]
    split at h1
    · rename_i x e2
      have e3 := of_decide_eq_true h1
      refine ⟨.tuple [.str q.2.1, d], by unfold saidOf; rw [e3], ?_⟩
      simp [hitD, e2]
    · rename_i e2
      rw [Bool.and_eq_true] at h1
      have e3 := of_decide_eq_true h1.1
      have e4 := of_decide_eq_true h1.2
      refine ⟨.tuple [.str "question"], by unfold saidOf; rw [e3], ?_⟩
      simp [hitD, e2, e4]
  · cases h1
def atOf (excs : List (Str × Str)) (c : Str) : Str := (excs.lookup c).getD Str.empty
def saidB (excs : List (Str × Str)) (ts : List Tst) (K : PySem.W.Frag) : Bool := excs.all fun e => xvB K (He.ga K e.1) && (decide (PySem.W.exmAny K (.ref (He.ga K e.1)) [.ref (He.ga K "JobError"), .ref (He.ga K "MissError"), .ref (He.ga K "TooMany")] = some true) &&
  ts.all fun q => decide (PySem.W.kitOne K (.ref (He.ga K e.1)) (.ref (He.ga K q.1)) = some (decide (e.1 = q.1))) && (!decide (e.1 = q.1) || (match q.2.2 with
    | some x => decide (PySem.W.findIn K (.ref (He.ga K e.1)) x = some none) && decide (x = atOf excs e.1)
    | none => true)))
theorem saidDef_of {K : PySem.W.Frag} {mg : Str → Option Value} {S : Sig} {excs : List (Str × Str)} {ts : List Tst} {params : Arguments} {bg : List Stmt} {sg : Scope} {fd : FuncData} (hcl : S.cl = He.ga K) (hat : S.at_ = atOf excs) (F : FunD K "_law_said" "_law_said" params bg sg [] [] (He.ga K "_law_said") fd)
    (glo : mg "_law_said" = some (.ref (He.ga K "_law_said"))) (bd : Binds K fd ["call"] []) (Sc : FnScope ["call", "caught", "found", "e"] ["call"] sg) (hb : SaidBody ts bg) (loc : (["call", "caught", "found", "e"] : List Str).all (lk sg) = true)
    (glb : (("isinstance" : Str) :: "len" :: "JobError" :: "MissError" :: "TooMany" :: ts.map (·.1)).all (fun x => glB sg x && !dbg x) = true) (cls : ∀ x ∈ ("JobError" : Str) :: "MissError" :: "TooMany" :: ts.map (·.1), mg x = some (.ref (He.ga K x)))
    (sb : saidB excs ts K = true) (one : oneB ts (excs.map (·.1)) = true) (few : ts.length < 50) : SaidDef K mg S (excs.map (·.1)) ts (wdOf ts (excs.map (·.1))) ∧ ∀ c, wdOf ts (excs.map (·.1)) c ≠ none → c ∈ excs.map (·.1) := by
  have facts : ∀ c ∈ excs.map (·.1), ∃ e ∈ excs, e.1 = c := fun c hc => by
    obtain ⟨e, he, rfl⟩ := List.mem_map.mp hc
    exact ⟨e, he, rfl⟩
  have of : ∀ e ∈ excs, _ := fun e he => List.all_eq_true.mp sb e he
  simp only [Bool.and_eq_true, decide_eq_true_eq] at of
  refine ⟨⟨?_, ?_, ?_, ?_, ?_, ?_, one_of one, few⟩, fun c hc => ?_⟩
  · obtain ⟨oc, od, dV, kV, doc, pm, an, cdv, ct, osl, e, lk, hcd, _, _⟩ := F.ex
    subst e
    exact ⟨_, params, bg, sg, dV, kV, doc, pm, cdv, ct, oc, an, od, osl, glo, F.kp, lk, hcd, bd, Sc, hb, loc, glb⟩
  · intro x hx; rw [hcl]; exact cls x hx
  · intro c hc
    obtain ⟨e, he, rfl⟩ := facts c hc
    rw [hcl]; exact xvB_ok (of e he).1
  · intro c hc
    obtain ⟨e, he, rfl⟩ := facts c hc
    rw [hcl]; exact (of e he).2.1
  · intro c hc q hq
    obtain ⟨e, he, rfl⟩ := facts c hc
    have z := List.all_eq_true.mp (of e he).2.2 q hq
    rw [Bool.and_eq_true] at z
    rw [hcl]; exact of_decide_eq_true z.1
  · intro c hc q hq ec x hx
    obtain ⟨e, he, rfl⟩ := facts c hc
    have z := List.all_eq_true.mp (of e he).2.2 q hq
    rw [Bool.and_eq_true, Bool.or_eq_true] at z
    rcases z.2 with y | y
    · rw [decide_eq_true ec] at y; cases y
    · rw [hx] at y
      simp only [Bool.and_eq_true, decide_eq_true_eq] at y
      rw [hcl, hat]
      exact ⟨y.2, y.1⟩
  · unfold wdOf at hc
    split at hc
    · assumption
    · exact absurd rfl hc
end PD
set_option Elab.async false
set_option linter.all false
set_option maxRecDepth 100000
set_option autoImplicit false
set_option maxHeartbeats 1000000
namespace PD
open PySem PySem.Spec L2

def qn (x : Str) : Str := (x ++ ".<locals>.") ++ "<lambda>"
/-- the tables of the defs that have a lambda -/
def tabT (K : PySem.W.Frag) (tfs : List Str) : List (Addr × Str) := tfs.map fun x => ((He.cT K (x, none)).2, qn x)
def tabC (K : PySem.W.Frag) (tfs : List Str) : List (Addr × Addr) := tfs.map fun x => He.cT K (x, none)
theorem map_inj {α β : Type} {f : α → β} : ∀ {l : List α}, (l.map f).Nodup → ∀ x ∈ l, ∀ y ∈ l, f x = f y → x = y
  | [], _, x, hx, _, _, _ => by cases hx
  | a :: l, h, x, hx, y, hy, e => by
    rw [List.map_cons, List.nodup_cons] at h
    rcases List.mem_cons.mp hx with h1 | h1
    · rcases List.mem_cons.mp hy with h2 | h2
      · rw [h1, h2]
      · rw [h1] at e
        exact absurd (List.mem_map.mpr ⟨y, h2, e.symm⟩) h.1
    · rcases List.mem_cons.mp hy with h2 | h2
      · rw [h2] at e
        exact absurd (List.mem_map.mpr ⟨x, h1, e⟩) h.1
      · exact map_inj h.2 x h1 y h2 e
section
variable {K : PySem.W.Frag} {mg : Str → Option Value} {base : Heap} {tfs : List Str}
theorem tabs_of (nd : (tfs.map fun x => (He.cT K (x, none)).2).Nodup) (TB : ∀ p ∈ tabC K tfs, LamX.TabB base mg p.1 p.2) {x : Str} (hx : x ∈ tfs) {params : Arguments} {body : List Stmt} {scope : Scope} {fd : FuncData} {dvs : List V} {kws : List (Str × V)}
    (F : FunD K x x params body scope dvs kws (He.ga K x) fd) : ∀ c, fd.code = .ref c → ∃ P, (P, (x ++ ".<locals>.") ++ "<lambda>") ∈ tabT K tfs ∧ (∀ p ∈ tabT K tfs, p.1 = P → p.2 = (x ++ ".<locals>.") ++ "<lambda>") ∧ LamX.TabB base mg c P := by
  intro c hc
  obtain ⟨oc, od, dV, kV, doc, pm, an, cdv, ct, osl, e, lk, hcd, _, _⟩ := F.ex
  have ec : He.codeOf K (x, none) = c := He.codeOf_eq (p := (x, none)) lk hc
  refine ⟨(He.cT K (x, none)).2, List.mem_map.mpr ⟨x, hx, rfl⟩, fun p hp e2 => ?_, ?_⟩
  · obtain ⟨y, hy, rfl⟩ := List.mem_map.mp hp
    have := map_inj nd y hy x hx e2
    subst this
    rfl
  · have z := TB (He.cT K (x, none)) (List.mem_map.mpr ⟨x, hx, rfl⟩)
    have e3 : (He.cT K (x, none)).1 = c := ec
    rw [e3] at z
    exact z
theorem lawG_of {l : PySem.W.OpenLaw} {w : World} {CX : CXT} {k : Nat} {fa : Addr} {h : Heap} {fd : FuncData} {Pn : List Int → Prop} (inK : K.In h) (sysD : SysOk h) (empty : ∀ x ∈ tfs, h.get? (He.cT K (x, none)).2 = some tab0) (out : ∀ x ∈ tfs, K.lookup (He.cT K (x, none)).2 = none)
    (hd : ∀ x ∈ tfs, PySem.W.CodeHd h (He.cT K (x, none)).1 (He.cT K (x, none)).2) (bd : ∀ (s : Shared) (u : Value), BindsTo s fd ⟨[u], []⟩ [("script", u)]) (hP : ∀ ns : List Int, ns.length ≤ 63 → Pn ns)
    (F : ∀ base : Heap, K.In base → base.Ns mainGlobals mg → (∃ o, base.get? sysModules = some o) → (∀ p ∈ tabC K tfs, LamX.TabB base mg p.1 p.2) → FnG l.prog w K mg base CX k fa fd ["script"] (spLaw K (tabT K tfs) Pn)) : LawG l w K CX k 63 "script" mg fa h := by
  have mem : ∀ p ∈ tabC K tfs, ∃ x ∈ tfs, p = He.cT K (x, none) := fun p hp => by
    obtain ⟨x, hx, rfl⟩ := List.mem_map.mp hp
    exact ⟨x, hx, rfl⟩
  refine ⟨fd, tabC K tfs, spLaw K (tabT K tfs) Pn, fun p hp => ?_, fun p hp => ?_, fun p hp => ?_, bd, fun H a ns hl _ ht sq _ => ?_, sysD, F⟩
  · obtain ⟨x, hx, rfl⟩ := mem p hp; exact empty x hx
  · obtain ⟨x, hx, rfl⟩ := mem p hp; exact out x hx
  · obtain ⟨x, hx, rfl⟩ := mem p hp; exact hd x hx
  · refine ⟨a, ns, rfl, sq, hP ns hl, fun p hp => ?_, fun _ => rfl⟩
    obtain ⟨x, hx, rfl⟩ := List.mem_map.mp hp
    exact LamX.TabS.nil (ht _ (List.mem_map.mpr ⟨x, hx, rfl⟩))
end
end PD
set_option Elab.async false
set_option linter.all false
set_option maxRecDepth 100000
set_option autoImplicit false
set_option maxHeartbeats 1000000
namespace PD
open PySem PySem.Spec L2
section
variable {P : Program} {w : World} {K : PySem.W.Frag} {mg : Str → Option Value} {base : Heap} {S : Sig} {consts : List (Str × D)} {excs : List Str} {tst : List Tst} {wd : Str → Option (Option Str)} {nW : Nat}
/-- a law that draws nothing -/
theorem fnG_law0 {T : List (En × Df)} (hgm : S.gm = none) (B : Glb P w K mg base S consts excs) (hG : ∀ q ∈ T, DefGl K mg q.1) {f : Nat}
    (ih : ∀ i q, T[i]? = some q → FnG P w K mg base (L2.CX P w) (lv f) q.1.fa q.1.fd q.1.ps (spOf S q.2.ar (callF wd nW (T.map (·.2)) f i)))
    {e : En} {len : Nat} {body : List Sm} (D : DefTx K mg base S.T (fnsOf T) consts excs e 1 len body) (hsd : S.T ≠ [] → SaidDef K mg S excs tst wd ∧ ∀ c, wd c ≠ none → c ∈ excs) {Pn : List Int → Prop}
    (pure : ∀ ns, Pn ns → ∀ g, ∃ g2, exSs ⟨callF wd nW (T.map (·.2)) f, wd⟩ nW body (lawEnv len ns) g = .ok (.rt (.bool true)) g2) :
    FnG P w K mg base (L2.CX P w) (lv f + 3) e.fa e.fd e.ps (spLaw K S.T Pn) := by
  have F := fnG_tx B hG ih D hsd
  have conv : ∀ {vs H Q E}, spLaw K S.T Pn vs H Q E → spOf S 1 (fun xs => (M.ofO (xs.mapM slOf)).bd fun sl => (exSs ⟨callF wd nW (T.map (·.2)) f, wd⟩ nW body (sl ++ List.replicate (len - 1) .un)).bd endD) vs H Q E := by
    intro vs H Q E h
    obtain ⟨a, ns, rfl, sq, hP, tabs, hQ⟩ := h
    refine ⟨[.sc ns], ⟨[], 0, 0⟩, knownH H, rfl, rfl, known_sub, fun p z => (by rw [hgm] at z; cases z), fun b ps z => ?_, fun p z => (by rw [hgm] at z; cases z), tabs, .cons ⟨a, rfl, by rw [← B.hK]; exact known_sq sq⟩ .nil, ?_⟩
    · unfold knownH at z
      split at z
      · cases z
      · rename_i h; exact h ps z
    · obtain ⟨g2, e1⟩ := pure ns hP ⟨[], 0, 0⟩
      show Pst S _ [] (knownH H) H (relR S) Q (((exSs ⟨callF wd nW (T.map (·.2)) f, wd⟩ nW body (lawEnv len ns)).bd endD) ⟨[], 0, 0⟩)
      unfold M.bd
      rw [e1]
      intro v H1 H1' a1 hv
      have hv : v = .bl true := Dr.bl_inv hv
      subst hv
      exact hQ _
  exact ⟨fun vs H Q E h => F.len vs H Q E (conv h), fun A outer s H args us vs Q E hr hgd e0 hb r h => F.run A outer s H args us vs Q E hr hgd e0 hb r (conv h)⟩
end
end PD
set_option Elab.async false
set_option linter.all false
set_option maxRecDepth 100000
set_option autoImplicit false
set_option maxHeartbeats 1000000
namespace PD
open PySem PySem.Spec L2

/-! ### to reckon with the readings -/
def Tot {α : Type} (m : M α) (g : Gen) (Q : α → Gen → Prop) : Prop := ∃ a g', m g = .ok a g' ∧ Q a g'
section
variable {α β : Type} {m : M α} {k : α → M β} {g : Gen}
theorem Tot.bd {Q : β → Gen → Prop} (h : Tot m g fun a g' => Tot (k a) g' Q) : Tot (m.bd k) g Q := by
  obtain ⟨a, g1, e1, b, g2, e2, q⟩ := h
  exact ⟨b, g2, by unfold M.bd; rw [e1]; exact e2, q⟩
theorem Tot.pu {a : α} {Q : α → Gen → Prop} (h : Q a g) : Tot (M.pu a) g Q := ⟨a, g, rfl, h⟩
theorem Tot.mono {Q Q' : α → Gen → Prop} (h : Tot m g Q) (w : ∀ a g', Q a g' → Q' a g') : Tot m g Q' := by
  obtain ⟨a, g1, e1, q⟩ := h
  exact ⟨a, g1, e1, w _ _ q⟩
end
theorem ofO_some {α : Type} {a : α} : M.ofO (some a) = M.pu a := rfl
theorem get_fz {env : Env} {i : Nat} {d : D} (h : env[i]? = some (.fz d)) : env.get i = M.pu (.d d) := by unfold Env.get; rw [h]
theorem get_gn {env : Env} {i : Nat} (h : env[i]? = some .gn) : env.get i = M.pu .gn := by unfold Env.get; rw [h]
theorem bf_one {f : Bf} {x : D} : bfD f [.d x] = bf1 f x := by
  unfold bfD
  cases f <;> rfl
def isStr : D → Bool
  | .str _ => true
  | _ => false
theorem isi_str (x : D) : isiD ["str"] x = .bool (isStr x) := by
  cases x <;> rfl
theorem isi_tup (x : D) : isiD ["tuple"] x = .bool (isTupD x) := by
  cases x <;> rfl
def wordB (d : D) (ws : List Str) : Bool := match d with
  | .str x => decide (x ∈ ws)
  | _ => false
theorem flat_strs : ∀ ws : List Str, (ws.map PyData.str).all isFlat = true
  | [] => rfl
  | w :: ws => by simp [isFlat]
theorem inD_strs (x : Str) : ∀ ws : List Str, inD (.str x) (ws.map .str) = decide (x ∈ ws)
  | [] => by simp [inD]
  | w :: ws => by
    simp only [List.map_cons, inD, inD_strs x ws, PyData.eqv, List.mem_cons]
    by_cases h : w = x
    · subst h; simp
    · have h2 : ¬ x = w := fun z => h z.symm
      simp [h, h2]
theorem mem_strs (x : Str) (ws : List Str) : memD (.str x) (.tuple (ws.map .str)) = some (decide (x ∈ ws)) := by
  unfold memD
  simp only [flat_strs, isFlat, Bool.and_self, if_true, inD_strs]
theorem callF_tx {w : Str → Option (Option Str)} {nW : Nat} {P : List Df} {f i n len : Nat} {body : List Sm} {xs : List Vl} (h : P[i]? = some (.tx n len body)) :
    callF w nW P (f + 1) i xs = (M.ofO (xs.mapM slOf)).bd fun sl => (exSs ⟨callF w nW P f, w⟩ nW body (sl ++ List.replicate (len - n) Sl.un)).bd endD := by
  show (match P[i]? with
    | some (.tx n len body) => (M.ofO (xs.mapM slOf)).bd fun sl => (exSs ⟨callF w nW P f, w⟩ nW body (sl ++ List.replicate (len - n) Sl.un)).bd endD
    | some (.sp _ m) => m xs
    | none => .stuck) = _
  rw [h]
end PD
namespace PD
open PySem PySem.Spec L2
theorem mapB_pu {f : D → M (Option D)} {h : D → Option D} : ∀ {ds : List D}, (∀ d ∈ ds, f d = M.pu (h d)) → mapB f ds = M.pu (ds.filterMap h)
  | [], _ => rfl
  | d :: ds, H => by
    rw [mapB, H d (by simp), M.pu_bd, mapB_pu (fun x hx => H x (by simp [hx])), M.pu_bd]
    cases e : h d <;> simp [e]
theorem filterMap_some {α β : Type} (h : α → β) : ∀ ds : List α, ds.filterMap (fun d => some (h d)) = ds.map h
  | [] => rfl
  | d :: ds => by simp
theorem mapM_bools (p : D → Bool) : ∀ xs : List D, (xs.map fun d => PyData.bool (p d)).mapM boolOf = some (xs.map p)
  | [] => rfl
  | x :: xs => by
    rw [List.map_cons, List.mapM_cons, mapM_bools p xs]
    rfl
theorem all_bools (p : D → Bool) (xs : List D) : allD (.list (xs.map fun d => .bool (p d))) = some (.bool (xs.all p)) := by
  show ((xs.map fun d => PyData.bool (p d)).mapM boolOf).map (fun bs => PyData.bool (bs.all id)) = _
  rw [mapM_bools]
  simp [List.all_map]
def wordsB (lo hi : Int) (ws : List Str) (d : D) : Bool := match d with
  | .tuple xs => decide (lo ≤ xs.length ∧ xs.length ≤ hi) && xs.all fun x => wordB x ws
  | _ => false
def lcF (F : Fns) (env : Env) (tg : Tg) (t : Option E) (e : E) (w : List Nat) (d : D) : M (Option D) := M.calm ((M.ofO (setTg (wipeE env w) tg d)).bd fun env' => (evOT F t env').bd fun k =>
      if k then (ev F e env').bd fun y => (solid y).bd fun y => .pu (some y) else .pu none)
theorem ev_lc {F : Fns} {env : Env} {tg : Tg} {it : I} {t : Option E} {e : E} {w : List Nat} {ds ys : List D} (hi : evI F it env = M.pu ds) (hm : mapB (lcF F env tg t e w) ds = M.pu ys) (hl : ys.length ≤ sizeLine) : ev F (.lc tg it t e w) env = M.pu (.d (.list ys)) := by
  have h : ev F (.lc tg it t e w) env = (evI F it env).bd fun ds => (mapB (lcF F env tg t e w) ds).bd fun ys => if ys.length ≤ sizeLine then .pu (.d (.list ys)) else .stuck := by
    simp only [ev]; rfl
  rw [h, hi, M.pu_bd, hm, M.pu_bd, if_pos hl]
theorem ev_lcT {F : Fns} {env : Env} {tg : Tg} {it : I} {t : Option E} {e : E} {w : List Nat} {g : Gen} {Q : Vl → Gen → Prop} (h : Tot (evI F it env) g fun ds g1 => Tot (mapB (lcF F env tg t e w) ds) g1 fun ys g2 => ys.length ≤ sizeLine ∧ Q (.d (.list ys)) g2) : Tot (ev F (.lc tg it t e w) env) g Q := by
  have h1 : ev F (.lc tg it t e w) env = (evI F it env).bd fun ds => (mapB (lcF F env tg t e w) ds).bd fun ys => if ys.length ≤ sizeLine then .pu (.d (.list ys)) else .stuck := by
    simp only [ev]; rfl
  rw [h1]
  refine Tot.bd (h.mono fun ds g1 h2 => Tot.bd (h2.mono fun ys g2 h3 => ?_))
  rw [if_pos h3.1]
  exact Tot.pu h3.2
section
variable {F : Fns} {env : Env}
theorem evx_c (x : D) : ev F (.c x) env = .pu (.d x) := by simp only [ev]
theorem evx_v (i : Nat) : ev F (.v i) env = env.get i := by simp only [ev]
theorem evx_bin (op : Operator) (a b : E) : ev F (.bin op a b) env = (ev F a env).bd fun x => (ev F b env).bd fun y => .ofO ((binD op x y).map .d) := by simp only [ev]
theorem evx_cmp (op : CmpOp) (a b : E) : ev F (.cmp op a b) env = (ev F a env).bd fun x => (ev F b env).bd fun y => .ofO ((cmpD op x y).map fun b => .d (.bool b)) := by simp only [ev]
theorem evx_chain (op op' : CmpOp) (a b c : E) : ev F (.chain op op' a b c) env = (ev F a env).bd fun x => (ev F b env).bd fun y => (M.ofO (cmpD op x y)).bd fun k => if k then (ev F c env).bd fun z => .ofO ((cmpD op' y z).map fun b => .d (.bool b)) else .pu (.d (.bool false)) := by simp only [ev]
theorem evx_and (a b : E) : ev F (.and a b) env = (ev F a env).bd fun x => (M.ofO ((asD x).bind truD)).bd fun k => if k then ev F b env else .pu x := by simp only [ev]
theorem evx_or (a b : E) : ev F (.or a b) env = (ev F a env).bd fun x => (M.ofO ((asD x).bind truD)).bd fun k => if k then .pu x else ev F b env := by simp only [ev]
theorem evx_not (a : E) : ev F (.not a) env = (ev F a env).bd fun x => (M.ofO ((asD x).bind truD)).bd fun k => .pu (.d (.bool !k)) := by simp only [ev]
theorem evx_tup (es : List E) : ev F (.tup es) env = (evs F es env).bd fun xs => (M.ofO (xs.mapM dOf)).bd fun ds => if ds.length ≤ sizeLine then .pu (.d (.tuple ds)) else .stuck := by simp only [ev]
theorem evx_lst (es : List E) : ev F (.lst es) env = (evs F es env).bd fun xs => (M.ofO (xs.mapM dOf)).bd fun ds => if ds.length ≤ sizeLine then .pu (.d (.list ds)) else .stuck := by simp only [ev]
theorem evx_ix (a b : E) : ev F (.ix a b) env = (ev F a env).bd fun x => (ev F b env).bd fun y => .ofO ((ixD x y).map .d) := by simp only [ev]
theorem evx_sl (a : E) (lo hi : Option E) : ev F (.sl a lo hi) env = (ev F a env).bd fun x => (evO F lo env).bd fun l => (evO F hi env).bd fun h => .ofO ((slD x l h).map .d) := by simp only [ev]
theorem evx_bf (f : Bf) (es : List E) : ev F (.bf f es) env = (evs F es env).bd fun xs => .ofO ((bfD f xs).map .d) := by simp only [ev]
theorem evx_call (f : Nat) (es : List E) : ev F (.call f es) env = (evs F es env).bd fun xs => (F.call f xs).bd fun d => .pu (.d d) := by simp only [ev]
theorem evx_gix (i : Nat) (k : Str) : ev F (.gix i k) env = gxD env[i]? k := by simp only [ev]
theorem evsx_nil : evs F [] env = .pu [] := by simp only [evs]
theorem evsx_cons (e : E) (es : List E) : evs F (e :: es) env = (ev F e env).bd fun x => (evs F es env).bd fun xs => .pu (x :: xs) := by simp only [evs]
end
section
variable {F : Fns} {env : PD.Env} {n : Nat}
theorem exsx_nil : exSs F n [] env = .pu (.nx env) := by simp only [exSs]
theorem exsx_cons (s : Sm) (r : List Sm) : exSs F n (s :: r) env = (exS F n s env).bd fun x => match x with
    | .nx e => exSs F n r e
    | .rt d => .pu (.rt d)
    | .bk e => .pu (.bk e)
    | .ct e => .pu (.ct e) := by
  simp only [exSs] <;> congr 1
theorem exx_asg (t : Tg) (e : E) : exS F n (.asg t e) env = (ev F e env).bd fun x => (solid x).bd fun d => (M.ofO (setTg env t d)).bd fun env' => .pu (.nx env') := by simp only [exS]
theorem exx_par (is : List Nat) (es : List E) : exS F n (.par is es) env = (evs F es env).bd fun xs => (M.ofO (xs.mapM dOf)).bd fun ds => (M.ofO (setTgs env is ds)).bd fun env' => .pu (.nx env') := by simp only [exS]
theorem exx_ret (e : E) : exS F n (.ret e) env = (ev F e env).bd fun x => (solid x).bd fun d => .pu (.rt d) := by simp only [exS]
theorem exx_retN : exS F n .retN env = .pu (.rt .none) := by simp only [exS]
theorem exx_iff (t : E) (a b : List Sm) : exS F n (.iff t a b) env = (evT F t env).bd fun k => if k then exSs F n a env else exSs F n b env := by simp only [exS]
theorem exx_for (tg : Tg) (it : I) (body : List Sm) : exS F n (.for_ tg it body) env = (evJ F it env).bd fun ds => forB tg (exSs F n body) ds env := by simp only [exS]
theorem exx_whl (t : E) (body : List Sm) : exS F n (.whl t body) env = whB (evT F t) (exSs F n body) n env := by simp only [exS]
theorem exx_raise (c : Str) (e : E) : exS F n (.raise c e) env = (ev F e env).bd fun x => (solid x).bd fun d => M.raise c d := by simp only [exS]
theorem exx_gput (i : Nat) (k : Str) (e : E) : exS F n (.gput i k e) env = (ev F e env).bd fun x => (solid x).bd fun d => gpD env[i]? k d env := by simp only [exS]
end
theorem evx_ite {F : Fns} {env : PD.Env} (t a b : E) : ev F (.ite t a b) env = (evT F t env).bd fun k => if k then ev F a env else ev F b env := by simp only [ev]
end PD
set_option Elab.async false
set_option linter.all false
set_option maxRecDepth 100000
set_option maxHeartbeats 0
namespace Kk03
open PySem PySem.Spec L2 PD
abbrev PR : Program := PySem.Challenge.pw_frontjobs_k03_whole_standings_refused
def top (i : Nat) : Stmt := PR.main.body.getD i (.Pass ⟨0, 0, 0, 0⟩)
def inCls (s : Stmt) : Stmt := match s with
  | .ClassDef _ _ _ body _ _ _ _ _ _ _ => body.getD 0 (.Pass ⟨0, 0, 0, 0⟩)
  | s => s
def dd (x q : Str) (a : Str × Option Str) (s : Stmt) : He.DefD := ⟨a, x, q, defArgs s, defBody s, defScope s, [], []⟩
def consts : List (Str × D) := [("ACTS", .tuple [.str "group", .str "front", .str "read", .str "write", .str "raw", .str "plain", .str "hold", .str "again"]), ("STEPS", .tuple [.str "group", .str "give", .str "go", .str "wait", .str "listen", .str "take", .str "plain"]), ("SCRIPTS", .tuple [.str "fore", .str "back", .str "front", .str "behind"]), ("READING", .tuple [.str "stop", .str "fail", .str "wait"]), ("LETTING", .tuple [.str "go", .str "stop"]), ("MOST_KINDS", .int (3)), ("MOST_ACTS", .int (5)), ("MOST_STEPS", .int (6)), ("START", .tuple [.str "none", .int (0), .str "shell", .str "plain", .int (-1), .int (0), .tuple []]), ("MODES", .tuple [.str "plain", .str "raw"]), ("STATES", .tuple [.str "runs", .str "stopped", .str "ended"]), ("OWN", .int (2)), ("STATE", .int (3))]
def excs : List (Str × Str) := [("BadSetup", "place"), ("BadStanding", "place"), ("BadPlay", "place"), ("BadRow", "place"), ("BadPaper", "place"), ("BadLog", "place"), ("BadText", "place"), ("BadEvent", "event"), ("BadWrong", "wrong"), ("BadQuestion", "text"), ("TooMany", "most"), ("Missing", "number")]
def fn : List He.DefD := [dd "is_word" "is_word" ("is_word", none) (top 24),
  dd "is_tuple" "is_tuple" ("is_tuple", none) (top 25),
  dd "is_kind" "is_kind" ("is_kind", none) (top 26),
  dd "is_script" "is_script" ("is_script", none) (top 27),
  dd "are_rules" "are_rules" ("are_rules", none) (top 28),
  dd "kinds_fault" "kinds_fault" ("kinds_fault", none) (top 29),
  dd "shell_fault" "shell_fault" ("shell_fault", none) (top 30),
  dd "setup_fault" "setup_fault" ("setup_fault", none) (top 31),
  dd "need_setup" "need_setup" ("need_setup", none) (top 32),
  dd "is_whole" "is_whole" ("is_whole", none) (top 39),
  dd "is_below" "is_below" ("is_below", none) (top 40),
  dd "is_notice" "is_notice" ("is_notice", none) (top 41),
  dd "is_job" "is_job" ("is_job", none) (top 42),
  dd "are_jobs" "are_jobs" ("are_jobs", none) (top 43),
  dd "find_job" "find_job" ("find_job", none) (top 44),
  dd "place_bound" "place_bound" ("place_bound", none) (top 45),
  dd "may_be_front" "may_be_front" ("may_be_front", none) (top 46),
  dd "is_front" "is_front" ("is_front", none) (top 47),
  dd "is_hand" "is_hand" ("is_hand", none) (top 48),
  dd "standing_fault" "standing_fault" ("standing_fault", none) (top 49),
  dd "is_standing" "is_standing" ("is_standing", none) (top 50),
  dd "need_standing" "need_standing" ("need_standing", none) (top 51),
  dd "_law_begun" "_law_begun" ("_law_begun", none) (top 53),
  dd "_law_draw" "_law_draw" ("_law_draw", none) (top 54),
  dd "_law_of" "_law_of" ("_law_of", none) (top 55),
  dd "_law_some" "_law_some" ("_law_some", none) (top 56),
  dd "_law_setup" "_law_setup" ("_law_setup", none) (top 57),
  dd "_law_script" "_law_script" ("_law_script", none) (top 58),
  dd "_law_said" "_law_said" ("_law_said", none) (top 59),
  dd "_law_state" "_law_state" ("_law_state", none) (top 60),
  dd "_law_is_whole" "_law_is_whole" ("_law_is_whole", none) (top 61),
  dd "_law_is_word" "_law_is_word" ("_law_is_word", none) (top 62),
  dd "_law_is_job" "_law_is_job" ("_law_is_job", none) (top 63),
  dd "_law_are_jobs" "_law_are_jobs" ("_law_are_jobs", none) (top 64),
  dd "_law_fault" "_law_fault" ("_law_fault", none) (top 65),
  dd "_law_right" "_law_right" ("_law_right", none) (top 66),
  dd "_law_odd" "_law_odd" ("_law_odd", none) (top 67),
  dd "_law_bent" "_law_bent" ("_law_bent", none) (top 68),
  dd "law" "law" ("law", none) (top 69),
  dd "__init__" "BadSetup.__init__" ("BadSetup", some "__init__") (inCls (top 2)),
  dd "__init__" "BadStanding.__init__" ("BadStanding", some "__init__") (inCls (top 3)),
  dd "__init__" "BadPlay.__init__" ("BadPlay", some "__init__") (inCls (top 4)),
  dd "__init__" "BadRow.__init__" ("BadRow", some "__init__") (inCls (top 5)),
  dd "__init__" "BadPaper.__init__" ("BadPaper", some "__init__") (inCls (top 6)),
  dd "__init__" "BadLog.__init__" ("BadLog", some "__init__") (inCls (top 7)),
  dd "__init__" "BadText.__init__" ("BadText", some "__init__") (inCls (top 8)),
  dd "__init__" "BadEvent.__init__" ("BadEvent", some "__init__") (inCls (top 9)),
  dd "__init__" "BadWrong.__init__" ("BadWrong", some "__init__") (inCls (top 10)),
  dd "__init__" "BadQuestion.__init__" ("BadQuestion", some "__init__") (inCls (top 11)),
  dd "__init__" "TooMany.__init__" ("TooMany", some "__init__") (inCls (top 12)),
  dd "__init__" "Missing.__init__" ("Missing", some "__init__") (inCls (top 14))]
def fa : List He.Fa := [.glo "JobError", .glo "MissError", .glo "is_word", .glo "is_tuple", .glo "is_kind", .glo "is_script", .glo "are_rules", .glo "kinds_fault", .glo "shell_fault", .glo "setup_fault", .glo "need_setup", .glo "is_whole", .glo "is_below", .glo "is_notice", .glo "is_job", .glo "are_jobs", .glo "find_job", .glo "place_bound", .glo "may_be_front", .glo "is_front", .glo "is_hand", .glo "standing_fault", .glo "is_standing", .glo "need_standing", .glo "_law_begun", .glo "_law_draw", .glo "_law_of", .glo "_law_some", .glo "_law_setup", .glo "_law_script", .glo "_law_said", .glo "_law_state", .glo "_law_is_whole", .glo "_law_is_word", .glo "_law_is_job", .glo "_law_are_jobs", .glo "_law_fault", .glo "_law_right", .glo "_law_odd", .glo "_law_bent", .glo "law", .glo "BadSetup", .glo "BadStanding", .glo "BadPlay", .glo "BadRow", .glo "BadPaper", .glo "BadLog", .glo "BadText", .glo "BadEvent", .glo "BadWrong", .glo "BadQuestion", .glo "TooMany", .glo "Missing", .free "len", .free "tuple", .free "list", .free "repr", .free "int", .free "all", .free "min", .free "range", .free "enumerate", .free "isinstance", .free "str", .free "bool", .free "sorted", .free "set"]
def loose0 : List Str := ["JobError", "BadSetup", "BadStanding", "BadPlay", "BadRow", "BadPaper", "BadLog", "BadText", "BadEvent", "BadWrong", "BadQuestion", "TooMany", "MissError", "Missing", "ACTS", "STEPS", "SCRIPTS", "READING", "LETTING", "MOST_KINDS", "MOST_ACTS", "MOST_STEPS", "is_word", "is_tuple", "is_kind", "is_script", "are_rules", "kinds_fault", "shell_fault", "setup_fault"]
def loose1 : List Str := ["need_setup", "START", "MODES", "STATES", "OWN", "STATE", "is_whole", "is_below", "is_notice", "is_job", "are_jobs", "find_job", "place_bound", "may_be_front", "is_front", "is_hand", "standing_fault", "is_standing", "need_standing", "_law_begun", "_law_draw", "_law_of", "_law_some", "_law_setup", "_law_script", "_law_said", "_law_state", "_law_is_whole", "_law_is_word", "_law_is_job"]
def loose2 : List Str := ["_law_are_jobs", "_law_fault", "_law_right", "_law_odd", "_law_bent"]
def loose : List Str := loose0 ++ loose1 ++ loose2
def lawI : Nat := 69
def fns : List (Str × Nat) := [(("is_word" : Str), 2), (("is_tuple" : Str), 3), (("is_kind" : Str), 1), (("is_script" : Str), 1), (("are_rules" : Str), 1), (("kinds_fault" : Str), 1), (("shell_fault" : Str), 1), (("setup_fault" : Str), 1), (("need_setup" : Str), 1), (("is_whole" : Str), 1), (("is_below" : Str), 2), (("is_notice" : Str), 2), (("is_job" : Str), 2), (("are_jobs" : Str), 3), (("find_job" : Str), 2), (("place_bound" : Str), 2), (("may_be_front" : Str), 1), (("is_front" : Str), 2), (("is_hand" : Str), 3), (("standing_fault" : Str), 2), (("is_standing" : Str), 2), (("need_standing" : Str), 2), (("_law_begun" : Str), 1), (("_law_draw" : Str), 2), (("_law_of" : Str), 2), (("_law_some" : Str), 4), (("_law_setup" : Str), 4), (("_law_script" : Str), 2), (("_law_state" : Str), 2), (("_law_is_whole" : Str), 3), (("_law_is_word" : Str), 2), (("_law_is_job" : Str), 2), (("_law_are_jobs" : Str), 3), (("_law_fault" : Str), 2), (("_law_right" : Str), 2), (("_law_odd" : Str), 1), (("_law_bent" : Str), 2)]
def excN : List Str := excs.map (·.1)
def c_is_word : Cfg := ⟨["thing", "words"], defScope (top 24), fns, consts, excN, [], false⟩
def b_is_word : List Sm := (cSs c_is_word [] (defBody (top 24))).getD []
def c_is_tuple : Cfg := ⟨["thing", "least", "most"], defScope (top 25), fns, consts, excN, [], false⟩
def b_is_tuple : List Sm := (cSs c_is_tuple [] (defBody (top 25))).getD []
def c_is_kind : Cfg := ⟨["thing", "act"], defScope (top 26), fns, consts, excN, [], false⟩
def b_is_kind : List Sm := (cSs c_is_kind [] (defBody (top 26))).getD []
def c_is_script : Cfg := ⟨["thing", "step"], defScope (top 27), fns, consts, excN, [], false⟩
def b_is_script : List Sm := (cSs c_is_script [] (defBody (top 27))).getD []
def c_are_rules : Cfg := ⟨["thing", "reads", "writes", "takes"], defScope (top 28), fns, consts, excN, [], false⟩
def b_are_rules : List Sm := (cSs c_are_rules [] (defBody (top 28))).getD []
def c_kinds_fault : Cfg := ⟨["thing", "number", "kind"], defScope (top 29), fns, consts, excN, [], false⟩
def b_kinds_fault : List Sm := (cSs c_kinds_fault [] (defBody (top 29))).getD []
def c_shell_fault : Cfg := ⟨["thing", "number", "script"], defScope (top 30), fns, consts, excN, [], false⟩
def b_shell_fault : List Sm := (cSs c_shell_fault [] (defBody (top 30))).getD []
def c_setup_fault : Cfg := ⟨["thing", "fault", "kinds", "rules", "shell"], defScope (top 31), fns, consts, excN, [], false⟩
def b_setup_fault : List Sm := (cSs c_setup_fault [] (defBody (top 31))).getD []
def c_need_setup : Cfg := ⟨["thing", "place"], defScope (top 32), fns, consts, excN, [], false⟩
def b_need_setup : List Sm := (cSs c_need_setup [] (defBody (top 32))).getD []
def c_is_whole : Cfg := ⟨["thing"], defScope (top 39), fns, consts, excN, [], false⟩
def b_is_whole : List Sm := (cSs c_is_whole [] (defBody (top 39))).getD []
def c_is_below : Cfg := ⟨["thing", "bound"], defScope (top 40), fns, consts, excN, [], false⟩
def b_is_below : List Sm := (cSs c_is_below [] (defBody (top 40))).getD []
def c_is_notice : Cfg := ⟨["state", "thing"], defScope (top 41), fns, consts, excN, [], false⟩
def b_is_notice : List Sm := (cSs c_is_notice [] (defBody (top 41))).getD []
def c_is_job : Cfg := ⟨["setup", "thing", "kinds", "kind", "place", "own", "state", "notice", "held"], defScope (top 42), fns, consts, excN, [], false⟩
def b_is_job : List Sm := (cSs c_is_job [] (defBody (top 42))).getD []
def c_are_jobs : Cfg := ⟨["setup", "made", "thing", "least", "pair", "number", "job"], defScope (top 43), fns, consts, excN, [], false⟩
def b_are_jobs : List Sm := (cSs c_are_jobs [] (defBody (top 43))).getD []
def c_find_job : Cfg := ⟨["jobs", "thing", "number", "job"], defScope (top 44), fns, consts, excN, [], false⟩
def b_find_job : List Sm := (cSs c_find_job [] (defBody (top 44))).getD []
def c_place_bound : Cfg := ⟨["setup", "script"], defScope (top 45), fns, consts, excN, [], false⟩
def b_place_bound : List Sm := (cSs c_place_bound [] (defBody (top 45))).getD []
def c_may_be_front : Cfg := ⟨["job"], defScope (top 46), fns, consts, excN, [], false⟩
def b_may_be_front : List Sm := (cSs c_may_be_front [] (defBody (top 46))).getD []
def c_is_front : Cfg := ⟨["jobs", "thing", "job"], defScope (top 47), fns, consts, excN, [], false⟩
def b_is_front : List Sm := (cSs c_is_front [] (defBody (top 47))).getD []
def c_is_hand : Cfg := ⟨["script", "jobs", "thing"], defScope (top 48), fns, consts, excN, [], false⟩
def b_is_hand : List Sm := (cSs c_is_hand [] (defBody (top 48))).getD []
def c_standing_fault : Cfg := ⟨["setup", "thing", "script", "place", "front", "mode", "hand", "made", "jobs"], defScope (top 49), fns, consts, excN, [], false⟩
def b_standing_fault : List Sm := (cSs c_standing_fault [] (defBody (top 49))).getD []
def c_is_standing : Cfg := ⟨["setup", "thing"], defScope (top 50), fns, consts, excN, [], false⟩
def b_is_standing : List Sm := (cSs c_is_standing [] (defBody (top 50))).getD []
def c_need_standing : Cfg := ⟨["setup", "thing", "place"], defScope (top 51), fns, consts, excN, [], false⟩
def b_need_standing : List Sm := (cSs c_need_standing [] (defBody (top 51))).getD []
def c__law_begun : Cfg := ⟨["script", "seed", "cell"], defScope (top 53), fns, consts, excN, [], false⟩
def b__law_begun : List Sm := (cSs c__law_begun [] (defBody (top 53))).getD []
def c__law_draw : Cfg := ⟨["m", "limit", "mixed", "cell"], defScope (top 54), fns, consts, excN, ["m"], false⟩
def b__law_draw : List Sm := (cSs c__law_draw [] (defBody (top 54))).getD []
def c__law_of : Cfg := ⟨["m", "some"], defScope (top 55), fns, consts, excN, [], false⟩
def b__law_of : List Sm := (cSs c__law_of [] (defBody (top 55))).getD []
def c__law_some : Cfg := ⟨["m", "words", "least", "most", "k"], defScope (top 56), fns, consts, excN, [], false⟩
def b__law_some : List Sm := (cSs c__law_some [] (defBody (top 56))).getD []
def c__law_setup : Cfg := ⟨["m", "kinds", "acts", "steps", "doing", "some", "rules", "k"], defScope (top 57), fns, consts, excN, [], false⟩
def b__law_setup : List Sm := (cSs c__law_setup [] (defBody (top 57))).getD []
def c__law_script : Cfg := ⟨["setup", "word"], defScope (top 58), fns, consts, excN, [], false⟩
def b__law_script : List Sm := (cSs c__law_script [] (defBody (top 58))).getD []
def c__law_state : Cfg := ⟨["m", "setup", "j", "word", "place", "fronts", "hand", "jobs", "made", "kind", "state", "notice", "job", "own", "held", "one"], defScope (top 60), fns, consts, excN, [], false⟩
def b__law_state : List Sm := (cSs c__law_state [] (defBody (top 60))).getD []
def c__law_is_whole : Cfg := ⟨["thing", "least", "most"], defScope (top 61), fns, consts, excN, [], false⟩
def b__law_is_whole : List Sm := (cSs c__law_is_whole [] (defBody (top 61))).getD []
def c__law_is_word : Cfg := ⟨["thing", "words"], defScope (top 62), fns, consts, excN, [], false⟩
def b__law_is_word : List Sm := (cSs c__law_is_word [] (defBody (top 62))).getD []
def c__law_is_job : Cfg := ⟨["setup", "thing"], defScope (top 63), fns, consts, excN, [], false⟩
def b__law_is_job : List Sm := (cSs c__law_is_job [] (defBody (top 63))).getD []
def c__law_are_jobs : Cfg := ⟨["setup", "made", "thing", "pair", "numbers"], defScope (top 64), fns, consts, excN, [], false⟩
def b__law_are_jobs : List Sm := (cSs c__law_are_jobs [] (defBody (top 64))).getD []
def c__law_fault : Cfg := ⟨["setup", "thing", "fit", "numbers", "word", "place", "front", "mode", "hand", "made", "jobs", "j", "job"], defScope (top 65), fns, consts, excN, [], false⟩
def b__law_fault : List Sm := (cSs c__law_fault [] (defBody (top 65))).getD []
def c__law_right : Cfg := ⟨["setup", "thing", "due"], defScope (top 66), fns, consts, excN, [], true⟩
def b__law_right : List Sm := (cSs c__law_right [] (defBody (top 66))).getD []
def c__law_odd : Cfg := ⟨["m", "some"], defScope (top 67), fns, consts, excN, [], false⟩
def b__law_odd : List Sm := (cSs c__law_odd [] (defBody (top 67))).getD []
def c__law_bent : Cfg := ⟨["m", "thing", "at", "way"], defScope (top 68), fns, consts, excN, [], false⟩
def b__law_bent : List Sm := (cSs c__law_bent [] (defBody (top 68))).getD []
def c_law : Cfg := ⟨["script", "m", "turn", "setup", "good", "some", "again", "thing", "answer", "bent"], defScope (top 69), fns, consts, excN, [], true⟩
def lawS0 : Stmt := (defBody (top 69)).getD 0 (.Pass ⟨0, 0, 0, 0⟩)
def lawS1 : List Stmt := (defBody (top 69)).drop 1
def b_law0 : Sm := (cS c_law ["some"] lawS0).getD .nop
def b_law : List Sm := (cSs c_law ["some"] lawS1).getD []
def progD : List Df := [.tx 2 2 b_is_word, .tx 3 3 b_is_tuple, .tx 1 2 b_is_kind, .tx 1 2 b_is_script, .tx 1 4 b_are_rules, .tx 1 3 b_kinds_fault, .tx 1 3 b_shell_fault, .tx 1 5 b_setup_fault, .tx 1 2 b_need_setup, .tx 1 1 b_is_whole, .tx 2 2 b_is_below, .tx 2 2 b_is_notice, .tx 2 9 b_is_job, .tx 3 7 b_are_jobs, .tx 2 4 b_find_job, .tx 2 2 b_place_bound, .tx 1 1 b_may_be_front, .tx 2 3 b_is_front, .tx 3 3 b_is_hand, .tx 2 9 b_standing_fault, .tx 2 2 b_is_standing, .tx 2 3 b_need_standing, .tx 1 3 b__law_begun, .tx 2 4 b__law_draw, .tx 2 2 b__law_of, .tx 4 5 b__law_some, .tx 4 8 b__law_setup, .tx 2 2 b__law_script, .tx 2 16 b__law_state, .tx 3 3 b__law_is_whole, .tx 2 2 b__law_is_word, .tx 2 2 b__law_is_job, .tx 3 5 b__law_are_jobs, .tx 2 13 b__law_fault, .tx 2 3 b__law_right, .tx 1 2 b__law_odd, .tx 2 4 b__law_bent]
def tsts : List Tst := [(("BadSetup" : Str), "setup", some "place"), (("BadStanding" : Str), "standing", some "place"), (("BadPlay" : Str), "play", some "place"), (("BadRow" : Str), "row", some "place"), (("BadPaper" : Str), "paper", some "place"), (("BadLog" : Str), "log", some "place"), (("BadText" : Str), "text", some "place"), (("BadEvent" : Str), "event", some "event"), (("BadWrong" : Str), "wrong", some "wrong"), (("Missing" : Str), "missing", some "number"), (("TooMany" : Str), "most", some "most"), (("BadQuestion" : Str), "question", none)]
def wd : Str → Option (Option Str) := wdOf tsts excN
def tfs : List Str := ["_law_right", "law"]
def tf : List He.Defn := tfs.map fun x => (x, none)
def moreK (K : PySem.W.Frag) : Bool := moreB consts excs K && (saidB excs tsts K && decide ((tfs.map fun x => (He.cT K (x, none)).2).Nodup))
abbrev R : PySem.W.OpenRow := PySem.W.OpenLaw.row PySem.Challenge.rw_frontjobs_k03_whole_standings_refused
def addrs : List Addr := [3, 6, 4, 24, 44, 63, 82, 101, 120, 139, 158, 177, 196, 215, 234, 247, 267, 270, 271, 272, 273, 274, 281, 288, 293, 298, 305, 312, 319, 326, 333, 335, 336, 337, 344, 351, 358, 365, 372, 379, 386, 393, 400, 407, 414, 421, 428, 433, 440, 447, 452, 457, 464, 471, 476, 483, 490, 497, 502, 507, 514, 521, 528, 535, 0, 23, 43, 62, 81, 100, 119, 138, 157, 176, 195, 214, 233, 246, 266, 280, 287, 292, 297, 304, 311, 318, 325, 332, 334, 343, 350, 357, 364, 371, 378, 385, 392, 399, 406, 413, 420, 427, 432, 439, 446, 451, 456, 463, 470, 475, 482, 489, 496, 501, 506, 513, 520, 527, 534, 22, 25, 41, 42, 60, 61, 79, 80, 98, 99, 117, 118, 136, 137, 155, 156, 174, 175, 193, 194, 212, 213, 231, 232, 235, 245, 248, 264, 265, 275, 276, 277, 278, 279, 282, 283, 284, 285, 286, 289, 290, 291, 294, 295, 296, 299, 300, 301, 302, 303, 306, 307, 308, 309, 310, 313, 314, 315, 316, 317, 320, 321, 322, 323, 324, 327, 328, 329, 330, 331, 338, 339, 340, 341, 342, 345, 346, 347, 348, 349, 352, 353, 354, 355, 356, 359, 360, 361, 362, 363, 366, 367, 368, 369, 370, 373, 374, 375, 376, 377, 380, 381, 382, 383, 384, 387, 388, 389, 390, 391, 394, 395, 396, 397, 398, 401, 402, 403, 404, 405, 408, 409, 410, 411, 412, 415, 416, 417, 418, 419, 422, 423, 424, 425, 426, 429, 430, 431, 434, 435, 436, 437, 438, 441, 442, 443, 444, 445, 448, 449, 450, 453, 454, 455, 458, 459, 460, 461, 462, 465, 466, 467, 468, 469, 472, 473, 474, 477, 478, 479, 480, 481, 484, 485, 486, 487, 488, 491, 492, 493, 494, 495, 498, 499, 500, 503, 504, 505, 508, 509, 510, 511, 512, 515, 516, 517, 518, 519, 522, 523, 524, 525, 526, 529, 530, 531, 532, 533, 40, 59, 78, 97, 116, 135, 154, 173, 192, 211, 230, 263, 35, 36, 37, 38, 39, 54, 55, 56, 57, 58, 73, 74, 75, 76, 77, 92, 93, 94, 95, 96, 111, 112, 113, 114, 115, 130, 131, 132, 133, 134, 149, 150, 151, 152, 153, 168, 169, 170, 171, 172, 187, 188, 189, 190, 191, 206, 207, 208, 209, 210, 225, 226, 227, 228, 229, 258, 259, 260, 261, 262]
abbrev hk : PySem.W.Hook := hookL addrs fa fn tf moreK
def ob (s : PySem.W.SharedT) : He.AlX := obsL addrs fa fn tf moreK (HandSHeadRun.getT s)
theorem ob_eq (s : PySem.W.SharedT) : ob s = hk.obs s.abs := obsL_eq (HandSHeadRun.getT_eq s)
theorem run (w : World) : HandSHeadRun.RunEq R (PySem.W.view R.prog [lawI]) hk ob 60000 loose w := by
  intro os
  kernel_rfl
theorem sc_is_word : FnScope ["thing", "words"] ["thing", "words"] (defScope (top 24)) := ⟨rfl, rfl, rfl, by decide +kernel, rfl, by decide +kernel, by decide +kernel⟩
theorem sc_is_tuple : FnScope ["thing", "least", "most"] ["thing", "least", "most"] (defScope (top 25)) := ⟨rfl, rfl, rfl, by decide +kernel, rfl, by decide +kernel, by decide +kernel⟩
theorem sc_is_kind : FnScope ["thing", "act"] ["thing"] (defScope (top 26)) := ⟨rfl, rfl, rfl, by decide +kernel, rfl, by decide +kernel, by decide +kernel⟩
theorem sc_is_script : FnScope ["thing", "step"] ["thing"] (defScope (top 27)) := ⟨rfl, rfl, rfl, by decide +kernel, rfl, by decide +kernel, by decide +kernel⟩
theorem sc_are_rules : FnScope ["thing", "reads", "writes", "takes"] ["thing"] (defScope (top 28)) := ⟨rfl, rfl, rfl, by decide +kernel, rfl, by decide +kernel, by decide +kernel⟩
theorem sc_kinds_fault : FnScope ["thing", "number", "kind"] ["thing"] (defScope (top 29)) := ⟨rfl, rfl, rfl, by decide +kernel, rfl, by decide +kernel, by decide +kernel⟩
theorem sc_shell_fault : FnScope ["thing", "number", "script"] ["thing"] (defScope (top 30)) := ⟨rfl, rfl, rfl, by decide +kernel, rfl, by decide +kernel, by decide +kernel⟩
theorem sc_setup_fault : FnScope ["thing", "fault", "kinds", "rules", "shell"] ["thing"] (defScope (top 31)) := ⟨rfl, rfl, rfl, by decide +kernel, rfl, by decide +kernel, by decide +kernel⟩
theorem sc_need_setup : FnScope ["thing", "place"] ["thing"] (defScope (top 32)) := ⟨rfl, rfl, rfl, by decide +kernel, rfl, by decide +kernel, by decide +kernel⟩
theorem sc_is_whole : FnScope ["thing"] ["thing"] (defScope (top 39)) := ⟨rfl, rfl, rfl, by decide +kernel, rfl, by decide +kernel, by decide +kernel⟩
theorem sc_is_below : FnScope ["thing", "bound"] ["thing", "bound"] (defScope (top 40)) := ⟨rfl, rfl, rfl, by decide +kernel, rfl, by decide +kernel, by decide +kernel⟩
theorem sc_is_notice : FnScope ["state", "thing"] ["state", "thing"] (defScope (top 41)) := ⟨rfl, rfl, rfl, by decide +kernel, rfl, by decide +kernel, by decide +kernel⟩
theorem sc_is_job : FnScope ["setup", "thing", "kinds", "kind", "place", "own", "state", "notice", "held"] ["setup", "thing"] (defScope (top 42)) := ⟨rfl, rfl, rfl, by decide +kernel, rfl, by decide +kernel, by decide +kernel⟩
theorem sc_are_jobs : FnScope ["setup", "made", "thing", "least", "pair", "number", "job"] ["setup", "made", "thing"] (defScope (top 43)) := ⟨rfl, rfl, rfl, by decide +kernel, rfl, by decide +kernel, by decide +kernel⟩
theorem sc_find_job : FnScope ["jobs", "thing", "number", "job"] ["jobs", "thing"] (defScope (top 44)) := ⟨rfl, rfl, rfl, by decide +kernel, rfl, by decide +kernel, by decide +kernel⟩
theorem sc_place_bound : FnScope ["setup", "script"] ["setup", "script"] (defScope (top 45)) := ⟨rfl, rfl, rfl, by decide +kernel, rfl, by decide +kernel, by decide +kernel⟩
theorem sc_may_be_front : FnScope ["job"] ["job"] (defScope (top 46)) := ⟨rfl, rfl, rfl, by decide +kernel, rfl, by decide +kernel, by decide +kernel⟩
theorem sc_is_front : FnScope ["jobs", "thing", "job"] ["jobs", "thing"] (defScope (top 47)) := ⟨rfl, rfl, rfl, by decide +kernel, rfl, by decide +kernel, by decide +kernel⟩
theorem sc_is_hand : FnScope ["script", "jobs", "thing"] ["script", "jobs", "thing"] (defScope (top 48)) := ⟨rfl, rfl, rfl, by decide +kernel, rfl, by decide +kernel, by decide +kernel⟩
theorem sc_standing_fault : FnScope ["setup", "thing", "script", "place", "front", "mode", "hand", "made", "jobs"] ["setup", "thing"] (defScope (top 49)) := ⟨rfl, rfl, rfl, by decide +kernel, rfl, by decide +kernel, by decide +kernel⟩
theorem sc_is_standing : FnScope ["setup", "thing"] ["setup", "thing"] (defScope (top 50)) := ⟨rfl, rfl, rfl, by decide +kernel, rfl, by decide +kernel, by decide +kernel⟩
theorem sc_need_standing : FnScope ["setup", "thing", "place"] ["setup", "thing"] (defScope (top 51)) := ⟨rfl, rfl, rfl, by decide +kernel, rfl, by decide +kernel, by decide +kernel⟩
theorem sc__law_begun : FnScope ["script", "seed", "cell"] ["script"] (defScope (top 53)) := ⟨rfl, rfl, rfl, by decide +kernel, rfl, by decide +kernel, by decide +kernel⟩
theorem sc__law_draw : FnScope ["m", "limit", "mixed", "cell"] ["m", "limit"] (defScope (top 54)) := ⟨rfl, rfl, rfl, by decide +kernel, rfl, by decide +kernel, by decide +kernel⟩
theorem sc__law_of : FnScope ["m", "some"] ["m", "some"] (defScope (top 55)) := ⟨rfl, rfl, rfl, by decide +kernel, rfl, by decide +kernel, by decide +kernel⟩
theorem sc__law_some : FnScope ["m", "words", "least", "most", "k"] ["m", "words", "least", "most"] (defScope (top 56)) := ⟨rfl, rfl, rfl, by decide +kernel, rfl, by decide +kernel, by decide +kernel⟩
theorem sc__law_setup : FnScope ["m", "kinds", "acts", "steps", "doing", "some", "rules", "k"] ["m", "kinds", "acts", "steps"] (defScope (top 57)) := ⟨rfl, rfl, rfl, by decide +kernel, rfl, by decide +kernel, by decide +kernel⟩
theorem sc__law_script : FnScope ["setup", "word"] ["setup", "word"] (defScope (top 58)) := ⟨rfl, rfl, rfl, by decide +kernel, rfl, by decide +kernel, by decide +kernel⟩
theorem sc__law_said : FnScope ["call", "caught", "found", "e"] ["call"] (defScope (top 59)) := ⟨rfl, rfl, rfl, by decide +kernel, rfl, by decide +kernel, by decide +kernel⟩
theorem sc__law_state : FnScope ["m", "setup", "j", "word", "place", "fronts", "hand", "jobs", "made", "kind", "state", "notice", "job", "own", "held", "one"] ["m", "setup"] (defScope (top 60)) := ⟨rfl, rfl, rfl, by decide +kernel, rfl, by decide +kernel, by decide +kernel⟩
theorem sc__law_is_whole : FnScope ["thing", "least", "most"] ["thing", "least", "most"] (defScope (top 61)) := ⟨rfl, rfl, rfl, by decide +kernel, rfl, by decide +kernel, by decide +kernel⟩
theorem sc__law_is_word : FnScope ["thing", "words"] ["thing", "words"] (defScope (top 62)) := ⟨rfl, rfl, rfl, by decide +kernel, rfl, by decide +kernel, by decide +kernel⟩
theorem sc__law_is_job : FnScope ["setup", "thing"] ["setup", "thing"] (defScope (top 63)) := ⟨rfl, rfl, rfl, by decide +kernel, rfl, by decide +kernel, by decide +kernel⟩
theorem sc__law_are_jobs : FnScope ["setup", "made", "thing", "pair", "numbers"] ["setup", "made", "thing"] (defScope (top 64)) := ⟨rfl, rfl, rfl, by decide +kernel, rfl, by decide +kernel, by decide +kernel⟩
theorem sc__law_fault : FnScope ["setup", "thing", "fit", "numbers", "word", "place", "front", "mode", "hand", "made", "jobs", "j", "job"] ["setup", "thing"] (defScope (top 65)) := ⟨rfl, rfl, rfl, by decide +kernel, rfl, by decide +kernel, by decide +kernel⟩
theorem sc__law_right : FnScope ["setup", "thing", "due"] ["setup", "thing"] (defScope (top 66)) := ⟨rfl, rfl, rfl, by decide +kernel, rfl, by decide +kernel, by decide +kernel⟩
theorem sc__law_odd : FnScope ["m", "some"] ["m"] (defScope (top 67)) := ⟨rfl, rfl, rfl, by decide +kernel, rfl, by decide +kernel, by decide +kernel⟩
theorem sc__law_bent : FnScope ["m", "thing", "at", "way"] ["m", "thing"] (defScope (top 68)) := ⟨rfl, rfl, rfl, by decide +kernel, rfl, by decide +kernel, by decide +kernel⟩
theorem sc_law : FnScope ["script", "m", "turn", "setup", "good", "some", "again", "thing", "answer", "bent"] ["script"] (defScope (top 69)) := ⟨rfl, rfl, rfl, by decide +kernel, rfl, by decide +kernel, by decide +kernel⟩
theorem k_is_word : (cSs c_is_word [] (defBody (top 24))).isSome = true := by decide +kernel
theorem k_is_tuple : (cSs c_is_tuple [] (defBody (top 25))).isSome = true := by decide +kernel
theorem k_is_kind : (cSs c_is_kind [] (defBody (top 26))).isSome = true := by decide +kernel
theorem k_is_script : (cSs c_is_script [] (defBody (top 27))).isSome = true := by decide +kernel
theorem k_are_rules : (cSs c_are_rules [] (defBody (top 28))).isSome = true := by decide +kernel
theorem k_kinds_fault : (cSs c_kinds_fault [] (defBody (top 29))).isSome = true := by decide +kernel
theorem k_shell_fault : (cSs c_shell_fault [] (defBody (top 30))).isSome = true := by decide +kernel
theorem k_setup_fault : (cSs c_setup_fault [] (defBody (top 31))).isSome = true := by decide +kernel
theorem k_need_setup : (cSs c_need_setup [] (defBody (top 32))).isSome = true := by decide +kernel
theorem k_is_whole : (cSs c_is_whole [] (defBody (top 39))).isSome = true := by decide +kernel
theorem k_is_below : (cSs c_is_below [] (defBody (top 40))).isSome = true := by decide +kernel
theorem k_is_notice : (cSs c_is_notice [] (defBody (top 41))).isSome = true := by decide +kernel
theorem k_is_job : (cSs c_is_job [] (defBody (top 42))).isSome = true := by decide +kernel
theorem k_are_jobs : (cSs c_are_jobs [] (defBody (top 43))).isSome = true := by decide +kernel
theorem k_find_job : (cSs c_find_job [] (defBody (top 44))).isSome = true := by decide +kernel
theorem k_place_bound : (cSs c_place_bound [] (defBody (top 45))).isSome = true := by decide +kernel
theorem k_may_be_front : (cSs c_may_be_front [] (defBody (top 46))).isSome = true := by decide +kernel
theorem k_is_front : (cSs c_is_front [] (defBody (top 47))).isSome = true := by decide +kernel
theorem k_is_hand : (cSs c_is_hand [] (defBody (top 48))).isSome = true := by decide +kernel
theorem k_standing_fault : (cSs c_standing_fault [] (defBody (top 49))).isSome = true := by decide +kernel
theorem k_is_standing : (cSs c_is_standing [] (defBody (top 50))).isSome = true := by decide +kernel
theorem k_need_standing : (cSs c_need_standing [] (defBody (top 51))).isSome = true := by decide +kernel
theorem k__law_begun : (cSs c__law_begun [] (defBody (top 53))).isSome = true := by decide +kernel
theorem k__law_draw : (cSs c__law_draw [] (defBody (top 54))).isSome = true := by decide +kernel
theorem k__law_of : (cSs c__law_of [] (defBody (top 55))).isSome = true := by decide +kernel
theorem k__law_some : (cSs c__law_some [] (defBody (top 56))).isSome = true := by decide +kernel
theorem k__law_setup : (cSs c__law_setup [] (defBody (top 57))).isSome = true := by decide +kernel
theorem k__law_script : (cSs c__law_script [] (defBody (top 58))).isSome = true := by decide +kernel
theorem k__law_state : (cSs c__law_state [] (defBody (top 60))).isSome = true := by decide +kernel
theorem k__law_is_whole : (cSs c__law_is_whole [] (defBody (top 61))).isSome = true := by decide +kernel
theorem k__law_is_word : (cSs c__law_is_word [] (defBody (top 62))).isSome = true := by decide +kernel
theorem k__law_is_job : (cSs c__law_is_job [] (defBody (top 63))).isSome = true := by decide +kernel
theorem k__law_are_jobs : (cSs c__law_are_jobs [] (defBody (top 64))).isSome = true := by decide +kernel
theorem k__law_fault : (cSs c__law_fault [] (defBody (top 65))).isSome = true := by decide +kernel
theorem k__law_right : (cSs c__law_right [] (defBody (top 66))).isSome = true := by decide +kernel
theorem k__law_odd : (cSs c__law_odd [] (defBody (top 67))).isSome = true := by decide +kernel
theorem k__law_bent : (cSs c__law_bent [] (defBody (top 68))).isSome = true := by decide +kernel
theorem k_law0 : (cS c_law ["some"] lawS0).isSome = true := by decide +kernel
theorem k_law : (cSs c_law ["some"] lawS1).isSome = true := by decide +kernel
theorem k_law0e : cS c_law ["some"] lawS0 = some b_law0 := by
  have h := k_law0
  unfold b_law0
  cases e : cS c_law ["some"] lawS0 with
  | none => rw [e] at h; cases h
  | some x => rfl
theorem said_text : SaidBody tsts (defBody (top 59)) := .mk rfl (.cons (.fld rfl) (.cons (.fld rfl) (.cons (.fld rfl) (.cons (.fld rfl) (.cons (.fld rfl) (.cons (.fld rfl) (.cons (.fld rfl) (.cons (.fld rfl) (.cons (.fld rfl) (.cons (.fld rfl) (.cons (.fld rfl) (.cons (.bare rfl) (.nil)))))))))))))
theorem one_t : oneB tsts excN = true := by decide +kernel
theorem said_loc : (["call", "caught", "found", "e"] : List Str).all (lk (defScope (top 59))) = true := by decide +kernel
theorem said_glb : (("isinstance" : Str) :: "len" :: "JobError" :: "MissError" :: "TooMany" :: tsts.map (·.1)).all (fun x => glB (defScope (top 59)) x && !dbg x) = true := by decide +kernel
theorem sx_BadSetup : FnScope ["self", "place"] ["self", "place"] (defScope (inCls (top 2))) := ⟨rfl, rfl, rfl, by decide +kernel, rfl, by decide +kernel, by decide +kernel⟩
theorem sx_BadStanding : FnScope ["self", "place"] ["self", "place"] (defScope (inCls (top 3))) := ⟨rfl, rfl, rfl, by decide +kernel, rfl, by decide +kernel, by decide +kernel⟩
theorem sx_BadPlay : FnScope ["self", "place"] ["self", "place"] (defScope (inCls (top 4))) := ⟨rfl, rfl, rfl, by decide +kernel, rfl, by decide +kernel, by decide +kernel⟩
theorem sx_BadRow : FnScope ["self", "place"] ["self", "place"] (defScope (inCls (top 5))) := ⟨rfl, rfl, rfl, by decide +kernel, rfl, by decide +kernel, by decide +kernel⟩
theorem sx_BadPaper : FnScope ["self", "place"] ["self", "place"] (defScope (inCls (top 6))) := ⟨rfl, rfl, rfl, by decide +kernel, rfl, by decide +kernel, by decide +kernel⟩
theorem sx_BadLog : FnScope ["self", "place"] ["self", "place"] (defScope (inCls (top 7))) := ⟨rfl, rfl, rfl, by decide +kernel, rfl, by decide +kernel, by decide +kernel⟩
theorem sx_BadText : FnScope ["self", "place"] ["self", "place"] (defScope (inCls (top 8))) := ⟨rfl, rfl, rfl, by decide +kernel, rfl, by decide +kernel, by decide +kernel⟩
theorem sx_BadEvent : FnScope ["self", "event"] ["self", "event"] (defScope (inCls (top 9))) := ⟨rfl, rfl, rfl, by decide +kernel, rfl, by decide +kernel, by decide +kernel⟩
theorem sx_BadWrong : FnScope ["self", "wrong"] ["self", "wrong"] (defScope (inCls (top 10))) := ⟨rfl, rfl, rfl, by decide +kernel, rfl, by decide +kernel, by decide +kernel⟩
theorem sx_BadQuestion : FnScope ["self", "text"] ["self", "text"] (defScope (inCls (top 11))) := ⟨rfl, rfl, rfl, by decide +kernel, rfl, by decide +kernel, by decide +kernel⟩
theorem sx_TooMany : FnScope ["self", "most"] ["self", "most"] (defScope (inCls (top 12))) := ⟨rfl, rfl, rfl, by decide +kernel, rfl, by decide +kernel, by decide +kernel⟩
theorem sx_Missing : FnScope ["self", "number"] ["self", "number"] (defScope (inCls (top 14))) := ⟨rfl, rfl, rfl, by decide +kernel, rfl, by decide +kernel, by decide +kernel⟩
def PureOk (f : Nat) (nW : Nat) : Prop := ∀ ns : List Int, ns.length ≤ 63 → ∀ g, ∃ gg g1 g2, exS ⟨callF wd nW progD f, wd⟩ nW b_law0 (lawEnv 10 ns) g = .ok (.nx ((lawEnv 10 ns).set 1 (.fz (gDict gg)))) g1 ∧ exSs ⟨callF wd nW progD f, wd⟩ nW b_law ((lawEnv 10 ns).set 1 .gn) gg = .ok (.rt (.bool true)) g2
theorem facts {f0 nW : Nat} (pure : PureOk f0 nW) {w : World} {K : PySem.W.Frag} {h : Heap} {mg : Str → Option Value} {f : Addr} (X : K.In h) (sysD : SysOk h) (G : h.Ns mainGlobals mg) (hfa : mg ("law" : Str) = some (.ref f)) (c : He.SaysX fa fn [] tf moreK w h K) :
    LawG PySem.Challenge.rw_frontjobs_k03_whole_standings_refused w K (L2.CX PySem.Challenge.pw_frontjobs_k03_whole_standings_refused w) (lv f0 + 3) 63 "script" mg f h := by
  have cd := c.t.d
  obtain ⟨fd_is_word, F_is_word⟩ := cd.def_ 0 (d := dd "is_word" "is_word" ("is_word", none) (top 24)) rfl
  obtain ⟨fd_is_tuple, F_is_tuple⟩ := cd.def_ 1 (d := dd "is_tuple" "is_tuple" ("is_tuple", none) (top 25)) rfl
  obtain ⟨fd_is_kind, F_is_kind⟩ := cd.def_ 2 (d := dd "is_kind" "is_kind" ("is_kind", none) (top 26)) rfl
  obtain ⟨fd_is_script, F_is_script⟩ := cd.def_ 3 (d := dd "is_script" "is_script" ("is_script", none) (top 27)) rfl
  obtain ⟨fd_are_rules, F_are_rules⟩ := cd.def_ 4 (d := dd "are_rules" "are_rules" ("are_rules", none) (top 28)) rfl
  obtain ⟨fd_kinds_fault, F_kinds_fault⟩ := cd.def_ 5 (d := dd "kinds_fault" "kinds_fault" ("kinds_fault", none) (top 29)) rfl
  obtain ⟨fd_shell_fault, F_shell_fault⟩ := cd.def_ 6 (d := dd "shell_fault" "shell_fault" ("shell_fault", none) (top 30)) rfl
  obtain ⟨fd_setup_fault, F_setup_fault⟩ := cd.def_ 7 (d := dd "setup_fault" "setup_fault" ("setup_fault", none) (top 31)) rfl
  obtain ⟨fd_need_setup, F_need_setup⟩ := cd.def_ 8 (d := dd "need_setup" "need_setup" ("need_setup", none) (top 32)) rfl
  obtain ⟨fd_is_whole, F_is_whole⟩ := cd.def_ 9 (d := dd "is_whole" "is_whole" ("is_whole", none) (top 39)) rfl
  obtain ⟨fd_is_below, F_is_below⟩ := cd.def_ 10 (d := dd "is_below" "is_below" ("is_below", none) (top 40)) rfl
  obtain ⟨fd_is_notice, F_is_notice⟩ := cd.def_ 11 (d := dd "is_notice" "is_notice" ("is_notice", none) (top 41)) rfl
  obtain ⟨fd_is_job, F_is_job⟩ := cd.def_ 12 (d := dd "is_job" "is_job" ("is_job", none) (top 42)) rfl
  obtain ⟨fd_are_jobs, F_are_jobs⟩ := cd.def_ 13 (d := dd "are_jobs" "are_jobs" ("are_jobs", none) (top 43)) rfl
  obtain ⟨fd_find_job, F_find_job⟩ := cd.def_ 14 (d := dd "find_job" "find_job" ("find_job", none) (top 44)) rfl
  obtain ⟨fd_place_bound, F_place_bound⟩ := cd.def_ 15 (d := dd "place_bound" "place_bound" ("place_bound", none) (top 45)) rfl
  obtain ⟨fd_may_be_front, F_may_be_front⟩ := cd.def_ 16 (d := dd "may_be_front" "may_be_front" ("may_be_front", none) (top 46)) rfl
  obtain ⟨fd_is_front, F_is_front⟩ := cd.def_ 17 (d := dd "is_front" "is_front" ("is_front", none) (top 47)) rfl
  obtain ⟨fd_is_hand, F_is_hand⟩ := cd.def_ 18 (d := dd "is_hand" "is_hand" ("is_hand", none) (top 48)) rfl
  obtain ⟨fd_standing_fault, F_standing_fault⟩ := cd.def_ 19 (d := dd "standing_fault" "standing_fault" ("standing_fault", none) (top 49)) rfl
  obtain ⟨fd_is_standing, F_is_standing⟩ := cd.def_ 20 (d := dd "is_standing" "is_standing" ("is_standing", none) (top 50)) rfl
  obtain ⟨fd_need_standing, F_need_standing⟩ := cd.def_ 21 (d := dd "need_standing" "need_standing" ("need_standing", none) (top 51)) rfl
  obtain ⟨fd__law_begun, F__law_begun⟩ := cd.def_ 22 (d := dd "_law_begun" "_law_begun" ("_law_begun", none) (top 53)) rfl
  obtain ⟨fd__law_draw, F__law_draw⟩ := cd.def_ 23 (d := dd "_law_draw" "_law_draw" ("_law_draw", none) (top 54)) rfl
  obtain ⟨fd__law_of, F__law_of⟩ := cd.def_ 24 (d := dd "_law_of" "_law_of" ("_law_of", none) (top 55)) rfl
  obtain ⟨fd__law_some, F__law_some⟩ := cd.def_ 25 (d := dd "_law_some" "_law_some" ("_law_some", none) (top 56)) rfl
  obtain ⟨fd__law_setup, F__law_setup⟩ := cd.def_ 26 (d := dd "_law_setup" "_law_setup" ("_law_setup", none) (top 57)) rfl
  obtain ⟨fd__law_script, F__law_script⟩ := cd.def_ 27 (d := dd "_law_script" "_law_script" ("_law_script", none) (top 58)) rfl
  obtain ⟨fd__law_said, F__law_said⟩ := cd.def_ 28 (d := dd "_law_said" "_law_said" ("_law_said", none) (top 59)) rfl
  obtain ⟨fd__law_state, F__law_state⟩ := cd.def_ 29 (d := dd "_law_state" "_law_state" ("_law_state", none) (top 60)) rfl
  obtain ⟨fd__law_is_whole, F__law_is_whole⟩ := cd.def_ 30 (d := dd "_law_is_whole" "_law_is_whole" ("_law_is_whole", none) (top 61)) rfl
  obtain ⟨fd__law_is_word, F__law_is_word⟩ := cd.def_ 31 (d := dd "_law_is_word" "_law_is_word" ("_law_is_word", none) (top 62)) rfl
  obtain ⟨fd__law_is_job, F__law_is_job⟩ := cd.def_ 32 (d := dd "_law_is_job" "_law_is_job" ("_law_is_job", none) (top 63)) rfl
  obtain ⟨fd__law_are_jobs, F__law_are_jobs⟩ := cd.def_ 33 (d := dd "_law_are_jobs" "_law_are_jobs" ("_law_are_jobs", none) (top 64)) rfl
  obtain ⟨fd__law_fault, F__law_fault⟩ := cd.def_ 34 (d := dd "_law_fault" "_law_fault" ("_law_fault", none) (top 65)) rfl
  obtain ⟨fd__law_right, F__law_right⟩ := cd.def_ 35 (d := dd "_law_right" "_law_right" ("_law_right", none) (top 66)) rfl
  obtain ⟨fd__law_odd, F__law_odd⟩ := cd.def_ 36 (d := dd "_law_odd" "_law_odd" ("_law_odd", none) (top 67)) rfl
  obtain ⟨fd__law_bent, F__law_bent⟩ := cd.def_ 37 (d := dd "_law_bent" "_law_bent" ("_law_bent", none) (top 68)) rfl
  obtain ⟨fd_law, F_law⟩ := cd.def_ 38 (d := dd "law" "law" ("law", none) (top 69)) rfl
  obtain ⟨fx_BadSetup, X_BadSetup⟩ := cd.def_ 39 (d := dd "__init__" "BadSetup.__init__" ("BadSetup", some "__init__") (inCls (top 2))) rfl
  obtain ⟨fx_BadStanding, X_BadStanding⟩ := cd.def_ 40 (d := dd "__init__" "BadStanding.__init__" ("BadStanding", some "__init__") (inCls (top 3))) rfl
  obtain ⟨fx_BadPlay, X_BadPlay⟩ := cd.def_ 41 (d := dd "__init__" "BadPlay.__init__" ("BadPlay", some "__init__") (inCls (top 4))) rfl
  obtain ⟨fx_BadRow, X_BadRow⟩ := cd.def_ 42 (d := dd "__init__" "BadRow.__init__" ("BadRow", some "__init__") (inCls (top 5))) rfl
  obtain ⟨fx_BadPaper, X_BadPaper⟩ := cd.def_ 43 (d := dd "__init__" "BadPaper.__init__" ("BadPaper", some "__init__") (inCls (top 6))) rfl
  obtain ⟨fx_BadLog, X_BadLog⟩ := cd.def_ 44 (d := dd "__init__" "BadLog.__init__" ("BadLog", some "__init__") (inCls (top 7))) rfl
  obtain ⟨fx_BadText, X_BadText⟩ := cd.def_ 45 (d := dd "__init__" "BadText.__init__" ("BadText", some "__init__") (inCls (top 8))) rfl
  obtain ⟨fx_BadEvent, X_BadEvent⟩ := cd.def_ 46 (d := dd "__init__" "BadEvent.__init__" ("BadEvent", some "__init__") (inCls (top 9))) rfl
  obtain ⟨fx_BadWrong, X_BadWrong⟩ := cd.def_ 47 (d := dd "__init__" "BadWrong.__init__" ("BadWrong", some "__init__") (inCls (top 10))) rfl
  obtain ⟨fx_BadQuestion, X_BadQuestion⟩ := cd.def_ 48 (d := dd "__init__" "BadQuestion.__init__" ("BadQuestion", some "__init__") (inCls (top 11))) rfl
  obtain ⟨fx_TooMany, X_TooMany⟩ := cd.def_ 49 (d := dd "__init__" "TooMany.__init__" ("TooMany", some "__init__") (inCls (top 12))) rfl
  obtain ⟨fx_Missing, X_Missing⟩ := cd.def_ 50 (d := dd "__init__" "Missing.__init__" ("Missing", some "__init__") (inCls (top 14))) rfl
  have glo : ∀ x, He.Fa.glo x ∈ fa → mg x = some (.ref (He.ga K x)) := fun x hx => He.glo_ok X G (cd.facts hx)
  have e := hfa.symm.trans (glo "law" (by simp [fa]))
  cases e
  have more := c.more
  unfold moreK at more
  simp only [Bool.and_eq_true, decide_eq_true_eq] at more
  obtain ⟨mb, sb, nodup⟩ := more
  have mem : ∀ x ∈ tfs, (x, none) ∈ tf := fun x hx => List.mem_map.mpr ⟨x, hx, rfl⟩
  refine lawG_of (tfs := tfs) (fd := fd_law) (Pn := fun ns => ns.length ≤ 63) X sysD (fun x hx => c.empty _ (mem x hx)) (fun x hx => c.out _ (mem x hx)) (fun x hx => PySem.W.codeHd_of_K X (c.hd _ (mem x hx))) ?_ (fun _ h => h) fun base bK bG bS TB => ?_
  · have b := FunD.bindsA (ps := ["script"]) F_law fun _ _ _ _ _ _ us hl => match us, hl with | [_], _ => rfl
    exact fun s u => b s [u] rfl
  have globB : ∀ x, He.Fa.glo x ∈ fa → mg x = some (.ref (He.ga K x)) := glo
  let S : Sig := ⟨K, none, tabT K tfs, He.ga K, atOf excs⟩
  have blt : ∀ x ∈ bltNames, mg x = none := fun x hx => He.free_ok X G (cd.facts (f := .free x) (by
    have : ∀ x ∈ bltNames, He.Fa.free x ∈ fa := by simp [bltNames, fa]
    exact this x hx))
  have B : ∀ gm, Glb PySem.Challenge.pw_frontjobs_k03_whole_standings_refused w K mg base (S.on gm) consts excN := fun gm => glb_of bK bG rfl (fun _ _ => rfl) (fun q hq => by
      have : ∀ q ∈ excs, atOf excs q.1 = q.2 := by decide +kernel
      exact this q hq) mb (fun q hq => by
      have : ∀ q ∈ excs, He.Fa.glo q.1 ∈ fa := by simp [excs, fa]
      exact glo q.1 (this q hq)) (by decide +kernel) blt bS (List.forall_mem_cons.mpr ⟨⟨_, _, _, _, _, _, _, _, _, _, X_BadSetup, sx_BadSetup, .inl rfl, .inl rfl, rfl, rfl, X_BadSetup.bindsN fun _ _ _ _ _ _ us hl => match us, hl with | [_, _], _ => rfl⟩, List.forall_mem_cons.mpr ⟨⟨_, _, _, _, _, _, _, _, _, _, X_BadStanding, sx_BadStanding, .inl rfl, .inl rfl, rfl, rfl, X_BadStanding.bindsN fun _ _ _ _ _ _ us hl => match us, hl with | [_, _], _ => rfl⟩, List.forall_mem_cons.mpr ⟨⟨_, _, _, _, _, _, _, _, _, _, X_BadPlay, sx_BadPlay, .inl rfl, .inl rfl, rfl, rfl, X_BadPlay.bindsN fun _ _ _ _ _ _ us hl => match us, hl with | [_, _], _ => rfl⟩, List.forall_mem_cons.mpr ⟨⟨_, _, _, _, _, _, _, _, _, _, X_BadRow, sx_BadRow, .inl rfl, .inl rfl, rfl, rfl, X_BadRow.bindsN fun _ _ _ _ _ _ us hl => match us, hl with | [_, _], _ => rfl⟩, List.forall_mem_cons.mpr ⟨⟨_, _, _, _, _, _, _, _, _, _, X_BadPaper, sx_BadPaper, .inl rfl, .inl rfl, rfl, rfl, X_BadPaper.bindsN fun _ _ _ _ _ _ us hl => match us, hl with | [_, _], _ => rfl⟩, List.forall_mem_cons.mpr ⟨⟨_, _, _, _, _, _, _, _, _, _, X_BadLog, sx_BadLog, .inl rfl, .inl rfl, rfl, rfl, X_BadLog.bindsN fun _ _ _ _ _ _ us hl => match us, hl with | [_, _], _ => rfl⟩, List.forall_mem_cons.mpr ⟨⟨_, _, _, _, _, _, _, _, _, _, X_BadText, sx_BadText, .inl rfl, .inl rfl, rfl, rfl, X_BadText.bindsN fun _ _ _ _ _ _ us hl => match us, hl with | [_, _], _ => rfl⟩, List.forall_mem_cons.mpr ⟨⟨_, _, _, _, _, _, _, _, _, _, X_BadEvent, sx_BadEvent, .inl rfl, .inl rfl, rfl, rfl, X_BadEvent.bindsN fun _ _ _ _ _ _ us hl => match us, hl with | [_, _], _ => rfl⟩, List.forall_mem_cons.mpr ⟨⟨_, _, _, _, _, _, _, _, _, _, X_BadWrong, sx_BadWrong, .inl rfl, .inl rfl, rfl, rfl, X_BadWrong.bindsN fun _ _ _ _ _ _ us hl => match us, hl with | [_, _], _ => rfl⟩, List.forall_mem_cons.mpr ⟨⟨_, _, _, _, _, _, _, _, _, _, X_BadQuestion, sx_BadQuestion, .inl rfl, .inl rfl, rfl, rfl, X_BadQuestion.bindsN fun _ _ _ _ _ _ us hl => match us, hl with | [_, _], _ => rfl⟩, List.forall_mem_cons.mpr ⟨⟨_, _, _, _, _, _, _, _, _, _, X_TooMany, sx_TooMany, .inl rfl, .inl rfl, rfl, rfl, X_TooMany.bindsN fun _ _ _ _ _ _ us hl => match us, hl with | [_, _], _ => rfl⟩, List.forall_mem_cons.mpr ⟨⟨_, _, _, _, _, _, _, _, _, _, X_Missing, sx_Missing, .inl rfl, .inl rfl, rfl, rfl, X_Missing.bindsN fun _ _ _ _ _ _ us hl => match us, hl with | [_, _], _ => rfl⟩, fun _ h => nomatch h⟩⟩⟩⟩⟩⟩⟩⟩⟩⟩⟩⟩)
  let T : List (En × Df) := [(⟨"is_word", He.ga K "is_word", fd_is_word, ["thing", "words"]⟩, .tx 2 2 b_is_word), (⟨"is_tuple", He.ga K "is_tuple", fd_is_tuple, ["thing", "least", "most"]⟩, .tx 3 3 b_is_tuple), (⟨"is_kind", He.ga K "is_kind", fd_is_kind, ["thing"]⟩, .tx 1 2 b_is_kind), (⟨"is_script", He.ga K "is_script", fd_is_script, ["thing"]⟩, .tx 1 2 b_is_script), (⟨"are_rules", He.ga K "are_rules", fd_are_rules, ["thing"]⟩, .tx 1 4 b_are_rules), (⟨"kinds_fault", He.ga K "kinds_fault", fd_kinds_fault, ["thing"]⟩, .tx 1 3 b_kinds_fault), (⟨"shell_fault", He.ga K "shell_fault", fd_shell_fault, ["thing"]⟩, .tx 1 3 b_shell_fault), (⟨"setup_fault", He.ga K "setup_fault", fd_setup_fault, ["thing"]⟩, .tx 1 5 b_setup_fault), (⟨"need_setup", He.ga K "need_setup", fd_need_setup, ["thing"]⟩, .tx 1 2 b_need_setup), (⟨"is_whole", He.ga K "is_whole", fd_is_whole, ["thing"]⟩, .tx 1 1 b_is_whole), (⟨"is_below", He.ga K "is_below", fd_is_below, ["thing", "bound"]⟩, .tx 2 2 b_is_below), (⟨"is_notice", He.ga K "is_notice", fd_is_notice, ["state", "thing"]⟩, .tx 2 2 b_is_notice), (⟨"is_job", He.ga K "is_job", fd_is_job, ["setup", "thing"]⟩, .tx 2 9 b_is_job), (⟨"are_jobs", He.ga K "are_jobs", fd_are_jobs, ["setup", "made", "thing"]⟩, .tx 3 7 b_are_jobs), (⟨"find_job", He.ga K "find_job", fd_find_job, ["jobs", "thing"]⟩, .tx 2 4 b_find_job), (⟨"place_bound", He.ga K "place_bound", fd_place_bound, ["setup", "script"]⟩, .tx 2 2 b_place_bound), (⟨"may_be_front", He.ga K "may_be_front", fd_may_be_front, ["job"]⟩, .tx 1 1 b_may_be_front), (⟨"is_front", He.ga K "is_front", fd_is_front, ["jobs", "thing"]⟩, .tx 2 3 b_is_front), (⟨"is_hand", He.ga K "is_hand", fd_is_hand, ["script", "jobs", "thing"]⟩, .tx 3 3 b_is_hand), (⟨"standing_fault", He.ga K "standing_fault", fd_standing_fault, ["setup", "thing"]⟩, .tx 2 9 b_standing_fault), (⟨"is_standing", He.ga K "is_standing", fd_is_standing, ["setup", "thing"]⟩, .tx 2 2 b_is_standing), (⟨"need_standing", He.ga K "need_standing", fd_need_standing, ["setup", "thing"]⟩, .tx 2 3 b_need_standing), (⟨"_law_begun", He.ga K "_law_begun", fd__law_begun, ["script"]⟩, .tx 1 3 b__law_begun), (⟨"_law_draw", He.ga K "_law_draw", fd__law_draw, ["m", "limit"]⟩, .tx 2 4 b__law_draw), (⟨"_law_of", He.ga K "_law_of", fd__law_of, ["m", "some"]⟩, .tx 2 2 b__law_of), (⟨"_law_some", He.ga K "_law_some", fd__law_some, ["m", "words", "least", "most"]⟩, .tx 4 5 b__law_some), (⟨"_law_setup", He.ga K "_law_setup", fd__law_setup, ["m", "kinds", "acts", "steps"]⟩, .tx 4 8 b__law_setup), (⟨"_law_script", He.ga K "_law_script", fd__law_script, ["setup", "word"]⟩, .tx 2 2 b__law_script), (⟨"_law_state", He.ga K "_law_state", fd__law_state, ["m", "setup"]⟩, .tx 2 16 b__law_state), (⟨"_law_is_whole", He.ga K "_law_is_whole", fd__law_is_whole, ["thing", "least", "most"]⟩, .tx 3 3 b__law_is_whole), (⟨"_law_is_word", He.ga K "_law_is_word", fd__law_is_word, ["thing", "words"]⟩, .tx 2 2 b__law_is_word), (⟨"_law_is_job", He.ga K "_law_is_job", fd__law_is_job, ["setup", "thing"]⟩, .tx 2 2 b__law_is_job), (⟨"_law_are_jobs", He.ga K "_law_are_jobs", fd__law_are_jobs, ["setup", "made", "thing"]⟩, .tx 3 5 b__law_are_jobs), (⟨"_law_fault", He.ga K "_law_fault", fd__law_fault, ["setup", "thing"]⟩, .tx 2 13 b__law_fault), (⟨"_law_right", He.ga K "_law_right", fd__law_right, ["setup", "thing"]⟩, .tx 2 3 b__law_right), (⟨"_law_odd", He.ga K "_law_odd", fd__law_odd, ["m"]⟩, .tx 1 2 b__law_odd), (⟨"_law_bent", He.ga K "_law_bent", fd__law_bent, ["m", "thing"]⟩, .tx 2 4 b__law_bent)]
  have hfns : fnsOf T = fns := rfl
  have hprog : T.map (·.2) = progD := rfl
  have all : ∀ q ∈ T, DefAll K mg base (tabT K tfs) fns consts excN q := List.forall_mem_cons.mpr ⟨defAll_of (params := defArgs (top 24)) (scope := defScope (top 24)) (N := ["thing", "words"]) (ps := ["thing", "words"]) (L := []) (gs := []) (lam := false) F_is_word sc_is_word k_is_word (F_is_word.bindsN fun _ _ _ _ _ _ us hl => match us, hl with | [_, _], _ => rfl) (glo "is_word" (by simp [fa])) (fun z => by cases z), List.forall_mem_cons.mpr ⟨defAll_of (params := defArgs (top 25)) (scope := defScope (top 25)) (N := ["thing", "least", "most"]) (ps := ["thing", "least", "most"]) (L := []) (gs := []) (lam := false) F_is_tuple sc_is_tuple k_is_tuple (F_is_tuple.bindsN fun _ _ _ _ _ _ us hl => match us, hl with | [_, _, _], _ => rfl) (glo "is_tuple" (by simp [fa])) (fun z => by cases z), List.forall_mem_cons.mpr ⟨defAll_of (params := defArgs (top 26)) (scope := defScope (top 26)) (N := ["thing", "act"]) (ps := ["thing"]) (L := []) (gs := []) (lam := false) F_is_kind sc_is_kind k_is_kind (F_is_kind.bindsN fun _ _ _ _ _ _ us hl => match us, hl with | [_], _ => rfl) (glo "is_kind" (by simp [fa])) (fun z => by cases z), List.forall_mem_cons.mpr ⟨defAll_of (params := defArgs (top 27)) (scope := defScope (top 27)) (N := ["thing", "step"]) (ps := ["thing"]) (L := []) (gs := []) (lam := false) F_is_script sc_is_script k_is_script (F_is_script.bindsN fun _ _ _ _ _ _ us hl => match us, hl with | [_], _ => rfl) (glo "is_script" (by simp [fa])) (fun z => by cases z), List.forall_mem_cons.mpr ⟨defAll_of (params := defArgs (top 28)) (scope := defScope (top 28)) (N := ["thing", "reads", "writes", "takes"]) (ps := ["thing"]) (L := []) (gs := []) (lam := false) F_are_rules sc_are_rules k_are_rules (F_are_rules.bindsN fun _ _ _ _ _ _ us hl => match us, hl with | [_], _ => rfl) (glo "are_rules" (by simp [fa])) (fun z => by cases z), List.forall_mem_cons.mpr ⟨defAll_of (params := defArgs (top 29)) (scope := defScope (top 29)) (N := ["thing", "number", "kind"]) (ps := ["thing"]) (L := []) (gs := []) (lam := false) F_kinds_fault sc_kinds_fault k_kinds_fault (F_kinds_fault.bindsN fun _ _ _ _ _ _ us hl => match us, hl with | [_], _ => rfl) (glo "kinds_fault" (by simp [fa])) (fun z => by cases z), List.forall_mem_cons.mpr ⟨defAll_of (params := defArgs (top 30)) (scope := defScope (top 30)) (N := ["thing", "number", "script"]) (ps := ["thing"]) (L := []) (gs := []) (lam := false) F_shell_fault sc_shell_fault k_shell_fault (F_shell_fault.bindsN fun _ _ _ _ _ _ us hl => match us, hl with | [_], _ => rfl) (glo "shell_fault" (by simp [fa])) (fun z => by cases z), List.forall_mem_cons.mpr ⟨defAll_of (params := defArgs (top 31)) (scope := defScope (top 31)) (N := ["thing", "fault", "kinds", "rules", "shell"]) (ps := ["thing"]) (L := []) (gs := []) (lam := false) F_setup_fault sc_setup_fault k_setup_fault (F_setup_fault.bindsN fun _ _ _ _ _ _ us hl => match us, hl with | [_], _ => rfl) (glo "setup_fault" (by simp [fa])) (fun z => by cases z), List.forall_mem_cons.mpr ⟨defAll_of (params := defArgs (top 32)) (scope := defScope (top 32)) (N := ["thing", "place"]) (ps := ["thing"]) (L := []) (gs := []) (lam := false) F_need_setup sc_need_setup k_need_setup (F_need_setup.bindsN fun _ _ _ _ _ _ us hl => match us, hl with | [_], _ => rfl) (glo "need_setup" (by simp [fa])) (fun z => by cases z), List.forall_mem_cons.mpr ⟨defAll_of (params := defArgs (top 39)) (scope := defScope (top 39)) (N := ["thing"]) (ps := ["thing"]) (L := []) (gs := []) (lam := false) F_is_whole sc_is_whole k_is_whole (F_is_whole.bindsN fun _ _ _ _ _ _ us hl => match us, hl with | [_], _ => rfl) (glo "is_whole" (by simp [fa])) (fun z => by cases z), List.forall_mem_cons.mpr ⟨defAll_of (params := defArgs (top 40)) (scope := defScope (top 40)) (N := ["thing", "bound"]) (ps := ["thing", "bound"]) (L := []) (gs := []) (lam := false) F_is_below sc_is_below k_is_below (F_is_below.bindsN fun _ _ _ _ _ _ us hl => match us, hl with | [_, _], _ => rfl) (glo "is_below" (by simp [fa])) (fun z => by cases z), List.forall_mem_cons.mpr ⟨defAll_of (params := defArgs (top 41)) (scope := defScope (top 41)) (N := ["state", "thing"]) (ps := ["state", "thing"]) (L := []) (gs := []) (lam := false) F_is_notice sc_is_notice k_is_notice (F_is_notice.bindsN fun _ _ _ _ _ _ us hl => match us, hl with | [_, _], _ => rfl) (glo "is_notice" (by simp [fa])) (fun z => by cases z), List.forall_mem_cons.mpr ⟨defAll_of (params := defArgs (top 42)) (scope := defScope (top 42)) (N := ["setup", "thing", "kinds", "kind", "place", "own", "state", "notice", "held"]) (ps := ["setup", "thing"]) (L := []) (gs := []) (lam := false) F_is_job sc_is_job k_is_job (F_is_job.bindsN fun _ _ _ _ _ _ us hl => match us, hl with | [_, _], _ => rfl) (glo "is_job" (by simp [fa])) (fun z => by cases z), List.forall_mem_cons.mpr ⟨defAll_of (params := defArgs (top 43)) (scope := defScope (top 43)) (N := ["setup", "made", "thing", "least", "pair", "number", "job"]) (ps := ["setup", "made", "thing"]) (L := []) (gs := []) (lam := false) F_are_jobs sc_are_jobs k_are_jobs (F_are_jobs.bindsN fun _ _ _ _ _ _ us hl => match us, hl with | [_, _, _], _ => rfl) (glo "are_jobs" (by simp [fa])) (fun z => by cases z), List.forall_mem_cons.mpr ⟨defAll_of (params := defArgs (top 44)) (scope := defScope (top 44)) (N := ["jobs", "thing", "number", "job"]) (ps := ["jobs", "thing"]) (L := []) (gs := []) (lam := false) F_find_job sc_find_job k_find_job (F_find_job.bindsN fun _ _ _ _ _ _ us hl => match us, hl with | [_, _], _ => rfl) (glo "find_job" (by simp [fa])) (fun z => by cases z), List.forall_mem_cons.mpr ⟨defAll_of (params := defArgs (top 45)) (scope := defScope (top 45)) (N := ["setup", "script"]) (ps := ["setup", "script"]) (L := []) (gs := []) (lam := false) F_place_bound sc_place_bound k_place_bound (F_place_bound.bindsN fun _ _ _ _ _ _ us hl => match us, hl with | [_, _], _ => rfl) (glo "place_bound" (by simp [fa])) (fun z => by cases z), List.forall_mem_cons.mpr ⟨defAll_of (params := defArgs (top 46)) (scope := defScope (top 46)) (N := ["job"]) (ps := ["job"]) (L := []) (gs := []) (lam := false) F_may_be_front sc_may_be_front k_may_be_front (F_may_be_front.bindsN fun _ _ _ _ _ _ us hl => match us, hl with | [_], _ => rfl) (glo "may_be_front" (by simp [fa])) (fun z => by cases z), List.forall_mem_cons.mpr ⟨defAll_of (params := defArgs (top 47)) (scope := defScope (top 47)) (N := ["jobs", "thing", "job"]) (ps := ["jobs", "thing"]) (L := []) (gs := []) (lam := false) F_is_front sc_is_front k_is_front (F_is_front.bindsN fun _ _ _ _ _ _ us hl => match us, hl with | [_, _], _ => rfl) (glo "is_front" (by simp [fa])) (fun z => by cases z), List.forall_mem_cons.mpr ⟨defAll_of (params := defArgs (top 48)) (scope := defScope (top 48)) (N := ["script", "jobs", "thing"]) (ps := ["script", "jobs", "thing"]) (L := []) (gs := []) (lam := false) F_is_hand sc_is_hand k_is_hand (F_is_hand.bindsN fun _ _ _ _ _ _ us hl => match us, hl with | [_, _, _], _ => rfl) (glo "is_hand" (by simp [fa])) (fun z => by cases z), List.forall_mem_cons.mpr ⟨defAll_of (params := defArgs (top 49)) (scope := defScope (top 49)) (N := ["setup", "thing", "script", "place", "front", "mode", "hand", "made", "jobs"]) (ps := ["setup", "thing"]) (L := []) (gs := []) (lam := false) F_standing_fault sc_standing_fault k_standing_fault (F_standing_fault.bindsN fun _ _ _ _ _ _ us hl => match us, hl with | [_, _], _ => rfl) (glo "standing_fault" (by simp [fa])) (fun z => by cases z), List.forall_mem_cons.mpr ⟨defAll_of (params := defArgs (top 50)) (scope := defScope (top 50)) (N := ["setup", "thing"]) (ps := ["setup", "thing"]) (L := []) (gs := []) (lam := false) F_is_standing sc_is_standing k_is_standing (F_is_standing.bindsN fun _ _ _ _ _ _ us hl => match us, hl with | [_, _], _ => rfl) (glo "is_standing" (by simp [fa])) (fun z => by cases z), List.forall_mem_cons.mpr ⟨defAll_of (params := defArgs (top 51)) (scope := defScope (top 51)) (N := ["setup", "thing", "place"]) (ps := ["setup", "thing"]) (L := []) (gs := []) (lam := false) F_need_standing sc_need_standing k_need_standing (F_need_standing.bindsN fun _ _ _ _ _ _ us hl => match us, hl with | [_, _], _ => rfl) (glo "need_standing" (by simp [fa])) (fun z => by cases z), List.forall_mem_cons.mpr ⟨defAll_of (params := defArgs (top 53)) (scope := defScope (top 53)) (N := ["script", "seed", "cell"]) (ps := ["script"]) (L := []) (gs := []) (lam := false) F__law_begun sc__law_begun k__law_begun (F__law_begun.bindsN fun _ _ _ _ _ _ us hl => match us, hl with | [_], _ => rfl) (glo "_law_begun" (by simp [fa])) (fun z => by cases z), List.forall_mem_cons.mpr ⟨defAll_of (params := defArgs (top 54)) (scope := defScope (top 54)) (N := ["m", "limit", "mixed", "cell"]) (ps := ["m", "limit"]) (L := []) (gs := ["m"]) (lam := false) F__law_draw sc__law_draw k__law_draw (F__law_draw.bindsN fun _ _ _ _ _ _ us hl => match us, hl with | [_, _], _ => rfl) (glo "_law_draw" (by simp [fa])) (fun z => by cases z), List.forall_mem_cons.mpr ⟨defAll_of (params := defArgs (top 55)) (scope := defScope (top 55)) (N := ["m", "some"]) (ps := ["m", "some"]) (L := []) (gs := []) (lam := false) F__law_of sc__law_of k__law_of (F__law_of.bindsN fun _ _ _ _ _ _ us hl => match us, hl with | [_, _], _ => rfl) (glo "_law_of" (by simp [fa])) (fun z => by cases z), List.forall_mem_cons.mpr ⟨defAll_of (params := defArgs (top 56)) (scope := defScope (top 56)) (N := ["m", "words", "least", "most", "k"]) (ps := ["m", "words", "least", "most"]) (L := []) (gs := []) (lam := false) F__law_some sc__law_some k__law_some (F__law_some.bindsN fun _ _ _ _ _ _ us hl => match us, hl with | [_, _, _, _], _ => rfl) (glo "_law_some" (by simp [fa])) (fun z => by cases z), List.forall_mem_cons.mpr ⟨defAll_of (params := defArgs (top 57)) (scope := defScope (top 57)) (N := ["m", "kinds", "acts", "steps", "doing", "some", "rules", "k"]) (ps := ["m", "kinds", "acts", "steps"]) (L := []) (gs := []) (lam := false) F__law_setup sc__law_setup k__law_setup (F__law_setup.bindsN fun _ _ _ _ _ _ us hl => match us, hl with | [_, _, _, _], _ => rfl) (glo "_law_setup" (by simp [fa])) (fun z => by cases z), List.forall_mem_cons.mpr ⟨defAll_of (params := defArgs (top 58)) (scope := defScope (top 58)) (N := ["setup", "word"]) (ps := ["setup", "word"]) (L := []) (gs := []) (lam := false) F__law_script sc__law_script k__law_script (F__law_script.bindsN fun _ _ _ _ _ _ us hl => match us, hl with | [_, _], _ => rfl) (glo "_law_script" (by simp [fa])) (fun z => by cases z), List.forall_mem_cons.mpr ⟨defAll_of (params := defArgs (top 60)) (scope := defScope (top 60)) (N := ["m", "setup", "j", "word", "place", "fronts", "hand", "jobs", "made", "kind", "state", "notice", "job", "own", "held", "one"]) (ps := ["m", "setup"]) (L := []) (gs := []) (lam := false) F__law_state sc__law_state k__law_state (F__law_state.bindsN fun _ _ _ _ _ _ us hl => match us, hl with | [_, _], _ => rfl) (glo "_law_state" (by simp [fa])) (fun z => by cases z), List.forall_mem_cons.mpr ⟨defAll_of (params := defArgs (top 61)) (scope := defScope (top 61)) (N := ["thing", "least", "most"]) (ps := ["thing", "least", "most"]) (L := []) (gs := []) (lam := false) F__law_is_whole sc__law_is_whole k__law_is_whole (F__law_is_whole.bindsN fun _ _ _ _ _ _ us hl => match us, hl with | [_, _, _], _ => rfl) (glo "_law_is_whole" (by simp [fa])) (fun z => by cases z), List.forall_mem_cons.mpr ⟨defAll_of (params := defArgs (top 62)) (scope := defScope (top 62)) (N := ["thing", "words"]) (ps := ["thing", "words"]) (L := []) (gs := []) (lam := false) F__law_is_word sc__law_is_word k__law_is_word (F__law_is_word.bindsN fun _ _ _ _ _ _ us hl => match us, hl with | [_, _], _ => rfl) (glo "_law_is_word" (by simp [fa])) (fun z => by cases z), List.forall_mem_cons.mpr ⟨defAll_of (params := defArgs (top 63)) (scope := defScope (top 63)) (N := ["setup", "thing"]) (ps := ["setup", "thing"]) (L := []) (gs := []) (lam := false) F__law_is_job sc__law_is_job k__law_is_job (F__law_is_job.bindsN fun _ _ _ _ _ _ us hl => match us, hl with | [_, _], _ => rfl) (glo "_law_is_job" (by simp [fa])) (fun z => by cases z), List.forall_mem_cons.mpr ⟨defAll_of (params := defArgs (top 64)) (scope := defScope (top 64)) (N := ["setup", "made", "thing", "pair", "numbers"]) (ps := ["setup", "made", "thing"]) (L := []) (gs := []) (lam := false) F__law_are_jobs sc__law_are_jobs k__law_are_jobs (F__law_are_jobs.bindsN fun _ _ _ _ _ _ us hl => match us, hl with | [_, _, _], _ => rfl) (glo "_law_are_jobs" (by simp [fa])) (fun z => by cases z), List.forall_mem_cons.mpr ⟨defAll_of (params := defArgs (top 65)) (scope := defScope (top 65)) (N := ["setup", "thing", "fit", "numbers", "word", "place", "front", "mode", "hand", "made", "jobs", "j", "job"]) (ps := ["setup", "thing"]) (L := []) (gs := []) (lam := false) F__law_fault sc__law_fault k__law_fault (F__law_fault.bindsN fun _ _ _ _ _ _ us hl => match us, hl with | [_, _], _ => rfl) (glo "_law_fault" (by simp [fa])) (fun z => by cases z), List.forall_mem_cons.mpr ⟨defAll_of (params := defArgs (top 66)) (scope := defScope (top 66)) (N := ["setup", "thing", "due"]) (ps := ["setup", "thing"]) (L := []) (gs := []) (lam := true) F__law_right sc__law_right k__law_right (F__law_right.bindsN fun _ _ _ _ _ _ us hl => match us, hl with | [_, _], _ => rfl) (glo "_law_right" (by simp [fa])) (fun _ => tabs_of nodup TB (by simp [tfs]) F__law_right), List.forall_mem_cons.mpr ⟨defAll_of (params := defArgs (top 67)) (scope := defScope (top 67)) (N := ["m", "some"]) (ps := ["m"]) (L := []) (gs := []) (lam := false) F__law_odd sc__law_odd k__law_odd (F__law_odd.bindsN fun _ _ _ _ _ _ us hl => match us, hl with | [_], _ => rfl) (glo "_law_odd" (by simp [fa])) (fun z => by cases z), List.forall_mem_cons.mpr ⟨defAll_of (params := defArgs (top 68)) (scope := defScope (top 68)) (N := ["m", "thing", "at", "way"]) (ps := ["m", "thing"]) (L := []) (gs := []) (lam := false) F__law_bent sc__law_bent k__law_bent (F__law_bent.bindsN fun _ _ _ _ _ _ us hl => match us, hl with | [_, _], _ => rfl) (glo "_law_bent" (by simp [fa])) (fun z => by cases z), fun _ h => nomatch h⟩⟩⟩⟩⟩⟩⟩⟩⟩⟩⟩⟩⟩⟩⟩⟩⟩⟩⟩⟩⟩⟩⟩⟩⟩⟩⟩⟩⟩⟩⟩⟩⟩⟩⟩⟩⟩
  have sd : SaidDef K mg S excN tsts wd ∧ ∀ c, wd c ≠ none → c ∈ excN := saidDef_of (S := S) rfl rfl F__law_said (glo "_law_said" (by simp [fa])) (F__law_said.bindsN fun _ _ _ _ _ _ us hl => match us, hl with | [_], _ => rfl) sc__law_said said_text said_loc said_glb (fun x hx => glo x (by
      have : ∀ x ∈ ("JobError" : Str) :: "MissError" :: "TooMany" :: tsts.map (·.1), He.Fa.glo x ∈ fa := by simp [tsts, fa]
      exact this x hx)) sb one_t (by decide)
  have ih : ∀ gm i q, T[i]? = some q → FnG PySem.Challenge.pw_frontjobs_k03_whole_standings_refused w K mg base (L2.CX PySem.Challenge.pw_frontjobs_k03_whole_standings_refused w) (lv f0) q.1.fa q.1.fd q.1.ps (spOf (S.on gm) q.2.ar (callF wd nW (T.map (·.2)) f0 i)) := fun gm =>
    fn_all (B gm) (fun q hq => (all q hq).gl) (fun q hq => (all q hq).ar) (fun q hq n len b e => by rw [hfns]; exact (all q hq).tx n len b e) (fun _ => ⟨⟨sd.1.df, sd.1.cls, sd.1.xv, sd.1.caught, sd.1.kit, sd.1.attr, sd.1.one, sd.1.few⟩, sd.2⟩) (fun q hq n m e => absurd e ((all q hq).nosp n m)) f0
  have lt : LawTx K mg base (tabT K tfs) fns consts excN ⟨"law", He.ga K "law", fd_law, ["script"]⟩ 10 b_law0 b_law := lawTx_of (params := defArgs (top 69)) (s0 := lawS0) (s1 := lawS1) (scope := defScope (top 69)) (N := ["script", "m", "turn", "setup", "good", "some", "again", "thing", "answer", "bent"]) (L := ["some"]) (gs := []) (lam := true) F_law sc_law k_law0e k_law rfl (fun _ => tabs_of nodup TB (by simp [tfs]) F_law)
  have pz := pure
  unfold PureOk at pz
  rw [← hprog] at pz
  exact fnG_law (S := S) (e := ⟨"law", He.ga K "law", fd_law, ["script"]⟩) B (fun q hq => (all q hq).gl) ih (by rw [hfns]; exact lt) (fun _ => sd) (Pn := fun ns => ns.length ≤ 63) (by decide : 0 < 1) (by decide) pz
end Kk03
section
set_option Elab.async false
set_option linter.all false
set_option maxRecDepth 100000
set_option maxHeartbeats 4000000
namespace PD
open PySem PySem.Spec L2

/-! ### the drawing, for any law -/
theorem one_s : (1 : Nat) ≤ sizeLine := by rw [sizeLine_eq]; omega
theorem zero_s : (0 : Nat) ≤ sizeLine := Nat.zero_le _
theorem raise_bd {α β : Type} {c : Str} {d : D} {k : α → M β} : (M.raise c d : M α).bd k = M.raise c d := rfl
theorem eqv_nil (ys : List D) : PyData.eqv (.list ys) (.list []) = ys.isEmpty := by
  cases ys <;> simp [PyData.eqv, PyData.eqvAll]
def L_begun (s0 : Int) : List Sm := [(.asg (.n 1) (.c (.int s0))), (.for_ (.n 2) (.e (.v 0)) [(.asg (.n 1) (.bin .Mod (.bf .int [(.bin .Add (.bin .Add (.bin .Mult (.v 1) (.c (.int (69621)))) (.bin .Mod (.bf .int [(.v 2)]) (.c (.int (2147483629))))) (.c (.int (7))))]) (.c (.int (2147483647)))))]), (.ret (.dict ["great", "seed", "turns"] [(.lc (.n 2) (.e (.v 0)) (some (.cmp .GtE (.v 2) (.bin .Pow (.c (.int (10))) (.c (.int (18)))))) (.v 2) [2]), (.v 1), (.c (.int (0)))]))]
def L_draw : List Sm := [(.whl (.and (.cmp .NotEq (.gix 0 "great") (.lst [])) (.cmp .Eq (.ix (.gix 0 "great") (.c (.int (0)))) (.c (.int (0))))) [(.gput 0 "great" (.sl (.gix 0 "great") (some (.c (.int (1)))) none))]), (.iff (.cmp .NotEq (.gix 0 "great") (.lst [])) [(.asg (.n 3) (.ix (.gix 0 "great") (.c (.int (0))))), (.gput 0 "great" (.bin .Add (.lst [(.bin .FloorDiv (.v 3) (.v 1))]) (.sl (.gix 0 "great") (some (.c (.int (1)))) none))), (.ret (.bin .Mod (.bf .int [(.v 3)]) (.v 1)))] []), (.gput 0 "turns" (.bin .Add (.gix 0 "turns") (.c (.int (1))))), (.asg (.n 2) (.bin .Mod (.bf .int [(.bin .Add (.bin .Add (.bin .Mult (.gix 0 "seed") (.c (.int (48271)))) (.bin .Mult (.bin .Mult (.gix 0 "turns") (.gix 0 "turns")) (.c (.int (16807))))) (.gix 0 "turns"))]) (.c (.int (2147483647))))), (.asg (.n 2) (.bin .Mod (.bf .int [(.bin .Add (.bin .Mult (.v 2) (.c (.int (69621)))) (.c (.int (12345))))]) (.c (.int (2147483629))))), (.ret (.bin .Mod (.bin .FloorDiv (.bin .Mod (.bf .int [(.bin .Add (.bin .Mult (.v 2) (.c (.int (40014)))) (.gix 0 "turns"))]) (.c (.int (2147483563)))) (.c (.int (64)))) (.v 1)))]
def L_of (j : Nat) : List Sm := [(.ret (.ix (.v 1) (.call j [(.v 0), (.bf .len [(.v 1)])])))]
theorem bd_ap {α β : Type} (m : M α) (k : α → M β) (g : Gen) : (m.bd k) g = match m g with
  | .ok a g' => k a g'
  | .er c d g' => .er c d g'
  | .st => .st := rfl
theorem pu_ap {α : Type} (a : α) (g : Gen) : M.pu a g = .ok a g := rfl
def iL (ns : List Int) : D := .list (ns.map .int)
theorem gx_great {g : Gen} : gxD (some .gn) ("great" : Str) g = .ok (.d (iL g.great)) g := by simp [gxD, gGet, iL]
theorem gx_seed {g : Gen} : gxD (some .gn) ("seed" : Str) g = .ok (.d (.int g.seed)) g := by
  have h : ¬ ("seed" : Str) = "great" := by decide
  simp [gxD, gGet, h]
theorem gx_turns {g : Gen} : gxD (some .gn) ("turns" : Str) g = .ok (.d (.int g.turns)) g := by
  have h : ¬ ("turns" : Str) = "great" := by decide
  have h2 : ¬ ("turns" : Str) = "seed" := by decide
  simp [gxD, gGet, h, h2]
theorem mapM_ints : ∀ ns : List Int, (ns.map PyData.int).mapM intOf = some ns
  | [] => rfl
  | n :: ns => by simp [List.mapM_cons, mapM_ints ns, intOf]
theorem gp_great {g : Gen} {env : PD.Env} {ns : List Int} : gpD (some .gn) ("great" : Str) (iL ns) env g = .ok (.nx env) { g with great := ns } := by
  have h := mapM_ints ns
  rw [List.mapM_map] at h
  simp [gpD, gSet, iL, h]
theorem gp_turns {g : Gen} {env : PD.Env} {i : Int} : gpD (some .gn) ("turns" : Str) (.int i) env g = .ok (.nx env) { g with turns := i } := by
  have h : ¬ ("turns" : Str) = "great" := by decide
  have h2 : ¬ ("turns" : Str) = "seed" := by decide
  simp [gpD, gSet, intOf, h, h2]
theorem ints_lay : ∀ ns : List Int, PyData.canLayAll0 (ns.map .int) = true ∧ PyData.depthAll (ns.map .int) = 0
  | [] => by simp [PyData.canLayAll0, PyData.depthAll]
  | n :: ns => by simp [PyData.canLayAll0, PyData.depthAll, PyData.canLay0, PyData.depth, ints_lay ns]
theorem ints_sh (ns : List Int) : SeqAt.shaped (iL ns) = true := by
  unfold SeqAt.shaped iL
  simp [PyData.canLay0, PyData.depth, ints_lay ns]
theorem ints_nil (ns : List Int) : PyData.eqv (iL ns) (.list []) = ns.isEmpty := by
  unfold iL
  rw [eqv_nil]
  cases ns <;> rfl
theorem cut1 (x : D) (xs : List D) : cutD (x :: xs) (some 1) none = xs := by
  unfold cutD HT.sIx
  simp
theorem sl_ints (z : Int) (r : List Int) : slD (.d (iL (z :: r))) (some 1) none = some (iL r) := by
  simp [slD, asD, iL, cut1]
theorem ix_ints (z : Int) (r : List Int) : ixD (.d (iL (z :: r))) (.d (.int 0)) = some (.int z) := by
  simp [ixD, asD, iL, itD, atI, ixN]
structure G (k : Int) (g : Gen) : Prop where
  gl : g.great.length ≤ 63
  t0 : 0 ≤ g.turns
  tk : g.turns ≤ k
section
variable {F : Fns} {n : Nat}
def wT : E := .and (.cmp .NotEq (.gix 0 "great") (.lst [])) (.cmp .Eq (.ix (.gix 0 "great") (.c (.int 0))) (.c (.int 0)))
def wB : List Sm := [.gput 0 "great" (.sl (.gix 0 "great") (some (.c (.int 1))) none)]
theorem draw_whl {env : PD.Env} (he : env[0]? = some .gn) : ∀ (ns : List Int) (m : Nat) (g : Gen), g.great = ns → ns.length < m → ∃ ns', ns'.length ≤ ns.length ∧ (ns' = [] ∨ ∃ z r, ns' = z :: r ∧ z ≠ 0) ∧ whB (evT F wT) (exSs F n wB) m env g = .ok (.nx env) { g with great := ns' }
  | _, 0, _, _, hm => by omega
  | [], m + 1, g, hg, _ => by
    refine ⟨[], by simp, .inl rfl, ?_⟩
    have hsn : SeqAt.shaped (.list []) = true := by decide
    have hg' : ({ g with great := [] } : Gen) = g := by cases g; simp_all
    rw [hg']
    simp [whB, wT, ofO_some, M.pu_bd, exsx_nil, exsx_cons, exx_asg, exx_par, exx_ret, exx_retN, exx_iff, exx_for, exx_whl, exx_raise, exx_gput, evx_c, evx_v, evx_bin, evx_cmp, evx_chain, evx_and, evx_or, evx_not, evx_tup, evx_lst, evx_ix, evx_sl, evx_bf, evx_call, evx_gix, evx_ite, evsx_nil, evsx_cons, evT, evO, evOT, Env.get, bf_one, bf1, isi_str, isi_tup, isStr, isTupD, asD, truD, cmpD, cmpOp, eqE, nilEq, solid, endD, slOf, dOf, toInt, seqOf, seqE, seqS, seqJ, setTg, setTgs, List.mapM_cons, List.mapM_nil, Option.bind, Option.map, bd_ap, pu_ap, he, gx_great, hg, eqD, ints_sh, ints_nil, hsn, zero_s]
  | z :: r, m + 1, g, hg, hm => by
    have hsn : SeqAt.shaped (.list []) = true := by decide
    have shi : ∀ i : Int, SeqAt.shaped (.int i) = true := fun i => by simp [SeqAt.shaped, PyData.canLay0, PyData.depth]
    have eqi : ∀ i j : Int, PyData.eqv (.int i) (.int j) = (i == j) := fun i j => by simp [PyData.eqv]
    by_cases hz : z = 0
    · subst hz
      obtain ⟨ns', h1, h2, h3⟩ := draw_whl he r m { g with great := r } rfl (by simpa using hm)
      refine ⟨ns', by simp; omega, h2, ?_⟩
      rw [← h3]
      simp [whB, wT, wB, ofO_some, M.pu_bd, exsx_nil, exsx_cons, exx_asg, exx_par, exx_ret, exx_retN, exx_iff, exx_for, exx_whl, exx_raise, exx_gput, evx_c, evx_v, evx_bin, evx_cmp, evx_chain, evx_and, evx_or, evx_not, evx_tup, evx_lst, evx_ix, evx_sl, evx_bf, evx_call, evx_gix, evx_ite, evsx_nil, evsx_cons, evT, evO, evOT, Env.get, bf_one, bf1, isi_str, isi_tup, isStr, isTupD, asD, truD, cmpD, cmpOp, eqE, nilEq, solid, endD, slOf, dOf, toInt, seqOf, seqE, seqS, seqJ, setTg, setTgs, List.mapM_cons, List.mapM_nil, Option.bind, Option.map, bd_ap, pu_ap, he, gx_great, gp_great, hg, eqD, ints_sh, ints_nil, hsn, zero_s, ix_ints, sl_ints, shi, eqi]
    · refine ⟨z :: r, by simp, .inr ⟨z, r, rfl, hz⟩, ?_⟩
      have hg' : ({ g with great := z :: r } : Gen) = g := by cases g; simp_all
      rw [hg']
      simp [whB, wT, ofO_some, M.pu_bd, exsx_nil, exsx_cons, exx_asg, exx_par, exx_ret, exx_retN, exx_iff, exx_for, exx_whl, exx_raise, exx_gput, evx_c, evx_v, evx_bin, evx_cmp, evx_chain, evx_and, evx_or, evx_not, evx_tup, evx_lst, evx_ix, evx_sl, evx_bf, evx_call, evx_gix, evx_ite, evsx_nil, evsx_cons, evT, evO, evOT, Env.get, bf_one, bf1, isi_str, isi_tup, isStr, isTupD, asD, truD, cmpD, cmpOp, eqE, nilEq, solid, endD, slOf, dOf, toInt, seqOf, seqE, seqS, seqJ, setTg, setTgs, List.mapM_cons, List.mapM_nil, Option.bind, Option.map, bd_ap, pu_ap, he, gx_great, hg, eqD, ints_sh, ints_nil, hsn, zero_s, ix_ints, shi, eqi, hz]
end
theorem iL_add (z : Int) (r : List Int) (hl : (z :: r).length ≤ 63) : addD (.list [.int z]) (iL r) = some (iL (z :: r)) := by
  have : [PyData.int z].length + (r.map PyData.int).length ≤ sizeLine := by
    rw [sizeLine_eq]
    simp at hl ⊢
    omega
  simp only [iL, addD]
  rw [if_pos this]
  rfl
theorem draw {wd : Str → Option (Option Str)} {P : List Df} {i : Nat} (p : P[i]? = some (.tx 2 4 L_draw)) (f : Nat) (L : Int) (h0 : 0 < L) (h1 : L ≤ 1000000) {k : Int} (hk : k < 1000000) {g : Gen} (hg : G k g) : ∃ r g', callF wd 100 P (f + 1) i [.gn, .d (.int L)] g = .ok (.int r) g' ∧ 0 ≤ r ∧ r < L ∧ G (k + 1) g' := by
  have hsn : SeqAt.shaped (.list []) = true := by decide
  have hgl := hg.gl
  have ht0 := hg.t0
  have htk := hg.tk
  obtain ⟨ns', n1, n2, n3⟩ := draw_whl (F := ⟨callF wd 100 P f, wd⟩) (n := 100) (env := [.gn, .fz (.int L), .un, .un]) rfl g.great 100 g rfl (by omega)
  rw [callF_tx p]
  have hL2 : L < 1073741824 := by omega
  have st : exSs ⟨callF wd 100 P f, wd⟩ 100 L_draw [.gn, .fz (.int L), .un, .un] g = exSs ⟨callF wd 100 P f, wd⟩ 100 L_draw.tail [.gn, .fz (.int L), .un, .un] { g with great := ns' } := by
    have e : L_draw = .whl wT wB :: L_draw.tail := rfl
    rw [e, exsx_cons, bd_ap, exx_whl, n3]
    rfl
  have st2 : ((M.ofO (List.mapM slOf [.gn, .d (.int L)])).bd fun sl => (exSs ⟨callF wd 100 P f, wd⟩ 100 L_draw (sl ++ List.replicate (4 - 2) Sl.un)).bd endD) g = ((exSs ⟨callF wd 100 P f, wd⟩ 100 L_draw [.gn, .fz (.int L), .un, .un]).bd endD) g := rfl
  rw [st2, bd_ap, st]
  clear st st2 n3
  rcases n2 with rfl | ⟨z, r, rfl, hz⟩
  · have b1 : -18446744073709551616 < g.turns + 1 ∧ g.turns + 1 < 18446744073709551616 := by omega
    refine ⟨((((g.seed * 48271 + (g.turns + 1) * (g.turns + 1) * 16807 + (g.turns + 1)) % 2147483647) * 69621 + 12345) % 2147483629 * 40014 + (g.turns + 1)) % 2147483563 / 64 % L, { g with great := [], turns := g.turns + 1 }, ?_, Int.emod_nonneg _ (by omega), Int.emod_lt_of_pos _ h0, ⟨by simp, by simp; omega, by simp; omega⟩⟩
    simp [L_draw, ofO_some, M.pu_bd, exsx_nil, exsx_cons, exx_asg, exx_par, exx_ret, exx_retN, exx_iff, exx_for, exx_whl, exx_raise, exx_gput, evx_c, evx_v, evx_bin, evx_cmp, evx_chain, evx_and, evx_or, evx_not, evx_tup, evx_lst, evx_ix, evx_sl, evx_bf, evx_call, evx_gix, evx_ite, evsx_nil, evsx_cons, evT, evO, evOT, Env.get, bf_one, bf1, isi_str, isi_tup, isStr, isTupD, asD, truD, cmpD, cmpOp, eqE, nilEq, solid, endD, slOf, dOf, toInt, seqOf, seqE, seqS, seqJ, setTg, setTgs, List.mapM_cons, List.mapM_nil, Option.bind, Option.map, bd_ap, pu_ap, gx_great, gx_seed, gx_turns, gp_turns, eqD, ints_sh, ints_nil, hsn, zero_s, binD, opD, addD, mulD, modD, fdivD, intD, h0, hL2, b1]
  · have nl : (z :: r).length ≤ 63 := by omega
    refine ⟨z % L, { g with great := z / L :: r }, ?_, Int.emod_nonneg _ (by omega), Int.emod_lt_of_pos _ h0, ⟨by simpa using nl, by simpa using ht0, by simp; omega⟩⟩
    have ad := iL_add (z / L) r (by simpa using nl)
    simp [L_draw, ofO_some, M.pu_bd, exsx_nil, exsx_cons, exx_asg, exx_par, exx_ret, exx_retN, exx_iff, exx_for, exx_whl, exx_raise, exx_gput, evx_c, evx_v, evx_bin, evx_cmp, evx_chain, evx_and, evx_or, evx_not, evx_tup, evx_lst, evx_ix, evx_sl, evx_bf, evx_call, evx_gix, evx_ite, evsx_nil, evsx_cons, evT, evO, evOT, Env.get, bf_one, bf1, isi_str, isi_tup, isStr, isTupD, asD, truD, cmpD, cmpOp, eqE, nilEq, solid, endD, slOf, dOf, toInt, seqOf, seqE, seqS, seqJ, setTg, setTgs, List.mapM_cons, List.mapM_nil, Option.bind, Option.map, bd_ap, pu_ap, gx_great, gp_great, eqD, ints_sh, ints_nil, hsn, zero_s, one_s, ix_ints, sl_ints, binD, opD, modD, fdivD, intD, ad, h0, hL2]
theorem itD_list {xs : List D} {r : Int} (h0 : 0 ≤ r) (h1 : r < xs.length) : ∃ x, x ∈ xs ∧ itD (.list xs) (.int r) = some x := by
  have hn : r.toNat < xs.length := by omega
  have hneg : ¬ r < 0 := by omega
  refine ⟨xs[r.toNat], List.getElem_mem hn, ?_⟩
  simp [itD, atI, ixN, h0, h1, hn]
theorem law_of {wd : Str → Option (Option Str)} {P : List Df} {i j : Nat} (p : P[j]? = some (.tx 2 4 L_draw)) (q : P[i]? = some (.tx 2 2 (L_of j))) (f : Nat) {xs : List D} (h0 : xs ≠ []) (h1 : xs.length ≤ 1000) {k : Int} (hk : k < 1000000) {g : Gen} (hg : G k g) : ∃ x g', callF wd 100 P (f + 2) i [.gn, .d (.list xs)] g = .ok x g' ∧ x ∈ xs ∧ G (k + 1) g' := by
  have hl : 0 < xs.length := List.length_pos_iff.mpr h0
  obtain ⟨r, g', e, r0, r1, hg'⟩ := draw (wd := wd) p f xs.length (by omega) (by omega) hk hg
  obtain ⟨x, hx, ex⟩ := itD_list r0 r1
  refine ⟨x, g', ?_, hx, hg'⟩
  rw [callF_tx q]
  simp [L_of, ofO_some, M.pu_bd, exsx_nil, exsx_cons, exx_asg, exx_par, exx_ret, exx_retN, exx_iff, exx_for, exx_whl, exx_raise, exx_gput, evx_c, evx_v, evx_bin, evx_cmp, evx_chain, evx_and, evx_or, evx_not, evx_tup, evx_lst, evx_ix, evx_sl, evx_bf, evx_call, evx_gix, evx_ite, evsx_nil, evsx_cons, evT, evO, evOT, Env.get, bf_one, bf1, isi_str, isi_tup, isStr, isTupD, asD, truD, cmpD, cmpOp, eqE, nilEq, solid, endD, slOf, dOf, toInt, seqOf, seqE, seqS, seqJ, setTg, setTgs, List.mapM_cons, List.mapM_nil, Option.bind, Option.map, bd_ap, pu_ap, lenD, e, ixD, ex]
theorem rng_some {n : Int} (h : 0 ≤ n) (h1 : n ≤ 1000000) : ∃ ds, rngD 0 n = some ds ∧ ds.length = n.toNat := by
  have c : -(2 ^ 62) ≤ (0 : Int) ∧ (0 : Int) < 2 ^ 62 ∧ -(2 ^ 62) ≤ n ∧ n < 2 ^ 62 := by omega
  refine ⟨_, by unfold rngD; rw [if_pos c], by simp⟩
theorem mapB_st {h : D → M (Option D)} {P : D → Prop} {c K : Int} (hc : 0 ≤ c) : ∀ (ds : List D) (k : Int) (g : Gen), G k g → k + c * ds.length < K → (∀ d ∈ ds, ∀ k g, k < K → G k g → ∃ y g', h d g = .ok (some y) g' ∧ P y ∧ G (k + c) g') → ∃ ys g', mapB h ds g = .ok ys g' ∧ ys.length = ds.length ∧ (∀ y ∈ ys, P y) ∧ G (k + c * ds.length) g'
  | [], k, g, hg, _, _ => ⟨[], g, rfl, rfl, by simp, by simpa using hg⟩
  | d :: ds, k, g, hg, hk, H => by
    have e : c * ((d :: ds).length : Int) = c + c * ds.length := by
      rw [List.length_cons, Int.natCast_add, Int.mul_add]
      simp [Int.add_comm]
    have hp : 0 ≤ c * (ds.length : Int) := Int.mul_nonneg hc (by omega)
    rw [e] at hk ⊢
    obtain ⟨y, g1, e1, p1, hg1⟩ := H d (by simp) k g (by omega) hg
    obtain ⟨ys, g2, e2, l2, p2, hg2⟩ := mapB_st hc ds (k + c) g1 hg1 (by omega) fun x hx => H x (by simp [hx])
    refine ⟨y :: ys, g2, ?_, by simp [l2], ?_, by rw [← Int.add_assoc]; exact hg2⟩
    · simp [mapB, bd_ap, e1, e2, pu_ap]
    · intro z hz
      rcases List.mem_cons.mp hz with rfl | hz
      · exact p1
      · exact p2 z hz
theorem ev_lcS {F : Fns} {env : PD.Env} {tg : Tg} {it : I} {t : Option E} {e : E} {w : List Nat} {ds ys : List D} {g g1 g2 : Gen} (hi : evI F it env g = .ok ds g1) (hm : mapB (lcF F env tg t e w) ds g1 = .ok ys g2) (hl : ys.length ≤ sizeLine) : ev F (.lc tg it t e w) env g = .ok (.d (.list ys)) g2 := by
  have h : ev F (.lc tg it t e w) env = (evI F it env).bd fun ds => (mapB (lcF F env tg t e w) ds).bd fun ys => if ys.length ≤ sizeLine then .pu (.d (.list ys)) else .stuck := by
    simp only [ev]; rfl
  rw [h, bd_ap, hi]
  show ((mapB (lcF F env tg t e w) ds).bd _) g1 = _
  rw [bd_ap, hm]
  simp only [if_pos hl]
  rfl
theorem for_seed {B : PD.Env → M Fl} {a : Sl} (hB : ∀ (i j : Int), ∃ s, B [a, .fz (.int i), .fz (.int j)] = .pu (.nx [a, .fz (.int s), .fz (.int j)])) : ∀ (ns : List Int) (i : Int) (x : Sl), ∃ s x', forB (.n 2) B (ns.map .int) [a, .fz (.int i), x] = .pu (.nx [a, .fz (.int s), x'])
  | [], i, x => ⟨i, x, rfl⟩
  | n :: ns, i, x => by
    obtain ⟨s, hs⟩ := hB i n
    obtain ⟨s2, x2, e⟩ := for_seed hB ns s (.fz (.int n))
    refine ⟨s2, x2, ?_⟩
    rw [← e]
    simp [forB, setTg, ofO_some, M.pu_bd, hs]
def bigD (t : Int) : D → Option D
  | .int n => if t ≤ n then some (.int n) else none
  | _ => none
theorem big_map (t : Int) : ∀ ns : List Int, (ns.map PyData.int).filterMap (bigD t) = (ns.filter fun n => decide (t ≤ n)).map .int
  | [] => rfl
  | n :: ns => by
    have h := big_map t ns
    by_cases c : t ≤ n
    · have e : bigD t (.int n) = some (.int n) := by simp [bigD, c]
      rw [List.map_cons, List.filterMap_cons, e, h, List.filter_cons]
      simp [c]
    · have e : bigD t (.int n) = none := by simp [bigD, c]
      rw [List.map_cons, List.filterMap_cons, e, h, List.filter_cons]
      simp [c]
theorem law_begun {wd : Str → Option (Option Str)} {P : List Df} {i : Nat} {s0 : Int} (p : P[i]? = some (.tx 1 3 (L_begun s0))) (f : Nat) (ns : List Int) (hl : ns.length ≤ 63) : ∃ gg, callF wd 100 P (f + 1) i [.sc ns] = .pu (gDict gg) ∧ G 0 gg := by
  have p18 : powD (.int 10) (.int 18) = some (.int (10 ^ 18)) := by
    have c : (0 : Int) ≤ 18 ∧ (18 : Int) ≤ 1000000 ∧ (10 : Int).natAbs < 2 ^ 64 := by decide
    simp only [powD]
    rw [if_pos c]
    rfl
  obtain ⟨s, x', hf⟩ := for_seed (B := exSs ⟨callF wd 100 P f, wd⟩ 100 [(.asg (.n 1) (.bin .Mod (.bf .int [(.bin .Add (.bin .Add (.bin .Mult (.v 1) (.c (.int (69621)))) (.bin .Mod (.bf .int [(.v 2)]) (.c (.int (2147483629))))) (.c (.int (7))))]) (.c (.int (2147483647)))))]) (a := .sc ns) (fun i j => ⟨(i * 69621 + j % 2147483629 + 7) % 2147483647, by
    simp [ofO_some, M.pu_bd, exsx_nil, exsx_cons, exx_asg, exx_par, exx_ret, exx_retN, exx_iff, exx_for, exx_whl, exx_raise, exx_gput, evx_c, evx_v, evx_bin, evx_cmp, evx_chain, evx_and, evx_or, evx_not, evx_tup, evx_lst, evx_ix, evx_sl, evx_bf, evx_call, evx_gix, evx_ite, evsx_nil, evsx_cons, evT, evO, evOT, Env.get, bf_one, bf1, isi_str, isi_tup, isStr, isTupD, asD, truD, cmpD, cmpOp, eqE, nilEq, solid, endD, slOf, dOf, toInt, seqOf, seqE, seqS, seqJ, setTg, setTgs, List.mapM_cons, List.mapM_nil, Option.bind, Option.map, binD, opD, addD, mulD, modD, intD]⟩) ns s0 .un
  have hm : mapB (lcF ⟨callF wd 100 P f, wd⟩ [.sc ns, .fz (.int s), x'] (.n 2) (some (.cmp .GtE (.v 2) (.bin .Pow (.c (.int 10)) (.c (.int 18))))) (.v 2) [2]) (ns.map .int) = .pu ((ns.filter fun n => decide ((10 : Int) ^ 18 ≤ n)).map .int) := by
    rw [← big_map]
    refine mapB_pu fun d hd => ?_
    obtain ⟨n, hn, rfl⟩ := List.mem_map.mp hd
    by_cases c : (10 : Int) ^ 18 ≤ n
    · simp only [bigD, if_pos c]
      have c' : (1000000000000000000 : Int) ≤ n := by simpa using c
      simp [lcF, wipeE, ofO_some, M.pu_bd, exsx_nil, exsx_cons, exx_asg, exx_par, exx_ret, exx_retN, exx_iff, exx_for, exx_whl, exx_raise, exx_gput, evx_c, evx_v, evx_bin, evx_cmp, evx_chain, evx_and, evx_or, evx_not, evx_tup, evx_lst, evx_ix, evx_sl, evx_bf, evx_call, evx_gix, evx_ite, evsx_nil, evsx_cons, evT, evO, evOT, Env.get, bf_one, bf1, isi_str, isi_tup, isStr, isTupD, asD, truD, cmpD, cmpOp, eqE, nilEq, solid, endD, slOf, dOf, toInt, seqOf, seqE, seqS, seqJ, setTg, setTgs, List.mapM_cons, List.mapM_nil, Option.bind, Option.map, binD, opD, p18, leD, c', calm_pu]
    · simp only [bigD, if_neg c]
      have c' : ¬ (1000000000000000000 : Int) ≤ n := by simpa using c
      simp [lcF, wipeE, ofO_some, M.pu_bd, exsx_nil, exsx_cons, exx_asg, exx_par, exx_ret, exx_retN, exx_iff, exx_for, exx_whl, exx_raise, exx_gput, evx_c, evx_v, evx_bin, evx_cmp, evx_chain, evx_and, evx_or, evx_not, evx_tup, evx_lst, evx_ix, evx_sl, evx_bf, evx_call, evx_gix, evx_ite, evsx_nil, evsx_cons, evT, evO, evOT, Env.get, bf_one, bf1, isi_str, isi_tup, isStr, isTupD, asD, truD, cmpD, cmpOp, eqE, nilEq, solid, endD, slOf, dOf, toInt, seqOf, seqE, seqS, seqJ, setTg, setTgs, List.mapM_cons, List.mapM_nil, Option.bind, Option.map, binD, opD, p18, leD, c', calm_pu]
  have hfl : (ns.filter fun n => decide ((10 : Int) ^ 18 ≤ n)).length ≤ 63 := Nat.le_trans (List.length_filter_le _ _) hl
  have el := ev_lc (F := ⟨callF wd 100 P f, wd⟩) (env := [.sc ns, .fz (.int s), x']) (it := .e (.v 0)) (by simp [evI, ofO_some, M.pu_bd, exsx_nil, exsx_cons, exx_asg, exx_par, exx_ret, exx_retN, exx_iff, exx_for, exx_whl, exx_raise, exx_gput, evx_c, evx_v, evx_bin, evx_cmp, evx_chain, evx_and, evx_or, evx_not, evx_tup, evx_lst, evx_ix, evx_sl, evx_bf, evx_call, evx_gix, evx_ite, evsx_nil, evsx_cons, evT, evO, evOT, Env.get, bf_one, bf1, isi_str, isi_tup, isStr, isTupD, asD, truD, cmpD, cmpOp, eqE, nilEq, solid, endD, slOf, dOf, toInt, seqOf, seqE, seqS, seqJ, setTg, setTgs, List.mapM_cons, List.mapM_nil, Option.bind, Option.map, seqE]) hm (by rw [List.length_map, sizeLine_eq]; omega)
  refine ⟨⟨ns.filter fun n => decide ((10 : Int) ^ 18 ≤ n), s, 0⟩, ?_, ⟨hfl, by simp, by simp⟩⟩
  rw [callF_tx p]
  have ed : ∀ es env, ev ⟨callF wd 100 P f, wd⟩ (.dict ["great", "seed", "turns"] es) env = (evs ⟨callF wd 100 P f, wd⟩ es env).bd fun xs => (M.ofO (xs.mapM dOf)).bd fun ds => if (["great", "seed", "turns"] : List Str).length = ds.length ∧ (["great", "seed", "turns"] : List Str).Nodup ∧ (["great", "seed", "turns"] : List Str).length ≤ 15 then .pu (.d (.dict ((["great", "seed", "turns"] : List Str).map PyData.str |>.zip ds))) else .stuck := fun es env => by simp only [ev]
  have nd : (["great", "seed", "turns"] : List Str).Nodup := by decide
  simp [L_begun, ofO_some, M.pu_bd, exsx_nil, exsx_cons, exx_asg, exx_par, exx_ret, exx_retN, exx_iff, exx_for, exx_whl, exx_raise, exx_gput, evx_c, evx_v, evx_bin, evx_cmp, evx_chain, evx_and, evx_or, evx_not, evx_tup, evx_lst, evx_ix, evx_sl, evx_bf, evx_call, evx_gix, evx_ite, evsx_nil, evsx_cons, evT, evO, evOT, Env.get, bf_one, bf1, isi_str, isi_tup, isStr, isTupD, asD, truD, cmpD, cmpOp, eqE, nilEq, solid, endD, slOf, dOf, toInt, seqOf, seqE, seqS, seqJ, setTg, setTgs, List.mapM_cons, List.mapM_nil, Option.bind, Option.map, evJ, hf, el, ed, nd, gDict]
theorem forB_st {tg : Nat} {B : PD.Env → M Fl} {c K : Int} {I : PD.Env → Prop} (hc : 0 ≤ c) (hs : ∀ env d, I env → ∃ env', setTg env (.n tg) d = some env' ∧ I env' ∧ env'[tg]? = some (.fz d)) : ∀ (ds : List D) (k : Int) (g : Gen) (env : PD.Env), I env → G k g → k + c * ds.length < K → (∀ d ∈ ds, ∀ env k g, I env → env[tg]? = some (.fz d) → k < K → G k g → ∃ env' g', B env g = .ok (.nx env') g' ∧ I env' ∧ G (k + c) g') → ∃ env' g', forB (.n tg) B ds env g = .ok (.nx env') g' ∧ I env' ∧ G (k + c * ds.length) g'
  | [], k, g, env, hi, hg, _, _ => ⟨env, g, rfl, hi, by simpa using hg⟩
  | d :: ds, k, g, env, hi, hg, hk, H => by
    have e : c * ((d :: ds).length : Int) = c + c * ds.length := by
      rw [List.length_cons, Int.natCast_add, Int.mul_add]
      simp [Int.add_comm]
    have hp : 0 ≤ c * (ds.length : Int) := Int.mul_nonneg hc (by omega)
    rw [e] at hk ⊢
    obtain ⟨env1, s1, s2, s3⟩ := hs env d hi
    obtain ⟨env2, g2, e2, i2, hg2⟩ := H d (by simp) env1 k g s2 s3 (by omega) hg
    obtain ⟨env3, g3, e3, i3, hg3⟩ := forB_st hc hs ds (k + c) g2 env2 i2 hg2 (by omega) fun x hx => H x (by simp [hx])
    refine ⟨env3, g3, ?_, i3, by rw [← Int.add_assoc]; exact hg3⟩
    show ((M.ofO (setTg env (.n tg) d)).bd _) g = _
    rw [s1, bd_ap]
    show ((B env1).bd _) g = _
    rw [bd_ap, e2]
    exact e3
theorem sq {F : Fns} {n : Nat} {s : Sm} {r : List Sm} {env e : PD.Env} {g g' : Gen} (h : exS F n s env g = .ok (.nx e) g') : exSs F n (s :: r) env g = exSs F n r e g' := by
  rw [exsx_cons, bd_ap, h]
end PD
end
section
set_option Elab.async false
set_option linter.all false
set_option maxRecDepth 100000
set_option maxHeartbeats 4000000
namespace PD
open PySem PySem.Spec L2

/-! ### the program's setups, for any law -/
def L_is_word : List Sm := [(.ret (.and (.bf (.isinst ["str"]) [(.v 0)]) (.cmp .In (.v 0) (.v 1))))]
def L_is_tuple : List Sm := [(.ret (.and (.bf (.isinst ["tuple"]) [(.v 0)]) (.chain .LtE .LtE (.v 1) (.bf .len [(.v 0)]) (.v 2))))]
def L_is_kind : List Sm := [(.ret (.and (.call 1 [(.v 0), (.c (.int (1))), (.c (.int (5)))]) (.bf .all [(.lc (.n 1) (.e (.v 0)) none (.call 0 [(.v 1), (.c (.tuple [(.str "group"), (.str "front"), (.str "read"), (.str "write"), (.str "raw"), (.str "plain"), (.str "hold"), (.str "again")]))]) [1])])))]
def L_is_script : List Sm := [(.ret (.and (.call 1 [(.v 0), (.c (.int (0))), (.c (.int (6)))]) (.bf .all [(.lc (.n 1) (.e (.v 0)) none (.call 0 [(.v 1), (.c (.tuple [(.str "group"), (.str "give"), (.str "go"), (.str "wait"), (.str "listen"), (.str "take"), (.str "plain")]))]) [1])])))]
def L_are_rules : List Sm := [(.iff (.not (.call 1 [(.v 0), (.c (.int (3))), (.c (.int (3)))])) [(.ret (.c (.bool false)))] []), (.asg (.t [1, 2, 3]) (.v 0)), (.ret (.and (.call 0 [(.v 1), (.c (.tuple [(.str "stop"), (.str "fail"), (.str "wait")]))]) (.and (.call 0 [(.v 2), (.c (.tuple [(.str "go"), (.str "stop")]))]) (.call 0 [(.v 3), (.c (.tuple [(.str "go"), (.str "stop")]))]))))]
def L_kinds_fault : List Sm := [(.iff (.not (.call 1 [(.v 0), (.c (.int (1))), (.c (.int (3)))])) [(.ret (.tup [(.c (.str "kinds"))]))] []), (.for_ (.t [1, 2]) (.enum (.v 0)) [(.iff (.not (.call 2 [(.v 2)])) [(.ret (.tup [(.c (.str "kinds")), (.v 1)]))] [])]), (.ret (.c .none))]
def L_shell_fault : List Sm := [(.iff (.not (.call 1 [(.v 0), (.bf .len [(.c (.tuple [(.str "fore"), (.str "back"), (.str "front"), (.str "behind")]))]), (.bf .len [(.c (.tuple [(.str "fore"), (.str "back"), (.str "front"), (.str "behind")]))])])) [(.ret (.tup [(.c (.str "shell"))]))] []), (.for_ (.t [1, 2]) (.enum (.v 0)) [(.iff (.not (.call 3 [(.v 2)])) [(.ret (.tup [(.c (.str "shell")), (.v 1)]))] [])]), (.ret (.c .none))]
def L_setup_fault : List Sm := [(.iff (.not (.call 1 [(.v 0), (.c (.int (3))), (.c (.int (3)))])) [(.ret (.tup []))] []), (.asg (.t [2, 3, 4]) (.v 0)), (.asg (.n 1) (.call 5 [(.v 2)])), (.iff (.cmp .IsNot (.v 1) (.c .none)) [(.ret (.v 1))] []), (.iff (.not (.call 4 [(.v 3)])) [(.ret (.tup [(.c (.str "rules"))]))] []), (.ret (.call 6 [(.v 4)]))]
def L_need_setup : List Sm := [(.asg (.n 1) (.call 7 [(.v 0)])), (.iff (.cmp .IsNot (.v 1) (.c .none)) [(.raise "BadSetup" (.v 1))] []), (.ret (.v 0))]
structure Su (wd : Str → Option (Option Str)) (P : List Df) : Prop where
  h0 : P[0]? = some (.tx 2 2 L_is_word)
  h1 : P[1]? = some (.tx 3 3 L_is_tuple)
  h2 : P[2]? = some (.tx 1 2 L_is_kind)
  h3 : P[3]? = some (.tx 1 2 L_is_script)
  h4 : P[4]? = some (.tx 1 4 L_are_rules)
  h5 : P[5]? = some (.tx 1 3 L_kinds_fault)
  h6 : P[6]? = some (.tx 1 3 L_shell_fault)
  h7 : P[7]? = some (.tx 1 5 L_setup_fault)
section
variable {wd : Str → Option (Option Str)} {P : List Df} (S : Su wd P)
include S

theorem is_word (f : Nat) (d : D) (ws : List Str) : callF wd 100 P (f + 1) 0 [.d d, .d (.tuple (ws.map .str))] = .pu (.bool (wordB d ws)) := by
  rw [callF_tx S.h0]
  cases d with
  | str x => simp [L_is_word, ofO_some, M.pu_bd, exsx_nil, exsx_cons, exx_asg, exx_par, exx_ret, exx_retN, exx_iff, exx_for, exx_whl, exx_raise, exx_gput, evx_c, evx_v, evx_bin, evx_cmp, evx_chain, evx_and, evx_or, evx_not, evx_tup, evx_lst, evx_ix, evx_sl, evx_bf, evx_call, evx_gix, evx_ite, evsx_nil, evsx_cons, evT, evO, evOT, Env.get, bf_one, bf1, isi_str, isi_tup, isStr, isTupD, asD, truD, cmpD, cmpOp, eqE, nilEq, solid, endD, slOf, dOf, toInt, seqOf, seqE, seqS, seqJ, setTg, setTgs, List.mapM_cons, List.mapM_nil, Option.bind, Option.map, mem_strs, wordB]
  | _ => simp [L_is_word, ofO_some, M.pu_bd, exsx_nil, exsx_cons, exx_asg, exx_par, exx_ret, exx_retN, exx_iff, exx_for, exx_whl, exx_raise, exx_gput, evx_c, evx_v, evx_bin, evx_cmp, evx_chain, evx_and, evx_or, evx_not, evx_tup, evx_lst, evx_ix, evx_sl, evx_bf, evx_call, evx_gix, evx_ite, evsx_nil, evsx_cons, evT, evO, evOT, Env.get, bf_one, bf1, isi_str, isi_tup, isStr, isTupD, asD, truD, cmpD, cmpOp, eqE, nilEq, solid, endD, slOf, dOf, toInt, seqOf, seqE, seqS, seqJ, setTg, setTgs, List.mapM_cons, List.mapM_nil, Option.bind, Option.map, wordB]
def tupB (d : D) (lo hi : Int) : Bool := match d with
  | .tuple xs => decide (lo ≤ xs.length ∧ xs.length ≤ hi)
  | _ => false
theorem is_tuple (f : Nat) (d : D) (lo hi : Int) : callF wd 100 P (f + 1) 1 [.d d, .d (.int lo), .d (.int hi)] = .pu (.bool (tupB d lo hi)) := by
  rw [callF_tx S.h1]
  cases d with
  | tuple xs =>
    by_cases h : lo ≤ (xs.length : Int)
    · simp [L_is_tuple, ofO_some, M.pu_bd, exsx_nil, exsx_cons, exx_asg, exx_par, exx_ret, exx_retN, exx_iff, exx_for, exx_whl, exx_raise, exx_gput, evx_c, evx_v, evx_bin, evx_cmp, evx_chain, evx_and, evx_or, evx_not, evx_tup, evx_lst, evx_ix, evx_sl, evx_bf, evx_call, evx_gix, evx_ite, evsx_nil, evsx_cons, evT, evO, evOT, Env.get, bf_one, bf1, isi_str, isi_tup, isStr, isTupD, asD, truD, cmpD, cmpOp, eqE, nilEq, solid, endD, slOf, dOf, toInt, seqOf, seqE, seqS, seqJ, setTg, setTgs, List.mapM_cons, List.mapM_nil, Option.bind, Option.map, leD, lenD, tupB, h]
    · simp [L_is_tuple, ofO_some, M.pu_bd, exsx_nil, exsx_cons, exx_asg, exx_par, exx_ret, exx_retN, exx_iff, exx_for, exx_whl, exx_raise, exx_gput, evx_c, evx_v, evx_bin, evx_cmp, evx_chain, evx_and, evx_or, evx_not, evx_tup, evx_lst, evx_ix, evx_sl, evx_bf, evx_call, evx_gix, evx_ite, evsx_nil, evsx_cons, evT, evO, evOT, Env.get, bf_one, bf1, isi_str, isi_tup, isStr, isTupD, asD, truD, cmpD, cmpOp, eqE, nilEq, solid, endD, slOf, dOf, toInt, seqOf, seqE, seqS, seqJ, setTg, setTgs, List.mapM_cons, List.mapM_nil, Option.bind, Option.map, leD, lenD, tupB, h]
  | _ => simp [L_is_tuple, ofO_some, M.pu_bd, exsx_nil, exsx_cons, exx_asg, exx_par, exx_ret, exx_retN, exx_iff, exx_for, exx_whl, exx_raise, exx_gput, evx_c, evx_v, evx_bin, evx_cmp, evx_chain, evx_and, evx_or, evx_not, evx_tup, evx_lst, evx_ix, evx_sl, evx_bf, evx_call, evx_gix, evx_ite, evsx_nil, evsx_cons, evT, evO, evOT, Env.get, bf_one, bf1, isi_str, isi_tup, isStr, isTupD, asD, truD, cmpD, cmpOp, eqE, nilEq, solid, endD, slOf, dOf, toInt, seqOf, seqE, seqS, seqJ, setTg, setTgs, List.mapM_cons, List.mapM_nil, Option.bind, Option.map, tupB]

def acts : List Str := ["group", "front", "read", "write", "raw", "plain", "hold", "again"]
def steps : List Str := ["group", "give", "go", "wait", "listen", "take", "plain"]
def reads : List Str := ["stop", "fail", "wait"]
def lets : List Str := ["go", "stop"]
omit S in
theorem le_small {n : Nat} (h : (n : Int) ≤ 10) : n ≤ sizeLine := by rw [sizeLine_eq]; omega
theorem is_kind (f : Nat) (d : D) : callF wd 100 P (f + 2) 2 [.d d] = .pu (.bool (wordsB 1 5 acts d)) := by
  have hw := fun d => is_word S f d acts
  simp only [acts, List.map_cons, List.map_nil] at hw
  rw [callF_tx S.h2]
  cases d with
  | tuple xs =>
    by_cases h : (1 : Int) ≤ xs.length ∧ (xs.length : Int) ≤ 5
    · have hm := ev_lc (F := ⟨callF wd 100 P (f + 1), wd⟩) (env := [.fz (.tuple xs), .un]) (tg := .n 1) (it := .e (.v 0)) (t := none) (e := .call 0 [(.v 1), (.c (.tuple [(.str "group"), (.str "front"), (.str "read"), (.str "write"), (.str "raw"), (.str "plain"), (.str "hold"), (.str "again")]))]) (w := [1]) (ds := xs) (ys := xs.map fun d => .bool (wordB d acts))
        (by simp [evI, ofO_some, M.pu_bd, exsx_nil, exsx_cons, exx_asg, exx_par, exx_ret, exx_retN, exx_iff, exx_for, exx_whl, exx_raise, exx_gput, evx_c, evx_v, evx_bin, evx_cmp, evx_chain, evx_and, evx_or, evx_not, evx_tup, evx_lst, evx_ix, evx_sl, evx_bf, evx_call, evx_gix, evx_ite, evsx_nil, evsx_cons, evT, evO, evOT, Env.get, bf_one, bf1, isi_str, isi_tup, isStr, isTupD, asD, truD, cmpD, cmpOp, eqE, nilEq, solid, endD, slOf, dOf, toInt, seqOf, seqE, seqS, seqJ, setTg, setTgs, List.mapM_cons, List.mapM_nil, Option.bind, Option.map]) (by
          rw [mapB_pu (h := fun d => some (.bool (wordB d acts))), filterMap_some]
          intro d _
          simp [lcF, ofO_some, M.pu_bd, exsx_nil, exsx_cons, exx_asg, exx_par, exx_ret, exx_retN, exx_iff, exx_for, exx_whl, exx_raise, exx_gput, evx_c, evx_v, evx_bin, evx_cmp, evx_chain, evx_and, evx_or, evx_not, evx_tup, evx_lst, evx_ix, evx_sl, evx_bf, evx_call, evx_gix, evx_ite, evsx_nil, evsx_cons, evT, evO, evOT, Env.get, bf_one, bf1, isi_str, isi_tup, isStr, isTupD, asD, truD, cmpD, cmpOp, eqE, nilEq, solid, endD, slOf, dOf, toInt, seqOf, seqE, seqS, seqJ, setTg, setTgs, List.mapM_cons, List.mapM_nil, Option.bind, Option.map, wipeE, hw, calm_pu, acts]) (by simpa using le_small (by omega))
      simp [L_is_kind, ofO_some, M.pu_bd, exsx_nil, exsx_cons, exx_asg, exx_par, exx_ret, exx_retN, exx_iff, exx_for, exx_whl, exx_raise, exx_gput, evx_c, evx_v, evx_bin, evx_cmp, evx_chain, evx_and, evx_or, evx_not, evx_tup, evx_lst, evx_ix, evx_sl, evx_bf, evx_call, evx_gix, evx_ite, evsx_nil, evsx_cons, evT, evO, evOT, Env.get, bf_one, bf1, isi_str, isi_tup, isStr, isTupD, asD, truD, cmpD, cmpOp, eqE, nilEq, solid, endD, slOf, dOf, toInt, seqOf, seqE, seqS, seqJ, setTg, setTgs, List.mapM_cons, List.mapM_nil, Option.bind, Option.map, is_tuple S, tupB, h, hm, all_bools, wordsB]
    · simp [L_is_kind, ofO_some, M.pu_bd, exsx_nil, exsx_cons, exx_asg, exx_par, exx_ret, exx_retN, exx_iff, exx_for, exx_whl, exx_raise, exx_gput, evx_c, evx_v, evx_bin, evx_cmp, evx_chain, evx_and, evx_or, evx_not, evx_tup, evx_lst, evx_ix, evx_sl, evx_bf, evx_call, evx_gix, evx_ite, evsx_nil, evsx_cons, evT, evO, evOT, Env.get, bf_one, bf1, isi_str, isi_tup, isStr, isTupD, asD, truD, cmpD, cmpOp, eqE, nilEq, solid, endD, slOf, dOf, toInt, seqOf, seqE, seqS, seqJ, setTg, setTgs, List.mapM_cons, List.mapM_nil, Option.bind, Option.map, is_tuple S, tupB, h, wordsB]
  | _ => simp [L_is_kind, ofO_some, M.pu_bd, exsx_nil, exsx_cons, exx_asg, exx_par, exx_ret, exx_retN, exx_iff, exx_for, exx_whl, exx_raise, exx_gput, evx_c, evx_v, evx_bin, evx_cmp, evx_chain, evx_and, evx_or, evx_not, evx_tup, evx_lst, evx_ix, evx_sl, evx_bf, evx_call, evx_gix, evx_ite, evsx_nil, evsx_cons, evT, evO, evOT, Env.get, bf_one, bf1, isi_str, isi_tup, isStr, isTupD, asD, truD, cmpD, cmpOp, eqE, nilEq, solid, endD, slOf, dOf, toInt, seqOf, seqE, seqS, seqJ, setTg, setTgs, List.mapM_cons, List.mapM_nil, Option.bind, Option.map, is_tuple S, tupB, wordsB]
theorem is_script (f : Nat) (d : D) : callF wd 100 P (f + 2) 3 [.d d] = .pu (.bool (wordsB 0 6 steps d)) := by
  have hw := fun d => is_word S f d steps
  simp only [steps, List.map_cons, List.map_nil] at hw
  rw [callF_tx S.h3]
  cases d with
  | tuple xs =>
    by_cases h : (0 : Int) ≤ xs.length ∧ (xs.length : Int) ≤ 6
    · have hm := ev_lc (F := ⟨callF wd 100 P (f + 1), wd⟩) (env := [.fz (.tuple xs), .un]) (tg := .n 1) (it := .e (.v 0)) (t := none) (e := .call 0 [(.v 1), (.c (.tuple [(.str "group"), (.str "give"), (.str "go"), (.str "wait"), (.str "listen"), (.str "take"), (.str "plain")]))]) (w := [1]) (ds := xs) (ys := xs.map fun d => .bool (wordB d steps))
        (by simp [evI, ofO_some, M.pu_bd, exsx_nil, exsx_cons, exx_asg, exx_par, exx_ret, exx_retN, exx_iff, exx_for, exx_whl, exx_raise, exx_gput, evx_c, evx_v, evx_bin, evx_cmp, evx_chain, evx_and, evx_or, evx_not, evx_tup, evx_lst, evx_ix, evx_sl, evx_bf, evx_call, evx_gix, evx_ite, evsx_nil, evsx_cons, evT, evO, evOT, Env.get, bf_one, bf1, isi_str, isi_tup, isStr, isTupD, asD, truD, cmpD, cmpOp, eqE, nilEq, solid, endD, slOf, dOf, toInt, seqOf, seqE, seqS, seqJ, setTg, setTgs, List.mapM_cons, List.mapM_nil, Option.bind, Option.map]) (by
          rw [mapB_pu (h := fun d => some (.bool (wordB d steps))), filterMap_some]
          intro d _
          simp [lcF, ofO_some, M.pu_bd, exsx_nil, exsx_cons, exx_asg, exx_par, exx_ret, exx_retN, exx_iff, exx_for, exx_whl, exx_raise, exx_gput, evx_c, evx_v, evx_bin, evx_cmp, evx_chain, evx_and, evx_or, evx_not, evx_tup, evx_lst, evx_ix, evx_sl, evx_bf, evx_call, evx_gix, evx_ite, evsx_nil, evsx_cons, evT, evO, evOT, Env.get, bf_one, bf1, isi_str, isi_tup, isStr, isTupD, asD, truD, cmpD, cmpOp, eqE, nilEq, solid, endD, slOf, dOf, toInt, seqOf, seqE, seqS, seqJ, setTg, setTgs, List.mapM_cons, List.mapM_nil, Option.bind, Option.map, wipeE, hw, calm_pu, steps]) (by simpa using le_small (by omega))
      simp [L_is_script, ofO_some, M.pu_bd, exsx_nil, exsx_cons, exx_asg, exx_par, exx_ret, exx_retN, exx_iff, exx_for, exx_whl, exx_raise, exx_gput, evx_c, evx_v, evx_bin, evx_cmp, evx_chain, evx_and, evx_or, evx_not, evx_tup, evx_lst, evx_ix, evx_sl, evx_bf, evx_call, evx_gix, evx_ite, evsx_nil, evsx_cons, evT, evO, evOT, Env.get, bf_one, bf1, isi_str, isi_tup, isStr, isTupD, asD, truD, cmpD, cmpOp, eqE, nilEq, solid, endD, slOf, dOf, toInt, seqOf, seqE, seqS, seqJ, setTg, setTgs, List.mapM_cons, List.mapM_nil, Option.bind, Option.map, is_tuple S, tupB, h, hm, all_bools, wordsB]
    · have h6 : ¬ ((xs.length : Int) ≤ 6) := by omega
      simp [L_is_script, ofO_some, M.pu_bd, exsx_nil, exsx_cons, exx_asg, exx_par, exx_ret, exx_retN, exx_iff, exx_for, exx_whl, exx_raise, exx_gput, evx_c, evx_v, evx_bin, evx_cmp, evx_chain, evx_and, evx_or, evx_not, evx_tup, evx_lst, evx_ix, evx_sl, evx_bf, evx_call, evx_gix, evx_ite, evsx_nil, evsx_cons, evT, evO, evOT, Env.get, bf_one, bf1, isi_str, isi_tup, isStr, isTupD, asD, truD, cmpD, cmpOp, eqE, nilEq, solid, endD, slOf, dOf, toInt, seqOf, seqE, seqS, seqJ, setTg, setTgs, List.mapM_cons, List.mapM_nil, Option.bind, Option.map, is_tuple S, tupB, h6, wordsB]
  | _ => simp [L_is_script, ofO_some, M.pu_bd, exsx_nil, exsx_cons, exx_asg, exx_par, exx_ret, exx_retN, exx_iff, exx_for, exx_whl, exx_raise, exx_gput, evx_c, evx_v, evx_bin, evx_cmp, evx_chain, evx_and, evx_or, evx_not, evx_tup, evx_lst, evx_ix, evx_sl, evx_bf, evx_call, evx_gix, evx_ite, evsx_nil, evsx_cons, evT, evO, evOT, Env.get, bf_one, bf1, isi_str, isi_tup, isStr, isTupD, asD, truD, cmpD, cmpOp, eqE, nilEq, solid, endD, slOf, dOf, toInt, seqOf, seqE, seqS, seqJ, setTg, setTgs, List.mapM_cons, List.mapM_nil, Option.bind, Option.map, is_tuple S, tupB, wordsB]
def rulesB (d : D) : Bool := match d with
  | .tuple [a, b, c] => wordB a reads && (wordB b lets && wordB c lets)
  | _ => false
theorem are_rules (f : Nat) (d : D) : callF wd 100 P (f + 2) 4 [.d d] = .pu (.bool (rulesB d)) := by
  have hr := fun d => is_word S f d reads
  have hl := fun d => is_word S f d lets
  simp only [reads, lets, List.map_cons, List.map_nil] at hr hl
  rw [callF_tx S.h4]
  cases d with
  | tuple xs =>
    by_cases h : xs.length = 3
    · match xs, h with
      | [a, b, c], _ =>
        cases h1 : wordB a reads <;> cases h2 : wordB b lets <;> simp [L_are_rules, ofO_some, M.pu_bd, exsx_nil, exsx_cons, exx_asg, exx_par, exx_ret, exx_retN, exx_iff, exx_for, exx_whl, exx_raise, exx_gput, evx_c, evx_v, evx_bin, evx_cmp, evx_chain, evx_and, evx_or, evx_not, evx_tup, evx_lst, evx_ix, evx_sl, evx_bf, evx_call, evx_gix, evx_ite, evsx_nil, evsx_cons, evT, evO, evOT, Env.get, bf_one, bf1, isi_str, isi_tup, isStr, isTupD, asD, truD, cmpD, cmpOp, eqE, nilEq, solid, endD, slOf, dOf, toInt, seqOf, seqE, seqS, seqJ, setTg, setTgs, List.mapM_cons, List.mapM_nil, Option.bind, Option.map, is_tuple S, tupB, rulesB, hr, hl, h1, h2, show wordB a [("stop" : Str), "fail", "wait"] = wordB a reads from rfl, show wordB b [("go" : Str), "stop"] = wordB b lets from rfl, show wordB c [("go" : Str), "stop"] = wordB c lets from rfl]
    · have h2 : ¬ ((3 : Int) ≤ xs.length ∧ (xs.length : Int) ≤ 3) := by omega
      have h3 : rulesB (.tuple xs) = false := by
        match xs, h with
        | [], _ => rfl
        | [_], _ => rfl
        | [_, _], _ => rfl
        | _ :: _ :: _ :: _ :: _, _ => rfl
      simp [L_are_rules, ofO_some, M.pu_bd, exsx_nil, exsx_cons, exx_asg, exx_par, exx_ret, exx_retN, exx_iff, exx_for, exx_whl, exx_raise, exx_gput, evx_c, evx_v, evx_bin, evx_cmp, evx_chain, evx_and, evx_or, evx_not, evx_tup, evx_lst, evx_ix, evx_sl, evx_bf, evx_call, evx_gix, evx_ite, evsx_nil, evsx_cons, evT, evO, evOT, Env.get, bf_one, bf1, isi_str, isi_tup, isStr, isTupD, asD, truD, cmpD, cmpOp, eqE, nilEq, solid, endD, slOf, dOf, toInt, seqOf, seqE, seqS, seqJ, setTg, setTgs, List.mapM_cons, List.mapM_nil, Option.bind, Option.map, is_tuple S, tupB, h2, h3]
  | _ => simp [L_are_rules, ofO_some, M.pu_bd, exsx_nil, exsx_cons, exx_asg, exx_par, exx_ret, exx_retN, exx_iff, exx_for, exx_whl, exx_raise, exx_gput, evx_c, evx_v, evx_bin, evx_cmp, evx_chain, evx_and, evx_or, evx_not, evx_tup, evx_lst, evx_ix, evx_sl, evx_bf, evx_call, evx_gix, evx_ite, evsx_nil, evsx_cons, evT, evO, evOT, Env.get, bf_one, bf1, isi_str, isi_tup, isStr, isTupD, asD, truD, cmpD, cmpOp, eqE, nilEq, solid, endD, slOf, dOf, toInt, seqOf, seqE, seqS, seqJ, setTg, setTgs, List.mapM_cons, List.mapM_nil, Option.bind, Option.map, is_tuple S, tupB, rulesB]

def bad (p : D → Bool) : Nat → List D → Option Nat
  | _, [] => none
  | k, x :: xs => if p x = true then bad p (k + 1) xs else some k
omit S in
theorem for_bad {B : PD.Env → M Fl} {w : Str} {p : D → Bool} {d : D} (hB : ∀ (k : Nat) (x : D), B [.fz d, .fz (.int k), .fz x] = if p x = true then .pu (.nx [.fz d, .fz (.int k), .fz x]) else .pu (.rt (.tuple [.str w, .int k]))) : ∀ (xs : List D) (k : Nat) (s1 s2 : Sl),
    (∃ s1' s2', bad p k xs = none ∧ forB (.t [1, 2]) B (enumD k xs) [.fz d, s1, s2] = .pu (.nx [.fz d, s1', s2'])) ∨
    (∃ i : Nat, bad p k xs = some i ∧ forB (.t [1, 2]) B (enumD k xs) [.fz d, s1, s2] = .pu (.rt (.tuple [.str w, .int i])))
  | [], k, s1, s2 => .inl ⟨s1, s2, rfl, rfl⟩
  | x :: xs, k, s1, s2 => by
    cases hp : p x with
    | true =>
      rcases for_bad hB xs (k + 1) (.fz (.int k)) (.fz x) with ⟨s1', s2', e1, e2⟩ | ⟨i, e1, e2⟩
      · refine .inl ⟨s1', s2', by simp [bad, hp, e1], ?_⟩
        rw [← e2]
        simp [enumD, forB, setTg, setTgs, ofO_some, M.pu_bd, hB, hp]
      · refine .inr ⟨i, by simp [bad, hp, e1], ?_⟩
        rw [← e2]
        simp [enumD, forB, setTg, setTgs, ofO_some, M.pu_bd, hB, hp]
    | false =>
      refine .inr ⟨k, by simp [bad, hp], ?_⟩
      simp [enumD, forB, setTg, setTgs, ofO_some, M.pu_bd, hB, hp]
omit S in
theorem body_bad {F : Fns} {n c : Nat} {w : Str} {p : D → Bool} {d : D} (hc : ∀ x, F.call c [.d x] = .pu (.bool (p x))) (k : Nat) (x : D) :
    exSs F n [.iff (.not (.call c [.v 2])) [.ret (.tup [.c (.str w), .v 1])] []] [.fz d, .fz (.int k), .fz x] = if p x = true then .pu (.nx [.fz d, .fz (.int k), .fz x]) else .pu (.rt (.tuple [.str w, .int k])) := by
  have h2 : (2 : Nat) ≤ sizeLine := by rw [sizeLine_eq]; omega
  cases hp : p x <;> simp [ofO_some, M.pu_bd, exsx_nil, exsx_cons, exx_asg, exx_par, exx_ret, exx_retN, exx_iff, exx_for, exx_whl, exx_raise, exx_gput, evx_c, evx_v, evx_bin, evx_cmp, evx_chain, evx_and, evx_or, evx_not, evx_tup, evx_lst, evx_ix, evx_sl, evx_bf, evx_call, evx_gix, evx_ite, evsx_nil, evsx_cons, evT, evO, evOT, Env.get, bf_one, bf1, isi_str, isi_tup, isStr, isTupD, asD, truD, cmpD, cmpOp, eqE, nilEq, solid, endD, slOf, dOf, toInt, seqOf, seqE, seqS, seqJ, setTg, setTgs, List.mapM_cons, List.mapM_nil, Option.bind, Option.map, hc, hp, h2]
def kindsF (d : D) : Option D := match d with
  | .tuple xs => if 1 ≤ xs.length ∧ xs.length ≤ 3 then (match bad (wordsB 1 5 acts) 0 xs with
    | none => none
    | some i => some (.tuple [.str "kinds", .int i])) else some (.tuple [.str "kinds"])
  | _ => some (.tuple [.str "kinds"])
def shellF (d : D) : Option D := match d with
  | .tuple xs => if xs.length = 4 then (match bad (wordsB 0 6 steps) 0 xs with
    | none => none
    | some i => some (.tuple [.str "shell", .int i])) else some (.tuple [.str "shell"])
  | _ => some (.tuple [.str "shell"])
def optD : Option D → D
  | none => .none
  | some d => d
theorem kinds_fault (f : Nat) (d : D) : callF wd 100 P (f + 3) 5 [.d d] = .pu (optD (kindsF d)) := by
  rw [callF_tx S.h5]
  cases d with
  | tuple xs =>
    by_cases h : 1 ≤ xs.length ∧ xs.length ≤ 3
    · have h' : (1 : Int) ≤ xs.length ∧ (xs.length : Int) ≤ 3 := by omega
      rcases for_bad (w := "kinds") (d := .tuple xs) (body_bad (F := ⟨callF wd 100 P (f + 2), wd⟩) (n := 100) (c := 2) (fun x => is_kind S f x)) xs 0 .un .un with ⟨s1', s2', e1, e2⟩ | ⟨i, e1, e2⟩
      · simp [L_kinds_fault, ofO_some, M.pu_bd, exsx_nil, exsx_cons, exx_asg, exx_par, exx_ret, exx_retN, exx_iff, exx_for, exx_whl, exx_raise, exx_gput, evx_c, evx_v, evx_bin, evx_cmp, evx_chain, evx_and, evx_or, evx_not, evx_tup, evx_lst, evx_ix, evx_sl, evx_bf, evx_call, evx_gix, evx_ite, evsx_nil, evsx_cons, evT, evO, evOT, Env.get, bf_one, bf1, isi_str, isi_tup, isStr, isTupD, asD, truD, cmpD, cmpOp, eqE, nilEq, solid, endD, slOf, dOf, toInt, seqOf, seqE, seqS, seqJ, setTg, setTgs, List.mapM_cons, List.mapM_nil, Option.bind, Option.map, evJ, is_tuple S, tupB, h', e2, kindsF, h, e1, optD]
      · simp [L_kinds_fault, ofO_some, M.pu_bd, exsx_nil, exsx_cons, exx_asg, exx_par, exx_ret, exx_retN, exx_iff, exx_for, exx_whl, exx_raise, exx_gput, evx_c, evx_v, evx_bin, evx_cmp, evx_chain, evx_and, evx_or, evx_not, evx_tup, evx_lst, evx_ix, evx_sl, evx_bf, evx_call, evx_gix, evx_ite, evsx_nil, evsx_cons, evT, evO, evOT, Env.get, bf_one, bf1, isi_str, isi_tup, isStr, isTupD, asD, truD, cmpD, cmpOp, eqE, nilEq, solid, endD, slOf, dOf, toInt, seqOf, seqE, seqS, seqJ, setTg, setTgs, List.mapM_cons, List.mapM_nil, Option.bind, Option.map, evJ, is_tuple S, tupB, h', e2, kindsF, h, e1, optD]
    · have h' : ¬ ((1 : Int) ≤ xs.length ∧ (xs.length : Int) ≤ 3) := by omega
      simp [L_kinds_fault, ofO_some, M.pu_bd, exsx_nil, exsx_cons, exx_asg, exx_par, exx_ret, exx_retN, exx_iff, exx_for, exx_whl, exx_raise, exx_gput, evx_c, evx_v, evx_bin, evx_cmp, evx_chain, evx_and, evx_or, evx_not, evx_tup, evx_lst, evx_ix, evx_sl, evx_bf, evx_call, evx_gix, evx_ite, evsx_nil, evsx_cons, evT, evO, evOT, Env.get, bf_one, bf1, isi_str, isi_tup, isStr, isTupD, asD, truD, cmpD, cmpOp, eqE, nilEq, solid, endD, slOf, dOf, toInt, seqOf, seqE, seqS, seqJ, setTg, setTgs, List.mapM_cons, List.mapM_nil, Option.bind, Option.map, is_tuple S, tupB, h', kindsF, h, optD, one_s]
  | _ => simp [L_kinds_fault, ofO_some, M.pu_bd, exsx_nil, exsx_cons, exx_asg, exx_par, exx_ret, exx_retN, exx_iff, exx_for, exx_whl, exx_raise, exx_gput, evx_c, evx_v, evx_bin, evx_cmp, evx_chain, evx_and, evx_or, evx_not, evx_tup, evx_lst, evx_ix, evx_sl, evx_bf, evx_call, evx_gix, evx_ite, evsx_nil, evsx_cons, evT, evO, evOT, Env.get, bf_one, bf1, isi_str, isi_tup, isStr, isTupD, asD, truD, cmpD, cmpOp, eqE, nilEq, solid, endD, slOf, dOf, toInt, seqOf, seqE, seqS, seqJ, setTg, setTgs, List.mapM_cons, List.mapM_nil, Option.bind, Option.map, is_tuple S, tupB, kindsF, optD, one_s]
theorem shell_fault (f : Nat) (d : D) : callF wd 100 P (f + 3) 6 [.d d] = .pu (optD (shellF d)) := by
  rw [callF_tx S.h6]
  cases d with
  | tuple xs =>
    by_cases h : xs.length = 4
    · have h' : (4 : Int) ≤ xs.length ∧ (xs.length : Int) ≤ 4 := by omega
      rcases for_bad (w := "shell") (d := .tuple xs) (body_bad (F := ⟨callF wd 100 P (f + 2), wd⟩) (n := 100) (c := 3) (fun x => is_script S f x)) xs 0 .un .un with ⟨s1', s2', e1, e2⟩ | ⟨i, e1, e2⟩
      · simp [L_shell_fault, ofO_some, M.pu_bd, exsx_nil, exsx_cons, exx_asg, exx_par, exx_ret, exx_retN, exx_iff, exx_for, exx_whl, exx_raise, exx_gput, evx_c, evx_v, evx_bin, evx_cmp, evx_chain, evx_and, evx_or, evx_not, evx_tup, evx_lst, evx_ix, evx_sl, evx_bf, evx_call, evx_gix, evx_ite, evsx_nil, evsx_cons, evT, evO, evOT, Env.get, bf_one, bf1, isi_str, isi_tup, isStr, isTupD, asD, truD, cmpD, cmpOp, eqE, nilEq, solid, endD, slOf, dOf, toInt, seqOf, seqE, seqS, seqJ, setTg, setTgs, List.mapM_cons, List.mapM_nil, Option.bind, Option.map, lenD, evJ, is_tuple S, tupB, h', e2, shellF, h, e1, optD]
      · simp [L_shell_fault, ofO_some, M.pu_bd, exsx_nil, exsx_cons, exx_asg, exx_par, exx_ret, exx_retN, exx_iff, exx_for, exx_whl, exx_raise, exx_gput, evx_c, evx_v, evx_bin, evx_cmp, evx_chain, evx_and, evx_or, evx_not, evx_tup, evx_lst, evx_ix, evx_sl, evx_bf, evx_call, evx_gix, evx_ite, evsx_nil, evsx_cons, evT, evO, evOT, Env.get, bf_one, bf1, isi_str, isi_tup, isStr, isTupD, asD, truD, cmpD, cmpOp, eqE, nilEq, solid, endD, slOf, dOf, toInt, seqOf, seqE, seqS, seqJ, setTg, setTgs, List.mapM_cons, List.mapM_nil, Option.bind, Option.map, lenD, evJ, is_tuple S, tupB, h', e2, shellF, h, e1, optD]
    · have h' : ¬ ((4 : Int) ≤ xs.length ∧ (xs.length : Int) ≤ 4) := by omega
      simp [L_shell_fault, ofO_some, M.pu_bd, exsx_nil, exsx_cons, exx_asg, exx_par, exx_ret, exx_retN, exx_iff, exx_for, exx_whl, exx_raise, exx_gput, evx_c, evx_v, evx_bin, evx_cmp, evx_chain, evx_and, evx_or, evx_not, evx_tup, evx_lst, evx_ix, evx_sl, evx_bf, evx_call, evx_gix, evx_ite, evsx_nil, evsx_cons, evT, evO, evOT, Env.get, bf_one, bf1, isi_str, isi_tup, isStr, isTupD, asD, truD, cmpD, cmpOp, eqE, nilEq, solid, endD, slOf, dOf, toInt, seqOf, seqE, seqS, seqJ, setTg, setTgs, List.mapM_cons, List.mapM_nil, Option.bind, Option.map, lenD, is_tuple S, tupB, h', shellF, h, optD, one_s]
  | _ => simp [L_shell_fault, ofO_some, M.pu_bd, exsx_nil, exsx_cons, exx_asg, exx_par, exx_ret, exx_retN, exx_iff, exx_for, exx_whl, exx_raise, exx_gput, evx_c, evx_v, evx_bin, evx_cmp, evx_chain, evx_and, evx_or, evx_not, evx_tup, evx_lst, evx_ix, evx_sl, evx_bf, evx_call, evx_gix, evx_ite, evsx_nil, evsx_cons, evT, evO, evOT, Env.get, bf_one, bf1, isi_str, isi_tup, isStr, isTupD, asD, truD, cmpD, cmpOp, eqE, nilEq, solid, endD, slOf, dOf, toInt, seqOf, seqE, seqS, seqJ, setTg, setTgs, List.mapM_cons, List.mapM_nil, Option.bind, Option.map, lenD, is_tuple S, tupB, shellF, optD, one_s]

def setupF (d : D) : Option D := match d with
  | .tuple [k, r, s] => (match kindsF k with
    | some p => some p
    | none => if rulesB r = true then shellF s else some (.tuple [.str "rules"]))
  | _ => some (.tuple [])
omit S in
theorem kindsF_tup {k p : D} (h : kindsF k = some p) : ∃ ds, p = .tuple ds := by
  unfold kindsF at h
  split at h
  · split at h
    · split at h
      · cases h
      · cases h; exact ⟨_, rfl⟩
    · cases h; exact ⟨_, rfl⟩
  · cases h; exact ⟨_, rfl⟩
omit S in
theorem shellF_tup {k p : D} (h : shellF k = some p) : ∃ ds, p = .tuple ds := by
  unfold shellF at h
  split at h
  · split at h
    · split at h
      · cases h
      · cases h; exact ⟨_, rfl⟩
    · cases h; exact ⟨_, rfl⟩
  · cases h; exact ⟨_, rfl⟩
omit S in
theorem setupF_not {xs : List D} (h : xs.length ≠ 3) : setupF (.tuple xs) = some (.tuple []) := by
  match xs, h with
  | [], _ => rfl
  | [_], _ => rfl
  | [_, _], _ => rfl
  | _ :: _ :: _ :: _ :: _, _ => rfl
theorem setup_fault (f : Nat) (d : D) : callF wd 100 P (f + 4) 7 [.d d] = .pu (optD (setupF d)) := by
  rw [callF_tx S.h7]
  cases d with
  | tuple xs =>
    by_cases h : xs.length = 3
    · match xs, h with
      | [k, r, s], _ =>
        have hk := kinds_fault S f k
        have hs := shell_fault S f s
        have hr := are_rules S (f + 1) r
        cases e1 : kindsF k with
        | some p =>
          obtain ⟨ds, rfl⟩ := kindsF_tup e1
          rw [e1] at hk
          simp [L_setup_fault, ofO_some, M.pu_bd, exsx_nil, exsx_cons, exx_asg, exx_par, exx_ret, exx_retN, exx_iff, exx_for, exx_whl, exx_raise, exx_gput, evx_c, evx_v, evx_bin, evx_cmp, evx_chain, evx_and, evx_or, evx_not, evx_tup, evx_lst, evx_ix, evx_sl, evx_bf, evx_call, evx_gix, evx_ite, evsx_nil, evsx_cons, evT, evO, evOT, Env.get, bf_one, bf1, isi_str, isi_tup, isStr, isTupD, asD, truD, cmpD, cmpOp, eqE, nilEq, solid, endD, slOf, dOf, toInt, seqOf, seqE, seqS, seqJ, setTg, setTgs, List.mapM_cons, List.mapM_nil, Option.bind, Option.map, is_tuple S, tupB, hk, optD, isD, setupF, e1]
        | none =>
          rw [e1] at hk
          cases e2 : rulesB r with
          | false => simp [L_setup_fault, ofO_some, M.pu_bd, exsx_nil, exsx_cons, exx_asg, exx_par, exx_ret, exx_retN, exx_iff, exx_for, exx_whl, exx_raise, exx_gput, evx_c, evx_v, evx_bin, evx_cmp, evx_chain, evx_and, evx_or, evx_not, evx_tup, evx_lst, evx_ix, evx_sl, evx_bf, evx_call, evx_gix, evx_ite, evsx_nil, evsx_cons, evT, evO, evOT, Env.get, bf_one, bf1, isi_str, isi_tup, isStr, isTupD, asD, truD, cmpD, cmpOp, eqE, nilEq, solid, endD, slOf, dOf, toInt, seqOf, seqE, seqS, seqJ, setTg, setTgs, List.mapM_cons, List.mapM_nil, Option.bind, Option.map, is_tuple S, tupB, hk, hr, optD, isD, setupF, e1, e2, one_s]
          | true => simp [L_setup_fault, ofO_some, M.pu_bd, exsx_nil, exsx_cons, exx_asg, exx_par, exx_ret, exx_retN, exx_iff, exx_for, exx_whl, exx_raise, exx_gput, evx_c, evx_v, evx_bin, evx_cmp, evx_chain, evx_and, evx_or, evx_not, evx_tup, evx_lst, evx_ix, evx_sl, evx_bf, evx_call, evx_gix, evx_ite, evsx_nil, evsx_cons, evT, evO, evOT, Env.get, bf_one, bf1, isi_str, isi_tup, isStr, isTupD, asD, truD, cmpD, cmpOp, eqE, nilEq, solid, endD, slOf, dOf, toInt, seqOf, seqE, seqS, seqJ, setTg, setTgs, List.mapM_cons, List.mapM_nil, Option.bind, Option.map, is_tuple S, tupB, hk, hr, hs, optD, isD, setupF, e1, e2]
    · have h2 : ¬ ((3 : Int) ≤ xs.length ∧ (xs.length : Int) ≤ 3) := by omega
      rw [setupF_not h]
      simp [L_setup_fault, ofO_some, M.pu_bd, exsx_nil, exsx_cons, exx_asg, exx_par, exx_ret, exx_retN, exx_iff, exx_for, exx_whl, exx_raise, exx_gput, evx_c, evx_v, evx_bin, evx_cmp, evx_chain, evx_and, evx_or, evx_not, evx_tup, evx_lst, evx_ix, evx_sl, evx_bf, evx_call, evx_gix, evx_ite, evsx_nil, evsx_cons, evT, evO, evOT, Env.get, bf_one, bf1, isi_str, isi_tup, isStr, isTupD, asD, truD, cmpD, cmpOp, eqE, nilEq, solid, endD, slOf, dOf, toInt, seqOf, seqE, seqS, seqJ, setTg, setTgs, List.mapM_cons, List.mapM_nil, Option.bind, Option.map, is_tuple S, tupB, h2, optD]
  | _ => simp [L_setup_fault, ofO_some, M.pu_bd, exsx_nil, exsx_cons, exx_asg, exx_par, exx_ret, exx_retN, exx_iff, exx_for, exx_whl, exx_raise, exx_gput, evx_c, evx_v, evx_bin, evx_cmp, evx_chain, evx_and, evx_or, evx_not, evx_tup, evx_lst, evx_ix, evx_sl, evx_bf, evx_call, evx_gix, evx_ite, evsx_nil, evsx_cons, evT, evO, evOT, Env.get, bf_one, bf1, isi_str, isi_tup, isStr, isTupD, asD, truD, cmpD, cmpOp, eqE, nilEq, solid, endD, slOf, dOf, toInt, seqOf, seqE, seqS, seqJ, setTg, setTgs, List.mapM_cons, List.mapM_nil, Option.bind, Option.map, is_tuple S, tupB, optD, setupF]
omit S in
theorem setupF_tup {k p : D} (h : setupF k = some p) : ∃ ds, p = .tuple ds := by
  unfold setupF at h
  split at h
  · split at h
    · cases h; exact kindsF_tup (by assumption)
    · split at h
      · exact shellF_tup h
      · cases h; exact ⟨_, rfl⟩
  · cases h; exact ⟨_, rfl⟩
omit S in
theorem dummy_su : True := trivial
end
end PD
end
section
set_option Elab.async false
set_option linter.all false
set_option maxRecDepth 100000
set_option maxHeartbeats 4000000
namespace PD
open PySem PySem.Spec L2

/-! ### drawn setups, for any law -/
def L_some (dr o : Nat) : List Sm := [(.ret (.bf .tuple [(.lc (.n 4) (.rng1 (.bin .Add (.v 2) (.call dr [(.v 0), (.bin .Add (.bin .Sub (.v 3) (.v 2)) (.c (.int (1))))]))) none (.call o [(.v 0), (.v 1)]) [4])]))]
def L_setup (dr o so : Nat) : List Sm := [(.asg (.n 4) (.lst [(.c (.str "group")), (.c (.str "front")), (.c (.str "read")), (.c (.str "write")), (.c (.str "raw")), (.c (.str "plain")), (.c (.str "hold")), (.c (.str "again"))])), (.asg (.n 5) (.bf .tuple [(.lc (.n 7) (.rng1 (.bin .Add (.c (.int (1))) (.call dr [(.v 0), (.v 1)]))) none (.call so [(.v 0), (.v 4), (.c (.int (1))), (.v 2)]) [7])])), (.asg (.n 6) (.tup [(.call o [(.v 0), (.lst [(.c (.str "stop")), (.c (.str "fail")), (.c (.str "wait"))])]), (.call o [(.v 0), (.lst [(.c (.str "go")), (.c (.str "stop"))])]), (.call o [(.v 0), (.lst [(.c (.str "go")), (.c (.str "stop"))])])])), (.asg (.n 4) (.lst [(.c (.str "group")), (.c (.str "give")), (.c (.str "go")), (.c (.str "wait")), (.c (.str "listen")), (.c (.str "take")), (.c (.str "plain")), (.c (.str "give")), (.c (.str "take"))])), (.ret (.tup [(.v 5), (.v 6), (.bf .tuple [(.lc (.n 7) (.rng1 (.c (.int (4)))) none (.call so [(.v 0), (.v 4), (.c (.int (0))), (.v 3)]) [7])])]))]
structure Dw (wd : Str → Option (Option Str)) (P : List Df) (b dr o so se : Nat) : Prop where
  hb : P[b]? = some (.tx 1 3 (L_begun 11))
  hd : P[dr]? = some (.tx 2 4 L_draw)
  ho : P[o]? = some (.tx 2 2 (L_of dr))
  hs : P[so]? = some (.tx 4 5 (L_some dr o))
  hu : P[se]? = some (.tx 4 8 (L_setup dr o so))
section
variable {wd : Str → Option (Option Str)} {P : List Df} {b dr o so se : Nat} (W : Dw wd P b dr o so se)
include W
theorem Dw.drawW (f : Nat) (L : Int) (h0 : 0 < L) (h1 : L ≤ 1000000) {k : Int} (hk : k < 1000000) {g : Gen} (hg : G k g) : ∃ r g', callF wd 100 P (f + 1) dr [.gn, .d (.int L)] g = .ok (.int r) g' ∧ 0 ≤ r ∧ r < L ∧ G (k + 1) g' := PD.draw W.hd f L h0 h1 hk hg
theorem Dw.ofW (f : Nat) {xs : List D} (h0 : xs ≠ []) (h1 : xs.length ≤ 1000) {k : Int} (hk : k < 1000000) {g : Gen} (hg : G k g) : ∃ x g', callF wd 100 P (f + 2) o [.gn, .d (.list xs)] g = .ok x g' ∧ x ∈ xs ∧ G (k + 1) g' := PD.law_of W.hd W.ho f h0 h1 hk hg
theorem Dw.someW (f : Nat) {xs : List D} (h0 : xs ≠ []) (h1 : xs.length ≤ 1000) {lo hi : Int} (hlo : 0 ≤ lo) (hh : lo ≤ hi) (hhi : hi ≤ 10) {k : Int} (hk : k < 900000) {g : Gen} (hg : G k g) : ∃ ys g', callF wd 100 P (f + 3) so [.gn, .d (.list xs), .d (.int lo), .d (.int hi)] g = .ok (.tuple ys) g' ∧ lo ≤ ys.length ∧ ys.length ≤ hi ∧ (∀ y ∈ ys, y ∈ xs) ∧ G (k + 11) g' := by
  obtain ⟨r, g1, e, r0, r1, hg1⟩ := W.drawW (f + 1) (hi - lo + 1) (by omega) (by omega) (by omega) hg
  obtain ⟨ds, ed, ld⟩ := rng_some (n := lo + r) (by omega) (by omega)
  have hdl : (ds.length : Int) = lo + r := by omega
  obtain ⟨ys, g2, e2, l2, p2, hg2⟩ := mapB_st (h := lcF ⟨callF wd 100 P (f + 2), wd⟩ [.gn, .fz (.list xs), .fz (.int lo), .fz (.int hi), .un] (.n 4) none (.call o [.v 0, .v 1]) [4]) (P := fun y => y ∈ xs) (c := 1) (K := 1000000) (by omega) ds (k + 1) g1 hg1 (by omega) fun d _ k' g' hk' hg' => by
    obtain ⟨x, g3, e3, hx, hg3⟩ := W.ofW f h0 h1 hk' hg'
    refine ⟨x, g3, ?_, hx, hg3⟩
    simp [lcF, M.calm, ofO_some, M.pu_bd, exsx_nil, exsx_cons, exx_asg, exx_par, exx_ret, exx_retN, exx_iff, exx_for, exx_whl, exx_raise, exx_gput, evx_c, evx_v, evx_bin, evx_cmp, evx_chain, evx_and, evx_or, evx_not, evx_tup, evx_lst, evx_ix, evx_sl, evx_bf, evx_call, evx_gix, evx_ite, evsx_nil, evsx_cons, evT, evO, evOT, Env.get, bf_one, bf1, isi_str, isi_tup, isStr, isTupD, asD, truD, cmpD, cmpOp, eqE, nilEq, solid, endD, slOf, dOf, toInt, seqOf, seqE, seqS, seqJ, setTg, setTgs, List.mapM_cons, List.mapM_nil, Option.bind, Option.map, wipeE, bd_ap, pu_ap, e3]
  have hys : ys.length ≤ sizeLine := by rw [sizeLine_eq]; omega
  have el := ev_lcS (F := ⟨callF wd 100 P (f + 2), wd⟩) (env := [.gn, .fz (.list xs), .fz (.int lo), .fz (.int hi), .un]) (tg := .n 4) (it := .rng1 (.bin .Add (.v 2) (.call dr [.v 0, .bin .Add (.bin .Sub (.v 3) (.v 2)) (.c (.int 1))]))) (t := none) (e := .call o [.v 0, .v 1]) (w := [4]) (g := g) (by
    show evI _ _ _ _ = .ok ds g1
    simp [evI, ofO_some, M.pu_bd, exsx_nil, exsx_cons, exx_asg, exx_par, exx_ret, exx_retN, exx_iff, exx_for, exx_whl, exx_raise, exx_gput, evx_c, evx_v, evx_bin, evx_cmp, evx_chain, evx_and, evx_or, evx_not, evx_tup, evx_lst, evx_ix, evx_sl, evx_bf, evx_call, evx_gix, evx_ite, evsx_nil, evsx_cons, evT, evO, evOT, Env.get, bf_one, bf1, isi_str, isi_tup, isStr, isTupD, asD, truD, cmpD, cmpOp, eqE, nilEq, solid, endD, slOf, dOf, toInt, seqOf, seqE, seqS, seqJ, setTg, setTgs, List.mapM_cons, List.mapM_nil, Option.bind, Option.map, bd_ap, pu_ap, binD, opD, addD, subD, e, ed]) e2 hys
  refine ⟨ys, g2, ?_, by omega, by omega, p2, ⟨hg2.gl, hg2.t0, by have := hg2.tk; omega⟩⟩
  rw [callF_tx W.hs]
  simp [L_some, ofO_some, M.pu_bd, exsx_nil, exsx_cons, exx_asg, exx_par, exx_ret, exx_retN, exx_iff, exx_for, exx_whl, exx_raise, exx_gput, evx_c, evx_v, evx_bin, evx_cmp, evx_chain, evx_and, evx_or, evx_not, evx_tup, evx_lst, evx_ix, evx_sl, evx_bf, evx_call, evx_gix, evx_ite, evsx_nil, evsx_cons, evT, evO, evOT, Env.get, bf_one, bf1, isi_str, isi_tup, isStr, isTupD, asD, truD, cmpD, cmpOp, eqE, nilEq, solid, endD, slOf, dOf, toInt, seqOf, seqE, seqS, seqJ, setTg, setTgs, List.mapM_cons, List.mapM_nil, Option.bind, Option.map, bd_ap, pu_ap, el, tupleD]
omit W in
theorem bad_all {p : D → Bool} : ∀ {xs : List D} {k : Nat}, (∀ x ∈ xs, p x = true) → bad p k xs = none
  | [], _, _ => rfl
  | y :: ys, k, h => by
    have h1 := h y (by simp)
    have h2 := bad_all (xs := ys) (k := k + 1) fun x hx => h x (by simp [hx])
    simp [bad, h1, h2]
def dActs : List D := [.str "group", .str "front", .str "read", .str "write", .str "raw", .str "plain", .str "hold", .str "again"]
def dSteps : List D := [.str "group", .str "give", .str "go", .str "wait", .str "listen", .str "take", .str "plain", .str "give", .str "take"]
def dReads : List D := [.str "stop", .str "fail", .str "wait"]
def dLets : List D := [.str "go", .str "stop"]
omit W in
theorem w_acts : ∀ x ∈ dActs, wordB x acts = true := by decide
omit W in
theorem w_steps : ∀ x ∈ dSteps, wordB x steps = true := by decide
omit W in
theorem w_reads : ∀ x ∈ dReads, wordB x reads = true := by decide
omit W in
theorem w_lets : ∀ x ∈ dLets, wordB x lets = true := by decide
omit W in
theorem ws_some {lo hi : Int} {ws : List Str} {xs ys : List D} (hw : ∀ x ∈ xs, wordB x ws = true) (a : lo ≤ ys.length) (b : ys.length ≤ hi) (h : ∀ y ∈ ys, y ∈ xs) : wordsB lo hi ws (.tuple ys) = true := by
  simp only [wordsB, Bool.and_eq_true, decide_eq_true_eq, List.all_eq_true]
  exact ⟨⟨a, b⟩, fun y hy => hw y (h y hy)⟩
theorem Dw.lc_some (f : Nat) {ws : List Str} {xs : List D} (h0 : xs ≠ []) (h1 : xs.length ≤ 1000) (hw : ∀ x ∈ xs, wordB x ws = true) {lo hi : Int} (hlo : 0 ≤ lo) (hh : lo ≤ hi) (hhi : hi ≤ 10) {env : PD.Env} {e2 e3 : E} {it : I} {ds : List D} {k : Int} {g g1 : Gen} (hg : G k g1) (hk : k < 800000) (hl : ds.length ≤ 1000)
    (hi' : evI ⟨callF wd 100 P (f + 3), wd⟩ it env g = .ok ds g1)
    (hcall : ∀ d g', ev ⟨callF wd 100 P (f + 3), wd⟩ (.call so [.v 0, .v 4, e2, e3]) ((wipeE env [7]).set 7 (.fz d)) g' = ((callF wd 100 P (f + 3) so [.gn, .d (.list xs), .d (.int lo), .d (.int hi)]).bd fun d => .pu (.d d)) g')
    (hset : ∀ d, setTg (wipeE env [7]) (.n 7) d = some ((wipeE env [7]).set 7 (.fz d))) :
    ∃ ys g2, ev ⟨callF wd 100 P (f + 3), wd⟩ (.lc (.n 7) it none (.call so [.v 0, .v 4, e2, e3]) [7]) env g = .ok (.d (.list ys)) g2 ∧ ys.length = ds.length ∧ (∀ y ∈ ys, wordsB lo hi ws y = true) ∧ G (k + 11 * ds.length) g2 := by
  obtain ⟨ys, g2, e2', l2, p2, hg2⟩ := mapB_st (h := lcF ⟨callF wd 100 P (f + 3), wd⟩ env (.n 7) none (.call so [.v 0, .v 4, e2, e3]) [7]) (P := fun y => wordsB lo hi ws y = true) (c := 11) (K := 900000) (by omega) ds k g1 hg (by omega) fun d _ k' g' hk' hg' => by
    obtain ⟨zs, g3, e3', z1, z2, z3, hg3⟩ := W.someW f h0 h1 hlo hh hhi hk' hg'
    refine ⟨.tuple zs, g3, ?_, ws_some hw z1 z2 z3, hg3⟩
    simp [lcF, M.calm, ofO_some, M.pu_bd, bd_ap, pu_ap, hset, evOT, hcall, e3', solid]
  refine ⟨ys, g2, ev_lcS hi' e2' (by rw [sizeLine_eq]; omega), l2, p2, hg2⟩
theorem Dw.setupW (f : Nat) {k : Int} (hk : k < 700000) {g : Gen} (hg : G k g) : ∃ d g', callF wd 100 P (f + 4) se [.gn, .d (.int 3), .d (.int 5), .d (.int 6)] g = .ok d g' ∧ setupF d = none ∧ G (k + 100) g' := by
  have h3s : (3 : Nat) ≤ sizeLine := by rw [sizeLine_eq]; omega
  have h2s : (2 : Nat) ≤ sizeLine := by rw [sizeLine_eq]; omega
  have h8s : (8 : Nat) ≤ sizeLine := by rw [sizeLine_eq]; omega
  have h9s : (9 : Nat) ≤ sizeLine := by rw [sizeLine_eq]; omega
  obtain ⟨r, g1, e, r0, r1, hg1⟩ := W.drawW (f + 2) 3 (by omega) (by omega) (by omega) hg
  obtain ⟨ds, ed, ld⟩ := rng_some (n := 1 + r) (by omega) (by omega)
  obtain ⟨ks, g2, ek, lk, pk, hg2⟩ := W.lc_some f (ws := acts) (xs := dActs) (by simp [dActs]) (by simp [dActs]) w_acts (lo := 1) (hi := 5) (by omega) (by omega) (by omega)
    (env := [.gn, .fz (.int 3), .fz (.int 5), .fz (.int 6), .fz (.list dActs), .un, .un, .un]) (e2 := .c (.int 1)) (e3 := .v 2) (it := .rng1 (.bin .Add (.c (.int 1)) (.call dr [.v 0, .v 1]))) (ds := ds) (g := g) hg1 (by omega) (by omega)
    (by simp [evI, ofO_some, M.pu_bd, exsx_nil, exsx_cons, exx_asg, exx_par, exx_ret, exx_retN, exx_iff, exx_for, exx_whl, exx_raise, exx_gput, evx_c, evx_v, evx_bin, evx_cmp, evx_chain, evx_and, evx_or, evx_not, evx_tup, evx_lst, evx_ix, evx_sl, evx_bf, evx_call, evx_gix, evx_ite, evsx_nil, evsx_cons, evT, evO, evOT, Env.get, bf_one, bf1, isi_str, isi_tup, isStr, isTupD, asD, truD, cmpD, cmpOp, eqE, nilEq, solid, endD, slOf, dOf, toInt, seqOf, seqE, seqS, seqJ, setTg, setTgs, List.mapM_cons, List.mapM_nil, Option.bind, Option.map, bd_ap, pu_ap, binD, opD, addD, e, ed]) (fun d g' => by simp [wipeE, ofO_some, M.pu_bd, exsx_nil, exsx_cons, exx_asg, exx_par, exx_ret, exx_retN, exx_iff, exx_for, exx_whl, exx_raise, exx_gput, evx_c, evx_v, evx_bin, evx_cmp, evx_chain, evx_and, evx_or, evx_not, evx_tup, evx_lst, evx_ix, evx_sl, evx_bf, evx_call, evx_gix, evx_ite, evsx_nil, evsx_cons, evT, evO, evOT, Env.get, bf_one, bf1, isi_str, isi_tup, isStr, isTupD, asD, truD, cmpD, cmpOp, eqE, nilEq, solid, endD, slOf, dOf, toInt, seqOf, seqE, seqS, seqJ, setTg, setTgs, List.mapM_cons, List.mapM_nil, Option.bind, Option.map, bd_ap, pu_ap]) (fun d => by simp [wipeE, setTg])
  obtain ⟨a, g3, ea, pa, hg3⟩ := W.ofW (f + 1) (xs := dReads) (by simp [dReads]) (by simp [dReads]) (by omega) hg2
  obtain ⟨b, g4, eb, pb, hg4⟩ := W.ofW (f + 1) (xs := dLets) (by simp [dLets]) (by simp [dLets]) (by omega) hg3
  obtain ⟨c, g5, ec, pc, hg5⟩ := W.ofW (f + 1) (xs := dLets) (by simp [dLets]) (by simp [dLets]) (by omega) hg4
  obtain ⟨dt, edt, ldt⟩ := rng_some (n := 4) (by omega) (by omega)
  obtain ⟨ss, g6, es, ls, ps, hg6⟩ := W.lc_some f (ws := steps) (xs := dSteps) (by simp [dSteps]) (by simp [dSteps]) w_steps (lo := 0) (hi := 6) (by omega) (by omega) (by omega)
    (env := [.gn, .fz (.int 3), .fz (.int 5), .fz (.int 6), .fz (.list dSteps), .fz (.tuple ks), .fz (.tuple [a, b, c]), .un]) (e2 := .c (.int 0)) (e3 := .v 3) (it := .rng1 (.c (.int 4))) (ds := dt) (g := g5) hg5 (by omega) (by omega)
    (by simp [evI, ofO_some, M.pu_bd, exsx_nil, exsx_cons, exx_asg, exx_par, exx_ret, exx_retN, exx_iff, exx_for, exx_whl, exx_raise, exx_gput, evx_c, evx_v, evx_bin, evx_cmp, evx_chain, evx_and, evx_or, evx_not, evx_tup, evx_lst, evx_ix, evx_sl, evx_bf, evx_call, evx_gix, evx_ite, evsx_nil, evsx_cons, evT, evO, evOT, Env.get, bf_one, bf1, isi_str, isi_tup, isStr, isTupD, asD, truD, cmpD, cmpOp, eqE, nilEq, solid, endD, slOf, dOf, toInt, seqOf, seqE, seqS, seqJ, setTg, setTgs, List.mapM_cons, List.mapM_nil, Option.bind, Option.map, bd_ap, pu_ap, edt]) (fun d g' => by simp [wipeE, ofO_some, M.pu_bd, exsx_nil, exsx_cons, exx_asg, exx_par, exx_ret, exx_retN, exx_iff, exx_for, exx_whl, exx_raise, exx_gput, evx_c, evx_v, evx_bin, evx_cmp, evx_chain, evx_and, evx_or, evx_not, evx_tup, evx_lst, evx_ix, evx_sl, evx_bf, evx_call, evx_gix, evx_ite, evsx_nil, evsx_cons, evT, evO, evOT, Env.get, bf_one, bf1, isi_str, isi_tup, isStr, isTupD, asD, truD, cmpD, cmpOp, eqE, nilEq, solid, endD, slOf, dOf, toInt, seqOf, seqE, seqS, seqJ, setTg, setTgs, List.mapM_cons, List.mapM_nil, Option.bind, Option.map, bd_ap, pu_ap]) (fun d => by simp [wipeE, setTg])
  refine ⟨.tuple [.tuple ks, .tuple [a, b, c], .tuple ss], g6, ?_, ?_, ⟨hg6.gl, hg6.t0, by have := hg6.tk; omega⟩⟩
  · rw [callF_tx W.hu]
    simp only [dActs, dSteps, dReads, dLets] at ek ea eb ec es
    simp [L_setup, ofO_some, M.pu_bd, exsx_nil, exsx_cons, exx_asg, exx_par, exx_ret, exx_retN, exx_iff, exx_for, exx_whl, exx_raise, exx_gput, evx_c, evx_v, evx_bin, evx_cmp, evx_chain, evx_and, evx_or, evx_not, evx_tup, evx_lst, evx_ix, evx_sl, evx_bf, evx_call, evx_gix, evx_ite, evsx_nil, evsx_cons, evT, evO, evOT, Env.get, bf_one, bf1, isi_str, isi_tup, isStr, isTupD, asD, truD, cmpD, cmpOp, eqE, nilEq, solid, endD, slOf, dOf, toInt, seqOf, seqE, seqS, seqJ, setTg, setTgs, List.mapM_cons, List.mapM_nil, Option.bind, Option.map, bd_ap, pu_ap, h2s, h3s, h8s, h9s, tupleD, ek, ea, eb, ec, es]
  · have hkl : 1 ≤ ks.length ∧ ks.length ≤ 3 := by omega
    have hsl : ss.length = 4 := by omega
    simp [setupF, kindsF, shellF, rulesB, hkl, hsl, bad_all pk, bad_all ps, w_reads a pa, w_lets b pb, w_lets c pc]
end
end PD
end
section
set_option Elab.async false
set_option linter.all false
set_option maxRecDepth 100000
set_option maxHeartbeats 4000000
namespace PD
open PySem PySem.Spec L2

/-! ### the program's standings, for any law -/
def L_is_whole : List Sm := [(.ret (.and (.bf (.isinst ["int"]) [(.v 0)]) (.not (.bf (.isinst ["bool"]) [(.v 0)]))))]
def L_is_below : List Sm := [(.ret (.and (.call 9 [(.v 0)]) (.chain .LtE .Lt (.c (.int (0))) (.v 0) (.v 1))))]
def L_is_notice : List Sm := [(.iff (.cmp .Eq (.v 0) (.c (.str "ended"))) [(.ret (.call 0 [(.v 1), (.tup [(.c (.str "end"))])]))] []), (.ret (.call 0 [(.v 1), (.tup [(.c (.str "stop")), (.c (.str "none"))])]))]
def L_is_job : List Sm := [(.iff (.not (.call 1 [(.v 1), (.c (.int (6))), (.c (.int (6)))])) [(.ret (.c (.bool false)))] []), (.asg (.n 2) (.ix (.v 0) (.c (.int (0))))), (.asg (.t [3, 4, 5, 6, 7, 8]) (.v 1)), (.iff (.or (.not (.call 10 [(.v 3), (.bf .len [(.v 2)])])) (.not (.call 10 [(.v 4), (.bin .Add (.bf .len [(.ix (.v 2) (.v 3))]) (.c (.int (1))))]))) [(.ret (.c (.bool false)))] []), (.iff (.or (.not (.call 0 [(.v 6), (.c (.tuple [(.str "runs"), (.str "stopped"), (.str "ended")]))])) (.not (.call 11 [(.v 6), (.v 7)]))) [(.ret (.c (.bool false)))] []), (.ret (.and (.bf (.isinst ["bool"]) [(.v 5)]) (.bf (.isinst ["bool"]) [(.v 8)])))]
def L_are_jobs : List Sm := [(.iff (.not (.bf (.isinst ["tuple"]) [(.v 2)])) [(.ret (.c (.bool false)))] []), (.asg (.n 3) (.c (.int (0)))), (.for_ (.n 4) (.e (.v 2)) [(.iff (.not (.call 1 [(.v 4), (.c (.int (2))), (.c (.int (2)))])) [(.ret (.c (.bool false)))] []), (.asg (.t [5, 6]) (.v 4)), (.iff (.or (.not (.call 10 [(.v 5), (.v 1)])) (.or (.cmp .Lt (.v 5) (.v 3)) (.not (.call 12 [(.v 0), (.v 6)])))) [(.ret (.c (.bool false)))] []), (.asg (.n 3) (.bin .Add (.v 5) (.c (.int (1)))))]), (.ret (.c (.bool true)))]
def L_find_job : List Sm := [(.iff (.not (.call 9 [(.v 1)])) [(.ret (.c .none))] []), (.for_ (.t [2, 3]) (.e (.v 0)) [(.iff (.cmp .Eq (.v 2) (.v 1)) [(.ret (.v 3))] [])]), (.ret (.c .none))]
def L_place_bound : List Sm := [(.iff (.cmp .Eq (.v 1) (.c (.str "none"))) [(.ret (.c (.int (1))))] []), (.ret (.bf .len [(.ix (.ix (.v 0) (.c (.int (2)))) (.idx (.tuple [(.str "fore"), (.str "back"), (.str "front"), (.str "behind")]) (.v 1)))]))]
def L_may_be_front : List Sm := [(.ret (.and (.ix (.v 0) (.c (.int (2)))) (.cmp .NotEq (.ix (.v 0) (.c (.int (3)))) (.c (.str "ended")))))]
def L_is_front : List Sm := [(.iff (.call 0 [(.v 1), (.tup [(.c (.str "shell")), (.c (.str "nobody"))])]) [(.ret (.c (.bool true)))] []), (.asg (.n 2) (.call 14 [(.v 0), (.v 1)])), (.ret (.and (.cmp .IsNot (.v 2) (.c .none)) (.call 16 [(.v 2)])))]
def L_is_hand : List Sm := [(.iff (.and (.call 9 [(.v 2)]) (.cmp .Eq (.v 2) (.neg (.c (.int (1)))))) [(.ret (.c (.bool true)))] []), (.ret (.and (.cmp .NotEq (.v 0) (.c (.str "none"))) (.cmp .IsNot (.call 14 [(.v 1), (.v 2)]) (.c .none))))]
def L_standing_fault : List Sm := [(.iff (.not (.call 1 [(.v 1), (.c (.int (7))), (.c (.int (7)))])) [(.ret (.tup []))] []), (.asg (.t [2, 3, 4, 5, 6, 7, 8]) (.v 1)), (.iff (.not (.call 0 [(.v 2), (.tups [(.c (.str "none"))] (.c (.tuple [(.str "fore"), (.str "back"), (.str "front"), (.str "behind")])))])) [(.ret (.tup [(.c (.str "script"))]))] []), (.iff (.not (.call 10 [(.v 3), (.call 15 [(.v 0), (.v 2)])])) [(.ret (.tup [(.c (.str "place"))]))] []), (.iff (.not (.call 0 [(.v 5), (.c (.tuple [(.str "plain"), (.str "raw")]))])) [(.ret (.tup [(.c (.str "mode"))]))] []), (.iff (.or (.not (.call 9 [(.v 7)])) (.cmp .Lt (.v 7) (.c (.int (0))))) [(.ret (.tup [(.c (.str "made"))]))] []), (.iff (.not (.call 13 [(.v 0), (.v 7), (.v 8)])) [(.ret (.tup [(.c (.str "jobs"))]))] []), (.iff (.not (.call 17 [(.v 8), (.v 4)])) [(.ret (.tup [(.c (.str "front"))]))] []), (.iff (.not (.call 18 [(.v 2), (.v 8), (.v 6)])) [(.ret (.tup [(.c (.str "hand"))]))] []), (.ret (.c .none))]
def L_need_standing : List Sm := [(.expr (.call 8 [(.v 0)])), (.asg (.n 2) (.call 19 [(.v 0), (.v 1)])), (.iff (.cmp .IsNot (.v 2) (.c .none)) [(.raise "BadStanding" (.v 2))] []), (.ret (.v 1))]
structure Stg (wd : Str → Option (Option Str)) (P : List Df) (nd : Nat := 20) : Prop extends Su wd P where
  h8 : P[8]? = some (.tx 1 2 L_need_setup)
  h9 : P[9]? = some (.tx 1 1 L_is_whole)
  h10 : P[10]? = some (.tx 2 2 L_is_below)
  h11 : P[11]? = some (.tx 2 2 L_is_notice)
  h12 : P[12]? = some (.tx 2 9 L_is_job)
  h13 : P[13]? = some (.tx 3 7 L_are_jobs)
  h14 : P[14]? = some (.tx 2 4 L_find_job)
  h15 : P[15]? = some (.tx 2 2 L_place_bound)
  h16 : P[16]? = some (.tx 1 1 L_may_be_front)
  h17 : P[17]? = some (.tx 2 3 L_is_front)
  h18 : P[18]? = some (.tx 3 3 L_is_hand)
  h19 : P[19]? = some (.tx 2 9 L_standing_fault)
  h20 : P[nd]? = some (.tx 2 3 L_need_standing)
section
variable {F : Fns} {env : PD.Env}
theorem evx_tups (es : List E) (e : E) : ev F (.tups es e) env = (evs F es env).bd fun xs => (ev F e env).bd fun y => (M.ofO (seqOf y)).bd fun zs => (M.ofO (xs.mapM dOf)).bd fun ds => if ds.length + zs.length ≤ sizeLine then .pu (.d (.tuple (ds ++ zs))) else .stuck := by simp only [ev]
theorem evx_idx (d : D) (e : E) : ev F (.idx d e) env = (ev F e env).bd fun x => .ofO (((asD x).bind (idxD d)).map .d) := by simp only [ev]
theorem evx_idl (a e : E) : ev F (.idl a e) env = (ev F a env).bd fun x => (M.ofO (lsOf x)).bd fun ds => (ev F e env).bd fun y => .ofO (((asD y).bind (idlD ds)).map .d) := by simp only [ev]
theorem evx_neg (a : E) : ev F (.neg a) env = (ev F a env).bd fun x => (toInt x).bd fun i => .pu (.d (.int (-i))) := by simp only [ev]
end
theorem exx_expr {F : Fns} {n : Nat} {env : PD.Env} (e : E) : exS F n (.expr e) env = (ev F e env).bd fun _ => .pu (.nx env) := by simp only [exS]
def pairD (j : Int) (jb : D) : D := .tuple [.int j, jb]
def jobT (kd pl : Int) (own : Bool) (st no : Str) (he : Bool) : D := .tuple [.int kd, .int pl, .bool own, .str st, .str no, .bool he]
def stNo : List (Str × Str) := [("runs", "stop"), ("runs", "none"), ("stopped", "stop"), ("stopped", "none"), ("ended", "end")]
structure JobOk (ks : List D) (jb : D) : Prop where
  ex : ∃ kd pl own st no he acts, jb = jobT kd pl own st no he ∧ 0 ≤ kd ∧ kd < ks.length ∧ ks[kd.toNat]? = some (.tuple acts) ∧ 0 ≤ pl ∧ pl ≤ acts.length ∧ (st, no) ∈ stNo
inductive Js (ks : List D) (hi : Int) : Int → List D → Prop
  | nil {lo : Int} : Js ks hi lo []
  | cons {lo j : Int} {jb : D} {js : List D} : lo ≤ j → 0 ≤ j → j < hi → JobOk ks jb → Js ks hi (j + 1) js → Js ks hi lo (pairD j jb :: js)
theorem Js.up {ks : List D} {hi hi' : Int} (h : hi ≤ hi') : ∀ {lo : Int} {js : List D}, Js ks hi lo js → Js ks hi' lo js
  | _, _, .nil => .nil
  | _, _, .cons a b c d e => .cons a b (by omega) d (Js.up h e)
theorem Js.snoc {ks : List D} {n : Int} (h0 : 0 ≤ n) {jb : D} (ok : JobOk ks jb) : ∀ {lo : Int} {js : List D}, Js ks n lo js → lo ≤ n → Js ks (n + 1) lo (js ++ [pairD n jb])
  | _, _, .nil, h => .cons h h0 (by omega) ok .nil
  | _, _, .cons a b c d e, h => .cons a b (by omega) d (Js.snoc h0 ok e (by omega))
theorem Js.ge {ks : List D} {hi : Int} : ∀ {lo : Int} {js : List D}, Js ks hi lo js → ∀ {n : Int} {jb : D}, pairD n jb ∈ js → lo ≤ n ∧ 0 ≤ n ∧ n < hi ∧ JobOk ks jb
  | _, _, .nil, _, _, h => by cases h
  | _, _, .cons a b c d e, n, jb, h => by
    rcases List.mem_cons.mp h with h | h
    · unfold pairD at h
      injection h with h
      injection h with h1 h2
      injection h1 with h1
      injection h2 with h2
      subst h1 h2
      exact ⟨a, b, c, d⟩
    · obtain ⟨k1, k2, k3, k4⟩ := Js.ge e h
      exact ⟨by omega, k2, k3, k4⟩
def findJ (n : Int) : List D → D
  | .tuple [.int j, jb] :: r => if j = n then jb else findJ n r
  | _ => .none
theorem findJ_cons {n j : Int} {jb : D} {r : List D} : findJ n (pairD j jb :: r) = if j = n then jb else findJ n r := rfl
theorem Js.found {ks : List D} {hi : Int} : ∀ {lo : Int} {js : List D}, Js ks hi lo js → ∀ {n : Int} {jb : D}, pairD n jb ∈ js → findJ n js = jb
  | _, _, .nil, _, _, h => by cases h
  | _, _, .cons (j := j) a b c d e, n, jb, h => by
    rw [findJ_cons]
    rcases List.mem_cons.mp h with h | h
    · unfold pairD at h
      injection h with h
      injection h with h1 h2
      injection h1 with h1
      injection h2 with h2
      subst h1 h2
      rw [if_pos rfl]
    · have := (Js.ge e h).1
      rw [if_neg (by omega)]
      exact Js.found e h
theorem Js.none {ks : List D} {hi : Int} : ∀ {lo : Int} {js : List D}, Js ks hi lo js → ∀ {n : Int}, (∀ jb, pairD n jb ∉ js) → findJ n js = .none
  | _, _, .nil, _, _ => rfl
  | _, _, .cons (j := j) (jb := jb) a b c d e, n, h => by
    rw [findJ_cons, if_neg (fun z => h jb (by rw [z]; simp))]
    exact Js.none e fun jb' h' => h jb' (by simp [h'])
def wholeB : D → Bool
  | .int _ => true
  | _ => false
def belowB (d : D) (b : Int) : Bool := match d with
  | .int i => decide (0 ≤ i ∧ i < b)
  | _ => false
def words5 : List Str := ["none", "fore", "back", "front", "behind"]
def shi (i : Int) : SeqAt.shaped (.int i) = true := by simp [SeqAt.shaped, PyData.canLay0, PyData.depth]
theorem eqi (i j : Int) : PyData.eqv (.int i) (.int j) = (i == j) := by simp [PyData.eqv]
section
variable {wd : Str → Option (Option Str)} {P : List Df} {nd : Nat} (S : Stg wd P nd)
include S
theorem is_whole (f : Nat) (d : D) : callF wd 100 P (f + 1) 9 [.d d] = .pu (.bool (wholeB d)) := by
  rw [callF_tx S.h9]
  cases d <;> simp [L_is_whole, ofO_some, M.pu_bd, exsx_nil, exsx_cons, exx_asg, exx_par, exx_ret, exx_retN, exx_iff, exx_for, exx_whl, exx_raise, exx_gput, evx_c, evx_v, evx_bin, evx_cmp, evx_chain, evx_and, evx_or, evx_not, evx_tup, evx_lst, evx_ix, evx_sl, evx_bf, evx_call, evx_gix, evx_ite, evsx_nil, evsx_cons, evT, evO, evOT, Env.get, bf_one, bf1, isi_str, isi_tup, isStr, isTupD, asD, truD, cmpD, cmpOp, eqE, nilEq, solid, endD, slOf, dOf, toInt, seqOf, seqE, seqS, seqJ, setTg, setTgs, List.mapM_cons, List.mapM_nil, Option.bind, Option.map, wholeB, isiD, tyS, tySub]
theorem is_below (f : Nat) (d : D) (b : Int) : callF wd 100 P (f + 2) 10 [.d d, .d (.int b)] = .pu (.bool (belowB d b)) := by
  rw [callF_tx S.h10]
  cases d with
  | int i => by_cases h : 0 ≤ i <;> simp [L_is_below, ofO_some, M.pu_bd, exsx_nil, exsx_cons, exx_asg, exx_par, exx_ret, exx_retN, exx_iff, exx_for, exx_whl, exx_raise, exx_gput, evx_c, evx_v, evx_bin, evx_cmp, evx_chain, evx_and, evx_or, evx_not, evx_tup, evx_lst, evx_ix, evx_sl, evx_bf, evx_call, evx_gix, evx_ite, evsx_nil, evsx_cons, evT, evO, evOT, Env.get, bf_one, bf1, isi_str, isi_tup, isStr, isTupD, asD, truD, cmpD, cmpOp, eqE, nilEq, solid, endD, slOf, dOf, toInt, seqOf, seqE, seqS, seqJ, setTg, setTgs, List.mapM_cons, List.mapM_nil, Option.bind, Option.map, is_whole S, wholeB, belowB, leD, ltD, h]
  | _ => simp [L_is_below, ofO_some, M.pu_bd, exsx_nil, exsx_cons, exx_asg, exx_par, exx_ret, exx_retN, exx_iff, exx_for, exx_whl, exx_raise, exx_gput, evx_c, evx_v, evx_bin, evx_cmp, evx_chain, evx_and, evx_or, evx_not, evx_tup, evx_lst, evx_ix, evx_sl, evx_bf, evx_call, evx_gix, evx_ite, evsx_nil, evsx_cons, evT, evO, evOT, Env.get, bf_one, bf1, isi_str, isi_tup, isStr, isTupD, asD, truD, cmpD, cmpOp, eqE, nilEq, solid, endD, slOf, dOf, toInt, seqOf, seqE, seqS, seqJ, setTg, setTgs, List.mapM_cons, List.mapM_nil, Option.bind, Option.map, is_whole S, wholeB, belowB]
theorem is_notice (f : Nat) {st no : Str} (h : (st, no) ∈ stNo) : callF wd 100 P (f + 2) 11 [.d (.str st), .d (.str no)] = .pu (.bool true) := by
  have w := fun d ws => is_word S.toSu f d ws
  have w1 := w (.str no) ["end"]
  have w2 := w (.str no) ["stop", "none"]
  rw [callF_tx S.h11]
  simp only [stNo, List.mem_cons, List.not_mem_nil, or_false, Prod.mk.injEq] at h
  have z1 : (1 : Nat) ≤ sizeLine := one_s
  have z2 : (2 : Nat) ≤ sizeLine := by rw [sizeLine_eq]; omega
  have r1 : eqD (.str "runs") (.str "ended") = some false := by kernel_rfl
  have r2 : eqD (.str "stopped") (.str "ended") = some false := by kernel_rfl
  have r3 : eqD (.str "ended") (.str "ended") = some true := by kernel_rfl
  simp only [List.map_cons, List.map_nil] at w1 w2
  rcases h with ⟨rfl, rfl⟩ | ⟨rfl, rfl⟩ | ⟨rfl, rfl⟩ | ⟨rfl, rfl⟩ | ⟨rfl, rfl⟩ <;> simp [L_is_notice, ofO_some, M.pu_bd, exsx_nil, exsx_cons, exx_asg, exx_par, exx_ret, exx_retN, exx_iff, exx_for, exx_whl, exx_raise, exx_gput, evx_c, evx_v, evx_bin, evx_cmp, evx_chain, evx_and, evx_or, evx_not, evx_tup, evx_lst, evx_ix, evx_sl, evx_bf, evx_call, evx_gix, evx_ite, evsx_nil, evsx_cons, evT, evO, evOT, Env.get, bf_one, bf1, isi_str, isi_tup, isStr, isTupD, asD, truD, cmpD, cmpOp, eqE, nilEq, solid, endD, slOf, dOf, toInt, seqOf, seqE, seqS, seqJ, setTg, setTgs, List.mapM_cons, List.mapM_nil, Option.bind, Option.map, r1, r2, r3, z1, z2, w1, w2] <;> rfl
omit S in
theorem atI_ok {xs : List D} {i : Int} {x : D} (h0 : 0 ≤ i) (h1 : i < xs.length) (h : xs[i.toNat]? = some x) : atI xs i = some x := by
  have hn : i.toNat < xs.length := by omega
  rw [List.getElem?_eq_getElem hn] at h
  simp [atI, ixN, h0, h1, hn, Option.some.inj h]
omit S in
theorem at0 {x : D} {xs : List D} : atI (x :: xs) 0 = some x := by simp [atI, ixN]
omit S in
theorem at1 {x y : D} {xs : List D} : atI (x :: y :: xs) 1 = some y := atI_ok (by decide) (by simp; omega) rfl
omit S in
theorem at2 {x y z : D} {xs : List D} : atI (x :: y :: z :: xs) 2 = some z := atI_ok (by decide) (by simp; omega) rfl
omit S in
theorem at3 {x y z w : D} {xs : List D} : atI (x :: y :: z :: w :: xs) 3 = some w := atI_ok (by decide) (by simp; omega) rfl
omit S in
theorem at6 {x y z w a b c : D} {xs : List D} : atI (x :: y :: z :: w :: a :: b :: c :: xs) 6 = some c := atI_ok (by decide) (by simp; omega) rfl
theorem is_job (f : Nat) {ks : List D} {r s jb : D} (h : JobOk ks jb) : callF wd 100 P (f + 3) 12 [.d (.tuple [.tuple ks, r, s]), .d jb] = .pu (.bool true) := by
  obtain ⟨kd, pl, own, st, no, he, acts, rfl, k0, k1, k2, p0, p1, sn⟩ := h.ex
  rw [callF_tx S.h12]
  have w := is_word S.toSu (f + 1) (.str st) ["runs", "stopped", "ended"]
  simp only [List.map_cons, List.map_nil] at w
  have ws : wordB (.str st) ["runs", "stopped", "ended"] = true := by
    simp only [stNo, List.mem_cons, List.not_mem_nil, or_false, Prod.mk.injEq] at sn
    rcases sn with ⟨rfl, rfl⟩ | ⟨rfl, rfl⟩ | ⟨rfl, rfl⟩ | ⟨rfl, rfl⟩ | ⟨rfl, rfl⟩ <;> decide
  rw [ws] at w
  have n := is_notice S (f) sn
  have b1 := is_below S f (.int kd) ks.length
  have b2 := is_below S f (.int pl) (acts.length + 1)
  have t1 : belowB (.int kd) ks.length = true := by simp [belowB, k0, k1]
  have t2 : belowB (.int pl) (acts.length + 1) = true := by simp [belowB, p0]; omega
  rw [t1] at b1
  rw [t2] at b2
  have ai := atI_ok k0 k1 k2
  simp [L_is_job, jobT, ofO_some, M.pu_bd, exsx_nil, exsx_cons, exx_asg, exx_par, exx_ret, exx_retN, exx_iff, exx_for, exx_whl, exx_raise, exx_gput, evx_c, evx_v, evx_bin, evx_cmp, evx_chain, evx_and, evx_or, evx_not, evx_tup, evx_lst, evx_ix, evx_sl, evx_bf, evx_call, evx_gix, evx_ite, evsx_nil, evsx_cons, evT, evO, evOT, Env.get, bf_one, bf1, isi_str, isi_tup, isStr, isTupD, asD, truD, cmpD, cmpOp, eqE, nilEq, solid, endD, slOf, dOf, toInt, seqOf, seqE, seqS, seqJ, setTg, setTgs, List.mapM_cons, List.mapM_nil, Option.bind, Option.map, is_tuple S.toSu, tupB, b1, b2, w, n, lenD, ixD, itD, at0, ai, addD, binD, opD, isiD, tyS, tySub]
omit S in
theorem pair_2 (j : Int) (jb : D) : tupB (pairD j jb) 2 2 = true := by simp [pairD, tupB]
theorem are_loop (f : Nat) {ks : List D} {r s : D} {hi : Int} {js0 : D} : ∀ {lo : Int} {js : List D}, Js ks hi lo js → ∀ (s4 s5 s6 : Sl), ∃ l' s4' s5' s6',
    forB (.n 4) (exSs ⟨callF wd 100 P (f + 3), wd⟩ 100 [(.iff (.not (.call 1 [(.v 4), (.c (.int (2))), (.c (.int (2)))])) [(.ret (.c (.bool false)))] []), (.asg (.t [5, 6]) (.v 4)), (.iff (.or (.not (.call 10 [(.v 5), (.v 1)])) (.or (.cmp .Lt (.v 5) (.v 3)) (.not (.call 12 [(.v 0), (.v 6)])))) [(.ret (.c (.bool false)))] []), (.asg (.n 3) (.bin .Add (.v 5) (.c (.int (1)))))]) js
      [.fz (.tuple [.tuple ks, r, s]), .fz (.int hi), .fz js0, .fz (.int lo), s4, s5, s6] = .pu (.nx [.fz (.tuple [.tuple ks, r, s]), .fz (.int hi), .fz js0, .fz (.int l'), s4', s5', s6'])
  | lo, _, .nil, s4, s5, s6 => ⟨lo, s4, s5, s6, rfl⟩
  | lo, _, .cons (j := j) (jb := jb) (js := js) a b c d e, s4, s5, s6 => by
    obtain ⟨l', s4', s5', s6', ih⟩ := are_loop f e (.fz (pairD j jb)) (.fz (.int j)) (.fz jb)
    refine ⟨l', s4', s5', s6', ?_⟩
    rw [← ih]
    have t2 := is_tuple S.toSu (f + 2) (pairD j jb) 2 2
    rw [pair_2] at t2
    have b1 := is_below S (f + 1) (.int j) hi
    have t1 : belowB (.int j) hi = true := by simp [belowB, b, c]
    rw [t1] at b1
    have ij := is_job S (f := f) (r := r) (s := s) d
    have nl : ¬ j < lo := by omega
    unfold pairD at t2
    simp [forB, ofO_some, M.pu_bd, exsx_nil, exsx_cons, exx_asg, exx_par, exx_ret, exx_retN, exx_iff, exx_for, exx_whl, exx_raise, exx_gput, evx_c, evx_v, evx_bin, evx_cmp, evx_chain, evx_and, evx_or, evx_not, evx_tup, evx_lst, evx_ix, evx_sl, evx_bf, evx_call, evx_gix, evx_ite, evsx_nil, evsx_cons, evT, evO, evOT, Env.get, bf_one, bf1, isi_str, isi_tup, isStr, isTupD, asD, truD, cmpD, cmpOp, eqE, nilEq, solid, endD, slOf, dOf, toInt, seqOf, seqE, seqS, seqJ, setTg, setTgs, List.mapM_cons, List.mapM_nil, Option.bind, Option.map, pairD, t2, b1, ij, ltD, nl, binD, opD, addD]
theorem are_jobs (f : Nat) {ks : List D} {r s : D} {hi : Int} {js : List D} (h : Js ks hi 0 js) : callF wd 100 P (f + 4) 13 [.d (.tuple [.tuple ks, r, s]), .d (.int hi), .d (.tuple js)] = .pu (.bool true) := by
  rw [callF_tx S.h13]
  obtain ⟨l', s4', s5', s6', e⟩ := are_loop S f (r := r) (s := s) (js0 := .tuple js) h .un .un .un
  simp [L_are_jobs, ofO_some, M.pu_bd, exsx_nil, exsx_cons, exx_asg, exx_par, exx_ret, exx_retN, exx_iff, exx_for, exx_whl, exx_raise, exx_gput, evx_c, evx_v, evx_bin, evx_cmp, evx_chain, evx_and, evx_or, evx_not, evx_tup, evx_lst, evx_ix, evx_sl, evx_bf, evx_call, evx_gix, evx_ite, evsx_nil, evsx_cons, evT, evO, evOT, Env.get, bf_one, bf1, isi_str, isi_tup, isStr, isTupD, asD, truD, cmpD, cmpOp, eqE, nilEq, solid, endD, slOf, dOf, toInt, seqOf, seqE, seqS, seqJ, setTg, setTgs, List.mapM_cons, List.mapM_nil, Option.bind, Option.map, isi_tup, isTupD, evJ, e]
omit S in
theorem find_loop {F : Fns} {ks : List D} {hi n : Int} {js0 : D} : ∀ {lo : Int} {js : List D}, Js ks hi lo js → ∀ (s2 s3 : Sl),
    (∃ s2' s3', forB (.t [2, 3]) (exSs F 100 [(.iff (.cmp .Eq (.v 2) (.v 1)) [(.ret (.v 3))] [])]) js [.fz js0, .fz (.int n), s2, s3] = .pu (.nx [.fz js0, .fz (.int n), s2', s3']) ∧ findJ n js = .none) ∨
    forB (.t [2, 3]) (exSs F 100 [(.iff (.cmp .Eq (.v 2) (.v 1)) [(.ret (.v 3))] [])]) js [.fz js0, .fz (.int n), s2, s3] = .pu (.rt (findJ n js))
  | _, _, .nil, s2, s3 => .inl ⟨s2, s3, rfl, rfl⟩
  | _, _, .cons (j := j) (jb := jb) (js := js) a b c d e, s2, s3 => by
    rw [findJ_cons]
    by_cases q : j = n
    · refine .inr ?_
      simp [forB, ofO_some, M.pu_bd, exsx_nil, exsx_cons, exx_asg, exx_par, exx_ret, exx_retN, exx_iff, exx_for, exx_whl, exx_raise, exx_gput, evx_c, evx_v, evx_bin, evx_cmp, evx_chain, evx_and, evx_or, evx_not, evx_tup, evx_lst, evx_ix, evx_sl, evx_bf, evx_call, evx_gix, evx_ite, evsx_nil, evsx_cons, evT, evO, evOT, Env.get, bf_one, bf1, isi_str, isi_tup, isStr, isTupD, asD, truD, cmpD, cmpOp, eqE, nilEq, solid, endD, slOf, dOf, toInt, seqOf, seqE, seqS, seqJ, setTg, setTgs, List.mapM_cons, List.mapM_nil, Option.bind, Option.map, pairD, eqD, shi, eqi, q]
    · have st : ∀ X : M Fl, forB (.t [2, 3]) (exSs F 100 [(.iff (.cmp .Eq (.v 2) (.v 1)) [(.ret (.v 3))] [])]) js [.fz js0, .fz (.int n), .fz (.int j), .fz jb] = X → forB (.t [2, 3]) (exSs F 100 [(.iff (.cmp .Eq (.v 2) (.v 1)) [(.ret (.v 3))] [])]) (pairD j jb :: js) [.fz js0, .fz (.int n), s2, s3] = X := fun X h => by
        rw [← h]
        simp [forB, ofO_some, M.pu_bd, exsx_nil, exsx_cons, exx_asg, exx_par, exx_ret, exx_retN, exx_iff, exx_for, exx_whl, exx_raise, exx_gput, evx_c, evx_v, evx_bin, evx_cmp, evx_chain, evx_and, evx_or, evx_not, evx_tup, evx_lst, evx_ix, evx_sl, evx_bf, evx_call, evx_gix, evx_ite, evsx_nil, evsx_cons, evT, evO, evOT, Env.get, bf_one, bf1, isi_str, isi_tup, isStr, isTupD, asD, truD, cmpD, cmpOp, eqE, nilEq, solid, endD, slOf, dOf, toInt, seqOf, seqE, seqS, seqJ, setTg, setTgs, List.mapM_cons, List.mapM_nil, Option.bind, Option.map, pairD, eqD, shi, eqi, q]
      rw [if_neg q]
      rcases find_loop e (.fz (.int j)) (.fz jb) with ⟨s2', s3', e1, e2⟩ | e1
      · exact .inl ⟨s2', s3', st _ e1, e2⟩
      · exact .inr (st _ e1)
theorem find_job (f : Nat) {ks : List D} {hi lo : Int} {js : List D} (h : Js ks hi lo js) (n : Int) : callF wd 100 P (f + 2) 14 [.d (.tuple js), .d (.int n)] = .pu (findJ n js) := by
  rw [callF_tx S.h14]
  rcases find_loop (F := ⟨callF wd 100 P (f + 1), wd⟩) (n := n) (js0 := .tuple js) h .un .un with ⟨s2', s3', e1, e2⟩ | e1
  · simp [L_find_job, ofO_some, M.pu_bd, exsx_nil, exsx_cons, exx_asg, exx_par, exx_ret, exx_retN, exx_iff, exx_for, exx_whl, exx_raise, exx_gput, evx_c, evx_v, evx_bin, evx_cmp, evx_chain, evx_and, evx_or, evx_not, evx_tup, evx_lst, evx_ix, evx_sl, evx_bf, evx_call, evx_gix, evx_ite, evsx_nil, evsx_cons, evT, evO, evOT, Env.get, bf_one, bf1, isi_str, isi_tup, isStr, isTupD, asD, truD, cmpD, cmpOp, eqE, nilEq, solid, endD, slOf, dOf, toInt, seqOf, seqE, seqS, seqJ, setTg, setTgs, List.mapM_cons, List.mapM_nil, Option.bind, Option.map, is_whole S, wholeB, evJ, e1, e2]
  · simp [L_find_job, ofO_some, M.pu_bd, exsx_nil, exsx_cons, exx_asg, exx_par, exx_ret, exx_retN, exx_iff, exx_for, exx_whl, exx_raise, exx_gput, evx_c, evx_v, evx_bin, evx_cmp, evx_chain, evx_and, evx_or, evx_not, evx_tup, evx_lst, evx_ix, evx_sl, evx_bf, evx_call, evx_gix, evx_ite, evsx_nil, evsx_cons, evT, evO, evOT, Env.get, bf_one, bf1, isi_str, isi_tup, isStr, isTupD, asD, truD, cmpD, cmpOp, eqE, nilEq, solid, endD, slOf, dOf, toInt, seqOf, seqE, seqS, seqJ, setTg, setTgs, List.mapM_cons, List.mapM_nil, Option.bind, Option.map, is_whole S, wholeB, evJ, e1]
/-- where the shell is: idle, or at a step of a script -/
def PlaceOk (ss : List D) (w : Str) (pl : Int) : Prop := (w = "none" ∧ pl = 0) ∨ ∃ (i : Nat) (sc : List D), (["fore", "back", "front", "behind"] : List Str)[i]? = some w ∧ ss[i]? = some (.tuple sc) ∧ 0 ≤ pl ∧ pl < sc.length
theorem place_bound (f : Nat) {k r : D} {ss : List D} {w : Str} {pl : Int} (h : PlaceOk ss w pl) (hl : ss.length = 4) : ∃ b, callF wd 100 P (f + 1) 15 [.d (.tuple [k, r, .tuple ss]), .d (.str w)] = .pu (.int b) ∧ 0 ≤ pl ∧ pl < b := by
  rw [callF_tx S.h15]
  match ss, hl with
  | [a, b, c, d], _ =>
    have e0 : ∀ w ∈ (["fore", "back", "front", "behind"] : List Str), eqD (.str w) (.str "none") = some false := by
      intro w hw
      simp only [List.mem_cons, List.not_mem_nil, or_false] at hw
      rcases hw with rfl | rfl | rfl | rfl <;> kernel_rfl
    have en : eqD (.str "none") (.str "none") = some true := by kernel_rfl
    rcases h with ⟨rfl, rfl⟩ | ⟨i, sc, h1, h2, h3, h4⟩
    · exact ⟨1, by simp [L_place_bound, ofO_some, M.pu_bd, exsx_nil, exsx_cons, exx_asg, exx_par, exx_ret, exx_retN, exx_iff, exx_for, exx_whl, exx_raise, exx_gput, evx_c, evx_v, evx_bin, evx_cmp, evx_chain, evx_and, evx_or, evx_not, evx_tup, evx_lst, evx_ix, evx_sl, evx_bf, evx_call, evx_gix, evx_ite, evsx_nil, evsx_cons, evT, evO, evOT, Env.get, bf_one, bf1, isi_str, isi_tup, isStr, isTupD, asD, truD, cmpD, cmpOp, eqE, nilEq, solid, endD, slOf, dOf, toInt, seqOf, seqE, seqS, seqJ, setTg, setTgs, List.mapM_cons, List.mapM_nil, Option.bind, Option.map, en], by omega, by omega⟩
    · refine ⟨sc.length, ?_, h3, h4⟩
      have m1 : ∀ {z : Str}, asD (.d (.str z)) = some (.str z) := rfl
      have x0 : idxD (.tuple [.str "fore", .str "back", .str "front", .str "behind"]) (.str "fore") = some (.int 0) := by kernel_rfl
      have x1 : idxD (.tuple [.str "fore", .str "back", .str "front", .str "behind"]) (.str "back") = some (.int 1) := by kernel_rfl
      have x2 : idxD (.tuple [.str "fore", .str "back", .str "front", .str "behind"]) (.str "front") = some (.int 2) := by kernel_rfl
      have x3 : idxD (.tuple [.str "fore", .str "back", .str "front", .str "behind"]) (.str "behind") = some (.int 3) := by kernel_rfl
      match i, h1, h2 with
      | 0, h1, h2 =>
        obtain rfl : ("fore" : Str) = w := Option.some.inj h1
        obtain rfl : a = .tuple sc := Option.some.inj h2
        simp [L_place_bound, ofO_some, M.pu_bd, exsx_nil, exsx_cons, exx_asg, exx_par, exx_ret, exx_retN, exx_iff, exx_for, exx_whl, exx_raise, exx_gput, evx_c, evx_v, evx_bin, evx_cmp, evx_chain, evx_and, evx_or, evx_not, evx_tup, evx_lst, evx_ix, evx_sl, evx_bf, evx_call, evx_gix, evx_ite, evsx_nil, evsx_cons, evT, evO, evOT, Env.get, bf_one, bf1, isi_str, isi_tup, isStr, isTupD, asD, truD, cmpD, cmpOp, eqE, nilEq, solid, endD, slOf, dOf, toInt, seqOf, seqE, seqS, seqJ, setTg, setTgs, List.mapM_cons, List.mapM_nil, Option.bind, Option.map, e0, evx_idx, x0, ixD, itD, at0, at2, lenD]
      | 1, h1, h2 =>
        obtain rfl : ("back" : Str) = w := Option.some.inj h1
        obtain rfl : b = .tuple sc := Option.some.inj h2
        simp [L_place_bound, ofO_some, M.pu_bd, exsx_nil, exsx_cons, exx_asg, exx_par, exx_ret, exx_retN, exx_iff, exx_for, exx_whl, exx_raise, exx_gput, evx_c, evx_v, evx_bin, evx_cmp, evx_chain, evx_and, evx_or, evx_not, evx_tup, evx_lst, evx_ix, evx_sl, evx_bf, evx_call, evx_gix, evx_ite, evsx_nil, evsx_cons, evT, evO, evOT, Env.get, bf_one, bf1, isi_str, isi_tup, isStr, isTupD, asD, truD, cmpD, cmpOp, eqE, nilEq, solid, endD, slOf, dOf, toInt, seqOf, seqE, seqS, seqJ, setTg, setTgs, List.mapM_cons, List.mapM_nil, Option.bind, Option.map, e0, evx_idx, x1, ixD, itD, at1, at2, lenD]
      | 2, h1, h2 =>
        obtain rfl : ("front" : Str) = w := Option.some.inj h1
        obtain rfl : c = .tuple sc := Option.some.inj h2
        simp [L_place_bound, ofO_some, M.pu_bd, exsx_nil, exsx_cons, exx_asg, exx_par, exx_ret, exx_retN, exx_iff, exx_for, exx_whl, exx_raise, exx_gput, evx_c, evx_v, evx_bin, evx_cmp, evx_chain, evx_and, evx_or, evx_not, evx_tup, evx_lst, evx_ix, evx_sl, evx_bf, evx_call, evx_gix, evx_ite, evsx_nil, evsx_cons, evT, evO, evOT, Env.get, bf_one, bf1, isi_str, isi_tup, isStr, isTupD, asD, truD, cmpD, cmpOp, eqE, nilEq, solid, endD, slOf, dOf, toInt, seqOf, seqE, seqS, seqJ, setTg, setTgs, List.mapM_cons, List.mapM_nil, Option.bind, Option.map, e0, evx_idx, x2, ixD, itD, at2, lenD]
      | 3, h1, h2 =>
        obtain rfl : ("behind" : Str) = w := Option.some.inj h1
        obtain rfl : d = .tuple sc := Option.some.inj h2
        simp [L_place_bound, ofO_some, M.pu_bd, exsx_nil, exsx_cons, exx_asg, exx_par, exx_ret, exx_retN, exx_iff, exx_for, exx_whl, exx_raise, exx_gput, evx_c, evx_v, evx_bin, evx_cmp, evx_chain, evx_and, evx_or, evx_not, evx_tup, evx_lst, evx_ix, evx_sl, evx_bf, evx_call, evx_gix, evx_ite, evsx_nil, evsx_cons, evT, evO, evOT, Env.get, bf_one, bf1, isi_str, isi_tup, isStr, isTupD, asD, truD, cmpD, cmpOp, eqE, nilEq, solid, endD, slOf, dOf, toInt, seqOf, seqE, seqS, seqJ, setTg, setTgs, List.mapM_cons, List.mapM_nil, Option.bind, Option.map, e0, evx_idx, x3, ixD, itD, at2, at3, lenD]
def FrontOk (js : List D) (fr : D) : Prop := fr = .str "shell" ∨ fr = .str "nobody" ∨ ∃ j jb kd pl st no he, fr = .int j ∧ pairD j jb ∈ js ∧ jb = jobT kd pl true st no he ∧ (st, no) ∈ stNo ∧ st ≠ "ended"
theorem is_front (f : Nat) {ks : List D} {hi : Int} {js : List D} (h : Js ks hi 0 js) {fr : D} (hf : FrontOk js fr) : callF wd 100 P (f + 3) 17 [.d (.tuple js), .d fr] = .pu (.bool true) := by
  rw [callF_tx S.h17]
  have z2 : (2 : Nat) ≤ sizeLine := by rw [sizeLine_eq]; omega
  have w := is_word S.toSu (f + 1) fr ["shell", "nobody"]
  simp only [List.map_cons, List.map_nil] at w
  rcases hf with rfl | rfl | ⟨j, jb, kd, pl, st, no, he, rfl, hm, rfl, hs, hn⟩
  · simp only [show wordB (.str "shell") [("shell" : Str), "nobody"] = true from rfl] at w
    simp [L_is_front, ofO_some, M.pu_bd, exsx_nil, exsx_cons, exx_asg, exx_par, exx_ret, exx_retN, exx_iff, exx_for, exx_whl, exx_raise, exx_gput, evx_c, evx_v, evx_bin, evx_cmp, evx_chain, evx_and, evx_or, evx_not, evx_tup, evx_lst, evx_ix, evx_sl, evx_bf, evx_call, evx_gix, evx_ite, evsx_nil, evsx_cons, evT, evO, evOT, Env.get, bf_one, bf1, isi_str, isi_tup, isStr, isTupD, asD, truD, cmpD, cmpOp, eqE, nilEq, solid, endD, slOf, dOf, toInt, seqOf, seqE, seqS, seqJ, setTg, setTgs, List.mapM_cons, List.mapM_nil, Option.bind, Option.map, w, z2]
  · simp only [show wordB (.str "nobody") [("shell" : Str), "nobody"] = true from rfl] at w
    simp [L_is_front, ofO_some, M.pu_bd, exsx_nil, exsx_cons, exx_asg, exx_par, exx_ret, exx_retN, exx_iff, exx_for, exx_whl, exx_raise, exx_gput, evx_c, evx_v, evx_bin, evx_cmp, evx_chain, evx_and, evx_or, evx_not, evx_tup, evx_lst, evx_ix, evx_sl, evx_bf, evx_call, evx_gix, evx_ite, evsx_nil, evsx_cons, evT, evO, evOT, Env.get, bf_one, bf1, isi_str, isi_tup, isStr, isTupD, asD, truD, cmpD, cmpOp, eqE, nilEq, solid, endD, slOf, dOf, toInt, seqOf, seqE, seqS, seqJ, setTg, setTgs, List.mapM_cons, List.mapM_nil, Option.bind, Option.map, w, z2]
  · have fj := find_job S f h j
    rw [h.found hm] at fj
    simp only [show wordB (.int j) [("shell" : Str), "nobody"] = false from rfl] at w
    have mb : callF wd 100 P (f + 2) 16 [.d (jobT kd pl true st no he)] = .pu (.bool true) := by
      rw [callF_tx S.h16]
      have ne : eqD (.str st) (.str "ended") = some false := by
        simp only [stNo, List.mem_cons, List.not_mem_nil, or_false, Prod.mk.injEq] at hs
        rcases hs with ⟨rfl, rfl⟩ | ⟨rfl, rfl⟩ | ⟨rfl, rfl⟩ | ⟨rfl, rfl⟩ | ⟨rfl, rfl⟩
        · kernel_rfl
        · kernel_rfl
        · kernel_rfl
        · kernel_rfl
        · exact absurd rfl hn
      simp [L_may_be_front, jobT, ofO_some, M.pu_bd, exsx_nil, exsx_cons, exx_asg, exx_par, exx_ret, exx_retN, exx_iff, exx_for, exx_whl, exx_raise, exx_gput, evx_c, evx_v, evx_bin, evx_cmp, evx_chain, evx_and, evx_or, evx_not, evx_tup, evx_lst, evx_ix, evx_sl, evx_bf, evx_call, evx_gix, evx_ite, evsx_nil, evsx_cons, evT, evO, evOT, Env.get, bf_one, bf1, isi_str, isi_tup, isStr, isTupD, asD, truD, cmpD, cmpOp, eqE, nilEq, solid, endD, slOf, dOf, toInt, seqOf, seqE, seqS, seqJ, setTg, setTgs, List.mapM_cons, List.mapM_nil, Option.bind, Option.map, ixD, itD, at2, at3, ne]
    unfold jobT at fj mb
    simp [L_is_front, ofO_some, M.pu_bd, exsx_nil, exsx_cons, exx_asg, exx_par, exx_ret, exx_retN, exx_iff, exx_for, exx_whl, exx_raise, exx_gput, evx_c, evx_v, evx_bin, evx_cmp, evx_chain, evx_and, evx_or, evx_not, evx_tup, evx_lst, evx_ix, evx_sl, evx_bf, evx_call, evx_gix, evx_ite, evsx_nil, evsx_cons, evT, evO, evOT, Env.get, bf_one, bf1, isi_str, isi_tup, isStr, isTupD, asD, truD, cmpD, cmpOp, eqE, nilEq, solid, endD, slOf, dOf, toInt, seqOf, seqE, seqS, seqJ, setTg, setTgs, List.mapM_cons, List.mapM_nil, Option.bind, Option.map, w, z2, fj, mb, isD]
def HandOk (w : Str) (js : List D) (hd : Int) : Prop := hd = -1 ∨ (w ∈ (["fore", "back", "front", "behind"] : List Str) ∧ ∃ jb, pairD hd jb ∈ js)
theorem is_hand (f : Nat) {ks : List D} {hi : Int} {js : List D} (h : Js ks hi 0 js) {w : Str} {hd : Int} (hh : HandOk w js hd) : callF wd 100 P (f + 3) 18 [.d (.str w), .d (.tuple js), .d (.int hd)] = .pu (.bool true) := by
  rw [callF_tx S.h18]
  rcases hh with rfl | ⟨hw, jb, hm⟩
  · simp [L_is_hand, ofO_some, M.pu_bd, exsx_nil, exsx_cons, exx_asg, exx_par, exx_ret, exx_retN, exx_iff, exx_for, exx_whl, exx_raise, exx_gput, evx_c, evx_v, evx_bin, evx_cmp, evx_chain, evx_and, evx_or, evx_not, evx_tup, evx_lst, evx_ix, evx_sl, evx_bf, evx_call, evx_gix, evx_ite, evsx_nil, evsx_cons, evT, evO, evOT, Env.get, bf_one, bf1, isi_str, isi_tup, isStr, isTupD, asD, truD, cmpD, cmpOp, eqE, nilEq, solid, endD, slOf, dOf, toInt, seqOf, seqE, seqS, seqJ, setTg, setTgs, List.mapM_cons, List.mapM_nil, Option.bind, Option.map, is_whole S, wholeB, eqD, shi, eqi, evx_neg]
  · have fj := find_job S f h hd
    rw [h.found hm] at fj
    obtain ⟨_, h0, _, ok⟩ := h.ge hm
    obtain ⟨kd, pl, own, st, no, he, acts, rfl, _⟩ := ok.ex
    have nh : ¬ hd = -1 := by omega
    have e0 : eqD (.str w) (.str "none") = some false := by
      simp only [List.mem_cons, List.not_mem_nil, or_false] at hw
      rcases hw with rfl | rfl | rfl | rfl <;> kernel_rfl
    unfold jobT at fj
    have e9 : eqD (.int hd) (.int (-1)) = some false := by simp [eqD, shi, eqi, nh]
    simp [L_is_hand, ofO_some, M.pu_bd, exsx_nil, exsx_cons, exx_asg, exx_par, exx_ret, exx_retN, exx_iff, exx_for, exx_whl, exx_raise, exx_gput, evx_c, evx_v, evx_bin, evx_cmp, evx_chain, evx_and, evx_or, evx_not, evx_tup, evx_lst, evx_ix, evx_sl, evx_bf, evx_call, evx_gix, evx_ite, evsx_nil, evsx_cons, evT, evO, evOT, Env.get, bf_one, bf1, isi_str, isi_tup, isStr, isTupD, asD, truD, cmpD, cmpOp, eqE, nilEq, solid, endD, slOf, dOf, toInt, seqOf, seqE, seqS, seqJ, setTg, setTgs, List.mapM_cons, List.mapM_nil, Option.bind, Option.map, is_whole S, wholeB, evx_neg, e9, e0, fj, isD]
/-- a standing of a setup, by what the program asks -/
structure StdOk (ks ss : List D) (w : Str) (pl : Int) (fr : D) (md : Str) (hd mk : Int) (js : List D) : Prop where
  place : PlaceOk ss w pl
  mode : md ∈ (["plain", "raw"] : List Str)
  made : 0 ≤ mk
  jobs : Js ks mk 0 js
  front : FrontOk js fr
  hand : HandOk w js hd
omit S in
theorem PlaceOk.w5 {ss : List D} {w : Str} {pl : Int} (h : PlaceOk ss w pl) : w ∈ words5 := by
  rcases h with ⟨rfl, _⟩ | ⟨i, sc, h1, _⟩
  · simp [words5]
  · have := List.mem_of_getElem? h1
    unfold words5
    exact List.mem_cons_of_mem _ this
def stT (w : Str) (pl : Int) (fr : D) (md : Str) (hd mk : Int) (js : List D) : D := .tuple [.str w, .int pl, fr, .str md, .int hd, .int mk, .tuple js]
theorem standing_ok (f : Nat) {ks ss : List D} {r : D} {w : Str} {pl : Int} {fr : D} {md : Str} {hd mk : Int} {js : List D} (hl : ss.length = 4) (h : StdOk ks ss w pl fr md hd mk js) :
    callF wd 100 P (f + 5) 19 [.d (.tuple [.tuple ks, r, .tuple ss]), .d (stT w pl fr md hd mk js)] = .pu .none := by
  rw [callF_tx S.h19]
  have z5 : (5 : Nat) ≤ sizeLine := by rw [sizeLine_eq]; omega
  have w1 := is_word S.toSu (f + 3) (.str w) words5
  have w2 := is_word S.toSu (f + 3) (.str md) ["plain", "raw"]
  have v1 : wordB (.str w) words5 = true := by simp [wordB, h.place.w5]
  have v2 : wordB (.str md) ["plain", "raw"] = true := by simp only [wordB, decide_eq_true_eq]; exact h.mode
  rw [v1] at w1
  rw [v2] at w2
  simp only [words5, List.map_cons, List.map_nil] at w1 w2
  obtain ⟨b, pb, p0, p1⟩ := place_bound S (f + 3) (k := .tuple ks) (r := r) h.place hl
  have bl := is_below S (f + 2) (.int pl) b
  have t1 : belowB (.int pl) b = true := by simp [belowB, p0, p1]
  rw [t1] at bl
  have aj := are_jobs S f (r := r) (s := .tuple ss) h.jobs
  have fr := is_front S (f + 1) h.jobs h.front
  have ha := is_hand S (f + 1) h.jobs h.hand
  have mk0 : ¬ mk < 0 := by have := h.made; omega
  simp [L_standing_fault, stT, ofO_some, M.pu_bd, exsx_nil, exsx_cons, exx_asg, exx_par, exx_ret, exx_retN, exx_iff, exx_for, exx_whl, exx_raise, exx_gput, evx_c, evx_v, evx_bin, evx_cmp, evx_chain, evx_and, evx_or, evx_not, evx_tup, evx_lst, evx_ix, evx_sl, evx_bf, evx_call, evx_gix, evx_ite, evsx_nil, evsx_cons, evT, evO, evOT, Env.get, bf_one, bf1, isi_str, isi_tup, isStr, isTupD, asD, truD, cmpD, cmpOp, eqE, nilEq, solid, endD, slOf, dOf, toInt, seqOf, seqE, seqS, seqJ, setTg, setTgs, List.mapM_cons, List.mapM_nil, Option.bind, Option.map, is_tuple S.toSu, tupB, evx_tups, z5, one_s, w1, w2, pb, bl, is_whole S, wholeB, ltD, mk0, aj, fr, ha]
theorem need_setup_ok (f : Nat) (d : D) (e : setupF d = none) : callF wd 100 P (f + 5) 8 [.d d] = .pu d := by
  have h := setup_fault S.toSu f d
  rw [callF_tx S.h8]
  rw [e] at h; simp [L_need_setup, ofO_some, M.pu_bd, exsx_nil, exsx_cons, exx_asg, exx_par, exx_ret, exx_retN, exx_iff, exx_for, exx_whl, exx_raise, exx_gput, evx_c, evx_v, evx_bin, evx_cmp, evx_chain, evx_and, evx_or, evx_not, evx_tup, evx_lst, evx_ix, evx_sl, evx_bf, evx_call, evx_gix, evx_ite, evsx_nil, evsx_cons, evT, evO, evOT, Env.get, bf_one, bf1, isi_str, isi_tup, isStr, isTupD, asD, truD, cmpD, cmpOp, eqE, nilEq, solid, endD, slOf, dOf, toInt, seqOf, seqE, seqS, seqJ, setTg, setTgs, List.mapM_cons, List.mapM_nil, Option.bind, Option.map, h, optD, isD]
theorem need_setup_er (f : Nat) (d p : D) (e : setupF d = some p) : callF wd 100 P (f + 5) 8 [.d d] = M.raise "BadSetup" p := by
  have h := setup_fault S.toSu f d
  rw [callF_tx S.h8]
  obtain ⟨ds, rfl⟩ := setupF_tup e
  rw [e] at h; simp [L_need_setup, ofO_some, M.pu_bd, exsx_nil, exsx_cons, exx_asg, exx_par, exx_ret, exx_retN, exx_iff, exx_for, exx_whl, exx_raise, exx_gput, evx_c, evx_v, evx_bin, evx_cmp, evx_chain, evx_and, evx_or, evx_not, evx_tup, evx_lst, evx_ix, evx_sl, evx_bf, evx_call, evx_gix, evx_ite, evsx_nil, evsx_cons, evT, evO, evOT, Env.get, bf_one, bf1, isi_str, isi_tup, isStr, isTupD, asD, truD, cmpD, cmpOp, eqE, nilEq, solid, endD, slOf, dOf, toInt, seqOf, seqE, seqS, seqJ, setTg, setTgs, List.mapM_cons, List.mapM_nil, Option.bind, Option.map, h, optD, isD, raise_bd]
theorem need_st_ok (f : Nat) {ks ss : List D} {r : D} {w : Str} {pl : Int} {fr : D} {md : Str} {hd mk : Int} {js : List D} (e : setupF (.tuple [.tuple ks, r, .tuple ss]) = none) (hl : ss.length = 4) (h : StdOk ks ss w pl fr md hd mk js) :
    callF wd 100 P (f + 6) nd [.d (.tuple [.tuple ks, r, .tuple ss]), .d (stT w pl fr md hd mk js)] = .pu (stT w pl fr md hd mk js) := by
  rw [callF_tx S.h20]
  have h1 := need_setup_ok S f _ e
  have h2 := standing_ok S f (r := r) hl h
  unfold stT at h2 ⊢
  simp [L_need_standing, ofO_some, M.pu_bd, exsx_nil, exsx_cons, exx_asg, exx_par, exx_ret, exx_retN, exx_iff, exx_for, exx_whl, exx_raise, exx_gput, evx_c, evx_v, evx_bin, evx_cmp, evx_chain, evx_and, evx_or, evx_not, evx_tup, evx_lst, evx_ix, evx_sl, evx_bf, evx_call, evx_gix, evx_ite, evsx_nil, evsx_cons, evT, evO, evOT, Env.get, bf_one, bf1, isi_str, isi_tup, isStr, isTupD, asD, truD, cmpD, cmpOp, eqE, nilEq, solid, endD, slOf, dOf, toInt, seqOf, seqE, seqS, seqJ, setTg, setTgs, List.mapM_cons, List.mapM_nil, Option.bind, Option.map, exx_expr, h1, h2, isD]
theorem need_st_er (f : Nat) {d s p : D} (e : setupF d = none) (hp : ∃ ds, p = .tuple ds) (h : callF wd 100 P (f + 5) 19 [.d d, .d s] = .pu p) : callF wd 100 P (f + 6) nd [.d d, .d s] = M.raise "BadStanding" p := by
  rw [callF_tx S.h20]
  have h1 := need_setup_ok S f _ e
  obtain ⟨ds, rfl⟩ := hp
  simp [L_need_standing, ofO_some, M.pu_bd, exsx_nil, exsx_cons, exx_asg, exx_par, exx_ret, exx_retN, exx_iff, exx_for, exx_whl, exx_raise, exx_gput, evx_c, evx_v, evx_bin, evx_cmp, evx_chain, evx_and, evx_or, evx_not, evx_tup, evx_lst, evx_ix, evx_sl, evx_bf, evx_call, evx_gix, evx_ite, evsx_nil, evsx_cons, evT, evO, evOT, Env.get, bf_one, bf1, isi_str, isi_tup, isStr, isTupD, asD, truD, cmpD, cmpOp, eqE, nilEq, solid, endD, slOf, dOf, toInt, seqOf, seqE, seqS, seqJ, setTg, setTgs, List.mapM_cons, List.mapM_nil, Option.bind, Option.map, exx_expr, h1, h, isD, raise_bd]
theorem need_st_su (f : Nat) {d s p : D} (e : setupF d = some p) : callF wd 100 P (f + 6) nd [.d d, .d s] = M.raise "BadSetup" p := by
  rw [callF_tx S.h20]
  have h1 := need_setup_er S f _ _ e
  simp [L_need_standing, ofO_some, M.pu_bd, exsx_nil, exsx_cons, exx_asg, exx_par, exx_ret, exx_retN, exx_iff, exx_for, exx_whl, exx_raise, exx_gput, evx_c, evx_v, evx_bin, evx_cmp, evx_chain, evx_and, evx_or, evx_not, evx_tup, evx_lst, evx_ix, evx_sl, evx_bf, evx_call, evx_gix, evx_ite, evsx_nil, evsx_cons, evT, evO, evOT, Env.get, bf_one, bf1, isi_str, isi_tup, isStr, isTupD, asD, truD, cmpD, cmpOp, eqE, nilEq, solid, endD, slOf, dOf, toInt, seqOf, seqE, seqS, seqJ, setTg, setTgs, List.mapM_cons, List.mapM_nil, Option.bind, Option.map, exx_expr, h1, raise_bd]
end
end PD
end
section
set_option Elab.async false
set_option linter.all false
set_option maxRecDepth 100000
set_option maxHeartbeats 8000000
namespace PD
open PySem PySem.Spec L2

/-! ### drawn standings, for any law -/
def L_script : List Sm := [(.ret (.ix (.ix (.v 0) (.c (.int (2)))) (.idl (.lst [(.c (.str "fore")), (.c (.str "back")), (.c (.str "front")), (.c (.str "behind"))]) (.v 1))))]
def L_stBody (dr o : Nat) : List Sm := [(.asg (.n 9) (.call dr [(.v 0), (.bf .len [(.ix (.v 1) (.c (.int (0))))])])), (.asg (.n 10) (.call o [(.v 0), (.lst [(.c (.str "runs")), (.c (.str "runs")), (.c (.str "stopped")), (.c (.str "ended"))])])), (.asg (.n 11) (.ite (.cmp .Eq (.v 10) (.c (.str "ended"))) (.c (.str "end")) (.call o [(.v 0), (.lst [(.c (.str "none")), (.c (.str "stop"))])]))), (.par [13, 14] [(.cmp .Eq (.call dr [(.v 0), (.c (.int (2)))]) (.c (.int (0)))), (.cmp .Eq (.call dr [(.v 0), (.c (.int (3)))]) (.c (.int (0))))]), (.asg (.n 12) (.tup [(.v 9), (.call dr [(.v 0), (.bin .Add (.bf .len [(.ix (.ix (.v 1) (.c (.int (0)))) (.v 9))]) (.c (.int (1))))]), (.v 13), (.v 10), (.v 11), (.v 14)])), (.asg (.n 7) (.bin .Add (.v 7) (.bin .Mult (.lst [(.tup [(.v 2), (.v 12)])]) (.bf .int [(.cmp .Gt (.call dr [(.v 0), (.c (.int (4)))]) (.c (.int (0))))]))))]
def L_state (dr o sc : Nat) : List Sm := [(.par [7, 8] [(.lst []), (.call dr [(.v 0), (.c (.int (5)))])]), (.for_ (.n 2) (.rng1 (.v 8)) (L_stBody dr o)), (.asg (.n 3) (.call o [(.v 0), (.bin .Add (.lst [(.c (.str "none"))]) (.lc (.n 15) (.e (.tup [(.c (.str "fore")), (.c (.str "back")), (.c (.str "front")), (.c (.str "behind"))])) (some (.cmp .NotEq (.call sc [(.v 1), (.v 15)]) (.tup []))) (.v 15) [15]))])), (.asg (.n 4) (.ite (.cmp .NotEq (.v 3) (.c (.str "none"))) (.call dr [(.v 0), (.bf .len [(.call sc [(.v 1), (.v 3)])])]) (.c (.int (0))))), (.asg (.n 5) (.bin .Add (.lst [(.c (.str "shell")), (.c (.str "nobody"))]) (.lc (.t [2, 12]) (.e (.v 7)) (some (.and (.ix (.v 12) (.c (.int (2)))) (.cmp .NotEq (.ix (.v 12) (.c (.int (3)))) (.c (.str "ended"))))) (.v 2) [2, 12]))), (.asg (.n 6) (.ite (.cmp .NotEq (.v 3) (.c (.str "none"))) (.call o [(.v 0), (.bin .Add (.lst [(.neg (.c (.int (1))))]) (.bin .Mult (.lc (.t [2, 12]) (.e (.v 7)) none (.v 2) [2, 12]) (.c (.int (2)))))]) (.neg (.c (.int (1)))))), (.ret (.tup [(.v 3), (.v 4), (.call o [(.v 0), (.v 5)]), (.call o [(.v 0), (.lst [(.c (.str "plain")), (.c (.str "raw"))])]), (.v 6), (.bin .Add (.v 8) (.call dr [(.v 0), (.c (.int (2)))])), (.bf .tuple [(.v 7)])]))]
theorem bad_none {p : D → Bool} : ∀ {xs : List D} {k : Nat}, bad p k xs = none → ∀ x ∈ xs, p x = true
  | [], _, _, x, hx => by cases hx
  | y :: ys, k, h, x, hx => by
    unfold bad at h
    split at h
    · rename_i c
      rcases List.mem_cons.mp hx with rfl | hx
      · exact c
      · exact bad_none h x hx
    · cases h
theorem eqv_nilT (ys : List D) : PyData.eqv (.tuple ys) (.tuple []) = ys.isEmpty := by
  cases ys <;> simp [PyData.eqv, PyData.eqvAll]
theorem steps_ok : ∀ z ∈ steps, PyData.strOk z = true := by decide +kernel
theorem steps_lay : ∀ {xs : List D}, (∀ x ∈ xs, wordB x steps = true) → PyData.canLayAll0 xs = true ∧ PyData.depthAll xs = 0
  | [], _ => by simp [PyData.canLayAll0, PyData.depthAll]
  | x :: xs, h => by
    obtain ⟨h1, h2⟩ := steps_lay (xs := xs) fun y hy => h y (by simp [hy])
    have hx := h x (by simp)
    cases x with
    | str z =>
      have hz : z ∈ steps := by simpa [wordB] using hx
      simp [PyData.canLayAll0, PyData.depthAll, PyData.canLay0, PyData.depth, h1, h2, steps_ok z hz]
    | _ => simp [wordB] at hx
theorem steps_sh {xs : List D} (h : ∀ x ∈ xs, wordB x steps = true) : SeqAt.shaped (.tuple xs) = true := by
  obtain ⟨h1, h2⟩ := steps_lay h
  unfold SeqAt.shaped
  simp [PyData.canLay0, PyData.depth, h1, h2]
theorem words_form {lo hi : Int} {ws : List Str} {d : D} (h : wordsB lo hi ws d = true) : ∃ xs, d = .tuple xs ∧ lo ≤ xs.length ∧ (xs.length : Int) ≤ hi ∧ ∀ x ∈ xs, wordB x ws = true := by
  unfold wordsB at h
  split at h
  · rename_i xs
    simp only [Bool.and_eq_true, decide_eq_true_eq, List.all_eq_true] at h
    exact ⟨xs, rfl, h.1.1, h.1.2, h.2⟩
  · cases h
theorem setup_form {d : D} (h : setupF d = none) : ∃ ks r A B C E, d = .tuple [.tuple ks, r, .tuple [.tuple A, .tuple B, .tuple C, .tuple E]] ∧ 1 ≤ ks.length ∧ ks.length ≤ 3 ∧ (∀ x ∈ ks, ∃ xs : List D, x = .tuple xs ∧ xs.length ≤ 5) ∧
    (∀ x ∈ A, wordB x steps = true) ∧ (∀ x ∈ B, wordB x steps = true) ∧ (∀ x ∈ C, wordB x steps = true) ∧ (∀ x ∈ E, wordB x steps = true) ∧ A.length ≤ 6 ∧ B.length ≤ 6 ∧ C.length ≤ 6 ∧ E.length ≤ 6 := by
  unfold setupF at h
  split at h
  · rename_i k r s
    split at h
    · cases h
    · rename_i hk
      split at h
      · unfold shellF at h
        split at h
        · rename_i ss
          split at h
          · rename_i hl
            split at h
            · rename_i hb
              have hs := bad_none hb
              match ss, hl with
              | [a, b, c, e], _ =>
                obtain ⟨A, rfl, _, a2, a3⟩ := words_form (hs a (by simp))
                obtain ⟨B, rfl, _, b2, b3⟩ := words_form (hs b (by simp))
                obtain ⟨C, rfl, _, c2, c3⟩ := words_form (hs c (by simp))
                obtain ⟨E, rfl, _, e2, e3⟩ := words_form (hs e (by simp))
                unfold kindsF at hk
                split at hk
                · rename_i ks
                  split at hk
                  · rename_i hl2
                    split at hk
                    · rename_i hb2
                      have hk2 := bad_none hb2
                      exact ⟨ks, r, A, B, C, E, rfl, hl2.1, hl2.2, fun x hx => (let ⟨xs, q1, _, q2, _⟩ := words_form (hk2 x hx); ⟨xs, q1, by omega⟩), a3, b3, c3, e3, by omega, by omega, by omega, by omega⟩
                    · cases hk
                  · cases hk
                · cases hk
            · cases h
          · cases h
        · cases h
      · cases h
  · cases h
theorem G.up {k k' : Int} {g : Gen} (h : G k g) (l : k ≤ k') : G k' g := ⟨h.gl, h.t0, Int.le_trans h.tk l⟩
def SU (ks : List D) (r : D) (A B C E : List D) : D := .tuple [.tuple ks, r, .tuple [.tuple A, .tuple B, .tuple C, .tuple E]]
/-- the script of a word -/
def scOf (A B C E : List D) (w : Str) : List D := if w = "fore" then A else if w = "back" then B else if w = "front" then C else E
def w4 : List Str := ["fore", "back", "front", "behind"]
section
variable {wd : Str → Option (Option Str)} {P : List Df} {b dr o so se sc st : Nat} (W : Dw wd P b dr o so se) (hsc : P[sc]? = some (.tx 2 2 L_script)) (hst : P[st]? = some (.tx 2 16 (L_state dr o sc)))
include hsc in
theorem law_script (f : Nat) {ks : List D} {r : D} {A B C E : List D} {w : Str} (hw : w ∈ w4) : callF wd 100 P (f + 1) sc [.d (SU ks r A B C E), .d (.str w)] = .pu (.tuple (scOf A B C E w)) := by
  rw [callF_tx hsc]
  have z4 : (4 : Nat) ≤ sizeLine := by rw [sizeLine_eq]; omega
  have i0 : idlD [.str "fore", .str "back", .str "front", .str "behind"] (.str "fore") = some (.int 0) := by kernel_rfl
  have i1 : idlD [.str "fore", .str "back", .str "front", .str "behind"] (.str "back") = some (.int 1) := by kernel_rfl
  have i2 : idlD [.str "fore", .str "back", .str "front", .str "behind"] (.str "front") = some (.int 2) := by kernel_rfl
  have i3 : idlD [.str "fore", .str "back", .str "front", .str "behind"] (.str "behind") = some (.int 3) := by kernel_rfl
  simp only [w4, List.mem_cons, List.not_mem_nil, or_false] at hw
  rcases hw with rfl | rfl | rfl | rfl
  · simp [L_script, SU, ofO_some, M.pu_bd, exsx_nil, exsx_cons, exx_asg, exx_par, exx_ret, exx_retN, exx_iff, exx_for, exx_whl, exx_raise, exx_gput, evx_c, evx_v, evx_bin, evx_cmp, evx_chain, evx_and, evx_or, evx_not, evx_tup, evx_lst, evx_ix, evx_sl, evx_bf, evx_call, evx_gix, evx_ite, evsx_nil, evsx_cons, evT, evO, evOT, Env.get, bf_one, bf1, isi_str, isi_tup, isStr, isTupD, asD, truD, cmpD, cmpOp, eqE, nilEq, solid, endD, slOf, dOf, toInt, seqOf, seqE, seqS, seqJ, setTg, setTgs, List.mapM_cons, List.mapM_nil, Option.bind, Option.map, evx_idl, lsOf, z4, i0, ixD, itD, at2, at0, scOf]
  · simp [L_script, SU, ofO_some, M.pu_bd, exsx_nil, exsx_cons, exx_asg, exx_par, exx_ret, exx_retN, exx_iff, exx_for, exx_whl, exx_raise, exx_gput, evx_c, evx_v, evx_bin, evx_cmp, evx_chain, evx_and, evx_or, evx_not, evx_tup, evx_lst, evx_ix, evx_sl, evx_bf, evx_call, evx_gix, evx_ite, evsx_nil, evsx_cons, evT, evO, evOT, Env.get, bf_one, bf1, isi_str, isi_tup, isStr, isTupD, asD, truD, cmpD, cmpOp, eqE, nilEq, solid, endD, slOf, dOf, toInt, seqOf, seqE, seqS, seqJ, setTg, setTgs, List.mapM_cons, List.mapM_nil, Option.bind, Option.map, evx_idl, lsOf, z4, i1, ixD, itD, at2, at1, scOf, show ¬ ("back" : Str) = "fore" from by decide]
  · simp [L_script, SU, ofO_some, M.pu_bd, exsx_nil, exsx_cons, exx_asg, exx_par, exx_ret, exx_retN, exx_iff, exx_for, exx_whl, exx_raise, exx_gput, evx_c, evx_v, evx_bin, evx_cmp, evx_chain, evx_and, evx_or, evx_not, evx_tup, evx_lst, evx_ix, evx_sl, evx_bf, evx_call, evx_gix, evx_ite, evsx_nil, evsx_cons, evT, evO, evOT, Env.get, bf_one, bf1, isi_str, isi_tup, isStr, isTupD, asD, truD, cmpD, cmpOp, eqE, nilEq, solid, endD, slOf, dOf, toInt, seqOf, seqE, seqS, seqJ, setTg, setTgs, List.mapM_cons, List.mapM_nil, Option.bind, Option.map, evx_idl, lsOf, z4, i2, ixD, itD, at2, scOf, show ¬ ("front" : Str) = "fore" from by decide, show ¬ ("front" : Str) = "back" from by decide]
  · simp [L_script, SU, ofO_some, M.pu_bd, exsx_nil, exsx_cons, exx_asg, exx_par, exx_ret, exx_retN, exx_iff, exx_for, exx_whl, exx_raise, exx_gput, evx_c, evx_v, evx_bin, evx_cmp, evx_chain, evx_and, evx_or, evx_not, evx_tup, evx_lst, evx_ix, evx_sl, evx_bf, evx_call, evx_gix, evx_ite, evsx_nil, evsx_cons, evT, evO, evOT, Env.get, bf_one, bf1, isi_str, isi_tup, isStr, isTupD, asD, truD, cmpD, cmpOp, eqE, nilEq, solid, endD, slOf, dOf, toInt, seqOf, seqE, seqS, seqJ, setTg, setTgs, List.mapM_cons, List.mapM_nil, Option.bind, Option.map, evx_idl, lsOf, z4, i3, ixD, itD, at2, at3, scOf, show ¬ ("behind" : Str) = "fore" from by decide, show ¬ ("behind" : Str) = "back" from by decide, show ¬ ("behind" : Str) = "front" from by decide]
end
section
variable {wd : Str → Option (Option Str)} {P : List Df} {b dr o so se : Nat} (W : Dw wd P b dr o so se)
include W
theorem st_turn (f : Nat) {ks : List D} {r : D} {A B C E : List D} (hk1 : 1 ≤ ks.length) (hk3 : ks.length ≤ 3) (hks : ∀ x ∈ ks, ∃ xs : List D, x = .tuple xs ∧ xs.length ≤ 5) {i : Int} (hi : 0 ≤ i) {js : List D} (h : Js ks i 0 js) (hjl : js.length ≤ 1000) {k : Int} (hk : k < 900000) {g : Gen} (hg : G k g) (s3 s4 s5 s6 s8 s9 s10 s11 s12 s13 s14 s15 : Sl) :
    ∃ js' s9' s10' s11' s12' s13' s14' g', exSs ⟨callF wd 100 P (f + 3), wd⟩ 100 (L_stBody dr o) [.gn, .fz (SU ks r A B C E), .fz (.int i), s3, s4, s5, s6, .fz (.list js), s8, s9, s10, s11, s12, s13, s14, s15] g = .ok (.nx [.gn, .fz (SU ks r A B C E), .fz (.int i), s3, s4, s5, s6, .fz (.list js'), s8, s9', s10', s11', s12', s13', s14', s15]) g' ∧ Js ks (i + 1) 0 js' ∧ js'.length ≤ js.length + 1 ∧ G (k + 7) g' := by
  have hs : ∀ n : Nat, n ≤ 100 → n ≤ sizeLine := fun n h => by rw [sizeLine_eq]; omega
  have z1 := one_s
  have z2 : (2 : Nat) ≤ sizeLine := hs 2 (by omega)
  have z4 : (4 : Nat) ≤ sizeLine := hs 4 (by omega)
  have z6 : (6 : Nat) ≤ sizeLine := hs 6 (by omega)
  obtain ⟨kd, g1, e1, k0, k1, hg1⟩ := W.drawW (f + 2) ks.length (by omega) (by omega) (by omega) hg
  have hkn : kd.toNat < ks.length := by omega
  obtain ⟨acts, ea, la⟩ := hks ks[kd.toNat] (List.getElem_mem hkn)
  have ek : ks[kd.toNat]? = some (.tuple acts) := by rw [List.getElem?_eq_getElem hkn, ea]
  have ai := atI_ok k0 k1 ek
  obtain ⟨xst, g2, e2, hx, hg2⟩ := W.ofW (f + 1) (xs := [.str "runs", .str "runs", .str "stopped", .str "ended"]) (by simp) (by simp) (by omega) hg1
  have t1 : exS ⟨callF wd 100 P (f + 3), wd⟩ 100 (.asg (.n 9) (.call dr [(.v 0), (.bf .len [(.ix (.v 1) (.c (.int (0))))])])) [.gn, .fz (SU ks r A B C E), .fz (.int i), s3, s4, s5, s6, .fz (.list js), s8, s9, s10, s11, s12, s13, s14, s15] g = .ok (.nx [.gn, .fz (SU ks r A B C E), .fz (.int i), s3, s4, s5, s6, .fz (.list js), s8, .fz (.int kd), s10, s11, s12, s13, s14, s15]) g1 := by
    simp [ofO_some, M.pu_bd, exsx_nil, exsx_cons, exx_asg, exx_par, exx_ret, exx_retN, exx_iff, exx_for, exx_whl, exx_raise, exx_gput, evx_c, evx_v, evx_bin, evx_cmp, evx_chain, evx_and, evx_or, evx_not, evx_tup, evx_lst, evx_ix, evx_sl, evx_bf, evx_call, evx_gix, evx_ite, evsx_nil, evsx_cons, evT, evO, evOT, Env.get, bf_one, bf1, isi_str, isi_tup, isStr, isTupD, asD, truD, cmpD, cmpOp, eqE, nilEq, solid, endD, slOf, dOf, toInt, seqOf, seqE, seqS, seqJ, setTg, setTgs, List.mapM_cons, List.mapM_nil, Option.bind, Option.map, bd_ap, pu_ap, SU, ixD, itD, at0, lenD, e1]
  have t2 : exS ⟨callF wd 100 P (f + 3), wd⟩ 100 (.asg (.n 10) (.call o [(.v 0), (.lst [(.c (.str "runs")), (.c (.str "runs")), (.c (.str "stopped")), (.c (.str "ended"))])])) [.gn, .fz (SU ks r A B C E), .fz (.int i), s3, s4, s5, s6, .fz (.list js), s8, .fz (.int kd), s10, s11, s12, s13, s14, s15] g1 = .ok (.nx [.gn, .fz (SU ks r A B C E), .fz (.int i), s3, s4, s5, s6, .fz (.list js), s8, .fz (.int kd), .fz xst, s11, s12, s13, s14, s15]) g2 := by
    simp [ofO_some, M.pu_bd, exsx_nil, exsx_cons, exx_asg, exx_par, exx_ret, exx_retN, exx_iff, exx_for, exx_whl, exx_raise, exx_gput, evx_c, evx_v, evx_bin, evx_cmp, evx_chain, evx_and, evx_or, evx_not, evx_tup, evx_lst, evx_ix, evx_sl, evx_bf, evx_call, evx_gix, evx_ite, evsx_nil, evsx_cons, evT, evO, evOT, Env.get, bf_one, bf1, isi_str, isi_tup, isStr, isTupD, asD, truD, cmpD, cmpOp, eqE, nilEq, solid, endD, slOf, dOf, toInt, seqOf, seqE, seqS, seqJ, setTg, setTgs, List.mapM_cons, List.mapM_nil, Option.bind, Option.map, bd_ap, pu_ap, z4, e2]
  obtain ⟨sw, no, g3, rfl, hsn, hg3, t3⟩ : ∃ sw no g3, xst = .str sw ∧ (sw, no) ∈ stNo ∧ G (k + 3) g3 ∧ exS ⟨callF wd 100 P (f + 3), wd⟩ 100 (.asg (.n 11) (.ite (.cmp .Eq (.v 10) (.c (.str "ended"))) (.c (.str "end")) (.call o [(.v 0), (.lst [(.c (.str "none")), (.c (.str "stop"))])]))) [.gn, .fz (SU ks r A B C E), .fz (.int i), s3, s4, s5, s6, .fz (.list js), s8, .fz (.int kd), .fz xst, s11, s12, s13, s14, s15] g2 = .ok (.nx [.gn, .fz (SU ks r A B C E), .fz (.int i), s3, s4, s5, s6, .fz (.list js), s8, .fz (.int kd), .fz xst, .fz (.str no), s12, s13, s14, s15]) g3 := by
    have r1 : eqD (.str "runs") (.str "ended") = some false := by kernel_rfl
    have r2 : eqD (.str "stopped") (.str "ended") = some false := by kernel_rfl
    have r3 : eqD (.str "ended") (.str "ended") = some true := by kernel_rfl
    obtain ⟨xn, g3, e3, hn, hg3⟩ := W.ofW (f + 1) (xs := [.str "none", .str "stop"]) (by simp) (by simp) (by omega) hg2
    have hx4 : xst = .str "runs" ∨ xst = .str "stopped" ∨ xst = .str "ended" := by
      simp only [List.mem_cons, List.not_mem_nil, or_false] at hx
      rcases hx with hx | hx | hx | hx <;> simp [hx]
    have hn2 : xn = .str "none" ∨ xn = .str "stop" := by simpa using hn
    rcases hx4 with rfl | rfl | rfl
    · rcases hn2 with rfl | rfl
      · exact ⟨"runs", "none", g3, rfl, by simp [stNo], hg3.up (by omega), by simp [ofO_some, M.pu_bd, exsx_nil, exsx_cons, exx_asg, exx_par, exx_ret, exx_retN, exx_iff, exx_for, exx_whl, exx_raise, exx_gput, evx_c, evx_v, evx_bin, evx_cmp, evx_chain, evx_and, evx_or, evx_not, evx_tup, evx_lst, evx_ix, evx_sl, evx_bf, evx_call, evx_gix, evx_ite, evsx_nil, evsx_cons, evT, evO, evOT, Env.get, bf_one, bf1, isi_str, isi_tup, isStr, isTupD, asD, truD, cmpD, cmpOp, eqE, nilEq, solid, endD, slOf, dOf, toInt, seqOf, seqE, seqS, seqJ, setTg, setTgs, List.mapM_cons, List.mapM_nil, Option.bind, Option.map, bd_ap, pu_ap, r1, z2, e3]⟩
      · exact ⟨"runs", "stop", g3, rfl, by simp [stNo], hg3.up (by omega), by simp [ofO_some, M.pu_bd, exsx_nil, exsx_cons, exx_asg, exx_par, exx_ret, exx_retN, exx_iff, exx_for, exx_whl, exx_raise, exx_gput, evx_c, evx_v, evx_bin, evx_cmp, evx_chain, evx_and, evx_or, evx_not, evx_tup, evx_lst, evx_ix, evx_sl, evx_bf, evx_call, evx_gix, evx_ite, evsx_nil, evsx_cons, evT, evO, evOT, Env.get, bf_one, bf1, isi_str, isi_tup, isStr, isTupD, asD, truD, cmpD, cmpOp, eqE, nilEq, solid, endD, slOf, dOf, toInt, seqOf, seqE, seqS, seqJ, setTg, setTgs, List.mapM_cons, List.mapM_nil, Option.bind, Option.map, bd_ap, pu_ap, r1, z2, e3]⟩
    · rcases hn2 with rfl | rfl
      · exact ⟨"stopped", "none", g3, rfl, by simp [stNo], hg3.up (by omega), by simp [ofO_some, M.pu_bd, exsx_nil, exsx_cons, exx_asg, exx_par, exx_ret, exx_retN, exx_iff, exx_for, exx_whl, exx_raise, exx_gput, evx_c, evx_v, evx_bin, evx_cmp, evx_chain, evx_and, evx_or, evx_not, evx_tup, evx_lst, evx_ix, evx_sl, evx_bf, evx_call, evx_gix, evx_ite, evsx_nil, evsx_cons, evT, evO, evOT, Env.get, bf_one, bf1, isi_str, isi_tup, isStr, isTupD, asD, truD, cmpD, cmpOp, eqE, nilEq, solid, endD, slOf, dOf, toInt, seqOf, seqE, seqS, seqJ, setTg, setTgs, List.mapM_cons, List.mapM_nil, Option.bind, Option.map, bd_ap, pu_ap, r2, z2, e3]⟩
      · exact ⟨"stopped", "stop", g3, rfl, by simp [stNo], hg3.up (by omega), by simp [ofO_some, M.pu_bd, exsx_nil, exsx_cons, exx_asg, exx_par, exx_ret, exx_retN, exx_iff, exx_for, exx_whl, exx_raise, exx_gput, evx_c, evx_v, evx_bin, evx_cmp, evx_chain, evx_and, evx_or, evx_not, evx_tup, evx_lst, evx_ix, evx_sl, evx_bf, evx_call, evx_gix, evx_ite, evsx_nil, evsx_cons, evT, evO, evOT, Env.get, bf_one, bf1, isi_str, isi_tup, isStr, isTupD, asD, truD, cmpD, cmpOp, eqE, nilEq, solid, endD, slOf, dOf, toInt, seqOf, seqE, seqS, seqJ, setTg, setTgs, List.mapM_cons, List.mapM_nil, Option.bind, Option.map, bd_ap, pu_ap, r2, z2, e3]⟩
    · exact ⟨"ended", "end", g2, rfl, by simp [stNo], hg2.up (by omega), by simp [ofO_some, M.pu_bd, exsx_nil, exsx_cons, exx_asg, exx_par, exx_ret, exx_retN, exx_iff, exx_for, exx_whl, exx_raise, exx_gput, evx_c, evx_v, evx_bin, evx_cmp, evx_chain, evx_and, evx_or, evx_not, evx_tup, evx_lst, evx_ix, evx_sl, evx_bf, evx_call, evx_gix, evx_ite, evsx_nil, evsx_cons, evT, evO, evOT, Env.get, bf_one, bf1, isi_str, isi_tup, isStr, isTupD, asD, truD, cmpD, cmpOp, eqE, nilEq, solid, endD, slOf, dOf, toInt, seqOf, seqE, seqS, seqJ, setTg, setTgs, List.mapM_cons, List.mapM_nil, Option.bind, Option.map, bd_ap, pu_ap, r3]⟩
  obtain ⟨ow, g4, e4, o0, o1, hg4⟩ := W.drawW (f + 2) 2 (by omega) (by omega) (by omega) hg3
  obtain ⟨he, g5, e5, h0, h1, hg5⟩ := W.drawW (f + 2) 3 (by omega) (by omega) (by omega) hg4
  have t4 : exS ⟨callF wd 100 P (f + 3), wd⟩ 100 (.par [13, 14] [(.cmp .Eq (.call dr [(.v 0), (.c (.int (2)))]) (.c (.int (0)))), (.cmp .Eq (.call dr [(.v 0), (.c (.int (3)))]) (.c (.int (0))))]) [.gn, .fz (SU ks r A B C E), .fz (.int i), s3, s4, s5, s6, .fz (.list js), s8, .fz (.int kd), .fz (.str sw), .fz (.str no), s12, s13, s14, s15] g3 = .ok (.nx [.gn, .fz (SU ks r A B C E), .fz (.int i), s3, s4, s5, s6, .fz (.list js), s8, .fz (.int kd), .fz (.str sw), .fz (.str no), s12, .fz (.bool (ow == 0)), .fz (.bool (he == 0)), s15]) g5 := by
    simp [ofO_some, M.pu_bd, exsx_nil, exsx_cons, exx_asg, exx_par, exx_ret, exx_retN, exx_iff, exx_for, exx_whl, exx_raise, exx_gput, evx_c, evx_v, evx_bin, evx_cmp, evx_chain, evx_and, evx_or, evx_not, evx_tup, evx_lst, evx_ix, evx_sl, evx_bf, evx_call, evx_gix, evx_ite, evsx_nil, evsx_cons, evT, evO, evOT, Env.get, bf_one, bf1, isi_str, isi_tup, isStr, isTupD, asD, truD, cmpD, cmpOp, eqE, nilEq, solid, endD, slOf, dOf, toInt, seqOf, seqE, seqS, seqJ, setTg, setTgs, List.mapM_cons, List.mapM_nil, Option.bind, Option.map, bd_ap, pu_ap, e4, e5, eqD, shi, eqi]
  obtain ⟨pl, g6, e6, p0, p1, hg6⟩ := W.drawW (f + 2) (acts.length + 1) (by omega) (by omega) (by omega) hg5
  have t5 : exS ⟨callF wd 100 P (f + 3), wd⟩ 100 (.asg (.n 12) (.tup [(.v 9), (.call dr [(.v 0), (.bin .Add (.bf .len [(.ix (.ix (.v 1) (.c (.int (0)))) (.v 9))]) (.c (.int (1))))]), (.v 13), (.v 10), (.v 11), (.v 14)])) [.gn, .fz (SU ks r A B C E), .fz (.int i), s3, s4, s5, s6, .fz (.list js), s8, .fz (.int kd), .fz (.str sw), .fz (.str no), s12, .fz (.bool (ow == 0)), .fz (.bool (he == 0)), s15] g5 = .ok (.nx [.gn, .fz (SU ks r A B C E), .fz (.int i), s3, s4, s5, s6, .fz (.list js), s8, .fz (.int kd), .fz (.str sw), .fz (.str no), .fz (jobT kd pl (ow == 0) sw no (he == 0)), .fz (.bool (ow == 0)), .fz (.bool (he == 0)), s15]) g6 := by
    simp [ofO_some, M.pu_bd, exsx_nil, exsx_cons, exx_asg, exx_par, exx_ret, exx_retN, exx_iff, exx_for, exx_whl, exx_raise, exx_gput, evx_c, evx_v, evx_bin, evx_cmp, evx_chain, evx_and, evx_or, evx_not, evx_tup, evx_lst, evx_ix, evx_sl, evx_bf, evx_call, evx_gix, evx_ite, evsx_nil, evsx_cons, evT, evO, evOT, Env.get, bf_one, bf1, isi_str, isi_tup, isStr, isTupD, asD, truD, cmpD, cmpOp, eqE, nilEq, solid, endD, slOf, dOf, toInt, seqOf, seqE, seqS, seqJ, setTg, setTgs, List.mapM_cons, List.mapM_nil, Option.bind, Option.map, bd_ap, pu_ap, SU, ixD, itD, at0, ai, lenD, binD, opD, addD, e6, z6, jobT]
  obtain ⟨ad, g7, e7, a0, a1, hg7⟩ := W.drawW (f + 2) 4 (by omega) (by omega) (by omega) hg6
  have ok : JobOk ks (jobT kd pl (ow == 0) sw no (he == 0)) := ⟨⟨kd, pl, _, sw, no, _, acts, rfl, k0, k1, ek, p0, by omega, hsn⟩⟩
  by_cases hp : 0 < ad
  · refine ⟨js ++ [pairD i (jobT kd pl (ow == 0) sw no (he == 0))], .fz (.int kd), .fz (.str sw), .fz (.str no), .fz (jobT kd pl (ow == 0) sw no (he == 0)), .fz (.bool (ow == 0)), .fz (.bool (he == 0)), g7, ?_, Js.snoc hi ok h hi, by simp, hg7.up (by omega)⟩
    unfold L_stBody
    rw [sq t1, sq t2, sq t3, sq t4, sq t5]
    have jl : js.length + 1 ≤ sizeLine := by rw [sizeLine_eq]; omega
    simp [ofO_some, M.pu_bd, exsx_nil, exsx_cons, exx_asg, exx_par, exx_ret, exx_retN, exx_iff, exx_for, exx_whl, exx_raise, exx_gput, evx_c, evx_v, evx_bin, evx_cmp, evx_chain, evx_and, evx_or, evx_not, evx_tup, evx_lst, evx_ix, evx_sl, evx_bf, evx_call, evx_gix, evx_ite, evsx_nil, evsx_cons, evT, evO, evOT, Env.get, bf_one, bf1, isi_str, isi_tup, isStr, isTupD, asD, truD, cmpD, cmpOp, eqE, nilEq, solid, endD, slOf, dOf, toInt, seqOf, seqE, seqS, seqJ, setTg, setTgs, List.mapM_cons, List.mapM_nil, Option.bind, Option.map, bd_ap, pu_ap, e7, ltD, hp, intD, z1, z2, binD, opD, mulD, addD, jl, pairD]
  · refine ⟨js, .fz (.int kd), .fz (.str sw), .fz (.str no), .fz (jobT kd pl (ow == 0) sw no (he == 0)), .fz (.bool (ow == 0)), .fz (.bool (he == 0)), g7, ?_, h.up (by omega), by omega, hg7.up (by omega)⟩
    unfold L_stBody
    rw [sq t1, sq t2, sq t3, sq t4, sq t5]
    have jl : js.length ≤ sizeLine := by rw [sizeLine_eq]; omega
    simp [ofO_some, M.pu_bd, exsx_nil, exsx_cons, exx_asg, exx_par, exx_ret, exx_retN, exx_iff, exx_for, exx_whl, exx_raise, exx_gput, evx_c, evx_v, evx_bin, evx_cmp, evx_chain, evx_and, evx_or, evx_not, evx_tup, evx_lst, evx_ix, evx_sl, evx_bf, evx_call, evx_gix, evx_ite, evsx_nil, evsx_cons, evT, evO, evOT, Env.get, bf_one, bf1, isi_str, isi_tup, isStr, isTupD, asD, truD, cmpD, cmpOp, eqE, nilEq, solid, endD, slOf, dOf, toInt, seqOf, seqE, seqS, seqJ, setTg, setTgs, List.mapM_cons, List.mapM_nil, Option.bind, Option.map, bd_ap, pu_ap, e7, ltD, hp, intD, z1, z2, binD, opD, mulD, addD, jl, pairD]
end

def intsFrom : Int → Nat → List D
  | _, 0 => []
  | i, n + 1 => .int i :: intsFrom (i + 1) n
section
variable {wd : Str → Option (Option Str)} {P : List Df} {b dr o so se : Nat} (W : Dw wd P b dr o so se)
include W
theorem st_loop (f : Nat) {ks : List D} {r : D} {A B C E : List D} (hk1 : 1 ≤ ks.length) (hk3 : ks.length ≤ 3) (hks : ∀ x ∈ ks, ∃ xs : List D, x = .tuple xs ∧ xs.length ≤ 5) (s3 s4 s5 s6 s8 s15 : Sl) : ∀ (n : Nat) (i : Int) (js : List D) (k : Int) (g : Gen) (s2 s9 s10 s11 s12 s13 s14 : Sl), 0 ≤ i → Js ks i 0 js → js.length + n ≤ 900 → k + 7 * n < 900000 → G k g →
    ∃ js' s2' s9' s10' s11' s12' s13' s14' g', forB (.n 2) (exSs ⟨callF wd 100 P (f + 3), wd⟩ 100 (L_stBody dr o)) (intsFrom i n) [.gn, .fz (SU ks r A B C E), s2, s3, s4, s5, s6, .fz (.list js), s8, s9, s10, s11, s12, s13, s14, s15] g
      = .ok (.nx [.gn, .fz (SU ks r A B C E), s2', s3, s4, s5, s6, .fz (.list js'), s8, s9', s10', s11', s12', s13', s14', s15]) g' ∧ Js ks (i + n) 0 js' ∧ js'.length ≤ js.length + n ∧ G (k + 7 * n) g'
  | 0, i, js, k, g, s2, s9, s10, s11, s12, s13, s14, hi, h, hl, hk, hg => ⟨js, s2, s9, s10, s11, s12, s13, s14, g, rfl, by simpa using h, by omega, by simpa using hg⟩
  | n + 1, i, js, k, g, s2, s9, s10, s11, s12, s13, s14, hi, h, hl, hk, hg => by
    obtain ⟨js1, t9, t10, t11, t12, t13, t14, g1, e1, h1, l1, hg1⟩ := st_turn W f (r := r) (A := A) (B := B) (C := C) (E := E) hk1 hk3 hks hi h (by omega) (by omega) hg s3 s4 s5 s6 s8 s9 s10 s11 s12 s13 s14 s15
    obtain ⟨js2, u2, u9, u10, u11, u12, u13, u14, g2, e2, h2, l2, hg2⟩ := st_loop f hk1 hk3 hks s3 s4 s5 s6 s8 s15 n (i + 1) js1 (k + 7) g1 (.fz (.int i)) t9 t10 t11 t12 t13 t14 (by omega) h1 (by omega) (by omega) hg1
    have ei : i + 1 + (n : Int) = i + ((n + 1 : Nat) : Int) := by omega
    refine ⟨js2, u2, u9, u10, u11, u12, u13, u14, g2, ?_, ei ▸ h2, by omega, hg2.up (by omega)⟩
    rw [← e2]
    show ((M.ofO (setTg _ (.n 2) (.int i))).bd _) g = _
    simp only [setTg, List.length_cons, List.length_nil, ofO_some, M.pu_bd]
    simp only [show (2 < 0 + 1 + 1 + 1 + 1 + 1 + 1 + 1 + 1 + 1 + 1 + 1 + 1 + 1 + 1 + 1 + 1) = True from by simp, if_true, ofO_some, M.pu_bd, List.set]
    rw [bd_ap, e1]
end

theorem Js.all {ks : List D} {hi : Int} : ∀ {lo : Int} {js : List D}, Js ks hi lo js → ∀ d ∈ js, ∃ j jb, d = pairD j jb ∧ 0 ≤ j ∧ j < hi ∧ JobOk ks jb
  | _, _, .nil, d, h => by cases h
  | _, _, .cons (j := j) (jb := jb) a b c e f, d, h => by
    rcases List.mem_cons.mp h with rfl | h
    · exact ⟨j, jb, rfl, b, c, e⟩
    · exact Js.all f d h
def frH (d : D) : Option D := match d with
  | .tuple [.int j, .tuple [_, _, .bool ow, .str st, _, _]] => if ow && !(decide (st = "ended")) then some (.int j) else none
  | _ => none
def numD (d : D) : D := match d with
  | .tuple [.int j, _] => .int j
  | _ => .none
theorem ended_eq {st no : Str} (h : (st, no) ∈ stNo) : eqD (.str st) (.str "ended") = some (decide (st = "ended")) := by
  simp only [stNo, List.mem_cons, List.not_mem_nil, or_false, Prod.mk.injEq] at h
  rcases h with ⟨rfl, rfl⟩ | ⟨rfl, rfl⟩ | ⟨rfl, rfl⟩ | ⟨rfl, rfl⟩ | ⟨rfl, rfl⟩ <;> kernel_rfl
theorem w4_none : ∀ w ∈ w4, eqD (.str w) (.str "none") = some false := by
  intro w hw
  simp only [w4, List.mem_cons, List.not_mem_nil, or_false] at hw
  rcases hw with rfl | rfl | rfl | rfl <;> kernel_rfl
theorem none_none : eqD (.str "none") (.str "none") = some true := by kernel_rfl
def wH (A B C E : List D) (d : D) : Option D := match d with
  | .str w => if (scOf A B C E w).isEmpty then none else some (.str w)
  | _ => none
section
variable {F : Fns} {ks : List D} {r : D} {A B C E : List D} {js : List D} {mk : Int} {s2 s9 s10 s11 s12 s13 s14 : Sl}
theorem ev_fronts {hi : Int} (h : Js ks hi 0 js) (hl : js.length ≤ 1000) {s3 s4 s5 s6 : Sl} : ev F (.lc (.t [2, 12]) (.e (.v 7)) (some (.and (.ix (.v 12) (.c (.int (2)))) (.cmp .NotEq (.ix (.v 12) (.c (.int (3)))) (.c (.str "ended"))))) (.v 2) [2, 12]) [.gn, .fz (SU ks r A B C E), s2, s3, s4, s5, s6, .fz (.list js), .fz (.int mk), s9, s10, s11, s12, s13, s14, .un] = .pu (.d (.list (js.filterMap frH))) := by
  refine ev_lc (ds := js) (by simp [evI, ofO_some, M.pu_bd, exsx_nil, exsx_cons, exx_asg, exx_par, exx_ret, exx_retN, exx_iff, exx_for, exx_whl, exx_raise, exx_gput, evx_c, evx_v, evx_bin, evx_cmp, evx_chain, evx_and, evx_or, evx_not, evx_tup, evx_lst, evx_ix, evx_sl, evx_bf, evx_call, evx_gix, evx_ite, evsx_nil, evsx_cons, evT, evO, evOT, Env.get, bf_one, bf1, isi_str, isi_tup, isStr, isTupD, asD, truD, cmpD, cmpOp, eqE, nilEq, solid, endD, slOf, dOf, toInt, seqOf, seqE, seqS, seqJ, setTg, setTgs, List.mapM_cons, List.mapM_nil, Option.bind, Option.map, seqE]) (mapB_pu fun d hd => ?_) (by
    have := List.length_filterMap_le frH js
    rw [sizeLine_eq]; omega)
  obtain ⟨j, jb, rfl, j0, j1, ok⟩ := h.all d hd
  obtain ⟨kd, pl, ow, sw, no, he, acts, rfl, _, _, _, _, _, hsn⟩ := ok.ex
  have ee := ended_eq hsn
  cases ow with
  | false => simp [lcF, ofO_some, M.pu_bd, exsx_nil, exsx_cons, exx_asg, exx_par, exx_ret, exx_retN, exx_iff, exx_for, exx_whl, exx_raise, exx_gput, evx_c, evx_v, evx_bin, evx_cmp, evx_chain, evx_and, evx_or, evx_not, evx_tup, evx_lst, evx_ix, evx_sl, evx_bf, evx_call, evx_gix, evx_ite, evsx_nil, evsx_cons, evT, evO, evOT, Env.get, bf_one, bf1, isi_str, isi_tup, isStr, isTupD, asD, truD, cmpD, cmpOp, eqE, nilEq, solid, endD, slOf, dOf, toInt, seqOf, seqE, seqS, seqJ, setTg, setTgs, List.mapM_cons, List.mapM_nil, Option.bind, Option.map, wipeE, pairD, jobT, ixD, itD, at2, frH, calm_pu]
  | true =>
    by_cases hz : sw = "ended"
    · subst hz
      simp [lcF, ofO_some, M.pu_bd, exsx_nil, exsx_cons, exx_asg, exx_par, exx_ret, exx_retN, exx_iff, exx_for, exx_whl, exx_raise, exx_gput, evx_c, evx_v, evx_bin, evx_cmp, evx_chain, evx_and, evx_or, evx_not, evx_tup, evx_lst, evx_ix, evx_sl, evx_bf, evx_call, evx_gix, evx_ite, evsx_nil, evsx_cons, evT, evO, evOT, Env.get, bf_one, bf1, isi_str, isi_tup, isStr, isTupD, asD, truD, cmpD, cmpOp, eqE, nilEq, solid, endD, slOf, dOf, toInt, seqOf, seqE, seqS, seqJ, setTg, setTgs, List.mapM_cons, List.mapM_nil, Option.bind, Option.map, wipeE, pairD, jobT, ixD, itD, at2, at3, frH, calm_pu, ee]
    · simp [lcF, ofO_some, M.pu_bd, exsx_nil, exsx_cons, exx_asg, exx_par, exx_ret, exx_retN, exx_iff, exx_for, exx_whl, exx_raise, exx_gput, evx_c, evx_v, evx_bin, evx_cmp, evx_chain, evx_and, evx_or, evx_not, evx_tup, evx_lst, evx_ix, evx_sl, evx_bf, evx_call, evx_gix, evx_ite, evsx_nil, evsx_cons, evT, evO, evOT, Env.get, bf_one, bf1, isi_str, isi_tup, isStr, isTupD, asD, truD, cmpD, cmpOp, eqE, nilEq, solid, endD, slOf, dOf, toInt, seqOf, seqE, seqS, seqJ, setTg, setTgs, List.mapM_cons, List.mapM_nil, Option.bind, Option.map, wipeE, pairD, jobT, ixD, itD, at2, at3, frH, calm_pu, ee, hz]
theorem ev_hands {hi : Int} (h : Js ks hi 0 js) (hl : js.length ≤ 1000) {s3 s4 s5 s6 : Sl} : ev F (.lc (.t [2, 12]) (.e (.v 7)) none (.v 2) [2, 12]) [.gn, .fz (SU ks r A B C E), s2, s3, s4, s5, s6, .fz (.list js), .fz (.int mk), s9, s10, s11, s12, s13, s14, .un] = .pu (.d (.list (js.map numD))) := by
  have e0 : js.map numD = js.filterMap (fun d => some (numD d)) := (filterMap_some numD js).symm
  rw [e0]
  refine ev_lc (ds := js) (by simp [evI, ofO_some, M.pu_bd, exsx_nil, exsx_cons, exx_asg, exx_par, exx_ret, exx_retN, exx_iff, exx_for, exx_whl, exx_raise, exx_gput, evx_c, evx_v, evx_bin, evx_cmp, evx_chain, evx_and, evx_or, evx_not, evx_tup, evx_lst, evx_ix, evx_sl, evx_bf, evx_call, evx_gix, evx_ite, evsx_nil, evsx_cons, evT, evO, evOT, Env.get, bf_one, bf1, isi_str, isi_tup, isStr, isTupD, asD, truD, cmpD, cmpOp, eqE, nilEq, solid, endD, slOf, dOf, toInt, seqOf, seqE, seqS, seqJ, setTg, setTgs, List.mapM_cons, List.mapM_nil, Option.bind, Option.map, seqE]) (mapB_pu fun d hd => ?_) (by
    rw [filterMap_some, List.length_map, sizeLine_eq]; omega)
  obtain ⟨j, jb, rfl, j0, j1, ok⟩ := h.all d hd
  simp [lcF, ofO_some, M.pu_bd, exsx_nil, exsx_cons, exx_asg, exx_par, exx_ret, exx_retN, exx_iff, exx_for, exx_whl, exx_raise, exx_gput, evx_c, evx_v, evx_bin, evx_cmp, evx_chain, evx_and, evx_or, evx_not, evx_tup, evx_lst, evx_ix, evx_sl, evx_bf, evx_call, evx_gix, evx_ite, evsx_nil, evsx_cons, evT, evO, evOT, Env.get, bf_one, bf1, isi_str, isi_tup, isStr, isTupD, asD, truD, cmpD, cmpOp, eqE, nilEq, solid, endD, slOf, dOf, toInt, seqOf, seqE, seqS, seqJ, setTg, setTgs, List.mapM_cons, List.mapM_nil, Option.bind, Option.map, wipeE, pairD, numD, calm_pu]
theorem ev_words {sc : Nat} (hA : ∀ x ∈ A, wordB x steps = true) (hB : ∀ x ∈ B, wordB x steps = true) (hC : ∀ x ∈ C, wordB x steps = true) (hE : ∀ x ∈ E, wordB x steps = true)
    (hc : ∀ w ∈ w4, F.call sc [.d (SU ks r A B C E), .d (.str w)] = .pu (.tuple (scOf A B C E w))) {s3 s4 s5 s6 : Sl} :
    ev F (.lc (.n 15) (.e (.tup [(.c (.str "fore")), (.c (.str "back")), (.c (.str "front")), (.c (.str "behind"))])) (some (.cmp .NotEq (.call sc [(.v 1), (.v 15)]) (.tup []))) (.v 15) [15]) [.gn, .fz (SU ks r A B C E), s2, s3, s4, s5, s6, .fz (.list js), .fz (.int mk), s9, s10, s11, s12, s13, s14, .un] = .pu (.d (.list ((w4.map PyData.str).filterMap (wH A B C E)))) := by
  have z4 : (4 : Nat) ≤ sizeLine := by rw [sizeLine_eq]; omega
  refine ev_lc (ds := w4.map PyData.str) (by simp [evI, ofO_some, M.pu_bd, exsx_nil, exsx_cons, exx_asg, exx_par, exx_ret, exx_retN, exx_iff, exx_for, exx_whl, exx_raise, exx_gput, evx_c, evx_v, evx_bin, evx_cmp, evx_chain, evx_and, evx_or, evx_not, evx_tup, evx_lst, evx_ix, evx_sl, evx_bf, evx_call, evx_gix, evx_ite, evsx_nil, evsx_cons, evT, evO, evOT, Env.get, bf_one, bf1, isi_str, isi_tup, isStr, isTupD, asD, truD, cmpD, cmpOp, eqE, nilEq, solid, endD, slOf, dOf, toInt, seqOf, seqE, seqS, seqJ, setTg, setTgs, List.mapM_cons, List.mapM_nil, Option.bind, Option.map, seqE, w4, z4]) (mapB_pu fun d hd => ?_) (by
    have := List.length_filterMap_le (wH A B C E) (w4.map PyData.str)
    rw [List.length_map] at this
    have : w4.length = 4 := rfl
    rw [sizeLine_eq]; omega)
  obtain ⟨w, hw, rfl⟩ := List.mem_map.mp hd
  have hs : ∀ x ∈ scOf A B C E w, wordB x steps = true := by
    unfold scOf
    split
    · exact hA
    · split
      · exact hB
      · split
        · exact hC
        · exact hE
  have sn : SeqAt.shaped (.tuple []) = true := by decide
  have q := hc w hw
  by_cases hz : (scOf A B C E w).isEmpty = true
  · simp [lcF, ofO_some, M.pu_bd, exsx_nil, exsx_cons, exx_asg, exx_par, exx_ret, exx_retN, exx_iff, exx_for, exx_whl, exx_raise, exx_gput, evx_c, evx_v, evx_bin, evx_cmp, evx_chain, evx_and, evx_or, evx_not, evx_tup, evx_lst, evx_ix, evx_sl, evx_bf, evx_call, evx_gix, evx_ite, evsx_nil, evsx_cons, evT, evO, evOT, Env.get, bf_one, bf1, isi_str, isi_tup, isStr, isTupD, asD, truD, cmpD, cmpOp, eqE, nilEq, solid, endD, slOf, dOf, toInt, seqOf, seqE, seqS, seqJ, setTg, setTgs, List.mapM_cons, List.mapM_nil, Option.bind, Option.map, wipeE, q, eqD, steps_sh hs, sn, eqv_nilT, hz, wH, calm_pu, zero_s]
  · simp [lcF, ofO_some, M.pu_bd, exsx_nil, exsx_cons, exx_asg, exx_par, exx_ret, exx_retN, exx_iff, exx_for, exx_whl, exx_raise, exx_gput, evx_c, evx_v, evx_bin, evx_cmp, evx_chain, evx_and, evx_or, evx_not, evx_tup, evx_lst, evx_ix, evx_sl, evx_bf, evx_call, evx_gix, evx_ite, evsx_nil, evsx_cons, evT, evO, evOT, Env.get, bf_one, bf1, isi_str, isi_tup, isStr, isTupD, asD, truD, cmpD, cmpOp, eqE, nilEq, solid, endD, slOf, dOf, toInt, seqOf, seqE, seqS, seqJ, setTg, setTgs, List.mapM_cons, List.mapM_nil, Option.bind, Option.map, wipeE, q, eqD, steps_sh hs, sn, eqv_nilT, hz, wH, calm_pu, zero_s]
end

section
variable {wd : Str → Option (Option Str)} {P : List Df} {b dr o so se sc st : Nat} (W : Dw wd P b dr o so se) (hsc : P[sc]? = some (.tx 2 2 L_script)) (hst : P[st]? = some (.tx 2 16 (L_state dr o sc)))
include W hsc
theorem st_rest (f : Nat) {ks : List D} {r : D} {A B C E : List D} {js : List D} {mk : Int} {s2 s9 s10 s11 s12 s13 s14 : Sl} (hA : ∀ x ∈ A, wordB x steps = true) (hB : ∀ x ∈ B, wordB x steps = true) (hC : ∀ x ∈ C, wordB x steps = true) (hE : ∀ x ∈ E, wordB x steps = true)
    (lA : A.length ≤ 6) (lB : B.length ≤ 6) (lC : C.length ≤ 6) (lE : E.length ≤ 6) (h : Js ks mk 0 js) (hl : js.length ≤ 400) (hm : 0 ≤ mk) {k : Int} (hk : k < 900000) {g : Gen} (hg : G k g) :
    ∃ w pl fr md hd mk' g', mk ≤ mk' ∧ mk' ≤ mk + 1 ∧ exSs ⟨callF wd 100 P (f + 3), wd⟩ 100 [(.asg (.n 3) (.call o [(.v 0), (.bin .Add (.lst [(.c (.str "none"))]) (.lc (.n 15) (.e (.tup [(.c (.str "fore")), (.c (.str "back")), (.c (.str "front")), (.c (.str "behind"))])) (some (.cmp .NotEq (.call sc [(.v 1), (.v 15)]) (.tup []))) (.v 15) [15]))])), (.asg (.n 4) (.ite (.cmp .NotEq (.v 3) (.c (.str "none"))) (.call dr [(.v 0), (.bf .len [(.call sc [(.v 1), (.v 3)])])]) (.c (.int (0))))), (.asg (.n 5) (.bin .Add (.lst [(.c (.str "shell")), (.c (.str "nobody"))]) (.lc (.t [2, 12]) (.e (.v 7)) (some (.and (.ix (.v 12) (.c (.int (2)))) (.cmp .NotEq (.ix (.v 12) (.c (.int (3)))) (.c (.str "ended"))))) (.v 2) [2, 12]))), (.asg (.n 6) (.ite (.cmp .NotEq (.v 3) (.c (.str "none"))) (.call o [(.v 0), (.bin .Add (.lst [(.neg (.c (.int (1))))]) (.bin .Mult (.lc (.t [2, 12]) (.e (.v 7)) none (.v 2) [2, 12]) (.c (.int (2)))))]) (.neg (.c (.int (1)))))), (.ret (.tup [(.v 3), (.v 4), (.call o [(.v 0), (.v 5)]), (.call o [(.v 0), (.lst [(.c (.str "plain")), (.c (.str "raw"))])]), (.v 6), (.bin .Add (.v 8) (.call dr [(.v 0), (.c (.int (2)))])), (.bf .tuple [(.v 7)])]))] [.gn, .fz (SU ks r A B C E), s2, .un, .un, .un, .un, .fz (.list js), .fz (.int mk), s9, s10, s11, s12, s13, s14, .un] g = .ok (.rt (stT w pl fr md hd mk' js)) g' ∧ StdOk ks [.tuple A, .tuple B, .tuple C, .tuple E] w pl fr md hd mk' js ∧ G (k + 6) g' := by
  have hs : ∀ n : Nat, n ≤ 1000 → n ≤ sizeLine := fun n h => by rw [sizeLine_eq]; omega
  have z1 := one_s
  have z2 : (2 : Nat) ≤ sizeLine := hs 2 (by omega)
  have z7 : (7 : Nat) ≤ sizeLine := hs 7 (by omega)
  have sc1 : ∀ w ∈ w4, callF wd 100 P (f + 3) sc [.d (SU ks r A B C E), .d (.str w)] = .pu (.tuple (scOf A B C E w)) := fun w hw => law_script hsc (f + 2) hw
  have ew := @ev_words ⟨callF wd 100 P (f + 3), wd⟩ ks r A B C E js mk s2 s9 s10 s11 s12 s13 s14 sc hA hB hC hE sc1
  have lw : ((w4.map PyData.str).filterMap (wH A B C E)).length ≤ 4 := by
    have := List.length_filterMap_le (wH A B C E) (w4.map PyData.str)
    rw [List.length_map] at this
    exact this
  have mw : ∀ x ∈ (w4.map PyData.str).filterMap (wH A B C E), ∃ d ∈ w4.map PyData.str, wH A B C E d = some x := fun x hx => List.mem_filterMap.mp hx
  generalize (w4.map PyData.str).filterMap (wH A B C E) = ys at ew lw mw
  have jw : ys.length + 1 ≤ sizeLine := hs _ (by omega)
  have jw' : 1 + ys.length ≤ sizeLine := hs _ (by omega)
  obtain ⟨xw, g1, e1, hw, hg1⟩ := W.ofW (f + 1) (xs := .str "none" :: ys) (by simp) (by simp; omega) (by omega) hg
  have t2 : exS ⟨callF wd 100 P (f + 3), wd⟩ 100 (.asg (.n 3) (.call o [(.v 0), (.bin .Add (.lst [(.c (.str "none"))]) (.lc (.n 15) (.e (.tup [(.c (.str "fore")), (.c (.str "back")), (.c (.str "front")), (.c (.str "behind"))])) (some (.cmp .NotEq (.call sc [(.v 1), (.v 15)]) (.tup []))) (.v 15) [15]))])) [.gn, .fz (SU ks r A B C E), s2, .un, .un, .un, .un, .fz (.list js), .fz (.int mk), s9, s10, s11, s12, s13, s14, .un] g = .ok (.nx [.gn, .fz (SU ks r A B C E), s2, .fz xw, .un, .un, .un, .fz (.list js), .fz (.int mk), s9, s10, s11, s12, s13, s14, .un]) g1 := by
    simp [ofO_some, M.pu_bd, exsx_nil, exsx_cons, exx_asg, exx_par, exx_ret, exx_retN, exx_iff, exx_for, exx_whl, exx_raise, exx_gput, evx_c, evx_v, evx_bin, evx_cmp, evx_chain, evx_and, evx_or, evx_not, evx_tup, evx_lst, evx_ix, evx_sl, evx_bf, evx_call, evx_gix, evx_ite, evsx_nil, evsx_cons, evT, evO, evOT, Env.get, bf_one, bf1, isi_str, isi_tup, isStr, isTupD, asD, truD, cmpD, cmpOp, eqE, nilEq, solid, endD, slOf, dOf, toInt, seqOf, seqE, seqS, seqJ, setTg, setTgs, List.mapM_cons, List.mapM_nil, Option.bind, Option.map, bd_ap, pu_ap, z1, ew, binD, opD, addD, jw, jw', e1]
  -- the word, and the place
  obtain ⟨w, pl, g2, rfl, hpl, hww, hg2, t3⟩ : ∃ w pl g2, xw = .str w ∧ PlaceOk [.tuple A, .tuple B, .tuple C, .tuple E] w pl ∧ (w = "none" ∨ w ∈ w4) ∧ G (k + 2) g2 ∧ exS ⟨callF wd 100 P (f + 3), wd⟩ 100 (.asg (.n 4) (.ite (.cmp .NotEq (.v 3) (.c (.str "none"))) (.call dr [(.v 0), (.bf .len [(.call sc [(.v 1), (.v 3)])])]) (.c (.int (0))))) [.gn, .fz (SU ks r A B C E), s2, .fz xw, .un, .un, .un, .fz (.list js), .fz (.int mk), s9, s10, s11, s12, s13, s14, .un] g1 = .ok (.nx [.gn, .fz (SU ks r A B C E), s2, .fz xw, .fz (.int pl), .un, .un, .fz (.list js), .fz (.int mk), s9, s10, s11, s12, s13, s14, .un]) g2 := by
    rcases List.mem_cons.mp hw with rfl | hw
    · exact ⟨"none", 0, g1, rfl, .inl ⟨rfl, rfl⟩, .inl rfl, hg1.up (by omega), by simp [ofO_some, M.pu_bd, exsx_nil, exsx_cons, exx_asg, exx_par, exx_ret, exx_retN, exx_iff, exx_for, exx_whl, exx_raise, exx_gput, evx_c, evx_v, evx_bin, evx_cmp, evx_chain, evx_and, evx_or, evx_not, evx_tup, evx_lst, evx_ix, evx_sl, evx_bf, evx_call, evx_gix, evx_ite, evsx_nil, evsx_cons, evT, evO, evOT, Env.get, bf_one, bf1, isi_str, isi_tup, isStr, isTupD, asD, truD, cmpD, cmpOp, eqE, nilEq, solid, endD, slOf, dOf, toInt, seqOf, seqE, seqS, seqJ, setTg, setTgs, List.mapM_cons, List.mapM_nil, Option.bind, Option.map, bd_ap, pu_ap, none_none]⟩
    · obtain ⟨d, hd, e⟩ := mw _ hw
      obtain ⟨w, hw4, rfl⟩ := List.mem_map.mp hd
      unfold wH at e
      dsimp only at e
      split at e
      · cases e
      · rename_i hne
        cases e
        have hpos : 0 < (scOf A B C E w).length := List.length_pos_iff.mpr (fun z => hne (by rw [z]; rfl))
        have hlen : (scOf A B C E w).length ≤ 6 := by
          unfold scOf
          split
          · exact lA
          · split
            · exact lB
            · split
              · exact lC
              · exact lE
        obtain ⟨p, g2, e2, p0, p1, hg2⟩ := W.drawW (f + 2) (scOf A B C E w).length (by omega) (by omega) (by omega) hg1
        refine ⟨w, p, g2, rfl, .inr ?_, .inr hw4, hg2.up (by omega), by simp [ofO_some, M.pu_bd, exsx_nil, exsx_cons, exx_asg, exx_par, exx_ret, exx_retN, exx_iff, exx_for, exx_whl, exx_raise, exx_gput, evx_c, evx_v, evx_bin, evx_cmp, evx_chain, evx_and, evx_or, evx_not, evx_tup, evx_lst, evx_ix, evx_sl, evx_bf, evx_call, evx_gix, evx_ite, evsx_nil, evsx_cons, evT, evO, evOT, Env.get, bf_one, bf1, isi_str, isi_tup, isStr, isTupD, asD, truD, cmpD, cmpOp, eqE, nilEq, solid, endD, slOf, dOf, toInt, seqOf, seqE, seqS, seqJ, setTg, setTgs, List.mapM_cons, List.mapM_nil, Option.bind, Option.map, bd_ap, pu_ap, w4_none w hw4, sc1 w hw4, lenD, e2]⟩
        have hw5 := hw4
        simp only [w4, List.mem_cons, List.not_mem_nil, or_false] at hw5
        rcases hw5 with rfl | rfl | rfl | rfl
        · exact ⟨0, A, rfl, rfl, p0, p1⟩
        · exact ⟨1, B, rfl, rfl, p0, p1⟩
        · exact ⟨2, C, rfl, rfl, p0, p1⟩
        · exact ⟨3, E, rfl, rfl, p0, p1⟩
  have ef := @ev_fronts ⟨callF wd 100 P (f + 3), wd⟩ ks r A B C E js mk s2 s9 s10 s11 s12 s13 s14 mk h (by omega)
  have lf : (js.filterMap frH).length ≤ js.length := List.length_filterMap_le _ _
  have jf : (js.filterMap frH).length + 2 ≤ sizeLine := hs _ (by omega)
  have jf' : 2 + (js.filterMap frH).length ≤ sizeLine := hs _ (by omega)
  have t4 : exS ⟨callF wd 100 P (f + 3), wd⟩ 100 (.asg (.n 5) (.bin .Add (.lst [(.c (.str "shell")), (.c (.str "nobody"))]) (.lc (.t [2, 12]) (.e (.v 7)) (some (.and (.ix (.v 12) (.c (.int (2)))) (.cmp .NotEq (.ix (.v 12) (.c (.int (3)))) (.c (.str "ended"))))) (.v 2) [2, 12]))) [.gn, .fz (SU ks r A B C E), s2, .fz (.str w), .fz (.int pl), .un, .un, .fz (.list js), .fz (.int mk), s9, s10, s11, s12, s13, s14, .un] g2 = .ok (.nx [.gn, .fz (SU ks r A B C E), s2, .fz (.str w), .fz (.int pl), .fz (.list (.str "shell" :: .str "nobody" :: js.filterMap frH)), .un, .fz (.list js), .fz (.int mk), s9, s10, s11, s12, s13, s14, .un]) g2 := by
    simp [ofO_some, M.pu_bd, exsx_nil, exsx_cons, exx_asg, exx_par, exx_ret, exx_retN, exx_iff, exx_for, exx_whl, exx_raise, exx_gput, evx_c, evx_v, evx_bin, evx_cmp, evx_chain, evx_and, evx_or, evx_not, evx_tup, evx_lst, evx_ix, evx_sl, evx_bf, evx_call, evx_gix, evx_ite, evsx_nil, evsx_cons, evT, evO, evOT, Env.get, bf_one, bf1, isi_str, isi_tup, isStr, isTupD, asD, truD, cmpD, cmpOp, eqE, nilEq, solid, endD, slOf, dOf, toInt, seqOf, seqE, seqS, seqJ, setTg, setTgs, List.mapM_cons, List.mapM_nil, Option.bind, Option.map, bd_ap, pu_ap, z2, ef, binD, opD, addD, jf, jf']
  obtain ⟨hd, g3, hhd, hg3, t5⟩ : ∃ hd g3, HandOk w js hd ∧ G (k + 3) g3 ∧ exS ⟨callF wd 100 P (f + 3), wd⟩ 100 (.asg (.n 6) (.ite (.cmp .NotEq (.v 3) (.c (.str "none"))) (.call o [(.v 0), (.bin .Add (.lst [(.neg (.c (.int (1))))]) (.bin .Mult (.lc (.t [2, 12]) (.e (.v 7)) none (.v 2) [2, 12]) (.c (.int (2)))))]) (.neg (.c (.int (1)))))) [.gn, .fz (SU ks r A B C E), s2, .fz (.str w), .fz (.int pl), .fz (.list (.str "shell" :: .str "nobody" :: js.filterMap frH)), .un, .fz (.list js), .fz (.int mk), s9, s10, s11, s12, s13, s14, .un] g2 = .ok (.nx [.gn, .fz (SU ks r A B C E), s2, .fz (.str w), .fz (.int pl), .fz (.list (.str "shell" :: .str "nobody" :: js.filterMap frH)), .fz (.int hd), .fz (.list js), .fz (.int mk), s9, s10, s11, s12, s13, s14, .un]) g3 := by
    rcases hww with rfl | hw4
    · exact ⟨-1, g2, .inl rfl, hg2.up (by omega), by simp [ofO_some, M.pu_bd, exsx_nil, exsx_cons, exx_asg, exx_par, exx_ret, exx_retN, exx_iff, exx_for, exx_whl, exx_raise, exx_gput, evx_c, evx_v, evx_bin, evx_cmp, evx_chain, evx_and, evx_or, evx_not, evx_tup, evx_lst, evx_ix, evx_sl, evx_bf, evx_call, evx_gix, evx_ite, evsx_nil, evsx_cons, evT, evO, evOT, Env.get, bf_one, bf1, isi_str, isi_tup, isStr, isTupD, asD, truD, cmpD, cmpOp, eqE, nilEq, solid, endD, slOf, dOf, toInt, seqOf, seqE, seqS, seqJ, setTg, setTgs, List.mapM_cons, List.mapM_nil, Option.bind, Option.map, bd_ap, pu_ap, none_none, evx_neg]⟩
    · have eh := @ev_hands ⟨callF wd 100 P (f + 3), wd⟩ ks r A B C E js mk s2 s9 s10 s11 s12 s13 s14 mk h (by omega)
      have lm : (js.map numD).length ≤ 1000 := by rw [List.length_map]; omega
      have lm' : js.length ≤ 1000 := by omega
      have jh : (js.map numD ++ js.map numD).length + 1 ≤ sizeLine := by
        rw [List.length_append, List.length_map, sizeLine_eq]; omega
      have jh' : 1 + (js.length + js.length) ≤ sizeLine := by rw [sizeLine_eq]; omega
      have jh2 : js.length + js.length + 1 ≤ sizeLine := by rw [sizeLine_eq]; omega
      obtain ⟨xh, g3, e3, hx, hg3⟩ := W.ofW (f + 1) (xs := .int (-1) :: (js.map numD ++ js.map numD)) (by simp) (by simp; omega) (by omega) hg2
      obtain ⟨hd, rfl, hok⟩ : ∃ hd, xh = .int hd ∧ HandOk w js hd := by
        rcases List.mem_cons.mp hx with rfl | hx
        · exact ⟨-1, rfl, .inl rfl⟩
        · have hx : xh ∈ js.map numD := by simpa using hx
          obtain ⟨d, hd, rfl⟩ := List.mem_map.mp hx
          obtain ⟨j, jb, rfl, _⟩ := h.all d hd
          exact ⟨j, rfl, .inr ⟨hw4, jb, hd⟩⟩
      have rep : (List.replicate 2 (js.map numD)).flatten = js.map numD ++ js.map numD := by simp [List.replicate]
      refine ⟨hd, g3, hok, hg3.up (by omega), ?_⟩
      simp [ofO_some, M.pu_bd, exsx_nil, exsx_cons, exx_asg, exx_par, exx_ret, exx_retN, exx_iff, exx_for, exx_whl, exx_raise, exx_gput, evx_c, evx_v, evx_bin, evx_cmp, evx_chain, evx_and, evx_or, evx_not, evx_tup, evx_lst, evx_ix, evx_sl, evx_bf, evx_call, evx_gix, evx_ite, evsx_nil, evsx_cons, evT, evO, evOT, Env.get, bf_one, bf1, isi_str, isi_tup, isStr, isTupD, asD, truD, cmpD, cmpOp, eqE, nilEq, solid, endD, slOf, dOf, toInt, seqOf, seqE, seqS, seqJ, setTg, setTgs, List.mapM_cons, List.mapM_nil, Option.bind, Option.map, bd_ap, pu_ap, w4_none w hw4, z1, evx_neg, eh, binD, opD, mulD, addD, lm', rep, jh', jh2, e3]
  obtain ⟨fr, g4, e4, hfr, hg4⟩ := W.ofW (f + 1) (xs := .str "shell" :: .str "nobody" :: js.filterMap frH) (by simp) (by simp; omega) (by omega) hg3
  obtain ⟨xm, g5, e5, hmd, hg5⟩ := W.ofW (f + 1) (xs := [.str "plain", .str "raw"]) (by simp) (by simp) (by omega) hg4
  obtain ⟨md, rfl, hmd2⟩ : ∃ md, xm = .str md ∧ md ∈ (["plain", "raw"] : List Str) := by
    simp only [List.mem_cons, List.not_mem_nil, or_false] at hmd
    rcases hmd with rfl | rfl
    · exact ⟨"plain", rfl, by simp⟩
    · exact ⟨"raw", rfl, by simp⟩
  obtain ⟨ex, g6, e6, x0, x1, hg6⟩ := W.drawW (f + 2) 2 (by omega) (by omega) (by omega) hg5
  refine ⟨w, pl, fr, md, hd, mk + ex, g6, by omega, by omega, ?_, ⟨hpl, hmd2, by omega, h.up (by omega), ?_, hhd⟩, hg6.up (by omega)⟩
  · rw [sq t2, sq t3, sq t4, sq t5]
    simp [ofO_some, M.pu_bd, exsx_nil, exsx_cons, exx_asg, exx_par, exx_ret, exx_retN, exx_iff, exx_for, exx_whl, exx_raise, exx_gput, evx_c, evx_v, evx_bin, evx_cmp, evx_chain, evx_and, evx_or, evx_not, evx_tup, evx_lst, evx_ix, evx_sl, evx_bf, evx_call, evx_gix, evx_ite, evsx_nil, evsx_cons, evT, evO, evOT, Env.get, bf_one, bf1, isi_str, isi_tup, isStr, isTupD, asD, truD, cmpD, cmpOp, eqE, nilEq, solid, endD, slOf, dOf, toInt, seqOf, seqE, seqS, seqJ, setTg, setTgs, List.mapM_cons, List.mapM_nil, Option.bind, Option.map, bd_ap, pu_ap, e4, e5, e6, z2, z7, binD, opD, addD, tupleD, stT]
  · simp only [List.mem_cons] at hfr
    rcases hfr with rfl | rfl | hfr
    · exact .inl rfl
    · exact .inr (.inl rfl)
    · obtain ⟨d, hd', e⟩ := List.mem_filterMap.mp hfr
      obtain ⟨j, jb, rfl, _, _, ok⟩ := h.all d hd'
      obtain ⟨kd, pl', ow, sw, no, he, acts, rfl, _, _, _, _, _, hsn⟩ := ok.ex
      unfold frH pairD jobT at e
      dsimp only at e
      split at e
      · rename_i hc
        cases e
        simp only [Bool.and_eq_true, Bool.not_eq_true', decide_eq_false_iff_not] at hc
        obtain ⟨rfl, hc2⟩ := hc
        exact .inr (.inr ⟨j, _, kd, pl', sw, no, he, rfl, hd', rfl, hsn, hc2⟩)
      · cases e
include hst
theorem law_state (f : Nat) {ks : List D} {r : D} {A B C E : List D} (hk1 : 1 ≤ ks.length) (hk3 : ks.length ≤ 3) (hks : ∀ x ∈ ks, ∃ xs : List D, x = .tuple xs ∧ xs.length ≤ 5) (hA : ∀ x ∈ A, wordB x steps = true) (hB : ∀ x ∈ B, wordB x steps = true) (hC : ∀ x ∈ C, wordB x steps = true) (hE : ∀ x ∈ E, wordB x steps = true)
    (lA : A.length ≤ 6) (lB : B.length ≤ 6) (lC : C.length ≤ 6) (lE : E.length ≤ 6) {k : Int} (hk : k < 800000) {g : Gen} (hg : G k g) :
    ∃ w pl fr md hd mk js g', callF wd 100 P (f + 4) st [.gn, .d (SU ks r A B C E)] g = .ok (stT w pl fr md hd mk js) g' ∧ StdOk ks [.tuple A, .tuple B, .tuple C, .tuple E] w pl fr md hd mk js ∧ mk ≤ 5 ∧ js.length ≤ 4 ∧ G (k + 50) g' := by
  rw [callF_tx hst]
  obtain ⟨mk, g1, e1, m0, m1, hg1⟩ := W.drawW (f + 2) 5 (by omega) (by omega) (by omega) hg
  have er : rngD 0 mk = some (intsFrom 0 mk.toNat) := by
    have : mk = 0 ∨ mk = 1 ∨ mk = 2 ∨ mk = 3 ∨ mk = 4 := by omega
    rcases this with rfl | rfl | rfl | rfl | rfl <;> rfl
  obtain ⟨js, s2, s9, s10, s11, s12, s13, s14, g2, e2, h, hl, hg2⟩ := st_loop W f (r := r) (A := A) (B := B) (C := C) (E := E) hk1 hk3 hks .un .un .un .un (.fz (.int mk)) .un mk.toNat 0 [] (k + 1) g1 .un .un .un .un .un .un .un (by omega) .nil (by simp; omega) (by omega) hg1
  have hmk : (0 : Int) + (mk.toNat : Nat) = mk := by omega
  rw [hmk] at h
  simp only [List.length_nil, Nat.zero_add] at hl
  obtain ⟨w, pl, fr, md, hd, mk', g3, a1, a2, e3, ok, hg3⟩ := st_rest W hsc f (r := r) (s2 := s2) (s9 := s9) (s10 := s10) (s11 := s11) (s12 := s12) (s13 := s13) (s14 := s14) hA hB hC hE lA lB lC lE h (by omega) m0 (k := k + 40) (by omega) (hg2.up (by omega))
  refine ⟨w, pl, fr, md, hd, mk', js, g3, ?_, ok, by omega, by omega, hg3.up (by omega)⟩
  have t0 : exS ⟨callF wd 100 P (f + 3), wd⟩ 100 (.par [7, 8] [(.lst []), (.call dr [(.v 0), (.c (.int (5)))])]) [.gn, .fz (SU ks r A B C E), .un, .un, .un, .un, .un, .un, .un, .un, .un, .un, .un, .un, .un, .un] g = .ok (.nx [.gn, .fz (SU ks r A B C E), .un, .un, .un, .un, .un, .fz (.list []), .fz (.int mk), .un, .un, .un, .un, .un, .un, .un]) g1 := by
    simp [ofO_some, M.pu_bd, exsx_nil, exsx_cons, exx_asg, exx_par, exx_ret, exx_retN, exx_iff, exx_for, exx_whl, exx_raise, exx_gput, evx_c, evx_v, evx_bin, evx_cmp, evx_chain, evx_and, evx_or, evx_not, evx_tup, evx_lst, evx_ix, evx_sl, evx_bf, evx_call, evx_gix, evx_ite, evsx_nil, evsx_cons, evT, evO, evOT, Env.get, bf_one, bf1, isi_str, isi_tup, isStr, isTupD, asD, truD, cmpD, cmpOp, eqE, nilEq, solid, endD, slOf, dOf, toInt, seqOf, seqE, seqS, seqJ, setTg, setTgs, List.mapM_cons, List.mapM_nil, Option.bind, Option.map, bd_ap, pu_ap, e1]
  have t1 : exS ⟨callF wd 100 P (f + 3), wd⟩ 100 (.for_ (.n 2) (.rng1 (.v 8)) (L_stBody dr o)) [.gn, .fz (SU ks r A B C E), .un, .un, .un, .un, .un, .fz (.list []), .fz (.int mk), .un, .un, .un, .un, .un, .un, .un] g1 = .ok (.nx [.gn, .fz (SU ks r A B C E), s2, .un, .un, .un, .un, .fz (.list js), .fz (.int mk), s9, s10, s11, s12, s13, s14, .un]) g2 := by
    rw [exx_for]
    simp only [evJ, evI, evx_v, Env.get, List.getElem?_cons_succ, List.getElem?_cons_zero, M.pu_bd, toInt, er, ofO_some]
    exact e2
  show ((exSs ⟨callF wd 100 P (f + 3), wd⟩ 100 (L_state dr o sc) [.gn, .fz (SU ks r A B C E), .un, .un, .un, .un, .un, .un, .un, .un, .un, .un, .un, .un, .un, .un]).bd endD) g = _
  rw [bd_ap]
  unfold L_state
  rw [sq t0, sq t1, e3]
  rfl
end
end PD
end
section
set_option Elab.async false
set_option linter.all false
set_option maxRecDepth 1000000
set_option maxHeartbeats 8000000
namespace PD
open PySem PySem.Spec L2

/-! ### the program's standings, of anything -/
def isBoolD : D → Bool
  | .bool _ => true
  | _ => false
theorem isi_bool (x : D) : isiD ["bool"] x = .bool (isBoolD x) := by cases x <;> rfl
def noticeW (st : Str) (no : D) : Bool := if st = "ended" then wordB no ["end"] else wordB no ["stop", "none"]
def actsN (ks : List D) (k : Int) : Int := match ks[k.toNat]? with
  | some (.tuple a) => a.length
  | _ => 0
def sts : List Str := ["runs", "stopped", "ended"]
def jobB6 (ks : List D) (a b c d e g : D) : Bool := belowB a ks.length && (match a with
  | .int kd => belowB b (actsN ks kd + 1)
  | _ => false) && (match d with
  | .str st => decide (st ∈ sts) && noticeW st e
  | _ => false) && (isBoolD c && isBoolD g)
def jobB (ks : List D) : D → Bool
  | .tuple [a, b, c, d, e, g] => jobB6 ks a b c d e g
  | _ => false
def jsB (ks : List D) (hi : Int) : Int → List D → Bool
  | _, [] => true
  | lo, .tuple [.int j, jb] :: r => decide (lo ≤ j) && (decide (0 ≤ j) && (decide (j < hi) && (jobB ks jb && jsB ks hi (j + 1) r)))
  | _, _ :: _ => false
theorem six_of {x : D} (h : tupB x 6 6 = true) : ∃ a b c d e g, x = .tuple [a, b, c, d, e, g] := by
  unfold tupB at h
  split at h
  · rename_i xs
    simp only [decide_eq_true_eq, Bool.and_eq_true] at h
    have h : xs.length = 6 := by omega
    match xs, h with
    | [a, b, c, d, e, g], _ => exact ⟨a, b, c, d, e, g, rfl⟩
  · cases h
theorem two_of {x : D} (h : tupB x 2 2 = true) : ∃ a b, x = .tuple [a, b] := by
  unfold tupB at h
  split at h
  · rename_i xs
    simp only [decide_eq_true_eq, Bool.and_eq_true] at h
    have h : xs.length = 2 := by omega
    match xs, h with
    | [a, b], _ => exact ⟨a, b, rfl⟩
  · cases h
theorem not_six {ks : List D} {x : D} (h : tupB x 6 6 = false) : jobB ks x = false := by
  unfold jobB
  split
  · simp [tupB] at h
  · rfl
theorem below_of {a : D} {b : Int} (h : belowB a b = true) : ∃ i, a = .int i ∧ 0 ≤ i ∧ i < b := by
  unfold belowB at h
  split at h
  · exact ⟨_, rfl, of_decide_eq_true h⟩
  · cases h
theorem word_of {d : D} {ws : List Str} (h : wordB d ws = true) : ∃ w, d = .str w ∧ w ∈ ws := by
  unfold wordB at h
  split at h
  · exact ⟨_, rfl, of_decide_eq_true h⟩
  · cases h
theorem acts_of {ks : List D} (hks : ∀ x ∈ ks, ∃ xs : List D, x = .tuple xs) {k : Int} (h0 : 0 ≤ k) (h1 : k < ks.length) : ∃ acts, ks[k.toNat]? = some (.tuple acts) ∧ actsN ks k = acts.length ∧ atI ks k = some (.tuple acts) := by
  have hn : k.toNat < ks.length := by omega
  obtain ⟨xs, e⟩ := hks _ (List.getElem_mem hn)
  have e1 : ks[k.toNat]? = some (.tuple xs) := by rw [List.getElem?_eq_getElem hn, e]
  exact ⟨xs, e1, by unfold actsN; rw [e1], atI_ok h0 h1 e1⟩
section
variable {wd : Str → Option (Option Str)} {P : List Df} {nd : Nat} (S : Stg wd P nd)
include S
theorem is_notice_any (f : Nat) {st : Str} (h : st ∈ sts) (no : D) : callF wd 100 P (f + 2) 11 [.d (.str st), .d no] = .pu (.bool (noticeW st no)) := by
  have w1 := is_word S.toSu f no ["end"]
  have w2 := is_word S.toSu f no ["stop", "none"]
  rw [callF_tx S.h11]
  have z1 : (1 : Nat) ≤ sizeLine := one_s
  have z2 : (2 : Nat) ≤ sizeLine := by rw [sizeLine_eq]; omega
  have r1 : eqD (.str "runs") (.str "ended") = some false := by kernel_rfl
  have r2 : eqD (.str "stopped") (.str "ended") = some false := by kernel_rfl
  have r3 : eqD (.str "ended") (.str "ended") = some true := by kernel_rfl
  have n1 : noticeW "runs" no = wordB no ["stop", "none"] := rfl
  have n2 : noticeW "stopped" no = wordB no ["stop", "none"] := rfl
  have n3 : noticeW "ended" no = wordB no ["end"] := rfl
  simp only [List.map_cons, List.map_nil] at w1 w2
  simp only [sts, List.mem_cons, List.not_mem_nil, or_false] at h
  rcases h with rfl | rfl | rfl
  · simp [L_is_notice, ofO_some, M.pu_bd, exsx_nil, exsx_cons, exx_asg, exx_par, exx_ret, exx_retN, exx_iff, exx_for, exx_whl, exx_raise, exx_gput, evx_c, evx_v, evx_bin, evx_cmp, evx_chain, evx_and, evx_or, evx_not, evx_tup, evx_lst, evx_ix, evx_sl, evx_bf, evx_call, evx_gix, evx_ite, evsx_nil, evsx_cons, evT, evO, evOT, Env.get, bf_one, bf1, isi_str, isi_tup, isStr, isTupD, asD, truD, cmpD, cmpOp, eqE, nilEq, solid, endD, slOf, dOf, toInt, seqOf, seqE, seqS, seqJ, setTg, setTgs, List.mapM_cons, List.mapM_nil, Option.bind, Option.map, r1, z1, z2, w2, n1]
  · simp [L_is_notice, ofO_some, M.pu_bd, exsx_nil, exsx_cons, exx_asg, exx_par, exx_ret, exx_retN, exx_iff, exx_for, exx_whl, exx_raise, exx_gput, evx_c, evx_v, evx_bin, evx_cmp, evx_chain, evx_and, evx_or, evx_not, evx_tup, evx_lst, evx_ix, evx_sl, evx_bf, evx_call, evx_gix, evx_ite, evsx_nil, evsx_cons, evT, evO, evOT, Env.get, bf_one, bf1, isi_str, isi_tup, isStr, isTupD, asD, truD, cmpD, cmpOp, eqE, nilEq, solid, endD, slOf, dOf, toInt, seqOf, seqE, seqS, seqJ, setTg, setTgs, List.mapM_cons, List.mapM_nil, Option.bind, Option.map, r2, z1, z2, w2, n2]
  · simp [L_is_notice, ofO_some, M.pu_bd, exsx_nil, exsx_cons, exx_asg, exx_par, exx_ret, exx_retN, exx_iff, exx_for, exx_whl, exx_raise, exx_gput, evx_c, evx_v, evx_bin, evx_cmp, evx_chain, evx_and, evx_or, evx_not, evx_tup, evx_lst, evx_ix, evx_sl, evx_bf, evx_call, evx_gix, evx_ite, evsx_nil, evsx_cons, evT, evO, evOT, Env.get, bf_one, bf1, isi_str, isi_tup, isStr, isTupD, asD, truD, cmpD, cmpOp, eqE, nilEq, solid, endD, slOf, dOf, toInt, seqOf, seqE, seqS, seqJ, setTg, setTgs, List.mapM_cons, List.mapM_nil, Option.bind, Option.map, r3, z1, z2, w1, n3]
theorem is_job_any (f : Nat) {ks : List D} {r s : D} (hks : ∀ x ∈ ks, ∃ xs : List D, x = .tuple xs) (x : D) : callF wd 100 P (f + 3) 12 [.d (.tuple [.tuple ks, r, s]), .d x] = .pu (.bool (jobB ks x)) := by
  rw [callF_tx S.h12]
  cases t : tupB x 6 6 with
  | false =>
    rw [not_six t]
    simp [L_is_job, ofO_some, M.pu_bd, exsx_nil, exsx_cons, exx_asg, exx_par, exx_ret, exx_retN, exx_iff, exx_for, exx_whl, exx_raise, exx_gput, evx_c, evx_v, evx_bin, evx_cmp, evx_chain, evx_and, evx_or, evx_not, evx_tup, evx_lst, evx_ix, evx_sl, evx_bf, evx_call, evx_gix, evx_ite, evsx_nil, evsx_cons, evT, evO, evOT, Env.get, bf_one, bf1, isi_str, isi_tup, isStr, isTupD, asD, truD, cmpD, cmpOp, eqE, nilEq, solid, endD, slOf, dOf, toInt, seqOf, seqE, seqS, seqJ, setTg, setTgs, List.mapM_cons, List.mapM_nil, Option.bind, Option.map, is_tuple S.toSu, t]
  | true =>
    obtain ⟨a, b, c, d, e, g, rfl⟩ := six_of t
    have t' := is_tuple S.toSu (f + 1) (.tuple [a, b, c, d, e, g]) 6 6
    rw [t] at t'
    have jb : jobB ks (.tuple [a, b, c, d, e, g]) = jobB6 ks a b c d e g := rfl
    rw [jb]
    have b1 := is_below S f a ks.length
    cases c1 : belowB a ks.length with
    | false =>
      rw [c1] at b1
      have j0 : jobB6 ks a b c d e g = false := by unfold jobB6; rw [c1]; rfl
      simp [L_is_job, ofO_some, M.pu_bd, exsx_nil, exsx_cons, exx_asg, exx_par, exx_ret, exx_retN, exx_iff, exx_for, exx_whl, exx_raise, exx_gput, evx_c, evx_v, evx_bin, evx_cmp, evx_chain, evx_and, evx_or, evx_not, evx_tup, evx_lst, evx_ix, evx_sl, evx_bf, evx_call, evx_gix, evx_ite, evsx_nil, evsx_cons, evT, evO, evOT, Env.get, bf_one, bf1, isi_str, isi_tup, isStr, isTupD, asD, truD, cmpD, cmpOp, eqE, nilEq, solid, endD, slOf, dOf, toInt, seqOf, seqE, seqS, seqJ, setTg, setTgs, List.mapM_cons, List.mapM_nil, Option.bind, Option.map, t', b1, lenD, ixD, itD, at0, j0]
    | true =>
      obtain ⟨kd, rfl, k0, k1⟩ := below_of c1
      rw [c1] at b1
      obtain ⟨acts, _, an, ai⟩ := acts_of hks k0 k1
      have b2 := is_below S f b (acts.length + 1)
      cases c2 : belowB b (acts.length + 1) with
      | false =>
        rw [c2] at b2
        have j0 : jobB6 ks (.int kd) b c d e g = false := by unfold jobB6; simp only [c1, an, c2]; rfl
        simp [L_is_job, ofO_some, M.pu_bd, exsx_nil, exsx_cons, exx_asg, exx_par, exx_ret, exx_retN, exx_iff, exx_for, exx_whl, exx_raise, exx_gput, evx_c, evx_v, evx_bin, evx_cmp, evx_chain, evx_and, evx_or, evx_not, evx_tup, evx_lst, evx_ix, evx_sl, evx_bf, evx_call, evx_gix, evx_ite, evsx_nil, evsx_cons, evT, evO, evOT, Env.get, bf_one, bf1, isi_str, isi_tup, isStr, isTupD, asD, truD, cmpD, cmpOp, eqE, nilEq, solid, endD, slOf, dOf, toInt, seqOf, seqE, seqS, seqJ, setTg, setTgs, List.mapM_cons, List.mapM_nil, Option.bind, Option.map, t', b1, b2, lenD, ixD, itD, at0, ai, addD, binD, opD, j0]
      | true =>
        rw [c2] at b2
        have w := is_word S.toSu (f + 1) d ["runs", "stopped", "ended"]
        simp only [List.map_cons, List.map_nil] at w
        cases c3 : wordB d ["runs", "stopped", "ended"] with
        | false =>
          rw [c3] at w
          have j0 : jobB6 ks (.int kd) b c d e g = false := by
            unfold jobB6
            cases d with
            | str st =>
              have : decide (st ∈ sts) = false := c3
              simp [this]
            | _ => simp
          simp [L_is_job, ofO_some, M.pu_bd, exsx_nil, exsx_cons, exx_asg, exx_par, exx_ret, exx_retN, exx_iff, exx_for, exx_whl, exx_raise, exx_gput, evx_c, evx_v, evx_bin, evx_cmp, evx_chain, evx_and, evx_or, evx_not, evx_tup, evx_lst, evx_ix, evx_sl, evx_bf, evx_call, evx_gix, evx_ite, evsx_nil, evsx_cons, evT, evO, evOT, Env.get, bf_one, bf1, isi_str, isi_tup, isStr, isTupD, asD, truD, cmpD, cmpOp, eqE, nilEq, solid, endD, slOf, dOf, toInt, seqOf, seqE, seqS, seqJ, setTg, setTgs, List.mapM_cons, List.mapM_nil, Option.bind, Option.map, t', b1, b2, w, lenD, ixD, itD, at0, ai, addD, binD, opD, j0]
        | true =>
          rw [c3] at w
          obtain ⟨st, rfl, hst⟩ := word_of c3
          have n := is_notice_any S f (st := st) hst e
          have dm : decide (st ∈ sts) = true := decide_eq_true hst
          have j1 : jobB6 ks (.int kd) b c (.str st) e g = (noticeW st e && (isBoolD c && isBoolD g)) := by
            unfold jobB6
            simp only [c1, an, c2, dm, Bool.true_and]
          rw [j1]
          cases c4 : noticeW st e with
          | false =>
            rw [c4] at n
            simp [L_is_job, ofO_some, M.pu_bd, exsx_nil, exsx_cons, exx_asg, exx_par, exx_ret, exx_retN, exx_iff, exx_for, exx_whl, exx_raise, exx_gput, evx_c, evx_v, evx_bin, evx_cmp, evx_chain, evx_and, evx_or, evx_not, evx_tup, evx_lst, evx_ix, evx_sl, evx_bf, evx_call, evx_gix, evx_ite, evsx_nil, evsx_cons, evT, evO, evOT, Env.get, bf_one, bf1, isi_str, isi_tup, isStr, isTupD, asD, truD, cmpD, cmpOp, eqE, nilEq, solid, endD, slOf, dOf, toInt, seqOf, seqE, seqS, seqJ, setTg, setTgs, List.mapM_cons, List.mapM_nil, Option.bind, Option.map, t', b1, b2, w, n, lenD, ixD, itD, at0, ai, addD, binD, opD]
          | true =>
            rw [c4] at n
            cases c5 : isBoolD c <;> simp [L_is_job, ofO_some, M.pu_bd, exsx_nil, exsx_cons, exx_asg, exx_par, exx_ret, exx_retN, exx_iff, exx_for, exx_whl, exx_raise, exx_gput, evx_c, evx_v, evx_bin, evx_cmp, evx_chain, evx_and, evx_or, evx_not, evx_tup, evx_lst, evx_ix, evx_sl, evx_bf, evx_call, evx_gix, evx_ite, evsx_nil, evsx_cons, evT, evO, evOT, Env.get, bf_one, bf1, isi_str, isi_tup, isStr, isTupD, asD, truD, cmpD, cmpOp, eqE, nilEq, solid, endD, slOf, dOf, toInt, seqOf, seqE, seqS, seqJ, setTg, setTgs, List.mapM_cons, List.mapM_nil, Option.bind, Option.map, t', b1, b2, w, n, lenD, ixD, itD, at0, ai, addD, binD, opD, isi_bool, c5]
omit S in
theorem jobB_ok {ks : List D} (hks : ∀ x ∈ ks, ∃ xs : List D, x = .tuple xs) {x : D} (h : jobB ks x = true) : JobOk ks x := by
  unfold jobB at h
  split at h
  · rename_i a b c d e g
    unfold jobB6 at h
    simp only [Bool.and_eq_true] at h
    obtain ⟨⟨⟨h1, h2⟩, h3⟩, h4, h5⟩ := h
    obtain ⟨kd, rfl, k0, k1⟩ := below_of h1
    obtain ⟨acts, ka, an, ai⟩ := acts_of hks k0 k1
    have h2 : belowB b (actsN ks kd + 1) = true := h2
    rw [an] at h2
    obtain ⟨pl, rfl, p0, p1⟩ := below_of h2
    split at h3
    · rename_i st
      simp only [Bool.and_eq_true, decide_eq_true_eq] at h3
      obtain ⟨hs, hn⟩ := h3
      cases c with
      | bool own =>
        cases g with
        | bool he =>
          have : ∃ no, e = .str no ∧ (st, no) ∈ stNo := by
            simp only [sts, List.mem_cons, List.not_mem_nil, or_false] at hs
            rcases hs with rfl | rfl | rfl
            · obtain ⟨no, rfl, hm⟩ := word_of (show wordB e ["stop", "none"] = true from hn)
              simp only [List.mem_cons, List.not_mem_nil, or_false] at hm
              rcases hm with rfl | rfl <;> exact ⟨_, rfl, by simp [stNo]⟩
            · obtain ⟨no, rfl, hm⟩ := word_of (show wordB e ["stop", "none"] = true from hn)
              simp only [List.mem_cons, List.not_mem_nil, or_false] at hm
              rcases hm with rfl | rfl <;> exact ⟨_, rfl, by simp [stNo]⟩
            · obtain ⟨no, rfl, hm⟩ := word_of (show wordB e ["end"] = true from hn)
              simp only [List.mem_cons, List.not_mem_nil, or_false] at hm
              subst hm
              exact ⟨_, rfl, by simp [stNo]⟩
          obtain ⟨no, rfl, hsn⟩ := this
          exact ⟨kd, pl, own, st, no, he, acts, rfl, k0, k1, ka, p0, by omega, hsn⟩
        | _ => cases h5
      | _ => cases h4
    · cases h3
  · cases h
omit S in
theorem jsB_ok {ks : List D} {hi : Int} (hks : ∀ x ∈ ks, ∃ xs : List D, x = .tuple xs) : ∀ (xs : List D) {lo : Int}, jsB ks hi lo xs = true → Js ks hi lo xs
  | [], _, _ => .nil
  | x :: r, lo, h => by
    unfold jsB at h
    split at h
    · rename_i e
      cases e
    · rename_i j jb r' e
      cases e
      simp only [Bool.and_eq_true, decide_eq_true_eq] at h
      obtain ⟨h1, h2, h3, h4, h5⟩ := h
      exact .cons h1 h2 h3 (jobB_ok hks h4) (jsB_ok hks _ h5)
    · cases h
end
end PD
end
section
set_option Elab.async false
set_option linter.all false
set_option maxRecDepth 1000000
set_option maxHeartbeats 8000000
namespace PD
open PySem PySem.Spec L2

def B_jobs : List Sm := [(.iff (.not (.call 1 [(.v 4), (.c (.int (2))), (.c (.int (2)))])) [(.ret (.c (.bool false)))] []), (.asg (.t [5, 6]) (.v 4)), (.iff (.or (.not (.call 10 [(.v 5), (.v 1)])) (.or (.cmp .Lt (.v 5) (.v 3)) (.not (.call 12 [(.v 0), (.v 6)])))) [(.ret (.c (.bool false)))] []), (.asg (.n 3) (.bin .Add (.v 5) (.c (.int (1)))))]
theorem jsB_two {ks : List D} {hi lo : Int} {x : D} {r : List D} (h : tupB x 2 2 = false) : jsB ks hi lo (x :: r) = false := by
  unfold jsB
  split
  · rename_i e
    cases e
  · rename_i e
    cases e
    simp [tupB] at h
  · rfl
theorem jsB_out {ks : List D} {hi lo : Int} {a jb : D} {r : List D} (h : belowB a hi = false) : jsB ks hi lo (.tuple [a, jb] :: r) = false := by
  unfold jsB
  split
  · rename_i e
    cases e
  · rename_i j jb' r' e
    cases e
    have h : decide (0 ≤ j ∧ j < hi) = false := h
    have h := of_decide_eq_false h
    cases q1 : decide (0 ≤ j) with
    | false => simp
    | true =>
      have q1 := of_decide_eq_true q1
      have q2 : decide (j < hi) = false := decide_eq_false (by omega)
      simp [q2]
  · rfl
theorem jsB_in {ks : List D} {hi lo j : Int} {jb : D} {r : List D} (h0 : 0 ≤ j) (h1 : j < hi) : jsB ks hi lo (.tuple [.int j, jb] :: r) = (decide (lo ≤ j) && (jobB ks jb && jsB ks hi (j + 1) r)) := by
  simp [jsB, h0, h1]
def jobsB (ks : List D) (hi : Int) : D → Bool
  | .tuple xs => jsB ks hi 0 xs
  | _ => false
def findX (js : List D) : D → D
  | .int n => findJ n js
  | _ => .none
def frontJ : D → Bool
  | .tuple [_, _, .bool own, .str st, _, _] => own && !decide (st = "ended")
  | _ => false
def frontB (js : List D) (fr : D) : Bool := wordB fr ["shell", "nobody"] || frontJ (findX js fr)
def thereB : D → Bool
  | .none => false
  | _ => true
def handB (w : Str) (js : List D) : D → Bool
  | .int n => decide (n = -1) || (!decide (w = "none") && thereB (findJ n js))
  | _ => false
theorem Js.find {ks : List D} {hi : Int} : ∀ {lo : Int} {js : List D}, Js ks hi lo js → ∀ n : Int, findJ n js = .none ∨ JobOk ks (findJ n js)
  | _, _, .nil, n => .inl rfl
  | _, _, .cons (j := j) (jb := jb) (js := js) a b c d e, n => by
    rw [findJ_cons]
    by_cases q : j = n
    · rw [if_pos q]
      exact .inr d
    · rw [if_neg q]
      exact Js.find e n
section
variable {wd : Str → Option (Option Str)} {P : List Df} {nd : Nat} (S : Stg wd P nd)
include S
theorem are_loop_any (f : Nat) {ks : List D} {r s : D} {hi : Int} {js0 : D} (hks : ∀ x ∈ ks, ∃ xs : List D, x = .tuple xs) : ∀ (xs : List D) (lo : Int) (s4 s5 s6 : Sl),
    (∃ l' s4' s5' s6', forB (.n 4) (exSs ⟨callF wd 100 P (f + 3), wd⟩ 100 B_jobs) xs [.fz (.tuple [.tuple ks, r, s]), .fz (.int hi), .fz js0, .fz (.int lo), s4, s5, s6] = .pu (.nx [.fz (.tuple [.tuple ks, r, s]), .fz (.int hi), .fz js0, .fz (.int l'), s4', s5', s6']) ∧ jsB ks hi lo xs = true) ∨
    (forB (.n 4) (exSs ⟨callF wd 100 P (f + 3), wd⟩ 100 B_jobs) xs [.fz (.tuple [.tuple ks, r, s]), .fz (.int hi), .fz js0, .fz (.int lo), s4, s5, s6] = .pu (.rt (.bool false)) ∧ jsB ks hi lo xs = false)
  | [], lo, s4, s5, s6 => .inl ⟨lo, s4, s5, s6, rfl, rfl⟩
  | x :: xs, lo, s4, s5, s6 => by
    have t2 := is_tuple S.toSu (f + 2) x 2 2
    cases t : tupB x 2 2 with
    | false =>
      rw [t] at t2
      exact .inr ⟨by simp [forB, B_jobs, ofO_some, M.pu_bd, exsx_nil, exsx_cons, exx_asg, exx_par, exx_ret, exx_retN, exx_iff, exx_for, exx_whl, exx_raise, exx_gput, evx_c, evx_v, evx_bin, evx_cmp, evx_chain, evx_and, evx_or, evx_not, evx_tup, evx_lst, evx_ix, evx_sl, evx_bf, evx_call, evx_gix, evx_ite, evsx_nil, evsx_cons, evT, evO, evOT, Env.get, bf_one, bf1, isi_str, isi_tup, isStr, isTupD, asD, truD, cmpD, cmpOp, eqE, nilEq, solid, endD, slOf, dOf, toInt, seqOf, seqE, seqS, seqJ, setTg, setTgs, List.mapM_cons, List.mapM_nil, Option.bind, Option.map, t2], jsB_two t⟩
    | true =>
      rw [t] at t2
      obtain ⟨a, jb, rfl⟩ := two_of t
      have b1 := is_below S (f + 1) a hi
      cases c1 : belowB a hi with
      | false =>
        rw [c1] at b1
        exact .inr ⟨by simp [forB, B_jobs, ofO_some, M.pu_bd, exsx_nil, exsx_cons, exx_asg, exx_par, exx_ret, exx_retN, exx_iff, exx_for, exx_whl, exx_raise, exx_gput, evx_c, evx_v, evx_bin, evx_cmp, evx_chain, evx_and, evx_or, evx_not, evx_tup, evx_lst, evx_ix, evx_sl, evx_bf, evx_call, evx_gix, evx_ite, evsx_nil, evsx_cons, evT, evO, evOT, Env.get, bf_one, bf1, isi_str, isi_tup, isStr, isTupD, asD, truD, cmpD, cmpOp, eqE, nilEq, solid, endD, slOf, dOf, toInt, seqOf, seqE, seqS, seqJ, setTg, setTgs, List.mapM_cons, List.mapM_nil, Option.bind, Option.map, t2, b1], jsB_out c1⟩
      | true =>
        rw [c1] at b1
        obtain ⟨j, rfl, j0, j1⟩ := below_of c1
        rw [jsB_in j0 j1]
        by_cases q : j < lo
        · refine .inr ⟨by simp [forB, B_jobs, ofO_some, M.pu_bd, exsx_nil, exsx_cons, exx_asg, exx_par, exx_ret, exx_retN, exx_iff, exx_for, exx_whl, exx_raise, exx_gput, evx_c, evx_v, evx_bin, evx_cmp, evx_chain, evx_and, evx_or, evx_not, evx_tup, evx_lst, evx_ix, evx_sl, evx_bf, evx_call, evx_gix, evx_ite, evsx_nil, evsx_cons, evT, evO, evOT, Env.get, bf_one, bf1, isi_str, isi_tup, isStr, isTupD, asD, truD, cmpD, cmpOp, eqE, nilEq, solid, endD, slOf, dOf, toInt, seqOf, seqE, seqS, seqJ, setTg, setTgs, List.mapM_cons, List.mapM_nil, Option.bind, Option.map, t2, b1, ltD, q], ?_⟩
          rw [decide_eq_false (by omega), Bool.false_and]
        · have ij := is_job_any S f (r := r) (s := s) hks jb
          rw [decide_eq_true (by omega : lo ≤ j), Bool.true_and]
          cases c2 : jobB ks jb with
          | false =>
            rw [c2] at ij
            exact .inr ⟨by simp [forB, B_jobs, ofO_some, M.pu_bd, exsx_nil, exsx_cons, exx_asg, exx_par, exx_ret, exx_retN, exx_iff, exx_for, exx_whl, exx_raise, exx_gput, evx_c, evx_v, evx_bin, evx_cmp, evx_chain, evx_and, evx_or, evx_not, evx_tup, evx_lst, evx_ix, evx_sl, evx_bf, evx_call, evx_gix, evx_ite, evsx_nil, evsx_cons, evT, evO, evOT, Env.get, bf_one, bf1, isi_str, isi_tup, isStr, isTupD, asD, truD, cmpD, cmpOp, eqE, nilEq, solid, endD, slOf, dOf, toInt, seqOf, seqE, seqS, seqJ, setTg, setTgs, List.mapM_cons, List.mapM_nil, Option.bind, Option.map, t2, b1, ltD, q, ij], rfl⟩
          | true =>
            rw [c2] at ij
            have st : forB (.n 4) (exSs ⟨callF wd 100 P (f + 3), wd⟩ 100 B_jobs) (.tuple [.int j, jb] :: xs) [.fz (.tuple [.tuple ks, r, s]), .fz (.int hi), .fz js0, .fz (.int lo), s4, s5, s6] = forB (.n 4) (exSs ⟨callF wd 100 P (f + 3), wd⟩ 100 B_jobs) xs [.fz (.tuple [.tuple ks, r, s]), .fz (.int hi), .fz js0, .fz (.int (j + 1)), .fz (.tuple [.int j, jb]), .fz (.int j), .fz jb] := by
              rw [forB]
              simp [B_jobs, ofO_some, M.pu_bd, exsx_nil, exsx_cons, exx_asg, exx_par, exx_ret, exx_retN, exx_iff, exx_for, exx_whl, exx_raise, exx_gput, evx_c, evx_v, evx_bin, evx_cmp, evx_chain, evx_and, evx_or, evx_not, evx_tup, evx_lst, evx_ix, evx_sl, evx_bf, evx_call, evx_gix, evx_ite, evsx_nil, evsx_cons, evT, evO, evOT, Env.get, bf_one, bf1, isi_str, isi_tup, isStr, isTupD, asD, truD, cmpD, cmpOp, eqE, nilEq, solid, endD, slOf, dOf, toInt, seqOf, seqE, seqS, seqJ, setTg, setTgs, List.mapM_cons, List.mapM_nil, Option.bind, Option.map, t2, b1, ltD, q, ij, binD, opD, addD]
            rw [st, Bool.true_and]
            exact are_loop_any f hks xs (j + 1) _ _ _
theorem are_jobs_any (f : Nat) {ks : List D} {r s : D} {hi : Int} (hks : ∀ x ∈ ks, ∃ xs : List D, x = .tuple xs) (x : D) : callF wd 100 P (f + 4) 13 [.d (.tuple [.tuple ks, r, s]), .d (.int hi), .d x] = .pu (.bool (jobsB ks hi x)) := by
  rw [callF_tx S.h13]
  cases x with
  | tuple xs =>
    have jb : jobsB ks hi (.tuple xs) = jsB ks hi 0 xs := rfl
    rw [jb]
    rcases are_loop_any S f (r := r) (s := s) (js0 := .tuple xs) (hi := hi) hks xs 0 .un .un .un with ⟨l', s4', s5', s6', e, q⟩ | ⟨e, q⟩
    · unfold B_jobs at e
      rw [q]
      simp [L_are_jobs, ofO_some, M.pu_bd, exsx_nil, exsx_cons, exx_asg, exx_par, exx_ret, exx_retN, exx_iff, exx_for, exx_whl, exx_raise, exx_gput, evx_c, evx_v, evx_bin, evx_cmp, evx_chain, evx_and, evx_or, evx_not, evx_tup, evx_lst, evx_ix, evx_sl, evx_bf, evx_call, evx_gix, evx_ite, evsx_nil, evsx_cons, evT, evO, evOT, Env.get, bf_one, bf1, isi_str, isi_tup, isStr, isTupD, asD, truD, cmpD, cmpOp, eqE, nilEq, solid, endD, slOf, dOf, toInt, seqOf, seqE, seqS, seqJ, setTg, setTgs, List.mapM_cons, List.mapM_nil, Option.bind, Option.map, isi_tup, isTupD, evJ, e]
    · unfold B_jobs at e
      rw [q]
      simp [L_are_jobs, ofO_some, M.pu_bd, exsx_nil, exsx_cons, exx_asg, exx_par, exx_ret, exx_retN, exx_iff, exx_for, exx_whl, exx_raise, exx_gput, evx_c, evx_v, evx_bin, evx_cmp, evx_chain, evx_and, evx_or, evx_not, evx_tup, evx_lst, evx_ix, evx_sl, evx_bf, evx_call, evx_gix, evx_ite, evsx_nil, evsx_cons, evT, evO, evOT, Env.get, bf_one, bf1, isi_str, isi_tup, isStr, isTupD, asD, truD, cmpD, cmpOp, eqE, nilEq, solid, endD, slOf, dOf, toInt, seqOf, seqE, seqS, seqJ, setTg, setTgs, List.mapM_cons, List.mapM_nil, Option.bind, Option.map, isi_tup, isTupD, evJ, e]
  | _ => simp [L_are_jobs, ofO_some, M.pu_bd, exsx_nil, exsx_cons, exx_asg, exx_par, exx_ret, exx_retN, exx_iff, exx_for, exx_whl, exx_raise, exx_gput, evx_c, evx_v, evx_bin, evx_cmp, evx_chain, evx_and, evx_or, evx_not, evx_tup, evx_lst, evx_ix, evx_sl, evx_bf, evx_call, evx_gix, evx_ite, evsx_nil, evsx_cons, evT, evO, evOT, Env.get, bf_one, bf1, isi_str, isi_tup, isStr, isTupD, asD, truD, cmpD, cmpOp, eqE, nilEq, solid, endD, slOf, dOf, toInt, seqOf, seqE, seqS, seqJ, setTg, setTgs, List.mapM_cons, List.mapM_nil, Option.bind, Option.map, isi_tup, isTupD, jobsB]
theorem find_any (f : Nat) {ks : List D} {hi : Int} {js : List D} (h : Js ks hi 0 js) (x : D) : callF wd 100 P (f + 2) 14 [.d (.tuple js), .d x] = .pu (findX js x) := by
  cases x with
  | int n => exact find_job S f h n
  | _ =>
    rw [callF_tx S.h14]
    simp [L_find_job, ofO_some, M.pu_bd, exsx_nil, exsx_cons, exx_asg, exx_par, exx_ret, exx_retN, exx_iff, exx_for, exx_whl, exx_raise, exx_gput, evx_c, evx_v, evx_bin, evx_cmp, evx_chain, evx_and, evx_or, evx_not, evx_tup, evx_lst, evx_ix, evx_sl, evx_bf, evx_call, evx_gix, evx_ite, evsx_nil, evsx_cons, evT, evO, evOT, Env.get, bf_one, bf1, isi_str, isi_tup, isStr, isTupD, asD, truD, cmpD, cmpOp, eqE, nilEq, solid, endD, slOf, dOf, toInt, seqOf, seqE, seqS, seqJ, setTg, setTgs, List.mapM_cons, List.mapM_nil, Option.bind, Option.map, is_whole S, wholeB, findX]
theorem ended_any {st no : Str} (h : (st, no) ∈ stNo) : eqD (.str st) (.str "ended") = some (decide (st = "ended")) := ended_eq h
theorem front_any (f : Nat) {ks : List D} {hi : Int} {js : List D} (h : Js ks hi 0 js) (fr : D) : callF wd 100 P (f + 3) 17 [.d (.tuple js), .d fr] = .pu (.bool (frontB js fr)) := by
  rw [callF_tx S.h17]
  have z2 : (2 : Nat) ≤ sizeLine := by rw [sizeLine_eq]; omega
  have w := is_word S.toSu (f + 1) fr ["shell", "nobody"]
  simp only [List.map_cons, List.map_nil] at w
  unfold frontB
  cases c : wordB fr ["shell", "nobody"] with
  | true =>
    rw [c] at w
    simp [L_is_front, ofO_some, M.pu_bd, exsx_nil, exsx_cons, exx_asg, exx_par, exx_ret, exx_retN, exx_iff, exx_for, exx_whl, exx_raise, exx_gput, evx_c, evx_v, evx_bin, evx_cmp, evx_chain, evx_and, evx_or, evx_not, evx_tup, evx_lst, evx_ix, evx_sl, evx_bf, evx_call, evx_gix, evx_ite, evsx_nil, evsx_cons, evT, evO, evOT, Env.get, bf_one, bf1, isi_str, isi_tup, isStr, isTupD, asD, truD, cmpD, cmpOp, eqE, nilEq, solid, endD, slOf, dOf, toInt, seqOf, seqE, seqS, seqJ, setTg, setTgs, List.mapM_cons, List.mapM_nil, Option.bind, Option.map, w, z2]
  | false =>
    rw [c] at w
    have fj := find_any S f h fr
    have jo : findX js fr = .none ∨ JobOk ks (findX js fr) := by
      cases fr with
      | int n => exact h.find n
      | _ => exact .inl rfl
    rcases jo with e | ok
    · rw [e] at fj ⊢
      simp [L_is_front, ofO_some, M.pu_bd, exsx_nil, exsx_cons, exx_asg, exx_par, exx_ret, exx_retN, exx_iff, exx_for, exx_whl, exx_raise, exx_gput, evx_c, evx_v, evx_bin, evx_cmp, evx_chain, evx_and, evx_or, evx_not, evx_tup, evx_lst, evx_ix, evx_sl, evx_bf, evx_call, evx_gix, evx_ite, evsx_nil, evsx_cons, evT, evO, evOT, Env.get, bf_one, bf1, isi_str, isi_tup, isStr, isTupD, asD, truD, cmpD, cmpOp, eqE, nilEq, solid, endD, slOf, dOf, toInt, seqOf, seqE, seqS, seqJ, setTg, setTgs, List.mapM_cons, List.mapM_nil, Option.bind, Option.map, w, z2, fj, isD, frontJ]
    · obtain ⟨kd, pl, own, st, no, he, acts, e, _, _, _, _, _, hs⟩ := ok.ex
      rw [e] at fj ⊢
      have mb : callF wd 100 P (f + 2) 16 [.d (jobT kd pl own st no he)] = .pu (.bool (own && !decide (st = "ended"))) := by
        rw [callF_tx S.h16]
        have ne := ended_eq hs
        cases own <;> simp [L_may_be_front, jobT, ofO_some, M.pu_bd, exsx_nil, exsx_cons, exx_asg, exx_par, exx_ret, exx_retN, exx_iff, exx_for, exx_whl, exx_raise, exx_gput, evx_c, evx_v, evx_bin, evx_cmp, evx_chain, evx_and, evx_or, evx_not, evx_tup, evx_lst, evx_ix, evx_sl, evx_bf, evx_call, evx_gix, evx_ite, evsx_nil, evsx_cons, evT, evO, evOT, Env.get, bf_one, bf1, isi_str, isi_tup, isStr, isTupD, asD, truD, cmpD, cmpOp, eqE, nilEq, solid, endD, slOf, dOf, toInt, seqOf, seqE, seqS, seqJ, setTg, setTgs, List.mapM_cons, List.mapM_nil, Option.bind, Option.map, ixD, itD, at2, at3, ne]
      have ff : frontJ (jobT kd pl own st no he) = (own && !decide (st = "ended")) := rfl
      rw [ff]
      unfold jobT at fj mb
      simp [L_is_front, ofO_some, M.pu_bd, exsx_nil, exsx_cons, exx_asg, exx_par, exx_ret, exx_retN, exx_iff, exx_for, exx_whl, exx_raise, exx_gput, evx_c, evx_v, evx_bin, evx_cmp, evx_chain, evx_and, evx_or, evx_not, evx_tup, evx_lst, evx_ix, evx_sl, evx_bf, evx_call, evx_gix, evx_ite, evsx_nil, evsx_cons, evT, evO, evOT, Env.get, bf_one, bf1, isi_str, isi_tup, isStr, isTupD, asD, truD, cmpD, cmpOp, eqE, nilEq, solid, endD, slOf, dOf, toInt, seqOf, seqE, seqS, seqJ, setTg, setTgs, List.mapM_cons, List.mapM_nil, Option.bind, Option.map, w, z2, fj, mb, isD]
theorem hand_any (f : Nat) {ks : List D} {hi : Int} {js : List D} (h : Js ks hi 0 js) {w : Str} (hw : w ∈ words5) (x : D) : callF wd 100 P (f + 3) 18 [.d (.str w), .d (.tuple js), .d x] = .pu (.bool (handB w js x)) := by
  have e0 : eqD (.str w) (.str "none") = some (decide (w = "none")) := by
    simp only [words5, List.mem_cons, List.not_mem_nil, or_false] at hw
    rcases hw with rfl | rfl | rfl | rfl | rfl <;> kernel_rfl
  rw [callF_tx S.h18]
  have fj := find_any S f h x
  cases x with
  | int n =>
    have fj : callF wd 100 P (f + 2) 14 [.d (.tuple js), .d (.int n)] = .pu (findJ n js) := fj
    have hb : handB w js (.int n) = (decide (n = -1) || (!decide (w = "none") && thereB (findJ n js))) := rfl
    rw [hb]
    by_cases q : n = -1
    · simp [L_is_hand, ofO_some, M.pu_bd, exsx_nil, exsx_cons, exx_asg, exx_par, exx_ret, exx_retN, exx_iff, exx_for, exx_whl, exx_raise, exx_gput, evx_c, evx_v, evx_bin, evx_cmp, evx_chain, evx_and, evx_or, evx_not, evx_tup, evx_lst, evx_ix, evx_sl, evx_bf, evx_call, evx_gix, evx_ite, evsx_nil, evsx_cons, evT, evO, evOT, Env.get, bf_one, bf1, isi_str, isi_tup, isStr, isTupD, asD, truD, cmpD, cmpOp, eqE, nilEq, solid, endD, slOf, dOf, toInt, seqOf, seqE, seqS, seqJ, setTg, setTgs, List.mapM_cons, List.mapM_nil, Option.bind, Option.map, is_whole S, wholeB, evx_neg, eqD, shi, eqi, q]
    · have e9 : eqD (.int n) (.int (-1)) = some false := by simp [eqD, shi, eqi, q]
      have nn : decide (n = -1) = false := decide_eq_false q
      rw [nn, Bool.false_or]
      cases qw : decide (w = "none") with
      | true =>
        rw [qw] at e0
        simp [L_is_hand, ofO_some, M.pu_bd, exsx_nil, exsx_cons, exx_asg, exx_par, exx_ret, exx_retN, exx_iff, exx_for, exx_whl, exx_raise, exx_gput, evx_c, evx_v, evx_bin, evx_cmp, evx_chain, evx_and, evx_or, evx_not, evx_tup, evx_lst, evx_ix, evx_sl, evx_bf, evx_call, evx_gix, evx_ite, evsx_nil, evsx_cons, evT, evO, evOT, Env.get, bf_one, bf1, isi_str, isi_tup, isStr, isTupD, asD, truD, cmpD, cmpOp, eqE, nilEq, solid, endD, slOf, dOf, toInt, seqOf, seqE, seqS, seqJ, setTg, setTgs, List.mapM_cons, List.mapM_nil, Option.bind, Option.map, is_whole S, wholeB, evx_neg, e9, e0]
      | false =>
        rw [qw] at e0
        rcases h.find n with e | ok
        · rw [e] at fj ⊢
          simp [L_is_hand, ofO_some, M.pu_bd, exsx_nil, exsx_cons, exx_asg, exx_par, exx_ret, exx_retN, exx_iff, exx_for, exx_whl, exx_raise, exx_gput, evx_c, evx_v, evx_bin, evx_cmp, evx_chain, evx_and, evx_or, evx_not, evx_tup, evx_lst, evx_ix, evx_sl, evx_bf, evx_call, evx_gix, evx_ite, evsx_nil, evsx_cons, evT, evO, evOT, Env.get, bf_one, bf1, isi_str, isi_tup, isStr, isTupD, asD, truD, cmpD, cmpOp, eqE, nilEq, solid, endD, slOf, dOf, toInt, seqOf, seqE, seqS, seqJ, setTg, setTgs, List.mapM_cons, List.mapM_nil, Option.bind, Option.map, is_whole S, wholeB, evx_neg, e9, e0, fj, isD, thereB]
        · obtain ⟨kd, pl, own, st, no, he, acts, e, _⟩ := ok.ex
          rw [e] at fj ⊢
          unfold jobT at fj ⊢
          simp [L_is_hand, ofO_some, M.pu_bd, exsx_nil, exsx_cons, exx_asg, exx_par, exx_ret, exx_retN, exx_iff, exx_for, exx_whl, exx_raise, exx_gput, evx_c, evx_v, evx_bin, evx_cmp, evx_chain, evx_and, evx_or, evx_not, evx_tup, evx_lst, evx_ix, evx_sl, evx_bf, evx_call, evx_gix, evx_ite, evsx_nil, evsx_cons, evT, evO, evOT, Env.get, bf_one, bf1, isi_str, isi_tup, isStr, isTupD, asD, truD, cmpD, cmpOp, eqE, nilEq, solid, endD, slOf, dOf, toInt, seqOf, seqE, seqS, seqJ, setTg, setTgs, List.mapM_cons, List.mapM_nil, Option.bind, Option.map, is_whole S, wholeB, evx_neg, e9, e0, fj, isD, thereB]
  | _ =>
    have fj : callF wd 100 P (f + 2) 14 [.d (.tuple js), _] = .pu .none := fj
    cases qw : decide (w = "none") <;> rw [qw] at e0 <;> simp [L_is_hand, ofO_some, M.pu_bd, exsx_nil, exsx_cons, exx_asg, exx_par, exx_ret, exx_retN, exx_iff, exx_for, exx_whl, exx_raise, exx_gput, evx_c, evx_v, evx_bin, evx_cmp, evx_chain, evx_and, evx_or, evx_not, evx_tup, evx_lst, evx_ix, evx_sl, evx_bf, evx_call, evx_gix, evx_ite, evsx_nil, evsx_cons, evT, evO, evOT, Env.get, bf_one, bf1, isi_str, isi_tup, isStr, isTupD, asD, truD, cmpD, cmpOp, eqE, nilEq, solid, endD, slOf, dOf, toInt, seqOf, seqE, seqS, seqJ, setTg, setTgs, List.mapM_cons, List.mapM_nil, Option.bind, Option.map, is_whole S, wholeB, e0, fj, isD, handB]
end
end PD
end
section
set_option Elab.async false
set_option linter.all false
set_option maxRecDepth 1000000
set_option maxHeartbeats 8000000
namespace PD
open PySem PySem.Spec L2

/-- what a place is less than -/
def boundN (A B C E : List D) (w : Str) : Int := if w = "none" then 1 else ((scOf A B C E w).length : Nat)
/-- the first item that is wrong, of the seven -/
def stF7 (ks A B C E : List D) (w pl fr md hd mk js : D) : Option D :=
  match w with
  | .str ws => if decide (ws ∈ words5) = false then some (.tuple [.str "script"]) else if belowB pl (boundN A B C E ws) = false then some (.tuple [.str "place"]) else
    if wordB md ["plain", "raw"] = false then some (.tuple [.str "mode"]) else (match mk with
      | .int m => if m < 0 then some (.tuple [.str "made"]) else (match js with
        | .tuple xs => if jsB ks m 0 xs = false then some (.tuple [.str "jobs"]) else if frontB xs fr = false then some (.tuple [.str "front"]) else
          if handB ws xs hd = false then some (.tuple [.str "hand"]) else none
        | _ => some (.tuple [.str "jobs"]))
      | _ => some (.tuple [.str "made"]))
  | _ => some (.tuple [.str "script"])
/-- where anything is no standing -/
def stF (ks A B C E : List D) : D → Option D
  | .tuple [w, pl, fr, md, hd, mk, js] => stF7 ks A B C E w pl fr md hd mk js
  | _ => some (.tuple [])
theorem seven_of {x : D} (h : tupB x 7 7 = true) : ∃ a b c d e g i, x = .tuple [a, b, c, d, e, g, i] := by
  unfold tupB at h
  split at h
  · rename_i xs
    simp only [decide_eq_true_eq, Bool.and_eq_true] at h
    have h : xs.length = 7 := by omega
    match xs, h with
    | [a, b, c, d, e, g, i], _ => exact ⟨a, b, c, d, e, g, i, rfl⟩
  · cases h
theorem not_seven {ks A B C E : List D} {x : D} (h : tupB x 7 7 = false) : stF ks A B C E x = some (.tuple []) := by
  unfold stF
  split
  · simp [tupB] at h
  · rfl
section
variable {wd : Str → Option (Option Str)} {P : List Df} {nd : Nat} (S : Stg wd P nd)
include S
theorem place_any (f : Nat) {ks : List D} {r : D} {A B C E : List D} {w : Str} (hw : w ∈ words5) : callF wd 100 P (f + 1) 15 [.d (SU ks r A B C E), .d (.str w)] = .pu (.int (boundN A B C E w)) := by
  rw [callF_tx S.h15]
  have x0 : idxD (.tuple [.str "fore", .str "back", .str "front", .str "behind"]) (.str "fore") = some (.int 0) := by kernel_rfl
  have x1 : idxD (.tuple [.str "fore", .str "back", .str "front", .str "behind"]) (.str "back") = some (.int 1) := by kernel_rfl
  have x2 : idxD (.tuple [.str "fore", .str "back", .str "front", .str "behind"]) (.str "front") = some (.int 2) := by kernel_rfl
  have x3 : idxD (.tuple [.str "fore", .str "back", .str "front", .str "behind"]) (.str "behind") = some (.int 3) := by kernel_rfl
  have en : eqD (.str "none") (.str "none") = some true := by kernel_rfl
  have e0 : eqD (.str "fore") (.str "none") = some false := by kernel_rfl
  have e1 : eqD (.str "back") (.str "none") = some false := by kernel_rfl
  have e2 : eqD (.str "front") (.str "none") = some false := by kernel_rfl
  have e3 : eqD (.str "behind") (.str "none") = some false := by kernel_rfl
  have n0 : boundN A B C E "none" = 1 := rfl
  have n1 : boundN A B C E "fore" = A.length := rfl
  have n2 : boundN A B C E "back" = B.length := rfl
  have n3 : boundN A B C E "front" = C.length := rfl
  have n4 : boundN A B C E "behind" = E.length := rfl
  simp only [words5, List.mem_cons, List.not_mem_nil, or_false] at hw
  rcases hw with rfl | rfl | rfl | rfl | rfl
  · simp [L_place_bound, ofO_some, M.pu_bd, exsx_nil, exsx_cons, exx_asg, exx_par, exx_ret, exx_retN, exx_iff, exx_for, exx_whl, exx_raise, exx_gput, evx_c, evx_v, evx_bin, evx_cmp, evx_chain, evx_and, evx_or, evx_not, evx_tup, evx_lst, evx_ix, evx_sl, evx_bf, evx_call, evx_gix, evx_ite, evsx_nil, evsx_cons, evT, evO, evOT, Env.get, bf_one, bf1, isi_str, isi_tup, isStr, isTupD, asD, truD, cmpD, cmpOp, eqE, nilEq, solid, endD, slOf, dOf, toInt, seqOf, seqE, seqS, seqJ, setTg, setTgs, List.mapM_cons, List.mapM_nil, Option.bind, Option.map, en, n0]
  · simp [L_place_bound, SU, ofO_some, M.pu_bd, exsx_nil, exsx_cons, exx_asg, exx_par, exx_ret, exx_retN, exx_iff, exx_for, exx_whl, exx_raise, exx_gput, evx_c, evx_v, evx_bin, evx_cmp, evx_chain, evx_and, evx_or, evx_not, evx_tup, evx_lst, evx_ix, evx_sl, evx_bf, evx_call, evx_gix, evx_ite, evsx_nil, evsx_cons, evT, evO, evOT, Env.get, bf_one, bf1, isi_str, isi_tup, isStr, isTupD, asD, truD, cmpD, cmpOp, eqE, nilEq, solid, endD, slOf, dOf, toInt, seqOf, seqE, seqS, seqJ, setTg, setTgs, List.mapM_cons, List.mapM_nil, Option.bind, Option.map, e0, evx_idx, x0, ixD, itD, at0, at2, lenD, n1]
  · simp [L_place_bound, SU, ofO_some, M.pu_bd, exsx_nil, exsx_cons, exx_asg, exx_par, exx_ret, exx_retN, exx_iff, exx_for, exx_whl, exx_raise, exx_gput, evx_c, evx_v, evx_bin, evx_cmp, evx_chain, evx_and, evx_or, evx_not, evx_tup, evx_lst, evx_ix, evx_sl, evx_bf, evx_call, evx_gix, evx_ite, evsx_nil, evsx_cons, evT, evO, evOT, Env.get, bf_one, bf1, isi_str, isi_tup, isStr, isTupD, asD, truD, cmpD, cmpOp, eqE, nilEq, solid, endD, slOf, dOf, toInt, seqOf, seqE, seqS, seqJ, setTg, setTgs, List.mapM_cons, List.mapM_nil, Option.bind, Option.map, e1, evx_idx, x1, ixD, itD, at1, at2, lenD, n2]
  · simp [L_place_bound, SU, ofO_some, M.pu_bd, exsx_nil, exsx_cons, exx_asg, exx_par, exx_ret, exx_retN, exx_iff, exx_for, exx_whl, exx_raise, exx_gput, evx_c, evx_v, evx_bin, evx_cmp, evx_chain, evx_and, evx_or, evx_not, evx_tup, evx_lst, evx_ix, evx_sl, evx_bf, evx_call, evx_gix, evx_ite, evsx_nil, evsx_cons, evT, evO, evOT, Env.get, bf_one, bf1, isi_str, isi_tup, isStr, isTupD, asD, truD, cmpD, cmpOp, eqE, nilEq, solid, endD, slOf, dOf, toInt, seqOf, seqE, seqS, seqJ, setTg, setTgs, List.mapM_cons, List.mapM_nil, Option.bind, Option.map, e2, evx_idx, x2, ixD, itD, at2, lenD, n3]
  · simp [L_place_bound, SU, ofO_some, M.pu_bd, exsx_nil, exsx_cons, exx_asg, exx_par, exx_ret, exx_retN, exx_iff, exx_for, exx_whl, exx_raise, exx_gput, evx_c, evx_v, evx_bin, evx_cmp, evx_chain, evx_and, evx_or, evx_not, evx_tup, evx_lst, evx_ix, evx_sl, evx_bf, evx_call, evx_gix, evx_ite, evsx_nil, evsx_cons, evT, evO, evOT, Env.get, bf_one, bf1, isi_str, isi_tup, isStr, isTupD, asD, truD, cmpD, cmpOp, eqE, nilEq, solid, endD, slOf, dOf, toInt, seqOf, seqE, seqS, seqJ, setTg, setTgs, List.mapM_cons, List.mapM_nil, Option.bind, Option.map, e3, evx_idx, x3, ixD, itD, at2, at3, lenD, n4]
theorem fault_any (f : Nat) {ks : List D} {r : D} {A B C E : List D} (hks : ∀ x ∈ ks, ∃ xs : List D, x = .tuple xs) (x : D) : callF wd 100 P (f + 5) 19 [.d (SU ks r A B C E), .d x] = .pu (optD (stF ks A B C E x)) := by
  have z0 := zero_s
  have z1 := one_s
  have z5 : (5 : Nat) ≤ sizeLine := by rw [sizeLine_eq]; omega
  rw [show f + 5 = (f + 4) + 1 from rfl, callF_tx S.h19]
  cases t : tupB x 7 7 with
  | false =>
    rw [not_seven t]
    simp [L_standing_fault, ofO_some, M.pu_bd, exsx_nil, exsx_cons, exx_asg, exx_par, exx_ret, exx_retN, exx_iff, exx_for, exx_whl, exx_raise, exx_gput, evx_c, evx_v, evx_bin, evx_cmp, evx_chain, evx_and, evx_or, evx_not, evx_tup, evx_lst, evx_ix, evx_sl, evx_bf, evx_call, evx_gix, evx_ite, evsx_nil, evsx_cons, evT, evO, evOT, Env.get, bf_one, bf1, isi_str, isi_tup, isStr, isTupD, asD, truD, cmpD, cmpOp, eqE, nilEq, solid, endD, slOf, dOf, toInt, seqOf, seqE, seqS, seqJ, setTg, setTgs, List.mapM_cons, List.mapM_nil, Option.bind, Option.map, is_tuple S.toSu, t, z0, optD]
  | true =>
    obtain ⟨w, pl, fr, md, hd, mk, js, rfl⟩ := seven_of t
    have t' := is_tuple S.toSu (f + 3) (.tuple [w, pl, fr, md, hd, mk, js]) 7 7
    rw [t] at t'
    have ee : stF ks A B C E (.tuple [w, pl, fr, md, hd, mk, js]) = stF7 ks A B C E w pl fr md hd mk js := rfl
    rw [ee]
    have w1 := is_word S.toSu (f + 3) w words5
    simp only [words5, List.map_cons, List.map_nil] at w1
    cases c1 : wordB w words5 with
    | false =>
      simp only [words5] at c1
      rw [c1] at w1
      have e1 : stF7 ks A B C E w pl fr md hd mk js = some (.tuple [.str "script"]) := by
        unfold stF7
        cases w with
        | str ws =>
          have : decide (ws ∈ words5) = false := c1
          simp [this]
        | _ => rfl
      rw [e1]
      simp [L_standing_fault, ofO_some, M.pu_bd, exsx_nil, exsx_cons, exx_asg, exx_par, exx_ret, exx_retN, exx_iff, exx_for, exx_whl, exx_raise, exx_gput, evx_c, evx_v, evx_bin, evx_cmp, evx_chain, evx_and, evx_or, evx_not, evx_tup, evx_lst, evx_ix, evx_sl, evx_bf, evx_call, evx_gix, evx_ite, evsx_nil, evsx_cons, evT, evO, evOT, Env.get, bf_one, bf1, isi_str, isi_tup, isStr, isTupD, asD, truD, cmpD, cmpOp, eqE, nilEq, solid, endD, slOf, dOf, toInt, seqOf, seqE, seqS, seqJ, setTg, setTgs, List.mapM_cons, List.mapM_nil, Option.bind, Option.map, t', w1, evx_tups, z1, z5, optD]
    | true =>
      obtain ⟨ws, rfl, hws⟩ := word_of c1
      simp only [words5] at c1
      rw [c1] at w1
      have dw : decide (ws ∈ words5) = true := decide_eq_true hws
      have pb := place_any S (f + 3) (ks := ks) (r := r) (A := A) (B := B) (C := C) (E := E) hws
      have b1 := is_below S (f + 2) pl (boundN A B C E ws)
      cases c2 : belowB pl (boundN A B C E ws) with
      | false =>
        rw [c2] at b1
        have e1 : stF7 ks A B C E (.str ws) pl fr md hd mk js = some (.tuple [.str "place"]) := by unfold stF7; simp [dw, c2]
        rw [e1]
        generalize SU ks r A B C E = su at pb
        simp [L_standing_fault, ofO_some, M.pu_bd, exsx_nil, exsx_cons, exx_asg, exx_par, exx_ret, exx_retN, exx_iff, exx_for, exx_whl, exx_raise, exx_gput, evx_c, evx_v, evx_bin, evx_cmp, evx_chain, evx_and, evx_or, evx_not, evx_tup, evx_lst, evx_ix, evx_sl, evx_bf, evx_call, evx_gix, evx_ite, evsx_nil, evsx_cons, evT, evO, evOT, Env.get, bf_one, bf1, isi_str, isi_tup, isStr, isTupD, asD, truD, cmpD, cmpOp, eqE, nilEq, solid, endD, slOf, dOf, toInt, seqOf, seqE, seqS, seqJ, setTg, setTgs, List.mapM_cons, List.mapM_nil, Option.bind, Option.map, t', w1, evx_tups, z1, z5, pb, b1, optD]
      | true =>
        rw [c2] at b1
        have w2 := is_word S.toSu (f + 3) md ["plain", "raw"]
        simp only [List.map_cons, List.map_nil] at w2
        cases c3 : wordB md ["plain", "raw"] with
        | false =>
          rw [c3] at w2
          have e1 : stF7 ks A B C E (.str ws) pl fr md hd mk js = some (.tuple [.str "mode"]) := by unfold stF7; simp [dw, c2, c3]
          rw [e1]
          generalize SU ks r A B C E = su at pb
          simp [L_standing_fault, ofO_some, M.pu_bd, exsx_nil, exsx_cons, exx_asg, exx_par, exx_ret, exx_retN, exx_iff, exx_for, exx_whl, exx_raise, exx_gput, evx_c, evx_v, evx_bin, evx_cmp, evx_chain, evx_and, evx_or, evx_not, evx_tup, evx_lst, evx_ix, evx_sl, evx_bf, evx_call, evx_gix, evx_ite, evsx_nil, evsx_cons, evT, evO, evOT, Env.get, bf_one, bf1, isi_str, isi_tup, isStr, isTupD, asD, truD, cmpD, cmpOp, eqE, nilEq, solid, endD, slOf, dOf, toInt, seqOf, seqE, seqS, seqJ, setTg, setTgs, List.mapM_cons, List.mapM_nil, Option.bind, Option.map, t', w1, evx_tups, z1, z5, pb, b1, w2, optD]
        | true =>
          rw [c3] at w2
          have wm := is_whole S (f + 3) mk
          cases mk with
          | int m =>
            have wm : callF wd 100 P (f + 4) 9 [.d (.int m)] = .pu (.bool true) := wm
            by_cases c4 : m < 0
            · have e1 : stF7 ks A B C E (.str ws) pl fr md hd (.int m) js = some (.tuple [.str "made"]) := by unfold stF7; simp [dw, c2, c3, c4]
              rw [e1]
              generalize SU ks r A B C E = su at pb
              simp [L_standing_fault, ofO_some, M.pu_bd, exsx_nil, exsx_cons, exx_asg, exx_par, exx_ret, exx_retN, exx_iff, exx_for, exx_whl, exx_raise, exx_gput, evx_c, evx_v, evx_bin, evx_cmp, evx_chain, evx_and, evx_or, evx_not, evx_tup, evx_lst, evx_ix, evx_sl, evx_bf, evx_call, evx_gix, evx_ite, evsx_nil, evsx_cons, evT, evO, evOT, Env.get, bf_one, bf1, isi_str, isi_tup, isStr, isTupD, asD, truD, cmpD, cmpOp, eqE, nilEq, solid, endD, slOf, dOf, toInt, seqOf, seqE, seqS, seqJ, setTg, setTgs, List.mapM_cons, List.mapM_nil, Option.bind, Option.map, t', w1, evx_tups, z1, z5, pb, b1, w2, wm, ltD, c4, optD]
            · have aj := are_jobs_any S f (r := r) (s := .tuple [.tuple A, .tuple B, .tuple C, .tuple E]) (hi := m) hks js
              have aj : callF wd 100 P (f + 4) 13 [.d (SU ks r A B C E), .d (.int m), .d js] = .pu (.bool (jobsB ks m js)) := aj
              cases c5 : jobsB ks m js with
              | false =>
                rw [c5] at aj
                have e1 : stF7 ks A B C E (.str ws) pl fr md hd (.int m) js = some (.tuple [.str "jobs"]) := by
                  unfold stF7
                  cases js with
                  | tuple xs =>
                    have c5 : jsB ks m 0 xs = false := c5
                    simp [dw, c2, c3, c4, c5]
                  | _ => simp [dw, c2, c3, c4]
                rw [e1]
                generalize SU ks r A B C E = su at pb aj
                simp [L_standing_fault, ofO_some, M.pu_bd, exsx_nil, exsx_cons, exx_asg, exx_par, exx_ret, exx_retN, exx_iff, exx_for, exx_whl, exx_raise, exx_gput, evx_c, evx_v, evx_bin, evx_cmp, evx_chain, evx_and, evx_or, evx_not, evx_tup, evx_lst, evx_ix, evx_sl, evx_bf, evx_call, evx_gix, evx_ite, evsx_nil, evsx_cons, evT, evO, evOT, Env.get, bf_one, bf1, isi_str, isi_tup, isStr, isTupD, asD, truD, cmpD, cmpOp, eqE, nilEq, solid, endD, slOf, dOf, toInt, seqOf, seqE, seqS, seqJ, setTg, setTgs, List.mapM_cons, List.mapM_nil, Option.bind, Option.map, t', w1, evx_tups, z1, z5, pb, b1, w2, wm, ltD, c4, aj, optD]
              | true =>
                rw [c5] at aj
                obtain ⟨xs, rfl, c6⟩ : ∃ xs, js = .tuple xs ∧ jsB ks m 0 xs = true := by
                  cases js with
                  | tuple xs => exact ⟨xs, rfl, c5⟩
                  | _ => cases c5
                have hj := jsB_ok hks xs c6
                have fa := front_any S (f + 1) hj fr
                have ha := hand_any S (f + 1) hj hws hd
                have e1 : stF7 ks A B C E (.str ws) pl fr md hd (.int m) (.tuple xs) = if frontB xs fr = false then some (.tuple [.str "front"]) else if handB ws xs hd = false then some (.tuple [.str "hand"]) else none := by
                  unfold stF7
                  simp [dw, c2, c3, c4, c6]
                rw [e1]
                generalize SU ks r A B C E = su at pb aj
                cases c7 : frontB xs fr with
                | false =>
                  rw [c7] at fa
                  simp [L_standing_fault, ofO_some, M.pu_bd, exsx_nil, exsx_cons, exx_asg, exx_par, exx_ret, exx_retN, exx_iff, exx_for, exx_whl, exx_raise, exx_gput, evx_c, evx_v, evx_bin, evx_cmp, evx_chain, evx_and, evx_or, evx_not, evx_tup, evx_lst, evx_ix, evx_sl, evx_bf, evx_call, evx_gix, evx_ite, evsx_nil, evsx_cons, evT, evO, evOT, Env.get, bf_one, bf1, isi_str, isi_tup, isStr, isTupD, asD, truD, cmpD, cmpOp, eqE, nilEq, solid, endD, slOf, dOf, toInt, seqOf, seqE, seqS, seqJ, setTg, setTgs, List.mapM_cons, List.mapM_nil, Option.bind, Option.map, t', w1, evx_tups, z1, z5, pb, b1, w2, wm, ltD, c4, aj, fa, optD]
                | true =>
                  rw [c7] at fa
                  cases c8 : handB ws xs hd <;> (rw [c8] at ha; simp [L_standing_fault, ofO_some, M.pu_bd, exsx_nil, exsx_cons, exx_asg, exx_par, exx_ret, exx_retN, exx_iff, exx_for, exx_whl, exx_raise, exx_gput, evx_c, evx_v, evx_bin, evx_cmp, evx_chain, evx_and, evx_or, evx_not, evx_tup, evx_lst, evx_ix, evx_sl, evx_bf, evx_call, evx_gix, evx_ite, evsx_nil, evsx_cons, evT, evO, evOT, Env.get, bf_one, bf1, isi_str, isi_tup, isStr, isTupD, asD, truD, cmpD, cmpOp, eqE, nilEq, solid, endD, slOf, dOf, toInt, seqOf, seqE, seqS, seqJ, setTg, setTgs, List.mapM_cons, List.mapM_nil, Option.bind, Option.map, t', w1, evx_tups, z1, z5, pb, b1, w2, wm, ltD, c4, aj, fa, ha, optD])
          | _ =>
            have e1 : ∀ mk, wholeB mk = false → stF7 ks A B C E (.str ws) pl fr md hd mk js = some (.tuple [.str "made"]) := fun mk h => by
              unfold stF7
              cases mk <;> simp_all [wholeB]
            rw [e1 _ rfl]
            simp only [wholeB] at wm
            generalize SU ks r A B C E = su at pb
            simp [L_standing_fault, ofO_some, M.pu_bd, exsx_nil, exsx_cons, exx_asg, exx_par, exx_ret, exx_retN, exx_iff, exx_for, exx_whl, exx_raise, exx_gput, evx_c, evx_v, evx_bin, evx_cmp, evx_chain, evx_and, evx_or, evx_not, evx_tup, evx_lst, evx_ix, evx_sl, evx_bf, evx_call, evx_gix, evx_ite, evsx_nil, evsx_cons, evT, evO, evOT, Env.get, bf_one, bf1, isi_str, isi_tup, isStr, isTupD, asD, truD, cmpD, cmpOp, eqE, nilEq, solid, endD, slOf, dOf, toInt, seqOf, seqE, seqS, seqJ, setTg, setTgs, List.mapM_cons, List.mapM_nil, Option.bind, Option.map, t', w1, evx_tups, z1, z5, pb, b1, w2, wm, optD]
end
end PD
end
section
set_option Elab.async false
set_option linter.all false
set_option maxRecDepth 1000000
set_option maxHeartbeats 8000000
namespace Kk03
open PySem PySem.Spec L2 PD

theorem su : Su wd progD := ⟨by kernel_rfl, by kernel_rfl, by kernel_rfl, by kernel_rfl, by kernel_rfl, by kernel_rfl, by kernel_rfl, by kernel_rfl⟩
theorem sg : Stg wd progD 21 := ⟨su, by kernel_rfl, by kernel_rfl, by kernel_rfl, by kernel_rfl, by kernel_rfl, by kernel_rfl, by kernel_rfl, by kernel_rfl, by kernel_rfl, by kernel_rfl, by kernel_rfl, by kernel_rfl, by kernel_rfl⟩
theorem dw : Dw wd progD 22 23 24 25 26 := ⟨by kernel_rfl, by kernel_rfl, by kernel_rfl, by kernel_rfl, by kernel_rfl⟩
def l_is_standing : List Sm := [(.expr (.call 8 [(.v 0)])), (.ret (.cmp .Is (.call 19 [(.v 0), (.v 1)]) (.c .none)))]
theorem e_is_standing : b_is_standing = l_is_standing := by kernel_rfl
def l_need_standing : List Sm := [(.expr (.call 8 [(.v 0)])), (.asg (.n 2) (.call 19 [(.v 0), (.v 1)])), (.iff (.cmp .IsNot (.v 2) (.c .none)) [(.raise "BadStanding" (.v 2))] []), (.ret (.v 1))]
theorem e_need_standing : b_need_standing = l_need_standing := by kernel_rfl
def l__law_is_whole : List Sm := [(.ret (.and (.bf (.isinst ["int"]) [(.v 0)]) (.and (.not (.bf (.isinst ["bool"]) [(.v 0)])) (.chain .LtE .LtE (.v 1) (.v 0) (.v 2)))))]
theorem e__law_is_whole : b__law_is_whole = l__law_is_whole := by kernel_rfl
def l__law_is_word : List Sm := [(.ret (.and (.bf (.isinst ["str"]) [(.v 0)]) (.cmp .In (.v 0) (.v 1))))]
theorem e__law_is_word : b__law_is_word = l__law_is_word := by kernel_rfl
def l__law_is_job : List Sm := [(.iff (.or (.not (.bf (.isinst ["tuple"]) [(.v 1)])) (.or (.cmp .NotEq (.bf .len [(.v 1)]) (.c (.int (6)))) (.not (.call 29 [(.ix (.v 1) (.c (.int (0)))), (.c (.int (0))), (.bin .Sub (.bf .len [(.ix (.v 0) (.c (.int (0))))]) (.c (.int (1))))])))) [(.ret (.c (.bool false)))] []), (.iff (.not (.call 29 [(.ix (.v 1) (.c (.int (1)))), (.c (.int (0))), (.bf .len [(.ix (.ix (.v 0) (.c (.int (0)))) (.ix (.v 1) (.c (.int (0)))))])])) [(.ret (.c (.bool false)))] []), (.iff (.or (.not (.bf (.isinst ["bool"]) [(.ix (.v 1) (.c (.int (2))))])) (.not (.bf (.isinst ["bool"]) [(.ix (.v 1) (.c (.int (5))))]))) [(.ret (.c (.bool false)))] []), (.iff (.not (.call 30 [(.ix (.v 1) (.c (.int (3)))), (.tup [(.c (.str "runs")), (.c (.str "stopped")), (.c (.str "ended"))])])) [(.ret (.c (.bool false)))] []), (.ret (.call 30 [(.ix (.v 1) (.c (.int (4)))), (.ite (.cmp .Eq (.ix (.v 1) (.c (.int (3)))) (.c (.str "ended"))) (.tup [(.c (.str "end"))]) (.tup [(.c (.str "none")), (.c (.str "stop"))]))]))]
theorem e__law_is_job : b__law_is_job = l__law_is_job := by kernel_rfl
def l__law_are_jobs : List Sm := [(.iff (.not (.bf (.isinst ["tuple"]) [(.v 2)])) [(.ret (.c (.bool false)))] []), (.for_ (.n 3) (.e (.v 2)) [(.iff (.or (.not (.bf (.isinst ["tuple"]) [(.v 3)])) (.or (.cmp .NotEq (.bf .len [(.v 3)]) (.c (.int (2)))) (.not (.call 29 [(.ix (.v 3) (.c (.int (0)))), (.c (.int (0))), (.bin .Sub (.v 1) (.c (.int (1))))])))) [(.ret (.c (.bool false)))] []), (.iff (.not (.call 31 [(.v 0), (.ix (.v 3) (.c (.int (1))))])) [(.ret (.c (.bool false)))] [])]), (.asg (.n 4) (.lc (.n 3) (.e (.v 2)) none (.ix (.v 3) (.c (.int (0)))) [3])), (.ret (.cmp .Eq (.v 4) (.sset (.v 4))))]
theorem e__law_are_jobs : b__law_are_jobs = l__law_are_jobs := by kernel_rfl
def l__law_fault : List Sm := [(.iff (.or (.not (.bf (.isinst ["tuple"]) [(.v 1)])) (.cmp .NotEq (.bf .len [(.v 1)]) (.c (.int (7))))) [(.ret (.lst [(.tup [])]))] []), (.asg (.t [4, 5, 6, 7, 8, 9, 10]) (.v 1)), (.iff (.not (.call 30 [(.v 4), (.tup [(.c (.str "none")), (.c (.str "fore")), (.c (.str "back")), (.c (.str "front")), (.c (.str "behind"))])])) [(.ret (.lst [(.tup [(.c (.str "script"))])]))] []), (.iff (.not (.call 29 [(.v 5), (.c (.int (0))), (.ite (.cmp .Eq (.v 4) (.c (.str "none"))) (.c (.int (0))) (.bin .Sub (.bf .len [(.call 27 [(.v 0), (.v 4)])]) (.c (.int (1)))))])) [(.ret (.lst [(.tup [(.c (.str "place"))])]))] []), (.iff (.not (.call 30 [(.v 7), (.tup [(.c (.str "plain")), (.c (.str "raw"))])])) [(.ret (.lst [(.tup [(.c (.str "mode"))])]))] []), (.iff (.not (.call 29 [(.v 9), (.c (.int (0))), (.bin .Pow (.c (.int (10))) (.c (.int (40))))])) [(.ret (.lst [(.tup [(.c (.str "made"))])]))] []), (.iff (.not (.call 32 [(.v 0), (.v 9), (.v 10)])) [(.ret (.lst [(.tup [(.c (.str "jobs"))])]))] []), (.asg (.n 2) (.lc (.t [11, 12]) (.e (.v 10)) (some (.and (.ix (.v 12) (.c (.int (2)))) (.cmp .NotEq (.ix (.v 12) (.c (.int (3)))) (.c (.str "ended"))))) (.v 11) [11, 12])), (.iff (.and (.not (.call 30 [(.v 6), (.tup [(.c (.str "shell")), (.c (.str "nobody"))])])) (.not (.and (.call 29 [(.v 6), (.c (.int (0))), (.v 9)]) (.cmp .In (.v 6) (.v 2))))) [(.ret (.lst [(.tup [(.c (.str "front"))])]))] []), (.asg (.n 3) (.bin .Add (.lst [(.neg (.c (.int (1))))]) (.lc (.t [11, 12]) (.e (.v 10)) (some (.cmp .NotEq (.v 4) (.c (.str "none")))) (.v 11) [11, 12]))), (.ret (.ite (.and (.call 29 [(.v 8), (.neg (.c (.int (1)))), (.v 9)]) (.cmp .In (.v 8) (.v 3))) (.lst []) (.lst [(.tup [(.c (.str "hand"))])])))]
theorem e__law_fault : b__law_fault = l__law_fault := by kernel_rfl
def l__law_right : List Sm := [(.asg (.n 2) (.call 33 [(.v 0), (.v 1)])), (.iff (.cmp .NotEq (.bf .repr [(.call 20 [(.v 0), (.v 1)])]) (.bf .repr [(.cmp .Eq (.v 2) (.lst []))])) [(.ret (.c (.bool false)))] []), (.iff (.cmp .Eq (.v 2) (.lst [])) [(.ret (.cmp .Eq (.bf .repr [(.call 21 [(.v 0), (.v 1)])]) (.bf .repr [(.v 1)])))] []), (.ret (.cmp .Eq (.said (.call 21 [(.v 0), (.v 1)])) (.tup [(.c (.str "standing")), (.ix (.v 2) (.c (.int (0))))])))]
theorem e__law_right : b__law_right = l__law_right := by kernel_rfl
def l__law_odd : List Sm := [(.asg (.n 1) (.lst [(.c .none), (.c (.bool true)), (.c (.bool false)), (.c (.int (0))), (.c (.int (1))), (.c (.int (2))), (.c (.int (7))), (.neg (.c (.int (1)))), (.neg (.c (.int (2)))), (.c (.str "")), (.c (.str "shell")), (.c (.str "nobody")), (.c (.str "Shell")), (.c (.str "job")), (.c (.str "plain")), (.c (.str "raw")), (.c (.str "none"))])), (.asg (.n 1) (.bin .Add (.v 1) (.lst [(.c (.str "fore")), (.c (.str "runs")), (.c (.str "stopped")), (.c (.str "ended")), (.c (.str "end")), (.c (.str "stop")), (.tup []), (.lst []), (.dict [] []), (.tup [(.c (.int (0)))]), (.bin .Pow (.c (.int (10))) (.c (.int (30)))), (.tup [(.tup [(.c (.int (0))), (.c (.int (0)))])]), (.c (.str "front"))]))), (.ret (.call 24 [(.v 0), (.v 1)]))]
theorem e__law_odd : b__law_odd = l__law_odd := by kernel_rfl
def l__law_bent : List Sm := [(.iff (.or (.not (.bf (.isinst ["tuple"]) [(.v 1)])) (.or (.cmp .Eq (.v 1) (.tup [])) (.cmp .Eq (.call 23 [(.v 0), (.c (.int (6)))]) (.c (.int (0)))))) [(.ret (.call 35 [(.v 0)]))] []), (.par [2, 3] [(.call 23 [(.v 0), (.bf .len [(.v 1)])]), (.call 23 [(.v 0), (.c (.int (8)))])]), (.iff (.cmp .Eq (.v 3) (.c (.int (0)))) [(.ret (.bin .Add (.sl (.v 1) none (some (.v 2))) (.sl (.v 1) (some (.bin .Add (.v 2) (.c (.int (1))))) none)))] []), (.iff (.cmp .Eq (.v 3) (.c (.int (1)))) [(.ret (.bin .Add (.bin .Add (.sl (.v 1) none (some (.v 2))) (.tup [(.ix (.v 1) (.v 2))])) (.sl (.v 1) (some (.v 2)) none)))] []), (.ret (.bin .Add (.bin .Add (.sl (.v 1) none (some (.v 2))) (.tup [(.call 36 [(.v 0), (.ix (.v 1) (.v 2))])])) (.sl (.v 1) (some (.bin .Add (.v 2) (.c (.int (1))))) none)))]
theorem e__law_bent : b__law_bent = l__law_bent := by kernel_rfl
theorem q20 : progD[20]? = some (.tx 2 2 l_is_standing) := by kernel_rfl
theorem q21 : progD[21]? = some (.tx 2 3 l_need_standing) := by kernel_rfl
theorem q23 : progD[23]? = some (.tx 2 4 L_draw) := by kernel_rfl
theorem q24 : progD[24]? = some (.tx 2 2 (L_of 23)) := by kernel_rfl
theorem q27 : progD[27]? = some (.tx 2 2 L_script) := by kernel_rfl
theorem q28 : progD[28]? = some (.tx 2 16 (L_state 23 24 27)) := by kernel_rfl
theorem q29 : progD[29]? = some (.tx 3 3 l__law_is_whole) := by kernel_rfl
theorem q30 : progD[30]? = some (.tx 2 2 l__law_is_word) := by kernel_rfl
theorem q31 : progD[31]? = some (.tx 2 2 l__law_is_job) := by kernel_rfl
theorem q32 : progD[32]? = some (.tx 3 5 l__law_are_jobs) := by kernel_rfl
theorem q33 : progD[33]? = some (.tx 2 13 l__law_fault) := by kernel_rfl
theorem q34 : progD[34]? = some (.tx 2 3 l__law_right) := by kernel_rfl
theorem q35 : progD[35]? = some (.tx 1 2 l__law_odd) := by kernel_rfl
theorem q36 : progD[36]? = some (.tx 2 4 l__law_bent) := by kernel_rfl
def O1 : Sm := (.asg (.n 1) (.lst [(.c .none), (.c (.bool true)), (.c (.bool false)), (.c (.int (0))), (.c (.int (1))), (.c (.int (2))), (.c (.int (7))), (.neg (.c (.int (1)))), (.neg (.c (.int (2)))), (.c (.str "")), (.c (.str "shell")), (.c (.str "nobody")), (.c (.str "Shell")), (.c (.str "job")), (.c (.str "plain")), (.c (.str "raw")), (.c (.str "none"))]))
def O2 : E := (.lst [(.c (.str "fore")), (.c (.str "runs")), (.c (.str "stopped")), (.c (.str "ended")), (.c (.str "end")), (.c (.str "stop")), (.tup []), (.lst []), (.dict [] []), (.tup [(.c (.int (0)))]), (.bin .Pow (.c (.int (10))) (.c (.int (30)))), (.tup [(.tup [(.c (.int (0))), (.c (.int (0)))])]), (.c (.str "front"))])
def inB (x : D) (lo hi : Int) : Bool := match x with
  | .int i => decide (lo ≤ i) && decide (i ≤ hi)
  | _ => false
theorem lw_whole (f : Nat) (x : D) (lo hi : Int) : callF wd 100 progD (f + 1) 29 [.d x, .d (.int lo), .d (.int hi)] = .pu (.bool (inB x lo hi)) := by
  rw [callF_tx q29]
  cases x with
  | int i => by_cases h : lo ≤ i <;> simp [l__law_is_whole, ofO_some, M.pu_bd, exsx_nil, exsx_cons, exx_asg, exx_par, exx_ret, exx_retN, exx_iff, exx_for, exx_whl, exx_raise, exx_gput, evx_c, evx_v, evx_bin, evx_cmp, evx_chain, evx_and, evx_or, evx_not, evx_tup, evx_lst, evx_ix, evx_sl, evx_bf, evx_call, evx_gix, evx_ite, evsx_nil, evsx_cons, evT, evO, evOT, Env.get, bf_one, bf1, isi_str, isi_tup, isStr, isTupD, asD, truD, cmpD, cmpOp, eqE, nilEq, solid, endD, slOf, dOf, toInt, seqOf, seqE, seqS, seqJ, setTg, setTgs, List.mapM_cons, List.mapM_nil, Option.bind, Option.map, isiD, tyS, tySub, inB, leD, h]
  | _ => simp [l__law_is_whole, ofO_some, M.pu_bd, exsx_nil, exsx_cons, exx_asg, exx_par, exx_ret, exx_retN, exx_iff, exx_for, exx_whl, exx_raise, exx_gput, evx_c, evx_v, evx_bin, evx_cmp, evx_chain, evx_and, evx_or, evx_not, evx_tup, evx_lst, evx_ix, evx_sl, evx_bf, evx_call, evx_gix, evx_ite, evsx_nil, evsx_cons, evT, evO, evOT, Env.get, bf_one, bf1, isi_str, isi_tup, isStr, isTupD, asD, truD, cmpD, cmpOp, eqE, nilEq, solid, endD, slOf, dOf, toInt, seqOf, seqE, seqS, seqJ, setTg, setTgs, List.mapM_cons, List.mapM_nil, Option.bind, Option.map, isiD, tyS, tySub, inB]
theorem lw_word (f : Nat) (x : D) (ws : List Str) : callF wd 100 progD (f + 1) 30 [.d x, .d (.tuple (ws.map .str))] = .pu (.bool (wordB x ws)) := by
  rw [callF_tx q30]
  cases x with
  | str y => simp [l__law_is_word, ofO_some, M.pu_bd, exsx_nil, exsx_cons, exx_asg, exx_par, exx_ret, exx_retN, exx_iff, exx_for, exx_whl, exx_raise, exx_gput, evx_c, evx_v, evx_bin, evx_cmp, evx_chain, evx_and, evx_or, evx_not, evx_tup, evx_lst, evx_ix, evx_sl, evx_bf, evx_call, evx_gix, evx_ite, evsx_nil, evsx_cons, evT, evO, evOT, Env.get, bf_one, bf1, isi_str, isi_tup, isStr, isTupD, asD, truD, cmpD, cmpOp, eqE, nilEq, solid, endD, slOf, dOf, toInt, seqOf, seqE, seqS, seqJ, setTg, setTgs, List.mapM_cons, List.mapM_nil, Option.bind, Option.map, mem_strs, wordB]
  | _ => simp [l__law_is_word, ofO_some, M.pu_bd, exsx_nil, exsx_cons, exx_asg, exx_par, exx_ret, exx_retN, exx_iff, exx_for, exx_whl, exx_raise, exx_gput, evx_c, evx_v, evx_bin, evx_cmp, evx_chain, evx_and, evx_or, evx_not, evx_tup, evx_lst, evx_ix, evx_sl, evx_bf, evx_call, evx_gix, evx_ite, evsx_nil, evsx_cons, evT, evO, evOT, Env.get, bf_one, bf1, isi_str, isi_tup, isStr, isTupD, asD, truD, cmpD, cmpOp, eqE, nilEq, solid, endD, slOf, dOf, toInt, seqOf, seqE, seqS, seqJ, setTg, setTgs, List.mapM_cons, List.mapM_nil, Option.bind, Option.map, wordB]
theorem in_below (x : D) (b : Int) : inB x 0 (b - 1) = belowB x b := by
  cases x with
  | int i =>
    show (decide (0 ≤ i) && decide (i ≤ b - 1)) = decide (0 ≤ i ∧ i < b)
    rw [← Bool.decide_and]
    exact decide_eq_decide.mpr (by omega)
  | _ => rfl
theorem in_below' (x : D) (b : Int) : inB x 0 b = belowB x (b + 1) := by
  rw [← in_below x (b + 1)]
  congr 1
  omega
end Kk03
end
section
set_option Elab.async false
set_option linter.all false
set_option maxRecDepth 1000000
set_option maxHeartbeats 8000000
namespace Kk03
open PySem PySem.Spec L2 PD

theorem word_swap (e : D) : wordB e ["none", "stop"] = wordB e ["stop", "none"] := by
  cases e with
  | str y => simp [wordB, or_comm]
  | _ => rfl
/-- the law's own look at a job is the program's -/
theorem lw_job (f : Nat) {ks : List D} {r : D} {A B C E : List D} (hks : ∀ x ∈ ks, ∃ xs : List D, x = .tuple xs) (x : D) : callF wd 100 progD (f + 2) 31 [.d (SU ks r A B C E), .d x] = .pu (.bool (jobB ks x)) := by
  have z1 := one_s
  have z2 : (2 : Nat) ≤ sizeLine := by rw [sizeLine_eq]; omega
  have z3 : (3 : Nat) ≤ sizeLine := by rw [sizeLine_eq]; omega
  have su0 : ixD (.d (SU ks r A B C E)) (.d (.int 0)) = some (.tuple ks) := by simp [SU, ixD, asD, itD, at0]
  generalize SU ks r A B C E = su at su0
  rw [callF_tx q31]
  cases x with
  | tuple xs =>
    by_cases h6 : xs.length = 6
    · match xs, h6 with
      | [a, b, c, d, e, g], _ =>
        have j6 : jobB ks (.tuple [a, b, c, d, e, g]) = jobB6 ks a b c d e g := rfl
        rw [j6]
        have i0 : ixD (.d (.tuple [a, b, c, d, e, g])) (.d (.int 0)) = some a := rfl
        have i1 : ixD (.d (.tuple [a, b, c, d, e, g])) (.d (.int 1)) = some b := rfl
        have i2 : ixD (.d (.tuple [a, b, c, d, e, g])) (.d (.int 2)) = some c := rfl
        have i3 : ixD (.d (.tuple [a, b, c, d, e, g])) (.d (.int 3)) = some d := rfl
        have i4 : ixD (.d (.tuple [a, b, c, d, e, g])) (.d (.int 4)) = some e := rfl
        have i5 : ixD (.d (.tuple [a, b, c, d, e, g])) (.d (.int 5)) = some g := rfl
        have l6 : lenD (.tuple [a, b, c, d, e, g]) = some (.int 6) := rfl
        have e6 : eqD (.int 6) (.int 6) = some true := by kernel_rfl
        have isiT : isiD ["tuple"] (.tuple [a, b, c, d, e, g]) = .bool true := rfl
        generalize PyData.tuple [a, b, c, d, e, g] = x at i0 i1 i2 i3 i4 i5 l6 isiT
        have b1 := lw_whole f a 0 (ks.length - 1)
        rw [in_below] at b1
        have lk : lenD (.tuple ks) = some (.int ks.length) := rfl
        cases c1 : belowB a ks.length with
        | false =>
          rw [c1] at b1
          have j0 : jobB6 ks a b c d e g = false := by unfold jobB6; rw [c1]; rfl
          simp [l__law_is_job, ofO_some, M.pu_bd, exsx_nil, exsx_cons, exx_asg, exx_par, exx_ret, exx_retN, exx_iff, exx_for, exx_whl, exx_raise, exx_gput, evx_c, evx_v, evx_bin, evx_cmp, evx_chain, evx_and, evx_or, evx_not, evx_tup, evx_lst, evx_ix, evx_sl, evx_bf, evx_call, evx_gix, evx_ite, evsx_nil, evsx_cons, evT, evO, evOT, Env.get, bf_one, bf1, isi_str, isi_tup, isStr, isTupD, asD, truD, cmpD, cmpOp, eqE, nilEq, solid, endD, slOf, dOf, toInt, seqOf, seqE, seqS, seqJ, setTg, setTgs, List.mapM_cons, List.mapM_nil, Option.bind, Option.map, -isi_tup, -isTupD, isiT, i0, l6, e6, su0, lk, binD, opD, subD, b1, j0]
        | true =>
          rw [c1] at b1
          obtain ⟨kd, rfl, k0, k1⟩ := below_of c1
          obtain ⟨acts, _, an, ai⟩ := acts_of hks k0 k1
          have ix : ixD (.d (.tuple ks)) (.d (.int kd)) = some (.tuple acts) := by simp [ixD, asD, itD, ai]
          have la : lenD (.tuple acts) = some (.int acts.length) := rfl
          have b2 := lw_whole f b 0 acts.length
          rw [in_below'] at b2
          cases c2 : belowB b (acts.length + 1) with
          | false =>
            rw [c2] at b2
            have j0 : jobB6 ks (.int kd) b c d e g = false := by unfold jobB6; simp only [c1, an, c2]; rfl
            simp [l__law_is_job, ofO_some, M.pu_bd, exsx_nil, exsx_cons, exx_asg, exx_par, exx_ret, exx_retN, exx_iff, exx_for, exx_whl, exx_raise, exx_gput, evx_c, evx_v, evx_bin, evx_cmp, evx_chain, evx_and, evx_or, evx_not, evx_tup, evx_lst, evx_ix, evx_sl, evx_bf, evx_call, evx_gix, evx_ite, evsx_nil, evsx_cons, evT, evO, evOT, Env.get, bf_one, bf1, isi_str, isi_tup, isStr, isTupD, asD, truD, cmpD, cmpOp, eqE, nilEq, solid, endD, slOf, dOf, toInt, seqOf, seqE, seqS, seqJ, setTg, setTgs, List.mapM_cons, List.mapM_nil, Option.bind, Option.map, -isi_tup, -isTupD, isiT, i0, i1, l6, e6, su0, lk, ix, la, binD, opD, subD, b1, b2, j0]
          | true =>
            rw [c2] at b2
            cases c3 : isBoolD c && isBoolD g with
            | false =>
              have j0 : jobB6 ks (.int kd) b c d e g = false := by unfold jobB6; rw [c3]; simp
              cases c4 : isBoolD c with
              | false => simp [l__law_is_job, ofO_some, M.pu_bd, exsx_nil, exsx_cons, exx_asg, exx_par, exx_ret, exx_retN, exx_iff, exx_for, exx_whl, exx_raise, exx_gput, evx_c, evx_v, evx_bin, evx_cmp, evx_chain, evx_and, evx_or, evx_not, evx_tup, evx_lst, evx_ix, evx_sl, evx_bf, evx_call, evx_gix, evx_ite, evsx_nil, evsx_cons, evT, evO, evOT, Env.get, bf_one, bf1, isi_str, isi_tup, isStr, isTupD, asD, truD, cmpD, cmpOp, eqE, nilEq, solid, endD, slOf, dOf, toInt, seqOf, seqE, seqS, seqJ, setTg, setTgs, List.mapM_cons, List.mapM_nil, Option.bind, Option.map, -isi_tup, -isTupD, isiT, i0, i1, i2, i5, l6, e6, su0, lk, ix, la, binD, opD, subD, b1, b2, isi_bool, c4, j0]
              | true =>
                have c5 : isBoolD g = false := by rw [c4] at c3; exact c3
                simp [l__law_is_job, ofO_some, M.pu_bd, exsx_nil, exsx_cons, exx_asg, exx_par, exx_ret, exx_retN, exx_iff, exx_for, exx_whl, exx_raise, exx_gput, evx_c, evx_v, evx_bin, evx_cmp, evx_chain, evx_and, evx_or, evx_not, evx_tup, evx_lst, evx_ix, evx_sl, evx_bf, evx_call, evx_gix, evx_ite, evsx_nil, evsx_cons, evT, evO, evOT, Env.get, bf_one, bf1, isi_str, isi_tup, isStr, isTupD, asD, truD, cmpD, cmpOp, eqE, nilEq, solid, endD, slOf, dOf, toInt, seqOf, seqE, seqS, seqJ, setTg, setTgs, List.mapM_cons, List.mapM_nil, Option.bind, Option.map, -isi_tup, -isTupD, isiT, i0, i1, i2, i5, l6, e6, su0, lk, ix, la, binD, opD, subD, b1, b2, isi_bool, c4, c5, j0]
            | true =>
              have c4 : isBoolD c = true := by cases h : isBoolD c <;> simp_all
              have c5 : isBoolD g = true := by cases h : isBoolD g <;> simp_all
              have w := lw_word f d ["runs", "stopped", "ended"]
              simp only [List.map_cons, List.map_nil] at w
              cases c6 : wordB d ["runs", "stopped", "ended"] with
              | false =>
                rw [c6] at w
                have j0 : jobB6 ks (.int kd) b c d e g = false := by
                  unfold jobB6
                  cases d with
                  | str st =>
                    have : decide (st ∈ sts) = false := c6
                    simp [this]
                  | _ => simp
                simp [l__law_is_job, ofO_some, M.pu_bd, exsx_nil, exsx_cons, exx_asg, exx_par, exx_ret, exx_retN, exx_iff, exx_for, exx_whl, exx_raise, exx_gput, evx_c, evx_v, evx_bin, evx_cmp, evx_chain, evx_and, evx_or, evx_not, evx_tup, evx_lst, evx_ix, evx_sl, evx_bf, evx_call, evx_gix, evx_ite, evsx_nil, evsx_cons, evT, evO, evOT, Env.get, bf_one, bf1, isi_str, isi_tup, isStr, isTupD, asD, truD, cmpD, cmpOp, eqE, nilEq, solid, endD, slOf, dOf, toInt, seqOf, seqE, seqS, seqJ, setTg, setTgs, List.mapM_cons, List.mapM_nil, Option.bind, Option.map, -isi_tup, -isTupD, isiT, i0, i1, i2, i3, i5, l6, e6, su0, lk, ix, la, binD, opD, subD, b1, b2, isi_bool, c4, c5, z3, w, j0]
              | true =>
                rw [c6] at w
                obtain ⟨st, rfl, hst⟩ := word_of c6
                have dm : decide (st ∈ sts) = true := decide_eq_true hst
                have j1 : jobB6 ks (.int kd) b c (.str st) e g = noticeW st e := by
                  unfold jobB6
                  simp only [c1, an, c2, dm, c3, Bool.true_and, Bool.and_true]
                rw [j1]
                have w1 := lw_word f e ["end"]
                have w2 := lw_word f e ["none", "stop"]
                rw [word_swap] at w2
                simp only [List.map_cons, List.map_nil] at w1 w2
                have r1 : eqD (.str "runs") (.str "ended") = some false := by kernel_rfl
                have r2 : eqD (.str "stopped") (.str "ended") = some false := by kernel_rfl
                have r3 : eqD (.str "ended") (.str "ended") = some true := by kernel_rfl
                have n1 : noticeW "runs" e = wordB e ["stop", "none"] := rfl
                have n2 : noticeW "stopped" e = wordB e ["stop", "none"] := rfl
                have n3 : noticeW "ended" e = wordB e ["end"] := rfl
                simp only [sts, List.mem_cons, List.not_mem_nil, or_false] at hst
                rcases hst with rfl | rfl | rfl
                · simp [l__law_is_job, ofO_some, M.pu_bd, exsx_nil, exsx_cons, exx_asg, exx_par, exx_ret, exx_retN, exx_iff, exx_for, exx_whl, exx_raise, exx_gput, evx_c, evx_v, evx_bin, evx_cmp, evx_chain, evx_and, evx_or, evx_not, evx_tup, evx_lst, evx_ix, evx_sl, evx_bf, evx_call, evx_gix, evx_ite, evsx_nil, evsx_cons, evT, evO, evOT, Env.get, bf_one, bf1, isi_str, isi_tup, isStr, isTupD, asD, truD, cmpD, cmpOp, eqE, nilEq, solid, endD, slOf, dOf, toInt, seqOf, seqE, seqS, seqJ, setTg, setTgs, List.mapM_cons, List.mapM_nil, Option.bind, Option.map, -isi_tup, -isTupD, isiT, i0, i1, i2, i3, i4, i5, l6, e6, su0, lk, ix, la, binD, opD, subD, b1, b2, isi_bool, c4, c5, z1, z2, z3, w, w2, r1, n1]
                · simp [l__law_is_job, ofO_some, M.pu_bd, exsx_nil, exsx_cons, exx_asg, exx_par, exx_ret, exx_retN, exx_iff, exx_for, exx_whl, exx_raise, exx_gput, evx_c, evx_v, evx_bin, evx_cmp, evx_chain, evx_and, evx_or, evx_not, evx_tup, evx_lst, evx_ix, evx_sl, evx_bf, evx_call, evx_gix, evx_ite, evsx_nil, evsx_cons, evT, evO, evOT, Env.get, bf_one, bf1, isi_str, isi_tup, isStr, isTupD, asD, truD, cmpD, cmpOp, eqE, nilEq, solid, endD, slOf, dOf, toInt, seqOf, seqE, seqS, seqJ, setTg, setTgs, List.mapM_cons, List.mapM_nil, Option.bind, Option.map, -isi_tup, -isTupD, isiT, i0, i1, i2, i3, i4, i5, l6, e6, su0, lk, ix, la, binD, opD, subD, b1, b2, isi_bool, c4, c5, z1, z2, z3, w, w2, r2, n2]
                · simp [l__law_is_job, ofO_some, M.pu_bd, exsx_nil, exsx_cons, exx_asg, exx_par, exx_ret, exx_retN, exx_iff, exx_for, exx_whl, exx_raise, exx_gput, evx_c, evx_v, evx_bin, evx_cmp, evx_chain, evx_and, evx_or, evx_not, evx_tup, evx_lst, evx_ix, evx_sl, evx_bf, evx_call, evx_gix, evx_ite, evsx_nil, evsx_cons, evT, evO, evOT, Env.get, bf_one, bf1, isi_str, isi_tup, isStr, isTupD, asD, truD, cmpD, cmpOp, eqE, nilEq, solid, endD, slOf, dOf, toInt, seqOf, seqE, seqS, seqJ, setTg, setTgs, List.mapM_cons, List.mapM_nil, Option.bind, Option.map, -isi_tup, -isTupD, isiT, i0, i1, i2, i3, i4, i5, l6, e6, su0, lk, ix, la, binD, opD, subD, b1, b2, isi_bool, c4, c5, z1, z2, z3, w, w1, r3, n3]
    · have j0 : jobB ks (.tuple xs) = false := by
        unfold jobB
        split
        · rename_i e
          cases e
          exact absurd rfl h6
        · rfl
      have hne : ((xs.length : Int) == 6) = false := by simp; omega
      simp [l__law_is_job, ofO_some, M.pu_bd, exsx_nil, exsx_cons, exx_asg, exx_par, exx_ret, exx_retN, exx_iff, exx_for, exx_whl, exx_raise, exx_gput, evx_c, evx_v, evx_bin, evx_cmp, evx_chain, evx_and, evx_or, evx_not, evx_tup, evx_lst, evx_ix, evx_sl, evx_bf, evx_call, evx_gix, evx_ite, evsx_nil, evsx_cons, evT, evO, evOT, Env.get, bf_one, bf1, isi_str, isi_tup, isStr, isTupD, asD, truD, cmpD, cmpOp, eqE, nilEq, solid, endD, slOf, dOf, toInt, seqOf, seqE, seqS, seqJ, setTg, setTgs, List.mapM_cons, List.mapM_nil, Option.bind, Option.map, isi_tup, isTupD, lenD, eqD, shi, eqi, hne, j0]
  | _ => simp [l__law_is_job, ofO_some, M.pu_bd, exsx_nil, exsx_cons, exx_asg, exx_par, exx_ret, exx_retN, exx_iff, exx_for, exx_whl, exx_raise, exx_gput, evx_c, evx_v, evx_bin, evx_cmp, evx_chain, evx_and, evx_or, evx_not, evx_tup, evx_lst, evx_ix, evx_sl, evx_bf, evx_call, evx_gix, evx_ite, evsx_nil, evsx_cons, evT, evO, evOT, Env.get, bf_one, bf1, isi_str, isi_tup, isStr, isTupD, asD, truD, cmpD, cmpOp, eqE, nilEq, solid, endD, slOf, dOf, toInt, seqOf, seqE, seqS, seqJ, setTg, setTgs, List.mapM_cons, List.mapM_nil, Option.bind, Option.map, isi_tup, isTupD, jobB]
end Kk03
end
section
set_option Elab.async false
set_option linter.all false
set_option maxRecDepth 1000000
set_option maxHeartbeats 8000000
namespace Kk03
open PySem PySem.Spec L2 PD

theorem evx_sset {F : Fns} {env : PD.Env} (a : E) : ev F (.sset a) env = (ev F a env).bd fun x => .ofO (((asD x).bind ssetD).map .d) := by simp only [ev]
def pairB (ks : List D) (hi : Int) : D → Bool
  | .tuple [a, jb] => belowB a hi && jobB ks jb
  | _ => false
def numI : D → Int
  | .tuple [.int j, _] => j
  | _ => 0
def ascB : Int → List Int → Bool
  | _, [] => true
  | lo, n :: r => decide (lo ≤ n) && ascB (n + 1) r
theorem jsB_all {ks : List D} {hi : Int} : ∀ (xs : List D) (lo : Int), jsB ks hi lo xs = (xs.all (pairB ks hi) && ascB lo (xs.map numI))
  | [], _ => rfl
  | x :: xs, lo => by
    cases t : tupB x 2 2 with
    | false =>
      rw [jsB_two t]
      have : pairB ks hi x = false := by
        unfold pairB
        split
        · simp [tupB] at t
        · rfl
      simp [this]
    | true =>
      obtain ⟨a, jb, rfl⟩ := two_of t
      have pb : pairB ks hi (.tuple [a, jb]) = (belowB a hi && jobB ks jb) := rfl
      cases c : belowB a hi with
      | false =>
        rw [jsB_out c]
        simp [pb, c]
      | true =>
        obtain ⟨j, rfl, j0, j1⟩ := below_of c
        rw [jsB_in j0 j1, jsB_all xs (j + 1)]
        have nj : numI (.tuple [.int j, jb]) = j := rfl
        simp only [List.all_cons, List.map_cons, pb, c, nj, Bool.true_and, ascB]
        cases decide (lo ≤ j) <;> cases jobB ks jb <;> simp
theorem asc_iff : ∀ (ns : List Int) (lo : Int), ascB lo ns = true ↔ (∀ n ∈ ns, lo ≤ n) ∧ ns.Pairwise (· < ·)
  | [], lo => by simp [ascB]
  | n :: r, lo => by
    have ih := asc_iff r (n + 1)
    simp only [ascB, Bool.and_eq_true, decide_eq_true_eq, ih, List.pairwise_cons, List.mem_cons]
    constructor
    · rintro ⟨h1, h2, h3⟩
      refine ⟨fun m hm => ?_, fun m hm => ?_, h3⟩
      · rcases hm with rfl | hm
        · exact h1
        · have := h2 m hm
          omega
      · have := h2 m hm
        omega
    · rintro ⟨h1, h2, h3⟩
      refine ⟨h1 n (.inl rfl), fun m hm => ?_, h3⟩
      have := h2 m hm
      omega
theorem asc_ss {ns : List Int} (h : ∀ n ∈ ns, 0 ≤ n) : ascB 0 ns = decide (ns = ssI ns) := by
  by_cases q : ns = ssI ns
  · rw [decide_eq_true q]
    refine (asc_iff ns 0).mpr ⟨h, ?_⟩
    rw [q]
    exact ssI_up
  · rw [decide_eq_false q]
    cases c : ascB 0 ns with
    | false => rfl
    | true =>
      obtain ⟨_, up⟩ := (asc_iff ns 0).mp c
      exact absurd (up_one up ssI_up fun k => ssI_mem.symm) q
theorem ints_lay : ∀ ns : List Int, PyData.canLayAll0 (ns.map .int) = true ∧ PyData.depthAll (ns.map .int) = 0
  | [] => ⟨rfl, rfl⟩
  | n :: r => by
    obtain ⟨h1, h2⟩ := ints_lay r
    simp [PyData.canLayAll0, PyData.canLay0, PyData.depthAll, PyData.depth, h1, h2]
theorem ints_eqv : ∀ ns ms : List Int, PyData.eqvAll (ns.map .int) (ms.map .int) = decide (ns = ms)
  | [], [] => rfl
  | [], _ :: _ => rfl
  | _ :: _, [] => rfl
  | n :: r, m :: q => by
    have ih := ints_eqv r q
    simp only [List.map_cons, PyData.eqvAll, PyData.eqv, ih]
    by_cases h : n = m <;> by_cases h2 : r = q <;> simp [h, h2]
theorem eqD_ints (ns ms : List Int) : eqD (.list (ns.map .int)) (.list (ms.map .int)) = some (decide (ns = ms)) := by
  have sh : ∀ ns : List Int, SeqAt.shaped (.list (ns.map .int)) = true := fun ns => by
    obtain ⟨h1, h2⟩ := ints_lay ns
    unfold SeqAt.shaped
    simp [PyData.canLay0, PyData.depth, h1, h2]
  unfold eqD
  rw [sh, sh]
  simp [PyData.eqv, ints_eqv]
theorem mapM_ints : ∀ ns : List Int, (ns.map PyData.int).mapM intO = some ns
  | [] => rfl
  | n :: r => by simp [List.mapM_cons, intO, mapM_ints r]
def BP : List Sm := [(.iff (.or (.not (.bf (.isinst ["tuple"]) [(.v 3)])) (.or (.cmp .NotEq (.bf .len [(.v 3)]) (.c (.int (2)))) (.not (.call 29 [(.ix (.v 3) (.c (.int (0)))), (.c (.int (0))), (.bin .Sub (.v 1) (.c (.int (1))))])))) [(.ret (.c (.bool false)))] []), (.iff (.not (.call 31 [(.v 0), (.ix (.v 3) (.c (.int (1))))])) [(.ret (.c (.bool false)))] [])]
theorem pair_step (f : Nat) {ks : List D} {r : D} {A B C E : List D} (hks : ∀ x ∈ ks, ∃ xs : List D, x = .tuple xs) (hi : Int) (x : D) (s2 s4 : Sl) :
    exSs ⟨callF wd 100 progD (f + 2), wd⟩ 100 BP [.fz (SU ks r A B C E), .fz (.int hi), s2, .fz x, s4] = if pairB ks hi x = true then .pu (.nx [.fz (SU ks r A B C E), .fz (.int hi), s2, .fz x, s4]) else .pu (.rt (.bool false)) := by
  have lj := fun jb => lw_job f (r := r) (A := A) (B := B) (C := C) (E := E) hks jb
  generalize SU ks r A B C E = su at lj
  cases x with
  | tuple xs =>
    by_cases h2 : xs.length = 2
    · match xs, h2 with
      | [a, jb], _ =>
        have pb : pairB ks hi (.tuple [a, jb]) = (belowB a hi && jobB ks jb) := rfl
        rw [pb]
        have i0 : ixD (.d (.tuple [a, jb])) (.d (.int 0)) = some a := rfl
        have i1 : ixD (.d (.tuple [a, jb])) (.d (.int 1)) = some jb := rfl
        have l2 : lenD (.tuple [a, jb]) = some (.int 2) := rfl
        have e2 : eqD (.int 2) (.int 2) = some true := by kernel_rfl
        have isiT : isiD ["tuple"] (.tuple [a, jb]) = .bool true := rfl
        generalize PyData.tuple [a, jb] = x at i0 i1 l2 isiT
        have b1 := lw_whole (f + 1) a 0 (hi - 1)
        rw [in_below] at b1
        have j1 := lj jb
        cases c1 : belowB a hi with
        | false =>
          rw [c1] at b1
          simp [BP, ofO_some, M.pu_bd, exsx_nil, exsx_cons, exx_asg, exx_par, exx_ret, exx_retN, exx_iff, exx_for, exx_whl, exx_raise, exx_gput, evx_c, evx_v, evx_bin, evx_cmp, evx_chain, evx_and, evx_or, evx_not, evx_tup, evx_lst, evx_ix, evx_sl, evx_bf, evx_call, evx_gix, evx_ite, evsx_nil, evsx_cons, evT, evO, evOT, Env.get, bf_one, bf1, isi_str, isi_tup, isStr, isTupD, asD, truD, cmpD, cmpOp, eqE, nilEq, solid, endD, slOf, dOf, toInt, seqOf, seqE, seqS, seqJ, setTg, setTgs, List.mapM_cons, List.mapM_nil, Option.bind, Option.map, -isi_tup, -isTupD, isiT, i0, l2, e2, binD, opD, subD, b1]
        | true =>
          rw [c1] at b1
          cases c2 : jobB ks jb <;> (rw [c2] at j1; simp [BP, ofO_some, M.pu_bd, exsx_nil, exsx_cons, exx_asg, exx_par, exx_ret, exx_retN, exx_iff, exx_for, exx_whl, exx_raise, exx_gput, evx_c, evx_v, evx_bin, evx_cmp, evx_chain, evx_and, evx_or, evx_not, evx_tup, evx_lst, evx_ix, evx_sl, evx_bf, evx_call, evx_gix, evx_ite, evsx_nil, evsx_cons, evT, evO, evOT, Env.get, bf_one, bf1, isi_str, isi_tup, isStr, isTupD, asD, truD, cmpD, cmpOp, eqE, nilEq, solid, endD, slOf, dOf, toInt, seqOf, seqE, seqS, seqJ, setTg, setTgs, List.mapM_cons, List.mapM_nil, Option.bind, Option.map, -isi_tup, -isTupD, isiT, i0, i1, l2, e2, binD, opD, subD, b1, j1])
    · have pb : pairB ks hi (.tuple xs) = false := by
        unfold pairB
        split
        · rename_i e
          cases e
          exact absurd rfl h2
        · rfl
      have hne : ((xs.length : Int) == 2) = false := by simp; omega
      simp [BP, ofO_some, M.pu_bd, exsx_nil, exsx_cons, exx_asg, exx_par, exx_ret, exx_retN, exx_iff, exx_for, exx_whl, exx_raise, exx_gput, evx_c, evx_v, evx_bin, evx_cmp, evx_chain, evx_and, evx_or, evx_not, evx_tup, evx_lst, evx_ix, evx_sl, evx_bf, evx_call, evx_gix, evx_ite, evsx_nil, evsx_cons, evT, evO, evOT, Env.get, bf_one, bf1, isi_str, isi_tup, isStr, isTupD, asD, truD, cmpD, cmpOp, eqE, nilEq, solid, endD, slOf, dOf, toInt, seqOf, seqE, seqS, seqJ, setTg, setTgs, List.mapM_cons, List.mapM_nil, Option.bind, Option.map, isi_tup, isTupD, lenD, eqD, shi, eqi, hne, pb]
  | _ => simp [BP, ofO_some, M.pu_bd, exsx_nil, exsx_cons, exx_asg, exx_par, exx_ret, exx_retN, exx_iff, exx_for, exx_whl, exx_raise, exx_gput, evx_c, evx_v, evx_bin, evx_cmp, evx_chain, evx_and, evx_or, evx_not, evx_tup, evx_lst, evx_ix, evx_sl, evx_bf, evx_call, evx_gix, evx_ite, evsx_nil, evsx_cons, evT, evO, evOT, Env.get, bf_one, bf1, isi_str, isi_tup, isStr, isTupD, asD, truD, cmpD, cmpOp, eqE, nilEq, solid, endD, slOf, dOf, toInt, seqOf, seqE, seqS, seqJ, setTg, setTgs, List.mapM_cons, List.mapM_nil, Option.bind, Option.map, isi_tup, isTupD, pairB]
theorem pair_loop (f : Nat) {ks : List D} {r : D} {A B C E : List D} (hks : ∀ x ∈ ks, ∃ xs : List D, x = .tuple xs) (hi : Int) (s2 s4 : Sl) : ∀ (xs : List D) (s3 : Sl),
    (∃ s3', forB (.n 3) (exSs ⟨callF wd 100 progD (f + 2), wd⟩ 100 BP) xs [.fz (SU ks r A B C E), .fz (.int hi), s2, s3, s4] = .pu (.nx [.fz (SU ks r A B C E), .fz (.int hi), s2, s3', s4]) ∧ xs.all (pairB ks hi) = true) ∨
    (forB (.n 3) (exSs ⟨callF wd 100 progD (f + 2), wd⟩ 100 BP) xs [.fz (SU ks r A B C E), .fz (.int hi), s2, s3, s4] = .pu (.rt (.bool false)) ∧ xs.all (pairB ks hi) = false)
  | [], s3 => .inl ⟨s3, rfl, rfl⟩
  | x :: xs, s3 => by
    have st := pair_step f (r := r) (A := A) (B := B) (C := C) (E := E) hks hi x s2 s4
    cases c : pairB ks hi x with
    | false =>
      rw [c] at st
      refine .inr ⟨?_, by simp [c]⟩
      simp [forB, setTg, ofO_some, M.pu_bd, st]
    | true =>
      rw [c] at st
      have e : forB (.n 3) (exSs ⟨callF wd 100 progD (f + 2), wd⟩ 100 BP) (x :: xs) [.fz (SU ks r A B C E), .fz (.int hi), s2, s3, s4] = forB (.n 3) (exSs ⟨callF wd 100 progD (f + 2), wd⟩ 100 BP) xs [.fz (SU ks r A B C E), .fz (.int hi), s2, .fz x, s4] := by
        rw [forB]
        simp [setTg, ofO_some, M.pu_bd, st]
      rw [e, List.all_cons, c, Bool.true_and]
      exact pair_loop f hks hi s2 s4 xs (.fz x)
theorem lw_jobs (f : Nat) {ks : List D} {r : D} {A B C E : List D} (hks : ∀ x ∈ ks, ∃ xs : List D, x = .tuple xs) (hi : Int) (x : D) (hx : ∀ xs, x = .tuple xs → xs.length < 60) :
    callF wd 100 progD (f + 3) 32 [.d (SU ks r A B C E), .d (.int hi), .d x] = .pu (.bool (jobsB ks hi x)) := by
  rw [callF_tx q32]
  cases x with
  | tuple xs =>
    have jb : jobsB ks hi (.tuple xs) = (xs.all (pairB ks hi) && ascB 0 (xs.map numI)) := jsB_all xs 0
    rw [jb]
    rcases pair_loop f (r := r) (A := A) (B := B) (C := C) (E := E) hks hi (.fz (.tuple xs)) .un xs .un with ⟨s3', e, q⟩ | ⟨e, q⟩
    · rw [q, Bool.true_and]
      have small := hx xs rfl
      have hn : ∀ n ∈ xs.map numI, 0 ≤ n := fun n hn => by
        obtain ⟨y, hy, rfl⟩ := List.mem_map.mp hn
        have py := List.all_eq_true.mp q y hy
        unfold pairB at py
        split at py
        · rename_i a jb
          rw [Bool.and_eq_true] at py
          obtain ⟨j, rfl, j0, _⟩ := below_of py.1
          exact j0
        · cases py
      rw [asc_ss hn]
      generalize SU ks r A B C E = su at e
      have el : ev ⟨callF wd 100 progD (f + 2), wd⟩ (.lc (.n 3) (.e (.v 2)) none (.ix (.v 3) (.c (.int 0))) [3]) [.fz su, .fz (.int hi), .fz (.tuple xs), s3', .un] = .pu (.d (.list ((xs.map numI).map .int))) := by
        have e0 : (xs.map numI).map PyData.int = xs.filterMap (fun d => some (PyData.int (numI d))) := by rw [List.map_map]; exact (filterMap_some _ xs).symm
        rw [e0]
        refine ev_lc (ds := xs) (by simp [evI, ofO_some, M.pu_bd, exsx_nil, exsx_cons, exx_asg, exx_par, exx_ret, exx_retN, exx_iff, exx_for, exx_whl, exx_raise, exx_gput, evx_c, evx_v, evx_bin, evx_cmp, evx_chain, evx_and, evx_or, evx_not, evx_tup, evx_lst, evx_ix, evx_sl, evx_bf, evx_call, evx_gix, evx_ite, evsx_nil, evsx_cons, evT, evO, evOT, Env.get, bf_one, bf1, isi_str, isi_tup, isStr, isTupD, asD, truD, cmpD, cmpOp, eqE, nilEq, solid, endD, slOf, dOf, toInt, seqOf, seqE, seqS, seqJ, setTg, setTgs, List.mapM_cons, List.mapM_nil, Option.bind, Option.map, seqE]) (mapB_pu fun y hy => ?_) (by rw [filterMap_some, List.length_map, sizeLine_eq]; omega)
        have py := List.all_eq_true.mp q y hy
        unfold pairB at py
        split at py
        · rename_i a jb
          rw [Bool.and_eq_true] at py
          obtain ⟨j, rfl, _, _⟩ := below_of py.1
          have i0 : ixD (.d (.tuple [.int j, jb])) (.d (.int 0)) = some (.int j) := rfl
          simp [lcF, ofO_some, M.pu_bd, exsx_nil, exsx_cons, exx_asg, exx_par, exx_ret, exx_retN, exx_iff, exx_for, exx_whl, exx_raise, exx_gput, evx_c, evx_v, evx_bin, evx_cmp, evx_chain, evx_and, evx_or, evx_not, evx_tup, evx_lst, evx_ix, evx_sl, evx_bf, evx_call, evx_gix, evx_ite, evsx_nil, evsx_cons, evT, evO, evOT, Env.get, bf_one, bf1, isi_str, isi_tup, isStr, isTupD, asD, truD, cmpD, cmpOp, eqE, nilEq, solid, endD, slOf, dOf, toInt, seqOf, seqE, seqS, seqJ, setTg, setTgs, List.mapM_cons, List.mapM_nil, Option.bind, Option.map, wipeE, i0, numI, calm_pu]
        · cases py
      have ss : ssetD (.list ((xs.map numI).map .int)) = some (.list ((ssI (xs.map numI)).map .int)) := by
        have sm : (xs.map numI).length < 60 := by rw [List.length_map]; exact small
        show (((xs.map numI).map PyData.int).mapM intO).bind (fun ns => if ns.length < 60 then some (PyData.list ((ssI ns).map .int)) else none) = _
        rw [mapM_ints]
        show (if (xs.map numI).length < 60 then some (PyData.list ((ssI (xs.map numI)).map .int)) else none) = _
        rw [if_pos sm]
      have eq := eqD_ints (xs.map numI) (ssI (xs.map numI))
      generalize (xs.map numI).map PyData.int = L at el ss eq
      generalize (ssI (xs.map numI)).map PyData.int = R at ss eq
      unfold BP at e
      simp [l__law_are_jobs, ofO_some, M.pu_bd, exsx_nil, exsx_cons, exx_asg, exx_par, exx_ret, exx_retN, exx_iff, exx_for, exx_whl, exx_raise, exx_gput, evx_c, evx_v, evx_bin, evx_cmp, evx_chain, evx_and, evx_or, evx_not, evx_tup, evx_lst, evx_ix, evx_sl, evx_bf, evx_call, evx_gix, evx_ite, evsx_nil, evsx_cons, evT, evO, evOT, Env.get, bf_one, bf1, isi_str, isi_tup, isStr, isTupD, asD, truD, cmpD, cmpOp, eqE, nilEq, solid, endD, slOf, dOf, toInt, seqOf, seqE, seqS, seqJ, setTg, setTgs, List.mapM_cons, List.mapM_nil, Option.bind, Option.map, isi_tup, isTupD, evJ, e, el, evx_sset, ss, eq]
    · rw [q, Bool.false_and]
      generalize SU ks r A B C E = su at e
      unfold BP at e
      simp [l__law_are_jobs, ofO_some, M.pu_bd, exsx_nil, exsx_cons, exx_asg, exx_par, exx_ret, exx_retN, exx_iff, exx_for, exx_whl, exx_raise, exx_gput, evx_c, evx_v, evx_bin, evx_cmp, evx_chain, evx_and, evx_or, evx_not, evx_tup, evx_lst, evx_ix, evx_sl, evx_bf, evx_call, evx_gix, evx_ite, evsx_nil, evsx_cons, evT, evO, evOT, Env.get, bf_one, bf1, isi_str, isi_tup, isStr, isTupD, asD, truD, cmpD, cmpOp, eqE, nilEq, solid, endD, slOf, dOf, toInt, seqOf, seqE, seqS, seqJ, setTg, setTgs, List.mapM_cons, List.mapM_nil, Option.bind, Option.map, isi_tup, isTupD, evJ, e]
  | _ => simp [l__law_are_jobs, ofO_some, M.pu_bd, exsx_nil, exsx_cons, exx_asg, exx_par, exx_ret, exx_retN, exx_iff, exx_for, exx_whl, exx_raise, exx_gput, evx_c, evx_v, evx_bin, evx_cmp, evx_chain, evx_and, evx_or, evx_not, evx_tup, evx_lst, evx_ix, evx_sl, evx_bf, evx_call, evx_gix, evx_ite, evsx_nil, evsx_cons, evT, evO, evOT, Env.get, bf_one, bf1, isi_str, isi_tup, isStr, isTupD, asD, truD, cmpD, cmpOp, eqE, nilEq, solid, endD, slOf, dOf, toInt, seqOf, seqE, seqS, seqJ, setTg, setTgs, List.mapM_cons, List.mapM_nil, Option.bind, Option.map, isi_tup, isTupD, jobsB]
end Kk03
end
section
set_option Elab.async false
set_option linter.all false
set_option maxRecDepth 1000000
set_option maxHeartbeats 8000000
namespace Kk03
open PySem PySem.Spec L2 PD

def toL : Option D → D
  | none => .list []
  | some p => .list [p]
theorem frH_pair {j : Int} {ks : List D} {jb : D} (ok : JobOk ks jb) : frH (pairD j jb) = if frontJ jb = true then some (.int j) else none := by
  obtain ⟨kd, pl, ow, sw, no, he, acts, rfl, _⟩ := ok.ex
  rfl
/-- those that may be in front -/
theorem fit_in {ks : List D} {hi n : Int} : ∀ {lo : Int} {js : List D}, Js ks hi lo js → inD (.int n) (js.filterMap frH) = frontJ (findJ n js)
  | _, _, .nil => rfl
  | lo, _, .cons (j := j) (jb := jb) (js := js) a b c d e => by
    have ih := fit_in (n := n) e
    rw [findJ_cons]
    have hp := frH_pair (j := j) d
    by_cases q : j = n
    · subst q
      rw [if_pos rfl]
      have no : findJ j js = .none := e.none fun jb' hm => by
        have := (e.ge hm).1
        omega
      rw [no] at ih
      have ih : inD (.int j) (js.filterMap frH) = false := ih
      cases c1 : frontJ jb with
      | true =>
        rw [c1] at hp
        rw [List.filterMap_cons_some (hp.trans (if_pos rfl))]
        simp [inD, PyData.eqv]
      | false =>
        rw [c1] at hp
        rw [List.filterMap_cons_none (hp.trans (if_neg (by simp)))]
        exact ih
    · rw [if_neg q]
      cases c1 : frontJ jb with
      | true =>
        rw [c1] at hp
        rw [List.filterMap_cons_some (hp.trans (if_pos rfl))]
        rw [← ih]
        simp [inD, PyData.eqv, q]
      | false =>
        rw [c1] at hp
        rw [List.filterMap_cons_none (hp.trans (if_neg (by simp)))]
        exact ih
theorem num_in {ks : List D} {hi n : Int} : ∀ {lo : Int} {js : List D}, Js ks hi lo js → inD (.int n) (js.map numD) = thereB (findJ n js)
  | _, _, .nil => rfl
  | lo, _, .cons (j := j) (jb := jb) (js := js) a b c d e => by
    have ih := num_in (n := n) e
    rw [findJ_cons, List.map_cons]
    have hn : numD (pairD j jb) = .int j := rfl
    rw [hn]
    by_cases q : j = n
    · subst q
      rw [if_pos rfl]
      obtain ⟨kd, pl, ow, sw, no, he, acts, rfl, _⟩ := d.ex
      simp [inD, PyData.eqv, jobT, thereB]
    · rw [if_neg q, ← ih]
      simp [inD, PyData.eqv, q]
theorem find_range {ks : List D} {hi n : Int} {js : List D} (h : Js ks hi 0 js) (hf : findJ n js ≠ .none) : 0 ≤ n ∧ n < hi := by
  by_cases q : ∃ jb, pairD n jb ∈ js
  · obtain ⟨jb, hm⟩ := q
    obtain ⟨_, h0, h1, _⟩ := h.ge hm
    exact ⟨h0, h1⟩
  · exact absurd (h.none fun jb hm => q ⟨jb, hm⟩) hf
/-- in front, by the law's own look -/
theorem front_law {ks : List D} {m n : Int} {js : List D} (h : Js ks m 0 js) : (inB (.int n) 0 m && inD (.int n) (js.filterMap frH)) = frontJ (findJ n js) := by
  rw [fit_in h]
  cases c : frontJ (findJ n js) with
  | false => simp
  | true =>
    have nf : findJ n js ≠ .none := fun e => by rw [e] at c; cases c
    obtain ⟨h0, h1⟩ := find_range h nf
    have : inB (.int n) 0 m = true := by
      show (decide (0 ≤ n) && decide (n ≤ m)) = true
      simp [h0]
      omega
    rw [this]
    rfl
/-- in hand, by the law's own look -/
theorem hand_law {ks : List D} {m n : Int} {js : List D} (h : Js ks m 0 js) (hm : 0 ≤ m) (ws : Str) : (inB (.int n) (-1) m && inD (.int n) (.int (-1) :: if ws = "none" then [] else js.map numD)) = handB ws js (.int n) := by
  show _ = (decide (n = -1) || (!decide (ws = "none") && thereB (findJ n js)))
  have cons : ∀ l, inD (.int n) (.int (-1) :: l) = (decide (n = -1) || inD (.int n) l) := fun l => by
    by_cases q : n = -1
    · subst q
      simp [inD, PyData.eqv]
    · have q' : ¬ (-1 : Int) = n := fun e => q e.symm
      simp [inD, PyData.eqv, q, q']
  rw [cons]
  by_cases q : n = -1
  · subst q
    have : inB (.int (-1)) (-1) m = true := by
      show (decide ((-1 : Int) ≤ -1) && decide ((-1 : Int) ≤ m)) = true
      simp
      omega
    rw [this]
    simp
  · rw [decide_eq_false q, Bool.false_or, Bool.false_or]
    by_cases w : ws = "none"
    · rw [if_pos w, decide_eq_true w]
      simp [inD]
    · rw [if_neg w, decide_eq_false w, num_in h]
      cases c : thereB (findJ n js) with
      | false => simp
      | true =>
        have nf : findJ n js ≠ .none := fun e => by rw [e] at c; cases c
        obtain ⟨h0, h1⟩ := find_range h nf
        have : inB (.int n) (-1) m = true := by
          show (decide ((-1 : Int) ≤ n) && decide (n ≤ m)) = true
          simp
          omega
        rw [this]
        rfl
end Kk03
end
section
set_option Elab.async false
set_option linter.all false
set_option maxRecDepth 1000000
set_option maxHeartbeats 16000000
namespace Kk03
open PySem PySem.Spec L2 PD

theorem frs_flat {ks : List D} {hi : Int} : ∀ {lo : Int} {js : List D}, Js ks hi lo js → (js.filterMap frH).all isFlat = true
  | _, _, .nil => rfl
  | lo, _, .cons (j := j) (jb := jb) (js := js) a b c d e => by
    have ih := frs_flat e
    have hp := frH_pair (j := j) d
    cases c1 : frontJ jb with
    | true =>
      rw [c1] at hp
      rw [List.filterMap_cons_some (hp.trans (if_pos rfl))]
      simpa [isFlat] using ih
    | false =>
      rw [c1] at hp
      rw [List.filterMap_cons_none (hp.trans (if_neg (by simp)))]
      exact ih
theorem nums_flat {ks : List D} {hi lo : Int} {js : List D} (h : Js ks hi lo js) : (js.map numD).all isFlat = true := by
  rw [List.all_eq_true]
  intro x hx
  obtain ⟨d, hd, rfl⟩ := List.mem_map.mp hx
  clear hx
  induction h with
  | nil => cases hd
  | cons a b c e f ih =>
    rcases List.mem_cons.mp hd with rfl | hd
    · rfl
    · exact ih hd
section
variable {F : Fns} {ks : List D} {js : List D} {s0 s1 s2 s3 s4 s5 s6 s7 s8 s9 s11 s12 : Sl}
theorem ev_fit {hi : Int} (h : Js ks hi 0 js) (hl : js.length < 60) : ev F (.lc (.t [11, 12]) (.e (.v 10)) (some (.and (.ix (.v 12) (.c (.int (2)))) (.cmp .NotEq (.ix (.v 12) (.c (.int (3)))) (.c (.str "ended"))))) (.v 11) [11, 12]) [s0, s1, s2, s3, s4, s5, s6, s7, s8, s9, .fz (.tuple js), s11, s12] = .pu (.d (.list (js.filterMap frH))) := by
  refine ev_lc (ds := js) (by simp [evI, ofO_some, M.pu_bd, exsx_nil, exsx_cons, exx_asg, exx_par, exx_ret, exx_retN, exx_iff, exx_for, exx_whl, exx_raise, exx_gput, evx_c, evx_v, evx_bin, evx_cmp, evx_chain, evx_and, evx_or, evx_not, evx_tup, evx_lst, evx_ix, evx_sl, evx_bf, evx_call, evx_gix, evx_ite, evsx_nil, evsx_cons, evT, evO, evOT, Env.get, bf_one, bf1, isi_str, isi_tup, isStr, isTupD, asD, truD, cmpD, cmpOp, eqE, nilEq, solid, endD, slOf, dOf, toInt, seqOf, seqE, seqS, seqJ, setTg, setTgs, List.mapM_cons, List.mapM_nil, Option.bind, Option.map, seqE]) (mapB_pu fun d hd => ?_) (by
    have := List.length_filterMap_le frH js
    rw [sizeLine_eq]; omega)
  obtain ⟨j, jb, rfl, j0, j1, ok⟩ := h.all d hd
  obtain ⟨kd, pl, ow, sw, no, he, acts, rfl, _, _, _, _, _, hsn⟩ := ok.ex
  have ee := ended_eq hsn
  cases ow with
  | false => simp [lcF, ofO_some, M.pu_bd, exsx_nil, exsx_cons, exx_asg, exx_par, exx_ret, exx_retN, exx_iff, exx_for, exx_whl, exx_raise, exx_gput, evx_c, evx_v, evx_bin, evx_cmp, evx_chain, evx_and, evx_or, evx_not, evx_tup, evx_lst, evx_ix, evx_sl, evx_bf, evx_call, evx_gix, evx_ite, evsx_nil, evsx_cons, evT, evO, evOT, Env.get, bf_one, bf1, isi_str, isi_tup, isStr, isTupD, asD, truD, cmpD, cmpOp, eqE, nilEq, solid, endD, slOf, dOf, toInt, seqOf, seqE, seqS, seqJ, setTg, setTgs, List.mapM_cons, List.mapM_nil, Option.bind, Option.map, wipeE, pairD, jobT, ixD, itD, at2, frH, calm_pu]
  | true =>
    by_cases hz : sw = "ended"
    · subst hz
      simp [lcF, ofO_some, M.pu_bd, exsx_nil, exsx_cons, exx_asg, exx_par, exx_ret, exx_retN, exx_iff, exx_for, exx_whl, exx_raise, exx_gput, evx_c, evx_v, evx_bin, evx_cmp, evx_chain, evx_and, evx_or, evx_not, evx_tup, evx_lst, evx_ix, evx_sl, evx_bf, evx_call, evx_gix, evx_ite, evsx_nil, evsx_cons, evT, evO, evOT, Env.get, bf_one, bf1, isi_str, isi_tup, isStr, isTupD, asD, truD, cmpD, cmpOp, eqE, nilEq, solid, endD, slOf, dOf, toInt, seqOf, seqE, seqS, seqJ, setTg, setTgs, List.mapM_cons, List.mapM_nil, Option.bind, Option.map, wipeE, pairD, jobT, ixD, itD, at2, at3, frH, calm_pu, ee]
    · simp [lcF, ofO_some, M.pu_bd, exsx_nil, exsx_cons, exx_asg, exx_par, exx_ret, exx_retN, exx_iff, exx_for, exx_whl, exx_raise, exx_gput, evx_c, evx_v, evx_bin, evx_cmp, evx_chain, evx_and, evx_or, evx_not, evx_tup, evx_lst, evx_ix, evx_sl, evx_bf, evx_call, evx_gix, evx_ite, evsx_nil, evsx_cons, evT, evO, evOT, Env.get, bf_one, bf1, isi_str, isi_tup, isStr, isTupD, asD, truD, cmpD, cmpOp, eqE, nilEq, solid, endD, slOf, dOf, toInt, seqOf, seqE, seqS, seqJ, setTg, setTgs, List.mapM_cons, List.mapM_nil, Option.bind, Option.map, wipeE, pairD, jobT, ixD, itD, at2, at3, frH, calm_pu, ee, hz]
theorem ev_nums {hi : Int} (h : Js ks hi 0 js) (hl : js.length < 60) {ws : Str} (hw : ws ∈ words5) : ev F (.lc (.t [11, 12]) (.e (.v 10)) (some (.cmp .NotEq (.v 4) (.c (.str "none")))) (.v 11) [11, 12]) [s0, s1, s2, s3, .fz (.str ws), s5, s6, s7, s8, s9, .fz (.tuple js), s11, s12] = .pu (.d (.list (if ws = "none" then [] else js.map numD))) := by
  have e0 : eqD (.str ws) (.str "none") = some (decide (ws = "none")) := by
    simp only [words5, List.mem_cons, List.not_mem_nil, or_false] at hw
    rcases hw with rfl | rfl | rfl | rfl | rfl <;> kernel_rfl
  have ef : (if ws = "none" then [] else js.map numD) = js.filterMap (fun d => if ws = "none" then none else some (numD d)) := by
    by_cases q : ws = "none"
    · simp [q]
    · simp [q, filterMap_some]
  rw [ef]
  refine ev_lc (ds := js) (by simp [evI, ofO_some, M.pu_bd, exsx_nil, exsx_cons, exx_asg, exx_par, exx_ret, exx_retN, exx_iff, exx_for, exx_whl, exx_raise, exx_gput, evx_c, evx_v, evx_bin, evx_cmp, evx_chain, evx_and, evx_or, evx_not, evx_tup, evx_lst, evx_ix, evx_sl, evx_bf, evx_call, evx_gix, evx_ite, evsx_nil, evsx_cons, evT, evO, evOT, Env.get, bf_one, bf1, isi_str, isi_tup, isStr, isTupD, asD, truD, cmpD, cmpOp, eqE, nilEq, solid, endD, slOf, dOf, toInt, seqOf, seqE, seqS, seqJ, setTg, setTgs, List.mapM_cons, List.mapM_nil, Option.bind, Option.map, seqE]) (mapB_pu fun d hd => ?_) (by
    have := List.length_filterMap_le (fun d => if ws = "none" then none else some (numD d)) js
    rw [sizeLine_eq]; omega)
  obtain ⟨j, jb, rfl, j0, j1, ok⟩ := h.all d hd
  cases qw : decide (ws = "none") with
  | true =>
    rw [qw] at e0
    have q := of_decide_eq_true qw
    simp [lcF, ofO_some, M.pu_bd, exsx_nil, exsx_cons, exx_asg, exx_par, exx_ret, exx_retN, exx_iff, exx_for, exx_whl, exx_raise, exx_gput, evx_c, evx_v, evx_bin, evx_cmp, evx_chain, evx_and, evx_or, evx_not, evx_tup, evx_lst, evx_ix, evx_sl, evx_bf, evx_call, evx_gix, evx_ite, evsx_nil, evsx_cons, evT, evO, evOT, Env.get, bf_one, bf1, isi_str, isi_tup, isStr, isTupD, asD, truD, cmpD, cmpOp, eqE, nilEq, solid, endD, slOf, dOf, toInt, seqOf, seqE, seqS, seqJ, setTg, setTgs, List.mapM_cons, List.mapM_nil, Option.bind, Option.map, wipeE, pairD, numD, calm_pu, none_none, q]
  | false =>
    rw [qw] at e0
    have q := of_decide_eq_false qw
    simp [lcF, ofO_some, M.pu_bd, exsx_nil, exsx_cons, exx_asg, exx_par, exx_ret, exx_retN, exx_iff, exx_for, exx_whl, exx_raise, exx_gput, evx_c, evx_v, evx_bin, evx_cmp, evx_chain, evx_and, evx_or, evx_not, evx_tup, evx_lst, evx_ix, evx_sl, evx_bf, evx_call, evx_gix, evx_ite, evsx_nil, evsx_cons, evT, evO, evOT, Env.get, bf_one, bf1, isi_str, isi_tup, isStr, isTupD, asD, truD, cmpD, cmpOp, eqE, nilEq, solid, endD, slOf, dOf, toInt, seqOf, seqE, seqS, seqJ, setTg, setTgs, List.mapM_cons, List.mapM_nil, Option.bind, Option.map, wipeE, pairD, numD, calm_pu, e0, q]
end
theorem bound_in {A B C E : List D} {ws : Str} (pl : D) : inB pl 0 (if ws = "none" then 0 else ((scOf A B C E ws).length : Int) - 1) = belowB pl (boundN A B C E ws) := by
  unfold boundN
  by_cases q : ws = "none"
  · rw [if_pos q, if_pos q]
    exact in_below pl 1
  · rw [if_neg q, if_neg q]
    exact in_below pl _
theorem ev_bound (f : Nat) {ks : List D} {r : D} {A B C E : List D} {ws : Str} (hw : ws ∈ words5) {s1 s2 s3 s5 s6 s7 s8 s9 s10 s11 s12 : Sl} :
    ev ⟨callF wd 100 progD (f + 1), wd⟩ (.ite (.cmp .Eq (.v 4) (.c (.str "none"))) (.c (.int (0))) (.bin .Sub (.bf .len [(.call 27 [(.v 0), (.v 4)])]) (.c (.int (1))))) [.fz (SU ks r A B C E), s1, s2, s3, .fz (.str ws), s5, s6, s7, s8, s9, s10, s11, s12] = .pu (.d (.int (if ws = "none" then 0 else ((scOf A B C E ws).length : Int) - 1))) := by
  by_cases q : ws = "none"
  · subst q
    have en : eqD (.str "none") (.str "none") = some true := by kernel_rfl
    simp [ofO_some, M.pu_bd, exsx_nil, exsx_cons, exx_asg, exx_par, exx_ret, exx_retN, exx_iff, exx_for, exx_whl, exx_raise, exx_gput, evx_c, evx_v, evx_bin, evx_cmp, evx_chain, evx_and, evx_or, evx_not, evx_tup, evx_lst, evx_ix, evx_sl, evx_bf, evx_call, evx_gix, evx_ite, evsx_nil, evsx_cons, evT, evO, evOT, Env.get, bf_one, bf1, isi_str, isi_tup, isStr, isTupD, asD, truD, cmpD, cmpOp, eqE, nilEq, solid, endD, slOf, dOf, toInt, seqOf, seqE, seqS, seqJ, setTg, setTgs, List.mapM_cons, List.mapM_nil, Option.bind, Option.map, en]
  · have h4 : ws ∈ w4 := by
      simp only [words5, List.mem_cons, List.not_mem_nil, or_false] at hw
      simp only [w4, List.mem_cons, List.not_mem_nil, or_false]
      rcases hw with h | h
      · exact absurd h q
      · exact h
    have ls := law_script (wd := wd) q27 f (ks := ks) (r := r) (A := A) (B := B) (C := C) (E := E) h4
    have e0 := w4_none ws h4
    generalize SU ks r A B C E = su at ls
    simp [ofO_some, M.pu_bd, exsx_nil, exsx_cons, exx_asg, exx_par, exx_ret, exx_retN, exx_iff, exx_for, exx_whl, exx_raise, exx_gput, evx_c, evx_v, evx_bin, evx_cmp, evx_chain, evx_and, evx_or, evx_not, evx_tup, evx_lst, evx_ix, evx_sl, evx_bf, evx_call, evx_gix, evx_ite, evsx_nil, evsx_cons, evT, evO, evOT, Env.get, bf_one, bf1, isi_str, isi_tup, isStr, isTupD, asD, truD, cmpD, cmpOp, eqE, nilEq, solid, endD, slOf, dOf, toInt, seqOf, seqE, seqS, seqJ, setTg, setTgs, List.mapM_cons, List.mapM_nil, Option.bind, Option.map, e0, ls, lenD, binD, opD, subD, q]
end Kk03
end
section
set_option Elab.async false
set_option linter.all false
set_option maxRecDepth 1000000
set_option maxHeartbeats 16000000
namespace Kk03
open PySem PySem.Spec L2 PD

def BND : E := (.ite (.cmp .Eq (.v 4) (.c (.str "none"))) (.c (.int (0))) (.bin .Sub (.bf .len [(.call 27 [(.v 0), (.v 4)])]) (.c (.int (1)))))
def LST : E := (.ite (.and (.call 29 [(.v 8), (.neg (.c (.int (1)))), (.v 9)]) (.cmp .In (.v 8) (.v 3))) (.lst []) (.lst [(.tup [(.c (.str "hand"))])]))
/-- the law's own look is the program's, of anything with numbers that are not too great and not too many jobs -/
theorem lw_fault (f : Nat) {ks : List D} {r : D} {A B C E : List D} (hks : ∀ x ∈ ks, ∃ xs : List D, x = .tuple xs) (x : D)
    (hm : ∀ w pl fr md hd m js, x = .tuple [w, pl, fr, md, hd, .int m, js] → m ≤ 10000000000000000000000000000000000000000) (hj : ∀ w pl fr md hd m js, x = .tuple [w, pl, fr, md, hd, m, .tuple js] → js.length < 60) :
    callF wd 100 progD (f + 4) 33 [.d (SU ks r A B C E), .d x] = .pu (toL (stF ks A B C E x)) := by
  have z0 := zero_s
  have z1 := one_s
  have z2 : (2 : Nat) ≤ sizeLine := by rw [sizeLine_eq]; omega
  have z5 : (5 : Nat) ≤ sizeLine := by rw [sizeLine_eq]; omega
  rw [callF_tx q33]
  have bad : tupB x 7 7 = false → ((exSs ⟨callF wd 100 progD (f + 3), wd⟩ 100 l__law_fault ([.fz (SU ks r A B C E), .fz x] ++ List.replicate 11 .un)).bd endD) = .pu (toL (stF ks A B C E x)) := fun t => by
    rw [not_seven t]
    cases x with
    | tuple xs =>
      have hne : ((xs.length : Int) == 7) = false := by
        simp [tupB] at t
        simp
        omega
      simp [l__law_fault, ofO_some, M.pu_bd, exsx_nil, exsx_cons, exx_asg, exx_par, exx_ret, exx_retN, exx_iff, exx_for, exx_whl, exx_raise, exx_gput, evx_c, evx_v, evx_bin, evx_cmp, evx_chain, evx_and, evx_or, evx_not, evx_tup, evx_lst, evx_ix, evx_sl, evx_bf, evx_call, evx_gix, evx_ite, evsx_nil, evsx_cons, evT, evO, evOT, Env.get, bf_one, bf1, isi_str, isi_tup, isStr, isTupD, asD, truD, cmpD, cmpOp, eqE, nilEq, solid, endD, slOf, dOf, toInt, seqOf, seqE, seqS, seqJ, setTg, setTgs, List.mapM_cons, List.mapM_nil, Option.bind, Option.map, isi_tup, isTupD, lenD, eqD, shi, eqi, hne, z0, z1, toL]
    | _ => simp [l__law_fault, ofO_some, M.pu_bd, exsx_nil, exsx_cons, exx_asg, exx_par, exx_ret, exx_retN, exx_iff, exx_for, exx_whl, exx_raise, exx_gput, evx_c, evx_v, evx_bin, evx_cmp, evx_chain, evx_and, evx_or, evx_not, evx_tup, evx_lst, evx_ix, evx_sl, evx_bf, evx_call, evx_gix, evx_ite, evsx_nil, evsx_cons, evT, evO, evOT, Env.get, bf_one, bf1, isi_str, isi_tup, isStr, isTupD, asD, truD, cmpD, cmpOp, eqE, nilEq, solid, endD, slOf, dOf, toInt, seqOf, seqE, seqS, seqJ, setTg, setTgs, List.mapM_cons, List.mapM_nil, Option.bind, Option.map, isi_tup, isTupD, z0, z1, toL]
  cases t : tupB x 7 7 with
  | false => exact bad t
  | true =>
    obtain ⟨w, pl, fr, md, hd, mk, js, rfl⟩ := seven_of t
    have l7 : lenD (.tuple [w, pl, fr, md, hd, mk, js]) = some (.int 7) := rfl
    have e7 : eqD (.int 7) (.int 7) = some true := by kernel_rfl
    have ee : stF ks A B C E (.tuple [w, pl, fr, md, hd, mk, js]) = stF7 ks A B C E w pl fr md hd mk js := rfl
    rw [ee]
    have w1 := lw_word (f + 2) w words5
    simp only [words5, List.map_cons, List.map_nil] at w1
    cases c1 : wordB w words5 with
    | false =>
      simp only [words5] at c1
      rw [c1] at w1
      have e1 : stF7 ks A B C E w pl fr md hd mk js = some (.tuple [.str "script"]) := by
        unfold stF7
        cases w with
        | str ws =>
          have : decide (ws ∈ words5) = false := c1
          simp [this]
        | _ => rfl
      rw [e1]
      simp [l__law_fault, ofO_some, M.pu_bd, exsx_nil, exsx_cons, exx_asg, exx_par, exx_ret, exx_retN, exx_iff, exx_for, exx_whl, exx_raise, exx_gput, evx_c, evx_v, evx_bin, evx_cmp, evx_chain, evx_and, evx_or, evx_not, evx_tup, evx_lst, evx_ix, evx_sl, evx_bf, evx_call, evx_gix, evx_ite, evsx_nil, evsx_cons, evT, evO, evOT, Env.get, bf_one, bf1, isi_str, isi_tup, isStr, isTupD, asD, truD, cmpD, cmpOp, eqE, nilEq, solid, endD, slOf, dOf, toInt, seqOf, seqE, seqS, seqJ, setTg, setTgs, List.mapM_cons, List.mapM_nil, Option.bind, Option.map, isi_tup, isTupD, l7, e7, w1, z1, z5, toL]
    | true =>
      obtain ⟨ws, rfl, hws⟩ := word_of c1
      simp only [words5] at c1
      rw [c1] at w1
      have dw : decide (ws ∈ words5) = true := decide_eq_true hws
      have eb : ∀ s1 s2 s3 s5 s6 s7 s8 s9 s10 s11 s12 : Sl, ev ⟨callF wd 100 progD (f + 3), wd⟩ (.ite (.cmp .Eq (.v 4) (.c (.str "none"))) (.c (.int (0))) (.bin .Sub (.bf .len [(.call 27 [(.v 0), (.v 4)])]) (.c (.int (1))))) [.fz (SU ks r A B C E), s1, s2, s3, .fz (.str ws), s5, s6, s7, s8, s9, s10, s11, s12] = .pu (.d (.int (if ws = "none" then 0 else ((scOf A B C E ws).length : Int) - 1))) := fun s1 s2 s3 s5 s6 s7 s8 s9 s10 s11 s12 => ev_bound (f + 2) hws
      have b1 := lw_whole (f + 2) pl 0 (if ws = "none" then 0 else ((scOf A B C E ws).length : Int) - 1)
      rw [bound_in] at b1
      have w2 := lw_word (f + 2) md ["plain", "raw"]
      simp only [List.map_cons, List.map_nil] at w2
      have p40 : powD (.int 10) (.int 40) = some (.int 10000000000000000000000000000000000000000) := by rfl
      have wm := lw_whole (f + 2) mk 0 10000000000000000000000000000000000000000
      cases c2 : belowB pl (boundN A B C E ws) with
      | false =>
        rw [c2] at b1
        have e1 : stF7 ks A B C E (.str ws) pl fr md hd mk js = some (.tuple [.str "place"]) := by unfold stF7; simp [dw, c2]
        rw [e1]
        generalize SU ks r A B C E = su at eb
        simp [l__law_fault, ofO_some, M.pu_bd, exsx_nil, exsx_cons, exx_asg, exx_par, exx_ret, exx_retN, exx_iff, exx_for, exx_whl, exx_raise, exx_gput, evx_c, evx_v, evx_bin, evx_cmp, evx_chain, evx_and, evx_or, evx_not, evx_tup, evx_lst, evx_ix, evx_sl, evx_bf, evx_call, evx_gix, evx_ite, evsx_nil, evsx_cons, evT, evO, evOT, Env.get, bf_one, bf1, isi_str, isi_tup, isStr, isTupD, asD, truD, cmpD, cmpOp, eqE, nilEq, solid, endD, slOf, dOf, toInt, seqOf, seqE, seqS, seqJ, setTg, setTgs, List.mapM_cons, List.mapM_nil, Option.bind, Option.map, isi_tup, isTupD, l7, e7, w1, z1, z5, eb, b1, toL, -evx_ite]
      | true =>
        rw [c2] at b1
        cases c3 : wordB md ["plain", "raw"] with
        | false =>
          rw [c3] at w2
          have e1 : stF7 ks A B C E (.str ws) pl fr md hd mk js = some (.tuple [.str "mode"]) := by unfold stF7; simp [dw, c2, c3]
          rw [e1]
          generalize SU ks r A B C E = su at eb
          simp [l__law_fault, ofO_some, M.pu_bd, exsx_nil, exsx_cons, exx_asg, exx_par, exx_ret, exx_retN, exx_iff, exx_for, exx_whl, exx_raise, exx_gput, evx_c, evx_v, evx_bin, evx_cmp, evx_chain, evx_and, evx_or, evx_not, evx_tup, evx_lst, evx_ix, evx_sl, evx_bf, evx_call, evx_gix, evx_ite, evsx_nil, evsx_cons, evT, evO, evOT, Env.get, bf_one, bf1, isi_str, isi_tup, isStr, isTupD, asD, truD, cmpD, cmpOp, eqE, nilEq, solid, endD, slOf, dOf, toInt, seqOf, seqE, seqS, seqJ, setTg, setTgs, List.mapM_cons, List.mapM_nil, Option.bind, Option.map, isi_tup, isTupD, l7, e7, w1, z1, z2, z5, eb, b1, w2, toL, -evx_ite]
        | true =>
          rw [c3] at w2
          have mB : ∀ mk, (∀ m, mk = .int m → m < 0) → inB mk 0 10000000000000000000000000000000000000000 = false := fun mk h => by
            cases mk with
            | int m =>
              have := h m rfl
              show (decide (0 ≤ m) && _) = false
              rw [decide_eq_false (by omega), Bool.false_and]
            | _ => rfl
          by_cases q : ∃ m, mk = .int m ∧ 0 ≤ m
          · obtain ⟨m, rfl, m0⟩ := q
            have m1 := hm _ _ _ _ _ _ _ rfl
            have im : inB (.int m) 0 10000000000000000000000000000000000000000 = true := by
              show (decide (0 ≤ m) && decide (m ≤ _)) = true
              rw [decide_eq_true m0, decide_eq_true m1, Bool.true_and]
            rw [im] at wm
            have nm : ¬ m < 0 := by omega
            have aj := lw_jobs f (r := r) (A := A) (B := B) (C := C) (E := E) hks m js (fun xs e => by subst e; exact hj _ _ _ _ _ _ _ rfl)
            cases c5 : jobsB ks m js with
            | false =>
              rw [c5] at aj
              have e1 : stF7 ks A B C E (.str ws) pl fr md hd (.int m) js = some (.tuple [.str "jobs"]) := by
                unfold stF7
                cases js with
                | tuple xs =>
                  have c5 : jsB ks m 0 xs = false := c5
                  simp [dw, c2, c3, nm, c5]
                | _ => simp [dw, c2, c3, nm]
              rw [e1]
              generalize SU ks r A B C E = su at eb aj
              simp [l__law_fault, ofO_some, M.pu_bd, exsx_nil, exsx_cons, exx_asg, exx_par, exx_ret, exx_retN, exx_iff, exx_for, exx_whl, exx_raise, exx_gput, evx_c, evx_v, evx_bin, evx_cmp, evx_chain, evx_and, evx_or, evx_not, evx_tup, evx_lst, evx_ix, evx_sl, evx_bf, evx_call, evx_gix, evx_ite, evsx_nil, evsx_cons, evT, evO, evOT, Env.get, bf_one, bf1, isi_str, isi_tup, isStr, isTupD, asD, truD, cmpD, cmpOp, eqE, nilEq, solid, endD, slOf, dOf, toInt, seqOf, seqE, seqS, seqJ, setTg, setTgs, List.mapM_cons, List.mapM_nil, Option.bind, Option.map, isi_tup, isTupD, l7, e7, w1, z1, z2, z5, eb, b1, w2, binD, opD, p40, wm, aj, toL, -evx_ite]
            | true =>
              rw [c5] at aj
              obtain ⟨xs, rfl, c6⟩ : ∃ xs, js = .tuple xs ∧ jsB ks m 0 xs = true := by
                cases js with
                | tuple xs => exact ⟨xs, rfl, c5⟩
                | _ => cases c5
              have small := hj _ _ _ _ _ _ _ rfl
              have hJ := jsB_ok hks xs c6
              have ef := fun s0 s1 s2 s3 s4 s5 s6 s7 s8 s9 s11 s12 => ev_fit (F := ⟨callF wd 100 progD (f + 3), wd⟩) (s0 := s0) (s1 := s1) (s2 := s2) (s3 := s3) (s4 := s4) (s5 := s5) (s6 := s6) (s7 := s7) (s8 := s8) (s9 := s9) (s11 := s11) (s12 := s12) hJ small
              have en := fun s0 s1 s2 s3 s5 s6 s7 s8 s9 s11 s12 => ev_nums (F := ⟨callF wd 100 progD (f + 3), wd⟩) (s0 := s0) (s1 := s1) (s2 := s2) (s3 := s3) (s5 := s5) (s6 := s6) (s7 := s7) (s8 := s8) (s9 := s9) (s11 := s11) (s12 := s12) hJ small hws
              have e1 : stF7 ks A B C E (.str ws) pl fr md hd (.int m) (.tuple xs) = if frontB xs fr = false then some (.tuple [.str "front"]) else if handB ws xs hd = false then some (.tuple [.str "hand"]) else none := by
                unfold stF7
                simp [dw, c2, c3, nm, c6]
              rw [e1]
              have w3 := lw_word (f + 2) fr ["shell", "nobody"]
              simp only [List.map_cons, List.map_nil] at w3
              have b3 := lw_whole (f + 2) fr 0 m
              have b4 := lw_whole (f + 2) hd (-1) m
              have ff := frs_flat hJ
              have fn : (.int (-1) :: (if ws = "none" then [] else xs.map numD) : List D).all isFlat = true := by
                have := nums_flat hJ
                by_cases q : ws = "none" <;> simp [q, isFlat, this]
              have ln : 1 + (if ws = "none" then [] else xs.map numD : List D).length ≤ sizeLine := by
                rw [sizeLine_eq]
                by_cases q : ws = "none"
                · simp [q]
                · simp [q]
                  omega
              have fl : ∀ n, frontB xs (.int n) = (inB (.int n) 0 m && inD (.int n) (xs.filterMap frH)) := fun n => (front_law hJ).symm
              have hl : ∀ n, handB ws xs (.int n) = (inB (.int n) (-1) m && inD (.int n) (.int (-1) :: if ws = "none" then [] else xs.map numD)) := fun n => (hand_law hJ m0 ws).symm
              generalize SU ks r A B C E = su at eb aj
              generalize xs.filterMap frH = FT at ef ff fl
              generalize (if ws = "none" then [] else xs.map numD : List D) = NM at en fn ln hl
              have last : ∀ s1 s2 s4 s5 s6 s7 s10 s11 s12 : Sl, ev ⟨callF wd 100 progD (f + 3), wd⟩ LST [.fz su, s1, s2, .fz (.list (.int (-1) :: NM)), s4, s5, s6, s7, .fz hd, .fz (.int m), s10, s11, s12] = .pu (.d (if handB ws xs hd = true then .list [] else .list [.tuple [.str "hand"]])) := fun s1 s2 s4 s5 s6 s7 s10 s11 s12 => by
                cases hd with
                | int n =>
                  have mn : memD (.int n) (.list (.int (-1) :: NM)) = some (inD (.int n) (.int (-1) :: NM)) := by
                    show (if (isFlat (.int n) && (.int (-1) :: NM : List D).all isFlat) = true then _ else _) = _
                    rw [fn]
                    rfl
                  rw [hl n]
                  cases i1 : inB (.int n) (-1) m with
                  | false =>
                    rw [i1] at b4
                    simp [LST, ofO_some, M.pu_bd, exsx_nil, exsx_cons, exx_asg, exx_par, exx_ret, exx_retN, exx_iff, exx_for, exx_whl, exx_raise, exx_gput, evx_c, evx_v, evx_bin, evx_cmp, evx_chain, evx_and, evx_or, evx_not, evx_tup, evx_lst, evx_ix, evx_sl, evx_bf, evx_call, evx_gix, evx_ite, evsx_nil, evsx_cons, evT, evO, evOT, Env.get, bf_one, bf1, isi_str, isi_tup, isStr, isTupD, asD, truD, cmpD, cmpOp, eqE, nilEq, solid, endD, slOf, dOf, toInt, seqOf, seqE, seqS, seqJ, setTg, setTgs, List.mapM_cons, List.mapM_nil, Option.bind, Option.map, evx_neg, b4, z1]
                  | true =>
                    rw [i1] at b4
                    cases i2 : inD (.int n) (.int (-1) :: NM) <;> (rw [i2] at mn; simp [LST, ofO_some, M.pu_bd, exsx_nil, exsx_cons, exx_asg, exx_par, exx_ret, exx_retN, exx_iff, exx_for, exx_whl, exx_raise, exx_gput, evx_c, evx_v, evx_bin, evx_cmp, evx_chain, evx_and, evx_or, evx_not, evx_tup, evx_lst, evx_ix, evx_sl, evx_bf, evx_call, evx_gix, evx_ite, evsx_nil, evsx_cons, evT, evO, evOT, Env.get, bf_one, bf1, isi_str, isi_tup, isStr, isTupD, asD, truD, cmpD, cmpOp, eqE, nilEq, solid, endD, slOf, dOf, toInt, seqOf, seqE, seqS, seqJ, setTg, setTgs, List.mapM_cons, List.mapM_nil, Option.bind, Option.map, evx_neg, b4, mn, z0, z1])
                | _ => simp [LST, ofO_some, M.pu_bd, exsx_nil, exsx_cons, exx_asg, exx_par, exx_ret, exx_retN, exx_iff, exx_for, exx_whl, exx_raise, exx_gput, evx_c, evx_v, evx_bin, evx_cmp, evx_chain, evx_and, evx_or, evx_not, evx_tup, evx_lst, evx_ix, evx_sl, evx_bf, evx_call, evx_gix, evx_ite, evsx_nil, evsx_cons, evT, evO, evOT, Env.get, bf_one, bf1, isi_str, isi_tup, isStr, isTupD, asD, truD, cmpD, cmpOp, eqE, nilEq, solid, endD, slOf, dOf, toInt, seqOf, seqE, seqS, seqJ, setTg, setTgs, List.mapM_cons, List.mapM_nil, Option.bind, Option.map, evx_neg, b4, inB, z1, handB]
              unfold LST at last
              have dich : (∃ n, fr = .int n) ∨ (inB fr 0 m = false ∧ frontB xs fr = wordB fr ["shell", "nobody"]) := by
                cases fr with
                | int n => exact .inl ⟨n, rfl⟩
                | _ => exact .inr ⟨rfl, by simp [frontB, findX, frontJ]⟩
              rcases dich with ⟨n, rfl⟩ | ⟨h1, h2⟩
              · skip
                have mf : memD (.int n) (.list FT) = some (inD (.int n) FT) := by
                  show (if (isFlat (.int n) && FT.all isFlat) = true then _ else _) = _
                  rw [ff]
                  rfl
                have wn : callF wd 100 progD (f + 3) 30 [.d (.int n), .d (.tuple [.str "shell", .str "nobody"])] = .pu (.bool false) := w3
                rw [fl n]
                cases i1 : inB (.int n) 0 m with
                | false =>
                  rw [i1] at b3
                  simp [l__law_fault, ofO_some, M.pu_bd, exsx_nil, exsx_cons, exx_asg, exx_par, exx_ret, exx_retN, exx_iff, exx_for, exx_whl, exx_raise, exx_gput, evx_c, evx_v, evx_bin, evx_cmp, evx_chain, evx_and, evx_or, evx_not, evx_tup, evx_lst, evx_ix, evx_sl, evx_bf, evx_call, evx_gix, evx_ite, evsx_nil, evsx_cons, evT, evO, evOT, Env.get, bf_one, bf1, isi_str, isi_tup, isStr, isTupD, asD, truD, cmpD, cmpOp, eqE, nilEq, solid, endD, slOf, dOf, toInt, seqOf, seqE, seqS, seqJ, setTg, setTgs, List.mapM_cons, List.mapM_nil, Option.bind, Option.map, isi_tup, isTupD, l7, e7, w1, z1, z2, z5, eb, b1, w2, binD, opD, p40, wm, aj, ef, wn, b3, toL, -evx_ite]
                | true =>
                  rw [i1] at b3
                  cases i2 : inD (.int n) FT with
                  | false =>
                    rw [i2] at mf
                    simp [l__law_fault, ofO_some, M.pu_bd, exsx_nil, exsx_cons, exx_asg, exx_par, exx_ret, exx_retN, exx_iff, exx_for, exx_whl, exx_raise, exx_gput, evx_c, evx_v, evx_bin, evx_cmp, evx_chain, evx_and, evx_or, evx_not, evx_tup, evx_lst, evx_ix, evx_sl, evx_bf, evx_call, evx_gix, evx_ite, evsx_nil, evsx_cons, evT, evO, evOT, Env.get, bf_one, bf1, isi_str, isi_tup, isStr, isTupD, asD, truD, cmpD, cmpOp, eqE, nilEq, solid, endD, slOf, dOf, toInt, seqOf, seqE, seqS, seqJ, setTg, setTgs, List.mapM_cons, List.mapM_nil, Option.bind, Option.map, isi_tup, isTupD, l7, e7, w1, z1, z2, z5, eb, b1, w2, binD, opD, p40, wm, aj, ef, wn, b3, mf, toL, -evx_ite]
                  | true =>
                    rw [i2] at mf
                    simp [l__law_fault, ofO_some, M.pu_bd, exsx_nil, exsx_cons, exx_asg, exx_par, exx_ret, exx_retN, exx_iff, exx_for, exx_whl, exx_raise, exx_gput, evx_c, evx_v, evx_bin, evx_cmp, evx_chain, evx_and, evx_or, evx_not, evx_tup, evx_lst, evx_ix, evx_sl, evx_bf, evx_call, evx_gix, evx_ite, evsx_nil, evsx_cons, evT, evO, evOT, Env.get, bf_one, bf1, isi_str, isi_tup, isStr, isTupD, asD, truD, cmpD, cmpOp, eqE, nilEq, solid, endD, slOf, dOf, toInt, seqOf, seqE, seqS, seqJ, setTg, setTgs, List.mapM_cons, List.mapM_nil, Option.bind, Option.map, isi_tup, isTupD, l7, e7, w1, z1, z2, z5, eb, b1, w2, binD, opD, p40, wm, aj, ef, wn, b3, mf, en, addD, ln, evx_neg, last, -evx_ite]
                    cases handB ws xs hd <;> rfl
              · rw [h1] at b3
                rw [h2]
                cases c7 : wordB fr ["shell", "nobody"] with
                | false =>
                  rw [c7] at w3
                  simp [l__law_fault, ofO_some, M.pu_bd, exsx_nil, exsx_cons, exx_asg, exx_par, exx_ret, exx_retN, exx_iff, exx_for, exx_whl, exx_raise, exx_gput, evx_c, evx_v, evx_bin, evx_cmp, evx_chain, evx_and, evx_or, evx_not, evx_tup, evx_lst, evx_ix, evx_sl, evx_bf, evx_call, evx_gix, evx_ite, evsx_nil, evsx_cons, evT, evO, evOT, Env.get, bf_one, bf1, isi_str, isi_tup, isStr, isTupD, asD, truD, cmpD, cmpOp, eqE, nilEq, solid, endD, slOf, dOf, toInt, seqOf, seqE, seqS, seqJ, setTg, setTgs, List.mapM_cons, List.mapM_nil, Option.bind, Option.map, isi_tup, isTupD, l7, e7, w1, z1, z2, z5, eb, b1, w2, binD, opD, p40, wm, aj, ef, w3, b3, toL, -evx_ite]
                | true =>
                  rw [c7] at w3
                  simp [l__law_fault, ofO_some, M.pu_bd, exsx_nil, exsx_cons, exx_asg, exx_par, exx_ret, exx_retN, exx_iff, exx_for, exx_whl, exx_raise, exx_gput, evx_c, evx_v, evx_bin, evx_cmp, evx_chain, evx_and, evx_or, evx_not, evx_tup, evx_lst, evx_ix, evx_sl, evx_bf, evx_call, evx_gix, evx_ite, evsx_nil, evsx_cons, evT, evO, evOT, Env.get, bf_one, bf1, isi_str, isi_tup, isStr, isTupD, asD, truD, cmpD, cmpOp, eqE, nilEq, solid, endD, slOf, dOf, toInt, seqOf, seqE, seqS, seqJ, setTg, setTgs, List.mapM_cons, List.mapM_nil, Option.bind, Option.map, isi_tup, isTupD, l7, e7, w1, z1, z2, z5, eb, b1, w2, binD, opD, p40, wm, aj, ef, w3, b3, en, addD, ln, evx_neg, last, toL, -evx_ite]
                  cases handB ws xs hd <;> rfl
          · have im := mB mk fun m e => by
              cases Int.lt_or_le m 0 with
              | inl h => exact h
              | inr h => exact absurd ⟨m, e, h⟩ q
            rw [im] at wm
            have e1 : stF7 ks A B C E (.str ws) pl fr md hd mk js = some (.tuple [.str "made"]) := by
              unfold stF7
              cases mk with
              | int m =>
                have : m < 0 := by
                  cases Int.lt_or_le m 0 with
                  | inl h => exact h
                  | inr h => exact absurd ⟨m, rfl, h⟩ q
                simp [dw, c2, c3, this]
              | _ => simp [dw, c2, c3]
            rw [e1]
            generalize SU ks r A B C E = su at eb
            simp [l__law_fault, ofO_some, M.pu_bd, exsx_nil, exsx_cons, exx_asg, exx_par, exx_ret, exx_retN, exx_iff, exx_for, exx_whl, exx_raise, exx_gput, evx_c, evx_v, evx_bin, evx_cmp, evx_chain, evx_and, evx_or, evx_not, evx_tup, evx_lst, evx_ix, evx_sl, evx_bf, evx_call, evx_gix, evx_ite, evsx_nil, evsx_cons, evT, evO, evOT, Env.get, bf_one, bf1, isi_str, isi_tup, isStr, isTupD, asD, truD, cmpD, cmpOp, eqE, nilEq, solid, endD, slOf, dOf, toInt, seqOf, seqE, seqS, seqJ, setTg, setTgs, List.mapM_cons, List.mapM_nil, Option.bind, Option.map, isi_tup, isTupD, l7, e7, w1, z1, z2, z5, eb, b1, w2, binD, opD, p40, wm, toL, -evx_ite]
end Kk03
end
section
set_option Elab.async false
set_option linter.all false
set_option maxRecDepth 1000000
set_option maxHeartbeats 16000000
namespace Kk03
open PySem PySem.Spec L2 PD

def PL : List D := [.tuple [], .tuple [.str "script"], .tuple [.str "place"], .tuple [.str "mode"], .tuple [.str "made"], .tuple [.str "jobs"], .tuple [.str "front"], .tuple [.str "hand"]]
theorem stF_form {ks A B C E : List D} {x p : D} (h : stF ks A B C E x = some p) : p ∈ PL := by
  unfold stF at h
  split at h
  · unfold stF7 at h
    split at h
    · repeat' (split at h)
      all_goals (first | (injection h with h; subst h; simp [PL]; done) | (cases h; done))
    · injection h with h; subst h; simp [PL]
  · injection h with h; subst h; simp [PL]
theorem wd_standing : wd ("BadStanding" : Str) = some (some ("standing" : Str)) := by kernel_rfl
theorem said_er {F : Fns} (hF : F.word = wd) {e : E} {env : PD.Env} {c : Str} {p : D} {w : Str} (h : ev F e env = M.raise c p) (hw : wd c = some (some w)) : ev F (.said e) env = .pu (.d (.tuple [.str w, p])) := by
  simp only [ev]
  rw [h]
  funext g
  simp [M.raise, saidOf, hF, hw, M.ofO]
section
variable {ks : List D} {r : D} {A B C E : List D}
theorem is_st (f : Nat) (e : setupF (SU ks r A B C E) = none) (hks : ∀ x ∈ ks, ∃ xs : List D, x = .tuple xs) (x : D) : callF wd 100 progD (f + 6) 20 [.d (SU ks r A B C E), .d x] = .pu (.bool (stF ks A B C E x).isNone) := by
  have n := need_setup_ok sg f _ e
  have fa := fault_any sg f (r := r) (A := A) (B := B) (C := C) (E := E) hks x
  rw [callF_tx q20]
  generalize SU ks r A B C E = su at n fa
  cases h : stF ks A B C E x with
  | none =>
    rw [h] at fa
    simp [l_is_standing, ofO_some, M.pu_bd, exsx_nil, exsx_cons, exx_asg, exx_par, exx_ret, exx_retN, exx_iff, exx_for, exx_whl, exx_raise, exx_gput, evx_c, evx_v, evx_bin, evx_cmp, evx_chain, evx_and, evx_or, evx_not, evx_tup, evx_lst, evx_ix, evx_sl, evx_bf, evx_call, evx_gix, evx_ite, evsx_nil, evsx_cons, evT, evO, evOT, Env.get, bf_one, bf1, isi_str, isi_tup, isStr, isTupD, asD, truD, cmpD, cmpOp, eqE, nilEq, solid, endD, slOf, dOf, toInt, seqOf, seqE, seqS, seqJ, setTg, setTgs, List.mapM_cons, List.mapM_nil, Option.bind, Option.map, exx_expr, n, fa, optD, isD]
  | some p =>
    have pf := stF_form h
    rw [h] at fa
    simp only [PL, List.mem_cons, List.not_mem_nil, or_false] at pf
    rcases pf with rfl | rfl | rfl | rfl | rfl | rfl | rfl | rfl <;> simp [l_is_standing, ofO_some, M.pu_bd, exsx_nil, exsx_cons, exx_asg, exx_par, exx_ret, exx_retN, exx_iff, exx_for, exx_whl, exx_raise, exx_gput, evx_c, evx_v, evx_bin, evx_cmp, evx_chain, evx_and, evx_or, evx_not, evx_tup, evx_lst, evx_ix, evx_sl, evx_bf, evx_call, evx_gix, evx_ite, evsx_nil, evsx_cons, evT, evO, evOT, Env.get, bf_one, bf1, isi_str, isi_tup, isStr, isTupD, asD, truD, cmpD, cmpOp, eqE, nilEq, solid, endD, slOf, dOf, toInt, seqOf, seqE, seqS, seqJ, setTg, setTgs, List.mapM_cons, List.mapM_nil, Option.bind, Option.map, exx_expr, n, fa, optD, isD]
theorem need_any (f : Nat) (e : setupF (SU ks r A B C E) = none) (hks : ∀ x ∈ ks, ∃ xs : List D, x = .tuple xs) (x : D) : callF wd 100 progD (f + 6) 21 [.d (SU ks r A B C E), .d x] = (match stF ks A B C E x with
    | none => .pu x
    | some p => M.raise "BadStanding" p) := by
  have n := need_setup_ok sg f _ e
  have fa := fault_any sg f (r := r) (A := A) (B := B) (C := C) (E := E) hks x
  rw [callF_tx q21]
  generalize SU ks r A B C E = su at n fa
  cases h : stF ks A B C E x with
  | none =>
    rw [h] at fa
    simp [l_need_standing, ofO_some, M.pu_bd, exsx_nil, exsx_cons, exx_asg, exx_par, exx_ret, exx_retN, exx_iff, exx_for, exx_whl, exx_raise, exx_gput, evx_c, evx_v, evx_bin, evx_cmp, evx_chain, evx_and, evx_or, evx_not, evx_tup, evx_lst, evx_ix, evx_sl, evx_bf, evx_call, evx_gix, evx_ite, evsx_nil, evsx_cons, evT, evO, evOT, Env.get, bf_one, bf1, isi_str, isi_tup, isStr, isTupD, asD, truD, cmpD, cmpOp, eqE, nilEq, solid, endD, slOf, dOf, toInt, seqOf, seqE, seqS, seqJ, setTg, setTgs, List.mapM_cons, List.mapM_nil, Option.bind, Option.map, exx_expr, n, fa, optD, isD]
  | some p =>
    have pf := stF_form h
    rw [h] at fa
    simp only [PL, List.mem_cons, List.not_mem_nil, or_false] at pf
    rcases pf with rfl | rfl | rfl | rfl | rfl | rfl | rfl | rfl <;> simp [l_need_standing, ofO_some, M.pu_bd, exsx_nil, exsx_cons, exx_asg, exx_par, exx_ret, exx_retN, exx_iff, exx_for, exx_whl, exx_raise, exx_gput, evx_c, evx_v, evx_bin, evx_cmp, evx_chain, evx_and, evx_or, evx_not, evx_tup, evx_lst, evx_ix, evx_sl, evx_bf, evx_call, evx_gix, evx_ite, evsx_nil, evsx_cons, evT, evO, evOT, Env.get, bf_one, bf1, isi_str, isi_tup, isStr, isTupD, asD, truD, cmpD, cmpOp, eqE, nilEq, solid, endD, slOf, dOf, toInt, seqOf, seqE, seqS, seqJ, setTg, setTgs, List.mapM_cons, List.mapM_nil, Option.bind, Option.map, exx_expr, n, fa, optD, isD, raise_bd]
end
end Kk03
end
section
set_option Elab.async false
set_option linter.all false
set_option maxRecDepth 100000
set_option maxHeartbeats 4000000
namespace Kk03
open PySem PySem.Spec L2 PD

-- how big the whole numbers are, how long the tuples
mutual
def smI (L : Nat) : D → Bool
  | .int i => decide (i ≤ 10 ^ 30) && decide (-(10 ^ 30) ≤ i)
  | .tuple xs => decide (xs.length ≤ L) && smIs L xs
  | .list xs => smIs L xs
  | _ => true
def smIs (L : Nat) : List D → Bool
  | [] => true
  | x :: xs => smI L x && smIs L xs
end
mutual
theorem smI_mono {L L' : Nat} (h : L ≤ L') : ∀ d : D, smI L d = true → smI L' d = true
  | .tuple xs, q => by
    simp only [smI, Bool.and_eq_true, decide_eq_true_eq] at q ⊢
    exact ⟨by omega, smIs_mono h xs q.2⟩
  | .list xs, q => by
    simp only [smI] at q ⊢
    exact smIs_mono h xs q
  | .int i, q => by simpa only [smI] using q
  | .none, _ => rfl
  | .bool _, _ => rfl
  | .str _, _ => rfl
  | .dict _, _ => rfl
theorem smIs_mono {L L' : Nat} (h : L ≤ L') : ∀ xs : List D, smIs L xs = true → smIs L' xs = true
  | [], _ => rfl
  | x :: xs, q => by
    simp only [smIs, Bool.and_eq_true] at q ⊢
    exact ⟨smI_mono h x q.1, smIs_mono h xs q.2⟩
end
structure Bd (n w L : Nat) (d : D) : Prop where
  dep : d.depth ≤ n
  wt : d.weight ≤ w
  sm : smI L d = true
def odd1 : List D := [.none, .bool true, .bool false, .int 0, .int 1, .int 2, .int 7, .int (-1), .int (-2), .str "", .str "shell", .str "nobody", .str "Shell", .str "job", .str "plain", .str "raw", .str "none"]
def odd2 : List D := [.str "fore", .str "runs", .str "stopped", .str "ended", .str "end", .str "stop", .tuple [], .list [], .dict [], .tuple [.int 0], .int 1000000000000000000000000000000, .tuple [.tuple [.int 0, .int 0]], .str "front"]
def odds : List D := odd1 ++ odd2
theorem odd_bd : ∀ x ∈ odds, Bd 3 200 2 x := by
  have key : odds.all (fun x => decide (x.depth ≤ 3) && (decide (x.weight ≤ 200) && smI 2 x)) = true := by decide +kernel
  intro x hx
  have := List.all_eq_true.mp key x hx
  simp only [Bool.and_eq_true, decide_eq_true_eq] at this
  exact ⟨this.1, this.2.1, this.2.2⟩
theorem law_odd (f : Nat) {k : Int} (hk : k < 1000000) {g : Gen} (hg : G k g) : ∃ x g', callF wd 100 progD (f + 3) 35 [.gn] g = .ok x g' ∧ x ∈ odds ∧ G (k + 1) g' := by
  have hs : ∀ n : Nat, n ≤ 100 → n ≤ sizeLine := fun n h => by rw [sizeLine_eq]; omega
  obtain ⟨x, g', e, hx, hg'⟩ := PD.law_of (wd := wd) q23 q24 f (xs := odds) (by simp [odds, odd1]) (by decide) hk hg
  refine ⟨x, g', ?_, hx, hg'⟩
  have p30 : powD (.int 10) (.int 30) = some (.int 1000000000000000000000000000000) := by rfl
  rw [callF_tx q35]
  have ed : ∀ es env, ev ⟨callF wd 100 progD (f + 2), wd⟩ (.dict [] es) env = (evs ⟨callF wd 100 progD (f + 2), wd⟩ es env).bd fun xs => (M.ofO (xs.mapM dOf)).bd fun ds => if ([] : List Str).length = ds.length ∧ ([] : List Str).Nodup ∧ ([] : List Str).length ≤ 15 then .pu (.d (.dict ((([] : List Str).map PyData.str).zip ds))) else .stuck := fun es env => by simp only [ev]
  have a1 : addD (.list odd1) (.list odd2) = some (.list odds) := by
    simp only [addD]; rw [if_pos (hs _ (by decide))]; rfl
  have e1 : ∀ g, exS ⟨callF wd 100 progD (f + 2), wd⟩ 100 O1 [.gn, .un] g = .ok (.nx [.gn, .fz (.list odd1)]) g := fun g => by
    simp [O1, ofO_some, M.pu_bd, exsx_nil, exsx_cons, exx_asg, exx_par, exx_ret, exx_retN, exx_iff, exx_for, exx_whl, exx_raise, exx_gput, evx_c, evx_v, evx_bin, evx_cmp, evx_chain, evx_and, evx_or, evx_not, evx_tup, evx_lst, evx_ix, evx_sl, evx_bf, evx_call, evx_gix, evx_ite, evsx_nil, evsx_cons, evT, evO, evOT, Env.get, bf_one, bf1, isi_str, isi_tup, isStr, isTupD, asD, truD, cmpD, cmpOp, eqE, nilEq, solid, endD, slOf, dOf, toInt, seqOf, seqE, seqS, seqJ, setTg, setTgs, List.mapM_cons, List.mapM_nil, Option.bind, Option.map, bd_ap, pu_ap, hs, odd1, evx_neg]
  have e2 : ∀ g, ev ⟨callF wd 100 progD (f + 2), wd⟩ O2 [.gn, .fz (.list odd1)] g = .ok (.d (.list odd2)) g := fun g => by
    simp [O2, ofO_some, M.pu_bd, exsx_nil, exsx_cons, exx_asg, exx_par, exx_ret, exx_retN, exx_iff, exx_for, exx_whl, exx_raise, exx_gput, evx_c, evx_v, evx_bin, evx_cmp, evx_chain, evx_and, evx_or, evx_not, evx_tup, evx_lst, evx_ix, evx_sl, evx_bf, evx_call, evx_gix, evx_ite, evsx_nil, evsx_cons, evT, evO, evOT, Env.get, bf_one, bf1, isi_str, isi_tup, isStr, isTupD, asD, truD, cmpD, cmpOp, eqE, nilEq, solid, endD, slOf, dOf, toInt, seqOf, seqE, seqS, seqJ, setTg, setTgs, List.mapM_cons, List.mapM_nil, Option.bind, Option.map, bd_ap, pu_ap, hs, odd2, ed, binD, opD, p30]
  have el : l__law_odd = [O1, .asg (.n 1) (.bin .Add (.v 1) O2), .ret (.call 24 [.v 0, .v 1])] := rfl
  rw [el]
  show (exSs _ 100 _ [.gn, .un]).bd endD g = _
  rw [bd_ap, sq (e1 g)]
  generalize hO : O2 = o2 at e2
  have e3 : exS ⟨callF wd 100 progD (f + 2), wd⟩ 100 (.asg (.n 1) (.bin .Add (.v 1) o2)) [.gn, .fz (.list odd1)] g = .ok (.nx [.gn, .fz (.list odds)]) g := by
    simp [ofO_some, M.pu_bd, exsx_nil, exsx_cons, exx_asg, exx_par, exx_ret, exx_retN, exx_iff, exx_for, exx_whl, exx_raise, exx_gput, evx_c, evx_v, evx_bin, evx_cmp, evx_chain, evx_and, evx_or, evx_not, evx_tup, evx_lst, evx_ix, evx_sl, evx_bf, evx_call, evx_gix, evx_ite, evsx_nil, evsx_cons, evT, evO, evOT, Env.get, bf_one, bf1, isi_str, isi_tup, isStr, isTupD, asD, truD, cmpD, cmpOp, eqE, nilEq, solid, endD, slOf, dOf, toInt, seqOf, seqE, seqS, seqJ, setTg, setTgs, List.mapM_cons, List.mapM_nil, Option.bind, Option.map, bd_ap, pu_ap, e2, binD, opD, a1]
  rw [sq e3]
  simp [ofO_some, M.pu_bd, exsx_nil, exsx_cons, exx_asg, exx_par, exx_ret, exx_retN, exx_iff, exx_for, exx_whl, exx_raise, exx_gput, evx_c, evx_v, evx_bin, evx_cmp, evx_chain, evx_and, evx_or, evx_not, evx_tup, evx_lst, evx_ix, evx_sl, evx_bf, evx_call, evx_gix, evx_ite, evsx_nil, evsx_cons, evT, evO, evOT, Env.get, bf_one, bf1, isi_str, isi_tup, isStr, isTupD, asD, truD, cmpD, cmpOp, eqE, nilEq, solid, endD, slOf, dOf, toInt, seqOf, seqE, seqS, seqJ, setTg, setTgs, List.mapM_cons, List.mapM_nil, Option.bind, Option.map, bd_ap, pu_ap, e]
end Kk03
end
section
set_option Elab.async false
set_option linter.all false
set_option maxRecDepth 100000
set_option maxHeartbeats 4000000
namespace Kk03
open PySem PySem.Spec L2 PD

theorem Bd.mono {n w L n' w' L' : Nat} {d : D} (h : Bd n w L d) (a : n ≤ n') (b : w ≤ w') (c : L ≤ L') : Bd n' w' L' d := ⟨Nat.le_trans h.dep a, Nat.le_trans h.wt b, smI_mono c d h.sm⟩
theorem app_sm {L : Nat} : ∀ a b : List D, smIs L (a ++ b) = (smIs L a && smIs L b)
  | [], b => by simp [smIs]
  | x :: a, b => by simp [smIs, app_sm a b, Bool.and_assoc]
theorem app_dep : ∀ a b : List D, PyData.depthAll (a ++ b) = max (PyData.depthAll a) (PyData.depthAll b)
  | [], b => by simp [PyData.depthAll]
  | x :: a, b => by simp only [List.cons_append, PyData.depthAll, app_dep a b]; omega
theorem app_wt : ∀ a b : List D, PyData.weightAll (a ++ b) = PyData.weightAll a + PyData.weightAll b
  | [], b => by simp [PyData.weightAll]
  | x :: a, b => by simp only [List.cons_append, PyData.weightAll, app_wt a b]; omega
theorem wt_len : ∀ xs : List D, xs.length ≤ PyData.weightAll xs
  | [] => by simp
  | x :: xs => by have := wt_len xs; simp only [List.length_cons, PyData.weightAll]; omega
theorem split_at {xs : List D} {v : Int} (h0 : 0 ≤ v) (h1 : v < xs.length) : ∃ l x r, xs = l ++ x :: r ∧ v = l.length := by
  have hn : v.toNat < xs.length := by omega
  refine ⟨xs.take v.toNat, xs[v.toNat], xs.drop (v.toNat + 1), ?_, ?_⟩
  · rw [List.getElem_cons_drop, List.take_append_drop]
  · rw [List.length_take]; omega
theorem cut_l (l : List D) (x : D) (r : List D) : cutD (l ++ x :: r) none (some (l.length : Int)) = l := by
  have h : ¬ ((l.length : Int) < 0) := by omega
  have h2 : min l.length (l ++ x :: r).length = l.length := by simp
  unfold cutD HT.sIx
  simp [h]
theorem cut_r (l : List D) (x : D) (r : List D) : cutD (l ++ x :: r) (some (l.length : Int)) none = x :: r := by
  have h : ¬ ((l.length : Int) < 0) := by omega
  unfold cutD HT.sIx
  simp [h]
theorem cut_rr (l : List D) (x : D) (r : List D) : cutD (l ++ x :: r) (some ((l.length : Int) + 1)) none = r := by
  have h : ¬ ((l.length : Int) + 1 < 0) := by omega
  have h3 : ((l.length : Int) + 1).toNat = l.length + 1 := by omega
  unfold cutD HT.sIx
  simp only [h, if_false, h3]
  have h2 : min (l.length + 1) (l ++ x :: r).length = l.length + 1 := by simp
  rw [h2]
  have e : l ++ x :: r = (l ++ [x]) ++ r := by simp
  have e2 : l.length + 1 = (l ++ [x]).length := by simp
  rw [e, e2, List.drop_left, List.take_of_length_le (by simp; omega)]
theorem it_mid (l : List D) (x : D) (r : List D) : itD (.tuple (l ++ x :: r)) (.int (l.length : Int)) = some x := by
  have h : (l.length : Int) < ((l ++ x :: r).length : Int) := by simp; omega
  have h0 : (0 : Int) ≤ (l.length : Int) := by omega
  simp only [itD, atI, ixN, h, h0, if_true]
  simp
theorem eqE_nil (xs : List D) : eqE (.tuple xs) (.tuple []) = some xs.isEmpty := by
  unfold eqE
  cases h : eqD (.tuple xs) (.tuple []) with
  | none => rfl
  | some k =>
    unfold eqD at h
    split at h
    · cases h
      rw [eqv_nilT]
    · cases h
theorem eqE_int (i j : Int) : eqE (.int i) (.int j) = some (i == j) := by
  unfold eqE
  rw [show eqD (.int i) (.int j) = some (i == j) from by simp [eqD, shi, eqi]]
theorem add_t {a b : List D} (h : a.length + b.length ≤ sizeLine) : addD (.tuple a) (.tuple b) = some (.tuple (a ++ b)) := by
  simp only [addD]; rw [if_pos h]
theorem law_bent : ∀ (n mm : Nat), n ≤ mm → ∀ (d : D) (w L : Nat) (k : Int) (g : Gen), Bd n w L d → 1 ≤ L → n ≤ 30 → w ≤ 150000 → k + 3 * n < 600000 → G k g → ∃ d' g', callF wd 100 progD (mm + 4) 36 [.gn, .d d] g = .ok d' g' ∧ Bd (n + 3) (2 * w + 300) (L + 1) d' ∧ G (k + 3 * n + 5) g' := by
  have h1s : (1 : Nat) ≤ sizeLine := one_s
  intro n
  induction n with
  | zero =>
    intro mm hM d w L k g hd hL hn hw hk hg
    obtain ⟨x, g1, e, hx, hg1⟩ := law_odd mm (by omega) hg
    have hb := (odd_bd x hx).mono (n' := 0 + 3) (w' := 2 * w + 300) (L' := L + 1) (by omega) (by omega) (by omega)
    refine ⟨x, g1, ?_, hb, ⟨hg1.gl, hg1.t0, by have := hg1.tk; omega⟩⟩
    rw [callF_tx q36]
    cases d with
    | tuple xs =>
      have := hd.dep
      simp only [PyData.depth] at this
      omega
    | _ => simp [l__law_bent, ofO_some, M.pu_bd, exsx_nil, exsx_cons, exx_asg, exx_par, exx_ret, exx_retN, exx_iff, exx_for, exx_whl, exx_raise, exx_gput, evx_c, evx_v, evx_bin, evx_cmp, evx_chain, evx_and, evx_or, evx_not, evx_tup, evx_lst, evx_ix, evx_sl, evx_bf, evx_call, evx_gix, evx_ite, evsx_nil, evsx_cons, evT, evO, evOT, Env.get, bf_one, bf1, isi_str, isi_tup, isStr, isTupD, asD, truD, cmpD, cmpOp, solid, endD, slOf, dOf, toInt, seqOf, seqE, seqS, seqJ, setTg, setTgs, List.mapM_cons, List.mapM_nil, Option.bind, Option.map, bd_ap, pu_ap, e]
  | succ n ih =>
    intro mm hM d w L k g hd hL hn hw hk hg
    rw [callF_tx q36]
    cases d with
    | tuple xs =>
      have sm := hd.sm
      have dep := hd.dep
      have wt := hd.wt
      simp only [smI, Bool.and_eq_true, decide_eq_true_eq] at sm
      obtain ⟨sl0, sm⟩ := sm
      have sm0 := sm
      have sm := smIs_mono (Nat.le_succ L) xs sm
      simp only [PyData.depth, PyData.weight] at dep wt
      have wl := wt_len xs
      by_cases hx0 : xs = []
      · subst hx0
        obtain ⟨x, g1, e, hx, hg1⟩ := law_odd mm (by omega) hg
        have hb := (odd_bd x hx).mono (n' := n + 1 + 3) (w' := 2 * w + 300) (L' := L + 1) (by omega) (by omega) (by omega)
        refine ⟨x, g1, ?_, hb, ⟨hg1.gl, hg1.t0, by have := hg1.tk; omega⟩⟩
        simp [l__law_bent, ofO_some, M.pu_bd, exsx_nil, exsx_cons, exx_asg, exx_par, exx_ret, exx_retN, exx_iff, exx_for, exx_whl, exx_raise, exx_gput, evx_c, evx_v, evx_bin, evx_cmp, evx_chain, evx_and, evx_or, evx_not, evx_tup, evx_lst, evx_ix, evx_sl, evx_bf, evx_call, evx_gix, evx_ite, evsx_nil, evsx_cons, evT, evO, evOT, Env.get, bf_one, bf1, isi_str, isi_tup, isStr, isTupD, asD, truD, cmpD, cmpOp, solid, endD, slOf, dOf, toInt, seqOf, seqE, seqS, seqJ, setTg, setTgs, List.mapM_cons, List.mapM_nil, Option.bind, Option.map, bd_ap, pu_ap, e, eqE_nil, zero_s]
      · have hxe : xs.isEmpty = false := by cases xs <;> simp_all
        have hxl : 0 < xs.length := List.length_pos_iff.mpr hx0
        obtain ⟨r0, g0, e0, a0, b0, hg0⟩ := PD.draw (wd := wd) q23 (mm + 2) 6 (by omega) (by omega) (by omega) hg
        by_cases hr0 : r0 = 0
        · subst hr0
          obtain ⟨x, g1, e, hx, hg1⟩ := law_odd mm (by omega) hg0
          have hb := (odd_bd x hx).mono (n' := n + 1 + 3) (w' := 2 * w + 300) (L' := L + 1) (by omega) (by omega) (by omega)
          refine ⟨x, g1, ?_, hb, ⟨hg1.gl, hg1.t0, by have := hg1.tk; omega⟩⟩
          simp [l__law_bent, ofO_some, M.pu_bd, exsx_nil, exsx_cons, exx_asg, exx_par, exx_ret, exx_retN, exx_iff, exx_for, exx_whl, exx_raise, exx_gput, evx_c, evx_v, evx_bin, evx_cmp, evx_chain, evx_and, evx_or, evx_not, evx_tup, evx_lst, evx_ix, evx_sl, evx_bf, evx_call, evx_gix, evx_ite, evsx_nil, evsx_cons, evT, evO, evOT, Env.get, bf_one, bf1, isi_str, isi_tup, isStr, isTupD, asD, truD, cmpD, cmpOp, solid, endD, slOf, dOf, toInt, seqOf, seqE, seqS, seqJ, setTg, setTgs, List.mapM_cons, List.mapM_nil, Option.bind, Option.map, bd_ap, pu_ap, e, e0, eqE_nil, eqE_int, hxe, zero_s]
        · obtain ⟨v2, g1, e1, a1, b1, hg1⟩ := PD.draw (wd := wd) q23 (mm + 2) xs.length (by omega) (by omega) (by omega) hg0
          obtain ⟨v3, g2, e2, a2, b2, hg2⟩ := PD.draw (wd := wd) q23 (mm + 2) 8 (by omega) (by omega) (by omega) hg1
          obtain ⟨l, x, r, rfl, rfl⟩ := split_at a1 b1
          have xsm : smI L x = true := by
            have q := sm0
            rw [app_sm] at q
            simp only [smIs, Bool.and_eq_true] at q
            exact q.2.1
          have hle : ((l ++ x :: r).length : Int) = l.length + (r.length + 1) := by simp
          rw [hle] at e1
          rw [app_sm] at sm
          rw [app_dep] at dep
          rw [app_wt] at wt
          simp only [smIs, Bool.and_eq_true] at sm
          simp only [PyData.depthAll, PyData.weightAll] at dep wt
          have ll : l.length + (x :: r).length ≤ 150000 := by
            have := wl
            rw [app_wt] at this
            simp only [PyData.weightAll, List.length_append] at this
            omega
          simp only [List.length_cons] at ll
          have sl : ∀ n : Nat, n ≤ 300010 → n ≤ sizeLine := fun n h => by rw [sizeLine_eq]; omega
          have ai : ∀ i j : Int, addD (.int i) (.int j) = some (.int (i + j)) := fun _ _ => rfl
          have ad1 := add_t (a := l) (b := r) (sl _ (by omega))
          have ad2 := add_t (a := l) (b := [x]) (sl _ (by simp; omega))
          have ad3 := add_t (a := l ++ [x]) (b := x :: r) (sl _ (by simp; omega))
          by_cases h30 : v3 = 0
          · subst h30
            refine ⟨.tuple (l ++ r), g2, ?_, ⟨?_, ?_, ?_⟩, ⟨hg2.gl, hg2.t0, by have := hg2.tk; omega⟩⟩
            · simp [l__law_bent, ofO_some, M.pu_bd, exsx_nil, exsx_cons, exx_asg, exx_par, exx_ret, exx_retN, exx_iff, exx_for, exx_whl, exx_raise, exx_gput, evx_c, evx_v, evx_bin, evx_cmp, evx_chain, evx_and, evx_or, evx_not, evx_tup, evx_lst, evx_ix, evx_sl, evx_bf, evx_call, evx_gix, evx_ite, evsx_nil, evsx_cons, evT, evO, evOT, Env.get, bf_one, bf1, isi_str, isi_tup, isStr, isTupD, asD, truD, cmpD, cmpOp, solid, endD, slOf, dOf, toInt, seqOf, seqE, seqS, seqJ, setTg, setTgs, List.mapM_cons, List.mapM_nil, Option.bind, Option.map, bd_ap, pu_ap, lenD, e0, e1, e2, hr0, eqE_nil, eqE_int, hxe, zero_s, slD, cut_l, cut_rr, binD, opD, ai, ad1]
            · simp only [PyData.depth]; rw [app_dep]; omega
            · simp only [PyData.weight]; rw [app_wt]; omega
            · simp only [smI, Bool.and_eq_true, decide_eq_true_eq]; refine ⟨by simp at sl0 ⊢; omega, ?_⟩; rw [app_sm]; simp [sm]
          · by_cases h31 : v3 = 1
            · subst h31
              refine ⟨.tuple (l ++ [x] ++ x :: r), g2, ?_, ⟨?_, ?_, ?_⟩, ⟨hg2.gl, hg2.t0, by have := hg2.tk; omega⟩⟩
              · simp [l__law_bent, ofO_some, M.pu_bd, exsx_nil, exsx_cons, exx_asg, exx_par, exx_ret, exx_retN, exx_iff, exx_for, exx_whl, exx_raise, exx_gput, evx_c, evx_v, evx_bin, evx_cmp, evx_chain, evx_and, evx_or, evx_not, evx_tup, evx_lst, evx_ix, evx_sl, evx_bf, evx_call, evx_gix, evx_ite, evsx_nil, evsx_cons, evT, evO, evOT, Env.get, bf_one, bf1, isi_str, isi_tup, isStr, isTupD, asD, truD, cmpD, cmpOp, solid, endD, slOf, dOf, toInt, seqOf, seqE, seqS, seqJ, setTg, setTgs, List.mapM_cons, List.mapM_nil, Option.bind, Option.map, bd_ap, pu_ap, lenD, e0, e1, e2, hr0, h1s, ixD, it_mid, eqE_nil, eqE_int, hxe, zero_s, slD, cut_l, cut_r, binD, opD, ad2, ad3, -List.append_assoc]
              · simp only [PyData.depth]; rw [app_dep, app_dep]; simp only [PyData.depthAll]; omega
              · simp only [PyData.weight]; rw [app_wt, app_wt]; simp only [PyData.weightAll]; omega
              · simp only [smI, Bool.and_eq_true, decide_eq_true_eq]; refine ⟨by simp at sl0 ⊢; omega, ?_⟩; rw [app_sm, app_sm]; simp [smIs, sm]
            · obtain ⟨m1, rfl⟩ : ∃ m1, mm = m1 + 1 := ⟨mm - 1, by omega⟩
              obtain ⟨y, g3, e3, hy, hg3⟩ := ih m1 (by omega) x x.weight L (k + 3) g2 ⟨by omega, Nat.le_refl _, xsm⟩ hL (by omega) (by omega) (by omega) ⟨hg2.gl, hg2.t0, by have := hg2.tk; omega⟩
              have ysm := hy.sm
              have ydep := hy.dep
              have ywt := hy.wt
              have e3' : callF wd 100 progD (m1 + 1 + 3) 36 [.gn, .d x] g2 = .ok y g3 := e3
              have ad4 := add_t (a := l) (b := [y]) (sl _ (by simp; omega))
              have ad5 := add_t (a := l ++ [y]) (b := r) (sl _ (by simp; omega))
              refine ⟨.tuple (l ++ [y] ++ r), g3, ?_, ⟨?_, ?_, ?_⟩, ⟨hg3.gl, hg3.t0, by have := hg3.tk; omega⟩⟩
              · simp [l__law_bent, ofO_some, M.pu_bd, exsx_nil, exsx_cons, exx_asg, exx_par, exx_ret, exx_retN, exx_iff, exx_for, exx_whl, exx_raise, exx_gput, evx_c, evx_v, evx_bin, evx_cmp, evx_chain, evx_and, evx_or, evx_not, evx_tup, evx_lst, evx_ix, evx_sl, evx_bf, evx_call, evx_gix, evx_ite, evsx_nil, evsx_cons, evT, evO, evOT, Env.get, bf_one, bf1, isi_str, isi_tup, isStr, isTupD, asD, truD, cmpD, cmpOp, solid, endD, slOf, dOf, toInt, seqOf, seqE, seqS, seqJ, setTg, setTgs, List.mapM_cons, List.mapM_nil, Option.bind, Option.map, bd_ap, pu_ap, lenD, e0, e1, e2, e3', hr0, h30, h31, h1s, ixD, it_mid, eqE_nil, eqE_int, hxe, zero_s, slD, cut_l, cut_rr, binD, opD, ai, ad4, ad5, -List.append_assoc]
              · simp only [PyData.depth]; rw [app_dep, app_dep]; simp only [PyData.depthAll]; omega
              · simp only [PyData.weight]; rw [app_wt, app_wt]; simp only [PyData.weightAll]; omega
              · simp only [smI, Bool.and_eq_true, decide_eq_true_eq]; refine ⟨by simp at sl0 ⊢; omega, ?_⟩; rw [app_sm, app_sm]; simp [smIs, sm, ysm]
    | _ =>
      obtain ⟨x, g1, e, hx, hg1⟩ := law_odd mm (by omega) hg
      have hb := (odd_bd x hx).mono (n' := n + 1 + 3) (w' := 2 * w + 300) (L' := L + 1) (by omega) (by omega) (by omega)
      refine ⟨x, g1, ?_, hb, ⟨hg1.gl, hg1.t0, by have := hg1.tk; omega⟩⟩
      simp [l__law_bent, ofO_some, M.pu_bd, exsx_nil, exsx_cons, exx_asg, exx_par, exx_ret, exx_retN, exx_iff, exx_for, exx_whl, exx_raise, exx_gput, evx_c, evx_v, evx_bin, evx_cmp, evx_chain, evx_and, evx_or, evx_not, evx_tup, evx_lst, evx_ix, evx_sl, evx_bf, evx_call, evx_gix, evx_ite, evsx_nil, evsx_cons, evT, evO, evOT, Env.get, bf_one, bf1, isi_str, isi_tup, isStr, isTupD, asD, truD, cmpD, cmpOp, solid, endD, slOf, dOf, toInt, seqOf, seqE, seqS, seqJ, setTg, setTgs, List.mapM_cons, List.mapM_nil, Option.bind, Option.map, bd_ap, pu_ap, e]
end Kk03
end
section
set_option Elab.async false
set_option linter.all false
set_option maxRecDepth 1000000
set_option maxHeartbeats 16000000
namespace Kk03
open PySem PySem.Spec L2 PD

structure Nk (dep w : Nat) (d : D) : Prop where
  sh : d.showable = true
  so : PyData.strOk d.shown = true
  ls : d.leavesShort 40 = true
  dp : d.depth ≤ dep
  wt : d.weight ≤ w
theorem so_app (a b : Str) : PyData.strOk (a ++ b) = (PyData.strOk a && PyData.strOk b) := by
  unfold PyData.strOk
  rw [Str.cps_append, Array.all_append]
theorem so_join {s : Str} (hs : PyData.strOk s = true) : ∀ ts : List Str, (∀ t ∈ ts, PyData.strOk t = true) → PyData.strOk (Str.join s ts) = true
  | [], _ => by show PyData.strOk Str.empty = true; decide +kernel
  | [x], h => h x (by simp)
  | x :: y :: r, h => by
    have e : Str.join s (x :: y :: r) = x ++ s ++ Str.join s (y :: r) := rfl
    rw [e, so_app, so_app, h x (by simp), hs, so_join hs (y :: r) (fun t ht => h t (by simp [ht]))]
    rfl
theorem so_of (s : String) : PyData.strOk (Str.ofString s) = true := by
  rw [Str.ofString_eq_toList]
  unfold PyData.strOk
  rw [← Array.all_toList]
  simp only [List.all_eq_true, decide_eq_true_eq, List.mem_map]
  rintro c ⟨ch, _, rfl⟩
  have := ch.valid
  rcases this with h | h
  · show ch.val.toNat < _
    have : ch.val.toNat < 0xd800 := h
    omega
  · show ch.val.toNat < _
    have : ch.val.toNat < 0x110000 := h.2
    omega
section
variable {dep w : Nat}
theorem nk_all : ∀ {xs : List D}, (∀ x ∈ xs, Nk dep w x) → PyData.showableAll xs = true ∧ (∀ t ∈ PyData.shownAll xs, PyData.strOk t = true) ∧ PyData.leavesShortAll 40 xs = true ∧ PyData.depthAll xs ≤ dep ∧ PyData.weightAll xs ≤ xs.length * (w + 1)
  | [], _ => by simp [PyData.showableAll, PyData.shownAll, PyData.leavesShortAll, PyData.depthAll, PyData.weightAll]
  | x :: xs, h => by
    obtain ⟨a1, a3, a4, a6, a7⟩ := nk_all (xs := xs) fun y hy => h y (by simp [hy])
    have b := h x (by simp)
    refine ⟨by simp [PyData.showableAll, a1, b.sh], ?_, by simp [PyData.leavesShortAll, a4, b.ls], ?_, ?_⟩
    · intro t ht
      rw [PyData.shownAll_cons] at ht
      rcases List.mem_cons.mp ht with rfl | ht
      · exact b.so
      · exact a3 t ht
    · have := b.dp
      simp only [PyData.depthAll]
      omega
    · have := b.wt
      simp only [PyData.weightAll, List.length_cons, Nat.add_mul]
      omega
theorem nk_tup {xs : List D} (h : ∀ x ∈ xs, Nk dep w x) : Nk (dep + 1) (xs.length * (w + 1)) (.tuple xs) := by
  obtain ⟨a1, a3, a4, a6, a7⟩ := nk_all h
  refine ⟨by simp only [PyData.showable]; exact a1, ?_, by simp only [PyData.leavesShort]; exact a4, by simp only [PyData.depth]; omega, by simp only [PyData.weight]; exact a7⟩
  rw [PyData.shown_tuple, so_app, so_app, so_join (by decide +kernel) _ a3]
  split <;> decide +kernel
theorem Nk.mono {dep' w' : Nat} {d : D} (h : Nk dep w d) (a : dep ≤ dep') (b : w ≤ w') : Nk dep' w' d := ⟨h.sh, h.so, h.ls, Nat.le_trans h.dp a, Nat.le_trans h.wt b⟩
theorem nk_ok {d : D} (h : Nk 64 300000 d) : reprOk d = true ∧ PyData.strOk d.shown = true := by
  have hl := PyData.shown_le 40 (by decide) d h.ls
  have hw := h.wt
  refine ⟨?_, h.so⟩
  have hz : d.shown.length ≤ sizeLine := by rw [sizeLine_eq]; omega
  unfold reprOk
  simp [h.sh, h.dp, hz]
end
def FLATS : List D := [.bool true, .bool false, .str "runs", .str "stopped", .str "ended", .str "stop", .str "none", .str "end", .str "fore", .str "back", .str "front", .str "behind", .str "plain", .str "raw", .str "shell", .str "nobody"]
theorem nk_flat : ∀ x ∈ FLATS, Nk 0 110 x := by
  have key : FLATS.all (fun x => x.showable && (PyData.strOk x.shown && (x.leavesShort 40 && (decide (x.depth ≤ 0) && decide (x.weight ≤ 110))))) = true := by decide +kernel
  intro x hx
  have := List.all_eq_true.mp key x hx
  simp only [Bool.and_eq_true, decide_eq_true_eq] at this
  exact ⟨this.1, this.2.1, this.2.2.1, this.2.2.2.1, this.2.2.2.2⟩
theorem nk_int {i : Int} (h : smI 0 (.int i) = true) : Nk 0 110 (.int i) := by
  simp only [smI, Bool.and_eq_true, decide_eq_true_eq] at h
  have ha : i.natAbs ≤ 10 ^ 30 := by
    have e : ((10 : Int) ^ 30) = ((10 ^ 30 : Nat) : Int) := by decide +kernel
    rw [e] at h
    omega
  refine ⟨?_, so_of _, ?_, Nat.le_refl 0, ?_⟩
  rotate_left 2
  · simp only [PyData.weight]
    split
    · omega
    · rename_i z
      have z : i.natAbs ≠ 0 := by simpa using z
      have := (Nat.log2_lt (k := 100) z).mpr (Nat.lt_of_le_of_lt ha (by decide +kernel))
      omega
  · simp only [PyData.showable, decide_eq_true_eq]
    by_cases z : i.natAbs = 0
    · rw [z]; decide +kernel
    · exact (Nat.log2_lt z).mpr (Nat.lt_of_le_of_lt ha (by decide +kernel))
  · simp only [PyData.leavesShort, decide_eq_true_eq]
    have e := int_text_length_le10 (a := i) (k := 31) (by decide) (Nat.lt_of_le_of_lt ha (by decide +kernel))
    show (Str.ofString (toString i)).length ≤ 40
    rw [ofString_length]; omega
theorem sm_int {L : Nat} {i : Int} (h : smI L (.int i) = true) : smI 0 (.int i) = true := h
theorem smIs_mem {L : Nat} : ∀ {xs : List D}, smIs L xs = true → ∀ x ∈ xs, smI L x = true
  | y :: ys, h, x, hx => by
    simp only [smIs, Bool.and_eq_true] at h
    rcases List.mem_cons.mp hx with rfl | hx
    · exact h.1
    · exact smIs_mem h.2 x hx
theorem smI_len {L : Nat} {xs : List D} (h : smI L (.tuple xs) = true) : xs.length ≤ L ∧ smIs L xs = true := by
  simpa only [smI, Bool.and_eq_true, decide_eq_true_eq] using h
theorem nk_bool (b : Bool) : Nk 0 110 (.bool b) := nk_flat _ (by cases b <;> simp [FLATS])
theorem nk_job {L : Nat} {ks : List D} {jb : D} (ok : JobOk ks jb) (hs : smI L jb = true) : Nk 1 666 jb := by
  obtain ⟨kd, pl, ow, sw, no, he, acts, rfl, _, _, _, _, _, hsn⟩ := ok.ex
  have hm := smIs_mem (smI_len hs).2
  have nq : Nk 0 110 (.str sw) ∧ Nk 0 110 (.str no) := by
    simp only [stNo, List.mem_cons, List.not_mem_nil, or_false, Prod.mk.injEq] at hsn
    rcases hsn with ⟨rfl, rfl⟩ | ⟨rfl, rfl⟩ | ⟨rfl, rfl⟩ | ⟨rfl, rfl⟩ | ⟨rfl, rfl⟩ <;> exact ⟨nk_flat _ (by simp [FLATS]), nk_flat _ (by simp [FLATS])⟩
  refine nk_tup (dep := 0) (w := 110) (xs := [.int kd, .int pl, .bool ow, .str sw, .str no, .bool he]) fun x hx => ?_
  have h := hm x hx
  simp only [List.mem_cons, List.not_mem_nil, or_false] at hx
  rcases hx with rfl | rfl | rfl | rfl | rfl | rfl
  · exact nk_int (sm_int h)
  · exact nk_int (sm_int h)
  · exact nk_bool _
  · exact nq.1
  · exact nq.2
  · exact nk_bool _
theorem nk_jobs {L : Nat} {ks : List D} {hi : Int} {js : List D} (h : Js ks hi 0 js) (hs : smI L (.tuple js) = true) : Nk 3 (L * 1335 + 300) (.tuple js) := by
  obtain ⟨hl, hm⟩ := smI_len hs
  refine (nk_tup (dep := 2) (w := 1334) (xs := js) fun x hx => ?_).mono (by omega) (by omega)
  have hx2 := smIs_mem hm x hx
  obtain ⟨j, jb, rfl, _, _, ok⟩ := h.all x hx
  have hp := smIs_mem (smI_len hx2).2
  refine nk_tup (dep := 1) (w := 666) (xs := [.int j, jb]) fun y hy => ?_
  have h := hp y hy
  simp only [List.mem_cons, List.not_mem_nil, or_false] at hy
  rcases hy with rfl | rfl
  · exact (nk_int (sm_int h)).mono (by omega) (by omega)
  · exact nk_job ok h
theorem nk_std {L : Nat} {ks : List D} {A B C E : List D} (hks : ∀ x ∈ ks, ∃ xs : List D, x = .tuple xs) {x : D} (hs : smI L x = true) (h : stF ks A B C E x = none) : Nk 4 (7 * (L * 1335 + 301)) x := by
  unfold stF at h
  split at h
  · rename_i w pl fr md hd mk js
    unfold stF7 at h
    split at h
    · rename_i ws
      split at h
      · cases h
      rename_i c1
      split at h
      · cases h
      rename_i c2
      split at h
      · cases h
      rename_i c3
      split at h
      · rename_i m
        split at h
        · cases h
        split at h
        · rename_i xs
          split at h
          · cases h
          rename_i c5
          split at h
          · cases h
          rename_i c6
          split at h
          · cases h
          rename_i c7
          have hm := smIs_mem (smI_len hs).2
          have hj := jsB_ok hks xs (by simpa using c5)
          have c1 : ws ∈ words5 := by simpa using c1
          have nw : Nk 3 (L * 1335 + 300) (.str ws) := by
            simp only [words5, List.mem_cons, List.not_mem_nil, or_false] at c1
            rcases c1 with rfl | rfl | rfl | rfl | rfl <;> exact (nk_flat _ (by simp [FLATS])).mono (by omega) (by omega)
          have nm : Nk 3 (L * 1335 + 300) md := by
            obtain ⟨w, rfl, hw⟩ := word_of (by simpa using c3)
            simp only [List.mem_cons, List.not_mem_nil, or_false] at hw
            rcases hw with rfl | rfl <;> exact (nk_flat _ (by simp [FLATS])).mono (by omega) (by omega)
          obtain ⟨p, rfl, _, _⟩ := below_of (by simpa using c2)
          have nh : Nk 3 (L * 1335 + 300) hd := by
            have c7 : handB ws xs hd = true := by simpa using c7
            cases hd with
            | int n => exact (nk_int (sm_int (hm _ (by simp)))).mono (by omega) (by omega)
            | _ => cases c7
          have nf : Nk 3 (L * 1335 + 300) fr := by
            have c6 : frontB xs fr = true := by simpa using c6
            cases q : wordB fr ["shell", "nobody"] with
            | true =>
              obtain ⟨w, rfl, hw⟩ := word_of q
              simp only [List.mem_cons, List.not_mem_nil, or_false] at hw
              rcases hw with rfl | rfl <;> exact (nk_flat _ (by simp [FLATS])).mono (by omega) (by omega)
            | false =>
              unfold frontB at c6
              rw [q] at c6
              cases fr with
              | int n => exact (nk_int (sm_int (hm _ (by simp)))).mono (by omega) (by omega)
              | _ => cases c6
          refine (nk_tup (dep := 3) (w := L * 1335 + 300) (xs := [.str ws, .int p, fr, md, hd, .int m, .tuple xs]) fun y hy => ?_).mono (by omega) (Nat.le_of_eq rfl)
          have h := hm y hy
          simp only [List.mem_cons, List.not_mem_nil, or_false] at hy
          rcases hy with rfl | rfl | rfl | rfl | rfl | rfl | rfl
          · exact nw
          · exact (nk_int (sm_int h)).mono (by omega) (by omega)
          · exact nf
          · exact nm
          · exact nh
          · exact (nk_int (sm_int h)).mono (by omega) (by omega)
          · exact nk_jobs hj h
        · cases h
      · cases h
    · cases h
  · cases h
theorem ixl0 (a : D) (t : List D) : itD (.list (a :: t)) (.int 0) = some a := by simp [itD, atI, ixN]
theorem so_standing : PyData.strOk ("standing" : Str) = true := by decide +kernel
theorem pl_ok : ∀ p ∈ PL, SeqAt.shaped (.list [p]) = true ∧ SeqAt.shaped (.tuple [.str "standing", p]) = true ∧ PyData.eqv (.tuple [.str "standing", p]) (.tuple [.str "standing", p]) = true := by
  have key : PL.all (fun p => SeqAt.shaped (.list [p]) && (SeqAt.shaped (.tuple [.str "standing", p]) && PyData.eqv (.tuple [.str "standing", p]) (.tuple [.str "standing", p]))) = true := by decide +kernel
  intro p hp
  have := List.all_eq_true.mp key p hp
  simpa only [Bool.and_eq_true] using this
section
variable {ks : List D} {r : D} {A B C E : List D}
theorem law_right (f : Nat) (e : setupF (SU ks r A B C E) = none) (hks : ∀ x ∈ ks, ∃ xs : List D, x = .tuple xs) {L : Nat} (hL : L ≤ 20) {x : D} (hs : smI L x = true) : callF wd 100 progD (f + 7) 34 [.d (SU ks r A B C E), .d x] = .pu (.bool true) := by
  have h2s : (2 : Nat) ≤ sizeLine := by rw [sizeLine_eq]; omega
  have hF : callF wd 100 progD (f + 6) 33 [.d (SU ks r A B C E), .d x] = .pu (toL (stF ks A B C E x)) := lw_fault (f + 2) hks x (fun w pl fr md hd m js q => by
    subst q
    have := smIs_mem (smI_len hs).2 (.int m) (by simp)
    simp only [smI, Bool.and_eq_true, decide_eq_true_eq] at this
    exact Int.le_trans this.1 (by decide +kernel)) (fun w pl fr md hd m js q => by
    subst q
    have := smIs_mem (smI_len hs).2 (.tuple js) (by simp)
    have := (smI_len this).1
    omega)
  have h8 := is_st (r := r) f e hks x
  have h9 := need_any (r := r) f e hks x
  have lb : ∀ b : Bool, reprD (.bool b) = some (.str (PyData.bool b).shown) := fun b => by cases b <;> rfl
  have sb : ∀ b : Bool, SeqAt.shaped (.str (PyData.bool b).shown) = true := fun b => by cases b <;> decide +kernel
  have es : ∀ x : Str, PyData.eqv (.str x) (.str x) = true := fun x => by simp [PyData.eqv]
  have hsn : SeqAt.shaped (.list []) = true := by decide
  rw [callF_tx q34]
  cases e1 : stF ks A B C E x with
  | none =>
    obtain ⟨ro, so⟩ := nk_ok ((nk_std hks hs e1).mono (by omega) (by omega))
    have rd : reprD x = some (.str x.shown) := by unfold reprD; rw [if_pos ro]
    have sd : SeqAt.shaped (.str x.shown) = true := by
      unfold SeqAt.shaped
      simp [PyData.canLay0, PyData.depth, so]
    rw [e1] at h8 h9 hF
    generalize SU ks r A B C E = su at *
    simp [l__law_right, ofO_some, M.pu_bd, exsx_nil, exsx_cons, exx_asg, exx_par, exx_ret, exx_retN, exx_iff, exx_for, exx_whl, exx_raise, exx_gput, evx_c, evx_v, evx_bin, evx_cmp, evx_chain, evx_and, evx_or, evx_not, evx_tup, evx_lst, evx_ix, evx_sl, evx_bf, evx_call, evx_gix, evx_ite, evsx_nil, evsx_cons, evT, evO, evOT, Env.get, bf_one, bf1, isi_str, isi_tup, isStr, isTupD, asD, truD, cmpD, cmpOp, eqE, nilEq, solid, endD, slOf, dOf, toInt, seqOf, seqE, seqS, seqJ, setTg, setTgs, List.mapM_cons, List.mapM_nil, Option.bind, Option.map, hF, h8, h9, toL, eqD, hsn, eqv_nil, lb, sb, es, rd, sd, zero_s, one_s, h2s]
  | some p =>
    obtain ⟨s1, s2, s3⟩ := pl_ok p (stF_form e1)
    rw [e1] at h8 h9 hF
    have sa := fun env (hc : ev ⟨callF wd 100 progD (f + 6), wd⟩ (.call 21 [.v 0, .v 1]) env = M.raise "BadStanding" p) => said_er (F := ⟨callF wd 100 progD (f + 6), wd⟩) rfl hc wd_standing
    have hc : ∀ s2 : Sl, ev ⟨callF wd 100 progD (f + 6), wd⟩ (.call 21 [.v 0, .v 1]) [.fz (SU ks r A B C E), .fz x, s2] = M.raise "BadStanding" p := fun s2 => by
      rw [evx_call]
      generalize SU ks r A B C E = su at *
      simp [ofO_some, M.pu_bd, exsx_nil, exsx_cons, exx_asg, exx_par, exx_ret, exx_retN, exx_iff, exx_for, exx_whl, exx_raise, exx_gput, evx_c, evx_v, evx_bin, evx_cmp, evx_chain, evx_and, evx_or, evx_not, evx_tup, evx_lst, evx_ix, evx_sl, evx_bf, evx_call, evx_gix, evx_ite, evsx_nil, evsx_cons, evT, evO, evOT, Env.get, bf_one, bf1, isi_str, isi_tup, isStr, isTupD, asD, truD, cmpD, cmpOp, eqE, nilEq, solid, endD, slOf, dOf, toInt, seqOf, seqE, seqS, seqJ, setTg, setTgs, List.mapM_cons, List.mapM_nil, Option.bind, Option.map, h9, raise_bd]
    have hs := fun s2 : Sl => sa _ (hc s2)
    generalize SU ks r A B C E = su at *
    simp [l__law_right, ofO_some, M.pu_bd, exsx_nil, exsx_cons, exx_asg, exx_par, exx_ret, exx_retN, exx_iff, exx_for, exx_whl, exx_raise, exx_gput, evx_c, evx_v, evx_bin, evx_cmp, evx_chain, evx_and, evx_or, evx_not, evx_tup, evx_lst, evx_ix, evx_sl, evx_bf, evx_call, evx_gix, evx_ite, evsx_nil, evsx_cons, evT, evO, evOT, Env.get, bf_one, bf1, isi_str, isi_tup, isStr, isTupD, asD, truD, cmpD, cmpOp, eqE, nilEq, solid, endD, slOf, dOf, toInt, seqOf, seqE, seqS, seqJ, setTg, setTgs, List.mapM_cons, List.mapM_nil, Option.bind, Option.map, hF, h8, hs, toL, eqD, hsn, eqv_nil, lb, sb, es, s1, s2, s3, zero_s, one_s, h2s, ixl0, ixD]
end
end Kk03
end
section
set_option Elab.async false
set_option linter.all false
set_option maxRecDepth 1000000
set_option maxHeartbeats 8000000
namespace Kk03
open PySem PySem.Spec L2 PD

theorem sm_small {L : Nat} {i : Int} (h0 : -100 ≤ i) (h1 : i ≤ 100) : smI L (.int i) = true := by
  simp only [smI, Bool.and_eq_true, decide_eq_true_eq]
  have e : (100 : Int) ≤ 10 ^ 30 := by decide +kernel
  have e2 : -(10 ^ 30 : Int) ≤ -100 := by decide +kernel
  exact ⟨Int.le_trans h1 e, Int.le_trans e2 h0⟩
theorem sm_tup {L : Nat} {xs : List D} (hl : xs.length ≤ L) (h : ∀ x ∈ xs, smI L x = true) : smI L (.tuple xs) = true := by
  simp only [smI, Bool.and_eq_true, decide_eq_true_eq]
  refine ⟨hl, ?_⟩
  clear hl
  induction xs with
  | nil => rfl
  | cons x xs ih =>
    simp only [smIs, Bool.and_eq_true]
    exact ⟨h x (by simp), ih fun y hy => h y (by simp [hy])⟩
theorem sm_str {L : Nat} (w : Str) : smI L (.str w) = true := by simp only [smI]
theorem sm_bool {L : Nat} (b : Bool) : smI L (.bool b) = true := by simp only [smI]
section
variable {ks : List D} {r : D} {A B C E : List D} {w : Str} {pl : Int} {fr : D} {md : Str} {hd mk : Int} {js : List D}
theorem job_sm (k3 : ks.length ≤ 3) (hks : ∀ x ∈ ks, ∃ xs : List D, x = .tuple xs ∧ xs.length ≤ 5) {jb : D} (ok : JobOk ks jb) : smI 7 jb = true := by
  obtain ⟨kd, p, own, st, no, he, acts, rfl, kd0, kdl, kda, p0, pl5, hq⟩ := ok.ex
  obtain ⟨xs, hxs, l5⟩ := hks _ (List.mem_of_getElem? kda)
  cases hxs
  refine sm_tup (by show 6 ≤ 7; omega) fun x hx => ?_
  simp only [List.mem_cons, List.not_mem_nil, or_false] at hx
  rcases hx with rfl | rfl | rfl | rfl | rfl | rfl
  · exact sm_small (by omega) (by omega)
  · exact sm_small (by omega) (by omega)
  · exact sm_bool _
  · exact sm_str _
  · exact sm_str _
  · exact sm_bool _
theorem good_sm (k3 : ks.length ≤ 3) (hks : ∀ x ∈ ks, ∃ xs : List D, x = .tuple xs ∧ xs.length ≤ 5) (lA : A.length ≤ 6) (lB : B.length ≤ 6) (lC : C.length ≤ 6) (lE : E.length ≤ 6) (h : StdOk ks [.tuple A, .tuple B, .tuple C, .tuple E] w pl fr md hd mk js) (m5 : mk ≤ 5) (l4 : js.length ≤ 4) : smI 7 (stT w pl fr md hd mk js) = true := by
  have jn : ∀ {j : Int} {jb : D}, pairD j jb ∈ js → 0 ≤ j ∧ j < 5 := fun hm => by
    obtain ⟨_, g0, g1, _⟩ := h.jobs.ge hm
    omega
  have hpl : 0 ≤ pl ∧ pl ≤ 6 := by
    rcases h.place with ⟨_, rfl⟩ | ⟨i, sc, _, hi, p0, p1⟩
    · omega
    · have : sc.length ≤ 6 := by
        have := List.mem_of_getElem? hi
        simp only [List.mem_cons, List.not_mem_nil, or_false, PyData.tuple.injEq] at this
        rcases this with rfl | rfl | rfl | rfl <;> assumption
      omega
  refine sm_tup (by show 7 ≤ 7; omega) fun x hx => ?_
  simp only [List.mem_cons, List.not_mem_nil, or_false] at hx
  rcases hx with rfl | rfl | rfl | rfl | rfl | rfl | rfl
  · exact sm_str _
  · exact sm_small (by omega) (by omega)
  · rcases h.front with rfl | rfl | ⟨j, jb, kd, pl', st, no, he, rfl, hm, _⟩
    · exact sm_str _
    · exact sm_str _
    · have := jn hm
      exact sm_small (by omega) (by omega)
  · exact sm_str _
  · rcases h.hand with rfl | ⟨_, jb, hm⟩
    · exact sm_small (by omega) (by omega)
    · have := jn hm
      exact sm_small (by omega) (by omega)
  · have := h.made
    exact sm_small (by omega) (by omega)
  · refine sm_tup (by omega) fun x hx => ?_
    obtain ⟨j, jb, rfl, g0, g1, ok⟩ := h.jobs.all x hx
    refine sm_tup (by show 2 ≤ 7; omega) fun y hy => ?_
    simp only [List.mem_cons, List.not_mem_nil, or_false] at hy
    rcases hy with rfl | rfl
    · exact sm_small (by omega) (by omega)
    · exact job_sm k3 hks ok
theorem good_none (h5 : ∀ x ∈ ks, ∃ xs : List D, x = .tuple xs) (h : StdOk ks [.tuple A, .tuple B, .tuple C, .tuple E] w pl fr md hd mk js) (g : Gen) : stF ks A B C E (stT w pl fr md hd mk js) = none := by
  have a := standing_ok sg 0 (r := .none) (ss := [.tuple A, .tuple B, .tuple C, .tuple E]) rfl h
  have b := fault_any sg 0 (r := .none) (A := A) (B := B) (C := C) (E := E) h5 (stT w pl fr md hd mk js)
  have c := congrFun (a.symm.trans b) g
  cases q : stF ks A B C E (stT w pl fr md hd mk js) with
  | none => rfl
  | some p =>
    rw [q] at c
    have pf := stF_form q
    simp only [PL, List.mem_cons, List.not_mem_nil, or_false] at pf
    rcases pf with rfl | rfl | rfl | rfl | rfl | rfl | rfl | rfl <;> simp [M.pu, optD] at c
theorem good_bd (k3 : ks.length ≤ 3) (hks : ∀ x ∈ ks, ∃ xs : List D, x = .tuple xs ∧ xs.length ≤ 5) (lA : A.length ≤ 6) (lB : B.length ≤ 6) (lC : C.length ≤ 6) (lE : E.length ≤ 6) (h : StdOk ks [.tuple A, .tuple B, .tuple C, .tuple E] w pl fr md hd mk js) (m5 : mk ≤ 5) (l4 : js.length ≤ 4) (g : Gen) : Bd 4 67522 7 (stT w pl fr md hd mk js) := by
  have sm := good_sm k3 hks lA lB lC lE h m5 l4
  have h5 : ∀ x ∈ ks, ∃ xs : List D, x = .tuple xs := fun x hx => let ⟨xs, e, _⟩ := hks x hx; ⟨xs, e⟩
  have n := nk_std h5 sm (good_none h5 h g)
  exact ⟨n.dp, n.wt, sm⟩
end
end Kk03
end
section
set_option Elab.async false
set_option linter.all false
set_option maxRecDepth 1000000
set_option maxHeartbeats 8000000
namespace Kk03
open PySem PySem.Spec L2 PD

abbrev FF : Fns := ⟨callF wd 100 progD 30, wd⟩
def START : D := .tuple [.str "none", .int 0, .str "shell", .str "plain", .int (-1), .int 0, .tuple []]
def T0 : Sm := .asg (.n 3) (.call 26 [.v 1, .c (.int 3), .c (.int 5), .c (.int 6)])
def T1 : Sm := .asg (.n 4) (.call 28 [.v 1, .v 3])
def T2 : Sm := .iff (.or (.cmp .NotEq (.call 33 [.v 3, .v 4]) (.lst [])) (.or (.not (.call 34 [.v 3, .v 4])) (.not (.call 34 [.v 3, .c START])))) [.ret (.c (.bool false))] []
def T3 : Sm := .asgF 5 (.lst [.sl (.v 4) none (some (.c (.int 6))), .bin .Add (.v 4) (.tup [.c (.int 0)]), .bf .list [.v 4], .call 35 [.v 1], .call 28 [.v 1, .call 26 [.v 1, .c (.int 3), .c (.int 5), .c (.int 6)]]])
def A1 : Sm := .asg (.n 9) (.call 36 [.v 1, .v 4])
def A2 : Sm := .asgF 5 (.bin .Add (.v 5) (.lst [.v 9, .call 36 [.v 1, .v 9], .bin .Add (.bin .Add (.sl (.v 4) none (some (.c (.int 4)))) (.tup [.bin .Sub (.call 23 [.v 1, .c (.int 6)]) (.c (.int 1))])) (.sl (.v 4) (some (.c (.int 5))) none)]))
def A3 : Sm := .ap 5 (.bin .Add (.bin .Add (.sl (.v 4) none (some (.c (.int 2)))) (.tup [.call 23 [.v 1, .c (.int 6)]])) (.sl (.v 4) (some (.c (.int 3))) none))
def BA : List Sm := [A1, A2, A3]
def T4 : Sm := .for_ (.n 6) (.rng1 (.c (.int 8))) BA
def BT : List Sm := [.iff (.not (.call 34 [.v 3, .v 7])) [.ret (.c (.bool false))] []]
def T5 : Sm := .fr [5] (.for_ (.n 7) (.e (.v 5)) BT)
def T6 : Sm := .asg (.n 8) (.lst [.said (.call 20 [.c .none, .c START]), .said (.call 21 [.sl (.v 3) none (some (.c (.int 2))), .c .none])])
def T7 : Sm := .iff (.cmp .NotEq (.v 8) (.bin .Mult (.lst [.tup [.c (.str "setup"), .tup []]]) (.c (.int 2)))) [.ret (.c (.bool false))] []
def BODY : List Sm := [T0, T1, T2, T3, T4, T5, T6, T7]
theorem sm_start : smI 20 START = true := by
  simp [START, smI, smIs]
theorem rt (f : Nat) {ks : List D} {r : D} {A B C E : List D} (e : setupF (SU ks r A B C E) = none) (h5 : ∀ x ∈ ks, ∃ xs : List D, x = .tuple xs) {x : D} (hs : smI 20 x = true) : callF wd 100 progD 30 34 [.d (SU ks r A B C E), .d x] = .pu (.bool true) := law_right 23 e h5 (Nat.le_refl 20) hs
section
variable {s0 s2 s5 s6 s7 s8 s9 : Sl} {ks : List D} {r : D} {A B C E : List D} {w : Str} {pl : Int} {fr : D} {md : Str} {hd mk : Int} {js : List D}
theorem t2_ok (e : setupF (SU ks r A B C E) = none) (h5 : ∀ x ∈ ks, ∃ xs : List D, x = .tuple xs) (hs : smI 20 (stT w pl fr md hd mk js) = true) (hn : ∀ g : Gen, stF ks A B C E (stT w pl fr md hd mk js) = none) (g : Gen) :
    exS FF 100 T2 [s0, .gn, s2, .fz (SU ks r A B C E), .fz (stT w pl fr md hd mk js), s5, s6, s7, s8, s9] g = .ok (.nx [s0, .gn, s2, .fz (SU ks r A B C E), .fz (stT w pl fr md hd mk js), s5, s6, s7, s8, s9]) g := by
  have z0 := zero_s
  have hsn : SeqAt.shaped (.list []) = true := by decide
  have c1 := rt 0 e h5 hs
  have c2 := rt 0 e h5 sm_start
  have hF : callF wd 100 progD 30 33 [.d (SU ks r A B C E), .d (stT w pl fr md hd mk js)] = .pu (toL (stF ks A B C E (stT w pl fr md hd mk js))) := lw_fault 26 h5 _ (fun w' pl' fr' md' hd' m js' q => by
    rw [q] at hs
    have := smIs_mem (smI_len hs).2 (.int m) (by simp)
    simp only [smI, Bool.and_eq_true, decide_eq_true_eq] at this
    exact Int.le_trans this.1 (by decide +kernel)) (fun w' pl' fr' md' hd' m js' q => by
    rw [q] at hs
    have := smIs_mem (smI_len hs).2 (.tuple js') (by simp)
    have := (smI_len this).1
    omega)
  rw [hn g] at hF
  generalize SU ks r A B C E = su at *
  generalize stT w pl fr md hd mk js = sd at *
  simp [T2, ofO_some, M.pu_bd, exsx_nil, exsx_cons, exx_asg, exx_par, exx_ret, exx_retN, exx_iff, exx_for, exx_whl, exx_raise, exx_gput, evx_c, evx_v, evx_bin, evx_cmp, evx_chain, evx_and, evx_or, evx_not, evx_tup, evx_lst, evx_ix, evx_sl, evx_bf, evx_call, evx_gix, evx_ite, evsx_nil, evsx_cons, evT, evO, evOT, Env.get, bf_one, bf1, isi_str, isi_tup, isStr, isTupD, asD, truD, cmpD, cmpOp, eqE, nilEq, solid, endD, slOf, dOf, toInt, seqOf, seqE, seqS, seqJ, setTg, setTgs, List.mapM_cons, List.mapM_nil, Option.bind, Option.map, bd_ap, pu_ap, c1, c2, hF, toL, eqD, hsn, eqv_nil, z0]
/-- many things -/
def SomeOk (ds : List D) (n : Nat) : Prop := ds.length ≤ n ∧ ∀ d ∈ ds, smI 20 d = true
theorem st_mem (hs : smI 7 (stT w pl fr md hd mk js) = true) : smI 20 (.str w) = true ∧ smI 20 (.int pl) = true ∧ smI 20 fr = true ∧ smI 20 (.str md) = true ∧ smI 20 (.int hd) = true ∧ smI 20 (.int mk) = true ∧ smI 20 (.tuple js) = true := by
  have h := smIs_mem (smI_len (smI_mono (L' := 20) (by omega) _ hs)).2
  exact ⟨h _ (by simp), h _ (by simp), h _ (by simp), h _ (by simp), h _ (by simp), h _ (by simp), h _ (by simp)⟩
theorem again_st (hb : Bd 4 67522 7 (stT w pl fr md hd mk js)) {ds : List D} {n : Nat} (hd' : SomeOk ds n) (hn : n ≤ 100) {k : Int} {g : Gen} (hk : k < 400000) (hg : G k g) :
    ∃ ds' t9 g', exSs FF 100 BA [s0, .gn, s2, .fz (SU ks r A B C E), .fz (stT w pl fr md hd mk js), .ow ds, s6, s7, s8, s9] g = .ok (.nx [s0, .gn, s2, .fz (SU ks r A B C E), .fz (stT w pl fr md hd mk js), .ow ds', s6, s7, s8, t9]) g' ∧ SomeOk ds' (n + 4) ∧ G (k + 60) g' := by
  have hs : ∀ n : Nat, n ≤ 200 → n ≤ sizeLine := fun n h => by rw [sizeLine_eq]; omega
  obtain ⟨m1, m2, m3, m4, m5, m6, m7⟩ := st_mem hb.sm
  have lds := hd'.1
  obtain ⟨b1, g1, e1, o1, hg1⟩ := law_bent 4 26 (by omega) _ _ _ k g hb (by omega) (by omega) (by omega) (by omega) hg
  obtain ⟨b2, g2, e2, o2, hg2⟩ := law_bent 7 26 (by omega) _ _ _ _ g1 o1 (by omega) (by omega) (by omega) (by omega) hg1
  obtain ⟨v1, g3, e3, a3, c3, hg3⟩ := PD.draw (wd := wd) q23 29 6 (by omega) (by omega) (by omega) hg2
  obtain ⟨v2, g4, e4, a4, c4, hg4⟩ := PD.draw (wd := wd) q23 29 6 (by omega) (by omega) (by omega) hg3
  have x1 : slD (.d (stT w pl fr md hd mk js)) none (some 4) = some (.tuple [.str w, .int pl, fr, .str md]) := by rfl
  have x2 : slD (.d (stT w pl fr md hd mk js)) (some 5) none = some (.tuple [.int mk, .tuple js]) := by rfl
  have x3 : slD (.d (stT w pl fr md hd mk js)) none (some 2) = some (.tuple [.str w, .int pl]) := by rfl
  have x4 : slD (.d (stT w pl fr md hd mk js)) (some 3) none = some (.tuple [.str md, .int hd, .int mk, .tuple js]) := by rfl
  have y1 : ∀ a b c d e : D, addD (.tuple [a, b, c, d]) (.tuple [e]) = some (.tuple [a, b, c, d, e]) := fun a b c d e => add_t (hs _ (by simp))
  have y2 : ∀ a b c d e f g : D, addD (.tuple [a, b, c, d, e]) (.tuple [f, g]) = some (.tuple [a, b, c, d, e, f, g]) := fun a b c d e f g => add_t (hs _ (by simp))
  have y3 : ∀ a b c : D, addD (.tuple [a, b]) (.tuple [c]) = some (.tuple [a, b, c]) := fun a b c => add_t (hs _ (by simp))
  have y4 : ∀ a b c d e f g : D, addD (.tuple [a, b, c]) (.tuple [d, e, f, g]) = some (.tuple [a, b, c, d, e, f, g]) := fun a b c d e f g => add_t (hs _ (by simp))
  have t1 : exS FF 100 A1 [s0, .gn, s2, .fz (SU ks r A B C E), .fz (stT w pl fr md hd mk js), .ow ds, s6, s7, s8, s9] g = .ok (.nx [s0, .gn, s2, .fz (SU ks r A B C E), .fz (stT w pl fr md hd mk js), .ow ds, s6, s7, s8, .fz b1]) g1 := by
    simp [A1, ofO_some, M.pu_bd, exsx_nil, exsx_cons, exx_asg, exx_par, exx_ret, exx_retN, exx_iff, exx_for, exx_whl, exx_raise, exx_gput, evx_c, evx_v, evx_bin, evx_cmp, evx_chain, evx_and, evx_or, evx_not, evx_tup, evx_lst, evx_ix, evx_sl, evx_bf, evx_call, evx_gix, evx_ite, evsx_nil, evsx_cons, evT, evO, evOT, Env.get, bf_one, bf1, isi_str, isi_tup, isStr, isTupD, asD, truD, cmpD, cmpOp, eqE, nilEq, solid, endD, slOf, dOf, toInt, seqOf, seqE, seqS, seqJ, setTg, setTgs, List.mapM_cons, List.mapM_nil, Option.bind, Option.map, bd_ap, pu_ap, e1]
  have xf : ∀ (i : Nat) (e : PD.E) (env : PD.Env), exS FF 100 (.asgF i e) env = (evFr FF e env).bd fun ds => if i < env.length then .pu (.nx (env.set i (.ow ds))) else .stuck := fun i e env => by simp only [exS]
  have q1 : ds.length + 3 ≤ sizeLine := hs _ (by omega)
  have q2 : ds.length + 3 < sizeLine := by rw [sizeLine_eq]; omega
  have z1 := one_s
  have z3 : (3 : Nat) ≤ sizeLine := hs _ (by omega)
  have t2 : exS FF 100 A2 [s0, .gn, s2, .fz (SU ks r A B C E), .fz (stT w pl fr md hd mk js), .ow ds, s6, s7, s8, .fz b1] g1 = .ok (.nx [s0, .gn, s2, .fz (SU ks r A B C E), .fz (stT w pl fr md hd mk js), .ow (ds ++ [b1, b2, stT w pl fr md (v1 - 1) mk js]), s6, s7, s8, .fz b1]) g3 := by
    unfold A2
    rw [xf]
    show _ = Rs.ok (Fl.nx [s0, .gn, s2, .fz (SU ks r A B C E), .fz (stT w pl fr md hd mk js), .ow (ds ++ [b1, b2, .tuple [.str w, .int pl, fr, .str md, .int (v1 - 1), .int mk, .tuple js]]), s6, s7, s8, .fz b1]) g3
    clear t1
    generalize SU ks r A B C E = su at *
    generalize stT w pl fr md hd mk js = sd at *
    simp [evFr, ofO_some, M.pu_bd, exsx_nil, exsx_cons, exx_asg, exx_par, exx_ret, exx_retN, exx_iff, exx_for, exx_whl, exx_raise, exx_gput, evx_c, evx_v, evx_bin, evx_cmp, evx_chain, evx_and, evx_or, evx_not, evx_tup, evx_lst, evx_ix, evx_sl, evx_bf, evx_call, evx_gix, evx_ite, evsx_nil, evsx_cons, evT, evO, evOT, Env.get, bf_one, bf1, isi_str, isi_tup, isStr, isTupD, asD, truD, cmpD, cmpOp, eqE, nilEq, solid, endD, slOf, dOf, toInt, seqOf, seqE, seqS, seqJ, setTg, setTgs, List.mapM_cons, List.mapM_nil, Option.bind, Option.map, bd_ap, pu_ap, e2, e3, x1, x2, y1, y2, z1, z3, q1, binD, opD, subD]
  have xa : ∀ (i : Nat) (e : PD.E) (env : PD.Env) (ds : List D), env[i]? = some (.ow ds) → exS FF 100 (.ap i e) env = (ev FF e env).bd fun x => (solid x).bd fun d => if ds.length < sizeLine then .pu (.nx (env.set i (.ow (ds ++ [d])))) else .stuck := fun i e env ds h => by simp only [exS]; rw [h]
  have t3 : exS FF 100 A3 [s0, .gn, s2, .fz (SU ks r A B C E), .fz (stT w pl fr md hd mk js), .ow (ds ++ [b1, b2, stT w pl fr md (v1 - 1) mk js]), s6, s7, s8, .fz b1] g3 = .ok (.nx [s0, .gn, s2, .fz (SU ks r A B C E), .fz (stT w pl fr md hd mk js), .ow (ds ++ [b1, b2, stT w pl fr md (v1 - 1) mk js] ++ [stT w pl (.int v2) md hd mk js]), s6, s7, s8, .fz b1]) g4 := by
    unfold A3
    rw [xa _ _ _ _ rfl]
    show _ = Rs.ok (Fl.nx [s0, .gn, s2, .fz (SU ks r A B C E), .fz (stT w pl fr md hd mk js), .ow (ds ++ [b1, b2, stT w pl fr md (v1 - 1) mk js] ++ [.tuple [.str w, .int pl, .int v2, .str md, .int hd, .int mk, .tuple js]]), s6, s7, s8, .fz b1]) g4
    clear t1 t2
    generalize stT w pl fr md (v1 - 1) mk js = sx at *
    generalize SU ks r A B C E = su at *
    generalize stT w pl fr md hd mk js = sd at *
    simp [ofO_some, M.pu_bd, exsx_nil, exsx_cons, exx_asg, exx_par, exx_ret, exx_retN, exx_iff, exx_for, exx_whl, exx_raise, exx_gput, evx_c, evx_v, evx_bin, evx_cmp, evx_chain, evx_and, evx_or, evx_not, evx_tup, evx_lst, evx_ix, evx_sl, evx_bf, evx_call, evx_gix, evx_ite, evsx_nil, evsx_cons, evT, evO, evOT, Env.get, bf_one, bf1, isi_str, isi_tup, isStr, isTupD, asD, truD, cmpD, cmpOp, eqE, nilEq, solid, endD, slOf, dOf, toInt, seqOf, seqE, seqS, seqJ, setTg, setTgs, List.mapM_cons, List.mapM_nil, Option.bind, Option.map, bd_ap, pu_ap, e4, x3, x4, y3, y4, z1, q2, binD, opD]
  refine ⟨ds ++ [b1, b2, stT w pl fr md (v1 - 1) mk js] ++ [stT w pl (.int v2) md hd mk js], .fz b1, g4, ?_, ⟨by simp; omega, ?_⟩, hg4.up (by omega)⟩
  · unfold BA
    rw [sq t1, sq t2, sq t3, exsx_nil]
    rfl
  · intro d hd
    simp only [List.append_assoc, List.mem_append, List.mem_cons, List.not_mem_nil, or_false, List.cons_append, List.nil_append] at hd
    have s7 : ∀ a b c d e f g : D, smI 20 a = true → smI 20 b = true → smI 20 c = true → smI 20 d = true → smI 20 e = true → smI 20 f = true → smI 20 g = true → smI 20 (.tuple [a, b, c, d, e, f, g]) = true := fun a b c d e f g h1 h2 h3 h4 h5 h6 h7 => sm_tup (by show 7 ≤ 20; omega) fun x hx => by
      simp only [List.mem_cons, List.not_mem_nil, or_false] at hx
      rcases hx with rfl | rfl | rfl | rfl | rfl | rfl | rfl <;> assumption
    rcases hd with hd | rfl | rfl | rfl | rfl
    · exact hd'.2 d hd
    · exact smI_mono (by omega) _ o1.sm
    · exact smI_mono (by omega) _ o2.sm
    · exact s7 _ _ _ _ _ _ _ m1 m2 m3 m4 (sm_small (by omega) (by omega)) m6 m7
    · exact s7 _ _ _ _ _ _ _ m1 m2 (sm_small (by omega) (by omega)) m4 m5 m6 m7
theorem again_loop (hb : Bd 4 67522 7 (stT w pl fr md hd mk js)) : ∀ (xs ds : List D) (n : Nat) (s6 s9 : Sl) (k : Int) (g : Gen), SomeOk ds n → n + 4 * xs.length ≤ 100 → k + 60 * xs.length < 400000 → G k g →
    ∃ ds' t6 t9 g', forB (.n 6) (exSs FF 100 BA) xs [s0, .gn, s2, .fz (SU ks r A B C E), .fz (stT w pl fr md hd mk js), .ow ds, s6, s7, s8, s9] g = .ok (.nx [s0, .gn, s2, .fz (SU ks r A B C E), .fz (stT w pl fr md hd mk js), .ow ds', t6, s7, s8, t9]) g' ∧ SomeOk ds' (n + 4 * xs.length) ∧ G (k + 60 * xs.length) g'
  | [], ds, n, s6, s9, k, g, hd', _, _, hg => ⟨ds, s6, s9, g, rfl, by simpa using hd', by simpa using hg⟩
  | x :: xs, ds, n, s6, s9, k, g, hd', hn, hk, hg => by
    simp only [List.length_cons] at hn hk ⊢
    obtain ⟨ds1, t9, g1, e1, o1, hg1⟩ := again_st (s0 := s0) (s2 := s2) (s6 := .fz x) (s7 := s7) (s8 := s8) (s9 := s9) (ks := ks) (r := r) (A := A) (B := B) (C := C) (E := E) hb hd' (by omega) (by omega) hg
    obtain ⟨ds2, u6, u9, g2, e2, o2, hg2⟩ := again_loop hb xs ds1 (n + 4) (.fz x) t9 (k + 60) g1 o1 (by omega) (by omega) hg1
    refine ⟨ds2, u6, u9, g2, ?_, ?_, hg2.up (by omega)⟩
    · show ((exSs FF 100 BA [s0, .gn, s2, .fz (SU ks r A B C E), .fz (stT w pl fr md hd mk js), .ow ds, .fz x, s7, s8, s9]).bd _) g = _
      rw [bd_ap, e1]
      exact e2
    · have e : n + 4 + 4 * xs.length = n + 4 * (xs.length + 1) := by omega
      rw [← e]
      exact o2
theorem thing_loop (e : setupF (SU ks r A B C E) = none) (h5 : ∀ x ∈ ks, ∃ xs : List D, x = .tuple xs) {s4 s5 : Sl} : ∀ (xs : List D) (s7 : Sl), (∀ x ∈ xs, smI 20 x = true) →
    ∃ t7, forB (.n 7) (exSs FF 100 BT) xs [s0, .gn, s2, .fz (SU ks r A B C E), s4, s5, s6, s7, s8, s9] = .pu (.nx [s0, .gn, s2, .fz (SU ks r A B C E), s4, s5, s6, t7, s8, s9])
  | [], s7, _ => ⟨s7, rfl⟩
  | x :: xs, s7, h => by
    obtain ⟨t7, e2⟩ := thing_loop e h5 (s4 := s4) (s5 := s5) xs (.fz x) fun y hy => h y (by simp [hy])
    have c1 := rt 0 e h5 (h x (by simp))
    refine ⟨t7, ?_⟩
    have b1 : exSs FF 100 BT [s0, .gn, s2, .fz (SU ks r A B C E), s4, s5, s6, .fz x, s8, s9] = .pu (.nx [s0, .gn, s2, .fz (SU ks r A B C E), s4, s5, s6, .fz x, s8, s9]) := by
      generalize SU ks r A B C E = su at *
      simp [BT, ofO_some, M.pu_bd, exsx_nil, exsx_cons, exx_asg, exx_par, exx_ret, exx_retN, exx_iff, exx_for, exx_whl, exx_raise, exx_gput, evx_c, evx_v, evx_bin, evx_cmp, evx_chain, evx_and, evx_or, evx_not, evx_tup, evx_lst, evx_ix, evx_sl, evx_bf, evx_call, evx_gix, evx_ite, evsx_nil, evsx_cons, evT, evO, evOT, Env.get, bf_one, bf1, isi_str, isi_tup, isStr, isTupD, asD, truD, cmpD, cmpOp, eqE, nilEq, solid, endD, slOf, dOf, toInt, seqOf, seqE, seqS, seqJ, setTg, setTgs, List.mapM_cons, List.mapM_nil, Option.bind, Option.map, c1]
    show ((exSs FF 100 BT [s0, .gn, s2, .fz (SU ks r A B C E), s4, s5, s6, .fz x, s8, s9]).bd _) = _
    rw [b1, M.pu_bd]
    exact e2
theorem wd_setup : wd ("BadSetup" : Str) = some (some ("setup" : Str)) := by kernel_rfl
theorem is_st_su (f : Nat) {d s p : D} (e : setupF d = some p) : callF wd 100 progD (f + 6) 20 [.d d, .d s] = M.raise "BadSetup" p := by
  rw [callF_tx q20]
  have h1 := need_setup_er sg f _ _ e
  simp [l_is_standing, ofO_some, M.pu_bd, exsx_nil, exsx_cons, exx_asg, exx_par, exx_ret, exx_retN, exx_iff, exx_for, exx_whl, exx_raise, exx_gput, evx_c, evx_v, evx_bin, evx_cmp, evx_chain, evx_and, evx_or, evx_not, evx_tup, evx_lst, evx_ix, evx_sl, evx_bf, evx_call, evx_gix, evx_ite, evsx_nil, evsx_cons, evT, evO, evOT, Env.get, bf_one, bf1, isi_str, isi_tup, isStr, isTupD, asD, truD, cmpD, cmpOp, eqE, nilEq, solid, endD, slOf, dOf, toInt, seqOf, seqE, seqS, seqJ, setTg, setTgs, List.mapM_cons, List.mapM_nil, Option.bind, Option.map, exx_expr, h1, raise_bd]
theorem t67 {s4 : Sl} (g : Gen) :
    exSs FF 100 [T6, T7] [s0, .gn, s2, .fz (SU ks r A B C E), s4, s5, s6, s7, s8, s9] g = .ok (.nx [s0, .gn, s2, .fz (SU ks r A B C E), s4, s5, s6, s7, .fz (.list [.tuple [.str "setup", .tuple []], .tuple [.str "setup", .tuple []]]), s9]) g := by
  have z0 := zero_s
  have z1 := one_s
  have z2 : (2 : Nat) ≤ sizeLine := by rw [sizeLine_eq]; omega
  have c2 : slD (.d (SU ks r A B C E)) none (some 2) = some (.tuple [.tuple ks, r]) := by rfl
  have a1 := is_st_su 24 (d := .none) (s := START) (p := .tuple []) rfl
  have a2 := need_st_su sg 24 (d := .tuple [.tuple ks, r]) (s := .none) (p := .tuple []) rfl
  have h1 : ∀ env, ev FF (.said (.call 20 [.c .none, .c START])) env = .pu (.d (.tuple [.str "setup", .tuple []])) := fun env => said_er rfl (by
    rw [evx_call]
    simp [ofO_some, M.pu_bd, exsx_nil, exsx_cons, exx_asg, exx_par, exx_ret, exx_retN, exx_iff, exx_for, exx_whl, exx_raise, exx_gput, evx_c, evx_v, evx_bin, evx_cmp, evx_chain, evx_and, evx_or, evx_not, evx_tup, evx_lst, evx_ix, evx_sl, evx_bf, evx_call, evx_gix, evx_ite, evsx_nil, evsx_cons, evT, evO, evOT, Env.get, bf_one, bf1, isi_str, isi_tup, isStr, isTupD, asD, truD, cmpD, cmpOp, eqE, nilEq, solid, endD, slOf, dOf, toInt, seqOf, seqE, seqS, seqJ, setTg, setTgs, List.mapM_cons, List.mapM_nil, Option.bind, Option.map, a1, raise_bd]) wd_setup
  have h2 : ev FF (.said (.call 21 [.sl (.v 3) none (some (.c (.int 2))), .c .none])) [s0, .gn, s2, .fz (SU ks r A B C E), s4, s5, s6, s7, s8, s9] = .pu (.d (.tuple [.str "setup", .tuple []])) := said_er rfl (by
    rw [evx_call]
    simp [ofO_some, M.pu_bd, exsx_nil, exsx_cons, exx_asg, exx_par, exx_ret, exx_retN, exx_iff, exx_for, exx_whl, exx_raise, exx_gput, evx_c, evx_v, evx_bin, evx_cmp, evx_chain, evx_and, evx_or, evx_not, evx_tup, evx_lst, evx_ix, evx_sl, evx_bf, evx_call, evx_gix, evx_ite, evsx_nil, evsx_cons, evT, evO, evOT, Env.get, bf_one, bf1, isi_str, isi_tup, isStr, isTupD, asD, truD, cmpD, cmpOp, eqE, nilEq, solid, endD, slOf, dOf, toInt, seqOf, seqE, seqS, seqJ, setTg, setTgs, List.mapM_cons, List.mapM_nil, Option.bind, Option.map, c2, a2, raise_bd]) wd_setup
  have eq1 : eqD (.list [.tuple [.str "setup", .tuple []], .tuple [.str "setup", .tuple []]]) (.list [.tuple [.str "setup", .tuple []], .tuple [.str "setup", .tuple []]]) = some true := by kernel_rfl
  have m1 : mulD (.list [.tuple [.str "setup", .tuple []]]) (.int 2) = some (.list [.tuple [.str "setup", .tuple []], .tuple [.str "setup", .tuple []]]) := by rfl
  have t6 : exS FF 100 T6 [s0, .gn, s2, .fz (SU ks r A B C E), s4, s5, s6, s7, s8, s9] g = .ok (.nx [s0, .gn, s2, .fz (SU ks r A B C E), s4, s5, s6, s7, .fz (.list [.tuple [.str "setup", .tuple []], .tuple [.str "setup", .tuple []]]), s9]) g := by
    simp [T6, ofO_some, M.pu_bd, exsx_nil, exsx_cons, exx_asg, exx_par, exx_ret, exx_retN, exx_iff, exx_for, exx_whl, exx_raise, exx_gput, evx_c, evx_v, evx_bin, evx_cmp, evx_chain, evx_and, evx_or, evx_not, evx_tup, evx_lst, evx_ix, evx_sl, evx_bf, evx_call, evx_gix, evx_ite, evsx_nil, evsx_cons, evT, evO, evOT, Env.get, bf_one, bf1, isi_str, isi_tup, isStr, isTupD, asD, truD, cmpD, cmpOp, eqE, nilEq, solid, endD, slOf, dOf, toInt, seqOf, seqE, seqS, seqJ, setTg, setTgs, List.mapM_cons, List.mapM_nil, Option.bind, Option.map, bd_ap, pu_ap, h1, h2, z2]
  rw [sq t6]
  simp [T7, ofO_some, M.pu_bd, exsx_nil, exsx_cons, exx_asg, exx_par, exx_ret, exx_retN, exx_iff, exx_for, exx_whl, exx_raise, exx_gput, evx_c, evx_v, evx_bin, evx_cmp, evx_chain, evx_and, evx_or, evx_not, evx_tup, evx_lst, evx_ix, evx_sl, evx_bf, evx_call, evx_gix, evx_ite, evsx_nil, evsx_cons, evT, evO, evOT, Env.get, bf_one, bf1, isi_str, isi_tup, isStr, isTupD, asD, truD, cmpD, cmpOp, eqE, nilEq, solid, endD, slOf, dOf, toInt, seqOf, seqE, seqS, seqJ, setTg, setTgs, List.mapM_cons, List.mapM_nil, Option.bind, Option.map, bd_ap, pu_ap, binD, opD, m1, eq1, z0, z1, z2]
end
def II (ns : List Int) (env : PD.Env) : Prop := ∃ s2 s3 s4 s5 s6 s7 s8 s9, env = [.sc ns, .gn, s2, s3, s4, s5, s6, s7, s8, s9]
theorem turn {ns : List Int} (env : PD.Env) (k : Int) (g : Gen) (hi : II ns env) (hk : k < 100000) (hg : G k g) : ∃ env' g', exSs FF 100 BODY env g = .ok (.nx env') g' ∧ II ns env' ∧ G (k + 900) g' := by
  obtain ⟨s2, s3, s4, s5, s6, s7, s8, s9, rfl⟩ := hi
  have hsz : ∀ n : Nat, n ≤ 200 → n ≤ sizeLine := fun n h => by rw [sizeLine_eq]; omega
  obtain ⟨d, g1, e1, v1, hg1⟩ := dw.setupW 26 (by omega) hg
  obtain ⟨ks, r, A, B, C, E, rfl, k1, k3, hks, hA, hB, hC, hE, lA, lB, lC, lE⟩ := setup_form v1
  obtain ⟨w, pl, fr, md, hd, mk, js, g2, e2, ok, m5, l4, hg2⟩ := law_state dw q27 q28 26 (r := r) k1 k3 hks hA hB hC hE lA lB lC lE (by omega) hg1
  have v1 : setupF (SU ks r A B C E) = none := v1
  have h5 : ∀ x ∈ ks, ∃ xs : List D, x = .tuple xs := fun x hx => let ⟨xs, e, _⟩ := hks x hx; ⟨xs, e⟩
  have hb := good_bd k3 hks lA lB lC lE ok m5 l4 g
  have hn := fun g => good_none (E := E) h5 ok g
  have t0 : exS FF 100 T0 [.sc ns, .gn, s2, s3, s4, s5, s6, s7, s8, s9] g = .ok (.nx [.sc ns, .gn, s2, .fz (SU ks r A B C E), s4, s5, s6, s7, s8, s9]) g1 := by
    simp [T0, ofO_some, M.pu_bd, exsx_nil, exsx_cons, exx_asg, exx_par, exx_ret, exx_retN, exx_iff, exx_for, exx_whl, exx_raise, exx_gput, evx_c, evx_v, evx_bin, evx_cmp, evx_chain, evx_and, evx_or, evx_not, evx_tup, evx_lst, evx_ix, evx_sl, evx_bf, evx_call, evx_gix, evx_ite, evsx_nil, evsx_cons, evT, evO, evOT, Env.get, bf_one, bf1, isi_str, isi_tup, isStr, isTupD, asD, truD, cmpD, cmpOp, eqE, nilEq, solid, endD, slOf, dOf, toInt, seqOf, seqE, seqS, seqJ, setTg, setTgs, List.mapM_cons, List.mapM_nil, Option.bind, Option.map, bd_ap, pu_ap, e1, SU]
  have t1 : exS FF 100 T1 [.sc ns, .gn, s2, .fz (SU ks r A B C E), s4, s5, s6, s7, s8, s9] g1 = .ok (.nx [.sc ns, .gn, s2, .fz (SU ks r A B C E), .fz (stT w pl fr md hd mk js), s5, s6, s7, s8, s9]) g2 := by
    simp [T1, ofO_some, M.pu_bd, exsx_nil, exsx_cons, exx_asg, exx_par, exx_ret, exx_retN, exx_iff, exx_for, exx_whl, exx_raise, exx_gput, evx_c, evx_v, evx_bin, evx_cmp, evx_chain, evx_and, evx_or, evx_not, evx_tup, evx_lst, evx_ix, evx_sl, evx_bf, evx_call, evx_gix, evx_ite, evsx_nil, evsx_cons, evT, evO, evOT, Env.get, bf_one, bf1, isi_str, isi_tup, isStr, isTupD, asD, truD, cmpD, cmpOp, eqE, nilEq, solid, endD, slOf, dOf, toInt, seqOf, seqE, seqS, seqJ, setTg, setTgs, List.mapM_cons, List.mapM_nil, Option.bind, Option.map, bd_ap, pu_ap, e2]
  have t2 := t2_ok (s0 := .sc ns) (s2 := s2) (s5 := s5) (s6 := s6) (s7 := s7) (s8 := s8) (s9 := s9) v1 h5 (smI_mono (by omega) _ hb.sm) hn g2
  -- the other standing
  obtain ⟨x, g3, e3, hx, hg3⟩ := law_odd 27 (by omega) hg2
  obtain ⟨d', g4, e4, v4, hg4⟩ := dw.setupW 26 (by omega) hg3
  obtain ⟨ks', r', A', B', C', E', rfl, k1', k3', hks', hA', hB', hC', hE', lA', lB', lC', lE'⟩ := setup_form v4
  obtain ⟨w', pl', fr', md', hd', mk', js', g5, e5, ok', m5', l4', hg5⟩ := law_state dw q27 q28 26 (r := r') k1' k3' hks' hA' hB' hC' hE' lA' lB' lC' lE' (by omega) hg4
  have sm' := smI_mono (L' := 20) (by omega) _ (good_sm k3' hks' lA' lB' lC' lE' ok' m5' l4')
  have e4 : callF wd 100 progD 30 26 [.gn, .d (.int 3), .d (.int 5), .d (.int 6)] g3 = .ok (SU ks' r' A' B' C' E') g4 := e4
  have xf : ∀ (i : Nat) (e : PD.E) (env : PD.Env), exS FF 100 (.asgF i e) env = (evFr FF e env).bd fun ds => if i < env.length then .pu (.nx (env.set i (.ow ds))) else .stuck := fun i e env => by simp only [exS]
  have x6 : slD (.d (stT w pl fr md hd mk js)) none (some 6) = some (.tuple [.str w, .int pl, fr, .str md, .int hd, .int mk]) := by rfl
  have a7 : addD (stT w pl fr md hd mk js) (.tuple [.int 0]) = some (.tuple [.str w, .int pl, fr, .str md, .int hd, .int mk, .tuple js, .int 0]) := add_t (a := [.str w, .int pl, fr, .str md, .int hd, .int mk, .tuple js]) (b := [.int 0]) (hsz _ (by simp))
  have lst : listD (stT w pl fr md hd mk js) = some (.list [.str w, .int pl, fr, .str md, .int hd, .int mk, .tuple js]) := rfl
  have z1 := one_s
  have z5 : (5 : Nat) ≤ sizeLine := hsz _ (by omega)
  have t3 : exS FF 100 T3 [.sc ns, .gn, s2, .fz (SU ks r A B C E), .fz (stT w pl fr md hd mk js), s5, s6, s7, s8, s9] g2 = .ok (.nx [.sc ns, .gn, s2, .fz (SU ks r A B C E), .fz (stT w pl fr md hd mk js), .ow [.tuple [.str w, .int pl, fr, .str md, .int hd, .int mk], .tuple [.str w, .int pl, fr, .str md, .int hd, .int mk, .tuple js, .int 0], .list [.str w, .int pl, fr, .str md, .int hd, .int mk, .tuple js], x, stT w' pl' fr' md' hd' mk' js'], s6, s7, s8, s9]) g5 := by
    unfold T3
    rw [xf]
    generalize stT w' pl' fr' md' hd' mk' js' = sd' at *
    generalize SU ks' r' A' B' C' E' = su' at *
    generalize stT w pl fr md hd mk js = sd at *
    generalize SU ks r A B C E = su at *
    simp [evFr, ofO_some, M.pu_bd, exsx_nil, exsx_cons, exx_asg, exx_par, exx_ret, exx_retN, exx_iff, exx_for, exx_whl, exx_raise, exx_gput, evx_c, evx_v, evx_bin, evx_cmp, evx_chain, evx_and, evx_or, evx_not, evx_tup, evx_lst, evx_ix, evx_sl, evx_bf, evx_call, evx_gix, evx_ite, evsx_nil, evsx_cons, evT, evO, evOT, Env.get, bf_one, bf1, isi_str, isi_tup, isStr, isTupD, asD, truD, cmpD, cmpOp, eqE, nilEq, solid, endD, slOf, dOf, toInt, seqOf, seqE, seqS, seqJ, setTg, setTgs, List.mapM_cons, List.mapM_nil, Option.bind, Option.map, bd_ap, pu_ap, e3, e4, e5, x6, a7, lst, z1, z5, binD, opD]
  obtain ⟨n1, n2, n3, n4, n5, n6, n7⟩ := st_mem hb.sm
  have so : SomeOk [.tuple [.str w, .int pl, fr, .str md, .int hd, .int mk], .tuple [.str w, .int pl, fr, .str md, .int hd, .int mk, .tuple js, .int 0], .list [.str w, .int pl, fr, .str md, .int hd, .int mk, .tuple js], x, stT w' pl' fr' md' hd' mk' js'] 5 := ⟨Nat.le_refl 5, fun d hd => by
    simp only [List.mem_cons, List.not_mem_nil, or_false] at hd
    rcases hd with rfl | rfl | rfl | rfl | rfl
    · exact sm_tup (by show 6 ≤ 20; omega) fun x hx => by
        simp only [List.mem_cons, List.not_mem_nil, or_false] at hx
        rcases hx with rfl | rfl | rfl | rfl | rfl | rfl <;> assumption
    · exact sm_tup (by show 8 ≤ 20; omega) fun x hx => by
        simp only [List.mem_cons, List.not_mem_nil, or_false] at hx
        rcases hx with rfl | rfl | rfl | rfl | rfl | rfl | rfl | rfl
        all_goals first | assumption | exact sm_small (by omega) (by omega)
    · have := (smI_len (smI_mono (L' := 20) (by omega) _ hb.sm)).2
      simp only [smI]
      exact this
    · exact smI_mono (by omega) _ (odd_bd _ hx).sm
    · exact sm'⟩
  obtain ⟨d8, e8, l8⟩ := rng_some (n := 8) (by omega) (by omega)
  have l8' : d8.length = 8 := by omega
  obtain ⟨ds, u6, u9, g6, e6, so6, hg6⟩ := again_loop (s0 := .sc ns) (s2 := s2) (s7 := s7) (s8 := s8) (ks := ks) (r := r) (A := A) (B := B) (C := C) (E := E) hb d8 _ 5 s6 s9 _ g5 so (by omega) (by omega) hg5
  have t4 : exS FF 100 T4 [.sc ns, .gn, s2, .fz (SU ks r A B C E), .fz (stT w pl fr md hd mk js), .ow [.tuple [.str w, .int pl, fr, .str md, .int hd, .int mk], .tuple [.str w, .int pl, fr, .str md, .int hd, .int mk, .tuple js, .int 0], .list [.str w, .int pl, fr, .str md, .int hd, .int mk, .tuple js], x, stT w' pl' fr' md' hd' mk' js'], s6, s7, s8, s9] g5 = .ok (.nx [.sc ns, .gn, s2, .fz (SU ks r A B C E), .fz (stT w pl fr md hd mk js), .ow ds, u6, s7, s8, u9]) g6 := by
    unfold T4
    rw [exx_for]
    have ej : ∀ env, evJ FF (.rng1 (.c (.int 8))) env = .pu d8 := fun env => by
      simp [evJ, evI, ofO_some, M.pu_bd, exsx_nil, exsx_cons, exx_asg, exx_par, exx_ret, exx_retN, exx_iff, exx_for, exx_whl, exx_raise, exx_gput, evx_c, evx_v, evx_bin, evx_cmp, evx_chain, evx_and, evx_or, evx_not, evx_tup, evx_lst, evx_ix, evx_sl, evx_bf, evx_call, evx_gix, evx_ite, evsx_nil, evsx_cons, evT, evO, evOT, Env.get, bf_one, bf1, isi_str, isi_tup, isStr, isTupD, asD, truD, cmpD, cmpOp, eqE, nilEq, solid, endD, slOf, dOf, toInt, seqOf, seqE, seqS, seqJ, setTg, setTgs, List.mapM_cons, List.mapM_nil, Option.bind, Option.map, e8]
    rw [ej, M.pu_bd]
    exact e6
  obtain ⟨u7, e7⟩ := thing_loop (s0 := .sc ns) (s2 := s2) (s4 := .fz (stT w pl fr md hd mk js)) (s5 := .fz (.list ds)) (s6 := u6) (s8 := s8) (s9 := u9) v1 h5 ds s7 so6.2
  have t5 : exS FF 100 T5 [.sc ns, .gn, s2, .fz (SU ks r A B C E), .fz (stT w pl fr md hd mk js), .ow ds, u6, s7, s8, u9] g6 = .ok (.nx [.sc ns, .gn, s2, .fz (SU ks r A B C E), .fz (stT w pl fr md hd mk js), .fz (.list ds), u6, u7, s8, u9]) g6 := by
    have xr : exS FF 100 T5 [.sc ns, .gn, s2, .fz (SU ks r A B C E), .fz (stT w pl fr md hd mk js), .ow ds, u6, s7, s8, u9] = exS FF 100 (.for_ (.n 7) (.e (.v 5)) BT) [.sc ns, .gn, s2, .fz (SU ks r A B C E), .fz (stT w pl fr md hd mk js), .fz (.list ds), u6, s7, s8, u9] := by
      unfold T5
      simp only [exS]
      rfl
    rw [xr, exx_for]
    have ej : evJ FF (.e (.v 5)) [.sc ns, .gn, s2, .fz (SU ks r A B C E), .fz (stT w pl fr md hd mk js), .fz (.list ds), u6, s7, s8, u9] = .pu ds := by
      simp [evJ, seqJ, ofO_some, M.pu_bd, exsx_nil, exsx_cons, exx_asg, exx_par, exx_ret, exx_retN, exx_iff, exx_for, exx_whl, exx_raise, exx_gput, evx_c, evx_v, evx_bin, evx_cmp, evx_chain, evx_and, evx_or, evx_not, evx_tup, evx_lst, evx_ix, evx_sl, evx_bf, evx_call, evx_gix, evx_ite, evsx_nil, evsx_cons, evT, evO, evOT, Env.get, bf_one, bf1, isi_str, isi_tup, isStr, isTupD, asD, truD, cmpD, cmpOp, eqE, nilEq, solid, endD, slOf, dOf, toInt, seqOf, seqE, seqS, seqJ, setTg, setTgs, List.mapM_cons, List.mapM_nil, Option.bind, Option.map]
    rw [ej, M.pu_bd, e7]
    rfl
  have t67' := t67 (s0 := .sc ns) (s2 := s2) (s4 := .fz (stT w pl fr md hd mk js)) (s5 := .fz (.list ds)) (s6 := u6) (s7 := u7) (s8 := s8) (s9 := u9) (ks := ks) (r := r) (A := A) (B := B) (C := C) (E := E) g6
  have main : exSs FF 100 BODY [.sc ns, .gn, s2, s3, s4, s5, s6, s7, s8, s9] g = .ok (.nx [.sc ns, .gn, s2, .fz (SU ks r A B C E), .fz (stT w pl fr md hd mk js), .fz (.list ds), u6, u7, .fz (.list [.tuple [.str "setup", .tuple []], .tuple [.str "setup", .tuple []]]), u9]) g6 := by
    unfold BODY
    rw [sq t0, sq t1, sq t2, sq t3, sq t4, sq t5]
    exact t67'
  exact ⟨_, g6, main, ⟨_, _, _, _, _, _, _, _, rfl⟩, hg6.up (by rw [l8']; omega)⟩
end Kk03
end
section
set_option Elab.async false
set_option linter.all false
set_option maxRecDepth 1000000
set_option maxHeartbeats 8000000
namespace Kk03
open PySem PySem.Spec L2 PD

def IT : I := (.rng1 (.bin .Add (.c (.int (4))) (.bf .min2 [(.c (.int (8))), (.bf .len [(.v 0)])])))
def RET : Sm := (.ret (.cmp .Eq (.c START) (.tup [(.c (.str "none")), (.c (.int (0))), (.c (.str "shell")), (.c (.str "plain")), (.neg (.c (.int (1)))), (.c (.int (0))), (.tup [])])))
theorem e_law : b_law = [.for_ (.n 2) IT BODY, RET] := by kernel_rfl
theorem e_law0 : b_law0 = .asg (.n 1) (.call 22 [.v 0]) := by kernel_rfl
theorem ret_ok (env : PD.Env) (g : Gen) : exS FF 100 RET env g = .ok (.rt (.bool true)) g := by
  have z0 := zero_s
  have z7 : (7 : Nat) ≤ sizeLine := by rw [sizeLine_eq]; omega
  have e : eqD START START = some true := by kernel_rfl
  have e' : eqD START (.tuple [.str "none", .int 0, .str "shell", .str "plain", .int (-1), .int 0, .tuple []]) = some true := e
  generalize hs : START = st at e'
  simp [RET, hs, ofO_some, M.pu_bd, exsx_nil, exsx_cons, exx_asg, exx_par, exx_ret, exx_retN, exx_iff, exx_for, exx_whl, exx_raise, exx_gput, evx_c, evx_v, evx_bin, evx_cmp, evx_chain, evx_and, evx_or, evx_not, evx_tup, evx_lst, evx_ix, evx_sl, evx_bf, evx_call, evx_gix, evx_ite, evsx_nil, evsx_cons, evT, evO, evOT, Env.get, bf_one, bf1, isi_str, isi_tup, isStr, isTupD, asD, truD, cmpD, cmpOp, eqE, nilEq, solid, endD, slOf, dOf, toInt, seqOf, seqE, seqS, seqJ, setTg, setTgs, List.mapM_cons, List.mapM_nil, Option.bind, Option.map, evx_neg, bd_ap, pu_ap, z0, z7, e']
theorem pureOk : PureOk 30 100 := fun ns hl g => by
  obtain ⟨gg, e0, hg⟩ := law_begun (wd := wd) dw.hb 29 ns hl
  obtain ⟨ds, ed, ld⟩ : ∃ ds, rngD 0 (4 + (if (ns.length : Int) < 8 then (ns.length : Int) else 8)) = some ds ∧ ds.length ≤ 12 := by
    obtain ⟨ds, h1, h2⟩ := rng_some (n := 4 + (if (ns.length : Int) < 8 then (ns.length : Int) else 8)) (by split <;> omega) (by split <;> omega)
    exact ⟨ds, h1, by rw [h2]; split <;> omega⟩
  obtain ⟨env2, g2, e2, i2, hg2⟩ := forB_st (tg := 2) (B := exSs FF 100 BODY) (c := 900) (K := 100000) (I := II ns) (by omega) (fun env d hi => by
    obtain ⟨s2, s3, s4, s5, s6, s7, s8, s9, rfl⟩ := hi
    exact ⟨_, rfl, ⟨_, _, _, _, _, _, _, _, rfl⟩, rfl⟩) ds 0 gg [.sc ns, .gn, .un, .un, .un, .un, .un, .un, .un, .un] ⟨_, _, _, _, _, _, _, _, rfl⟩ hg (by omega) (fun d _ env k g hi _ hk hg => turn env k g hi hk hg)
  refine ⟨gg, g, g2, ?_, ?_⟩
  · rw [e_law0]
    simp [ofO_some, M.pu_bd, exsx_nil, exsx_cons, exx_asg, exx_par, exx_ret, exx_retN, exx_iff, exx_for, exx_whl, exx_raise, exx_gput, evx_c, evx_v, evx_bin, evx_cmp, evx_chain, evx_and, evx_or, evx_not, evx_tup, evx_lst, evx_ix, evx_sl, evx_bf, evx_call, evx_gix, evx_ite, evsx_nil, evsx_cons, evT, evO, evOT, Env.get, bf_one, bf1, isi_str, isi_tup, isStr, isTupD, asD, truD, cmpD, cmpOp, eqE, nilEq, solid, endD, slOf, dOf, toInt, seqOf, seqE, seqS, seqJ, setTg, setTgs, List.mapM_cons, List.mapM_nil, Option.bind, Option.map, bd_ap, pu_ap, e0, lawEnv]
  · rw [e_law]
    have ej : evJ FF IT [.sc ns, .gn, .un, .un, .un, .un, .un, .un, .un, .un] = .pu ds := by
      simp [IT, evJ, evI, ofO_some, M.pu_bd, exsx_nil, exsx_cons, exx_asg, exx_par, exx_ret, exx_retN, exx_iff, exx_for, exx_whl, exx_raise, exx_gput, evx_c, evx_v, evx_bin, evx_cmp, evx_chain, evx_and, evx_or, evx_not, evx_tup, evx_lst, evx_ix, evx_sl, evx_bf, evx_call, evx_gix, evx_ite, evsx_nil, evsx_cons, evT, evO, evOT, Env.get, bf_one, bf1, isi_str, isi_tup, isStr, isTupD, asD, truD, cmpD, cmpOp, eqE, nilEq, solid, endD, slOf, dOf, toInt, seqOf, seqE, seqS, seqJ, setTg, setTgs, List.mapM_cons, List.mapM_nil, Option.bind, Option.map, scLen, bfD, minD, binD, opD, addD, ed]
    show exSs FF 100 _ [.sc ns, .gn, .un, .un, .un, .un, .un, .un, .un, .un] gg = _
    rw [sq (e := env2) (g' := g2)]
    · rw [exsx_cons, bd_ap, ret_ok]
      rfl
    · rw [exx_for, ej, M.pu_bd]
      exact e2
end Kk03
end
open PySem PySem.W PySem.Calls PyProof.Rows
theorem PySem.Challenge.cw_frontjobs_k03_whole_standings_refused_holds : PySem.Challenge.rw_frontjobs_k03_whole_standings_refused.Holds := by
  w_on; o_law
  refine HandSHeadRun.head_any (r := OpenLaw.row PySem.Challenge.rw_frontjobs_k03_whole_standings_refused) (q := view (OpenLaw.row PySem.Challenge.rw_frontjobs_k03_whole_standings_refused).prog [Kk03.lawI]) (H := Kk03.hk) (ob := Kk03.ob) (M := 60000) (loose := Kk03.loose) (d := HandSHeadRun.topDef (OpenLaw.row PySem.Challenge.rw_frontjobs_k03_whole_standings_refused).prog Kk03.lawI) (kwd := []) Kk03.ob_eq
    (by kernel_rfl) (fun s => by kernel_rfl) Kk03.run (by kernel_rfl) (by kernel_rfl) (by kernel_rfl) (by rfl) (by first | assumption | decide +kernel) (by decide +kernel) ⟨rfl, rfl, rfl, rfl, rfl, by decide +kernel⟩ ?hw ?hc
  case hw => w_witness2
  case hc =>
    refine PD.walk_ofG (l := PySem.Challenge.rw_frontjobs_k03_whole_standings_refused) (n := 63) (k := PD.lv 30 + 3) (x := "script") (CX := fun w => L2.CX PySem.Challenge.pw_frontjobs_k03_whole_standings_refused w) rfl (by decide) (by kernel_rfl) ⟨rfl, by decide, by decide⟩ ?F ?N
    case F =>
      intro w mg fa h Y G hmg0
      obtain ⟨K, KX, c, sysD⟩ := Y
      have hmg : mg ("law" : PySem.Str) = some (.ref fa) := by
        have e : (HandSHeadRun.topDef (OpenLaw.row PySem.Challenge.rw_frontjobs_k03_whole_standings_refused).prog Kk03.lawI).name = ("law" : PySem.Str) := by kernel_rfl
        rw [← e]
        exact hmg0
      exact ⟨K, KX, Kk03.facts Kk03.pureOk KX sysD G hmg c⟩
    case N =>
      intro w H s e s2 z
      obtain ⟨_, _, _, _, _, _, _, _, _, _, _, _, q⟩ := z
      exact q
