import PyProof.Rows.All
import Wide.All
import OpenK.AllK
import Wide.FinOn
import HandS.ForMost
import HandS.ForExc
import HandS.Evl
import HandS.ExcInit
import HandS.Lambda
import HandS.TupAny
import HandS.IsInst
import HandS.Style
import HandS.Flow
import HandS.More
import HandS.Conv
import KE.GoesEnum
import KE.GoesMore
import HandS.Iter
import HandS.FStr
import HandS.SetKeys
import HandS.ExcIs
import HandS.ExcField
import HandS.SetFor
import HandS.MapJoin
import HandS.EndTab
import KE.KNestM
import PySem.Challenge.RW_pinshelf_k02_deeds_done
/-! part Pf1 -/
set_option Elab.async false
set_option linter.all false
set_option maxRecDepth 100000
set_option maxHeartbeats 2000000
namespace L2
open PySem PySem.Spec
/-! ### lists of data -/
theorem DpAll.len {K : PySem.W.Frag} {H : Hp} : ∀ {vs : List V} {ds : List PyData}, DpAll K H vs ds → vs.length = ds.length
  | _, _, .nil => rfl
  | _, _, .cons _ r => by simp [DpAll.len r]
theorem DpAll.get {K : PySem.W.Frag} {H : Hp} : ∀ {vs : List V} {ds : List PyData} {i : Nat} {d : PyData}, DpAll K H vs ds → ds[i]? = some d → ∃ v, vs[i]? = some v ∧ Dp K H v d
  | _, _, _, _, .nil, h => by simp at h
  | _, _, 0, _, .cons a _, h => by simp at h; subst h; exact ⟨_, rfl, a⟩
  | _, _, i + 1, _, .cons _ r, h => by
    obtain ⟨v, e, x⟩ := DpAll.get (i := i) r (by simpa using h)
    exact ⟨v, by simpa using e, x⟩
theorem DpAll.app {K : PySem.W.Frag} {H : Hp} : ∀ {vs ws : List V} {ds es : List PyData}, DpAll K H vs ds → DpAll K H ws es → DpAll K H (vs ++ ws) (ds ++ es)
  | _, _, _, _, .nil, s => s
  | _, _, _, _, .cons a r, s => .cons a (DpAll.app r s)
theorem DpAll.take {K : PySem.W.Frag} {H : Hp} : ∀ {vs : List V} {ds : List PyData} (n : Nat), DpAll K H vs ds → DpAll K H (vs.take n) (ds.take n)
  | _, _, 0, _ => .nil
  | _, _, _ + 1, .nil => .nil
  | _, _, n + 1, .cons a r => .cons a (DpAll.take n r)
theorem DpAll.drop {K : PySem.W.Frag} {H : Hp} : ∀ {vs : List V} {ds : List PyData} (n : Nat), DpAll K H vs ds → DpAll K H (vs.drop n) (ds.drop n)
  | _, _, 0, r => r
  | _, _, _ + 1, .nil => .nil
  | _, _, n + 1, .cons _ r => DpAll.drop n r
theorem DpAll.set {K : PySem.W.Frag} {H : Hp} {v : V} {d : PyData} (h : Dp K H v d) : ∀ {vs : List V} {ds : List PyData} (n : Nat), DpAll K H vs ds → DpAll K H (vs.set n v) (ds.set n d)
  | _, _, _, .nil => .nil
  | _, _, 0, .cons _ r => .cons h r
  | _, _, n + 1, .cons a r => .cons a (DpAll.set h n r)
theorem DpAll.erase {K : PySem.W.Frag} {H : Hp} : ∀ {vs : List V} {ds : List PyData} (n : Nat), DpAll K H vs ds → DpAll K H (vs.eraseIdx n) (ds.eraseIdx n)
  | _, _, _, .nil => .nil
  | _, _, 0, .cons _ r => r
  | _, _, n + 1, .cons a r => .cons a (DpAll.erase n r)
theorem DpAll.reverse {K : PySem.W.Frag} {H : Hp} : ∀ {vs : List V} {ds : List PyData}, DpAll K H vs ds → DpAll K H vs.reverse ds.reverse
  | _, _, .nil => .nil
  | _, _, .cons a r => by simp only [List.reverse_cons]; exact DpAll.app (DpAll.reverse r) (.cons a .nil)

end L2
namespace Pf
open PySem PySem.Spec L2 Evl

/-! ### data under a growing heap -/
mutual
theorem dp_mono {K : PySem.W.Frag} {H H' : Hp} (e : Ex H H') : ∀ {v : V} {d : PyData}, Dp K H v d → Dp K H' v d
  | _, _, .non => .non
  | _, _, .bl b => .bl b
  | _, _, .int i => .int i
  | _, _, .str x => .str x
  | _, _, .lst h r => .lst (ex_l e h) (dps_mono e r)
  | _, _, .tup h r => .tup (ex_t e h) (dps_mono e r)
theorem dps_mono {K : PySem.W.Frag} {H H' : Hp} (e : Ex H H') : ∀ {vs : List V} {ds : List PyData}, DpAll K H vs ds → DpAll K H' vs ds
  | _, _, .nil => .nil
  | _, _, .cons a r => .cons (dp_mono e a) (dps_mono e r)
end
def FsOk (K : PySem.W.Frag) (F : Hp) : List (Str × V) → List (Str × PyData) → Prop
  | [], [] => True
  | (f, v) :: r, (g, d) :: r' => f = g ∧ Dp K F v d ∧ FsOk K F r r'
  | _, _ => False
theorem fs_mono {K : PySem.W.Frag} {F F' : Hp} (e : Ex F F') : ∀ {a : List (Str × V)} {b : List (Str × PyData)}, FsOk K F a b → FsOk K F' a b
  | [], [], _ => trivial
  | [], _ :: _, h => h.elim
  | _ :: _, [], h => by simp [FsOk] at h
  | (f, v) :: a, (g, d) :: b, ⟨h1, h2, h3⟩ => ⟨h1, dp_mono e h2, fs_mono e h3⟩
/-! ### slots and environments -/
inductive Sl where
  | no
  | val (d : PyData)
  | own (ds : List PyData)
  | bor (ds : List PyData)
  | obj (o : HO)
  | raw (v : V)
  | exc (a dd : Addr) (fs : List (Str × PyData))
  | tab (T : List (Addr × Str))
abbrev En := List Sl
/-- the entry: what is known, the whole heap, what may be changed -/
structure Cn where
  F : Hp
  H : Hp
  B : List Addr
  T : List (Addr × Str) := []
def SlOk (K : PySem.W.Frag) (C : Cn) (F H : Hp) (x : Option (Option V)) : Sl → Prop
  | .no => True
  | .val d => ∃ v, x = some (some v) ∧ Dp K F v d
  | .own ds => ∃ p vs, x = some (some (.ref p)) ∧ F p = none ∧ C.H p = none ∧ H p = some (.lst vs) ∧ DpAll K F vs ds
  | .bor ds => ∃ p vs, x = some (some (.ref p)) ∧ F p = none ∧ p ∈ C.B ∧ H p = some (.lst vs) ∧ DpAll K F vs ds
  | .obj o => ∃ p, x = some (some (.ref p)) ∧ F p = none ∧ C.H p = none ∧ H p = some o
  | .raw v => x = some (some v)
  | .exc a dd fs => x = some (some (.ref a)) ∧ ∃ vs, F dd = some (.xd vs) ∧ FsOk K F vs fs
  | .tab T => (C.T = T ∧ ∀ b ∈ C.B, ∃ q, (b, q) ∈ T) ∧ ∀ a ps, C.H a = some (.tbl ps) → a ∈ C.B
def isOwn : Sl → Bool
  | .own _ => true
  | .bor _ => true
  | .obj _ => true
  | _ => false
/-- an address that a slot owns -/
def Owned (σ : St) (env : En) (i : Nat) (p : Addr) : Prop := ∃ s, env[i]? = some s ∧ isOwn s = true ∧ σ[i]? = some (some (.ref p))
theorem tabs_lst {T : List (Addr × Str)} {H H' : Hp} {p : Addr} {vs : List V} (t : LamX.Tabs T H) (h : H p = some (.lst vs)) (k : ∀ a o, a ≠ p → H a = some o → H' a = some o) : LamX.Tabs T H' := fun q hq => by
  obtain ⟨ps, h1, h2, h3⟩ := t q hq
  refine ⟨ps, k _ _ (fun e => ?_) h1, h2, fun pos cv hc => ?_⟩
  · rw [e, h] at h1; cases h1
  · obtain ⟨c, e1, e2⟩ := h3 pos cv hc
    refine ⟨c, e1, k _ _ (fun e => ?_) e2⟩
    rw [e, h] at e2
    have e2 := Option.some.inj e2
    unfold LamX.CodeO at e2
    cases e2
/-- no table of code objects is known -/
def NT (F : Hp) : Prop := ∀ a ps, F a ≠ some (.tbl ps)
theorem NT.upd {F : Hp} (h : NT F) {p : Addr} {o : HO} (ho : ∀ ps, o ≠ .tbl ps) : NT (upd F p o) := fun a ps e => by
  by_cases z : a = p
  · subst z; rw [upd_same] at e; exact ho ps (Option.some.inj e)
  · rw [upd_ne z] at e; exact h a ps e
structure Rel (K : PySem.W.Frag) (C : Cn) (F : Hp) (σ : St) (H : Hp) (env : En) : Prop where
  fh : Ex F H
  cf : Ex C.F F
  new : ∀ a, C.F a = none → F a ≠ none → C.H a = none
  pres : ∀ a o, C.H a = some o → a ∉ C.B → H a = some o
  bd : ∀ b ∈ C.B, H b ≠ none ∧ C.F b = none ∧ C.H b ≠ none
  sl : ∀ (i : Nat) s, env[i]? = some s → SlOk K C F H σ[i]? s
  dis : ∀ (i j : Nat) p, Owned σ env i p → Owned σ env j p → i = j
  len : env.length = σ.length
  tb : LamX.Tabs C.T H
  nt : NT F
section
variable {K : PySem.W.Frag} {C : Cn} {F F' : Hp} {σ : St} {H H' : Hp} {env : En}
/-- nothing owned lies in what is known; F may grow within H away from what is owned -/
theorem Rel.grow (r : Rel K C F σ H env) (e : Ex F F') (e' : Ex F' H') (k : ∀ a o, H a = some o → H' a = some o)
    (new : ∀ a, F a = none → F' a ≠ none → H a = none) (nt : NT F') : Rel K C F' σ H' env where
  fh := e'
  cf := r.cf.trans e
  new := fun a h1 h2 => by
    by_cases h : F a = none
    · have := new a h h2
      cases q : C.H a with
      | none => rfl
      | some o =>
        by_cases hb : a ∈ C.B
        · exact absurd this (r.bd a hb).1
        · rw [r.pres a o q hb] at this; cases this
    · exact r.new a h1 h
  pres := fun a o h hb => k a o (r.pres a o h hb)
  bd := fun b hb => by
    obtain ⟨h1, h2, h3⟩ := r.bd b hb
    refine ⟨?_, h2, h3⟩
    cases q : H b with
    | none => exact absurd q h1
    | some o => rw [k b o q]; simp
  sl := fun i s h => by
    have q := r.sl i s h
    have nf : ∀ p o, F p = none → H p = some o → F' p = none := fun p vs h1 h2 => by
      cases q : F' p with
      | none => rfl
      | some o => have z := new p h1 (by rw [q]; simp); rw [h2] at z; cases z
    cases s with
    | no => trivial
    | val d => obtain ⟨v, h1, h2⟩ := q; exact ⟨v, h1, dp_mono e h2⟩
    | own ds => obtain ⟨p, vs, h1, h2, h3, h4, h5⟩ := q; exact ⟨p, vs, h1, nf p _ h2 h4, h3, k _ _ h4, dps_mono e h5⟩
    | bor ds => obtain ⟨p, vs, h1, h2, h3, h4, h5⟩ := q; exact ⟨p, vs, h1, nf p _ h2 h4, h3, k _ _ h4, dps_mono e h5⟩
    | obj ob => obtain ⟨p, h1, h2, h3, h4⟩ := q; exact ⟨p, h1, nf p _ h2 h4, h3, k _ _ h4⟩
    | raw v => exact q
    | exc a dd fs => obtain ⟨z1, z2, z3, z4⟩ := q; exact ⟨z1, z2, e _ _ z3, fs_mono e z4⟩
    | tab T => exact q
  dis := r.dis
  len := r.len
  tb := r.tb.ext k
  nt := nt
theorem Rel.fresh (r : Rel K C F σ H env) {p : Addr} (h : H p = none) : F p = none ∧ C.H p = none := by
  constructor
  · cases q : F p with
    | none => rfl
    | some o => rw [r.fh p o q] at h; cases h
  · cases q : C.H p with
    | none => rfl
    | some o =>
      by_cases hb : p ∈ C.B
      · exact absurd h (r.bd p hb).1
      · rw [r.pres p o q hb] at h; cases h
/-- a new known object -/
theorem Rel.newF (r : Rel K C F σ H env) {p : Addr} {o : HO} (h : H p = none) (hn : ∀ ps, o ≠ .tbl ps := by intro _ z; cases z) : Rel K C (upd F p o) σ (upd H p o) env := by
  have hf := (r.fresh h).1
  refine r.grow (Ex.new hf) (fun a u q => ?_) (fun a u q => ?_) (fun a h1 h2 => ?_) (r.nt.upd hn)
  · by_cases ha : a = p
    · subst ha; rw [upd_same] at q ⊢; exact q
    · rw [upd_ne ha] at q ⊢; exact r.fh a u q
  · rw [upd_ne (ne_of_none q h)]; exact q
  · by_cases ha : a = p
    · subst ha; exact h
    · rw [upd_ne ha] at h2; exact absurd h1 h2
/-- a new object that is not known (owned by nobody as yet) -/
theorem Rel.newH (r : Rel K C F σ H env) {p : Addr} {o : HO} (h : H p = none) : Rel K C F σ (upd H p o) env := by
  have hf := (r.fresh h).1
  refine r.grow (Ex.refl _) (fun a u q => ?_) (fun a u q => ?_) (fun a h1 h2 => absurd h1 h2) r.nt
  · rw [upd_ne (ne_of_none q hf)]; exact r.fh a u q
  · rw [upd_ne (ne_of_none q h)]; exact q
/-- a new list that nobody holds is kept while the rest goes on -/
def Cn.guard (C : Cn) (p : Addr) (o : HO) : Cn := { C with H := upd C.H p o }
theorem Rel.guard (r : Rel K C F σ H env) {p : Addr} {o : HO} (h1 : F p = none) (h2 : C.H p = none) (h3 : H p = some o) (h4 : ∀ i, ¬ Owned σ env i p) (ho : ∀ ps, o ≠ .tbl ps := by intro _ z; cases z) : Rel K (C.guard p o) F σ H env where
  fh := r.fh
  cf := r.cf
  new := fun a q1 q2 => by
    have ne : a ≠ p := fun e => by subst e; exact q2 h1
    show upd C.H p o a = none
    rw [upd_ne ne]; exact r.new a q1 q2
  pres := fun a u q hb => by
    have q : upd C.H p o a = some u := q
    by_cases ne : a = p
    · subst ne; rw [upd_same] at q; rw [← q]; exact h3
    · rw [upd_ne ne] at q; exact r.pres a u q hb
  bd := fun b hb => by
    obtain ⟨a1, a2, a3⟩ := r.bd b hb
    refine ⟨a1, a2, ?_⟩
    show upd C.H p o b ≠ none
    by_cases ne : b = p
    · subst ne; rw [upd_same]; simp
    · rw [upd_ne ne]; exact a3
  sl := fun i s hs => by
    have q := r.sl i s hs
    cases s with
    | no => trivial
    | val d => exact q
    | own ds =>
      obtain ⟨p', vs, a1, a2, a3, a4, a5⟩ := q
      have ne : p' ≠ p := fun e => h4 i ⟨_, hs, rfl, by rw [← e]; exact a1⟩
      exact ⟨p', vs, a1, a2, by show upd C.H p o p' = none; rw [upd_ne ne]; exact a3, a4, a5⟩
    | obj ob =>
      obtain ⟨p', a1, a2, a3, a4⟩ := q
      have ne : p' ≠ p := fun e => h4 i ⟨_, hs, rfl, by rw [← e]; exact a1⟩
      exact ⟨p', a1, a2, by show upd C.H p o p' = none; rw [upd_ne ne]; exact a3, a4⟩
    | bor ds => exact q
    | raw v => exact q
    | exc a dd fs => exact q
    | tab T =>
      refine ⟨q.1, fun a ps z => ?_⟩
      have z : upd C.H p o a = some (.tbl ps) := z
      by_cases e : a = p
      · subst e; rw [upd_same] at z; exact absurd (Option.some.inj z) (ho ps)
      · rw [upd_ne e] at z; exact q.2 a ps z
  dis := r.dis
  len := r.len
  tb := r.tb
  nt := r.nt
theorem Rel.unguard {F0 H0 : Hp} {σ0 : St} {env0 : En} (r0 : Rel K C F0 σ0 H0 env0) {p : Addr} {o : HO} (h2 : C.H p = none) (r : Rel K (C.guard p o) F σ H env) : Rel K C F σ H env where
  fh := r.fh
  cf := r.cf
  new := fun a q1 q2 => by
    have q : upd C.H p o a = none := r.new a q1 q2
    by_cases ne : a = p
    · subst ne; exact h2
    · rw [upd_ne ne] at q; exact q
  pres := fun a u q hb => r.pres a u (by show upd C.H p o a = some u; rw [upd_ne (ne_of_none q h2)]; exact q) hb
  bd := fun b hb => ⟨(r.bd b hb).1, (r0.bd b hb).2⟩
  sl := fun i s hs => by
    have q := r.sl i s hs
    cases s with
    | own ds =>
      obtain ⟨p', vs, a1, a2, a3, a4, a5⟩ := q
      have a3 : upd C.H p o p' = none := a3
      refine ⟨p', vs, a1, a2, ?_, a4, a5⟩
      by_cases ne : p' = p
      · subst ne; exact h2
      · rw [upd_ne ne] at a3; exact a3
    | obj ob =>
      obtain ⟨p', a1, a2, a3, a4⟩ := q
      have a3 : upd C.H p o p' = none := a3
      refine ⟨p', a1, a2, ?_, a4⟩
      by_cases ne : p' = p
      · subst ne; exact h2
      · rw [upd_ne ne] at a3; exact a3
    | no => trivial
    | val d => exact q
    | bor ds => exact q
    | raw v => exact q
    | exc a dd fs => exact q
    | tab T => exact ⟨q.1, fun a ps z => q.2 a ps (by show upd C.H p o a = some (.tbl ps); rw [upd_ne (ne_of_none z h2)]; exact z)⟩
  dis := r.dis
  len := r.len
  tb := r.tb
  nt := r.nt
theorem Rel.guarded {p : Addr} {o : HO} (r0 : ∀ b ∈ C.B, C.H b ≠ none) (h2 : C.H p = none) (r : Rel K (C.guard p o) F σ H env) : H p = some o :=
  r.pres p o upd_same fun hb => r0 p hb h2
end
end Pf
/-! part Pf2 -/
set_option Elab.async false
set_option linter.all false
set_option maxRecDepth 100000
set_option maxHeartbeats 2000000
namespace Pf
open PySem PySem.Spec L2 Evl

/-! ### outcomes -/
/-- an exception: the name of its class, its values (none: it has no dict of its own) -/
structure Xc where
  cls : Str
  fs : Option (List (Str × PyData))
abbrev Rs (α : Type) := Option (Except (Xc × En) (α × En))
abbrev M (α : Type) := En → Rs α
def M.ok {α : Type} (a : α) : M α := fun env => some (.ok (a, env))
def M.bd {α β : Type} (m : M α) (f : α → M β) : M β := fun env => match m env with
  | none => none
  | some (.error x) => some (.error x)
  | some (.ok (a, env')) => f a env'
def M.no {α : Type} : M α := fun _ => none
def M.opt {α : Type} (o : Option α) : M α := fun env => match o with
  | none => none
  | some a => some (.ok (a, env))

section
variable (K : PySem.W.Frag) (mg : Str → Option Value)
/-- an exception as it is wished for -/
def XOk (F H : Hp) (cls : Value) (dx : Option Addr) (x : Xc) : Prop := mg x.cls = some cls ∧ match x.fs with
  | none => dx = none
  | some gs => ∃ d fs, dx = some d ∧ F d = some (.xd fs) ∧ FsOk K F fs gs
abbrev OkR (α β : Type) := Cn → Hp → St → Hp → En → α → β → Prop
def okV : OkR PyData V := fun _ F _ _ _ d v => Dp K F v d
def okB : OkR Bool Bool := fun _ _ _ _ _ a b => b = a
def okA : OkR (List PyData) (List V) := fun _ F _ _ _ ds vs => DpAll K F vs ds
def okO : OkR (List PyData) V := fun C F σ H env ds v => ∃ p vs, v = .ref p ∧ F p = none ∧ C.H p = none ∧ H p = some (.lst vs) ∧ DpAll K F vs ds ∧ ∀ i, ¬ Owned σ env i p
def After {α β : Type} (ok : OkR α β) (W : WX) (C : Cn) (F : Hp) (σ : St) (r : Rs α) (Q : β → Hp → Prop) : Prop := match r with
  | none => False
  | some (.ok (a, env')) => ∀ b F' H', Rel K C F' σ H' env' → Ex F F' → ok C F' σ H' env' a b → Q b H'
  | some (.error (x, env')) => ∀ F' H' cls dx, Rel K C F' σ H' env' → Ex F F' → XOk K mg F' H' cls dx x → W cls dx σ H'
def tG {α β : Type} (ok : OkR α β) (W : WX) (g : M α) : St → Hp → (β → Hp → Prop) → Prop := fun σ H Q =>
  ∃ C F env, Rel K C F σ H env ∧ After K mg ok W C F σ (g env) Q
end
abbrev SG {α : Type} (X : Cx) (ok : OkR α V) (W : WX) (e : Expr) (g : M α) : Prop := PE X e (tG X.K X.mg ok W g)
abbrev SV (X : Cx) (W : WX) (e : Expr) (g : M PyData) : Prop := PE X e (tG X.K X.mg (okV X.K) W g)
abbrev SO (X : Cx) (W : WX) (e : Expr) (g : M (List PyData)) : Prop := PE X e (tG X.K X.mg (okO X.K) W g)
abbrev ST (X : Cx) (W : WX) (e : Expr) (g : M Bool) : Prop := PT X e (tG X.K X.mg okB W g)
abbrev SW (X : Cx) (W : WX) (e : Expr) (g : M Bool) : Prop := PW X e (tG X.K X.mg okB W g)
abbrev SA (X : Cx) (W : WX) (es : List Expr) (g : M (List PyData)) : Prop := PA X es (tG X.K X.mg (okA X.K) W g)

section
variable {X : Cx} {t t' : TE} {u u' : TT} {a a' : TA} {e : Expr} {es : List Expr}
theorem pe_imp (h : PE X e t) (k : ∀ σ H Q, t' σ H Q → t σ H Q) : PE X e t' := ⟨fun pins s σ H Q I q => h.run pins s σ H Q I (k σ H Q q)⟩
theorem pt_imp (h : PT X e u) (k : ∀ σ H Q, u' σ H Q → u σ H Q) : PT X e u' := ⟨fun pins s σ H Q I q => h.run pins s σ H Q I (k σ H Q q)⟩
theorem pw_imp (h : PW X e u) (k : ∀ σ H Q, u' σ H Q → u σ H Q) : PW X e u' := ⟨fun wh pins s σ H Q I q => h.run wh pins s σ H Q I (k σ H Q q)⟩
theorem pa_imp (h : PA X es a) (k : ∀ σ H Q, a' σ H Q → a σ H Q) : PA X es a' := ⟨fun pos pins s σ H Q I q => h.run pos pins s σ H Q I (k σ H Q q)⟩
end

section
variable {K : PySem.W.Frag} {mg : Str → Option Value} {W : WX} {σ : St} {H : Hp} {C : Cn} {F F' : Hp} {env : En} {α β γ δ : Type} {ok : OkR α β} {ok' : OkR γ δ}
theorem After.up {r : Rs α} {Q : β → Hp → Prop} (h : After K mg ok W C F σ r Q) (e : Ex F F') : After K mg ok W C F' σ r Q := by
  cases r with
  | none => exact h
  | some r =>
    cases r with
    | error x => obtain ⟨x, env'⟩ := x; exact fun F2 H2 cls dx R e2 => h F2 H2 cls dx R (e.trans e2)
    | ok y => obtain ⟨y, env'⟩ := y; exact fun b F2 H2 R e2 => h b F2 H2 R (e.trans e2)
/-- first g (told with another entry C', which leads back), then what follows -/
theorem tG_bd' {C' : Cn} {g : M α} {f : α → M γ} {Q : δ → Hp → Prop} {Q1 : β → Hp → Prop} (R : Rel K C' F σ H env) (back : ∀ F' H' env', Rel K C' F' σ H' env' → Rel K C F' σ H' env')
    (h : After K mg ok' W C F σ (M.bd g f env) Q)
    (k : ∀ d env' b F' H', Rel K C' F' σ H' env' → Ex F F' → ok C' F' σ H' env' d b → After K mg ok' W C F' σ (f d env') Q → Q1 b H') : tG K mg ok W g σ H Q1 := by
  refine ⟨C', F, env, R, ?_⟩
  unfold M.bd at h
  cases q : g env with
  | none => rw [q] at h; exact h
  | some r =>
    rw [q] at h
    cases r with
    | error x => obtain ⟨x, env'⟩ := x; exact fun F' H' cls dx R' => h F' H' cls dx (back _ _ _ R')
    | ok y =>
      obtain ⟨d, env'⟩ := y
      exact fun b F' H' R' e o => k d env' b F' H' R' e o (After.up h e)
theorem tG_bd {g : M α} {f : α → M γ} {Q : δ → Hp → Prop} {Q1 : β → Hp → Prop} (R : Rel K C F σ H env) (h : After K mg ok' W C F σ (M.bd g f env) Q)
    (k : ∀ d env' b F' H', Rel K C F' σ H' env' → Ex F F' → ok C F' σ H' env' d b → After K mg ok' W C F' σ (f d env') Q → Q1 b H') : tG K mg ok W g σ H Q1 :=
  tG_bd' R (fun _ _ _ r => r) h k
theorem aft {a : α} {Q : β → Hp → Prop} {b : β} (h : After K mg ok W C F σ (M.ok a env) Q) (R : Rel K C F σ H env) (o : ok C F σ H env a b) : Q b H := h b F H R (Ex.refl F) o
/-- .. leaving a greater heap -/
theorem aft' {a : α} {H' : Hp} {Q : β → Hp → Prop} {b : β} (h : After K mg ok W C F σ (M.ok a env) Q) (R : Rel K C F' σ H' env) (e : Ex F F') (o : ok C F' σ H' env a b) : Q b H' := h b F' H' R e o
theorem After.of_opt {o : Option α} {Q : β → Hp → Prop} (h : After K mg ok W C F σ (M.opt o env) Q) : ∃ a, o = some a ∧ After K mg ok W C F σ (M.ok a env) Q := by
  cases o with
  | none => exact h.elim
  | some a => exact ⟨a, rfl, h⟩
end

/-! ### names, constants -/
def gC (d : PyData) : M PyData := M.ok d
/-- a name: data; a list that is held becomes data -/
def gN (i : Nat) : M PyData := fun env => match env[i]? with
  | some (.val d) => some (.ok (d, env))
  | some (.own ds) => some (.ok (.list ds, env.set i (.val (.list ds))))
  | _ => none
/-- a name whose list is handed on -/
def gNO (i : Nat) : M (List PyData) := fun env => match env[i]? with
  | some (.own ds) => some (.ok (ds, env.set i .no))
  | _ => none
section
variable {K : PySem.W.Frag} {C : Cn} {F : Hp} {σ : St} {H : Hp} {env : En} {i : Nat} {p : Addr} {s : Sl}
theorem set_at {l : En} {i j : Nat} {s s' : Sl} (h : (l.set i s)[j]? = some s') : (j = i ∧ s' = s ∧ i < l.length) ∨ (j ≠ i ∧ l[j]? = some s') := by
  by_cases e : j = i
  · subst e
    by_cases q : j < l.length
    · rw [List.getElem?_set_self q] at h; exact .inl ⟨rfl, (Option.some.inj h).symm, q⟩
    · rw [List.getElem?_eq_none (by simpa using q)] at h; cases h
  · rw [List.getElem?_set_ne (Ne.symm e)] at h; exact .inr ⟨e, h⟩
/-- a slot is forgotten, or told otherwise; it owns nothing -/
theorem Rel.slot (r : Rel K C F σ H env) (s : Sl) (hs : isOwn s = false) (ok : SlOk K C F H σ[i]? s) : Rel K C F σ H (env.set i s) where
  fh := r.fh
  cf := r.cf
  new := r.new
  pres := r.pres
  bd := r.bd
  sl := fun j s' h => by
    rcases set_at h with ⟨rfl, rfl, _⟩ | ⟨ne, h⟩
    · exact ok
    · exact r.sl j s' h
  dis := fun j k q h1 h2 => by
    obtain ⟨s1, e1, o1, a1⟩ := h1
    obtain ⟨s2, e2, o2, a2⟩ := h2
    rcases set_at e1 with ⟨rfl, rfl, _⟩ | ⟨ne1, e1⟩
    · rw [hs] at o1; cases o1
    · rcases set_at e2 with ⟨rfl, rfl, _⟩ | ⟨ne2, e2⟩
      · rw [hs] at o2; cases o2
      · exact r.dis j k q ⟨s1, e1, o1, a1⟩ ⟨s2, e2, o2, a2⟩
  len := by rw [List.length_set]; exact r.len
  tb := r.tb
  nt := r.nt
/-- a list that a slot holds becomes known -/
theorem Rel.freeze {ds : List PyData} (r : Rel K C F σ H env) (h : env[i]? = some (.own ds)) :
    ∃ p vs, σ[i]? = some (some (.ref p)) ∧ Ex F (upd F p (.lst vs)) ∧ Dp K (upd F p (.lst vs)) (.ref p) (.list ds) ∧ Rel K C (upd F p (.lst vs)) σ H (env.set i (.val (.list ds))) := by
  obtain ⟨p, vs, h1, h2, h3, h4, h5⟩ := r.sl i _ h
  have ex : Ex F (upd F p (.lst vs)) := Ex.new h2
  have dp : Dp K (upd F p (.lst vs)) (.ref p) (.list ds) := .lst (SqL.of upd_same) (dps_mono ex h5)
  refine ⟨p, vs, h1, ex, dp, ?_⟩
  have nb : ∀ j, j ≠ i → ¬ Owned σ env j p := fun j ne o => ne (r.dis j i p o ⟨_, h, rfl, h1⟩)
  exact {
    fh := fun a o q => by
      by_cases ha : a = p
      · subst ha; rw [upd_same] at q; cases q; exact h4
      · rw [upd_ne ha] at q; exact r.fh a o q
    cf := r.cf.trans ex
    new := fun a q1 q2 => by
      by_cases ha : a = p
      · subst ha; exact h3
      · rw [upd_ne ha] at q2; exact r.new a q1 q2
    pres := r.pres
    bd := r.bd
    sl := fun j s hj => by
      rcases set_at hj with ⟨rfl, rfl, _⟩ | ⟨ne, hj⟩
      · exact ⟨_, h1, dp⟩
      · have q := r.sl j s hj
        cases s with
        | no => trivial
        | val d => obtain ⟨v, a1, a2⟩ := q; exact ⟨v, a1, dp_mono ex a2⟩
        | own es =>
          obtain ⟨p', ws, a1, a2, a3, a4, a5⟩ := q
          have np : p' ≠ p := fun e => nb j ne ⟨_, hj, rfl, by rw [← e]; exact a1⟩
          exact ⟨p', ws, a1, by rw [upd_ne np]; exact a2, a3, a4, dps_mono ex a5⟩
        | bor es =>
          obtain ⟨p', ws, a1, a2, a3, a4, a5⟩ := q
          have np : p' ≠ p := fun e => nb j ne ⟨_, hj, rfl, by rw [← e]; exact a1⟩
          exact ⟨p', ws, a1, by rw [upd_ne np]; exact a2, a3, a4, dps_mono ex a5⟩
        | obj ob =>
          obtain ⟨p', a1, a2, a3, a4⟩ := q
          have np : p' ≠ p := fun e => nb j ne ⟨_, hj, rfl, by rw [← e]; exact a1⟩
          exact ⟨p', a1, by rw [upd_ne np]; exact a2, a3, a4⟩
        | raw v => exact q
        | exc a dd fs => obtain ⟨z1, z2, z3, z4⟩ := q; exact ⟨z1, z2, ex _ _ z3, fs_mono ex z4⟩
        | tab T => exact q
    dis := fun j k q o1 o2 => by
      obtain ⟨s1, e1, o1, a1⟩ := o1
      obtain ⟨s2, e2, o2, a2⟩ := o2
      rcases set_at e1 with ⟨rfl, rfl, _⟩ | ⟨ne1, e1⟩
      · cases o1
      · rcases set_at e2 with ⟨rfl, rfl, _⟩ | ⟨ne2, e2⟩
        · cases o2
        · exact r.dis j k q ⟨s1, e1, o1, a1⟩ ⟨s2, e2, o2, a2⟩
    len := by rw [List.length_set]; exact r.len
    tb := r.tb
    nt := r.nt.upd (by intro _ z; cases z) }
end
section
variable {X : Cx} {W : WX}
theorem sv_n {x : Str} {pos : Pos} (i : Nat) (hN : X.N[i]? = some x := by rfl) (hv : Vis X.env.scope x := by first | exact Or.inl rfl | exact Or.inr (Or.inl rfl) | exact Or.inr (Or.inr rfl))
    (hd : (x == ("__debug__" : Str)) = false := by decide) (hcd : (x == ("__classdict__" : Str)) = false := by decide) : SV X W (.Name x pos) (gN i) :=
  pe_imp (pe_var hN hv hd hcd) fun σ H Q ⟨C, F, env, R, h⟩ => by
    unfold gN at h
    cases q : env[i]? with
    | none => rw [q] at h; exact h.elim
    | some s =>
      rw [q] at h
      cases s with
      | no => exact h.elim
      | val d =>
        obtain ⟨v, a1, a2⟩ := R.sl i _ q
        exact ⟨v, a1, h v F H R (Ex.refl F) a2⟩
      | own ds =>
        obtain ⟨p, vs, a1, ex, dp, R'⟩ := R.freeze q
        exact ⟨.ref p, a1, h _ _ H R' ex dp⟩
      | bor ds => exact h.elim
      | obj ob => exact h.elim
      | raw v => exact h.elim
      | exc a dd fs => exact h.elim
      | tab T => exact h.elim
theorem so_n {x : Str} {pos : Pos} (i : Nat) (hN : X.N[i]? = some x := by rfl) (hv : Vis X.env.scope x := by first | exact Or.inl rfl | exact Or.inr (Or.inl rfl) | exact Or.inr (Or.inr rfl))
    (hd : (x == ("__debug__" : Str)) = false := by decide) (hcd : (x == ("__classdict__" : Str)) = false := by decide) : SO X W (.Name x pos) (gNO i) :=
  pe_imp (pe_var hN hv hd hcd) fun σ H Q ⟨C, F, env, R, h⟩ => by
    unfold gNO at h
    cases q : env[i]? with
    | none => rw [q] at h; exact h.elim
    | some s =>
      rw [q] at h
      cases s with
      | own ds =>
        obtain ⟨p, vs, a1, a2, a3, a4, a5⟩ := R.sl i _ q
        refine ⟨.ref p, a1, h _ F H (R.slot (i := i) .no rfl trivial) (Ex.refl F) ⟨p, vs, rfl, a2, a3, a4, a5, fun j o => ?_⟩⟩
        obtain ⟨s, e1, o1, b1⟩ := o
        rcases set_at e1 with ⟨rfl, rfl, _⟩ | ⟨ne, e1⟩
        · cases o1
        · exact ne (R.dis j i p ⟨s, e1, o1, b1⟩ ⟨_, q, rfl, a1⟩)
      | _ => exact h.elim
theorem sv_int {i : Int} {j pos} : SV X W (.Constant (.int i) j pos) (gC (.int i)) := pe_imp pe_int fun _ _ _ ⟨_, _, _, R, h⟩ => h _ _ _ R (Ex.refl _) (.int i)
theorem sv_str {x : Str} {j pos} : SV X W (.Constant (.str x) j pos) (gC (.str x)) := pe_imp pe_str fun _ _ _ ⟨_, _, _, R, h⟩ => h _ _ _ R (Ex.refl _) (.str x)
theorem sv_bl {b : Bool} {j pos} : SV X W (.Constant (.bool b) j pos) (gC (.bool b)) := pe_imp pe_bl fun _ _ _ ⟨_, _, _, R, h⟩ => h _ _ _ R (Ex.refl _) (.bl b)
theorem sv_non {j pos} : SV X W (.Constant .none j pos) (gC .none) := pe_imp pe_non fun _ _ _ ⟨_, _, _, R, h⟩ => h _ _ _ R (Ex.refl _) .non
end
end Pf
/-! part Pf3 -/
set_option Elab.async false
set_option linter.all false
set_option maxRecDepth 100000
set_option maxHeartbeats 2000000
namespace Pf
open PySem PySem.Spec L2 Evl

/-! ### operations upon data -/
def seqD : PyData → Option (List PyData)
  | .list ds => some ds
  | .tuple ds => some ds
  | _ => none
def addD : PyData → PyData → Option PyData
  | .int a, .int b => some (.int (a + b))
  | .str a, .str b => if a.length + b.length ≤ sizeLine then some (.str (a ++ b)) else none
  | .tuple xs, .tuple ys => if xs.length + ys.length ≤ sizeLine then some (.tuple (xs ++ ys)) else none
  | _, _ => none
def subD : PyData → PyData → Option PyData
  | .int a, .int b => some (.int (a - b))
  | _, _ => none
def mulD : PyData → PyData → Option PyData
  | .int a, .int b => if (-(2 ^ 64) < a ∧ a < 2 ^ 64) ∨ (-(2 ^ 64) < b ∧ b < 2 ^ 64) then some (.int (a * b)) else none
  | _, _ => none
def modD : PyData → PyData → Option PyData
  | .int a, .int b => if b = 0 then none else some (.int (a.fmod b))
  | _, _ => none
def divD : PyData → PyData → Option PyData
  | .int a, .int b => if b ≠ 0 ∧ b.natAbs < 1073741824 then some (.int (a.fdiv b)) else none
  | _, _ => none
def powD : PyData → PyData → Option PyData
  | .int a, .int b => if 0 ≤ b ∧ b ≤ 1000000 ∧ a.natAbs < 2 ^ 64 then some (.int (a ^ b.toNat)) else none
  | _, _ => none
def negD : PyData → Option PyData
  | .int a => some (.int (-a))
  | _ => none
def flatD : PyData → Bool
  | .none => true
  | .bool _ => true
  | .int _ => true
  | .str _ => true
  | _ => false
def cmpD (p : Int → Int → Bool) : PyData → PyData → Option Bool
  | .int a, .int b => some (p a b)
  | _, _ => none
def eqD (a b : PyData) : Option Bool := if SeqAt.shaped a = true ∧ SeqAt.shaped b = true then some (PyData.eqv a b) else none
def neD (a b : PyData) : Option Bool := if SeqAt.shaped a = true ∧ SeqAt.shaped b = true then some (!PyData.eqv a b) else none
def inD (x ys : PyData) : Option Bool := match seqD ys with
  | some ys => if flatD x = true ∧ ys.all flatD = true then some (ys.any fun y => PyData.eqv y x) else none
  | none => none
def isNoneD : PyData → Bool
  | .none => true
  | _ => false
def tyD : PyData → String
  | .none => "NoneType"
  | .bool _ => "bool"
  | .int _ => "int"
  | .str _ => "str"
  | .list _ => "list"
  | .tuple _ => "tuple"
  | .dict _ => "dict"
def isaD : String → PyData → Bool
  | "int", .int _ => true
  | "int", .bool _ => true
  | "bool", .bool _ => true
  | "str", .str _ => true
  | "list", .list _ => true
  | "tuple", .tuple _ => true
  | _, _ => false
def truD : PyData → Option Bool
  | .none => some false
  | .bool b => some b
  | .int i => some (i != 0)
  | .str y => if y.length ≤ sizeLine then some ((y.length : Int) != 0) else none
  | .list xs => some (!xs.isEmpty)
  | .tuple xs => some (!xs.isEmpty)
  | .dict _ => none
def atD : PyData → PyData → Option PyData
  | .list xs, .int i => atI xs i
  | .tuple xs, .int i => atI xs i
  | .str z, .int i => if z.length ≤ sizeLine then (atI z.cps.toList i).map fun c => .str ⟨#[c]⟩ else none
  | _, _ => none
def lenD : PyData → Option PyData
  | .list xs => some (.int xs.length)
  | .tuple xs => some (.int xs.length)
  | .str z => if z.length ≤ sizeLine then some (.int z.length) else none
  | _ => none
def cutD (ds : List PyData) (lo hi : Option Int) : List PyData := (ds.drop (HT.sIx ds.length 0 lo)).take (HT.sIx ds.length ds.length hi - HT.sIx ds.length 0 lo)

section
variable {K : PySem.W.Frag} {F H : Hp} {v w : V} {d e : PyData}
theorem dp_flat (h : Dp K H v d) (f : flatD d = true) : flatV v = true := by
  cases h <;> first | rfl | cases f
theorem dps_flat : ∀ {vs : List V} {ds : List PyData}, DpAll K H vs ds → ds.all flatD = true → vs.all flatV = true
  | _, _, .nil, _ => rfl
  | _, _, .cons a r, f => by
    simp only [List.all_cons, Bool.and_eq_true] at f ⊢
    exact ⟨dp_flat a f.1, dps_flat r f.2⟩
theorem eqV_of (h : Dp K H v d) (h' : Dp K H w e) (f : flatD d = true) (f' : flatD e = true) : eqV v w = PyData.eqv d e := by
  cases h <;> cases h' <;> first | rfl | cases f | cases f' | (simp only [eqV, PyData.eqv])
theorem any_of (h' : Dp K H w e) (f' : flatD e = true) : ∀ {vs : List V} {ds : List PyData}, DpAll K H vs ds → ds.all flatD = true → inV w vs = ds.any fun y => PyData.eqv y e
  | _, _, .nil, _ => rfl
  | _, _, .cons a r, f => by
    simp only [List.all_cons, Bool.and_eq_true] at f
    unfold inV
    rw [List.any_cons, List.any_cons, eqV_of a h' f.1 f']
    have := any_of h' f' r f.2
    unfold inV at this
    rw [this]
theorem dp_seq {ds : List PyData} (h : Dp K H v d) (s : seqD d = some ds) : ∃ p vs, v = .ref p ∧ (SqL K H p vs ∨ SqT K H p vs) ∧ DpAll K H vs ds := by
  cases h with
  | lst a b => cases s; exact ⟨_, _, rfl, .inl a, b⟩
  | tup a b => cases s; exact ⟨_, _, rfl, .inr a, b⟩
  | _ => cases s
theorem atI_dps {vs : List V} {ds : List PyData} {i : Int} (h : DpAll K H vs ds) (e : atI ds i = some d) : ∃ v, atI vs i = some v ∧ Dp K H v d := by
  unfold atI at e ⊢
  rw [h.len]
  cases q : ixN ds.length i with
  | none => rw [q] at e; cases e
  | some j =>
    rw [q] at e
    exact h.get e
theorem cut_dps {vs : List V} {ds : List PyData} (lo hi : Option Int) (h : DpAll K H vs ds) : DpAll K H (cutV vs lo hi) (cutD ds lo hi) := by
  unfold cutV cutD
  rw [h.len]
  exact (h.drop _).take _
end

section
variable {X : Cx} {W : WX} {a b c : Expr} {ga gb : M PyData} {pos : Pos} {α : Type}
/-- by a rule of two values -/
theorem sg_op {op : Operator} {r : R2} {ok : OkR α V} {f : PyData → PyData → M α} (ho : OpR X (binaryOp op) r) (ha : SV X W a ga) (hb : SV X W b gb)
    (hr : ∀ C F σ H env v w d e Q, Rel X.K C F σ H env → Dp X.K F v d → Dp X.K F w e → After X.K X.mg ok W C F σ (f d e env) Q → r v w H Q) :
    SG X ok W (.BinOp a op b pos) (M.bd ga fun d => M.bd gb fun e => f d e) :=
  pe_imp (pe_op ho ha hb) fun σ H Q ⟨C, F, env, R, h⟩ =>
    tG_bd R h fun d env1 v F1 H1 R1 e1 o1 h1 => tG_bd R1 h1 fun e env2 w F2 H2 R2 e2 o2 h2 => hr C F2 σ H2 env2 v w d e Q R2 (dp_mono e2 o1) o2 h2
theorem sv_add (ha : SV X W a ga) (hb : SV X W b gb) : SV X W (.BinOp a .Add b pos) (M.bd ga fun d => M.bd gb fun e => M.opt (addD d e)) :=
  sg_op (op_add.or (op_add_str.or op_catA)) ha hb fun C F σ H env v w d e Q R hv hw h => by
    obtain ⟨z, hz, h⟩ := h.of_opt
    unfold addD at hz
    split at hz
    · cases hv; cases hw; cases hz
      exact .inl ⟨_, _, rfl, rfl, aft h R (.int _)⟩
    · split at hz
      · rename_i hl
        cases hv; cases hw; cases hz
        exact .inr (.inl ⟨_, _, rfl, rfl, hl, aft h R (.str _)⟩)
      · cases hz
    · split at hz
      · rename_i xs ys hl
        cases hv with
        | tup s1 r1 =>
          cases hw with
          | tup s2 r2 =>
            cases hz
            have l1 := r1.len
            have l2 := r2.len
            refine .inr (.inr ⟨_, _, _, _, rfl, rfl, ex_t R.fh s1, ex_t R.fh s2, by omega, fun e1 => ?_, fun _ e2 => ?_, fun _ _ p hp => ?_⟩)
            · subst e1
              cases r1
              exact aft h R (.tup s2 r2)
            · subst e2
              cases r2
              simp only [List.append_nil] at h
              exact aft h R (.tup s1 r1)
            · have hf := (R.fresh hp).1
              exact aft' h (R.newF hp) (Ex.new hf) (.tup (SqT.of upd_same) (dps_mono (Ex.new hf) (r1.app r2)))
      · cases hz
    · cases hz

theorem sv_ints {op : Operator} {Cc : Int → Int → Prop} {g : Int → Int → Int} {f : PyData → PyData → Option PyData} (ho : OpR X (binaryOp op) (rI Cc fun i j => .int (g i j)))
    (hf : ∀ d e z, f d e = some z → ∃ i j, d = .int i ∧ e = .int j ∧ Cc i j ∧ z = .int (g i j)) (ha : SV X W a ga) (hb : SV X W b gb) :
    SV X W (.BinOp a op b pos) (M.bd ga fun d => M.bd gb fun e => M.opt (f d e)) :=
  sg_op ho ha hb fun C F σ H env v w d e Q R hv hw h => by
    obtain ⟨z, hz, h⟩ := h.of_opt
    obtain ⟨i, j, rfl, rfl, hc, rfl⟩ := hf d e z hz
    cases hv; cases hw
    exact ⟨_, _, rfl, rfl, hc, aft h R (.int _)⟩
theorem op_subC : OpR X (binaryOp .Sub) (rI (fun _ _ => True) fun i j => .int (i - j)) := fun pins s σ H x y v u Q I r1 r2 ⟨i, j, e1, e2, _, q⟩ => op_sub pins s σ H x y v u Q I r1 r2 ⟨i, j, e1, e2, q⟩
theorem sv_sub (ha : SV X W a ga) (hb : SV X W b gb) : SV X W (.BinOp a .Sub b pos) (M.bd ga fun d => M.bd gb fun e => M.opt (subD d e)) :=
  sv_ints op_subC (fun d e z h => by unfold subD at h; split at h <;> cases h; exact ⟨_, _, rfl, rfl, trivial, rfl⟩) ha hb
theorem sv_mul (ha : SV X W a ga) (hb : SV X W b gb) : SV X W (.BinOp a .Mult b pos) (M.bd ga fun d => M.bd gb fun e => M.opt (mulD d e)) :=
  sv_ints op_mul (fun d e z h => by
    unfold mulD at h
    split at h
    · split at h
      · rename_i hc; cases h; exact ⟨_, _, rfl, rfl, hc, rfl⟩
      · cases h
    · cases h) ha hb
theorem sv_mod (ha : SV X W a ga) (hb : SV X W b gb) : SV X W (.BinOp a .Mod b pos) (M.bd ga fun d => M.bd gb fun e => M.opt (modD d e)) :=
  sv_ints op_modN (fun d e z h => by
    unfold modD at h
    split at h
    · split at h
      · cases h
      · rename_i hc; cases h; exact ⟨_, _, rfl, rfl, hc, rfl⟩
    · cases h) ha hb
theorem sv_div (ha : SV X W a ga) (hb : SV X W b gb) : SV X W (.BinOp a .FloorDiv b pos) (M.bd ga fun d => M.bd gb fun e => M.opt (divD d e)) :=
  sv_ints op_fdivN (fun d e z h => by
    unfold divD at h
    split at h
    · split at h
      · rename_i hc; cases h; exact ⟨_, _, rfl, rfl, hc, rfl⟩
      · cases h
    · cases h) ha hb
theorem sv_pow (ha : SV X W a ga) (hb : SV X W b gb) : SV X W (.BinOp a .Pow b pos) (M.bd ga fun d => M.bd gb fun e => M.opt (powD d e)) :=
  sv_ints op_pow (fun d e z h => by
    unfold powD at h
    split at h
    · split at h
      · rename_i hc; cases h; exact ⟨_, _, rfl, rfl, hc, rfl⟩
      · cases h
    · cases h) ha hb
theorem sv_neg (ha : SV X W a ga) : SV X W (.UnaryOp .USub a pos) (M.bd ga fun d => M.opt (negD d)) :=
  pe_imp (pe_un un_neg ha) fun σ H Q ⟨C, F, env, R, h⟩ => tG_bd R h fun d env1 v F1 H1 R1 e1 o1 h1 => by
    obtain ⟨z, hz, h1⟩ := h1.of_opt
    unfold negD at hz
    split at hz <;> cases hz
    cases o1
    exact ⟨_, rfl, aft h1 R1 (.int _)⟩

/-! ### comparisons -/
/-- a comparison's rule, told of data -/
def CmpR (X : Cx) (op : CmpOp) (f : PyData → PyData → Option Bool) : Prop := ∃ r : R2, OpR X (compareOp op) r ∧
  ∀ C F σ H env v w d e b Q, Rel X.K C F σ H env → Dp X.K F v d → Dp X.K F w e → f d e = some b → Q (.bl b) H → r v w H Q
theorem cm_ints {op : CmpOp} {p : Int → Int → Bool} (ho : OpR X (compareOp op) (rI0 fun i j => .bl (p i j))) : CmpR X op (cmpD p) :=
  ⟨_, ho, fun C F σ H env v w d e b Q R hv hw h q => by
    unfold cmpD at h
    split at h <;> cases h
    cases hv; cases hw
    exact ⟨_, _, rfl, rfl, q⟩⟩
theorem cm_lt : CmpR X .Lt (cmpD fun i j => decide (i < j)) := cm_ints op_lt
theorem cm_le : CmpR X .LtE (cmpD fun i j => decide (i ≤ j)) := cm_ints op_le
theorem cm_gt : CmpR X .Gt (cmpD fun i j => decide (j < i)) := cm_ints op_gt
theorem cm_ge : CmpR X .GtE (cmpD fun i j => decide (j ≤ i)) := cm_ints op_ge
theorem cm_eq (hu : X.A.units + 64 < cLine) : CmpR X .Eq eqD :=
  ⟨_, op_eqD hu, fun C F σ H env v w d e b Q R hv hw h q => by
    unfold eqD at h
    split at h
    · rename_i hs; cases h
      exact ⟨d, e, dp_mono R.fh hv, dp_mono R.fh hw, hs.1, hs.2, q⟩
    · cases h⟩
theorem cm_ne (hu : X.A.units + 64 < cLine) : CmpR X .NotEq neD :=
  ⟨_, op_neD hu, fun C F σ H env v w d e b Q R hv hw h q => by
    unfold neD at h
    split at h
    · rename_i hs; cases h
      exact ⟨d, e, dp_mono R.fh hv, dp_mono R.fh hw, hs.1, hs.2, q⟩
    · cases h⟩
theorem in_facts {K : PySem.W.Frag} {H : Hp} {v w : V} {d e : PyData} {b : Bool} (hv : Dp K H v d) (hw : Dp K H w e) (h : inD d e = some b) :
    ∃ p xs, w = .ref p ∧ (SqL K H p xs ∨ SqT K H p xs) ∧ flatV v = true ∧ xs.all flatV = true ∧ inV v xs = b := by
  unfold inD at h
  split at h
  · rename_i ys hs
    split at h
    · rename_i hf
      cases h
      obtain ⟨p, vs, rfl, hq, hr⟩ := dp_seq hw hs
      exact ⟨p, vs, rfl, hq, dp_flat hv hf.1, dps_flat hr hf.2, any_of hv hf.1 hr hf.2⟩
    · cases h
  · cases h
theorem cm_in : CmpR X .In inD :=
  ⟨_, op_in_seq, fun C F σ H env v w d e b Q R hv hw h q => by
    obtain ⟨p, xs, rfl, h1, h2, h3, rfl⟩ := in_facts (dp_mono R.fh hv) (dp_mono R.fh hw) h
    exact ⟨p, xs, rfl, h1, h2, h3, q⟩⟩
def ninD (d e : PyData) : Option Bool := match inD d e with
  | none => none
  | some b => some (!b)
theorem cm_nin : CmpR X .NotIn ninD :=
  ⟨_, op_notIn_seq, fun C F σ H env v w d e b Q R hv hw h q => by
    unfold ninD at h
    split at h
    · cases h
    · rename_i k hi
      cases h
      obtain ⟨p, xs, rfl, h1, h2, h3, rfl⟩ := in_facts (dp_mono R.fh hv) (dp_mono R.fh hw) hi
      exact ⟨p, xs, rfl, h1, h2, h3, q⟩⟩
def isD (d e : PyData) : Option Bool := match e with
  | .none => some (isNoneD d)
  | _ => none
def isnD (d e : PyData) : Option Bool := match e with
  | .none => some (!isNoneD d)
  | _ => none
theorem dp_none {K : PySem.W.Frag} {H : Hp} {v : V} {d : PyData} (h : Dp K H v d) : decide (v = .non) = isNoneD d := by
  cases h <;> simp [isNoneD]
theorem cm_is : CmpR X .Is isD :=
  ⟨_, op_isN, fun C F σ H env v w d e b Q R hv hw h q => by
    unfold isD at h
    split at h <;> cases h
    cases hw
    exact ⟨rfl, by rw [dp_none hv]; exact q⟩⟩
theorem cm_isn : CmpR X .IsNot isnD :=
  ⟨_, op_notN, fun C F σ H env v w d e b Q R hv hw h q => by
    unfold isnD at h
    split at h <;> cases h
    cases hw
    exact ⟨rfl, by rw [dp_none hv]; exact q⟩⟩
theorem sv_cmp {op : CmpOp} {f : PyData → PyData → Option Bool} (hc : CmpR X op f) (ha : SV X W a ga) (hb : SV X W b gb) (hm : behindInMarks op b = false := by rfl) :
    SV X W (.Compare a [op] [b] pos) (M.bd ga fun d => M.bd gb fun e => M.opt ((f d e).map .bool)) := by
  obtain ⟨r, ho, hr⟩ := hc
  refine pe_imp (pe_cmpR ho ha hb hm) fun σ H Q ⟨C, F, env, R, h⟩ => ?_
  refine tG_bd R h fun d env1 v F1 H1 R1 e1 o1 h1 => tG_bd R1 h1 fun e env2 w F2 H2 R2 e2 o2 h2 => ?_
  obtain ⟨z, hz, h2⟩ := h2.of_opt
  cases hb : f d e with
  | none => rw [hb] at hz; cases hz
  | some k => rw [hb] at hz; cases hz; exact hr C F2 σ H2 env2 v w d e k Q R2 (dp_mono e2 o1) o2 hb (aft h2 R2 (.bl k))
theorem st_cmp {op : CmpOp} {f : PyData → PyData → Option Bool} (hc : CmpR X op f) (ha : SV X W a ga) (hb : SV X W b gb) (hm : behindInMarks op b = false := by rfl) :
    ST X W (.Compare a [op] [b] pos) (M.bd ga fun d => M.bd gb fun e => M.opt (f d e)) := by
  obtain ⟨r, ho, hr⟩ := hc
  refine pt_imp (pt_cmpR ho ha hb hm) fun σ H Q ⟨C, F, env, R, h⟩ => ?_
  refine tG_bd R h fun d env1 v F1 H1 R1 e1 o1 h1 => tG_bd R1 h1 fun e env2 w F2 H2 R2 e2 o2 h2 => ?_
  obtain ⟨k, hb, h2⟩ := h2.of_opt
  exact hr C F2 σ H2 env2 v w d e k _ R2 (dp_mono e2 o1) o2 hb ⟨k, rfl, aft h2 R2 rfl⟩
end
end Pf
/-! part Pf4 -/
set_option Elab.async false
set_option linter.all false
set_option maxRecDepth 100000
set_option maxHeartbeats 2000000
namespace Pf
open PySem PySem.Spec L2 Evl
section
variable {X : Cx} {W : WX} {a b c e : Expr} {es rest : List Expr} {ga gb gc : M PyData} {gt : M Bool} {gl : M (List PyData)} {pos : Pos} {α : Type}

theorem tru_of {K : PySem.W.Frag} {H : Hp} {v : V} {d : PyData} {k : Bool} (h : Dp K H v d) (e : truD d = some k) : TruV K v H k := by
  cases h with
  | non => cases e; rfl
  | bl b => cases e; rfl
  | int i => cases e; rfl
  | str x =>
    unfold truD at e
    split at e <;> first | cases e | skip
    all_goals first | (rename_i q; cases q; done) | skip
    split at e
    · rename_i z q hl
      cases e
      cases q
      exact ⟨hl, rfl⟩
    · cases e
  | lst a r => 
    have l := r.len
    cases e
    refine .inl ⟨_, a, ?_⟩
    cases r <;> rfl
  | tup a r =>
    cases e
    refine .inr (.inl ⟨_, a, ?_⟩)
    cases r <;> rfl
/-- a value as a test -/
theorem st_val (h : SV X W a ga) (he : ∀ whole, isTrue a X.env whole = (do let v ← whole; standAt a.pos; holding [v] (truthy v)) := by intro _; rfl) :
    ST X W a (M.bd ga fun d => M.opt (truD d)) :=
  pt_imp (pt_truth h he) fun σ H Q ⟨C, F, env, R, h⟩ => tG_bd R h fun d env1 v F1 H1 R1 e1 o1 h1 => by
    obtain ⟨k, hk, h1⟩ := h1.of_opt
    exact ⟨k, tru_of (dp_mono R1.fh o1) hk, aft h1 R1 rfl⟩
/-- a module's constant -/
theorem sv_glob {x : Str} {v : V} {u : Value} {d : PyData} (hm : X.mg x = some u) (r : RelV v u) (hd : ∀ F, Dp X.K F v d) (hg : Gl X x := by rfl) (hdb : (x == ("__debug__" : Str)) = false := by decide) : SV X W (.Name x pos) (gC d) :=
  pe_imp (pe_glob hg hm r hdb) fun σ H Q ⟨C, F, env, R, h⟩ => h _ F H R (Ex.refl F) (hd F)
theorem st_not {gt : M Bool} (h : ST X W a gt) : ST X W (.UnaryOp .Not a pos) (M.bd gt fun b => M.ok (!b)) :=
  pt_imp (pt_not h) fun σ H Q ⟨C, F, env, R, h⟩ => tG_bd R h fun d env1 v F1 H1 R1 e1 o1 h1 => by
    cases o1
    exact aft h1 R1 rfl
def gAndT (ga gb : M Bool) : M Bool := M.bd ga fun b => if b = true then gb else M.ok false
def gOrT (ga gb : M Bool) : M Bool := M.bd ga fun b => if b = true then M.ok true else gb
theorem sw_and1 {g : M Bool} (h : ST X W a g) : SW X W (.BoolOp .And [a] pos) g := pw_and1 h
theorem sw_or1 {g : M Bool} (h : ST X W a g) : SW X W (.BoolOp .Or [a] pos) g := pw_or1 h
theorem sw_and {g g' : M Bool} (h : ST X W a g) (h' : SW X W (.BoolOp .And (b :: rest) pos) g') : SW X W (.BoolOp .And (a :: b :: rest) pos) (gAndT g g') :=
  pw_imp (pw_and h h') fun σ H Q ⟨C, F, env, R, h⟩ => tG_bd R h fun d env1 v F1 H1 R1 e1 o1 h1 => by
    cases o1
    cases d with
    | true => exact ⟨C, F1, env1, R1, h1⟩
    | false => exact aft h1 R1 rfl
theorem sw_or {g g' : M Bool} (h : ST X W a g) (h' : SW X W (.BoolOp .Or (b :: rest) pos) g') : SW X W (.BoolOp .Or (a :: b :: rest) pos) (gOrT g g') :=
  pw_imp (pw_or h h') fun σ H Q ⟨C, F, env, R, h⟩ => tG_bd R h fun d env1 v F1 H1 R1 e1 o1 h1 => by
    cases o1
    cases d with
    | false => exact ⟨C, F1, env1, R1, h1⟩
    | true => exact aft h1 R1 rfl
theorem st_w {g : M Bool} (h : SW X W a g) : ST X W a g := h.pt
/-- and, or as values, by truth -/
def gAnd (ga gb : M PyData) : M PyData := M.bd ga fun d => match truD d with
  | some true => gb
  | some false => M.ok d
  | none => M.no
def gOr (ga gb : M PyData) : M PyData := M.bd ga fun d => match truD d with
  | some true => M.ok d
  | some false => gb
  | none => M.no
theorem sv_one {op} (h : SV X W a ga) : SV X W (.BoolOp op [a] pos) ga := pe_one h
theorem sv_and (h : SV X W a ga) (h' : SV X W (.BoolOp .And (b :: rest) pos) gb) : SV X W (.BoolOp .And (a :: b :: rest) pos) (gAnd ga gb) :=
  pe_imp (pe_andT h h') fun σ H Q ⟨C, F, env, R, h⟩ => tG_bd R h fun d env1 v F1 H1 R1 e1 o1 h1 => by
    cases hd : truD d with
    | none => simp only [hd] at h1; exact h1.elim
    | some k =>
      refine ⟨k, tru_of (dp_mono R1.fh o1) hd, ?_⟩
      cases k with
      | true => simp only [hd] at h1; exact ⟨C, F1, env1, R1, h1⟩
      | false => simp only [hd] at h1; exact aft h1 R1 o1
theorem sv_or (h : SV X W a ga) (h' : SV X W (.BoolOp .Or (b :: rest) pos) gb) : SV X W (.BoolOp .Or (a :: b :: rest) pos) (gOr ga gb) :=
  pe_imp (pe_orT h h') fun σ H Q ⟨C, F, env, R, h⟩ => tG_bd R h fun d env1 v F1 H1 R1 e1 o1 h1 => by
    cases hd : truD d with
    | none => simp only [hd] at h1; exact h1.elim
    | some k =>
      refine ⟨k, tru_of (dp_mono R1.fh o1) hd, ?_⟩
      cases k with
      | false => simp only [hd] at h1; exact ⟨C, F1, env1, R1, h1⟩
      | true => simp only [hd] at h1; exact aft h1 R1 o1
theorem sv_not (h : SV X W a ga) : SV X W (.UnaryOp .Not a pos) (M.bd ga fun d => M.opt ((truD d).map fun b => .bool (!b))) :=
  pe_imp (pe_notT h) fun σ H Q ⟨C, F, env, R, h⟩ => tG_bd R h fun d env1 v F1 H1 R1 e1 o1 h1 => by
    obtain ⟨z, hz, h1⟩ := h1.of_opt
    cases hd : truD d with
    | none => rw [hd] at hz; cases hz
    | some k => rw [hd] at hz; cases hz; exact ⟨k, tru_of (dp_mono R1.fh o1) hd, aft h1 R1 (.bl _)⟩
def gIf {α : Type} (gt : M Bool) (ga gb : M α) : M α := M.bd gt fun b => if b = true then ga else gb
theorem sg_ifE {ok : OkR α V} {g1 g2 : M α} (ht : ST X W c gt) (ha : SG X ok W a g1) (hb : SG X ok W b g2) : SG X ok W (.IfExp c a b pos) (gIf gt g1 g2) :=
  pe_imp (pe_ifExp ht ha hb) fun σ H Q ⟨C, F, env, R, h⟩ => tG_bd R h fun d env1 v F1 H1 R1 e1 o1 h1 => by
    cases o1
    cases d with
    | true => exact ⟨C, F1, env1, R1, h1⟩
    | false => exact ⟨C, F1, env1, R1, h1⟩
/-- a < b < c -/
def gChain (ga gb gc : M PyData) (f f' : PyData → PyData → Option Bool) : M PyData := M.bd ga fun d => M.bd gb fun e => M.bd (M.opt (f d e)) fun k =>
  if k = true then M.bd gc fun z => M.opt ((f' e z).map .bool) else M.ok (.bool false)
theorem bd_opt {K : PySem.W.Frag} {mg : Str → Option Value} {β γ δ : Type} {C : Cn} {F : Hp} {σ : St} {env : En} {ok : OkR γ δ} {o : Option β} {f : β → M γ} {Q : δ → Hp → Prop} (h : After K mg ok W C F σ (M.bd (M.opt o) f env) Q) : ∃ b, o = some b ∧ After K mg ok W C F σ (f b env) Q := by
  cases o with
  | none => exact h.elim
  | some b => exact ⟨b, rfl, h⟩
theorem sv_chain {op op' : CmpOp} {f f' : PyData → PyData → Option Bool} (h1 : CmpR X op f) (h2 : CmpR X op' f') (ha : SV X W a ga) (hb : SV X W b gb) (hc : SV X W c gc)
    (hm : lastMarks [op, op'] [b, c] = false := by with_unfolding_all rfl) : SV X W (.Compare a [op, op'] [b, c] pos) (gChain ga gb gc f f') := by
  obtain ⟨r, ho, hr⟩ := h1
  obtain ⟨r', ho', hr'⟩ := h2
  refine pe_imp (pe_chain ho ho' ha hb hc hm) fun σ H Q ⟨C, F, env, R, h⟩ => ?_
  refine tG_bd R h fun d env1 v F1 H1 R1 e1 o1 h1 => tG_bd R1 h1 fun e env2 w F2 H2 R2 e2 o2 h2 => ?_
  obtain ⟨k, hk, h2⟩ := bd_opt h2
  refine hr C F2 σ H2 env2 v w d e k _ R2 (dp_mono e2 o1) o2 hk ⟨k, rfl, ?_⟩
  cases k with
  | false => exact aft h2 R2 (.bl _)
  | true =>
    refine tG_bd R2 h2 fun z env3 x F3 H3 R3 e3 o3 h3 => ?_
    obtain ⟨q, hq, h3⟩ := h3.of_opt
    cases hb : f' e z with
    | none => rw [hb] at hq; cases hq
    | some k' => rw [hb] at hq; cases hq; exact hr' C F3 σ H3 env3 w x e z k' Q R3 (dp_mono e3 o2) o3 hb (aft h3 R3 (.bl _))

/-! ### arguments, displays -/
theorem sa_nil : SA X W [] (M.ok []) := pa_imp pa_nil fun σ H Q ⟨C, F, env, R, h⟩ => aft h R .nil
theorem sa_cons (ha : SV X W e ga) (hr : SA X W es gl) (hs : starEach (e :: es) X.env = (false, eval e X.env) :: starEach es X.env := by rfl) : SA X W (e :: es) (M.bd ga fun d => M.bd gl fun ds => M.ok (d :: ds)) :=
  pa_imp (pa_cons ha hr hs) fun σ H Q ⟨C, F, env, R, h⟩ => tG_bd R h fun d env1 v F1 H1 R1 e1 o1 h1 => tG_bd R1 h1 fun ds env2 vs F2 H2 R2 e2 o2 h2 =>
    aft h2 R2 (.cons (dp_mono e2 o1) o2)
def tupD (ds : List PyData) : Option PyData := if ds.length ≤ 1000 then some (.tuple ds) else none
def lstD (ds : List PyData) : Option (List PyData) := if ds.length ≤ 1000 then some ds else none
theorem sv_tup {x1} (h : SA X W es gl) : SV X W (.Tuple es x1 pos) (M.bd gl fun ds => M.opt (tupD ds)) :=
  pe_imp (pe_tup h) fun σ H Q ⟨C, F, env, R, h⟩ => tG_bd R h fun ds env1 vs F1 H1 R1 e1 o1 h1 => by
    obtain ⟨z, hz, h1⟩ := h1.of_opt
    unfold tupD at hz
    split at hz
    · rename_i hl
      cases hz
      have o1 : DpAll X.K F1 vs ds := o1
      have l := o1.len
      refine ⟨Nat.le_of_lt (small1000 (by omega)), fun p hp => ?_⟩
      have hf := (R1.fresh hp).1
      exact aft' h1 (R1.newF hp) (Ex.new hf) (.tup (SqT.of upd_same) (dps_mono (Ex.new hf) o1))
    · cases hz
/-- a new list that is held by nobody -/
theorem okO_new {K : PySem.W.Frag} {C : Cn} {F : Hp} {σ : St} {H : Hp} {env : En} {p : Addr} {vs : List V} {ds : List PyData} (R : Rel K C F σ H env) (hp : H p = none) (h : DpAll K F vs ds) : okO K C F σ (upd H p (.lst vs)) env ds (.ref p) :=
  ⟨p, vs, rfl, (R.fresh hp).1, (R.fresh hp).2, upd_same, h, fun i ⟨s, e1, e2, e3⟩ => by
    have q := R.sl i s e1
    cases s with
    | own es => obtain ⟨p', ws, a1, a2, a3, a4, a5⟩ := q; rw [e3] at a1; cases a1; rw [hp] at a4; cases a4
    | bor es => obtain ⟨p', ws, a1, a2, a3, a4, a5⟩ := q; rw [e3] at a1; cases a1; rw [hp] at a4; cases a4
    | obj ob => obtain ⟨p', a1, a2, a3, a4⟩ := q; rw [e3] at a1; cases a1; rw [hp] at a4; cases a4
    | _ => cases e2⟩
theorem so_lst (h : SA X W es gl) : SO X W (.List es pos) (M.bd gl fun ds => M.opt (lstD ds)) :=
  pe_imp (pe_lst h) fun σ H Q ⟨C, F, env, R, h⟩ => tG_bd R h fun ds env1 vs F1 H1 R1 e1 o1 h1 => by
    obtain ⟨z, hz, h1⟩ := h1.of_opt
    unfold lstD at hz
    split at hz
    · rename_i hl
      cases hz
      have o1 : DpAll X.K F1 vs ds := o1
      have l := o1.len
      exact ⟨Nat.le_of_lt (small1000 (by omega)), fun p hp => aft' h1 (R1.newH hp) (Ex.refl _) (okO_new R1 hp o1)⟩
    · cases hz
/-- a new list becomes known -/
theorem Rel.freezeO {K : PySem.W.Frag} {C : Cn} {F : Hp} {σ : St} {H : Hp} {env : En} {ds : List PyData} {v : V} (R : Rel K C F σ H env) (o : okO K C F σ H env ds v) :
    ∃ p vs, v = .ref p ∧ Ex F (upd F p (.lst vs)) ∧ Rel K C (upd F p (.lst vs)) σ H env ∧ Dp K (upd F p (.lst vs)) v (.list ds) := by
  obtain ⟨p, vs, rfl, h1, h2, h3, h4, h5⟩ := o
  have ex : Ex F (upd F p (.lst vs)) := Ex.new h1
  refine ⟨p, vs, rfl, ex, ?_, .lst (SqL.of upd_same) (dps_mono ex h4)⟩
  exact {
    fh := fun a o q => by
      by_cases ha : a = p
      · subst ha; rw [upd_same] at q; cases q; exact h3
      · rw [upd_ne ha] at q; exact R.fh a o q
    cf := R.cf.trans ex
    new := fun a q1 q2 => by
      by_cases ha : a = p
      · subst ha; exact h2
      · rw [upd_ne ha] at q2; exact R.new a q1 q2
    pres := R.pres
    bd := R.bd
    sl := fun j s hj => by
      have q := R.sl j s hj
      cases s with
      | no => trivial
      | val d => obtain ⟨v, a1, a2⟩ := q; exact ⟨v, a1, dp_mono ex a2⟩
      | own es =>
        obtain ⟨p', ws, a1, a2, a3, a4, a5⟩ := q
        have np : p' ≠ p := fun e => h5 j ⟨_, hj, rfl, by rw [← e]; exact a1⟩
        exact ⟨p', ws, a1, by rw [upd_ne np]; exact a2, a3, a4, dps_mono ex a5⟩
      | bor es =>
        obtain ⟨p', ws, a1, a2, a3, a4, a5⟩ := q
        have np : p' ≠ p := fun e => h5 j ⟨_, hj, rfl, by rw [← e]; exact a1⟩
        exact ⟨p', ws, a1, by rw [upd_ne np]; exact a2, a3, a4, dps_mono ex a5⟩
      | obj ob =>
        obtain ⟨p', a1, a2, a3, a4⟩ := q
        have np : p' ≠ p := fun e => h5 j ⟨_, hj, rfl, by rw [← e]; exact a1⟩
        exact ⟨p', a1, by rw [upd_ne np]; exact a2, a3, a4⟩
      | raw v => exact q
      | exc a dd fs => obtain ⟨z1, z2, z3, z4⟩ := q; exact ⟨z1, z2, ex _ _ z3, fs_mono ex z4⟩
      | tab T => exact q
    dis := R.dis
    len := R.len
    tb := R.tb
    nt := R.nt.upd (by intro _ z; cases z) }
/-- a new list as data -/
theorem sv_o {g : M (List PyData)} (h : SO X W a g) : SV X W a (M.bd g fun ds => M.ok (.list ds)) :=
  pe_imp h fun σ H Q ⟨C, F, env, R, h⟩ => tG_bd R h fun ds env1 v F1 H1 R1 e1 o1 h1 => by
    obtain ⟨p, vs, rfl, ex, R2, dp⟩ := R1.freezeO o1
    exact aft' h1 R2 ex dp

/-! ### items, slices -/
theorem sv_ix (ha : SV X W a ga) (hb : SV X W b gb) (hs : PlainIx b := by exact fun _ _ => rfl) : SV X W (.Subscript a b pos) (M.bd ga fun d => M.bd gb fun e => M.opt (atD d e)) :=
  pe_imp (pe_ix ix_seq ha hb hs) fun σ H Q ⟨C, F, env, R, h⟩ =>
    tG_bd R h fun d env1 v F1 H1 R1 e1 o1 h1 => tG_bd R1 h1 fun e env2 w F2 H2 R2 e2 o2 h2 => by
      obtain ⟨z, hz, h3⟩ := h2.of_opt
      clear h2
      have o1 : Dp X.K F2 v d := dp_mono e2 o1
      unfold atD at hz
      split at hz
      · cases o2
        cases o1 with
        | lst s r =>
          obtain ⟨x, hx, dx⟩ := atI_dps r hz
          exact .inl ⟨_, _, _, _, rfl, rfl, ex_l R2.fh s, hx, aft (ok := okV X.K) h3 R2 dx⟩
      · cases o2
        cases o1 with
        | tup s r =>
          obtain ⟨x, hx, dx⟩ := atI_dps r hz
          exact .inr (.inl ⟨_, _, _, _, rfl, rfl, ex_t R2.fh s, hx, aft (ok := okV X.K) h3 R2 dx⟩)
      · split at hz
        · rename_i hl
          cases o2
          cases o1
          cases hq : atI _ _ with
          | none => rw [hq] at hz; cases hz
          | some c => rw [hq] at hz; cases hz; exact .inr (.inr ⟨_, _, _, rfl, rfl, hl, hq, aft h3 R2 (.str _)⟩)
        · cases hz
      · cases hz
/-- what a slot's list holds -/
def gPeek (i : Nat) : M (List PyData) := fun env => match env[i]? with
  | some (.own ds) => some (.ok (ds, env))
  | some (.bor ds) => some (.ok (ds, env))
  | some (.val (.list ds)) => some (.ok (ds, env))
  | some (.val (.tuple ds)) => some (.ok (ds, env))
  | _ => none
end
end Pf
/-! part Pf5 -/
set_option Elab.async false
set_option linter.all false
set_option maxRecDepth 100000
set_option maxHeartbeats 2000000
namespace Pf
open PySem PySem.Spec L2 Evl

/-! ### lists that a slot holds -/
section
variable {K : PySem.W.Frag} {mg : Str → Option Value} {W : WX} {C : Cn} {F : Hp} {σ : St} {H : Hp} {env : En} {i : Nat} {ds ds' : List PyData}
theorem peek_of {env' : En} (R : Rel K C F σ H env) (h : gPeek i env = some (.ok (ds, env'))) : env' = env ∧ ∃ p vs, σ[i]? = some (some (.ref p)) ∧ (SqL K H p vs ∨ SqT K H p vs) ∧ DpAll K F vs ds := by
  unfold gPeek at h
  split at h
  · rename_i q; cases h; obtain ⟨p, vs, a1, _, _, a4, a5⟩ := R.sl i _ q; exact ⟨rfl, p, vs, a1, .inl (SqL.of a4), a5⟩
  · rename_i q; cases h; obtain ⟨p, vs, a1, _, _, a4, a5⟩ := R.sl i _ q; exact ⟨rfl, p, vs, a1, .inl (SqL.of a4), a5⟩
  · rename_i q; cases h; obtain ⟨v, a1, a2⟩ := R.sl i _ q
    cases a2 with
    | lst s r => exact ⟨rfl, _, _, a1, .inl (ex_l R.fh s), r⟩
  · rename_i q; cases h; obtain ⟨v, a1, a2⟩ := R.sl i _ q
    cases a2 with
    | tup s r => exact ⟨rfl, _, _, a1, .inr (ex_t R.fh s), r⟩
  · cases h
theorem bd_peek {γ δ : Type} {ok : OkR γ δ} {f : List PyData → M γ} {Q : δ → Hp → Prop} (R : Rel K C F σ H env) (h : After K mg ok W C F σ (M.bd (gPeek i) f env) Q) :
    ∃ ds p vs, gPeek i env = some (.ok (ds, env)) ∧ σ[i]? = some (some (.ref p)) ∧ (SqL K H p vs ∨ SqT K H p vs) ∧ DpAll K F vs ds ∧ After K mg ok W C F σ (f ds env) Q := by
  unfold M.bd at h
  cases q : gPeek i env with
  | none => rw [q] at h; exact h.elim
  | some r =>
    rw [q] at h
    cases r with
    | error x =>
      unfold gPeek at q
      split at q <;> cases q
    | ok y =>
      obtain ⟨ds, env'⟩ := y
      obtain ⟨rfl, p, vs, a1, a2, a3⟩ := peek_of R q
      exact ⟨ds, p, vs, rfl, a1, a2, a3, h⟩
/-- the list that the slot holds and may change -/
def gHeld (i : Nat) : M (List PyData) := fun env => match env[i]? with
  | some (.own ds) => some (.ok (ds, env))
  | some (.bor ds) => some (.ok (ds, env))
  | _ => none
def putS (ds : List PyData) : Sl → Sl
  | .own _ => .own ds
  | .bor _ => .bor ds
  | .obj _ => .own ds
  | s => s
def gPut (i : Nat) (ds : List PyData) : M Unit := fun env => match env[i]? with
  | some s => some (.ok ((), env.set i (putS ds s)))
  | none => none
theorem bd_held {γ δ : Type} {ok : OkR γ δ} {f : List PyData → M γ} {Q : δ → Hp → Prop} (R : Rel K C F σ H env) (h : After K mg ok W C F σ (M.bd (gHeld i) f env) Q) :
    ∃ ds p vs s, env[i]? = some s ∧ (isOwn s = true ∧ ∀ o, s ≠ .obj o) ∧ σ[i]? = some (some (.ref p)) ∧ H p = some (.lst vs) ∧ DpAll K F vs ds ∧ After K mg ok W C F σ (f ds env) Q := by
  unfold M.bd at h
  unfold gHeld at h
  cases q : env[i]? with
  | none => rw [q] at h; exact h.elim
  | some s =>
    rw [q] at h
    cases s with
    | own ds => obtain ⟨p, vs, a1, _, _, a4, a5⟩ := R.sl i _ q; exact ⟨ds, p, vs, _, rfl, ⟨rfl, fun _ z => by cases z⟩, a1, a4, a5, h⟩
    | bor ds => obtain ⟨p, vs, a1, _, _, a4, a5⟩ := R.sl i _ q; exact ⟨ds, p, vs, _, rfl, ⟨rfl, fun _ z => by cases z⟩, a1, a4, a5, h⟩
    | _ => exact h.elim
/-- it is changed -/
theorem Rel.write {p : Addr} {vs : List V} {s : Sl} (R : Rel K C F σ H env) (h : env[i]? = some s) (ho : isOwn s = true) (hp : σ[i]? = some (some (.ref p))) (hd : DpAll K F vs ds) (hno : ∀ o, s ≠ .obj o) :
    Rel K C F σ (upd H p (.lst vs)) (env.set i (putS ds s)) := by
  have facts : F p = none ∧ (C.H p = none ∨ p ∈ C.B) ∧ H p ≠ none := by
    have q := R.sl i s h
    cases s with
    | own es => obtain ⟨p', ws, a1, a2, a3, a4, a5⟩ := q; rw [hp] at a1; cases a1; exact ⟨a2, .inl a3, by rw [a4]; simp⟩
    | bor es => obtain ⟨p', ws, a1, a2, a3, a4, a5⟩ := q; rw [hp] at a1; cases a1; exact ⟨a2, .inr a3, by rw [a4]; simp⟩
    | obj ob => obtain ⟨p', a1, a2, a3, a4⟩ := q; rw [hp] at a1; cases a1; exact ⟨a2, .inl a3, by rw [a4]; simp⟩
    | _ => cases ho
  have hps : isOwn (putS ds s) = true := by cases s <;> first | rfl | cases ho
  exact {
    fh := R.fh.mut facts.1
    cf := R.cf
    new := R.new
    pres := fun a o q hb => by
      have ne : a ≠ p := fun e => by
        subst e
        rcases facts.2.1 with z | z
        · rw [z] at q; cases q
        · exact hb z
      rw [upd_ne ne]; exact R.pres a o q hb
    bd := fun b hb => by
      refine ⟨?_, (R.bd b hb).2⟩
      by_cases ne : b = p
      · subst ne; rw [upd_same]; simp
      · rw [upd_ne ne]; exact (R.bd b hb).1
    sl := fun j s' hj => by
      rcases set_at hj with ⟨rfl, rfl, _⟩ | ⟨ne, hj⟩
      · have q := R.sl j s h
        cases s with
        | own es => obtain ⟨p', ws, a1, a2, a3, a4, a5⟩ := q; rw [hp] at a1; cases a1; exact ⟨p, vs, hp, a2, a3, upd_same, hd⟩
        | bor es => obtain ⟨p', ws, a1, a2, a3, a4, a5⟩ := q; rw [hp] at a1; cases a1; exact ⟨p, vs, hp, a2, a3, upd_same, hd⟩
        | obj ob => obtain ⟨p', a1, a2, a3, a4⟩ := q; rw [hp] at a1; cases a1; exact ⟨p, vs, hp, a2, a3, upd_same, hd⟩
        | _ => cases ho
      · have q := R.sl j s' hj
        have np : ∀ p', isOwn s' = true → σ[j]? = some (some (.ref p')) → p' ≠ p := fun p' o a e => ne (R.dis j i p ⟨s', hj, o, by rw [← e]; exact a⟩ ⟨s, h, ho, hp⟩)
        cases s' with
        | no => trivial
        | val d => exact q
        | own es => obtain ⟨p', ws, a1, a2, a3, a4, a5⟩ := q; exact ⟨p', ws, a1, a2, a3, by rw [upd_ne (np p' rfl a1)]; exact a4, a5⟩
        | bor es => obtain ⟨p', ws, a1, a2, a3, a4, a5⟩ := q; exact ⟨p', ws, a1, a2, a3, by rw [upd_ne (np p' rfl a1)]; exact a4, a5⟩
        | obj ob => obtain ⟨p', a1, a2, a3, a4⟩ := q; exact ⟨p', a1, a2, a3, by rw [upd_ne (np p' rfl a1)]; exact a4⟩
        | raw v => exact q
        | exc a dd fs => exact q
        | tab T => exact q
    dis := fun j k q o1 o2 => by
      have back : ∀ {j : Nat}, Owned σ (env.set i (putS ds s)) j q → Owned σ env j q := fun {j} o => by
        obtain ⟨s1, e1, b1, a1⟩ := o
        rcases set_at e1 with ⟨rfl, rfl, _⟩ | ⟨ne1, e1⟩
        · exact ⟨s, h, ho, a1⟩
        · exact ⟨s1, e1, b1, a1⟩
      exact R.dis j k q (back o1) (back o2)
    len := by rw [List.length_set]; exact R.len
    nt := R.nt
    tb := by
      have q := R.sl i s h
      cases s with
      | own es => obtain ⟨p', ws, a1, a2, a3, a4, a5⟩ := q; rw [hp] at a1; cases a1; exact tabs_lst R.tb a4 fun a o ne e => by rw [upd_ne ne]; exact e
      | bor es => obtain ⟨p', ws, a1, a2, a3, a4, a5⟩ := q; rw [hp] at a1; cases a1; exact tabs_lst R.tb a4 fun a o ne e => by rw [upd_ne ne]; exact e
      | obj ob => exact absurd rfl (hno ob)
      | _ => cases ho }
end

section
variable {X : Cx} {W : WX} {a b c e : Expr} {es : List Expr} {ga gb : M PyData} {gl : M (List PyData)} {pos p1 p2 apos : Pos} {x : Str}
/-- x[e], x a name -/
def gIxP (i : Nat) (gb : M PyData) : M PyData := M.bd (gPeek i) fun _ => M.bd gb fun e => M.bd (gPeek i) fun ds => match e with
  | .int k => M.opt (atI ds k)
  | _ => M.no
theorem sv_ixP (i : Nat) (hb : SV X W b gb) (hs : PlainIx b := by exact fun _ _ => rfl) (hN : X.N[i]? = some x := by rfl) (hv : Vis X.env.scope x := by first | exact Or.inl rfl | exact Or.inr (Or.inl rfl) | exact Or.inr (Or.inr rfl))
    (hd : (x == ("__debug__" : Str)) = false := by decide) (hcd : (x == ("__classdict__" : Str)) = false := by decide) : SV X W (.Subscript (.Name x p1) b pos) (gIxP i gb) :=
  pe_imp (pe_ix ix_seq (pe_var hN hv hd hcd) hb hs) fun σ H Q ⟨C, F, env, R, h⟩ => by
    obtain ⟨_, p, vs, _, a1, a2, _, h⟩ := bd_peek R h
    refine ⟨.ref p, a1, ?_⟩
    refine tG_bd R h fun e env2 w F2 H2 R2 e2 o2 h2 => ?_
    obtain ⟨ds, p', vs', _, b1, b2, b3, h3⟩ := bd_peek R2 h2
    rw [a1] at b1
    cases b1
    cases o2 with
    | int k =>
      obtain ⟨d, hd, h4⟩ := h3.of_opt
      obtain ⟨v, hv, dv⟩ := atI_dps b3 hd
      rcases b2 with s | s
      · exact .inl ⟨_, _, _, _, rfl, rfl, s, hv, aft (ok := okV X.K) h4 R2 dv⟩
      · exact .inr (.inl ⟨_, _, _, _, rfl, rfl, s, hv, aft (ok := okV X.K) h4 R2 dv⟩)
    | _ => exact h3.elim
/-- len(x), x a name -/
def gLenP (i : Nat) : M PyData := M.bd (gPeek i) fun ds => M.ok (.int ds.length)
theorem sv_lenP (i : Nat) (hg : Gl X "len") (hm : X.mg "len" = none) (hN : X.N[i]? = some x := by rfl) (hv : Vis X.env.scope x := by first | exact Or.inl rfl | exact Or.inr (Or.inl rfl) | exact Or.inr (Or.inr rfl))
    (hd : (x == ("__debug__" : Str)) = false := by decide) (hcd : (x == ("__classdict__" : Str)) = false := by decide) (hs : starEach [.Name x p1] X.env = (false, eval (.Name x p1) X.env) :: starEach [] X.env := by rfl)
    (hpl : (backTo pos (starEach [] X.env)).any (·.1) = false := by rfl) : SV X W (.Call (.Name "len" p2) [.Name x p1] [] pos) (gLenP i) :=
  pe_imp (pe_callB call_len_seq hg hm PySem.boot_len (pa_cons (pe_var hN hv hd hcd) pa_nil hs) (by decide) (by decide) hs hpl) fun σ H Q ⟨C, F, env, R, h⟩ => by
    obtain ⟨ds, p, vs, _, a1, a2, a3, h⟩ := bd_peek R h
    refine ⟨.ref p, a1, p, vs, rfl, a2, ?_⟩
    rw [a3.len]
    exact aft (ok := okV X.K) h R (.int _)
/-- a built-in upon data -/
def CallD (X : Cx) (f : Value) (k : List PyData → Option PyData) : Prop := ∃ r : List V → Hp → VK → Prop, CallR X f r ∧
  ∀ C F σ H env vs ds d Q, Rel X.K C F σ H env → DpAll X.K F vs ds → k ds = some d → (∀ v F' H', Rel X.K C F' σ H' env → Ex F F' → Dp X.K F' v d → Q v H') → r vs H Q
theorem cd_len : CallD X (.builtin "len") (fun ds => match ds with
    | [d] => lenD d
    | _ => none) :=
  ⟨_, CallR.or call_len_seq call_len_str, fun C F σ H env vs ds d Q R hv hk q => by
    cases hv with
    | nil => cases hk
    | cons h1 hr =>
      cases hr with
      | cons _ _ => cases hk
      | nil =>
        cases h1 with
        | lst s r => cases hk; exact .inl ⟨_, _, rfl, .inl (ex_l R.fh s), by rw [r.len]; exact q _ _ _ R (Ex.refl _) (.int _)⟩
        | tup s r => cases hk; exact .inl ⟨_, _, rfl, .inr (ex_t R.fh s), by rw [r.len]; exact q _ _ _ R (Ex.refl _) (.int _)⟩
        | str z =>
          simp only [lenD] at hk
          split at hk
          · rename_i hl; cases hk; exact .inr ⟨z, rfl, hl, q _ _ _ R (Ex.refl _) (.int _)⟩
          · cases hk
        | _ => cases hk⟩
theorem cd_tuple : CallD X (.type "tuple") (fun ds => match ds with
    | [d] => (seqD d).map .tuple
    | _ => none) :=
  ⟨_, call_tuple_of, fun C F σ H env vs ds d Q R hv hk q => by
    cases hv with
    | nil => cases hk
    | cons h1 hr =>
      cases hr with
      | cons _ _ => cases hk
      | nil =>
        cases h1 with
        | lst s r =>
          cases hk
          refine ⟨_, _, rfl, .inl ⟨ex_l R.fh s, fun l hl => ?_⟩⟩
          have hf := (R.fresh hl).1
          exact q _ _ _ (R.newF hl) (Ex.new hf) (.tup (SqT.of upd_same) (dps_mono (Ex.new hf) r))
        | tup s r => cases hk; exact ⟨_, _, rfl, .inr ⟨ex_t R.fh s, q _ _ _ R (Ex.refl _) (.tup s r)⟩⟩
        | _ => cases hk⟩
theorem cd_abs : CallD X (.builtin "abs") (fun ds => match ds with
    | [.int i] => some (.int (if i < 0 then -i else i))
    | _ => none) :=
  ⟨_, call_abs, fun C F σ H env vs ds d Q R hv hk q => by
    cases hv with
    | nil => cases hk
    | cons h1 hr =>
      cases hr with
      | cons _ _ => cases h1 <;> cases hk
      | nil =>
        cases h1 <;> cases hk
        exact ⟨_, rfl, q _ _ _ R (Ex.refl _) (.int _)⟩⟩
theorem sv_callB {f : Str} {id : String} {k : List PyData → Option PyData} (hc : CallD X (.builtin id) k) (hg : Gl X f) (hm : X.mg f = none) (hv : bootBuiltins f = some (.builtin id)) (ha : SA X W (e :: es) gl) (hn : f ≠ "__name__" := by decide) (hdb : (f == ("__debug__" : Str)) = false := by decide)
    (he : starEach (e :: es) X.env = (false, eval e X.env) :: starEach es X.env := by rfl) (hpl : (backTo pos (starEach es X.env)).any (·.1) = false := by rfl) : SV X W (.Call (.Name f p2) (e :: es) [] pos) (M.bd gl fun ds => M.opt (k ds)) := by
  obtain ⟨r, hr, hk⟩ := hc
  refine pe_imp (pe_callB hr hg hm hv ha hn hdb he hpl) fun σ H Q ⟨C, F, env, R, h⟩ => tG_bd R h fun ds env1 vs F1 H1 R1 e1 o1 h1 => ?_
  obtain ⟨d, hd, h2⟩ := h1.of_opt
  exact hk C F1 σ H1 env1 vs ds d Q R1 o1 hd fun v F' H' R' ex dv => aft' (ok := okV X.K) h2 R' ex dv
theorem sv_callT {f : Str} {T : String} {k : List PyData → Option PyData} (hc : CallD X (.type T) k) (hg : Gl X f) (hm : X.mg f = none) (hv : bootBuiltins f = some (.type T)) (ha : SA X W (e :: es) gl) (hn : f ≠ "__name__" := by decide) (hdb : (f == ("__debug__" : Str)) = false := by decide)
    (he : starEach (e :: es) X.env = (false, eval e X.env) :: starEach es X.env := by rfl) (hpl : (backTo pos (starEach es X.env)).any (·.1) = false := by rfl) : SV X W (.Call (.Name f p2) (e :: es) [] pos) (M.bd gl fun ds => M.opt (k ds)) := by
  obtain ⟨r, hr, hk⟩ := hc
  refine pe_imp (pe_callTy hr hg hm hv ha hn hdb he hpl) fun σ H Q ⟨C, F, env, R, h⟩ => tG_bd R h fun ds env1 vs F1 H1 R1 e1 o1 h1 => ?_
  obtain ⟨d, hd, h2⟩ := h1.of_opt
  exact hk C F1 σ H1 env1 vs ds d Q R1 o1 hd fun v F' H' R' ex dv => aft' (ok := okV X.K) h2 R' ex dv
/-- list(xs): a new list -/
theorem so_list (hg : Gl X "list") (hm : X.mg "list" = none) (ha : SV X W e ga) (hs : starEach [e] X.env = (false, eval e X.env) :: starEach [] X.env := by rfl) (hpl : (backTo pos (starEach [] X.env)).any (·.1) = false := by rfl) :
    SO X W (.Call (.Name "list" p2) [e] [] pos) (M.bd ga fun d => M.opt (seqD d)) :=
  pe_imp (pe_callTy call_list_of hg hm (by decide +kernel) (pa_cons ha pa_nil hs) (by decide) (by decide) hs hpl) fun σ H Q ⟨C, F, env, R, h⟩ => tG_bd R h fun d env1 v F1 H1 R1 e1 o1 h1 => by
    obtain ⟨ds, hd, h2⟩ := h1.of_opt
    obtain ⟨p, vs, rfl, hq, hr⟩ := dp_seq o1 hd
    refine ⟨p, vs, rfl, ?_, fun l hl => aft' (ok := okO X.K) h2 (R1.newH hl) (Ex.refl _) (okO_new R1 hl hr)⟩
    rcases hq with s | s
    · exact .inl (ex_l R1.fh s)
    · exact .inr (ex_t R1.fh s)
end
end Pf
/-! part Pf6 -/
set_option Elab.async false
set_option linter.all false
set_option maxRecDepth 100000
set_option maxHeartbeats 2000000
namespace Pf
open PySem PySem.Spec L2 Evl

/-! ### statements -/
inductive Out where
  | nx (env : En)
  | rt (d : PyData) (env : En)
  | ro (ds : List PyData) (env : En)
  | bk (env : En)
  | ct (env : En)
  | er (x : Xc) (env : En)
abbrev S := En → Option Out
section
variable (K : PySem.W.Frag) (mg : Str → Option Value)
def AftS (W : WX) (C : Cn) (F : Hp) (o : Option Out) (D : Ends) : Prop := match o with
  | none => False
  | some (.nx env) => ∀ σ F' H, Rel K C F' σ H env → Ex F F' → D.nx σ H
  | some (.rt d env) => ∀ v σ F' H, Rel K C F' σ H env → Ex F F' → Dp K F' v d → D.rt v H
  | some (.ro ds env) => ∀ v σ F' H, Rel K C F' σ H env → Ex F F' → okO K C F' σ H env ds v → D.rt v H
  | some (.bk env) => ∀ σ F' H, Rel K C F' σ H env → Ex F F' → D.bk σ H
  | some (.ct env) => ∀ σ F' H, Rel K C F' σ H env → Ex F F' → D.ct σ H
  | some (.er x env) => ∀ σ F' H cls dx, Rel K C F' σ H env → Ex F F' → XOk K mg F' H cls dx x → W cls dx σ H
def tS (W : WX) (G : S) : TS := fun D σ H => ∃ C F env, Rel K C F σ H env ∧ AftS K mg W C F (G env) D
end
abbrev SS (X : Cx) (W : WX) (st : Stmt) (G : S) : Prop := PS X st (tS X.K X.mg W G)
abbrev SSs (X : Cx) (W : WX) (sts : List Stmt) (G : S) : Prop := PSs X sts (tS X.K X.mg W G)
theorem ps_imp {X : Cx} {st : Stmt} {t t' : TS} (h : PS X st t) (k : ∀ D σ H, t' D σ H → t D σ H) : PS X st t' := ⟨fun pins s σ H D I q => h.run pins s σ H D I (k D σ H q)⟩
theorem pss_imp {X : Cx} {sts : List Stmt} {t t' : TS} (h : PSs X sts t) (k : ∀ D σ H, t' D σ H → t D σ H) : PSs X sts t' := ⟨fun pins s σ H D I q => h.run pins s σ H D I (k D σ H q)⟩

/-- an expression, then what is made of it -/
def gE {α : Type} (m : M α) (k : α → S) : S := fun env => match m env with
  | none => none
  | some (.error (x, env')) => some (.er x env')
  | some (.ok (a, env')) => k a env'
def gSeq (g h : S) : S := fun env => match g env with
  | some (.nx env') => h env'
  | o => o
def gNx : S := fun env => some (.nx env)
section
variable {K : PySem.W.Frag} {mg : Str → Option Value} {W : WX} {σ : St} {H : Hp} {C : Cn} {F : Hp} {env : En} {α β : Type} {ok : OkR α β}
theorem AftS.up {F' : Hp} {o : Option Out} {D : Ends} (h : AftS K mg W C F o D) (e : Ex F F') : AftS K mg W C F' o D := by
  cases o with
  | none => exact h
  | some o =>
    cases o with
    | nx env => exact fun σ F2 H R e2 => h σ F2 H R (e.trans e2)
    | rt d env => exact fun v σ F2 H R e2 => h v σ F2 H R (e.trans e2)
    | ro d env => exact fun v σ F2 H R e2 => h v σ F2 H R (e.trans e2)
    | bk env => exact fun σ F2 H R e2 => h σ F2 H R (e.trans e2)
    | ct env => exact fun σ F2 H R e2 => h σ F2 H R (e.trans e2)
    | er x env => exact fun σ F2 H cls dx R e2 => h σ F2 H cls dx R (e.trans e2)
theorem tE_bd {g : M α} {f : α → S} {D : Ends} {Q1 : β → Hp → Prop} (R : Rel K C F σ H env) (h : AftS K mg W C F (gE g f env) D)
    (k : ∀ d env' b F' H', Rel K C F' σ H' env' → Ex F F' → ok C F' σ H' env' d b → AftS K mg W C F' (f d env') D → Q1 b H') : tG K mg ok W g σ H Q1 := by
  refine ⟨C, F, env, R, ?_⟩
  unfold gE at h
  cases q : g env with
  | none => rw [q] at h; exact h
  | some r =>
    rw [q] at h
    cases r with
    | error x => obtain ⟨x, env'⟩ := x; exact fun F' H' cls dx R' e xo => h σ F' H' cls dx R' e xo
    | ok y => obtain ⟨d, env'⟩ := y; exact fun b F' H' R' e o => k d env' b F' H' R' e o (h.up e)
/-- the last one's ends, where only what follows differs -/
theorem AftS.seq {g : S} {h : S} {D : Ends} (q : AftS K mg W C F (gSeq g h env) D) : AftS K mg W C F (g env) { D with nx := fun σ H => ∃ F' env', Rel K C F' σ H env' ∧ Ex F F' ∧ AftS K mg W C F' (h env') D } := by
  unfold gSeq at q
  cases e : g env with
  | none => rw [e] at q; exact q
  | some o =>
    rw [e] at q
    cases o with
    | nx env' => exact fun σ F' H R ex => ⟨F', env', R, ex, q.up ex⟩
    | rt d env' => exact q
    | ro d env' => exact q
    | bk env' => exact q
    | ct env' => exact q
    | er x env' => exact q
/-- other ends -/
theorem AftS.imp {o : Option Out} {D D' : Ends} (h : AftS K mg W C F o D) (k1 : ∀ σ H, D.nx σ H → D'.nx σ H) (k2 : ∀ v H, D.rt v H → D'.rt v H) (k3 : ∀ σ H, D.bk σ H → D'.bk σ H) (k4 : ∀ σ H, D.ct σ H → D'.ct σ H) : AftS K mg W C F o D' := by
  cases o with
  | none => exact h
  | some o =>
    cases o with
    | nx env => exact fun σ F2 H R e2 => k1 _ _ (h σ F2 H R e2)
    | rt d env => exact fun v σ F2 H R e2 q => k2 _ _ (h v σ F2 H R e2 q)
    | ro d env => exact fun v σ F2 H R e2 q => k2 _ _ (h v σ F2 H R e2 q)
    | bk env => exact fun σ F2 H R e2 => k3 _ _ (h σ F2 H R e2)
    | ct env => exact fun σ F2 H R e2 => k4 _ _ (h σ F2 H R e2)
    | er x env => exact h
end
section
variable {X : Cx} {W : WX} {st : Stmt} {rest : List Stmt} {g g' : S} {e c a b : Expr} {ga gb gc : M PyData} {gt : M Bool} {gl : M (List PyData)} {pos pos' p1 p2 : Pos} {x y : Str}
theorem ss_nil : SSs X W [] gNx := pss_imp pss_nil fun D σ H ⟨C, F, env, R, h⟩ => h σ F H R (Ex.refl F)
theorem ss_cons (h1 : SS X W st g) (h2 : SSs X W rest g') : SSs X W (st :: rest) (gSeq g g') := pss_imp (pss_cons h1 h2) fun D σ H ⟨C, F, env, R, h⟩ => ⟨C, F, env, R, h.seq.imp (fun σ H ⟨F', env', R', _, q⟩ => ⟨C, F', env', R', q⟩) (fun _ _ z => z) (fun _ _ z => z) (fun _ _ z => z)⟩
theorem ss_one (h : SS X W st g) : SSs X W [st] g := pss_one h
theorem ss_pass : SS X W (.Pass pos) gNx := ps_imp ps_pass fun D σ H ⟨C, F, env, R, h⟩ => h σ F H R (Ex.refl F)
def gBk : S := fun env => some (.bk env)
def gCt : S := fun env => some (.ct env)
theorem ss_break : SS X W (.Break pos) gBk := ps_imp ps_break fun D σ H ⟨C, F, env, R, h⟩ => h σ F H R (Ex.refl F)
theorem ss_continue : SS X W (.Continue pos) gCt := ps_imp ps_continue fun D σ H ⟨C, F, env, R, h⟩ => h σ F H R (Ex.refl F)
/-- the value is dropped -/
theorem ss_expr {α : Type} {ok : OkR α V} {ga : M α} (h : SG X ok W e ga) (hs : swapsWith e none pos.line X.env = pure false := by rfl) : SS X W (.Expr e pos) (gE ga fun _ => gNx) :=
  ps_imp (ps_expr h hs) fun D σ H ⟨C, F, env, R, h⟩ => tE_bd R h fun d env1 v F1 H1 R1 e1 o1 h1 => h1 σ F1 H1 R1 (Ex.refl _)
def gRt (d : PyData) : S := fun env => some (.rt d env)
def gRo (ds : List PyData) : S := fun env => some (.ro ds env)
theorem ss_ret (h : SV X W e ga) : SS X W (.Return (some e) pos) (gE ga gRt) :=
  ps_imp (ps_ret h) fun D σ H ⟨C, F, env, R, h⟩ => tE_bd R h fun d env1 v F1 H1 R1 e1 o1 h1 => h1 v σ F1 H1 R1 (Ex.refl _) o1
theorem ss_retO (h : SO X W e gl) : SS X W (.Return (some e) pos) (gE gl gRo) :=
  ps_imp (ps_ret h) fun D σ H ⟨C, F, env, R, h⟩ => tE_bd R h fun d env1 v F1 H1 R1 e1 o1 h1 => h1 v σ F1 H1 R1 (Ex.refl _) o1
theorem ss_retN : SS X W (.Return none pos) (gRt .none) := ps_imp ps_retN fun D σ H ⟨C, F, env, R, h⟩ => h .non σ F H R (Ex.refl _) .non
def gIfS (gt : M Bool) (g g' : S) : S := gE gt fun b => if b = true then g else g'
theorem ss_if {sa sb : List Stmt} (ht : ST X W c gt) (ha : SSs X W sa g) (hb : SSs X W sb g') : SS X W (.If c sa sb pos) (gIfS gt g g') :=
  ps_imp (ps_if ht ha hb) fun D σ H ⟨C, F, env, R, h⟩ => tE_bd R h fun d env1 v F1 H1 R1 e1 o1 h1 => by
    cases o1
    cases d with
    | true => exact ⟨C, F1, env1, R1, h1⟩
    | false => exact ⟨C, F1, env1, R1, h1⟩

/-! ### stores -/
theorem _root_.Pf.Rel.store {K : PySem.W.Frag} {C : Cn} {F : Hp} {σ : St} {H : Hp} {env : En} {v : V} {d : PyData} (R : Rel K C F σ H env) (i : Nat) (h : Dp K F v d) : Rel K C F (σ.set i (some v)) H (env.set i (.val d)) where
  fh := R.fh
  cf := R.cf
  new := R.new
  pres := R.pres
  bd := R.bd
  sl := fun j s hj => by
    rcases set_at hj with ⟨rfl, rfl, hl⟩ | ⟨ne, hj⟩
    · rw [List.getElem?_set_self (by rw [← R.len]; exact hl)]; exact ⟨v, rfl, h⟩
    · rw [List.getElem?_set_ne (Ne.symm ne)]; exact R.sl j s hj
  dis := fun j k q o1 o2 => by
    obtain ⟨s1, e1, b1, a1⟩ := o1
    obtain ⟨s2, e2, b2, a2⟩ := o2
    rcases set_at e1 with ⟨rfl, rfl, _⟩ | ⟨n1, e1⟩
    · cases b1
    · rcases set_at e2 with ⟨rfl, rfl, _⟩ | ⟨n2, e2⟩
      · cases b2
      · rw [List.getElem?_set_ne (Ne.symm n1)] at a1
        rw [List.getElem?_set_ne (Ne.symm n2)] at a2
        exact R.dis j k q ⟨s1, e1, b1, a1⟩ ⟨s2, e2, b2, a2⟩
  len := by rw [List.length_set, List.length_set]; exact R.len
  tb := R.tb
  nt := R.nt
theorem _root_.Pf.Rel.storeO {K : PySem.W.Frag} {C : Cn} {F : Hp} {σ : St} {H : Hp} {env : En} {v : V} {ds : List PyData} (R : Rel K C F σ H env) (i : Nat) (h : okO K C F σ H env ds v) : Rel K C F (σ.set i (some v)) H (env.set i (.own ds)) := by
  obtain ⟨p, vs, rfl, h1, h2, h3, h4, h5⟩ := h
  exact {
    fh := R.fh
    cf := R.cf
    new := R.new
    pres := R.pres
    bd := R.bd
    sl := fun j s hj => by
      rcases set_at hj with ⟨rfl, rfl, hl⟩ | ⟨ne, hj⟩
      · rw [List.getElem?_set_self (by rw [← R.len]; exact hl)]; exact ⟨p, vs, rfl, h1, h2, h3, h4⟩
      · rw [List.getElem?_set_ne (Ne.symm ne)]; exact R.sl j s hj
    dis := fun j k q o1 o2 => by
      obtain ⟨s1, e1, b1, a1⟩ := o1
      obtain ⟨s2, e2, b2, a2⟩ := o2
      rcases set_at e1 with ⟨rfl, rfl, l1⟩ | ⟨n1, f1⟩
      · rw [List.getElem?_set_self (by rw [← R.len]; exact l1)] at a1
        cases a1
        rcases set_at e2 with ⟨rfl, rfl, _⟩ | ⟨n2, f2⟩
        · rfl
        · rw [List.getElem?_set_ne (Ne.symm n2)] at a2
          exact absurd ⟨s2, f2, b2, a2⟩ (h5 k)
      · rw [List.getElem?_set_ne (Ne.symm n1)] at a1
        rcases set_at e2 with ⟨rfl, rfl, l2⟩ | ⟨n2, f2⟩
        · rw [List.getElem?_set_self (by rw [← R.len]; exact l2)] at a2
          cases a2
          exact absurd ⟨s1, f1, b1, a1⟩ (h5 j)
        · rw [List.getElem?_set_ne (Ne.symm n2)] at a2
          exact R.dis j k q ⟨s1, f1, b1, a1⟩ ⟨s2, f2, b2, a2⟩
    len := by rw [List.length_set, List.length_set]; exact R.len
    tb := R.tb
    nt := R.nt }
def gSt (i : Nat) (d : PyData) : S := fun env => some (.nx (env.set i (.val d)))
def gStO (i : Nat) (ds : List PyData) : S := fun env => some (.nx (env.set i (.own ds)))
theorem ss_set (i : Nat) (he : SV X W e ga) (hN : X.N.Nodup) (hi : X.N[i]? = some x := by rfl) (hx : Loc X.env.scope x := by first | exact Or.inl rfl | exact Or.inr rfl) (hs : swapsWith e (some (.Name x pos')) pos.line X.env = pure false := by rfl)
    (hf : X.fn x = true ∨ X.env.scope.names.lookup x = some .local := by first | exact .inl rfl | exact .inr rfl | assumption) : SS X W (.Assign [.Name x pos'] e pos) (gE ga (gSt i)) :=
  ps_imp (ps_set hN hi hx he hs hf) fun D σ H ⟨C, F, env, R, h⟩ => tE_bd R h fun d env1 v F1 H1 R1 e1 o1 h1 => h1 _ F1 H1 (R1.store i o1) (Ex.refl _)
theorem ss_setO (i : Nat) (he : SO X W e gl) (hN : X.N.Nodup) (hi : X.N[i]? = some x := by rfl) (hx : Loc X.env.scope x := by first | exact Or.inl rfl | exact Or.inr rfl) (hs : swapsWith e (some (.Name x pos')) pos.line X.env = pure false := by rfl)
    (hf : X.fn x = true ∨ X.env.scope.names.lookup x = some .local := by first | exact .inl rfl | exact .inr rfl | assumption) : SS X W (.Assign [.Name x pos'] e pos) (gE gl (gStO i)) :=
  ps_imp (ps_set hN hi hx he hs hf) fun D σ H ⟨C, F, env, R, h⟩ => tE_bd R h fun d env1 v F1 H1 R1 e1 o1 h1 => h1 _ F1 H1 (R1.storeO i o1) (Ex.refl _)

/-- targets: what they make of data -/
def SGt (X : Cx) (tg : Expr) (b : PyData → En → Option En) : Prop := ∃ t : TG, PG X tg t ∧ ∀ C F σ H env env' v d Q, Rel X.K C F σ H env → Dp X.K F v d → b d env = some env' → (∀ σ', Rel X.K C F σ' H env' → Q σ' H) → t v σ H Q
def SGts (X : Cx) (tgs : List Expr) (b : List PyData → En → Option En) : Prop := ∃ t : TGs, PGs X tgs t ∧ ∀ C F σ H env env' vs ds Q, Rel X.K C F σ H env → DpAll X.K F vs ds → b ds env = some env' → (∀ σ', Rel X.K C F σ' H env' → Q σ' H) → t vs σ H Q
def bN (i : Nat) : PyData → En → Option En := fun d env => some (env.set i (.val d))
def bNil : List PyData → En → Option En := fun ds env => match ds with
  | [] => some env
  | _ => none
def bCons (b : PyData → En → Option En) (bs : List PyData → En → Option En) : List PyData → En → Option En := fun ds env => match ds with
  | d :: r => (b d env).bind fun env' => bs r env'
  | [] => none
def bTup (n : Nat) (bs : List PyData → En → Option En) : PyData → En → Option En := fun d env => match d with
  | .tuple ds => if ds.length = n then bs ds env else none
  | _ => none
theorem sg_n (i : Nat) (hN : X.N.Nodup) (hi : X.N[i]? = some x := by rfl) (hx : Loc X.env.scope x := by first | exact Or.inl rfl | exact Or.inr rfl)
    (hf : X.fn x = true ∨ X.env.scope.names.lookup x = some .local := by first | exact .inl rfl | exact .inr rfl | assumption) : SGt X (.Name x pos) (bN i) :=
  ⟨_, pg_name hN hi hx hf, fun C F σ H env env' v d Q R hv hb q => by cases hb; exact q _ (R.store i hv)⟩
theorem sgs_nil : SGts X [] bNil :=
  ⟨_, pgs_nil, fun C F σ H env env' vs ds Q R hv hb q => by
    cases hv with
    | nil => cases hb; exact ⟨rfl, q _ R⟩
    | cons _ _ => cases hb⟩
theorem sgs_cons {tg : Expr} {tgs : List Expr} {b bs} (h1 : SGt X tg b) (h2 : SGts X tgs bs) (hs : (assignEach (tg :: tgs) X.env).map (·.2) = assign tg X.env :: (assignEach tgs X.env).map (·.2) := by rfl) : SGts X (tg :: tgs) (bCons b bs) := by
  obtain ⟨t, p, k⟩ := h1
  obtain ⟨ts, ps, ks⟩ := h2
  refine ⟨_, pgs_cons p ps hs, fun C F σ H env env' vs ds Q R hv hb q => ?_⟩
  cases hv with
  | nil => cases hb
  | cons a r =>
    unfold bCons at hb
    simp only at hb
    cases e : b _ env with
    | none => rw [e] at hb; cases hb
    | some env1 => rw [e] at hb; exact ⟨_, _, rfl, k C F σ H env env1 _ _ _ R a e fun σ' R' => ks C F σ' H env1 env' _ _ _ R' r hb q⟩
theorem sg_tup {tgs : List Expr} {k : Nat} {bs} {n : Nat} (hc : X.calm = true) (h : SGts X tgs bs) (hn : (assignEach tgs X.env).length = n := by rfl) (hst : (assignEach tgs X.env).findIdx? (·.1) = none := by rfl) : SGt X (.Tuple tgs k pos) (bTup n bs) := by
  obtain ⟨ts, ps, ks⟩ := h
  refine ⟨_, pg_tup hc ps hn hst, fun C F σ H env env' v d Q R hv hb q => ?_⟩
  unfold bTup at hb
  split at hb
  · split at hb
    · rename_i hl
      cases hv with
      | tup s r => exact ⟨_, _, rfl, ex_t R.fh s, by rw [r.len]; exact hl, ks C F σ H env env' _ _ _ R r hb q⟩
    · cases hb
  · cases hb
def gAs (b : PyData → En → Option En) (d : PyData) : S := fun env => (b d env).map .nx
/-- target = e -/
theorem ss_asg {tg : Expr} {b} (he : SV X W e ga) (hg : SGt X tg b) (hs : swapsWithSole [tg] e pos.line X.env = pure false := by rfl) (hw : swappedStores [tg] e X.env = pure none := by rfl)
    (h1 : (assignEach [tg] X.env).map (·.2) = [assign tg X.env] := by rfl) : SS X W (.Assign [tg] e pos) (gE ga (gAs b)) := by
  obtain ⟨t, p, k⟩ := hg
  refine ps_imp (ps_asg he p hs hw h1) fun D σ H ⟨C, F, env, R, h⟩ => tE_bd R h fun d env1 v F1 H1 R1 e1 o1 h1 => ?_
  unfold gAs at h1
  cases q : b d env1 with
  | none => rw [q] at h1; exact h1.elim
  | some env2 => rw [q] at h1; exact k C F1 σ H1 env1 env2 v d _ R1 o1 q fun σ' R' => h1 σ' F1 H1 R' (Ex.refl _)
def gPar (i j : Nat) (ds : List PyData) : S := fun env => match ds with
  | [d, e] => some (.nx ((env.set i (.val d)).set j (.val e)))
  | _ => none
theorem ss_par {i j : Nat} {px py pt : Pos} {kt k2 pt2} (hc : X.calm = true) (hN : X.N.Nodup) (hi : X.N[i]? = some x) (hj : X.N[j]? = some y) (hij : i ≠ j)
    (hx : X.env.scope.names.lookup x = some .local) (hy : X.env.scope.names.lookup y = some .local) (ha : SA X W [a, b] gl)
    (hw : swappedStores [.Tuple [.Name x px, .Name y py] kt pt] (.Tuple [a, b] k2 pt2) X.env = pure (some [x, y]))
    (hs : swapsWithSole [.Tuple [.Name x px, .Name y py] kt pt] (.Tuple [a, b] k2 pt2) pos.line X.env = pure false := by rfl) :
    SS X W (.Assign [.Tuple [.Name x px, .Name y py] kt pt] (.Tuple [a, b] k2 pt2) pos) (gE gl (gPar i j)) :=
  ps_imp (ps_par hc hN hi hj hij hx hy ha hw hs) fun D σ H ⟨C, F, env, R, h⟩ => tE_bd R h fun ds env1 vs F1 H1 R1 e1 o1 h1 => by
    have o1 : DpAll X.K F1 vs ds := o1
    cases o1 with
    | nil => exact h1.elim
    | cons a1 r1 =>
      cases r1 with
      | nil => exact h1.elim
      | cons a2 r2 =>
        cases r2 with
        | nil => exact ⟨_, _, rfl, h1 _ F1 H1 ((R1.store i a1).store j a2) (Ex.refl _)⟩
        | cons _ _ => exact h1.elim
def gPar3 (i j l : Nat) (ds : List PyData) : S := fun env => match ds with
  | [d, e, f] => some (.nx (((env.set i (.val d)).set j (.val e)).set l (.val f)))
  | _ => none
/-- name op= e, ints -/
def gAug (i : Nat) (f : Int → Int → Int) (gb : M PyData) : S := fun env => match env[i]? with
  | some (.val (.int _)) => gE gb (fun e env1 => match env[i]?, e with
    | some (.val (.int a)), .int b => some (.nx (env1.set i (.val (.int (f a b)))))
    | _, _ => none) env
  | _ => none
theorem ss_aug {op : Operator} {f : Int → Int → Int} (i : Nat) (ho : PIp X op (ipI f)) (he : SV X W e gb) (hN : X.N.Nodup) (hi : X.N[i]? = some x := by rfl) (hx : Loc X.env.scope x := by first | exact Or.inl rfl | exact Or.inr rfl)
    (hf : X.fn x = true ∨ X.env.scope.names.lookup x = some .local := by first | exact .inl rfl | exact .inr rfl | assumption) : SS X W (.AugAssign (.Name x pos') op e pos) (gAug i f gb) :=
  ps_imp (ps_aug hN hi hx he ho hf) fun D σ H ⟨C, F, env, R, h⟩ => by
    unfold gAug at h
    split at h
    · rename_i k q
      obtain ⟨v, a1, a2⟩ := R.sl i _ q
      cases a2
      refine ⟨_, a1, tE_bd R h fun d env1 v F1 H1 R1 e1 o1 h1 => ?_⟩
      rw [q] at h1
      cases o1 with
      | int j => exact ⟨_, _, rfl, rfl, h1 _ F1 H1 (R1.store i (.int _)) (Ex.refl _)⟩
      | _ => exact h1.elim
    · exact h.elim
/-- x[e] = v, x a name that holds a list -/
def gSetIx (i : Nat) (gv gi : M PyData) : S := gE gv fun d => gE (gHeld i) fun _ => gE gi fun e => gE (gHeld i) fun ds => match e with
  | .int k => fun env => match ixN ds.length k with
    | some j => gE (gPut i (ds.set j d)) (fun _ => gNx) env
    | none => none
  | _ => fun _ => none
end
end Pf
/-! part Pf7 -/
set_option Elab.async false
set_option linter.all false
set_option maxRecDepth 100000
set_option maxHeartbeats 2000000
namespace Pf
open PySem PySem.Spec L2 Evl
section
variable {K : PySem.W.Frag} {mg : Str → Option Value} {W : WX} {σ : St} {H : Hp} {C : Cn} {F : Hp} {env : En} {α β : Type} {ok : OkR α β} {i : Nat}
theorem tE_held {f : List PyData → S} {D : Ends} (R : Rel K C F σ H env) (h : AftS K mg W C F (gE (gHeld i) f env) D) :
    ∃ ds p vs s, env[i]? = some s ∧ (isOwn s = true ∧ ∀ o, s ≠ .obj o) ∧ σ[i]? = some (some (.ref p)) ∧ H p = some (.lst vs) ∧ DpAll K F vs ds ∧ AftS K mg W C F (f ds env) D := by
  unfold gE gHeld at h
  cases q : env[i]? with
  | none => rw [q] at h; exact h.elim
  | some s =>
    rw [q] at h
    cases s with
    | own ds => obtain ⟨p, vs, a1, _, _, a4, a5⟩ := R.sl i _ q; exact ⟨ds, p, vs, _, rfl, ⟨rfl, fun _ z => by cases z⟩, a1, a4, a5, h⟩
    | bor ds => obtain ⟨p, vs, a1, _, _, a4, a5⟩ := R.sl i _ q; exact ⟨ds, p, vs, _, rfl, ⟨rfl, fun _ z => by cases z⟩, a1, a4, a5, h⟩
    | _ => exact h.elim
theorem put_nx {ds : List PyData} {s : Sl} {D : Ends} (q : env[i]? = some s) (h : AftS K mg W C F (gE (gPut i ds) (fun _ => gNx) env) D) : ∀ σ F' H, Rel K C F' σ H (env.set i (putS ds s)) → Ex F F' → D.nx σ H := by
  unfold gE gPut at h
  rw [q] at h
  exact h
end
section
variable {X : Cx} {W : WX} {e e1 e2 : Expr} {ga gb gv gi : M PyData} {pos p1 p2 p3 apos : Pos} {x : Str}
theorem ss_setIx (i : Nat) (hv : SV X W e gv) (hi : SV X W e1 gi) (hN : X.N[i]? = some x := by rfl) (hvis : Vis X.env.scope x := by first | exact Or.inl rfl | exact Or.inr (Or.inl rfl) | exact Or.inr (Or.inr rfl))
    (hd : (x == ("__debug__" : Str)) = false := by decide) (hcd : (x == ("__classdict__" : Str)) = false := by decide)
    (hs : swapsWithSole [.Subscript (.Name x p1) e1 p2] e pos.line X.env = pure false := by rfl) (hw : swappedStores [.Subscript (.Name x p1) e1 p2] e X.env = pure none := by rfl)
    (h1 : (assignEach [.Subscript (.Name x p1) e1 p2] X.env).map (·.2) = [assign (.Subscript (.Name x p1) e1 p2) X.env] := by rfl)
    (ha : ∀ v, assign (.Subscript (.Name x p1) e1 p2) X.env v = (do
      let ov ← holding [v] (eval (.Name x p1) X.env)
      let iv ← holding [v, ov] (eval e1 X.env)
      standAt p2
      holding [v, ov, iv] (setItem ov iv v)
      release [v, ov, iv] []) := by intro _; rfl) :
    SS X W (.Assign [.Subscript (.Name x p1) e1 p2] e pos) (gSetIx i gv gi) :=
  ps_imp (ps_asg hv (pg_sub (pe_var hN hvis hd hcd) hi set_list ha) hs hw h1) fun D σ H ⟨C, F, env, R, h⟩ => by
    refine tE_bd R h fun d env1 v F1 H1 R1 ex1 o1 h1 => ?_
    obtain ⟨_, p, _, _, _, _, a1, _, _, h2⟩ := tE_held R1 h1
    refine ⟨.ref p, a1, tE_bd R1 h2 fun k env2 w F2 H2 R2 ex2 o2 h3 => ?_⟩
    obtain ⟨ds, p', vs, s, q, qo, b1, b2, b3, h4⟩ := tE_held R2 h3
    rw [a1] at b1
    cases b1
    cases o2 with
    | int k =>
      simp only at h4
      cases hj : ixN ds.length k with
      | none => rw [hj] at h4; exact h4.elim
      | some j =>
        rw [hj] at h4
        refine ⟨p, vs, k, j, rfl, rfl, b2, by rw [b3.len]; exact hj, ?_⟩
        exact put_nx q h4 _ F2 _ (R2.write q qo.1 a1 (DpAll.set (dp_mono ex2 o1) j b3) qo.2) (Ex.refl _)
    | _ => exact h4.elim
/-- x.append(e) -/
def gApp (i : Nat) (gb : M PyData) : S := gE (gHeld i) fun _ => gE gb fun d => gE (gHeld i) fun ds env => if ds.length < 16777216 then gE (gPut i (ds ++ [d])) (fun _ => gNx) env else none
theorem ss_app (i : Nat) (hb : SV X W e gb) (hN : X.N[i]? = some x := by rfl) (hvis : Vis X.env.scope x := by first | exact Or.inl rfl | exact Or.inr (Or.inl rfl) | exact Or.inr (Or.inr rfl))
    (hd : (x == ("__debug__" : Str)) = false := by decide) (hcd : (x == ("__classdict__" : Str)) = false := by decide)
    (hbase : attributeBase (.Name x p1) "append" X.env (eval (.Name x p1) X.env) = eval (.Name x p1) X.env := by rfl)
    (hfew : ((backTo p2 (starEach [e] X.env)).all (fun x => !x.1) && (backToKw p2 (keywordEach [] X.env)).all (fun x => x.1.isSome)
      && decide ([e].length + ([] : List Keyword).length + (if ([] : List Keyword).isEmpty then 0 else 1) < 30)) = true := by rfl)
    (hline : (apos.endLine == p2.line) = true := by rfl) (hs : starEach [e] X.env = (false, eval e X.env) :: starEach [] X.env := by rfl) (hplain : (backTo p2 (starEach [] X.env)).any (·.1) = false := by rfl)
    (hsw : swapsWith (.Call (.Attribute (.Name x p1) "append" apos) [e] [] p2) none pos.line X.env = pure false := by rfl) :
    SS X W (.Expr (.Call (.Attribute (.Name x p1) "append" apos) [e] [] p2) pos) (gApp i gb) :=
  ps_imp (ps_expr (pe_bm PySem.F.plainAttrs_list PySem.F.slot_list_append PySem.F.type_list_append mt_append (pe_var hN hvis hd hcd) (pa_cons hb pa_nil hs) hbase hfew hline hs hplain) hsw) fun D σ H ⟨C, F, env, R, h⟩ => by
    obtain ⟨_, p, vs0, _, _, _, a1, a2, _, h2⟩ := tE_held R h
    refine ⟨.ref p, a1, .inl ⟨rfl, _, SqL.of a2⟩, tE_bd R h2 fun d env2 w F2 H2 R2 ex2 o2 h3 => ?_⟩
    obtain ⟨ds, p', vs, s, q, qo, b1, b2, b3, h4⟩ := tE_held R2 h3
    rw [a1] at b1
    cases b1
    split at h4
    · rename_i hl
      refine ⟨p, vs, w, rfl, rfl, b2, by rw [b3.len, sizeLine_eq]; exact hl, ?_⟩
      exact put_nx q h4 _ F2 _ (R2.write q qo.1 a1 (b3.app (.cons o2 .nil)) qo.2) (Ex.refl _)
    · exact h4.elim
/-- x.pop(e) -/
def gPopAt (i : Nat) (gb : M PyData) : M PyData := M.bd (gHeld i) fun _ => M.bd gb fun d => M.bd (gHeld i) fun ds => match d with
  | .int k => if -(2 ^ 63) ≤ k ∧ k < 2 ^ 63 then match seqIndex? k ds.length with
    | some j => match ds[j]? with
      | some y => M.bd (gPut i (ds.eraseIdx j)) fun _ => M.ok y
      | none => M.no
    | none => M.no else M.no
  | _ => M.no
theorem put_bd {K : PySem.W.Frag} {mg : Str → Option Value} {C : Cn} {F : Hp} {σ : St} {env : En} {i : Nat} {ds : List PyData} {s : Sl} {γ δ : Type} {ok : OkR γ δ} {f : Unit → M γ} {Q : δ → Hp → Prop} (q : env[i]? = some s) (h : After K mg ok W C F σ (M.bd (gPut i ds) f env) Q) :
    After K mg ok W C F σ (f () (env.set i (putS ds s))) Q := by
  unfold M.bd gPut at h
  rw [q] at h
  exact h
theorem sv_popAt (i : Nat) (hb : SV X W e gb) (hN : X.N[i]? = some x := by rfl) (hvis : Vis X.env.scope x := by first | exact Or.inl rfl | exact Or.inr (Or.inl rfl) | exact Or.inr (Or.inr rfl))
    (hd : (x == ("__debug__" : Str)) = false := by decide) (hcd : (x == ("__classdict__" : Str)) = false := by decide)
    (hbase : attributeBase (.Name x p1) "pop" X.env (eval (.Name x p1) X.env) = eval (.Name x p1) X.env := by rfl)
    (hfew : ((backTo p2 (starEach [e] X.env)).all (fun x => !x.1) && (backToKw p2 (keywordEach [] X.env)).all (fun x => x.1.isSome)
      && decide ([e].length + ([] : List Keyword).length + (if ([] : List Keyword).isEmpty then 0 else 1) < 30)) = true := by rfl)
    (hline : (apos.endLine == p2.line) = true := by rfl) (hs : starEach [e] X.env = (false, eval e X.env) :: starEach [] X.env := by rfl) (hplain : (backTo p2 (starEach [] X.env)).any (·.1) = false := by rfl) :
    SV X W (.Call (.Attribute (.Name x p1) "pop" apos) [e] [] p2) (gPopAt i gb) :=
  pe_imp (pe_bm PySem.F.plainAttrs_list PySem.F.slot_list_pop PySem.F.type_list_pop mt_popAt (pe_var hN hvis hd hcd) (pa_cons hb pa_nil hs) hbase hfew hline hs hplain) fun σ H Q ⟨C, F, env, R, h⟩ => by
    obtain ⟨_, p, vs0, _, _, _, a1, a2, _, h2⟩ := bd_held R h
    refine ⟨.ref p, a1, .inl ⟨rfl, _, SqL.of a2⟩, tG_bd R h2 fun d env2 w F2 H2 R2 ex2 o2 h3 => ?_⟩
    obtain ⟨ds, p', vs, s, q, qo, b1, b2, b3, h4⟩ := bd_held R2 h3
    rw [a1] at b1
    cases b1
    cases o2 with
    | int k =>
      by_cases hk : -(2 ^ 63) ≤ k ∧ k < 2 ^ 63
      · simp only [hk, and_self, if_true] at h4
        cases hj : seqIndex? k ds.length with
        | none => simp only [hj] at h4; exact h4.elim
        | some j =>
          simp only [hj] at h4
          cases hy : ds[j]? with
          | none => simp only [hy] at h4; exact h4.elim
          | some y =>
            simp only [hy] at h4
            obtain ⟨v, hv, dv⟩ := b3.get hy
            refine ⟨p, vs, k, j, v, rfl, rfl, b2, hk.1, hk.2, by rw [b3.len]; exact hj, hv, ?_⟩
            exact aft (ok := okV X.K) (put_bd q h4) (R2.write q qo.1 a1 (b3.erase j) qo.2) dv
      · simp only [hk, if_false] at h4
        exact h4.elim
    | _ => exact h4.elim
end

/-! ### loops -/
def loopL (b : PyData → En → Option En) (g : S) : List PyData → S
  | [] => gNx
  | d :: r => fun env => match b d env with
    | none => none
    | some env1 => match g env1 with
      | some (.nx env2) => loopL b g r env2
      | some (.ct env2) => loopL b g r env2
      | some (.bk env2) => some (.nx env2)
      | o => o
section
variable {K : PySem.W.Frag} {mg : Str → Option Value} {W : WX} {C : Cn} {F : Hp} {env : En} {b : PyData → En → Option En} {g : S} {D : Ends}
/-- what is wanted between the turns -/
def Btw (K : PySem.W.Frag) (mg : Str → Option Value) (W : WX) (C : Cn) (F : Hp) (g : S) (D : Ends) : St → Hp → Prop := fun σ H => ∃ F' env', Rel K C F' σ H env' ∧ Ex F F' ∧ AftS K mg W C F' (g env') D
theorem loop_nil {σ : St} {H : Hp} (h : Btw K mg W C F (loopL b g []) D σ H) : D.nx σ H := by
  obtain ⟨F', env', R, ex, h⟩ := h
  exact h σ F' H R (Ex.refl _)
theorem loop_cons {d : PyData} {r : List PyData} (h : AftS K mg W C F (loopL b g (d :: r) env) D) :
    ∃ env1, b d env = some env1 ∧ AftS K mg W C F (g env1) { D with nx := Btw K mg W C F (loopL b g r) D, ct := Btw K mg W C F (loopL b g r) D, bk := D.nx } := by
  have e : loopL b g (d :: r) env = match b d env with
    | none => none
    | some env1 => match g env1 with
      | some (.nx env2) => loopL b g r env2
      | some (.ct env2) => loopL b g r env2
      | some (.bk env2) => some (.nx env2)
      | o => o := rfl
  rw [e] at h
  cases q : b d env with
  | none => rw [q] at h; exact h.elim
  | some env1 =>
    rw [q] at h
    refine ⟨env1, rfl, ?_⟩
    simp only at h
    cases q2 : g env1 with
    | none => rw [q2] at h; exact h
    | some o =>
      rw [q2] at h
      cases o with
      | nx env2 => exact fun σ F' H R ex => ⟨F', env2, R, ex, h.up ex⟩
      | ct env2 => exact fun σ F' H R ex => ⟨F', env2, R, ex, h.up ex⟩
      | bk env2 => exact h
      | rt d env2 => exact h
      | ro d env2 => exact h
      | er x env2 => exact h
theorem drop_at {α : Type} {l : List α} {i : Nat} {x : α} (h : l[i]? = some x) : l.drop i = x :: l.drop (i + 1) := by
  obtain ⟨hl, e⟩ := List.getElem?_eq_some_iff.mp h
  rw [List.drop_eq_getElem_cons hl, e]
theorem DpAll_at {K : PySem.W.Frag} {H : Hp} : ∀ {vs : List V} {ds : List PyData} {i : Nat} {v : V}, DpAll K H vs ds → vs[i]? = some v → ∃ d, ds[i]? = some d ∧ Dp K H v d
  | _, _, _, _, .nil, h => by simp at h
  | _, _, 0, _, .cons a _, h => by simp at h; subst h; exact ⟨_, rfl, a⟩
  | _, _, i + 1, _, .cons _ r, h => by
    obtain ⟨v, e, x⟩ := DpAll_at (i := i) r (by simpa using h)
    exact ⟨v, by simpa using e, x⟩
end
section
variable {X : Cx} {W : WX} {iter tg a1 a2 : Expr} {body : List Stmt} {ga gb : M PyData} {b : PyData → En → Option En} {g : S} {pos p1 p2 : Pos}
def gForT (ga : M PyData) (b : PyData → En → Option En) (g : S) : S := gE ga fun d => match d with
  | .tuple ds => loopL b g ds
  | _ => fun _ => none
def gForL (ga : M PyData) (b : PyData → En → Option En) (g : S) : S := gE ga fun d => match d with
  | .list ds => loopL b g ds
  | _ => fun _ => none
/-- for target in t -/
theorem ss_forT (hp : PassesOwn (model X.prog X.w) X.A X.env X.xe) (hc : X.calm = true) (hi : SV X W iter ga) (hg : SGt X tg b) (hb : SSs X W body g) (hs : ∀ x, foldedSetIterable iter X.env x = pure x := by intro _; rfl) :
    SS X W (.For tg iter body [] pos) (gForT ga b g) := by
  obtain ⟨t, pt, kt⟩ := hg
  refine ps_imp (ps_for hp hc (pi_tup hi) pt hb hs) fun D σ H ⟨C, F, env, R, h⟩ => tE_bd R h fun d env1 v F1 H1 R1 e1 o1 h1 => ?_
  cases o1 with
  | tup s r =>
    rename_i a xs ds
    refine ⟨a, rfl, ⟨xs, ex_t R1.fh s⟩, for_tup (xs := xs) (fun i => Btw X.K X.mg W C F1 (loopL b g (ds.drop i)) D) ⟨F1, env1, R1, Ex.refl _, h1⟩ (fun i σ H _ ⟨F', env', R', ex, _⟩ => ex_t (ex.trans R'.fh) s) (fun i x σ H hx ⟨F', env', R', ex, h2⟩ => ?_) (fun σ H hB => ?_)⟩
    · obtain ⟨d, hd, dd⟩ := DpAll_at r hx
      rw [drop_at hd] at h2
      obtain ⟨env2, hb2, h3⟩ := loop_cons h2
      refine kt C F' σ H env' env2 x d _ R' (dp_mono ex dd) hb2 fun σ2 R2 => ⟨C, F', env2, R2, ?_⟩
      exact h3.imp (fun _ _ ⟨F2, env3, R3, ex3, q⟩ => ⟨F2, env3, R3, ex.trans ex3, q⟩) (fun _ _ z => z) (fun _ _ z => z) (fun _ _ ⟨F2, env3, R3, ex3, q⟩ => ⟨F2, env3, R3, ex.trans ex3, q⟩)
    · have e : ds.drop xs.length = [] := List.drop_eq_nil_of_le (Nat.le_of_eq r.len.symm)
      rw [e] at hB
      exact loop_nil hB
  | _ => exact h1.elim
theorem ss_forL (hp : PassesOwn (model X.prog X.w) X.A X.env X.xe) (hc : X.calm = true) (hi : SV X W iter ga) (hg : SGt X tg b) (hb : SSs X W body g) (hs : ∀ x, foldedSetIterable iter X.env x = pure x := by intro _; rfl) :
    SS X W (.For tg iter body [] pos) (gForL ga b g) := by
  obtain ⟨t, pt, kt⟩ := hg
  refine ps_imp (ps_for hp hc (pi_list hi) pt hb hs) fun D σ H ⟨C, F, env, R, h⟩ => tE_bd R h fun d env1 v F1 H1 R1 e1 o1 h1 => ?_
  cases o1 with
  | lst s r =>
    rename_i a xs ds
    refine ⟨a, rfl, ⟨xs, ex_l R1.fh s⟩, for_list (xs := xs) (fun i => Btw X.K X.mg W C F1 (loopL b g (ds.drop i)) D) ⟨F1, env1, R1, Ex.refl _, h1⟩ (fun i σ H _ ⟨F', env', R', ex, _⟩ => ex_l (ex.trans R'.fh) s) (fun i x σ H hx ⟨F', env', R', ex, h2⟩ => ?_) (fun σ H hB => ?_)⟩
    · obtain ⟨d, hd, dd⟩ := DpAll_at r hx
      rw [drop_at hd] at h2
      obtain ⟨env2, hb2, h3⟩ := loop_cons h2
      refine kt C F' σ H env' env2 x d _ R' (dp_mono ex dd) hb2 fun σ2 R2 => ⟨C, F', env2, R2, ?_⟩
      exact h3.imp (fun _ _ ⟨F2, env3, R3, ex3, q⟩ => ⟨F2, env3, R3, ex.trans ex3, q⟩) (fun _ _ z => z) (fun _ _ z => z) (fun _ _ ⟨F2, env3, R3, ex3, q⟩ => ⟨F2, env3, R3, ex.trans ex3, q⟩)
    · have e : ds.drop xs.length = [] := List.drop_eq_nil_of_le (Nat.le_of_eq r.len.symm)
      rw [e] at hB
      exact loop_nil hB
  | _ => exact h1.elim
def rngD (lo : Int) (n : Nat) : List PyData := (List.range n).map fun (i : Nat) => .int (lo + (i : Int))
theorem rngD_len {lo : Int} {n : Nat} : (rngD lo n).length = n := by unfold rngD; rw [List.length_map, List.length_range]
theorem rngD_at {lo : Int} {n i : Nat} (h : i < n) : (rngD lo n)[i]? = some (.int (lo + (i : Int))) := by
  unfold rngD
  rw [List.getElem?_map, List.getElem?_range h]
  rfl
def gForR1 (ga : M PyData) (b : PyData → En → Option En) (g : S) : S := gE ga fun d => match d with
  | .int n => if -(2 ^ 62) ≤ n ∧ n < 2 ^ 62 then loopL b g (rngD 0 n.toNat) else fun _ => none
  | _ => fun _ => none
theorem ss_forR1 (hp : PassesOwn (model X.prog X.w) X.A X.env X.xe) (hc : X.calm = true) (hgl : Gl X "range") (hm : X.mg "range" = none) (hi : SV X W a1 ga) (hg : SGt X tg b) (hb : SSs X W body g)
    (h1 : starEach [a1] X.env = [(false, eval a1 X.env)] := by rfl) (h2 : starEach [a1] X.env = (false, eval a1 X.env) :: starEach [] X.env := by rfl) (hs : ∀ x, foldedSetIterable (.Call (.Name "range" p1) [a1] [] p2) X.env x = pure x := by intro _; rfl) :
    SS X W (.For tg (.Call (.Name "range" p1) [a1] [] p2) body [] pos) (gForR1 ga b g) := by
  obtain ⟨t, pt, kt⟩ := hg
  refine ps_imp (ps_for hp hc (pi_range1 hgl hm (pa_cons hi pa_nil h2) h1) pt hb hs) fun D σ H ⟨C, F, env, R, h⟩ => tE_bd R h fun d env1 v F1 H1 R1 e1 o1 h1 => ?_
  cases o1 with
  | int n =>
    simp only at h1
    split at h1
    · rename_i hn
      refine ⟨n, rfl, hn.1, hn.2, for_range (lo := 0) (n := n.toNat) (fun i => Btw X.K X.mg W C F1 (loopL b g ((rngD 0 n.toNat).drop i)) D) ⟨F1, env1, R1, Ex.refl _, h1⟩ (fun i σ H hx ⟨F', env', R', ex, h2⟩ => ?_) (fun σ H hB => ?_)⟩
      · rw [drop_at (rngD_at hx)] at h2
        obtain ⟨env2, hb2, h3⟩ := loop_cons h2
        refine kt C F' σ H env' env2 _ _ _ R' (.int _) hb2 fun σ2 R2 => ⟨C, F', env2, R2, ?_⟩
        exact h3.imp (fun _ _ ⟨F2, env3, R3, ex3, q⟩ => ⟨F2, env3, R3, ex.trans ex3, q⟩) (fun _ _ z => z) (fun _ _ z => z) (fun _ _ ⟨F2, env3, R3, ex3, q⟩ => ⟨F2, env3, R3, ex.trans ex3, q⟩)
      · have e : (rngD 0 n.toNat).drop n.toNat = [] := List.drop_eq_nil_of_le (by rw [rngD_len]; exact Nat.le_refl _)
        rw [e] at hB
        exact loop_nil hB
    · exact h1.elim
  | _ => exact h1.elim
/-- while, as often as fuel says -/
def loopW (gt : M Bool) (g : S) : Nat → S
  | 0 => fun _ => none
  | n + 1 => gE gt fun k => if k = true then fun env => match g env with
      | some (.nx env2) => loopW gt g n env2
      | some (.ct env2) => loopW gt g n env2
      | some (.bk env2) => some (.nx env2)
      | o => o else gNx
theorem ss_while {c : Expr} {gt : M Bool} (n : Nat) (hp : PassesOwn (model X.prog X.w) X.A X.env X.xe) (hc : ST X W c gt) (hb : SSs X W body g) : SS X W (.While c body [] pos) (loopW gt g n) :=
  ps_imp (ps_while hp hc hb) fun D σ H ⟨C, F, env, R, h⟩ => by
    refine ⟨fun m => Btw X.K X.mg W C F (loopW gt g m) D, ⟨n, F, env, R, Ex.refl _, h⟩, fun m σ H ⟨F', env', R', ex, h2⟩ => ?_⟩
    cases m with
    | zero => exact h2.elim
    | succ m =>
      have h2 : AftS X.K X.mg W C F' (gE gt (fun k => if k = true then fun env => match g env with
        | some (.nx env2) => loopW gt g m env2
        | some (.ct env2) => loopW gt g m env2
        | some (.bk env2) => some (.nx env2)
        | o => o else gNx) env') D := h2
      refine tE_bd R' h2 fun k env2 k' F2 H2 R2 ex2 o2 h3 => ?_
      cases o2
      cases k with
      | false => exact h3 σ F2 H2 R2 (Ex.refl _)
      | true =>
        rw [if_pos rfl]
        refine ⟨Btw X.K X.mg W C F (loopW gt g m) D, fun σ' H' q => ⟨m, Nat.lt_succ_self m, q⟩, C, F2, env2, R2, ?_⟩
        simp only [if_true] at h3
        cases q2 : g env2 with
        | none => rw [q2] at h3; exact h3
        | some o =>
          rw [q2] at h3
          cases o with
          | nx env3 => exact fun σ F' H R ex3 => ⟨F', env3, R, (ex.trans ex2).trans ex3, h3.up ex3⟩
          | ct env3 => exact fun σ F' H R ex3 => ⟨F', env3, R, (ex.trans ex2).trans ex3, h3.up ex3⟩
          | bk env2 => exact h3
          | rt d env2 => exact h3
          | ro d env2 => exact h3
          | er x env2 => exact h3
end
end Pf
/-! part Pf8 -/
set_option Elab.async false
set_option linter.all false
set_option maxRecDepth 100000
set_option maxHeartbeats 2000000
namespace Pf
open PySem PySem.Spec L2 Evl

/-! ### comprehensions -/
def wipeE : List Nat → En → En
  | [], env => env
  | v :: vs, env => (wipeE vs env).set v .no
def backE (env0 : En) : List Nat → En → En
  | [], env => env
  | v :: vs, env => (backE env0 vs env).set v (match env0[v]? with
    | some (.val d) => .val d
    | _ => .no)
theorem wipeE_at {env : En} {i : Nat} {s : Sl} : ∀ {vs : List Nat}, (wipeE vs env)[i]? = some s → (i ∈ vs ∧ s = .no) ∨ (i ∉ vs ∧ env[i]? = some s)
  | [], h => .inr ⟨by simp, h⟩
  | v :: vs, h => by
    unfold wipeE at h
    rcases set_at h with ⟨rfl, rfl, _⟩ | ⟨ne, h⟩
    · exact .inl ⟨List.mem_cons_self, rfl⟩
    · rcases wipeE_at h with ⟨a, b⟩ | ⟨a, b⟩
      · exact .inl ⟨List.mem_cons_of_mem _ a, b⟩
      · exact .inr ⟨by simp only [List.mem_cons, not_or]; exact ⟨ne, a⟩, b⟩
theorem backE_at {env0 env : En} {i : Nat} {s : Sl} : ∀ {vs : List Nat}, (backE env0 vs env)[i]? = some s → (i ∈ vs ∧ (s = .no ∨ ∃ d, s = .val d ∧ env0[i]? = some (.val d))) ∨ (i ∉ vs ∧ env[i]? = some s)
  | [], h => .inr ⟨by simp, h⟩
  | v :: vs, h => by
    unfold backE at h
    rcases set_at h with ⟨rfl, rfl, _⟩ | ⟨ne, h⟩
    · refine .inl ⟨List.mem_cons_self, ?_⟩
      split
      · rename_i d q; exact .inr ⟨d, rfl, q⟩
      · exact .inl rfl
    · rcases backE_at h with ⟨a, b⟩ | ⟨a, b⟩
      · exact .inl ⟨List.mem_cons_of_mem _ a, b⟩
      · exact .inr ⟨by simp only [List.mem_cons, not_or]; exact ⟨ne, a⟩, b⟩
theorem wipeE_len (env : En) : ∀ vs : List Nat, (wipeE vs env).length = env.length
  | [] => rfl
  | v :: vs => by unfold wipeE; rw [List.length_set, wipeE_len env vs]
theorem backE_len (env0 env : En) : ∀ vs : List Nat, (backE env0 vs env).length = env.length
  | [] => rfl
  | v :: vs => by unfold backE; rw [List.length_set, backE_len env0 env vs]
section
variable {K : PySem.W.Frag} {mg : Str → Option Value} {W : WX} {C : Cn} {F : Hp} {σ : St} {H : Hp} {env : En} {vs : List Nat}
theorem Rel.wipe (R : Rel K C F σ H env) (vs : List Nat) : Rel K C F (L2.wipe σ vs) H (wipeE vs env) where
  fh := R.fh
  cf := R.cf
  new := R.new
  pres := R.pres
  bd := R.bd
  sl := fun i s h => by
    rcases wipeE_at h with ⟨_, rfl⟩ | ⟨ne, h⟩
    · trivial
    · rw [wipe_out ne]; exact R.sl i s h
  dis := fun i j p o1 o2 => by
    have back : ∀ {i : Nat}, Owned (L2.wipe σ vs) (wipeE vs env) i p → Owned σ env i p := fun {i} ⟨s, e, b, a⟩ => by
      rcases wipeE_at e with ⟨_, rfl⟩ | ⟨ne, e⟩
      · cases b
      · exact ⟨s, e, b, by rw [wipe_out ne] at a; exact a⟩
    exact R.dis i j p (back o1) (back o2)
  len := by rw [wipeE_len, wipe_length]; exact R.len
  tb := R.tb
  nt := R.nt
/-- what was wiped is wiped again -/
theorem Rel.rewipe {σ2 : St} (R : Rel K C F σ2 H env) (e : L2.wipe σ2 vs = L2.wipe σ vs) : Rel K C F (L2.wipe σ vs) H (wipeE vs env) := by
  rw [← e]; exact R.wipe vs
/-- behind the block -/
theorem Rel.back {F0 H0 : Hp} {env0 : En} (R0 : Rel K C F0 σ H0 env0) (R : Rel K C F (L2.wipe σ vs) H env) (ex : Ex F0 F) : Rel K C F σ H (backE env0 vs env) where
  fh := R.fh
  cf := R.cf
  new := R.new
  pres := R.pres
  bd := R.bd
  sl := fun i s h => by
    rcases backE_at h with ⟨_, rfl | ⟨d, rfl, q⟩⟩ | ⟨ne, h⟩
    · trivial
    · obtain ⟨v, a1, a2⟩ := R0.sl i _ q
      exact ⟨v, a1, dp_mono ex a2⟩
    · have q := R.sl i s h
      rw [wipe_out ne] at q
      exact q
  dis := fun i j p o1 o2 => by
    have back : ∀ {i : Nat}, Owned σ (backE env0 vs env) i p → Owned (L2.wipe σ vs) env i p := fun {i} ⟨s, e, b, a⟩ => by
      rcases backE_at e with ⟨_, rfl | ⟨d, rfl, q⟩⟩ | ⟨ne, e⟩
      · cases b
      · cases b
      · exact ⟨s, e, b, by rw [wipe_out ne]; exact a⟩
    exact R.dis i j p (back o1) (back o2)
  len := by rw [backE_len, R.len, wipe_length]
  tb := R.tb
  nt := R.nt
/-- the guarded list has grown -/
theorem Rel.reguard {F0 H0 : Hp} {σ0 : St} {env0 : En} (R0 : Rel K C F0 σ0 H0 env0) {p : Addr} {xs ys : List V} (h2 : C.H p = none) (h3 : C.F p = none) (R : Rel K (C.guard p (.lst xs)) F σ H env) : F p = none ∧ Rel K (C.guard p (.lst ys)) F σ (upd H p (.lst ys)) env := by
  have hf : F p = none := by
    cases q : F p with
    | none => rfl
    | some u => have z : upd C.H p (.lst xs) p = none := R.new p h3 (by rw [q]; simp); rw [upd_same] at z; cases z
  have U := Rel.unguard R0 h2 R
  have ownne : ∀ i q, Owned σ env i q → q ≠ p := fun i q ⟨s, e, b, a⟩ z => by
    subst z
    have t := R.sl i s e
    cases s with
    | own es => obtain ⟨p', ws, a1, a2, a3, _⟩ := t; rw [a] at a1; cases a1; have a3 : upd C.H q (.lst xs) q = none := a3; rw [upd_same] at a3; cases a3
    | bor es => obtain ⟨p', ws, a1, a2, a3, _⟩ := t; rw [a] at a1; cases a1; exact (R0.bd q a3).2.2 h2
    | obj ob => obtain ⟨p', a1, a2, a3, _⟩ := t; rw [a] at a1; cases a1; have a3 : upd C.H q (.lst xs) q = none := a3; rw [upd_same] at a3; cases a3
    | _ => cases b
  refine ⟨hf, ?_⟩
  have G : Rel K C F σ (upd H p (.lst ys)) env := {
    fh := U.fh.mut hf
    cf := U.cf
    new := U.new
    pres := fun a u q hb => by rw [upd_ne (ne_of_none q h2)]; exact U.pres a u q hb
    bd := fun b hb => by
      refine ⟨?_, (U.bd b hb).2⟩
      have ne : b ≠ p := fun e => (R0.bd b hb).2.2 (by rw [e]; exact h2)
      rw [upd_ne ne]; exact (U.bd b hb).1
    sl := fun i s hs => by
      have q := U.sl i s hs
      cases s with
      | no => trivial
      | val d => exact q
      | own es => obtain ⟨p', ws, a1, a2, a3, a4, a5⟩ := q; exact ⟨p', ws, a1, a2, a3, by rw [upd_ne (ownne i p' ⟨_, hs, rfl, a1⟩)]; exact a4, a5⟩
      | bor es => obtain ⟨p', ws, a1, a2, a3, a4, a5⟩ := q; exact ⟨p', ws, a1, a2, a3, by rw [upd_ne (ownne i p' ⟨_, hs, rfl, a1⟩)]; exact a4, a5⟩
      | obj ob => obtain ⟨p', a1, a2, a3, a4⟩ := q; exact ⟨p', a1, a2, a3, by rw [upd_ne (ownne i p' ⟨_, hs, rfl, a1⟩)]; exact a4⟩
      | raw v => exact q
      | exc a dd fs => exact q
      | tab T => exact q
    dis := U.dis
    len := U.len
    nt := U.nt
    tb := tabs_lst U.tb (Rel.guarded (fun b hb => (R0.bd b hb).2.2) h2 R) fun a o ne e => by rw [upd_ne ne]; exact e }
  exact G.guard hf h2 upd_same fun i o => ownne i p o rfl
end
/-- the turns of a block: items, what is made so far -/
def loopC (vs : List Nat) (b : PyData → En → Option En) (gt : M Bool) (ge : M PyData) : List PyData → List PyData → En → Option (List PyData × En)
  | [], acc, env => some (acc, env)
  | d :: r, acc, env => match b d env with
    | none => none
    | some env1 => match gt env1 with
      | some (.ok (true, env2)) => match ge env2 with
        | some (.ok (y, env3)) => if acc.length < 16777216 then loopC vs b gt ge r (acc ++ [y]) (wipeE vs env3) else none
        | _ => none
      | some (.ok (false, env2)) => loopC vs b gt ge r acc (wipeE vs env2)
      | _ => none
def gLc (vs : List Nat) (b : PyData → En → Option En) (gt : M Bool) (ge : M PyData) (ds : List PyData) : M (List PyData) := fun env => match loopC vs b gt ge ds [] (wipeE vs env) with
  | none => none
  | some (acc, env') => some (.ok (acc, backE env vs env'))
def gYes : M Bool := M.ok true
abbrev W0 : WX := fun _ _ _ _ => False
section
variable {K : PySem.W.Frag} {mg : Str → Option Value} {W : WX} {C : Cn} {F0 F1 : Hp} {σ : St} {H1 : Hp} {env1 : En} {vs : List Nat} {b : PyData → En → Option En} {gt : M Bool} {ge : M PyData} {ds : List PyData} {Q : VK} {g : TG}
/-- between the turns -/
def BtwC (K : PySem.W.Frag) (C : Cn) (F1 : Hp) (σ : St) (vs : List Nat) (b : PyData → En → Option En) (gt : M Bool) (ge : M PyData) (D : Addr) (out : List PyData × En) (r : List PyData) (H : Hp) : Prop :=
  ∃ F env accV acc, Rel K (C.guard D (.lst accV)) F (wipe σ vs) H env ∧ Ex F1 F ∧ DpAll K F accV acc ∧ loopC vs b gt ge r acc env = some out
theorem btw_start {D : Addr} {out} (R : Rel K C F1 σ H1 env1) (hD : H1 D = none) (h : loopC vs b gt ge ds [] (wipeE vs env1) = some out) : BtwC K C F1 σ vs b gt ge D out ds (upd H1 D (.lst [])) := by
  have f := R.fresh hD
  refine ⟨F1, _, [], [], ?_, Ex.refl _, .nil, h⟩
  have R' := (R.newH (o := .lst []) hD).wipe vs
  exact R'.guard f.1 f.2 upd_same fun i o => by
    obtain ⟨s, e, o, a⟩ := o
    have q := R'.sl i s e
    rcases wipeE_at e with ⟨_, rfl⟩ | ⟨ne, e⟩
    · cases o
    · have q := R.sl i s e
      rw [wipe_out ne] at a
      cases s with
      | own es => obtain ⟨p', ws, a1, a2, a3, a4, a5⟩ := q; rw [a] at a1; cases a1; rw [hD] at a4; cases a4
      | bor es => obtain ⟨p', ws, a1, a2, a3, a4, a5⟩ := q; rw [a] at a1; cases a1; rw [hD] at a4; cases a4
      | obj ob => obtain ⟨p', a1, a2, a3, a4⟩ := q; rw [a] at a1; cases a1; rw [hD] at a4; cases a4
      | _ => cases o
theorem btw_turn {D : Addr} {out} {H : Hp} {x : V} {d : PyData} {r : List PyData} {j : Nat} (R0 : Rel K C F1 σ H1 env1) (hD : H1 D = none) (hj : j ∈ vs) (hb : b = bN j) (hx : Dp K F1 x d) (h : BtwC K C F1 σ vs b gt ge D out (d :: r) H) :
    wipe ((wipe σ vs).set j (some x)) vs = wipe σ vs ∧ tG K mg okB W0 gt ((wipe σ vs).set j (some x)) H fun k H3 => if k = true then tG K mg (okV K) W0 ge ((wipe σ vs).set j (some x)) H3 fun y H4 => ∃ acc, H4 D = some (.lst acc) ∧ acc.length < sizeLine ∧ BtwC K C F1 σ vs b gt ge D out r (upd H4 D (.lst (acc ++ [y])))
      else BtwC K C F1 σ vs b gt ge D out r H3 := by
  have f := R0.fresh hD
  have hw : wipe ((wipe σ vs).set j (some x)) vs = wipe σ vs := by
    have key : ∀ (τ : St) (ws : List Nat), (∀ i, i ∉ ws → τ[i]? = σ[i]?) → τ.length = σ.length → ∀ us : List Nat, us ⊆ ws → ∀ i, (i ∈ us ∨ i ∉ ws) → (wipe τ us)[i]? = (wipe σ us)[i]? := by
      intro τ ws ht hl us
      induction us with
      | nil =>
        intro _ i hi
        rcases hi with hi | hi
        · cases hi
        · exact ht i hi
      | cons u us ih =>
        intro hs i hi
        unfold wipe
        by_cases e : u = i
        · subst e
          by_cases hu : u < σ.length
          · rw [List.getElem?_set_self (by rw [wipe_length, hl]; exact hu), List.getElem?_set_self (by rw [wipe_length]; exact hu)]
          · rw [List.getElem?_eq_none (by rw [List.length_set, wipe_length, hl]; omega), List.getElem?_eq_none (by rw [List.length_set, wipe_length]; omega)]
        · rw [List.getElem?_set_ne e, List.getElem?_set_ne e]
          refine ih (fun z hz => hs (List.mem_cons_of_mem _ hz)) i ?_
          rcases hi with hi | hi
          · rcases List.mem_cons.mp hi with rfl | hi
            · exact absurd rfl e
            · exact .inl hi
          · exact .inr hi
    have same : ∀ (τ : St), (∀ i, i ∉ vs → τ[i]? = σ[i]?) → τ.length = σ.length → wipe τ vs = wipe σ vs := fun τ ht hl => by
      apply List.ext_getElem?
      intro i
      by_cases hi : i ∈ vs
      · exact key τ vs ht hl vs (fun _ z => z) i (.inl hi)
      · exact key τ vs ht hl vs (fun _ z => z) i (.inr hi)
    refine same _ (fun i hi => ?_) (by rw [List.length_set, wipe_length])
    rw [List.getElem?_set_ne (fun e => hi (by rw [← e]; exact hj)), wipe_out hi]
  refine ⟨hw, ?_⟩
  obtain ⟨F, env, accV, acc, R, ex, ha, hl⟩ := h
  subst hb
  have hl : (match gt (env.set j (.val d)) with
      | some (.ok (true, env2)) => match ge env2 with
        | some (.ok (y, env3)) => if acc.length < 16777216 then loopC vs (bN j) gt ge r (acc ++ [y]) (wipeE vs env3) else none
        | _ => none
      | some (.ok (false, env2)) => loopC vs (bN j) gt ge r acc (wipeE vs env2)
      | _ => none) = some out := hl
  refine ⟨_, F, env.set j (.val d), R.store j (dp_mono ex hx), ?_⟩
  cases q : gt (env.set j (.val d)) with
  | none => rw [q] at hl; cases hl
  | some z =>
    rw [q] at hl
    cases z with
    | error z => cases hl
    | ok z =>
      obtain ⟨k, env2⟩ := z
      intro k' F3 H3 R3 ex3 ek
      cases ek
      cases k with
      | false => exact ⟨F3, _, accV, acc, R3.rewipe hw, ex.trans ex3, dps_mono ex3 ha, hl⟩
      | true =>
        simp only [if_true] at hl ⊢
        refine ⟨_, F3, env2, R3, ?_⟩
        cases q2 : ge env2 with
        | none => rw [q2] at hl; cases hl
        | some z =>
          rw [q2] at hl
          cases z with
          | error z => cases hl
          | ok z =>
            obtain ⟨y, env3⟩ := z
            intro v F4 H4 R4 ex4 dv
            simp only at hl
            split at hl
            · rename_i hlen
              have hG : H4 D = some (.lst accV) := R4.guarded (fun b hb => (R0.bd b hb).2.2) f.2
              have hcf : C.F D = none := by
                cases z : C.F D with
                | none => rfl
                | some u => have := R0.cf D u z; rw [f.1] at this; cases this
              obtain ⟨hf4, R5⟩ := Rel.reguard (ys := (accV ++ [v])) R0 f.2 hcf R4
              have ha4 := dps_mono ex4 (dps_mono ex3 ha)
              refine ⟨accV, hG, by rw [ha4.len, sizeLine_eq]; exact hlen, F4, _, accV ++ [v], acc ++ [y], R5.rewipe hw, (ex.trans ex3).trans ex4, ha4.app (.cons dv .nil), hl⟩
            · cases hl
theorem btw_end {D : Addr} {acc : List PyData} {env' : En} {H : Hp} (R0 : Rel K C F1 σ H1 env1) (hD : H1 D = none) (h : BtwC K C F1 σ vs b gt ge D (acc, env') [] H) :
    ∃ F, Rel K C F σ H (backE env1 vs env') ∧ Ex F1 F ∧ okO K C F σ H (backE env1 vs env') acc (.ref D) := by
  have f := R0.fresh hD
  obtain ⟨F, env, accV, acc', R, ex, ha, hl⟩ := h
  have e : (acc', env) = (acc, env') := Option.some.inj hl
  cases e
  have hG : H D = some (.lst accV) := R.guarded (fun b hb => (R0.bd b hb).2.2) f.2
  have hcf : C.F D = none := by
    cases z : C.F D with
    | none => rfl
    | some u => have := R0.cf D u z; rw [f.1] at this; cases this
  have hf := (Rel.reguard (ys := accV) R0 f.2 hcf R).1
  have U := Rel.unguard R0 f.2 R
  have B := R0.back U ex
  refine ⟨F, B, ex, D, accV, rfl, hf, f.2, hG, ha, fun i ⟨s, e1, e2, e3⟩ => ?_⟩
  rcases backE_at e1 with ⟨_, rfl | ⟨d, rfl, _⟩⟩ | ⟨ne, e1⟩
  · cases e2
  · cases e2
  · have q := R.sl i s e1
    rw [wipe_out ne, e3] at q
    cases s with
    | own es => obtain ⟨p', ws, a1, a2, a3, _⟩ := q; cases a1; have a3 : upd C.H D (.lst accV) D = none := a3; rw [upd_same] at a3; cases a3
    | bor es => obtain ⟨p', ws, a1, a2, a3, _⟩ := q; cases a1; exact (R0.bd D a3).2.2 f.2
    | obj ob => obtain ⟨p', a1, a2, a3, _⟩ := q; cases a1; have a3 : upd C.H D (.lst accV) D = none := a3; rw [upd_same] at a3; cases a3
    | _ => cases e2
theorem lc_out {env : En} {ds : List PyData} (h : After K mg (okO K) W C F1 σ (gLc vs b gt ge ds env) Q) : ∃ out, loopC vs b gt ge ds [] (wipeE vs env) = some out ∧ After K mg (okO K) W C F1 σ (M.ok out.1 (backE env vs out.2)) Q := by
  unfold gLc at h
  cases q : loopC vs b gt ge ds [] (wipeE vs env) with
  | none => rw [q] at h; exact h.elim
  | some o => rw [q] at h; exact ⟨o, rfl, h⟩
end
section
variable {X : Cx} {W : WX} {elt iter a1 a2 : Expr} {ifs : List Expr} {scope : Scope} {own : List (Str × Nat)} {ga gb : M PyData} {gt : M Bool} {ge : M PyData} {pos p0 p1 p2 : Pos} {x : Str} {j : Nat}
def tupO (d : PyData) : Option (List PyData) := match d with
  | .tuple ds => some ds
  | _ => none
def lstO (d : PyData) : Option (List PyData) := match d with
  | .list ds => some ds
  | _ => none
def rngO (d : PyData) : Option (List PyData) := match d with
  | .int n => if -(2 ^ 62) ≤ n ∧ n < 2 ^ 62 then some (rngD 0 n.toNat) else none
  | _ => none
abbrev STs (X : Cx) (W : WX) (ifs : List Expr) (g : M Bool) : Prop := PTs X ifs (tG X.K X.mg okB W g)
theorem sts_nil : STs X W [] gYes := ⟨fun pins s σ H Q I ⟨C, F, env, R, h⟩ => pts_nil.run pins s σ H Q I (aft (ok := okB) h R rfl)⟩
theorem sts_one {c : Expr} {g : M Bool} (h : ST X W c g) : STs X W [c] g := pts_one h
theorem so_lcT (hc : X.calm = true) (hN : X.N.Nodup) (hi : SV X W iter ga) (ok : BlkOk X.N X.env.scope scope own) (hj : j ∈ own.map (·.2))
    (hg : ∀ (s : Shared) (H : Hp) (C : Addr) (cl : List (Str × Addr)) (fp : List Addr), PG (X.blk s H scope (compEnvC scope cl C X.env) fp) (.Name x p1) (gName j)) (ht : ∀ (s : Shared) (H : Hp) (C : Addr) (cl : List (Str × Addr)) (fp : List Addr), STs (X.blk s H scope (compEnvC scope cl C X.env) fp) W0 ifs gt)
    (he : ∀ (s : Shared) (H : Hp) (C : Addr) (cl : List (Str × Addr)) (fp : List Addr), SV (X.blk s H scope (compEnvC scope cl C X.env) fp) W0 elt ge) (hs : ∀ x, foldedSetIterable iter X.env x = pure x := by intro _; rfl) :
    SO X W (.ListComp elt [⟨.Name x p1, iter, ifs, 0⟩] scope pos) (M.bd ga fun d => M.bd (M.opt (tupO d)) fun ds => gLc (own.map (·.2)) (bN j) gt ge ds) :=
  pe_imp (pe_lc (tt := tG X.K X.mg okB W0 gt) (te := tG X.K X.mg (okV X.K) W0 ge) hc hN (pi_tup hi) ok hg ht he hs) fun σ H Q ⟨C, F, env, R, h⟩ => tG_bd R h fun d env1 v F1 H1 R1 e1 o1 h1 => by
    obtain ⟨ds, hds, h2⟩ := bd_opt h1
    obtain ⟨out, hl, h3⟩ := lc_out h2
    cases o1 with
    | tup s r =>
      cases hds
      rename_i a xs
      refine ⟨a, rfl, ⟨xs, ex_t R1.fh s⟩, fun D hD => lc_tup (xs := xs) (fun i => BtwC X.K C F1 σ (own.map (·.2)) (bN j) gt ge D out (ds.drop i)) (btw_start R1 hD hl) (fun i H _ ⟨F, env, accV, acc, R, ex, _⟩ => ex_t (ex.trans R.fh) s) (fun i x H hx hB => ?_) (fun H hB => ?_)⟩
      · obtain ⟨d, hd, dd⟩ := DpAll_at r hx
        rw [drop_at hd] at hB
        exact btw_turn (mg := X.mg) R1 hD hj rfl dd hB
      · rw [List.drop_eq_nil_of_le (Nat.le_of_eq r.len.symm)] at hB
        obtain ⟨F2, R2, ex2, o2⟩ := btw_end R1 hD hB
        exact aft' (ok := okO X.K) h3 R2 ex2 o2
    | _ => cases hds
theorem so_lcL (hc : X.calm = true) (hN : X.N.Nodup) (hi : SV X W iter ga) (ok : BlkOk X.N X.env.scope scope own) (hj : j ∈ own.map (·.2))
    (hg : ∀ (s : Shared) (H : Hp) (C : Addr) (cl : List (Str × Addr)) (fp : List Addr), PG (X.blk s H scope (compEnvC scope cl C X.env) fp) (.Name x p1) (gName j)) (ht : ∀ (s : Shared) (H : Hp) (C : Addr) (cl : List (Str × Addr)) (fp : List Addr), STs (X.blk s H scope (compEnvC scope cl C X.env) fp) W0 ifs gt)
    (he : ∀ (s : Shared) (H : Hp) (C : Addr) (cl : List (Str × Addr)) (fp : List Addr), SV (X.blk s H scope (compEnvC scope cl C X.env) fp) W0 elt ge) (hs : ∀ x, foldedSetIterable iter X.env x = pure x := by intro _; rfl) :
    SO X W (.ListComp elt [⟨.Name x p1, iter, ifs, 0⟩] scope pos) (M.bd ga fun d => M.bd (M.opt (lstO d)) fun ds => gLc (own.map (·.2)) (bN j) gt ge ds) :=
  pe_imp (pe_lc (tt := tG X.K X.mg okB W0 gt) (te := tG X.K X.mg (okV X.K) W0 ge) hc hN (pi_list hi) ok hg ht he hs) fun σ H Q ⟨C, F, env, R, h⟩ => tG_bd R h fun d env1 v F1 H1 R1 e1 o1 h1 => by
    obtain ⟨ds, hds, h2⟩ := bd_opt h1
    obtain ⟨out, hl, h3⟩ := lc_out h2
    cases o1 with
    | lst s r =>
      cases hds
      rename_i a xs
      refine ⟨a, rfl, ⟨xs, ex_l R1.fh s⟩, fun D hD => lc_list (xs := xs) (fun i => BtwC X.K C F1 σ (own.map (·.2)) (bN j) gt ge D out (ds.drop i)) (btw_start R1 hD hl) (fun i H _ ⟨F, env, accV, acc, R, ex, _⟩ => ex_l (ex.trans R.fh) s) (fun i x H hx hB => ?_) (fun H hB => ?_)⟩
      · obtain ⟨d, hd, dd⟩ := DpAll_at r hx
        rw [drop_at hd] at hB
        exact btw_turn (mg := X.mg) R1 hD hj rfl dd hB
      · rw [List.drop_eq_nil_of_le (Nat.le_of_eq r.len.symm)] at hB
        obtain ⟨F2, R2, ex2, o2⟩ := btw_end R1 hD hB
        exact aft' (ok := okO X.K) h3 R2 ex2 o2
    | _ => cases hds
theorem so_lcR1 (hc : X.calm = true) (hN : X.N.Nodup) (hgl : Gl X "range") (hm : X.mg "range" = none) (hi : SV X W a1 ga) (ok : BlkOk X.N X.env.scope scope own) (hj : j ∈ own.map (·.2))
    (hg : ∀ (s : Shared) (H : Hp) (C : Addr) (cl : List (Str × Addr)) (fp : List Addr), PG (X.blk s H scope (compEnvC scope cl C X.env) fp) (.Name x p1) (gName j)) (ht : ∀ (s : Shared) (H : Hp) (C : Addr) (cl : List (Str × Addr)) (fp : List Addr), STs (X.blk s H scope (compEnvC scope cl C X.env) fp) W0 ifs gt)
    (he : ∀ (s : Shared) (H : Hp) (C : Addr) (cl : List (Str × Addr)) (fp : List Addr), SV (X.blk s H scope (compEnvC scope cl C X.env) fp) W0 elt ge)
    (h1 : starEach [a1] X.env = [(false, eval a1 X.env)] := by rfl) (h2 : starEach [a1] X.env = (false, eval a1 X.env) :: starEach [] X.env := by rfl) (hs : ∀ x, foldedSetIterable (.Call (.Name "range" p0) [a1] [] p2) X.env x = pure x := by intro _; rfl) :
    SO X W (.ListComp elt [⟨.Name x p1, .Call (.Name "range" p0) [a1] [] p2, ifs, 0⟩] scope pos) (M.bd ga fun d => M.bd (M.opt (rngO d)) fun ds => gLc (own.map (·.2)) (bN j) gt ge ds) :=
  pe_imp (pe_lc (tt := tG X.K X.mg okB W0 gt) (te := tG X.K X.mg (okV X.K) W0 ge) hc hN (pi_range1 hgl hm (pa_cons hi pa_nil h2) h1) ok hg ht he hs) fun σ H Q ⟨C, F, env, R, h⟩ => tG_bd R h fun d env1 v F1 H1 R1 e1 o1 h1 => by
    obtain ⟨ds, hds, h2⟩ := bd_opt h1
    obtain ⟨out, hl, h3⟩ := lc_out h2
    cases o1 with
    | int n =>
      simp only [rngO] at hds
      split at hds
      · rename_i hn
        cases hds
        refine ⟨n, rfl, hn.1, hn.2, fun D hD => lc_range (lo := 0) (n := n.toNat) (fun i => BtwC X.K C F1 σ (own.map (·.2)) (bN j) gt ge D out ((rngD 0 n.toNat).drop i)) (btw_start R1 hD hl) (fun i H hx hB => ?_) (fun H hB => ?_)⟩
        · rw [drop_at (rngD_at hx)] at hB
          exact btw_turn (mg := X.mg) R1 hD hj rfl (.int _) hB
        · rw [List.drop_eq_nil_of_le (by rw [rngD_len]; exact Nat.le_refl _)] at hB
          obtain ⟨F2, R2, ex2, o2⟩ := btw_end R1 hD hB
          exact aft' (ok := okO X.K) h3 R2 ex2 o2
      · cases hds
    | _ => cases hds
end
end Pf
/-! part Pf9 -/
set_option Elab.async false
set_option linter.all false
set_option maxRecDepth 100000
set_option maxHeartbeats 2000000
namespace Pf
open PySem PySem.Spec L2 Evl

/-! ### what a def promises -/
structure Exit (F H : Hp) (B : List Addr) (F' H' : Hp) : Prop where
  ff : Ex F F'
  fh : Ex F' H'
  new : ∀ a, F a = none → F' a ≠ none → H a = none
  pres : ∀ a o, H a = some o → a ∉ B → H' a = some o
  nt : NT F'
abbrev Rf (α : Type) := Option (Except Xc α)
section
variable (K : PySem.W.Frag) (mg : Str → Option Value)
/-- data in, data out -/
def SpD (n : Nat) (f : List PyData → Rf PyData) : Sp := fun vs H Q E => ∃ F ds, (Ex F H ∧ NT F) ∧ DpAll K F vs ds ∧ ds.length = n ∧ match f ds with
  | none => False
  | some (.ok d) => ∀ v F' H', Exit F H [] F' H' → Dp K F' v d → Q v H'
  | some (.error x) => ∀ F' H' cls dx, Exit F H [] F' H' → XOk K mg F' H' cls dx x → E cls dx H'
/-- data in, a new list out -/
def SpO (n : Nat) (f : List PyData → Rf (List PyData)) : Sp := fun vs H Q E => ∃ F ds, (Ex F H ∧ NT F) ∧ DpAll K F vs ds ∧ ds.length = n ∧ match f ds with
  | none => False
  | some (.ok es) => ∀ p ws F' H', Exit F H [] F' H' → F' p = none → H p = none → H' p = some (.lst ws) → DpAll K F' ws es → Q (.ref p) H'
  | some (.error x) => ∀ F' H' cls dx, Exit F H [] F' H' → XOk K mg F' H' cls dx x → E cls dx H'
/-- a list that is lent, then data; data out, the list changed -/
def SpB (n : Nat) (f : List PyData → List PyData → Rf (PyData × List PyData)) : Sp := fun vs H Q E => ∃ F p ws st vs' ds, vs = .ref p :: vs' ∧ (Ex F H ∧ NT F) ∧ F p = none ∧ H p = some (.lst ws) ∧ DpAll K F ws st ∧ DpAll K F vs' ds ∧ ds.length = n ∧ match f st ds with
  | none => False
  | some (.ok (d, st')) => ∀ v F' H' ws', Exit F H [p] F' H' → F' p = none → H' p = some (.lst ws') → DpAll K F' ws' st' → Dp K F' v d → Q v H'
  | some (.error x) => False
/-- the same, a new list out -/
def SpBO (n : Nat) (f : List PyData → List PyData → Rf (List PyData × List PyData)) : Sp := fun vs H Q E => ∃ F p ws st vs' ds, vs = .ref p :: vs' ∧ (Ex F H ∧ NT F) ∧ F p = none ∧ H p = some (.lst ws) ∧ DpAll K F ws st ∧ DpAll K F vs' ds ∧ ds.length = n ∧ match f st ds with
  | none => False
  | some (.ok (es, st')) => ∀ q us F' H' ws', Exit F H [p] F' H' → F' p = none → H' p = some (.lst ws') → DpAll K F' ws' st' → F' q = none → H q = none → H' q = some (.lst us) → DpAll K F' us es → Q (.ref q) H'
  | some (.error x) => False
end
/-- the environment at a def's entry -/
def envD (N : Nat) (ds : List PyData) : En := ds.map .val ++ List.replicate (N - ds.length) .no
def fnD (G : S) (N : Nat) (ds : List PyData) : Rf PyData := match G (envD N ds) with
  | some (.rt d _) => some (.ok d)
  | some (.nx _) => some (.ok .none)
  | some (.ro es _) => some (.ok (.list es))
  | some (.er x _) => some (.error x)
  | _ => none
def fnO (G : S) (N : Nat) (ds : List PyData) : Rf (List PyData) := match G (envD N ds) with
  | some (.ro es _) => some (.ok es)
  | some (.er x _) => some (.error x)
  | _ => none
def envB (N : Nat) (st ds : List PyData) : En := .bor st :: (ds.map .val ++ List.replicate (N - 1 - ds.length) .no)
def fnB (G : S) (N : Nat) (st ds : List PyData) : Rf (PyData × List PyData) := match G (envB N st ds) with
  | some (.rt d (.bor st' :: _)) => some (.ok (d, st'))
  | some (.nx (.bor st' :: _)) => some (.ok (.none, st'))
  | some (.ro es (.bor st' :: _)) => some (.ok (.list es, st'))
  | _ => none
def fnBO (G : S) (N : Nat) (st ds : List PyData) : Rf (List PyData × List PyData) := match G (envB N st ds) with
  | some (.ro es (.bor st' :: _)) => some (.ok (es, st'))
  | _ => none
section
variable {K : PySem.W.Frag} {mg : Str → Option Value} {F H F' H' : Hp} {σ : St} {env : En} {B : List Addr}
theorem Rel.exit (R : Rel K ⟨F, H, B, []⟩ F' σ H' env) : Exit F H B F' H' := ⟨R.cf, R.fh, R.new, R.pres, R.nt⟩
theorem Exit.freezeO {v : V} {es : List PyData} (R : Rel K ⟨F, H, B, []⟩ F' σ H' env) (o : okO K ⟨F, H, B, []⟩ F' σ H' env es v) : ∃ F2, Exit F H B F2 H' ∧ Ex F' F2 ∧ Dp K F2 v (.list es) ∧ Rel K ⟨F, H, B, []⟩ F2 σ H' env := by
  obtain ⟨p, vs, rfl, ex, R2, dp⟩ := R.freezeO o
  exact ⟨_, R2.exit, ex, dp, R2⟩
theorem rel_start {N : List Str} {vs : List V} {ds : List PyData} (hF : Ex F H ∧ NT F) (h : DpAll K F vs ds) (hl : ds.length ≤ N.length) : Rel K ⟨F, H, [], []⟩ F (L2.start N vs) H (envD N.length ds) where
  fh := hF.1
  nt := hF.2
  cf := Ex.refl _
  new := fun a h1 h2 => absurd h1 h2
  pres := fun a o q _ => q
  bd := fun b hb => by cases hb
  sl := fun i s hs => by
    unfold envD at hs
    have hv := h.len
    by_cases hi : i < ds.length
    · rw [List.getElem?_append_left (by simpa using hi), List.getElem?_map] at hs
      cases q : ds[i]? with
      | none => rw [q] at hs; cases hs
      | some d =>
        rw [q] at hs
        cases hs
        obtain ⟨v, e, dv⟩ := h.get q
        refine ⟨v, ?_, dv⟩
        unfold L2.start
        rw [List.getElem?_append_left (by simp; omega), List.getElem?_map, e]
        rfl
    · rw [List.getElem?_append_right (by simpa using hi)] at hs
      rw [List.getElem?_replicate] at hs
      split at hs
      · cases hs; trivial
      · cases hs
  dis := fun i j p o _ => by
    obtain ⟨s, e, b, _⟩ := o
    unfold envD at e
    by_cases hi : i < ds.length
    · rw [List.getElem?_append_left (by simpa using hi), List.getElem?_map] at e
      cases q : ds[i]? with
      | none => rw [q] at e; cases e
      | some d => rw [q] at e; cases e; cases b
    · rw [List.getElem?_append_right (by simpa using hi), List.getElem?_replicate] at e
      split at e
      · cases e; cases b
      · cases e
  len := by
    unfold envD L2.start
    have hv := h.len
    simp only [List.length_append, List.length_map, List.length_replicate, hv]
  tb := fun q hq => nomatch hq
theorem rel_startB {N : List Str} {vs ws : List V} {st ds : List PyData} {p : Addr} (hF : Ex F H ∧ NT F) (hp : F p = none) (hH : H p = some (.lst ws)) (hs : DpAll K F ws st) (h : DpAll K F vs ds) (hl : ds.length + 1 ≤ N.length) :
    Rel K ⟨F, H, [p], []⟩ F (L2.start N (.ref p :: vs)) H (envB N.length st ds) where
  fh := hF.1
  nt := hF.2
  cf := Ex.refl _
  new := fun a h1 h2 => absurd h1 h2
  pres := fun a o q _ => q
  bd := fun b hb => by
    have e : b = p := by simpa using hb
    subst e
    exact ⟨by rw [hH]; simp, hp, by show H b ≠ none; rw [hH]; simp⟩
  sl := fun i s hi => by
    unfold envB at hi
    unfold L2.start
    have hv := h.len
    cases i with
    | zero =>
      have e : Sl.bor st = s := by simpa using hi
      subst e
      exact ⟨p, ws, rfl, hp, List.mem_cons_self, hH, hs⟩
    | succ i =>
      have hi : (ds.map Sl.val ++ List.replicate (N.length - 1 - ds.length) Sl.no)[i]? = some s := by simpa using hi
      by_cases hl : i < ds.length
      · rw [List.getElem?_append_left (by simpa using hl), List.getElem?_map] at hi
        cases q : ds[i]? with
        | none => rw [q] at hi; cases hi
        | some d =>
          rw [q] at hi
          cases hi
          obtain ⟨v, e, dv⟩ := h.get q
          refine ⟨v, ?_, dv⟩
          rw [List.getElem?_append_left (by simp; omega)]
          simp [e]
      · rw [List.getElem?_append_right (by simpa using hl), List.getElem?_replicate] at hi
        split at hi
        · cases hi; trivial
        · cases hi
  dis := fun i j q o1 o2 => by
    have z : ∀ {i : Nat}, Owned (L2.start N (.ref p :: vs)) (envB N.length st ds) i q → i = 0 := fun {i} o => by
      obtain ⟨s, e, b, _⟩ := o
      cases i with
      | zero => rfl
      | succ i =>
        have hi : (ds.map Sl.val ++ List.replicate (N.length - 1 - ds.length) Sl.no)[i]? = some s := by simpa [envB] using e
        by_cases hl : i < ds.length
        · rw [List.getElem?_append_left (by simpa using hl), List.getElem?_map] at hi
          cases q : ds[i]? with
          | none => rw [q] at hi; cases hi
          | some d => rw [q] at hi; cases hi; cases b
        · rw [List.getElem?_append_right (by simpa using hl), List.getElem?_replicate] at hi
          split at hi
          · cases hi; cases b
          · cases hi
    rw [z o1, z o2]
  len := by
    unfold envB L2.start
    have hv := h.len
    simp only [List.length_cons, List.length_append, List.length_map, List.length_replicate, hv]
    omega
  tb := fun q hq => nomatch hq
/-- what is lent at the end -/
theorem lent {p : Addr} {st' : List PyData} {r : En} (R : Rel K ⟨F, H, [p], []⟩ F' σ H' (.bor st' :: r)) : F' p = none ∧ ∃ ws', H' p = some (.lst ws') ∧ DpAll K F' ws' st' := by
  obtain ⟨q, ws, a1, a2, a3, a4, a5⟩ := R.sl 0 (.bor st') rfl
  have e : q = p := by simpa using a3
  subst e
  exact ⟨a2, ws, a4, a5⟩
end
section
variable {P : Program} {w : World} {K : PySem.W.Frag} {mg : Str → Option Value} {base : Heap}
/-- what a def lets out is the wish E -/
abbrev WE0 (E : XK) : WX := fun cls d _ H => E cls d H
theorem ok_fnD {x qual : Str} {st : Stmt} {f : Addr} {fd : FuncData} {N ps : List Str} {k : Nat} {G : S} (Fn : Fun K x qual st f fd) (Sc : FnScope N ps (defScope st)) (hl : ps.length ≤ N.length)
    (hbody : ∀ (cdv : Value) (A : Around) (outer : List PySem.Env) (s : Shared) (H : Hp) (E : XK), Room k (A.deeper (PyProof.Rows.envOfC qual (defScope st) s.heap.objs.size f cdv)) →
      SSs (cxOf (L2.CX P w) P w K mg base N qual (defScope st) f cdv A outer s H E) (WE0 E) (defBody st) G) :
    FnOk P w K mg base (L2.CX P w) (k + 1) f fd ps (SpD K mg ps.length (fnD G N.length)) := by
  refine Fn.okX Sc (fun vs H Q E ⟨F, ds, _, h, e, _⟩ => by rw [h.len]; exact e) fun cdv A outer s H vs Q E hr ⟨F, ds, hF, h, e, hm⟩ => ⟨_, hbody cdv A outer s H E hr, ⟨F, H, [], []⟩, F, _, rel_start hF h (by omega), ?_⟩
  show AftS K mg (WE0 E) _ _ _ _
  unfold fnD at hm
  cases q : G (envD N.length ds) with
  | none => rw [q] at hm; exact hm
  | some o =>
    rw [q] at hm
    cases o with
    | nx env' => exact fun σ F' H' R ex => hm .non F' H' R.exit .non
    | rt d env' => exact fun v σ F' H' R ex dv => hm v F' H' R.exit dv
    | ro es env' => exact fun v σ F' H' R ex o => by obtain ⟨F2, e1, e2, dp, _⟩ := Exit.freezeO R o; exact hm v F2 H' e1 dp
    | bk env' => exact hm.elim
    | ct env' => exact hm.elim
    | er x env' => exact fun σ F' H' cls dx R ex xo => hm F' H' cls dx R.exit xo
theorem ok_fnO {x qual : Str} {st : Stmt} {f : Addr} {fd : FuncData} {N ps : List Str} {k : Nat} {G : S} (Fn : Fun K x qual st f fd) (Sc : FnScope N ps (defScope st)) (hl : ps.length ≤ N.length)
    (hbody : ∀ (cdv : Value) (A : Around) (outer : List PySem.Env) (s : Shared) (H : Hp) (E : XK), Room k (A.deeper (PyProof.Rows.envOfC qual (defScope st) s.heap.objs.size f cdv)) →
      SSs (cxOf (L2.CX P w) P w K mg base N qual (defScope st) f cdv A outer s H E) (WE0 E) (defBody st) G) :
    FnOk P w K mg base (L2.CX P w) (k + 1) f fd ps (SpO K mg ps.length (fnO G N.length)) := by
  refine Fn.okX Sc (fun vs H Q E ⟨F, ds, _, h, e, _⟩ => by rw [h.len]; exact e) fun cdv A outer s H vs Q E hr ⟨F, ds, hF, h, e, hm⟩ => ⟨_, hbody cdv A outer s H E hr, ⟨F, H, [], []⟩, F, _, rel_start hF h (by omega), ?_⟩
  show AftS K mg (WE0 E) _ _ _ _
  unfold fnO at hm
  cases q : G (envD N.length ds) with
  | none => rw [q] at hm; exact hm
  | some o =>
    rw [q] at hm
    cases o with
    | ro es env' => exact fun v σ F' H' R ex o => by obtain ⟨p, ws, rfl, a1, a2, a3, a4, _⟩ := o; exact hm p ws F' H' R.exit a1 a2 a3 a4
    | er x env' => exact fun σ F' H' cls dx R ex xo => hm F' H' cls dx R.exit xo
    | _ => exact hm.elim
theorem ok_fnB {x qual y : Str} {st : Stmt} {f : Addr} {fd : FuncData} {N ps : List Str} {k : Nat} {G : S} (Fn : Fun K x qual st f fd) (Sc : FnScope N (y :: ps) (defScope st)) (hl : ps.length + 1 ≤ N.length)
    (hbody : ∀ (cdv : Value) (A : Around) (outer : List PySem.Env) (s : Shared) (H : Hp) (E : XK), Room k (A.deeper (PyProof.Rows.envOfC qual (defScope st) s.heap.objs.size f cdv)) →
      SSs (cxOf (L2.CX P w) P w K mg base N qual (defScope st) f cdv A outer s H E) (WE0 E) (defBody st) G) :
    FnOk P w K mg base (L2.CX P w) (k + 1) f fd (y :: ps) (SpB K ps.length (fnB G N.length)) := by
  refine Fn.okX Sc (fun vs H Q E ⟨F, p, ws, st, vs', ds, e, _, _, _, _, h, e2, _⟩ => by rw [e, List.length_cons, List.length_cons, h.len, e2]) fun cdv A outer s H vs Q E hr ⟨F, p, ws, st, vs', ds, e, hF, hp, hH, hst, h, e2, hm⟩ => ?_
  subst e
  refine ⟨_, hbody cdv A outer s H E hr, ⟨F, H, [p], []⟩, F, _, rel_startB hF hp hH hst h (by omega), ?_⟩
  show AftS K mg (WE0 E) _ _ _ _
  unfold fnB at hm
  cases q : G (envB N.length st ds) with
  | none => rw [q] at hm; exact hm
  | some o =>
    rw [q] at hm
    cases o with
    | nx env' =>
      intro σ F' H' R ex
      cases env' with
      | nil => exact hm.elim
      | cons s0 r0 =>
        cases s0 with
        | bor st' => obtain ⟨a1, ws', a2, a3⟩ := lent R; exact hm .non F' H' ws' R.exit a1 a2 a3 .non
        | _ => exact hm.elim
    | rt d env' =>
      intro v σ F' H' R ex dv
      cases env' with
      | nil => exact hm.elim
      | cons s0 r0 =>
        cases s0 with
        | bor st' => obtain ⟨a1, ws', a2, a3⟩ := lent R; exact hm v F' H' ws' R.exit a1 a2 a3 dv
        | _ => exact hm.elim
    | ro es env' =>
      intro v σ F' H' R ex o
      cases env' with
      | nil => exact hm.elim
      | cons s0 r0 =>
        cases s0 with
        | bor st' =>
          obtain ⟨F2, e1, e2, dp, R2⟩ := Exit.freezeO R o
          obtain ⟨a1, ws', a2, a3⟩ := lent R2
          exact hm v F2 H' ws' e1 a1 a2 a3 dp
        | _ => exact hm.elim
    | _ => exact hm.elim
theorem ok_fnBO {x qual y : Str} {st : Stmt} {f : Addr} {fd : FuncData} {N ps : List Str} {k : Nat} {G : S} (Fn : Fun K x qual st f fd) (Sc : FnScope N (y :: ps) (defScope st)) (hl : ps.length + 1 ≤ N.length)
    (hbody : ∀ (cdv : Value) (A : Around) (outer : List PySem.Env) (s : Shared) (H : Hp) (E : XK), Room k (A.deeper (PyProof.Rows.envOfC qual (defScope st) s.heap.objs.size f cdv)) →
      SSs (cxOf (L2.CX P w) P w K mg base N qual (defScope st) f cdv A outer s H E) (WE0 E) (defBody st) G) :
    FnOk P w K mg base (L2.CX P w) (k + 1) f fd (y :: ps) (SpBO K ps.length (fnBO G N.length)) := by
  refine Fn.okX Sc (fun vs H Q E ⟨F, p, ws, st, vs', ds, e, _, _, _, _, h, e2, _⟩ => by rw [e, List.length_cons, List.length_cons, h.len, e2]) fun cdv A outer s H vs Q E hr ⟨F, p, ws, st, vs', ds, e, hF, hp, hH, hst, h, e2, hm⟩ => ?_
  subst e
  refine ⟨_, hbody cdv A outer s H E hr, ⟨F, H, [p], []⟩, F, _, rel_startB hF hp hH hst h (by omega), ?_⟩
  show AftS K mg (WE0 E) _ _ _ _
  unfold fnBO at hm
  cases q : G (envB N.length st ds) with
  | none => rw [q] at hm; exact hm
  | some o =>
    rw [q] at hm
    cases o with
    | ro es env' =>
      intro v σ F' H' R ex o
      cases env' with
      | nil => exact hm.elim
      | cons s0 r0 =>
        cases s0 with
        | bor st' =>
          obtain ⟨a1, ws', a2, a3⟩ := lent R
          obtain ⟨q, us, rfl, b1, b2, b3, b4, _⟩ := o
          exact hm q us F' H' ws' R.exit a1 a2 a3 b1 b2 b3 b4
        | _ => exact hm.elim
    | _ => exact hm.elim
end

/-! ### calls -/
def gLift {α : Type} (r : Rf α) : M α := fun env => match r with
  | none => none
  | some (.ok a) => some (.ok (a, env))
  | some (.error x) => some (.error (x, env))
section
variable {K : PySem.W.Frag} {C : Cn} {F H F' H' : Hp} {σ : St} {env : En}
theorem Rel.call (R : Rel K C F σ H env) (x : Exit F H [] F' H') : Rel K C F' σ H' env := R.grow x.ff x.fh (fun a o q => x.pres a o q (by simp)) x.new x.nt
theorem Rel.callB {i : Nat} {p : Addr} {s : Sl} {ws' : List V} {st' : List PyData} (R : Rel K C F σ H env) (h : env[i]? = some s) (ho : isOwn s = true) (hno : ∀ o, s ≠ .obj o) (hp : σ[i]? = some (some (.ref p)))
    (x : Exit F H [p] F' H') (hF : F' p = none) (hH : H' p = some (.lst ws')) (hd : DpAll K F' ws' st') : Rel K C F' σ H' (env.set i (putS st' s)) := by
  have facts : (C.H p = none ∨ p ∈ C.B) ∧ H p ≠ none := by
    have q := R.sl i s h
    cases s with
    | own es => obtain ⟨p', ws, a1, a2, a3, a4, a5⟩ := q; rw [hp] at a1; cases a1; exact ⟨.inl a3, by rw [a4]; simp⟩
    | bor es => obtain ⟨p', ws, a1, a2, a3, a4, a5⟩ := q; rw [hp] at a1; cases a1; exact ⟨.inr a3, by rw [a4]; simp⟩
    | obj ob => obtain ⟨p', a1, a2, a3, a4⟩ := q; rw [hp] at a1; cases a1; exact ⟨.inl a3, by rw [a4]; simp⟩
    | _ => cases ho
  have kp : ∀ a o, a ≠ p → H a = some o → H' a = some o := fun a o ne q => x.pres a o q (by simpa using ne)
  have nf : ∀ q, H q ≠ none → F q = none → F' q = none := fun q hq hf => by
    cases z : F' q with
    | none => rfl
    | some o => exact absurd (x.new q hf (by rw [z]; simp)) hq
  have hps : isOwn (putS st' s) = true := by cases s <;> first | rfl | cases ho
  exact {
    fh := x.fh
    nt := x.nt
    cf := R.cf.trans x.ff
    new := fun a h1 h2 => by
      by_cases hf : F a = none
      · have hn := x.new a hf h2
        cases q : C.H a with
        | none => rfl
        | some o =>
          by_cases hb : a ∈ C.B
          · exact absurd hn (R.bd a hb).1
          · rw [R.pres a o q hb] at hn; cases hn
      · exact R.new a h1 hf
    pres := fun a o q hb => by
      have ne : a ≠ p := fun e => by
        subst e
        rcases facts.1 with z | z
        · rw [z] at q; cases q
        · exact hb z
      exact kp a o ne (R.pres a o q hb)
    bd := fun b hb => by
      refine ⟨?_, (R.bd b hb).2⟩
      by_cases ne : b = p
      · subst ne; rw [hH]; simp
      · cases q : H b with
        | none => exact absurd q (R.bd b hb).1
        | some o => rw [kp b o ne q]; simp
    sl := fun j s' hj => by
      rcases set_at hj with ⟨rfl, rfl, _⟩ | ⟨ne, hj⟩
      · have q := R.sl j s h
        cases s with
        | own es => obtain ⟨p', ws, a1, a2, a3, a4, a5⟩ := q; rw [hp] at a1; cases a1; exact ⟨p, ws', hp, hF, a3, hH, hd⟩
        | bor es => obtain ⟨p', ws, a1, a2, a3, a4, a5⟩ := q; rw [hp] at a1; cases a1; exact ⟨p, ws', hp, hF, a3, hH, hd⟩
        | obj ob => obtain ⟨p', a1, a2, a3, a4⟩ := q; rw [hp] at a1; cases a1; exact ⟨p, ws', hp, hF, a3, hH, hd⟩
        | _ => cases ho
      · have q := R.sl j s' hj
        have np : ∀ p', isOwn s' = true → σ[j]? = some (some (.ref p')) → p' ≠ p := fun p' o a e => ne (R.dis j i p ⟨s', hj, o, by rw [← e]; exact a⟩ ⟨s, h, ho, hp⟩)
        cases s' with
        | no => trivial
        | val d => obtain ⟨v, a1, a2⟩ := q; exact ⟨v, a1, dp_mono x.ff a2⟩
        | own es => obtain ⟨p', ws, a1, a2, a3, a4, a5⟩ := q; exact ⟨p', ws, a1, nf p' (by rw [a4]; simp) a2, a3, kp p' _ (np p' rfl a1) a4, dps_mono x.ff a5⟩
        | bor es => obtain ⟨p', ws, a1, a2, a3, a4, a5⟩ := q; exact ⟨p', ws, a1, nf p' (by rw [a4]; simp) a2, a3, kp p' _ (np p' rfl a1) a4, dps_mono x.ff a5⟩
        | obj ob => obtain ⟨p', a1, a2, a3, a4⟩ := q; exact ⟨p', a1, nf p' (by rw [a4]; simp) a2, a3, kp p' _ (np p' rfl a1) a4⟩
        | raw v => exact q
        | exc a dd fs => obtain ⟨z1, z2, z3, z4⟩ := q; exact ⟨z1, z2, x.ff _ _ z3, fs_mono x.ff z4⟩
        | tab T => exact q
    dis := fun j k q o1 o2 => by
      have back : ∀ {j : Nat}, Owned σ (env.set i (putS st' s)) j q → Owned σ env j q := fun {j} o => by
        obtain ⟨s1, e1, b1, a1⟩ := o
        rcases set_at e1 with ⟨rfl, rfl, _⟩ | ⟨ne1, e1⟩
        · exact ⟨s, h, ho, a1⟩
        · exact ⟨s1, e1, b1, a1⟩
      exact R.dis j k q (back o1) (back o2)
    len := by rw [List.length_set]; exact R.len
    tb := by
      have q := R.sl i s h
      cases s with
      | own es => obtain ⟨p', ws, a1, a2, a3, a4, a5⟩ := q; rw [hp] at a1; cases a1; exact tabs_lst R.tb a4 kp
      | bor es => obtain ⟨p', ws, a1, a2, a3, a4, a5⟩ := q; rw [hp] at a1; cases a1; exact tabs_lst R.tb a4 kp
      | obj ob => exact absurd rfl (hno ob)
      | _ => cases ho }
end
section
variable {X : Cx} {W : WX} {k : Nat} {f : Addr} {fd : FuncData} {ps : List Str} {x y : Str} {p p1 pos : Pos} {e : Expr} {es : List Expr} {gl : M (List PyData)} {i : Nat}
theorem sv_call {n : Nat} {m : List PyData → Rf PyData} (Fk : FnOk X.prog X.w X.K X.mg X.base (L2.CX X.prog X.w) k f fd ps (SpD X.K X.mg n m)) (hr : Room k X.A) (hm : X.mg x = some (.ref f)) (hk : PySem.W.keepIn X.K (.ref f) = true) (hb : Binds X.K fd ps []) (tk : Takes X W)
    (ha : SA X W (e :: es) gl) (hn : ∀ env ds env', gl env = some (.ok (ds, env')) → ds.length = n) (hg : Gl X x := by rfl) (hdb : (x == ("__debug__" : Str)) = false := by decide) (he : starEach (e :: es) X.env = (false, eval e X.env) :: starEach es X.env := by rfl) (hpl : (backTo pos (starEach es X.env)).any (·.1) = false := by rfl) :
    SV X W (.Call (.Name x p) (e :: es) [] pos) (M.bd gl fun ds => gLift (m ds)) :=
  pe_imp (pe_callS Fk hr hg hm hk hb (fun σ => passAt tk σ) ha hdb he hpl) fun σ H Q ⟨C, F, env, R, h⟩ => by
    refine ⟨C, F, env, R, ?_⟩
    unfold M.bd at h
    cases q : gl env with
    | none => rw [q] at h; exact h
    | some r =>
      rw [q] at h
      cases r with
      | error z => exact h
      | ok z =>
        obtain ⟨ds, env1⟩ := z
        intro vs F1 H1 R1 e1 o1
        refine ⟨F1, ds, ⟨R1.fh, R1.nt⟩, o1, hn _ _ _ q, ?_⟩
        unfold gLift at h
        cases q2 : m ds with
        | none => simp only [q2] at h; exact h
        | some r =>
          simp only [q2] at h
          cases r with
          | ok d => exact fun v F' H' x dv => h v F' H' (R1.call x) (e1.trans x.ff) dv
          | error z => exact fun F' H' cls dx x xo => h F' H' cls dx (R1.call x) (e1.trans x.ff) xo
end
end Pf
/-! part Pf10 -/
set_option Elab.async false
set_option linter.all false
set_option maxRecDepth 100000
set_option maxHeartbeats 2000000
namespace Pf
open PySem PySem.Spec L2 Evl

/-! ### how many -/
def LenA (gl : M (List PyData)) (n : Nat) : Prop := ∀ env ds env', gl env = some (.ok (ds, env')) → ds.length = n
theorem len_nil : LenA (M.ok []) 0 := fun env ds env' h => by cases h; rfl
theorem len_cons {ga : M PyData} {gl : M (List PyData)} {n : Nat} (h : LenA gl n) : LenA (M.bd ga fun d => M.bd gl fun ds => M.ok (d :: ds)) (n + 1) := fun env ds env' q => by
  unfold M.bd at q
  cases e1 : ga env with
  | none => simp only [e1] at q; cases q
  | some r =>
    simp only [e1] at q
    cases r with
    | error z => cases q
    | ok z =>
      obtain ⟨d, env1⟩ := z
      simp only at q
      cases e2 : gl env1 with
      | none => simp only [e2] at q; cases q
      | some r =>
        simp only [e2] at q
        cases r with
        | error z => cases q
        | ok z =>
          obtain ⟨ds', env2⟩ := z
          have e : M.ok (d :: ds') env2 = some (.ok (ds, env')) := q
          cases e
          rw [List.length_cons, h _ _ _ e2]
section
variable {X : Cx} {W : WX} {k : Nat} {f : Addr} {fd : FuncData} {ps : List Str} {x y : Str} {p p0 p1 p2 pos : Pos} {a b e : Expr} {es : List Expr} {ga gb : M PyData} {gl : M (List PyData)} {i : Nat}
theorem so_call {n : Nat} {m : List PyData → Rf (List PyData)} (Fk : FnOk X.prog X.w X.K X.mg X.base (L2.CX X.prog X.w) k f fd ps (SpO X.K X.mg n m)) (hr : Room k X.A) (hm : X.mg x = some (.ref f)) (hk : PySem.W.keepIn X.K (.ref f) = true) (hb : Binds X.K fd ps []) (tk : Takes X W)
    (ha : SA X W (e :: es) gl) (hn : LenA gl n) (hg : Gl X x := by rfl) (hdb : (x == ("__debug__" : Str)) = false := by decide) (he : starEach (e :: es) X.env = (false, eval e X.env) :: starEach es X.env := by rfl) (hpl : (backTo pos (starEach es X.env)).any (·.1) = false := by rfl) :
    SO X W (.Call (.Name x p) (e :: es) [] pos) (M.bd gl fun ds => gLift (m ds)) :=
  pe_imp (pe_callS Fk hr hg hm hk hb (fun σ => passAt tk σ) ha hdb he hpl) fun σ H Q ⟨C, F, env, R, h⟩ => by
    refine ⟨C, F, env, R, ?_⟩
    unfold M.bd at h
    cases q : gl env with
    | none => rw [q] at h; exact h
    | some r =>
      rw [q] at h
      cases r with
      | error z => exact h
      | ok z =>
        obtain ⟨ds, env1⟩ := z
        intro vs F1 H1 R1 e1 o1
        refine ⟨F1, ds, ⟨R1.fh, R1.nt⟩, o1, hn _ _ _ q, ?_⟩
        unfold gLift at h
        cases q2 : m ds with
        | none => simp only [q2] at h; exact h
        | some r =>
          simp only [q2] at h
          cases r with
          | ok d =>
            intro p' ws F' H' x a1 a2 a3 a4
            have R2 := R1.call x
            refine h (.ref p') F' H' R2 (e1.trans x.ff) ⟨p', ws, rfl, a1, (R1.fresh a2).2, a3, a4, fun i ⟨s, b1, b2, b3⟩ => ?_⟩
            have q := R1.sl i s b1
            cases s with
            | own es => obtain ⟨p2, ws2, c1, c2, c3, c4, c5⟩ := q; rw [b3] at c1; cases c1; rw [a2] at c4; cases c4
            | bor es => obtain ⟨p2, ws2, c1, c2, c3, c4, c5⟩ := q; rw [b3] at c1; cases c1; rw [a2] at c4; cases c4
            | obj ob => obtain ⟨p2, c1, c2, c3, c4⟩ := q; rw [b3] at c1; cases c1; rw [a2] at c4; cases c4
            | _ => cases b2
          | error z => exact fun F' H' cls dx x xo => h F' H' cls dx (R1.call x) (e1.trans x.ff) xo
/-- a call that is lent slot i's list -/
def gCallB {α : Type} (i : Nat) (gl : M (List PyData)) (m : List PyData → List PyData → Rf (α × List PyData)) : M α := M.bd (gHeld i) fun _ => M.bd gl fun ds => M.bd (gHeld i) fun st => match m st ds with
  | some (.ok (d, st')) => M.bd (gPut i st') fun _ => M.ok d
  | _ => M.no
theorem sv_callB' {n : Nat} {m : List PyData → List PyData → Rf (PyData × List PyData)} (i : Nat) (Fk : FnOk X.prog X.w X.K X.mg X.base (L2.CX X.prog X.w) k f fd ps (SpB X.K n m)) (hr : Room k X.A) (hm : X.mg x = some (.ref f)) (hk : PySem.W.keepIn X.K (.ref f) = true) (hb : Binds X.K fd ps []) (tk : Takes X W)
    (ha : SA X W es gl) (hn : LenA gl n) (hg : Gl X x := by rfl) (hN : X.N[i]? = some y := by rfl) (hv : Vis X.env.scope y := by first | exact Or.inl rfl | exact Or.inr (Or.inl rfl) | exact Or.inr (Or.inr rfl))
    (hd : (y == ("__debug__" : Str)) = false := by decide) (hcd : (y == ("__classdict__" : Str)) = false := by decide) (hdb : (x == ("__debug__" : Str)) = false := by decide)
    (he : starEach (.Name y p1 :: es) X.env = (false, eval (.Name y p1) X.env) :: starEach es X.env := by rfl) (hpl : (backTo pos (starEach es X.env)).any (·.1) = false := by rfl) :
    SV X W (.Call (.Name x p) (.Name y p1 :: es) [] pos) (gCallB i gl m) :=
  pe_imp (pe_callS Fk hr hg hm hk hb (fun σ => passAt tk σ) (pa_cons (pe_var hN hv hd hcd) ha he) hdb he hpl) fun σ H Q ⟨C, F, env, R, h⟩ => by
    obtain ⟨_, p, _, _, _, _, a1, _, _, h2⟩ := bd_held R h
    refine ⟨.ref p, a1, ?_⟩
    refine ⟨C, F, env, R, ?_⟩
    unfold M.bd at h2
    cases q : gl env with
    | none => rw [q] at h2; exact h2
    | some r =>
      rw [q] at h2
      cases r with
      | error z => exact h2
      | ok z =>
        obtain ⟨ds, env1⟩ := z
        intro vs F1 H1 R1 e1 o1
        obtain ⟨st, p', ws, s, b0, bo, b1, b2, b3, h3⟩ := bd_held R1 (After.up h2 e1)
        rw [a1] at b1
        cases b1
        have hF : F1 p = none := by
          have t := R1.sl i s b0
          cases s with
          | own es => obtain ⟨p2, ws2, c1, c2, _⟩ := t; rw [a1] at c1; cases c1; exact c2
          | bor es => obtain ⟨p2, ws2, c1, c2, _⟩ := t; rw [a1] at c1; cases c1; exact c2
          | obj ob => obtain ⟨p2, c1, c2, _⟩ := t; rw [a1] at c1; cases c1; exact c2
          | _ => cases bo.1
        refine ⟨F1, p, ws, st, vs, ds, rfl, ⟨R1.fh, R1.nt⟩, hF, b2, b3, o1, hn _ _ _ q, ?_⟩
        cases q2 : m st ds with
        | none => simp only [q2] at h3; exact h3
        | some r =>
          simp only [q2] at h3
          cases r with
          | error z => exact h3
          | ok z =>
            obtain ⟨d, st'⟩ := z
            intro v F' H' ws' x c1 c2 c3 dv
            exact aft' (ok := okV X.K) (put_bd b0 h3) (R1.callB b0 bo.1 bo.2 a1 x c1 c2 c3) x.ff dv
theorem so_callB' {n : Nat} {m : List PyData → List PyData → Rf (List PyData × List PyData)} (i : Nat) (Fk : FnOk X.prog X.w X.K X.mg X.base (L2.CX X.prog X.w) k f fd ps (SpBO X.K n m)) (hr : Room k X.A) (hm : X.mg x = some (.ref f)) (hk : PySem.W.keepIn X.K (.ref f) = true) (hb : Binds X.K fd ps []) (tk : Takes X W)
    (ha : SA X W es gl) (hn : LenA gl n) (hg : Gl X x := by rfl) (hN : X.N[i]? = some y := by rfl) (hv : Vis X.env.scope y := by first | exact Or.inl rfl | exact Or.inr (Or.inl rfl) | exact Or.inr (Or.inr rfl))
    (hd : (y == ("__debug__" : Str)) = false := by decide) (hcd : (y == ("__classdict__" : Str)) = false := by decide) (hdb : (x == ("__debug__" : Str)) = false := by decide)
    (he : starEach (.Name y p1 :: es) X.env = (false, eval (.Name y p1) X.env) :: starEach es X.env := by rfl) (hpl : (backTo pos (starEach es X.env)).any (·.1) = false := by rfl) :
    SO X W (.Call (.Name x p) (.Name y p1 :: es) [] pos) (gCallB i gl m) :=
  pe_imp (pe_callS Fk hr hg hm hk hb (fun σ => passAt tk σ) (pa_cons (pe_var hN hv hd hcd) ha he) hdb he hpl) fun σ H Q ⟨C, F, env, R, h⟩ => by
    obtain ⟨_, p, _, _, _, _, a1, _, _, h2⟩ := bd_held R h
    refine ⟨.ref p, a1, ?_⟩
    refine ⟨C, F, env, R, ?_⟩
    unfold M.bd at h2
    cases q : gl env with
    | none => rw [q] at h2; exact h2
    | some r =>
      rw [q] at h2
      cases r with
      | error z => exact h2
      | ok z =>
        obtain ⟨ds, env1⟩ := z
        intro vs F1 H1 R1 e1 o1
        obtain ⟨st, p', ws, s, b0, bo, b1, b2, b3, h3⟩ := bd_held R1 (After.up h2 e1)
        rw [a1] at b1
        cases b1
        have hF : F1 p = none := by
          have t := R1.sl i s b0
          cases s with
          | own es => obtain ⟨p2, ws2, c1, c2, _⟩ := t; rw [a1] at c1; cases c1; exact c2
          | bor es => obtain ⟨p2, ws2, c1, c2, _⟩ := t; rw [a1] at c1; cases c1; exact c2
          | obj ob => obtain ⟨p2, c1, c2, _⟩ := t; rw [a1] at c1; cases c1; exact c2
          | _ => cases bo.1
        refine ⟨F1, p, ws, st, vs, ds, rfl, ⟨R1.fh, R1.nt⟩, hF, b2, b3, o1, hn _ _ _ q, ?_⟩
        cases q2 : m st ds with
        | none => simp only [q2] at h3; exact h3
        | some r =>
          simp only [q2] at h3
          cases r with
          | error z => exact h3
          | ok z =>
            obtain ⟨d, st'⟩ := z
            intro q us F' H' ws' x c1 c2 c3 d1 d2 d3 d4
            have R2 := R1.callB b0 bo.1 bo.2 a1 x c1 c2 c3
            refine aft' (ok := okO X.K) (put_bd b0 h3) R2 x.ff ⟨q, us, rfl, d1, (R1.fresh d2).2, d3, d4, fun j ⟨s', g1, g2, g3⟩ => ?_⟩
            have t : Owned σ env1 j q := by
              rcases set_at g1 with ⟨rfl, rfl, _⟩ | ⟨ne, g1⟩
              · exact ⟨s, b0, bo.1, g3⟩
              · exact ⟨s', g1, g2, g3⟩
            obtain ⟨s2, g1, g2, g3⟩ := t
            have t := R1.sl j s2 g1
            cases s2 with
            | own es => obtain ⟨p2, ws2, c1, c2, c3, c4, c5⟩ := t; rw [g3] at c1; cases c1; rw [d2] at c4; cases c4
            | bor es => obtain ⟨p2, ws2, c1, c2, c3, c4, c5⟩ := t; rw [g3] at c1; cases c1; rw [d2] at c4; cases c4
            | obj ob => obtain ⟨p2, c1, c2, c3, c4⟩ := t; rw [g3] at c1; cases c1; rw [d2] at c4; cases c4
            | _ => cases g2

/-! ### isinstance of built-in types -/
def isaT (a b : String) : Bool := a == b || (a == "bool" && b == "int")
def isTy (d : PyData) (b : String) : Option Bool := match d with
  | .dict _ => none
  | d => some (isaT (tyD d) b)
theorem tyx_of {K : PySem.W.Frag} {H : Hp} {v : V} {d : PyData} (h : Dp K H v d) (hd : ∀ kvs, d ≠ .dict kvs) : TyX K H v (.type (tyD d)) := by
  cases h with
  | non => exact .base .non
  | bl b => exact .base (.bl b)
  | int i => exact .base (.int i)
  | str x => exact .base (.str x)
  | lst s r =>
    rcases s with (s | ⟨o, s⟩) | ⟨o, its, n, s, c, _⟩
    · exact .base (.lst s)
    · exact .base (.frz s)
    · exact .kList s c
  | tup s r =>
    rcases s with (s | ⟨o, s⟩) | ⟨o, its, n, s, c, _⟩
    · exact .base (.tup s)
    · exact .fTuple s
    · exact .kTuple s c
/-- the types that a law asks for -/
def tyNames : List String := ["int", "bool", "str", "list", "tuple"]
theorem kit_tys : ∀ a ∈ ["NoneType", "bool", "int", "str", "list", "tuple"], ∀ b ∈ tyNames, kitB a b = some (isaT a b) := by decide +kernel
theorem tyD_mem {d : PyData} (hd : ∀ kvs, d ≠ .dict kvs) : tyD d ∈ ["NoneType", "bool", "int", "str", "list", "tuple"] := by
  cases d <;> first | (simp [tyD]; done) | exact absurd rfl (hd _)
theorem is_ty {K : PySem.W.Frag} {d : PyData} {b : String} {r : Bool} (hb : b ∈ tyNames) (h : isTy d b = some r) : (∀ kvs, d ≠ .dict kvs) ∧ PySem.W.kitOne K (.type (tyD d)) (.type b) = some r := by
  have hd : ∀ kvs, d ≠ .dict kvs := fun kvs e => by subst e; cases h
  refine ⟨hd, kit_ty ?_⟩
  rw [kit_tys _ (tyD_mem hd) b hb]
  unfold isTy at h
  split at h
  · exact absurd rfl (hd _)
  · exact h
theorem sv_isa {T : Str} {b : String} (hg : Gl X "isinstance") (hm : X.mg "isinstance" = none) (hT : Gl X T) (hmT : X.mg T = none) (hv : bootBuiltins T = some (.type b)) (hb : b ∈ tyNames) (ha : SV X W a ga) (hn : T ≠ "__name__" := by decide) (hdT : (T == ("__debug__" : Str)) = false := by decide)
    (hs1 : starEach [.Name T p1] X.env = (false, eval (.Name T p1) X.env) :: starEach [] X.env := by rfl) (hs : starEach [a, .Name T p1] X.env = (false, eval a X.env) :: starEach [.Name T p1] X.env := by rfl) (hpl : (backTo pos (starEach [.Name T p1] X.env)).any (·.1) = false := by rfl) :
    SV X W (.Call (.Name "isinstance" p) [a, .Name T p1] [] pos) (M.bd ga fun d => M.opt ((isTy d b).map .bool)) :=
  pe_imp (pe_callB call_isi hg hm PyProof.Rows.boot_isinstance (pa_cons ha (pa_cons (pe_bltn (v := .ty b) hT hmT hv rfl hn hdT) pa_nil hs1) hs) (by decide) (by decide) hs hpl) fun σ H Q ⟨C, F, env, R, h⟩ => tG_bd R h fun d env1 v F1 H1 R1 e1 o1 h1 => by
    obtain ⟨z, hz, h2⟩ := h1.of_opt
    cases hi : isTy d b with
    | none => rw [hi] at hz; cases hz
    | some r =>
      rw [hi] at hz
      cases hz
      obtain ⟨hd, hk⟩ := is_ty (K := X.K) hb hi
      exact ⟨v, .ty b, _, _, r, rfl, .ty b, tyx_of (dp_mono R1.fh o1) hd, hk, aft (ok := okV X.K) h2 R1 (.bl r)⟩
/-- isinstance(x, (S, T)) -/
theorem sv_isa2 {S T : Str} {b c : String} {x1 : Bool} {kk} (hg : Gl X "isinstance") (hm : X.mg "isinstance" = none) (hS : Gl X S) (hmS : X.mg S = none) (hvS : bootBuiltins S = some (.type b)) (hb : b ∈ tyNames) (hT : Gl X T) (hmT : X.mg T = none) (hv : bootBuiltins T = some (.type c)) (hc : c ∈ tyNames) (ha : SV X W a ga)
    (hnS : S ≠ "__name__" := by decide) (hdS : (S == ("__debug__" : Str)) = false := by decide) (hn : T ≠ "__name__" := by decide) (hdT : (T == ("__debug__" : Str)) = false := by decide)
    (hs2 : starEach [.Name T p2] X.env = (false, eval (.Name T p2) X.env) :: starEach [] X.env := by rfl) (hs1 : starEach [.Name S p1, .Name T p2] X.env = (false, eval (.Name S p1) X.env) :: starEach [.Name T p2] X.env := by rfl)
    (hs0 : starEach [.Tuple [.Name S p1, .Name T p2] kk p0] X.env = (false, eval (.Tuple [.Name S p1, .Name T p2] kk p0) X.env) :: starEach [] X.env := by rfl)
    (hs : starEach [a, .Tuple [.Name S p1, .Name T p2] kk p0] X.env = (false, eval a X.env) :: starEach [.Tuple [.Name S p1, .Name T p2] kk p0] X.env := by rfl) (hpl : (backTo pos (starEach [.Tuple [.Name S p1, .Name T p2] kk p0] X.env)).any (·.1) = false := by rfl) :
    SV X W (.Call (.Name "isinstance" p) [a, .Tuple [.Name S p1, .Name T p2] kk p0] [] pos) (M.bd ga fun d => M.opt (match isTy d b, isTy d c with
      | some r, some r' => some (.bool (r || r'))
      | _, _ => none)) :=
  pe_imp (pe_callB call_isiT hg hm PyProof.Rows.boot_isinstance (pa_cons ha (pa_cons (pe_tup (pa_cons (pe_bltn (v := .ty b) hS hmS hvS rfl hnS hdS) (pa_cons (pe_bltn (v := .ty c) hT hmT hv rfl hn hdT) pa_nil hs2) hs1)) pa_nil hs0) hs) (by decide) (by decide) hs hpl) fun σ H Q ⟨C, F, env, R, h⟩ => tG_bd R h fun d env1 v F1 H1 R1 e1 o1 h1 => by
    obtain ⟨z, hz, h2⟩ := h1.of_opt
    cases hi : isTy d b with
    | none => rw [hi] at hz; cases hz
    | some r =>
      cases hi2 : isTy d c with
      | none => rw [hi, hi2] at hz; cases hz
      | some r' =>
        rw [hi, hi2] at hz
        cases hz
        obtain ⟨hd, hk⟩ := is_ty (K := X.K) hb hi
        obtain ⟨_, hk2⟩ := is_ty (K := X.K) hc hi2
        refine ⟨by show 2 ≤ sizeLine; decide, fun t ht => ?_⟩
        have hf := (R1.fresh ht).1
        have R2 := R1.newF (o := .tup [.ty b, .ty c]) ht
        refine ⟨v, t, _, _, [.type b, .type c], r || r', rfl, upd_same, .cons (.ty b) (.cons (.ty c) .nil), tyx_of (dp_mono R2.fh (dp_mono (Ex.new hf) o1)) hd, ?_, aft' (ok := okV X.K) h2 R2 (Ex.new hf) (.bl _)⟩
        refine kitAny_cons hk (fun e => ?_) (fun e => by rw [e]; rfl)
        subst e
        exact kitAny_cons hk2 (fun e => by subst e; exact kitAny_nil) (fun e => by rw [e]; rfl)

/-! ### lists -/
/-- list(range(n)) -/
theorem so_listR (hc : X.calm = true) (hg : Gl X "list") (hm : X.mg "list" = none) (hg2 : Gl X "range") (hm2 : X.mg "range" = none) (ha : SV X W a ga) (na : starEach [a] X.env = (false, eval a X.env) :: starEach [] X.env := by rfl)
    (nb : starEach [.Call (.Name "range" p1) [a] [] p2] X.env = (false, eval (.Call (.Name "range" p1) [a] [] p2) X.env) :: starEach [] X.env := by rfl) :
    SO X W (.Call (.Name "list" p) [.Call (.Name "range" p1) [a] [] p2] [] pos) (M.bd ga fun d => M.opt (match d with
      | .int n => if 0 ≤ n ∧ n ≤ 16777216 then some (rngD 0 n.toNat) else none
      | _ => none)) :=
  pe_imp (pe_listRg hc hg hm (prg_1 hg2 hm2 ha na) nb) fun σ H Q ⟨C, F, env, R, h⟩ => tG_bd R h fun d env1 v F1 H1 R1 e1 o1 h1 => by
    obtain ⟨z, hz, h2⟩ := h1.of_opt
    cases o1 with
    | int n =>
      simp only at hz
      split at hz
      · rename_i hn
        cases hz
        refine ⟨n, rfl, RgOk.of_le (Int.le_refl _) hn.2 (by omega) hn.1, fun q hq => aft' (ok := okO X.K) h2 (R1.newH hq) (Ex.refl _) (okO_new R1 hq ?_)⟩
        unfold rgV rngD
        rw [Int.sub_zero]
        have key : ∀ l : List Nat, DpAll X.K F1 (l.map fun i => V.int (0 + (i : Nat))) (l.map fun (i : Nat) => PyData.int (0 + (i : Int))) := fun l => by
          induction l with
          | nil => exact .nil
          | cons a r ih => exact .cons (.int _) ih
        exact key _
      · cases hz
    | _ => cases hz
/-- a list times a number -/
theorem so_rep {gl : M (List PyData)} (ha : SO X W a gl) (hb : SV X W b gb) : SO X W (.BinOp a .Mult b pos) (M.bd gl fun ds => M.bd gb fun e => M.opt (match e with
    | .int k => if -(2 ^ 63) ≤ k ∧ k < 2 ^ 63 ∧ ds.length * k.toNat ≤ 16777216 then some (List.replicate k.toNat ds).flatten else none
    | _ => none)) :=
  pe_imp (pe_op op_rep ha hb) fun σ H Q ⟨C, F, env, R, h⟩ => tG_bd R h fun ds env1 v F1 H1 R1 e1 o1 h1 => by
    obtain ⟨p, vs, rfl, a1, a2, a3, a4, a5⟩ := o1
    refine tG_bd' (R1.guard a1 a2 a3 a5) (fun F' H' env' r => Rel.unguard R1 a2 r) h1 fun e env2 w F2 H2 R2 e2 o2 h2 => ?_
    obtain ⟨z, hz, h3⟩ := h2.of_opt
    cases o2 with
    | int k =>
      simp only at hz
      split at hz
      · rename_i hk
        cases hz
        have hH : H2 p = some (.lst vs) := R2.guarded (fun b hb => (R1.bd b hb).2.2) a2
        have R3 := Rel.unguard R1 a2 R2
        refine ⟨p, k, vs, rfl, rfl, hH, hk.1, hk.2.1, by rw [a4.len, sizeLine_eq]; exact hk.2.2, fun q hq => aft' (ok := okO X.K) h3 (R3.newH hq) (Ex.refl _) (okO_new R3 hq ?_)⟩
        have key : ∀ n : Nat, DpAll X.K F2 (List.replicate n vs).flatten (List.replicate n ds).flatten := fun n => by
          induction n with
          | zero => exact .nil
          | succ n ih =>
            rw [List.replicate_succ, List.replicate_succ, List.flatten_cons, List.flatten_cons]
            exact (dps_mono e2 a4).app ih
        exact key _
      · cases hz
    | _ => cases hz
/-- list + list -/
theorem so_cat {gl gl' : M (List PyData)} (ha : SO X W a gl) (hb : SO X W b gl') : SO X W (.BinOp a .Add b pos) (M.bd gl fun ds => M.bd gl' fun es => M.opt (if ds.length + es.length ≤ 16777216 then some (ds ++ es) else none)) :=
  pe_imp (pe_op op_cat ha hb) fun σ H Q ⟨C, F, env, R, h⟩ => tG_bd R h fun ds env1 v F1 H1 R1 e1 o1 h1 => by
    obtain ⟨p, vs, rfl, a1, a2, a3, a4, a5⟩ := o1
    refine tG_bd' (R1.guard a1 a2 a3 a5) (fun F' H' env' r => Rel.unguard R1 a2 r) h1 fun e env2 w F2 H2 R2 e2 o2 h2 => ?_
    obtain ⟨z, hz, h3⟩ := h2.of_opt
    obtain ⟨q, ws, rfl, b1, b2, b3, b4, b5⟩ := o2
    split at hz
    · rename_i hl
      cases hz
      have hH : H2 p = some (.lst vs) := R2.guarded (fun b hb => (R1.bd b hb).2.2) a2
      have R3 := Rel.unguard R1 a2 R2
      have a4' := dps_mono e2 a4
      exact ⟨p, q, vs, ws, rfl, rfl, hH, b3, by rw [a4.len, b4.len, sizeLine_eq]; exact hl, fun r hr => aft' (ok := okO X.K) h3 (R3.newH hr) (Ex.refl _) (okO_new R3 hr (a4'.app b4))⟩
    · cases hz
/-! ### slices -/
def gPart (o : Option (M PyData)) : M (Option Int) := match o with
  | none => M.ok none
  | some g => M.bd g fun d => match d with
    | .int i => M.ok (some i)
    | _ => M.no
def okI : OkR (Option Int) (Option Int) := fun _ _ _ _ _ a b => b = a
abbrev SPo (X : Cx) (W : WX) (e : Option Expr) (g : M (Option Int)) : Prop := PO X e (tG X.K X.mg okI W g)
theorem po_imp {o : Option Expr} {t t' : TO} (h : PO X o t) (k : ∀ σ H Q, t' σ H Q → t σ H Q) : PO X o t' := ⟨fun pins s σ H Q I q => h.run pins s σ H Q I (k σ H Q q)⟩
end
end Pf
/-! part Pf11 -/
set_option Elab.async false
set_option linter.all false
set_option maxRecDepth 100000
set_option maxHeartbeats 2000000
namespace Pf
open PySem PySem.Spec L2 Evl
/-! ### names for what is made of parts -/
abbrev gBin (f : PyData → PyData → Option PyData) (ga gb : M PyData) : M PyData := M.bd ga fun d => M.bd gb fun e => M.opt (f d e)
abbrev gUn (f : PyData → Option PyData) (ga : M PyData) : M PyData := M.bd ga fun d => M.opt (f d)
abbrev gCmp (f : PyData → PyData → Option Bool) (ga gb : M PyData) : M PyData := M.bd ga fun d => M.bd gb fun e => M.opt ((f d e).map .bool)
abbrev gTst (f : PyData → PyData → Option Bool) (ga gb : M PyData) : M Bool := M.bd ga fun d => M.bd gb fun e => M.opt (f d e)
abbrev gTru (ga : M PyData) : M Bool := M.bd ga fun d => M.opt (truD d)
abbrev gNotT (gt : M Bool) : M Bool := M.bd gt fun b => M.ok (!b)
abbrev gNot (ga : M PyData) : M PyData := M.bd ga fun d => M.opt ((truD d).map fun b => .bool (!b))
abbrev gNil : M (List PyData) := M.ok []
abbrev gCons (ga : M PyData) (gl : M (List PyData)) : M (List PyData) := M.bd ga fun d => M.bd gl fun ds => M.ok (d :: ds)
abbrev gTup (gl : M (List PyData)) : M PyData := M.bd gl fun ds => M.opt (tupD ds)
abbrev gLst (gl : M (List PyData)) : M (List PyData) := M.bd gl fun ds => M.opt (lstD ds)
abbrev gFz (gl : M (List PyData)) : M PyData := M.bd gl fun ds => M.ok (.list ds)
abbrev gIsa (b : String) (ga : M PyData) : M PyData := M.bd ga fun d => M.opt ((isTy d b).map .bool)
abbrev gIsa2 (b c : String) (ga : M PyData) : M PyData := M.bd ga fun d => M.opt (match isTy d b, isTy d c with
  | some r, some r' => some (.bool (r || r'))
  | _, _ => none)
abbrev gBlt (k : List PyData → Option PyData) (gl : M (List PyData)) : M PyData := M.bd gl fun ds => M.opt (k ds)
abbrev gCall {α : Type} (m : List PyData → Rf α) (gl : M (List PyData)) : M α := M.bd gl fun ds => gLift (m ds)
abbrev gList (ga : M PyData) : M (List PyData) := M.bd ga fun d => M.opt (seqD d)
def rngN (d : PyData) : Option (List PyData) := match d with
  | .int n => if 0 ≤ n ∧ n ≤ 16777216 then some (rngD 0 n.toNat) else none
  | _ => none
def repD (ds : List PyData) (e : PyData) : Option (List PyData) := match e with
  | .int k => if -(2 ^ 63) ≤ k ∧ k < 2 ^ 63 ∧ ds.length * k.toNat ≤ 16777216 then some (List.replicate k.toNat ds).flatten else none
  | _ => none
abbrev gListR (ga : M PyData) : M (List PyData) := M.bd ga fun d => M.opt (rngN d)
abbrev gRep (gl : M (List PyData)) (gb : M PyData) : M (List PyData) := M.bd gl fun ds => M.bd gb fun e => M.opt (repD ds e)
abbrev gCat (gl gl' : M (List PyData)) : M (List PyData) := M.bd gl fun ds => M.bd gl' fun es => M.opt (if ds.length + es.length ≤ 16777216 then some (ds ++ es) else none)
abbrev gLcT (vs : List Nat) (j : Nat) (gt : M Bool) (ge : M PyData) (ga : M PyData) : M (List PyData) := M.bd ga fun d => M.bd (M.opt (tupO d)) fun ds => gLc vs (bN j) gt ge ds
abbrev gLcL (vs : List Nat) (j : Nat) (gt : M Bool) (ge : M PyData) (ga : M PyData) : M (List PyData) := M.bd ga fun d => M.bd (M.opt (lstO d)) fun ds => gLc vs (bN j) gt ge ds
abbrev gLcR (vs : List Nat) (j : Nat) (gt : M Bool) (ge : M PyData) (ga : M PyData) : M (List PyData) := M.bd ga fun d => M.bd (M.opt (rngO d)) fun ds => gLc vs (bN j) gt ge ds
def lenK (ds : List PyData) : Option PyData := match ds with
  | [d] => lenD d
  | _ => none
def tupK (ds : List PyData) : Option PyData := match ds with
  | [d] => (seqD d).map .tuple
  | _ => none
abbrev gSet (i : Nat) (ga : M PyData) : S := gE ga (gSt i)
abbrev gSetO (i : Nat) (ga : M (List PyData)) : S := gE ga (gStO i)
abbrev gAsg (b : PyData → En → Option En) (ga : M PyData) : S := gE ga (gAs b)
abbrev gRet (ga : M PyData) : S := gE ga gRt
abbrev gRetO (ga : M (List PyData)) : S := gE ga gRo
abbrev gEx {α : Type} (ga : M α) : S := gE ga fun _ => gNx
section
variable {X : Cx} {W : WX} {a b c e elt iter a1 : Expr} {es rest : List Expr} {ga gb gc : M PyData} {gl : M (List PyData)} {gt : M Bool} {ge : M PyData} {pos spos p p0 p1 p2 py : Pos} {x y : Str} {i j : Nat} {ifs : List Expr} {scope : Scope} {own : List (Str × Nat)}
theorem sv_len (hg : Gl X "len") (hm : X.mg "len" = none) (ha : SA X W (e :: es) gl) (he : starEach (e :: es) X.env = (false, eval e X.env) :: starEach es X.env := by rfl) (hpl : (backTo pos (starEach es X.env)).any (·.1) = false := by rfl) :
    SV X W (.Call (.Name "len" p2) (e :: es) [] pos) (gBlt lenK gl) := sv_callB cd_len hg hm PySem.boot_len ha (by decide) (by decide) he hpl
theorem sv_tupleOf (hg : Gl X "tuple") (hm : X.mg "tuple" = none) (ha : SA X W (e :: es) gl) (he : starEach (e :: es) X.env = (false, eval e X.env) :: starEach es X.env := by rfl) (hpl : (backTo pos (starEach es X.env)).any (·.1) = false := by rfl) :
    SV X W (.Call (.Name "tuple" p2) (e :: es) [] pos) (gBlt tupK gl) := sv_callT cd_tuple hg hm (by decide +kernel) ha (by decide) (by decide) he hpl
def gChainT (ga gb gc : M PyData) (f f' : PyData → PyData → Option Bool) : M Bool := M.bd ga fun d => M.bd gb fun e => M.bd (M.opt (f d e)) fun k =>
  if k = true then M.bd gc fun z => M.opt (f' e z) else M.ok false
theorem st_chain {op op' : CmpOp} {f f' : PyData → PyData → Option Bool} (h1 : CmpR X op f) (h2 : CmpR X op' f') (ha : SV X W a ga) (hb : SV X W b gb) (hc : SV X W c gc)
    (hm : lastMarks [op, op'] [b, c] = false := by with_unfolding_all rfl) : ST X W (.Compare a [op, op'] [b, c] pos) (gChainT ga gb gc f f') := by
  obtain ⟨r, ho, hr⟩ := h1
  obtain ⟨r', ho', hr'⟩ := h2
  refine pt_imp (pt_chain ho ho' ha hb hc hm) fun σ H Q ⟨C, F, env, R, h⟩ => ?_
  refine tG_bd R h fun d env1 v F1 H1 R1 e1 o1 h1 => tG_bd R1 h1 fun e env2 w F2 H2 R2 e2 o2 h2 => ?_
  obtain ⟨k, hk, h2⟩ := bd_opt h2
  refine hr C F2 σ H2 env2 v w d e k _ R2 (dp_mono e2 o1) o2 hk ⟨k, rfl, ?_⟩
  cases k with
  | false => exact ⟨false, rfl, aft (ok := okB) h2 R2 rfl⟩
  | true =>
    refine tG_bd R2 h2 fun z env3 x F3 H3 R3 e3 o3 h3 => ?_
    obtain ⟨q, hq, h4⟩ := h3.of_opt
    exact hr' C F3 σ H3 env3 w x e z q _ R3 (dp_mono e3 o2) o3 hq ⟨q, rfl, aft (ok := okB) h4 R3 rfl⟩
/-- name = a comprehension on one line -/
theorem ss_setLcT (hc : X.calm = true) (hN : X.N.Nodup) (hy : X.N[i]? = some y) (hyl : X.env.scope.names.lookup y = some .local)
    (hsw : swapsWith (.ListComp elt [⟨.Name x p1, iter, ifs, 0⟩] scope pos) (some (.Name y py)) spos.line X.env = pure true) (hi : SV X W iter ga) (ok : BlkOk X.N X.env.scope scope own) (hj : j ∈ own.map (·.2))
    (hg : ∀ (s : Shared) (H : Hp) (C : Addr) (cl : List (Str × Addr)) (fp : List Addr), PG (X.blk s H scope (compEnvC scope cl C X.env) fp) (.Name x p1) (gName j)) (ht : ∀ (s : Shared) (H : Hp) (C : Addr) (cl : List (Str × Addr)) (fp : List Addr), STs (X.blk s H scope (compEnvC scope cl C X.env) fp) W0 ifs gt)
    (he : ∀ (s : Shared) (H : Hp) (C : Addr) (cl : List (Str × Addr)) (fp : List Addr), SV (X.blk s H scope (compEnvC scope cl C X.env) fp) W0 elt ge) (hs : ∀ x, foldedSetIterable iter X.env x = pure x := by intro _; rfl) :
    SS X W (.Assign [.Name y py] (.ListComp elt [⟨.Name x p1, iter, ifs, 0⟩] scope pos) spos) (gSetO i (gLcT (own.map (·.2)) j gt ge ga)) :=
  ps_imp (ps_setLc (tt := tG X.K X.mg okB W0 gt) (te := tG X.K X.mg (okV X.K) W0 ge) hc hN hy hyl hsw (pi_tup hi) ok hg ht he hs) fun D σ H ⟨C, F, env, R, h⟩ => by
    have h : AftS X.K X.mg W C F (gE ga (fun d => gE (M.bd (M.opt (tupO d)) fun ds => gLc (own.map (·.2)) (bN j) gt ge ds) (gStO i)) env) D := by
      have e : gSetO i (gLcT (own.map (·.2)) j gt ge ga) env = gE ga (fun d => gE (M.bd (M.opt (tupO d)) fun ds => gLc (own.map (·.2)) (bN j) gt ge ds) (gStO i)) env := by
        simp only [gSetO, gE, M.bd]
        cases ga env with
        | none => rfl
        | some r => cases r <;> rfl
      rw [← e]; exact h
    refine tE_bd R h fun d env1 v F1 H1 R1 e1 o1 h1 => ?_
    have h1 : AftS X.K X.mg W C F1 (gE (M.bd (M.opt (tupO d)) fun ds => gLc (own.map (·.2)) (bN j) gt ge ds) (gStO i) env1) D := h1
    cases o1 with
    | @tup a xs ds s r =>
      have h2 : AftS X.K X.mg W C F1 (gE (gLc (own.map (·.2)) (bN j) gt ge ds) (gStO i) env1) D := h1
      unfold gE gLc at h2
      cases hl : loopC (own.map (·.2)) (bN j) gt ge ds [] (wipeE (own.map (·.2)) env1) with
      | none => rw [hl] at h2; exact h2.elim
      | some out =>
        rw [hl] at h2
        refine ⟨a, rfl, ⟨xs, ex_t R1.fh s⟩, fun Da hD => lc_tup (xs := xs) (fun i => BtwC X.K C F1 σ (own.map (·.2)) (bN j) gt ge Da out (ds.drop i)) (btw_start R1 hD hl) (fun i H _ ⟨F, env, accV, acc, R, ex, _⟩ => ex_t (ex.trans R.fh) s) (fun i x H hx hB => ?_) (fun H hB => ?_)⟩
        · obtain ⟨d, hd, dd⟩ := DpAll_at r hx
          rw [drop_at hd] at hB
          exact btw_turn (mg := X.mg) R1 hD hj rfl dd hB
        · rw [List.drop_eq_nil_of_le (Nat.le_of_eq r.len.symm)] at hB
          obtain ⟨F2, R2, ex2, o2⟩ := btw_end R1 hD hB
          exact h2 _ F2 H (R2.storeO i o2) ex2
    | _ => exact h1.elim
theorem ss_setLcR (hc : X.calm = true) (hN : X.N.Nodup) (hy : X.N[i]? = some y) (hyl : X.env.scope.names.lookup y = some .local)
    (hsw : swapsWith (.ListComp elt [⟨.Name x p1, .Call (.Name "range" p0) [a1] [] p2, ifs, 0⟩] scope pos) (some (.Name y py)) spos.line X.env = pure true) (hgl : Gl X "range") (hm : X.mg "range" = none) (hi : SV X W a1 ga) (ok : BlkOk X.N X.env.scope scope own) (hj : j ∈ own.map (·.2))
    (hg : ∀ (s : Shared) (H : Hp) (C : Addr) (cl : List (Str × Addr)) (fp : List Addr), PG (X.blk s H scope (compEnvC scope cl C X.env) fp) (.Name x p1) (gName j)) (ht : ∀ (s : Shared) (H : Hp) (C : Addr) (cl : List (Str × Addr)) (fp : List Addr), STs (X.blk s H scope (compEnvC scope cl C X.env) fp) W0 ifs gt)
    (he : ∀ (s : Shared) (H : Hp) (C : Addr) (cl : List (Str × Addr)) (fp : List Addr), SV (X.blk s H scope (compEnvC scope cl C X.env) fp) W0 elt ge)
    (h1 : starEach [a1] X.env = [(false, eval a1 X.env)] := by rfl) (h2 : starEach [a1] X.env = (false, eval a1 X.env) :: starEach [] X.env := by rfl) (hs : ∀ x, foldedSetIterable (.Call (.Name "range" p0) [a1] [] p2) X.env x = pure x := by intro _; rfl) :
    SS X W (.Assign [.Name y py] (.ListComp elt [⟨.Name x p1, .Call (.Name "range" p0) [a1] [] p2, ifs, 0⟩] scope pos) spos) (gSetO i (gLcR (own.map (·.2)) j gt ge ga)) :=
  ps_imp (ps_setLc (tt := tG X.K X.mg okB W0 gt) (te := tG X.K X.mg (okV X.K) W0 ge) hc hN hy hyl hsw (pi_range1 hgl hm (pa_cons hi pa_nil h2) h1) ok hg ht he hs) fun D σ H ⟨C, F, env, R, h⟩ => by
    have h : AftS X.K X.mg W C F (gE ga (fun d => gE (M.bd (M.opt (rngO d)) fun ds => gLc (own.map (·.2)) (bN j) gt ge ds) (gStO i)) env) D := by
      have e : gSetO i (gLcR (own.map (·.2)) j gt ge ga) env = gE ga (fun d => gE (M.bd (M.opt (rngO d)) fun ds => gLc (own.map (·.2)) (bN j) gt ge ds) (gStO i)) env := by
        simp only [gSetO, gE, M.bd]
        cases ga env with
        | none => rfl
        | some r => cases r <;> rfl
      rw [← e]; exact h
    refine tE_bd R h fun d env1 v F1 H1 R1 e1 o1 h1 => ?_
    have h1 : AftS X.K X.mg W C F1 (gE (M.bd (M.opt (rngO d)) fun ds => gLc (own.map (·.2)) (bN j) gt ge ds) (gStO i) env1) D := h1
    cases o1 with
    | int n =>
      by_cases hn : -(2 ^ 62) ≤ n ∧ n < 2 ^ 62
      · have ed : rngO (.int n) = some (rngD 0 n.toNat) := by simp only [rngO, hn, and_self, if_true]
        have h2 : AftS X.K X.mg W C F1 (gE (gLc (own.map (·.2)) (bN j) gt ge (rngD 0 n.toNat)) (gStO i) env1) D := by
          have := h1
          unfold M.bd M.opt at this
          rw [ed] at this
          exact this
        unfold gE gLc at h2
        cases hl : loopC (own.map (·.2)) (bN j) gt ge (rngD 0 n.toNat) [] (wipeE (own.map (·.2)) env1) with
        | none => rw [hl] at h2; exact h2.elim
        | some out =>
          rw [hl] at h2
          refine ⟨n, rfl, hn.1, hn.2, fun Da hD => lc_range (lo := 0) (n := n.toNat) (fun i => BtwC X.K C F1 σ (own.map (·.2)) (bN j) gt ge Da out ((rngD 0 n.toNat).drop i)) (btw_start R1 hD hl) (fun i H hx hB => ?_) (fun H hB => ?_)⟩
          · rw [drop_at (rngD_at hx)] at hB
            exact btw_turn (mg := X.mg) R1 hD hj rfl (.int _) hB
          · rw [List.drop_eq_nil_of_le (by rw [rngD_len]; exact Nat.le_refl _)] at hB
            obtain ⟨F2, R2, ex2, o2⟩ := btw_end R1 hD hB
            exact h2 _ F2 H (R2.storeO i o2) ex2
      · have ed : rngO (.int n) = none := by simp only [rngO, hn, if_false]
        have := h1
        unfold gE M.bd M.opt at this
        rw [ed] at this
        exact this.elim
    | _ => exact h1.elim
end
end Pf
/-! part PfE -/
set_option Elab.async false
set_option linter.all false
set_option maxRecDepth 100000
set_option maxHeartbeats 2000000
namespace Pf
open PySem PySem.Spec L2 Evl

/-! ### enumerate over a tuple -/
theorem meets_enum1 {v : Value} {o : Obj} {Hx : Heap → Prop} (Bg : Begins v o Hx) :
    Meets (Builtin.«enumerate.__new__» ⟨[.type "enumerate", v], []⟩) (fun _ R s => Hx s.heap ∧
      R (.ok (.ret (.ref (s.heap.push o).objs.size))) { s with heap := (s.heap.push o).push { cls := .type "enumerate", data := .fields #[.none, .bool false, .ref s.heap.objs.size, rawInt 0, .none, .none] } }) := Meets.of_wp fun prog w A R s h => by
  obtain ⟨hp, gg, dd, tk, os⟩ := s
  obtain ⟨hx, h⟩ := h
  have hsub := sub_enumerate
  have it1 : ∀ {A' : Around} {E' : Value → Shared → Prop} {Q' : Value → Shared → Prop}, Q' (.ref hp.objs.size) ⟨hp.push o, gg, dd, tk, os⟩ → wpAny (model prog w) A' (pyIter v) Q' E' ⟨hp, gg, dd, tk, os⟩ := fun q => Bg.iter prog w _ _ ⟨hp, gg, dd, tk, os⟩ _ hx q
  wp_walk using it1
  refine wpAny_stack_any fun st => wpAny_pure ?_
  split
  · rename_i cl _ _ _ _ _
    cases (cl == Value.type "enumerate") <;> (wp_walk using it1; exact ⟨_, rfl, h⟩)
  · wp_walk using it1
    exact ⟨_, rfl, h⟩
theorem enum1_begins {prog : Program} {w : World} {A : Around} {E : Value → Shared → Prop} {s : Shared} {v : Value} {o : Obj} {Hx : Heap → Prop} {Q : Value → Shared → Prop} (Bg : Begins v o Hx) (hx : Hx s.heap)
    (h : ∀ h', IsEnum h' (s.heap.objs.size + 1) s.heap.objs.size 0 .none → h'.get? s.heap.objs.size = some o → (∀ b u, s.heap.get? b = some u → h'.get? b = some u) → Q (.ref (s.heap.objs.size + 1)) { s with heap := h' }) :
    wpAny (model prog w) A (call (.type "enumerate") [v]) Q E s := by
  refine callType_new F.called_enumerate (by decide) (F.typeCall_enumerate_1 _) (F.newCall_enumerate_1 _) (fun ob => F.args_object_init_2 ob _) F.entry_enumerate_new (meets_enum1 Bg) ⟨hx, ?_⟩
  have hz : (s.heap.push o).objs.size = s.heap.objs.size + 1 := Heap.size_push ..
  show _ ∧ _
  rw [hz]
  have he : IsEnum ((s.heap.push o).push { cls := .type "enumerate", data := .fields #[.none, .bool false, .ref s.heap.objs.size, rawInt 0, .none, .none] }) (s.heap.objs.size + 1) s.heap.objs.size 0 .none := by
    have q := Heap.get?_push_size (s.heap.push o) (o := { cls := .type "enumerate", data := .fields #[.none, .bool false, .ref s.heap.objs.size, rawInt 0, .none, .none] }) rfl
    rw [hz] at q
    exact q
  exact ⟨⟨_, he, rfl⟩, h _ he (Heap.get?_push_of_some _ (Heap.get?_push_size _ Bg.free)) fun b u x => Heap.get?_push_of_some _ (Heap.get?_push_of_some _ x)⟩
/-- the tuple at a, numbered, in new pairs -/
def Itet (K : PySem.W.Frag) (a : Addr) : It :=
  ⟨fun i H => ∃ xs x, SqT K H a xs ∧ xs[i]? = some x, fun i H v H' => ∃ T x, v = .ref T ∧ H T = none ∧ H' = upd H T (.tup [.int (i : Nat), x]) ∧ ∀ xs, SqT K H a xs → xs[i]? = some x, fun i H => ∃ xs, SqT K H a xs ∧ xs.length = i⟩
theorem turn_enumT {P : Program} {w : World} {K : PySem.W.Frag} {elts : List Expr} {kk : Nat} {tpos : Pos} (a e it : Addr) :
    Turn P w K (.Tuple elts kk tpos) (Itet K a) [e, it] e (fun i h => (∃ old, IsEnum h e it ((i : Nat) : Int) old) ∧ h.IsTupleIter it a i ∧ e ≠ it ∧ e ≠ a ∧ a ≠ it) where
  mem := List.mem_cons_self
  obj := fun i h st b hb => by
    obtain ⟨⟨old, he⟩, ⟨o, ho, _, hd⟩, _⟩ := st
    rcases List.mem_cons.mp hb with z | z
    · rw [z]; exact ⟨_, he, fun v q => nomatch q⟩
    · rw [List.mem_singleton.mp z]; exact ⟨o, ho, fun v q => by rw [hd] at q; cases q⟩
  keep := fun i h h' ⟨⟨old, he⟩, hi, n⟩ k => ⟨⟨old, k e List.mem_cons_self _ he⟩, hi.at fun o q => k it (by simp) o q, n⟩
  item := by
    intro X hP hw hK hc i pins s σ H E I hf st hg
    subst hP hw hK
    obtain ⟨⟨old, he⟩, hit, n1, n2, n3⟩ := st
    obtain ⟨xs, x, hq, hx⟩ := hg
    obtain ⟨its, rv, p, hz⟩ := I.tuple hq
    obtain ⟨u, hu, ru⟩ := rv.get hx
    have hilt : i < its.toArray.size := by
      have := (List.getElem?_eq_some_iff.mp hu).1
      simpa using this
    have hel : e < s.heap.objs.size := Heap.lt_size he
    have hil : it < s.heap.objs.size := by obtain ⟨_, q, _⟩ := hit; exact Heap.lt_size q
    refine wpAny_pyNext_enum_itemD (Draws.tuple (prog := X.prog) (w := X.w) (A := X.A.in1) (I.ok.hd hc) it a n3 its.toArray) he ⟨hit, p⟩ hilt n1 (by simp [n1, n2]) fun y h' tk hy ho hst hT hsz hk => ?_
    have ey : y = u := by
      have h1 : its.toArray[i]? = some y := hy
      have h2 : its.toArray[i]? = some u := by simpa using hu
      rw [h1] at h2
      exact Option.some.inj h2
    subst ey
    refine ⟨_, rfl, wpAny_letOwnedTupleGo_enum (s := { s with heap := h', toks := tk + 1 }) ho fun h'' he' sb => ?_⟩
    have hT2 : h''.get? s.heap.objs.size = some { cls := .type "tuple", data := .seq #[.int i tk, y] } := (sb.2 _ (Nat.ne_of_gt hel)).trans hT
    have new : ObjOk X.prog X.w (upd H s.heap.objs.size (.tup [.int (i : Nat), x])) h'' s.heap.objs.size (.tup [.int (i : Nat), x]) :=
      ⟨by show 2 ≤ sizeLine; decide, [.int i tk, y], .cons ⟨_, rfl⟩ (.cons ru .nil), ⟨_, hT2, rfl, _, rfl⟩⟩
    have kk : ∀ b ob, b ∉ [e, it] → s.heap.get? b = some ob → h''.get? b = some ob := fun b ob hb q => by
      have b1 : b ≠ e := fun z => hb (by simp [z])
      have b2 : b ≠ it := fun z => hb (by simp [z])
      exact (sb.2 b b1).trans (hk b ob b1 b2 q)
    have I1 : Inv X pins σ (upd H s.heap.objs.size (.tup [.int (i : Nat), x])) { s with heap := h'', toks := tk + 1 } := I.turnedNew (t' := tk + 1) kk hf (Nat.le_refl _) new
    refine ⟨.ref s.heap.objs.size, _, I1, rfl, ⟨_, x, rfl, I.hok.fresh (Nat.le_refl _), rfl, fun ys hy => by rw [I.tuple_inj hy hq]; exact hx⟩, ⟨⟨y, ?_⟩, hst.1.at fun o q => (sb.2 it (Ne.symm n1)).trans q, n1, n2, n3⟩, fun b hb => ?_⟩
    · have e1 : ((i + 1 : Nat) : Int) = (i : Int) + 1 := by omega
      rw [e1]
      exact he'
    · have hb' : b < s.heap.objs.size := by
        rcases List.mem_cons.mp hb with z | z
        · rw [z]; exact hel
        · rw [List.mem_singleton.mp z]; exact hil
      rw [upd_ne (Nat.ne_of_lt hb')]
      exact (hf b hb).1
  done := by
    intro X hP hw hK hc i pins s σ H E I hf st hg
    subst hP hw hK
    obtain ⟨⟨old, he⟩, hit, n1, n2, n3⟩ := st
    obtain ⟨xs, hq, hx⟩ := hg
    obtain ⟨its, rv, p, hz⟩ := I.tuple hq
    obtain ⟨f0, f1, f2, f3, f4, f5⟩ := hf it (by simp)
    have hl : its.toArray.size = i := by
      have := rv.length
      simp only [List.size_toArray]
      omega
    subst hl
    exact wpAny_pyNext_enum_endD (Draws.tuple (prog := X.prog) (w := X.w) (A := X.A.in1) (I.ok.hd hc) it a n3 its.toArray) he ⟨hit, p⟩ fun h' eb => ⟨rfl, I.turned (t' := s.toks) (fun b o hb q => eb b o hb q) f0 f1 f3 f4 f5⟩
  self := fun A i s Q E ⟨⟨_, he⟩, _⟩ h => wpAny_pyIter_enum he h
def iEnumT (K : PySem.W.Frag) (ta : TA) : TI := fun σ H R => ta σ H fun vs H1 => ∃ a xs, vs = [.ref a] ∧ SqT K H1 a xs ∧ R (Itet K a) H1
theorem pi_enumT {X : Cx} {e : Expr} {ta : TA} {p pos tpos : Pos} {elts : List Expr} {kk : Nat} (hg : Gl X "enumerate") (hm : X.mg "enumerate" = none) (ha : PA X [e] ta) (hs : starEach [e] X.env = [(false, eval e X.env)] := by rfl) :
    PI X (.Tuple elts kk tpos) (.Call (.Name "enumerate" p) [e] [] pos) (iEnumT X.K ta) := by
  refine ⟨fun pins s σ H R I h => PyProof.Rows.Call_ (ld_blt I hg hm PyProof.Rows.boot_enumerate (PyProof.Rows.callWith_type1 (thn (ha.run pos pins s σ H _ I h) fun us s1 ⟨vs, H1, I1, r1, a, xs, ex, hq, q⟩ => ?_) hs rfl))⟩
  subst ex
  cases r1 with
  | cons r rr =>
    cases rr
    cases r
    obtain ⟨its, rv, p', hz⟩ := I1.tuple hq
    have ha' : a < s1.heap.objs.size := by obtain ⟨_, q, _⟩ := p'; exact Heap.lt_size q
    refine enum1_begins (begins_tuple a its.toArray) p' fun h' he hit hk => wpAny_pyIter_enum he ?_
    have I2 : Inv X pins σ H1 { s1 with heap := h' } := I1.kept (t' := s1.toks) hk
    refine ⟨s1.heap.objs.size + 1, [s1.heap.objs.size + 1, s1.heap.objs.size], _, _, H1, rfl, I2, turn_enumT a (s1.heap.objs.size + 1) s1.heap.objs.size, ⟨⟨.none, he⟩, ⟨_, hit, rfl, rfl⟩, Nat.succ_ne_self _, Nat.ne_of_gt (Nat.lt_succ_of_lt ha'), Nat.ne_of_lt ha'⟩, fun b hb => ?_, q⟩
    have hle : s1.heap.objs.size ≤ b := by
      rcases List.mem_cons.mp hb with z | z
      · rw [z]; exact Nat.le_succ _
      · rw [List.mem_singleton.mp z]; exact Nat.le_refl _
    exact I1.fpOk hle (I1.hok.fresh hle)
/-! ### loops over what is numbered -/
def enumD (ds : List PyData) : List PyData := (List.range ds.length).zipWith (fun (i : Nat) d => .tuple [.int (i : Int), d]) ds
theorem enumD_len (ds : List PyData) : (enumD ds).length = ds.length := by unfold enumD; rw [List.length_zipWith, List.length_range, Nat.min_self]
theorem enumD_at {ds : List PyData} {i : Nat} {d : PyData} (h : ds[i]? = some d) : (enumD ds)[i]? = some (.tuple [.int (i : Int), d]) := by
  have hl := (List.getElem?_eq_some_iff.mp h).1
  unfold enumD
  rw [List.getElem?_zipWith, List.getElem?_range hl, h]
def gForET (ga : M PyData) (b : PyData → En → Option En) (g : S) : S := gE ga fun d => match d with
  | .tuple ds => loopL b g (enumD ds)
  | _ => fun _ => none
def gForEL (ga : M PyData) (b : PyData → En → Option En) (g : S) : S := gE ga fun d => match d with
  | .list ds => loopL b g (enumD ds)
  | _ => fun _ => none
section
variable {X : Cx} {W : WX} {e : Expr} {tgs : List Expr} {kk : Nat} {body : List Stmt} {ga : M PyData} {b : PyData → En → Option En} {g : S} {pos p1 p2 tpos : Pos}
/-- one turn: the pair is new -/
theorem enum_turn {K : PySem.W.Frag} {mg : Str → Option Value} {C : Cn} {F1 : Hp} {ds : List PyData} {D : Ends} {i : Nat} {d : PyData} {x : V} {T : Addr} {σ : St} {H : Hp} {t : TG}
    (kt : ∀ C F σ H env env' v d Q, Rel K C F σ H env → Dp K F v d → b d env = some env' → (∀ σ', Rel K C F σ' H env' → Q σ' H) → t v σ H Q) (hd : ds[i]? = some d) (dd : Dp K F1 x d) (hT : H T = none)
    (hB : Btw K mg W C F1 (loopL b g ((enumD ds).drop i)) D σ H) :
    t (.ref T) σ (upd H T (.tup [.int (i : Nat), x])) fun σ2 H2 => tS K mg W g { D with nx := Btw K mg W C F1 (loopL b g ((enumD ds).drop (i + 1))) D, ct := Btw K mg W C F1 (loopL b g ((enumD ds).drop (i + 1))) D, bk := D.nx } σ2 H2 := by
  obtain ⟨F', env', R', ex, h2⟩ := hB
  rw [drop_at (enumD_at hd)] at h2
  obtain ⟨env2, hb2, h3⟩ := loop_cons h2
  have hf := (R'.fresh hT).1
  have exn : Ex F' (upd F' T (.tup [.int (i : Nat), x])) := Ex.new hf
  refine kt C _ σ _ env' env2 _ _ _ (R'.newF hT) (.tup (SqT.of upd_same) (.cons (.int _) (.cons (dp_mono exn (dp_mono ex dd)) .nil))) hb2 fun σ2 R2 => ⟨C, _, env2, R2, ?_⟩
  exact (h3.up exn).imp (fun _ _ ⟨F2, env3, R3, ex3, q⟩ => ⟨F2, env3, R3, ex.trans ex3, q⟩) (fun _ _ z => z) (fun _ _ z => z) (fun _ _ ⟨F2, env3, R3, ex3, q⟩ => ⟨F2, env3, R3, ex.trans ex3, q⟩)
theorem ss_forET (hp : PassesOwn (model X.prog X.w) X.A X.env X.xe) (hc : X.calm = true) (hgl : Gl X "enumerate") (hm : X.mg "enumerate" = none) (hi : SV X W e ga) (hg : SGt X (.Tuple tgs kk tpos) b) (hb : SSs X W body g)
    (h1 : starEach [e] X.env = [(false, eval e X.env)] := by rfl) (h2 : starEach [e] X.env = (false, eval e X.env) :: starEach [] X.env := by rfl) (hs : ∀ x, foldedSetIterable (.Call (.Name "enumerate" p1) [e] [] p2) X.env x = pure x := by intro _; rfl) :
    SS X W (.For (.Tuple tgs kk tpos) (.Call (.Name "enumerate" p1) [e] [] p2) body [] pos) (gForET ga b g) := by
  obtain ⟨t, pt, kt⟩ := hg
  refine ps_imp (ps_for hp hc (pi_enumT hgl hm (pa_cons hi pa_nil h2) h1) pt hb hs) fun D σ H ⟨C, F, env, R, h⟩ => tE_bd R h fun d env1 v F1 H1 R1 e1 o1 h1 => ?_
  cases o1 with
  | @tup a xs ds s r =>
    refine ⟨a, xs, rfl, ex_t R1.fh s, fun i m σ H => m = ds.length - i ∧ i ≤ ds.length ∧ Btw X.K X.mg W C F1 (loopL b g ((enumD ds).drop i)) D σ H, ⟨ds.length, rfl, Nat.zero_le _, F1, env1, R1, Ex.refl _, h1⟩, ?_⟩
    rintro i m σ H ⟨rfl, hi, hB⟩
    have hq : SqT X.K H a xs := by obtain ⟨F', env', R', ex, _⟩ := hB; exact ex_t (ex.trans R'.fh) s
    by_cases hlt : i < ds.length
    · have hx : xs[i]? = some (xs[i]'(by rw [r.len]; exact hlt)) := List.getElem?_eq_getElem _
      obtain ⟨d, hd, dd⟩ := DpAll_at r hx
      refine .inr ⟨⟨xs, _, hq, hx⟩, _, fun σ' H' p' => ⟨ds.length - (i + 1), by omega, rfl, hlt, p'⟩, fun v H' ⟨T, x, ev, hT, eH, hy⟩ => ?_⟩
      have ex' : x = xs[i]'(by rw [r.len]; exact hlt) := by
        have := hy xs hq
        rw [hx] at this
        exact (Option.some.inj this).symm
      subst ev eH ex'
      exact enum_turn kt hd dd hT hB
    · have e' : i = ds.length := by omega
      subst e'
      refine .inl ⟨⟨xs, hq, r.len⟩, ?_⟩
      rw [List.drop_eq_nil_of_le (by rw [enumD_len]; exact Nat.le_refl _)] at hB
      exact loop_nil hB
  | _ => exact h1.elim
theorem ss_forEL (hp : PassesOwn (model X.prog X.w) X.A X.env X.xe) (hc : X.calm = true) (hgl : Gl X "enumerate") (hm : X.mg "enumerate" = none) (hi : SV X W e ga) (hg : SGt X (.Tuple tgs kk tpos) b) (hb : SSs X W body g)
    (h1 : starEach [e] X.env = [(false, eval e X.env)] := by rfl) (h2 : starEach [e] X.env = (false, eval e X.env) :: starEach [] X.env := by rfl) (hs : ∀ x, foldedSetIterable (.Call (.Name "enumerate" p1) [e] [] p2) X.env x = pure x := by intro _; rfl) :
    SS X W (.For (.Tuple tgs kk tpos) (.Call (.Name "enumerate" p1) [e] [] p2) body [] pos) (gForEL ga b g) := by
  obtain ⟨t, pt, kt⟩ := hg
  refine ps_imp (ps_for hp hc (pi_enum hgl hm (pa_cons hi pa_nil h2) h1) pt hb hs) fun D σ H ⟨C, F, env, R, h⟩ => tE_bd R h fun d env1 v F1 H1 R1 e1 o1 h1 => ?_
  cases o1 with
  | @lst a xs ds s r =>
    refine ⟨a, xs, rfl, ex_l R1.fh s, fun i m σ H => m = ds.length - i ∧ i ≤ ds.length ∧ Btw X.K X.mg W C F1 (loopL b g ((enumD ds).drop i)) D σ H, ⟨ds.length, rfl, Nat.zero_le _, F1, env1, R1, Ex.refl _, h1⟩, ?_⟩
    rintro i m σ H ⟨rfl, hi, hB⟩
    have hq : SqL X.K H a xs := by obtain ⟨F', env', R', ex, _⟩ := hB; exact ex_l (ex.trans R'.fh) s
    by_cases hlt : i < ds.length
    · have hx : xs[i]? = some (xs[i]'(by rw [r.len]; exact hlt)) := List.getElem?_eq_getElem _
      obtain ⟨d, hd, dd⟩ := DpAll_at r hx
      refine .inr ⟨⟨xs, _, hq, hx⟩, _, fun σ' H' p' => ⟨ds.length - (i + 1), by omega, rfl, hlt, p'⟩, fun v H' ⟨T, x, ev, hT, eH, hy⟩ => ?_⟩
      have ex' : x = xs[i]'(by rw [r.len]; exact hlt) := by
        have := hy xs hq
        rw [hx] at this
        exact (Option.some.inj this).symm
      subst ev eH ex'
      exact enum_turn kt hd dd hT hB
    · have e' : i = ds.length := by omega
      subst e'
      refine .inl ⟨⟨xs, hq, Nat.le_of_eq r.len⟩, ?_⟩
      rw [List.drop_eq_nil_of_le (by rw [enumD_len]; exact Nat.le_refl _)] at hB
      exact loop_nil hB
  | _ => exact h1.elim
end
end Pf
/-! part PfX0 -/
set_option Elab.async false
set_option linter.all false
set_option maxRecDepth 100000
set_option maxHeartbeats 4000000
namespace PySem
namespace PfX
open PySem.W PySem.Calls PyProof.Rows PySem.HandSPX
section
variable {M : Model} {prog : Program} {w : World} {A : Around} {E : Value → Shared → Prop} {R : Result → Shared → Prop} {h : Heap} {g : Array GenState} {d : Drawn} {t : Nat} {os : OsState}
variable {nm q : Str} {C N : Addr} {bs bm bmB : List Value} {hdct : Bool} {sn : List Str} {sub : List Value} {ab : Bool} {col : Option Bool} {dd : Option Addr} {k0 k1 k2 k3 k5 : Option Value} {B newId initId : String} {kw : List (Str × Value)}
theorem check_newK (F : ExcBaseFacts B newId initId bmB) (hT : ∀ X : String, bm.contains (.type X) = bmB.contains (.type X)) {Q : Unit → Shared → Prop}
    (hC : h.get? C = some (excClassObj nm q C N bs bm hdct sn sub ab col dd k0 k1 k2 k3 k5 newId)) (hq : Q () ⟨h, g, d, t, os⟩) : wpAny M A (checkBuiltinCall newId ⟨[.ref C], kw⟩) Q E ⟨h, g, d, t, os⟩ := by
  have inB : (Value.ref C :: bm).contains (.type B) = true := by rw [List.contains_cons, hT, F.hasB, Bool.or_true]
  have st := F.noStar
  simp only [checkBuiltinCall, F.newKind, F.newSplit, F.newRow]
  repeat (first | refine wpAny_loadPart_at hC ?_ | (refine wpAny_isSubtype_exc hC ?_; rw [inB]) | refine wpAny_staticBase_exc hC ?_ | refine wpAny_madeBy_exc hC ?_ | simp only [bne_self_eq_false, Bool.false_eq_true, if_false] | wp_step)
  exact hq
theorem new_K (F : ExcBaseFacts B newId initId bmB) (hT : ∀ X : String, bm.contains (.type X) = bmB.contains (.type X))
    (hC : h.get? C = some (excClassObj nm q C N bs bm hdct sn sub ab col dd k0 k1 k2 k3 k5 newId))
    (hq : R (.ok (.ret (.ref (h.objs.size + 1)))) ⟨(h.push { cls := .type "tuple", data := .seq #[] }).push { cls := .ref C, data := .fields #[.ref h.objs.size, .none, .none, .none, .bool false, .none] }, g, d, t, os⟩) :
    codeAny (model prog w) A (.builtin newId ⟨[.ref C], kw⟩) R ⟨h, g, d, t, os⟩ := by
  have en := F.ends
  have inB : (Value.ref C :: bm).contains (.type B) = true := by rw [List.contains_cons, hT, F.hasB, Bool.or_true]
  have inA : (Value.ref C :: bm).contains (.type "AttributeError") = false := by rw [List.contains_cons, hT, F.noAttr]; rfl
  have inN : (Value.ref C :: bm).contains (.type "NameError") = false := by rw [List.contains_cons, hT, F.noName]; rfl
  refine codeAny_builtinAt F.entry ?_
  unfold Builtin.«BaseException.__new__»
  refine wpAt_bind (show wpAt _ _ _ (stack >>= _) _ _ _ from wpAt_bind (wpAt_stack fun p below => wpAt_of_wpAny ?_))
  wp_walk
  refine wpAt_of_wpAny ?_
  rw [F.owner]
  repeat (first | with_reducible refine wpAny_madeHere_exc F.canon hC ?_ | with_reducible refine wpAny_loadPart_at hC ?_ | (with_reducible refine wpAny_isSubtype_exc hC ?_; first | rw [inB] | rw [inA] | rw [inN]) | wp_step)
  show R _ _
  rw [Heap.size_push]
  exact hq
theorem type_callK (F : ExcBaseFacts B newId initId bmB) (hT : ∀ X : String, bm.contains (.type X) = bmB.contains (.type X)) {fI : Addr} {Q : Fin → Shared → Prop}
    (hC : h.get? C = some (excClassObj nm q C N bs bm hdct sn sub ab col dd k0 k1 k2 k3 k5 newId))
    (hi : W.Looks (model prog w) h (typeLookup (.ref C) "__init__") (some (.ref fI))) (hb : ∀ self, W.Looks (model prog w) h (bindSpecial (.ref fI) self) (.ref fI, [self]))
    (hq : codeAny (model prog w) A (.call (.ref fI) ⟨[.ref (h.objs.size + 1)], kw⟩) (fun r s' => match r with | .ok (.ret v) => v = .none ∧ Q (.done (.ret (.ref (h.objs.size + 1)))) s' | .ok _ => False | .error e => E e s')
      ⟨(h.push (W.kdv_tup [])).push (excO C h.objs.size), g, d, t, os⟩) :
    wpAny (model prog w) A (Builtin.«type.__call__» ⟨[.ref C], kw⟩) Q E ⟨h, g, d, t, os⟩ := by
  repeat (first | with_reducible refine wpAny_loadPart_at hC ?_ | with_reducible refine wpAny_madeBy_exc hC ?_ | wp_step)
  refine codeAny_call_builtin_code (Code.quiet_builtin _ F.quiet) (check_newK F hT hC (new_K F hT hC ?_))
  show wpAny _ _ _ _ _ _
  have kp : ∀ b o, h.get? b = some o → ((h.push (W.kdv_tup [])).push (excO C h.objs.size)).get? b = some o := fun b o e => Heap.get?_push_of_some _ (Heap.get?_push_of_some _ e)
  have hC₁ := kp _ _ hC
  have hnew : ((h.push (W.kdv_tup [])).push (excO C h.objs.size)).get? (h.objs.size + 1) = some (excO C h.objs.size) := by heap_get
  have inC : (Value.ref C :: bm).contains (.ref C) = true := by simp
  have i1 := hi.keeps kp
  have b1 := (hb (.ref (h.objs.size + 1))).keeps kp
  unfold isInstance
  repeat (first | with_reducible refine wpAny_loadPart_at hnew ?_ | (with_reducible refine wpAny_isSubtype_exc hC₁ ?_; rw [inC]) | wp_step)
  show wpAny _ _ (typeLookup (.ref C) _) _ _ _
  refine i1.at (wpAny_holding (wpAny_bind (b1.at (wpAny_bind (wpAny_call (codeAny_mono hq fun r s' z => ?_))))))
  rcases r with e | (v | _ | _ | _) <;> first | exact z | exact z.elim | skip
  obtain ⟨rfl, z⟩ := z
  first
    | exact wpAny_pure (wpAny_pure z)
    | (wp_walk; exact z)
theorem call_K (F : ExcBaseFacts B newId initId bmB) (hT : ∀ X : String, bm.contains (.type X) = bmB.contains (.type X)) {fI : Addr}
    (hC : h.get? C = some (excClassObj nm q C N bs bm hdct sn sub ab col dd k0 k1 k2 k3 k5 newId))
    (hi : W.Looks (model prog w) h (typeLookup (.ref C) "__init__") (some (.ref fI))) (hb : ∀ self, W.Looks (model prog w) h (bindSpecial (.ref fI) self) (.ref fI, [self]))
    (hq : codeAny (model prog w) (A.under (.builtin "type.__call__" ⟨[.ref C], kw⟩)) (.call (.ref fI) ⟨[.ref (h.objs.size + 1)], kw⟩) (W.InitBack (h.objs.size + 1) R) ⟨(h.push (W.kdv_tup [])).push (excO C h.objs.size), g, d, t, os⟩) :
    codeAny (model prog w) A (.call (.ref C) ⟨[], kw⟩) R ⟨h, g, d, t, os⟩ := by
  have f1 := tc_lookup
  have f2 := tc_bind (.ref C)
  have hTy : (⟨h, g, d, t, os⟩ : Shared).TypeIs (.ref C) "type" := ⟨_, hC, rfl⟩
  refine codeAny_of_tree (show wpAny _ _ (callAny (.ref C) _) _ _ _ from ?_)
  repeat (any_goals (first | assumption | with_reducible refine wpAny_loadPart_at hC ?_ | wp_step))
  refine ⟨rfl, codeAny_call_builtin_at (Code.quiet_builtin _ (by decide +kernel)) entry_typeCall (wpAny_check_type_call_sub hC (type_callK F hT hC hi hb (codeAny_mono hq fun r s' z => ?_)))⟩
  rcases r with e | (v | _ | _ | _) <;> exact z
end
end PfX
end PySem
/-! part PfX1 -/
set_option Elab.async false
set_option linter.all false
set_option maxRecDepth 100000
set_option maxHeartbeats 4000000
namespace Pf
open PySem PySem.Spec L2 Evl

/-! ### Base.__init__(self, ..), Base an own class that has it from ValueError -/
structure BaseI (K : PySem.W.Frag) (mg : Str → Option Value) (b : Str) (CS : Addr) : Prop where
  g : mg b = some (.ref CS)
  ga : PySem.W.specialIn K (.ref CS) "__getattribute__" = some (some (.builtin "type.__getattribute__"))
  rd : PySem.W.readsIn K CS (.type "type") = true
  at_ : PySem.W.findCls K (.ref CS) (.type "type") "__init__" = some (.val (.builtin "ValueError.__init__"))
section
variable {X : Cx} {b x : Str} {CS C fI : Addr} {e : Expr} {es : List Expr} {ta : TA} {p p1 p2 pos pos2 : Pos}
theorem pe_binit {pl : Sem Bool} (Bi : BaseI X.K X.mg b CS) (ha : PA X (e :: es) ta) (hg : Gl X b := by rfl) (hdb : (b == ("__debug__" : Str)) = false := by decide)
    (hc : eval (.Call (.Attribute (.Name b p1) "__init__" p2) (e :: es) [] pos) X.env = (do
      let ov ← eval (.Name b p1) X.env
      standAt p2.atName
      let (f, first) ← holding [ov] (getMethod ov "__init__" pl)
      callWith pos f first (backTo pos (starEach (e :: es) X.env)) (backToKw pos (keywordEach [] X.env))) := by rfl)
    (he : starEach (e :: es) X.env = (false, eval e X.env) :: starEach es X.env := by rfl) (hpl : (backTo pos (starEach es X.env)).any (·.1) = false := by rfl) :
    PE X (.Call (.Attribute (.Name b p1) "__init__" p2) (e :: es) [] pos) (tVeI X.K ta) := by
  refine ⟨fun pins s σ H Q I h => PySem.W.methodCall_KW (ld_glob I hg Bi.g ?_ hdb) hc⟩
  refine PySem.W.method_cls I.kIn Bi.ga (PySem.W.cls_value I.kIn Bi.rd Bi.at_ (by decide +kernel) ?_)
  show wpAny _ _ (callWith pos (Value.builtin "ValueError.__init__") [] (backTo pos (starEach (e :: es) X.env)) []) _ _ _
  refine PyProof.Rows.callWith_method1 (thn (ha.run pos pins _ σ H _ (I.tok _) h) fun us s1 ⟨vs, H1, I1, r1, a, C, ws, ev, hl, T, ea, q⟩ => ?_) he hpl
  subst ev
  cases r1 with
  | @cons _ u0 _ ur ra rw' =>
    obtain rfl : u0 = Value.ref a := ra
    have hlen : ur.length ≤ sizeLine := by
      rw [← Paired.length rw', sizeLine_eq]
      omega
    exact oinit_ok T I1 ea hlen fun s' J => ⟨.non, H1, J, rfl, q⟩
/-- C(k = v, ..), C's own __init__ keeping sp; the keywords in the parameters' order -/
def tMkK (C : Addr) (n : Nat) (sp : Sp) (tk : TA) : St → Hp → XK → Prop := fun σ H Q => tk σ H fun zs H1 => zs.length = n ∧ ∀ a, H1 a = none → sp (.ref a :: zs) (upd H1 a (exo a C none))
  (fun v H2 => v = .non ∧ ∃ (d : Addr) (fs : List (Str × V)), H2 a = some (exo a C (some d)) ∧ H2 d = some (exd d fs) ∧ H1 d = none ∧ Q (.ref C) (some d) (upd (del H2 a) d (.xd fs))) (fun _ _ _ => False)
theorem pmk_oexK {CX : CXT} {k : Nat} {fd : FuncData} {ps ks : List Str} {sp : Sp} {kws : List Keyword} {tk : TA} (T : OexC X.K C) (iC : PySem.W.findIn X.K (.ref C) "__init__" = some (some (.ref fI))) (tI : PySem.W.typeIn X.K (.ref fI) = some (.type "function"))
    (F1 : FnOk X.prog X.w X.K X.mg X.base CX k fI fd ps sp) (hr : Room (k + 1) X.A) (hb : ∀ (s : Shared) (u : Value) (ws : List Value), ws.length = ks.length → BindsTo s fd ⟨[u], ks.zip ws⟩ (ps.zip (u :: ws))) (hx : Passes CX X (fun _ _ _ => False)) (hm : X.mg x = some (.ref C)) (hkw : PK X kws tk)
    (hg : Gl X x := by rfl) (hdb : (x == ("__debug__" : Str)) = false := by decide) (hall : (backToKw pos (keywordEach kws X.env)).all (·.1.isSome) = true := by rfl) (hks : (backToKw pos (keywordEach kws X.env)).filterMap (·.1) = ks := by rfl)
    (hpl : ((backTo pos (starEach [] X.env)).any (·.1) || (backToKw pos (keywordEach kws X.env)).any (·.1.isNone)) = false := by rfl) :
    PMk X (.Call (.Name x p) [] kws pos) (tMkK C ks.length sp tk) := by
  intro pins s σ H Q I h
  obtain ⟨nm, q, N, bs, bm, sn, sub, ab, col, dd, k0, k1, k2, k3, k5, hC, hbm⟩ := T.cls
  refine wpAny_Call_Name_kw (ld_glob I hg hm (PySem.W.callWith_KW0 (h₀ := X.base) I.ok.mod.kin T.kC hall ?_ hpl) hdb)
  refine thn (hkw.run pos pins s σ H _ I h) fun ws s1 ⟨zs, H1, I1, rz, hzl, q1⟩ => ⟨I1.kIn, ?_⟩
  rw [hks]
  show wpAny _ _ (call (.ref C) [] (ks.zip ws)) _ _ _
  obtain ⟨hp, g, dr, tk', os⟩ := s1
  have hsz : hp.objs.size ≤ hp.objs.size + 1 := Nat.le_succ _
  have hn : H1 (hp.objs.size + 1) = none := I1.hok.fresh hsz
  have hq := q1 (hp.objs.size + 1) hn
  have kk : ∀ b o, hp.get? b = some o → ((hp.push (PySem.W.kdv_tup [])).push (PySem.HandSPX.excO C hp.objs.size)).get? b = some o := fun b o e => Heap.get?_push_of_some _ (Heap.get?_push_of_some _ e)
  have hget : ((hp.push (PySem.W.kdv_tup [])).push (PySem.HandSPX.excO C hp.objs.size)).get? (hp.objs.size + 1) = some (PySem.HandSPX.excO C hp.objs.size) := by heap_get
  have I2 : Inv X pins σ (upd H1 (hp.objs.size + 1) (exo (hp.objs.size + 1) C none)) ⟨(hp.push (PySem.W.kdv_tup [])).push (PySem.HandSPX.excO C hp.objs.size), g, dr, tk', os⟩ :=
    I1.laid (t' := tk') (a := hp.objs.size + 1) (o := exo (hp.objs.size + 1) C none) (h' := (hp.push (PySem.W.kdv_tup [])).push (PySem.HandSPX.excO C hp.objs.size)) kk hsz (exo_ok hget)
  have r2 : Vals (V.ref (hp.objs.size + 1) :: zs) (Value.ref (hp.objs.size + 1) :: ws) := .cons rfl rz
  have hwl : ws.length = ks.length := by rw [← Paired.length rz]; exact hzl
  refine wpAny_call (PySem.PfX.call_K F.excBase_ValueError (fun Y => PySem.HandSPX.refsVE_contains Y bm hbm) (I1.kIn _ _ hC) (PySem.W.looks_findIn I1.kIn iC) (fun self => PySem.W.bind_fn I1.kIn self tI)
    (codeAny_mono (F1.run _ X.stack _ _ ⟨[Value.ref (hp.objs.size + 1)], ks.zip ws⟩ (Value.ref (hp.objs.size + 1) :: ws) _ _ (fun _ _ _ => False) (hr.make C [] (ks.zip ws)) (I2.env0.make C [] (ks.zip ws)) (hb _ _ ws hwl) r2 hq) fun r s' hq' => ?_))
  cases r with
  | error er => exact hx pins σ _ _ er s' I2 hq'
  | ok fl =>
    cases fl with
    | ret u =>
      obtain ⟨v, H2, os2, bare2, un2, hok2, rv, ev, d, fs, ea, ed, hd1, q2⟩ := hq'
      subst ev
      obtain ⟨h2, g2, d2, t2, os'⟩ := s'
      exact ⟨rv, mk_end (raises_own T.exC T.tyC) I1 hsz kk un2 hok2 os2 bare2 ea ed hd1 q2⟩
    | next => exact hq'.elim
    | brk => exact hq'.elim
    | cont => exact hq'.elim
end
/-! ### what such an __init__ promises: self, then its values, stored one by one -/
def printable : PyData → Bool
  | .int i => decide (i.natAbs.log2 < 1920)
  | .str x => decide (x.length ≤ 1000)
  | _ => false
/-- self.f1 = v1, self.f2 = v2 .. -/
def spInit (K : PySem.W.Frag) (C : Addr) (fs : List Str) : Sp := fun vs H Q _ => ∃ (a : Addr) (ws : List V) (F : Hp) (ds : List PyData), vs = .ref a :: ws ∧ OexC K C ∧ H a = some (exo a C none) ∧ F a = none ∧ Ex F H ∧ DpAll K F ws ds ∧ ds.length = fs.length ∧ ds.all printable = true ∧
  ∀ d, H d = none → d ≠ a → Q .non (upd (upd H d (exd d (fs.zip ws).reverse)) a (exo a C (some d)))
end Pf
/-! part PfX2 -/
set_option Elab.async false
set_option linter.all false
set_option maxRecDepth 100000
set_option maxHeartbeats 4000000
namespace Pf
open PySem PySem.Spec L2 Evl
theorem str_app_len (a b : Str) : (a ++ b).length = a.length + b.length := by
  first
    | exact PySem.Str.length_append a b
    | (show (a ++ b).cps.size = a.cps.size + b.cps.size; simp [HAppend.hAppend, Append.append, Array.size_append])
theorem tJs_run : ∀ (ts : List TE) {σ : St} {H : Hp} {Q : Str → Hp → Prop}, (∀ t ∈ ts, ∀ Q : VK, (∀ y : Str, y.length ≤ 2000 → Q (.str y) H) → t σ H Q) → ∀ acc : Str, acc.length + 2000 * ts.length ≤ 16777216 → (∀ out, Q out H) → tJs ts acc σ H Q
  | [], _, _, _, _, acc, _, q => q acc
  | t :: ts, σ, H, Q, h, acc, hl, q => by
    show t σ H fun x H1 => ∃ y : Str, x = .str y ∧ (acc ++ y).length ≤ sizeLine ∧ tJs ts (acc ++ y) σ H1 Q
    refine h t List.mem_cons_self _ fun y hy => ⟨y, rfl, ?_, tJs_run ts (fun t' ht => h t' (List.mem_cons_of_mem _ ht)) _ ?_ q⟩
    · rw [str_app_len, sizeLine_eq]
      rw [List.length_cons] at hl
      omega
    · rw [str_app_len]
      rw [List.length_cons] at hl
      omega
theorem j_const {x : Str} {σ : St} {H : Hp} (hx : x.length ≤ 2000) : ∀ Q : VK, (∀ y : Str, y.length ≤ 2000 → Q (.str y) H) → tC (.str x) σ H Q := fun Q q => q x hx
theorem j_slot {K : PySem.W.Frag} {F : Hp} {i : Nat} {v : V} {d : PyData} {σ : St} {H : Hp} (hs : σ[i]? = some (some v)) (hd : Dp K F v d) (hp : printable d = true) : ∀ Q : VK, (∀ y : Str, y.length ≤ 2000 → Q (.str y) H) → tFmt (tVar i) σ H Q := fun Q q => by
  refine ⟨v, hs, ?_⟩
  cases hd with
  | int k =>
    have hk : k.natAbs.log2 < 1920 := of_decide_eq_true hp
    refine .inr ⟨k, rfl, hk, q _ ?_⟩
    have e := int_text_length_le (k := 1920) (by decide) hk
    show (PySem.Str.ofString (toString k)).length ≤ 2000
    rw [ofString_length]
    omega
  | str x =>
    have hx : x.length ≤ 1000 := of_decide_eq_true hp
    exact .inl ⟨x, rfl, by rw [sizeLine_eq]; omega, q x (by omega)⟩
  | _ => cases hp
section
variable {P : Program} {w : World} {K : PySem.W.Frag} {mg : Str → Option Value} {base : Heap} {C CS : Addr} {b : Str}
/-- two values -/
theorem init2 {σ : St} {H F : Hp} {a : Addr} {v1 v2 : V} {d1 d2 : PyData} {f1 f2 : Str} {ts : List TE} {D : Ends} {Q : VK} (T : OexC K C) (n1 : PySem.W.findIn K (.ref C) f1 = some none) (n2 : PySem.W.findIn K (.ref C) f2 = some none)
    (s0 : σ[0]? = some (some (.ref a))) (s1 : σ[1]? = some (some v1)) (s2 : σ[2]? = some (some v2)) (ea : H a = some (exo a C none)) (hts : ∀ t ∈ ts, ∀ Q : VK, (∀ y : Str, y.length ≤ 2000 → Q (.str y) H) → t σ H Q) (hl : ts.length ≤ 20)
    (hq : ∀ d, H d = none → d ≠ a → D.nx σ (upd (upd H d (exd d [(f2, v2), (f1, v1)])) a (exo a C (some d)))) :
    tSeq (tDrop (tVeI K (tCons (tVar 0) (tCons (fun σ H Q => tJs ts Str.empty σ H fun out H1 => Q (.str out) H1) tNil)))) (tSeq (tOst K f1 (tVar 0) (tVar 1)) (tOst K f2 (tVar 0) (tVar 2))) D σ H := by
  refine ⟨.ref a, s0, tJs_run ts hts _ (by show 0 + _ ≤ _; omega) fun out => ⟨a, C, [.str out], rfl, by show 1 ≤ 1000; decide, T, ea, v1, s1, .ref a, s0, a, C, rfl, T, n1, .inl ⟨ea, fun d hd hda => ?_⟩⟩⟩
  refine ⟨v2, s2, .ref a, s0, a, C, rfl, T, n2, .inr ⟨d, [(f1, v1)], upd_same, by rw [upd_ne hda, upd_same], by show 1 ≤ 900; decide, ?_⟩⟩
  have e : upd (upd (upd H d (exd d [(f1, v1)])) a (exo a C (some d))) d (exd d [(f2, v2), (f1, v1)]) = upd (upd H d (exd d [(f2, v2), (f1, v1)])) a (exo a C (some d)) := by
    funext x
    by_cases h1 : x = d
    · subst h1; rw [upd_same, upd_ne hda, upd_same]
    · rw [upd_ne h1]
      by_cases h2 : x = a
      · subst h2; rw [upd_same, upd_same]
      · rw [upd_ne h2, upd_ne h2, upd_ne h1, upd_ne h1]
  rw [e]
  exact hq d hd hda
/-- one value -/
theorem init1 {σ : St} {H F : Hp} {a : Addr} {v1 : V} {f1 : Str} {ts : List TE} {D : Ends} {Q : VK} (T : OexC K C) (n1 : PySem.W.findIn K (.ref C) f1 = some none)
    (s0 : σ[0]? = some (some (.ref a))) (s1 : σ[1]? = some (some v1)) (ea : H a = some (exo a C none)) (hts : ∀ t ∈ ts, ∀ Q : VK, (∀ y : Str, y.length ≤ 2000 → Q (.str y) H) → t σ H Q) (hl : ts.length ≤ 20)
    (hq : ∀ d, H d = none → d ≠ a → D.nx σ (upd (upd H d (exd d [(f1, v1)])) a (exo a C (some d)))) :
    tSeq (tDrop (tVeI K (tCons (tVar 0) (tCons (fun σ H Q => tJs ts Str.empty σ H fun out H1 => Q (.str out) H1) tNil)))) (tOst K f1 (tVar 0) (tVar 1)) D σ H := by
  refine ⟨.ref a, s0, tJs_run ts hts _ (by show 0 + _ ≤ _; omega) fun out => ⟨a, C, [.str out], rfl, by show 1 ≤ 1000; decide, T, ea, v1, s1, .ref a, s0, a, C, rfl, T, n1, .inl ⟨ea, fun d hd hda => hq d hd hda⟩⟩⟩
end
/-! ### raise C(k = v, ..) -/
/-- what the written part says of such a class -/
structure XCls (K : PySem.W.Frag) (mg : Str → Option Value) (x : Str) (C fI : Addr) : Prop where
  g : mg x = some (.ref C)
  oex : OexC K C
  iC : PySem.W.findIn K (.ref C) "__init__" = some (some (.ref fI))
  tI : PySem.W.typeIn K (.ref fI) = some (.type "function")
def gRaise (cls : Str) (fs : List Str) (gl : M (List PyData)) : S := gE gl fun ds env => if ds.length = fs.length ∧ ds.all printable = true then some (.er ⟨cls, some ((fs.zip ds).reverse)⟩ env) else none
abbrev SK (X : Cx) (W : WX) (kws : List Keyword) (g : M (List PyData)) : Prop := PK X kws (tG X.K X.mg (okA X.K) W g)
theorem pk_imp {X : Cx} {kws : List Keyword} {t t' : TA} (h : PK X kws t) (k : ∀ σ H Q, t' σ H Q → t σ H Q) : PK X kws t' := ⟨fun pos pins s σ H Q I q => h.run pos pins s σ H Q I (k σ H Q q)⟩
theorem fs_ok {K : PySem.W.Frag} {F : Hp} : ∀ {fs : List Str} {vs : List V} {ds : List PyData}, DpAll K F vs ds → FsOk K F (fs.zip vs) (fs.zip ds)
  | [], _, _, _ => by simp [FsOk]
  | _ :: _, _, _, .nil => by simp [FsOk]
  | f :: fs, _, _, .cons a r => ⟨rfl, a, fs_ok r⟩
theorem fs_app {K : PySem.W.Frag} {F : Hp} : ∀ {a a' : List (Str × V)} {b b' : List (Str × PyData)}, FsOk K F a b → FsOk K F a' b' → FsOk K F (a ++ a') (b ++ b')
  | [], _, [], _, _, h => h
  | [], _, _ :: _, _, h, _ => h.elim
  | _ :: _, _, [], _, h, _ => by simp [FsOk] at h
  | (f, v) :: a, _, (g, d) :: b, _, ⟨h1, h2, h3⟩, h => ⟨h1, h2, fs_app h3 h⟩
theorem fs_rev {K : PySem.W.Frag} {F : Hp} : ∀ {a : List (Str × V)} {b : List (Str × PyData)}, FsOk K F a b → FsOk K F a.reverse b.reverse
  | [], [], _ => trivial
  | [], _ :: _, h => h.elim
  | _ :: _, [], h => by simp [FsOk] at h
  | (f, v) :: a, (g, d) :: b, ⟨h1, h2, h3⟩ => by
    rw [List.reverse_cons, List.reverse_cons]
    exact fs_app (fs_rev h3) ⟨h1, h2, trivial⟩
section
variable {X : Cx} {W : WX} {e : Expr} {kws : List Keyword} {ga : M PyData} {gl : M (List PyData)} {nm : Option Str} {p kpos pos pos2 : Pos} {x : Str} {C fI : Addr}
theorem sk_nil : SK X W [] (M.ok []) := pk_imp pk_nil fun σ H Q ⟨C, F, env, R, h⟩ => aft (ok := okA X.K) h R .nil
theorem sk_cons (ha : SV X W e ga) (hr : SK X W kws gl) : SK X W (⟨nm, e, kpos⟩ :: kws) (M.bd ga fun d => M.bd gl fun ds => M.ok (d :: ds)) :=
  pk_imp (pk_cons ha hr) fun σ H Q ⟨C, F, env, R, h⟩ => tG_bd R h fun d env1 v F1 H1 R1 e1 o1 h1 => tG_bd R1 h1 fun ds env2 vs F2 H2 R2 e2 o2 h2 => aft (ok := okA X.K) h2 R2 (.cons (dp_mono e2 o1) o2)
theorem ss_raise {k : Nat} {fd : FuncData} {ps fs : List Str} (hc : X.calm = true) (tk : Takes X W) (Cl : XCls X.K X.mg x C fI) (F1 : FnOk X.prog X.w X.K X.mg X.base (L2.CX X.prog X.w) k fI fd ps (spInit X.K C fs)) (hr : Room (k + 1) X.A)
    (hb : ∀ (s : Shared) (u : Value) (ws : List Value), ws.length = fs.length → BindsTo s fd ⟨[u], fs.zip ws⟩ (ps.zip (u :: ws))) (hkw : SK X W kws gl)
    (hg : Gl X x := by rfl) (hdb : (x == ("__debug__" : Str)) = false := by decide) (hall : (backToKw pos (keywordEach kws X.env)).all (·.1.isSome) = true := by rfl) (hks : (backToKw pos (keywordEach kws X.env)).filterMap (·.1) = fs := by rfl)
    (hpl : ((backTo pos (starEach [] X.env)).any (·.1) || (backToKw pos (keywordEach kws X.env)).any (·.1.isNone)) = false := by rfl) :
    SS X W (.Raise (some (.Call (.Name x p) [] kws pos)) none pos2) (gRaise x fs gl) :=
  ps_imp (ps_raise hc tk (pmk_oexK Cl.oex Cl.iC Cl.tI F1 hr hb (fun _ _ _ _ _ _ _ c => by
      obtain ⟨_, _, _, _, _, _, _, _, _, _, _, _, z⟩ := c
      exact z.elim) Cl.g hkw hg hdb hall hks hpl)) fun D σ H ⟨Cn, F, env, R, h⟩ => tE_bd R h fun ds env1 vs F1 H1 R1 e1 o1 h1 => by
    have o1 : DpAll X.K F1 vs ds := o1
    split at h1
    · rename_i hd
      refine ⟨by rw [o1.len]; exact hd.1, fun a ha => ⟨a, vs, F1, ds, rfl, Cl.oex, upd_same, (R1.fresh ha).1, fun b o q => by rw [upd_ne (ne_of_none (R1.fh b o q) ha)]; exact R1.fh b o q, o1, hd.1, hd.2, fun d hdn hda => ⟨rfl, d, _, upd_same, by rw [upd_ne hda, upd_same], ?_, ?_⟩⟩⟩
      · have q : upd H1 a (exo a C none) d = none := hdn
        rw [upd_ne hda] at q
        exact q
      · have hd1 : H1 d = none := by
          have q : upd H1 a (exo a C none) d = none := hdn
          rw [upd_ne hda] at q
          exact q
        have e : upd (del (upd (upd (upd H1 a (exo a C none)) d (exd d (fs.zip vs).reverse)) a (exo a C (some d))) a) d (.xd (fs.zip vs).reverse) = upd H1 d (.xd (fs.zip vs).reverse) := by
          funext z
          by_cases h1 : z = d
          · subst h1; rw [upd_same, upd_same]
          · rw [upd_ne h1, upd_ne h1]
            by_cases h2 : z = a
            · subst h2; rw [del_same]; exact ha.symm
            · rw [del_ne h2, upd_ne h2, upd_ne h1, upd_ne h2]
        rw [e]
        have R2 := R1.newF (o := .xd (fs.zip vs).reverse) hd1
        have exd := Ex.new (o := .xd (fs.zip vs).reverse) (R1.fresh hd1).1
        exact h1 σ _ _ (.ref C) (some d) R2 exd ⟨Cl.g, d, _, rfl, upd_same, fs_rev (fs_ok (dps_mono exd o1))⟩
    · exact h1.elim
end
end Pf
/-! part PfP -/
set_option Elab.async false
set_option linter.all false
set_option maxRecDepth 100000
set_option maxHeartbeats 2000000
namespace Pf
open PySem PySem.Spec L2 Evl
theorem tE_bg {K : PySem.W.Frag} {mg : Str → Option Value} {W : WX} {C C' : Cn} {F : Hp} {σ : St} {H : Hp} {env : En} {α β : Type} {ok : OkR α β} {g : M α} {f : α → S} {D : Ends} {Q1 : β → Hp → Prop} (R : Rel K C' F σ H env) (back : ∀ F' H' env', Rel K C' F' σ H' env' → Rel K C F' σ H' env') (h : AftS K mg W C F (gE g f env) D)
    (k : ∀ d env' b F' H', Rel K C' F' σ H' env' → Ex F F' → ok C' F' σ H' env' d b → AftS K mg W C F' (f d env') D → Q1 b H') : tG K mg ok W g σ H Q1 := by
  refine ⟨C', F, env, R, ?_⟩
  unfold gE at h
  cases q : g env with
  | none => rw [q] at h; exact h
  | some r =>
    rw [q] at h
    cases r with
    | error x => obtain ⟨x, env'⟩ := x; exact fun F' H' cls dx R' => h σ F' H' cls dx (back _ _ _ R')
    | ok y =>
      obtain ⟨d, env'⟩ := y
      exact fun b F' H' R' e o => k d env' b F' H' R' e o (AftS.up h e)
section
variable {X : Cx} {W : WX} {a b c : Expr} {x y z : Str} {g1 g2 gl : M (List PyData)} {pos : Pos}
theorem ss_par3 {i j l : Nat} {px py pz pt : Pos} {kt k2 pt2} (hc : X.calm = true) (hN : X.N.Nodup) (hi : X.N[i]? = some x) (hj : X.N[j]? = some y) (hl : X.N[l]? = some z) (hij : i ≠ j) (hil : i ≠ l) (hjl : j ≠ l)
    (hx : X.env.scope.names.lookup x = some .local) (hy : X.env.scope.names.lookup y = some .local) (hz : X.env.scope.names.lookup z = some .local) (ha : SA X W [a, b, c] gl)
    (hw : swappedStores [.Tuple [.Name x px, .Name y py, .Name z pz] kt pt] (.Tuple [a, b, c] k2 pt2) X.env = pure (some [x, y, z]))
    (hs : swapsWithSole [.Tuple [.Name x px, .Name y py, .Name z pz] kt pt] (.Tuple [a, b, c] k2 pt2) pos.line X.env = pure false := by rfl) :
    SS X W (.Assign [.Tuple [.Name x px, .Name y py, .Name z pz] kt pt] (.Tuple [a, b, c] k2 pt2) pos) (gE gl (gPar3 i j l)) :=
  ps_imp (ps_par3 hc hN hi hj hl hij hil hjl hx hy hz ha hw hs) fun D σ H ⟨C, F, env, R, h⟩ => tE_bd R h fun ds env1 vs F1 H1 R1 e1 o1 h1 => by
    have o1 : DpAll X.K F1 vs ds := o1
    cases o1 with
    | nil => exact h1.elim
    | cons a1 r1 =>
      cases r1 with
      | nil => exact h1.elim
      | cons a2 r2 =>
        cases r2 with
        | nil => exact h1.elim
        | cons a3 r3 =>
          cases r3 with
          | nil => exact ⟨_, _, _, rfl, h1 _ F1 H1 (((R1.store i a1).store j a2).store l a3) (Ex.refl _)⟩
          | cons _ _ => exact h1.elim
/-- two new lists -/
def gParOO (i j : Nat) (g1 g2 : M (List PyData)) : S := gE g1 fun ds => gE g2 fun es env => some (.nx ((env.set i (.own ds)).set j (.own es)))
theorem ss_parOO {i j : Nat} {px py pt : Pos} {kt k2 pt2} (hc : X.calm = true) (hN : X.N.Nodup) (hi : X.N[i]? = some x) (hj : X.N[j]? = some y) (hij : i ≠ j)
    (hx : X.env.scope.names.lookup x = some .local) (hy : X.env.scope.names.lookup y = some .local) (ha : SO X W a g1) (hb : SO X W b g2)
    (hw : swappedStores [.Tuple [.Name x px, .Name y py] kt pt] (.Tuple [a, b] k2 pt2) X.env = pure (some [x, y]))
    (hs : swapsWithSole [.Tuple [.Name x px, .Name y py] kt pt] (.Tuple [a, b] k2 pt2) pos.line X.env = pure false := by rfl)
    (h1 : starEach [a, b] X.env = (false, eval a X.env) :: starEach [b] X.env := by rfl) (h2 : starEach [b] X.env = (false, eval b X.env) :: starEach [] X.env := by rfl) :
    SS X W (.Assign [.Tuple [.Name x px, .Name y py] kt pt] (.Tuple [a, b] k2 pt2) pos) (gParOO i j g1 g2) :=
  ps_imp (ps_par hc hN hi hj hij hx hy (pa_cons ha (pa_cons hb pa_nil h2) h1) hw hs) fun D σ H ⟨C, F, env, R, h⟩ => tE_bd R h fun ds env1 v F1 H1 R1 e1 o1 h1 => by
    obtain ⟨p, vs, rfl, a1, a2, a3, a4, a5⟩ := o1
    refine tE_bg (R1.guard a1 a2 a3 a5) (fun F' H' env' r => Rel.unguard R1 a2 r) h1 fun es env2 w F2 H2 R2 e2 o2 h2 => ?_
    obtain ⟨q, ws, rfl, b1, b2, b3, b4, b5⟩ := o2
    have hH : H2 p = some (.lst vs) := R2.guarded (fun b hb => (R1.bd b hb).2.2) a2
    have R3 := Rel.unguard R1 a2 R2
    have b2' : upd C.H p (.lst vs) q = none := b2
    have npq : q ≠ p := fun e => by subst e; rw [upd_same] at b2'; cases b2'
    rw [upd_ne npq] at b2'
    have hf : F2 p = none := by
      cases z : F2 p with
      | none => rfl
      | some u =>
        have hcf : C.F p = none := by
          cases z : C.F p with
          | none => rfl
          | some u => have := R1.cf p u z; rw [a1] at this; cases this
        exact (by have := (Rel.reguard (ys := vs) R1 a2 hcf R2).1; exact this ▸ z ▸ rfl : some u = none).symm ▸ rfl
    have hno : ∀ k, ¬ Owned σ env2 k p := fun k ⟨s, e1, e2, e3⟩ => by
      have t := R2.sl k s e1
      cases s with
      | own es => obtain ⟨p', us, c1, c2, c3, _⟩ := t; rw [e3] at c1; cases c1; have c3 : upd C.H p (.lst vs) p = none := c3; rw [upd_same] at c3; cases c3
      | bor es => obtain ⟨p', us, c1, c2, c3, _⟩ := t; rw [e3] at c1; cases c1; exact (R1.bd p c3).2.2 a2
      | obj ob => obtain ⟨p', c1, c2, c3, _⟩ := t; rw [e3] at c1; cases c1; have c3 : upd C.H p (.lst vs) p = none := c3; rw [upd_same] at c3; cases c3
      | _ => cases e2
    have R4 := R3.storeO i (v := .ref p) (ds := ds) ⟨p, vs, rfl, hf, a2, hH, dps_mono e2 a4, hno⟩
    have hno2 : ∀ k, ¬ Owned (σ.set i (some (.ref p))) (env2.set i (.own ds)) k q := fun k ⟨s, e1, e2, e3⟩ => by
      rcases set_at e1 with ⟨rfl, rfl, _⟩ | ⟨ne, e1⟩
      · have hl : k < σ.length := by
          by_cases h : k < σ.length
          · exact h
          · rw [List.getElem?_eq_none (by rw [List.length_set]; omega)] at e3; cases e3
        rw [List.getElem?_set_self hl] at e3
        exact npq (by cases e3; rfl)
      · rw [List.getElem?_set_ne (fun h => ne h.symm)] at e3
        exact b5 k ⟨s, e1, e2, e3⟩
    have R5 := R4.storeO j (v := .ref q) (ds := es) ⟨q, ws, rfl, b1, b2', b3, b4, hno2⟩
    exact ⟨_, _, rfl, h2 _ F2 H2 R5 (Ex.refl _)⟩
end
end Pf
/-! part PfS -/
set_option Elab.async false
set_option linter.all false
set_option maxRecDepth 100000
set_option maxHeartbeats 2000000
namespace Pf
open PySem PySem.Spec L2 Evl
/-! ### sets of whole numbers: `HO.set` -/
section
variable {X : Cx}
theorem seto_get {pins : List (Addr × Obj)} {σ : L2.St} {H : Hp} {s : Shared} {a : Addr} {S : Int → Bool} {n : Nat} (I : Inv X pins σ H s) (ha : H a = some (.set S n)) : s.heap.SetOf (intKind X.prog X.w) a S n := I.hok a _ ha
def rMkS : List V → Hp → VK → Prop := fun xs H Q => xs = [] ∧ ∀ p, H p = none → Q (.ref p) (upd H p (.set (fun _ => false) 0))
theorem cr_mkS : CallR X (.type "set") rMkS := by
  intro pins s σ H xs us Q I r h
  obtain ⟨rfl, q⟩ := h
  cases r
  refine L2.setR_new fun _ => ?_
  have new : (s.heap.push { cls := .type "set", dict := none, data := .set #[] 0 (.fresh 0 0 (!X.w.params.followText "set-order")) }).SetOf (intKind X.prog X.w) s.heap.objs.size (fun _ => false) 0 :=
    ⟨_, #[], 0, _, Heap.get?_push_size _ rfl, ⟨rfl, rfl, rfl⟩, rfl, (fun e he => by simp at he), (fun k => by simp), (by decide), (by rfl), rfl⟩
  exact ⟨.ref _, upd H s.heap.objs.size (.set (fun _ => false) 0), I.laid (t' := s.toks) (fun b u e => Heap.get?_push_of_some _ e) (Nat.le_refl _) new, rfl, q _ (I.hok.fresh (Nat.le_refl _))⟩
def addS (S : Int → Bool) (k : Int) : Int → Bool := fun j => S j || decide (j = k)
def cntS (S : Int → Bool) (n : Nat) (k : Int) : Nat := if S k = true then n else n + 1
def rPutS : V → List V → Hp → VK → Prop := fun x xs H Q => ∃ (a : Addr) (k : Int) (S : Int → Bool) (n : Nat), x = V.ref a ∧ xs = [V.int k] ∧ H a = some (.set S n) ∧ n + 1 < 4096 ∧ Q .non (upd H a (.set (addS S k) (cntS S n k)))
theorem mt_putS : MtR X "set.add" rPutS := by
  intro pins s σ H x xs v us Q I rx rxs h
  obtain ⟨a, k, S, n, rfl, rfl, ha, room, q⟩ := h
  cases rx
  cases rxs with
  | cons ry rt =>
    cases rt
    obtain ⟨tk, rfl⟩ := ry
    refine call_set_add (intKind_is _ _ _ _) rfl (seto_get I ha) room fun h' sb new => ?_
    have he : ∃ u, h'.get? a = some u := by
      have ⟨o, _, _, _, ho, _⟩ := new
      exact ⟨o, ho⟩
    exact ⟨.non, upd H a (.set (addS S k) (cntS S n k)), I.write (e := a) (t' := s.toks + 1) (by rw [ha]; trivial) (.inl rfl) (fun b u hb hu => (sb.2 b hb).trans hu) he new, rfl, q⟩
def tPutS (to : TE) (t : TA) : TE := fun σ H Q => to σ H fun x H1 => (∃ a S n, x = V.ref a ∧ H1 a = some (.set S n)) ∧ t σ H1 fun xs H2 => rPutS x xs H2 Q
variable {o e : Expr} {es : List Expr} {to : TE} {t : TA} {apos cpos : Pos}
theorem pe_putS (ho : PE X o to) (ha : PA X (e :: es) t)
    (hbase : attributeBase o "add" X.env (eval o X.env) = eval o X.env := by rfl)
    (hfew : ((backTo cpos (starEach (e :: es) X.env)).all (fun x => !x.1) && (backToKw cpos (keywordEach [] X.env)).all (fun x => x.1.isSome)
      && decide ((e :: es).length + ([] : List Keyword).length + (if ([] : List Keyword).isEmpty then 0 else 1) < 30)) = true := by rfl)
    (hline : (apos.endLine == cpos.line) = true := by rfl) (hs : starEach (e :: es) X.env = (false, eval e X.env) :: starEach es X.env := by rfl) (hplain : (backTo cpos (starEach es X.env)).any (·.1) = false := by rfl) :
    PE X (.Call (.Attribute o "add" apos) (e :: es) [] cpos) (tPutS to t) := by
  refine ⟨fun pins s σ H Q I h => ?_⟩
  refine wpAny_Call_method_late hbase hfew hline rfl (thn (ho.run pins s σ H _ I h) fun v s1 ⟨x, H1, I1, r1, ty, q1⟩ => ?_)
  obtain ⟨a, S, n, rfl, hka⟩ := ty
  have hS := seto_get I1 hka
  cases r1
  refine ⟨"set", "set.add", PySem.F.plainAttrs_set, PySem.F.slot_set_add, PySem.F.type_set_add, hS.typeIs, hS.noDict, ?_⟩
  have hA := ha.run cpos pins s1 σ H1 _ I1 q1
  rw [hs] at hA ⊢
  refine Calls.callWith_builtin (by show (false || (backTo cpos (starEach es X.env)).any (·.1)) = false; rw [hplain] <;> rfl) (Calls.evalArgs_plain ?_)
  exact thn hA fun us s2 ⟨vs, H2, I2, r2, q2⟩ => mt_putS pins s2 σ H2 (.ref a) vs (.ref a) us Q I2 rfl r2 q2
def rHasS (neg : Bool) : V → V → Hp → VK → Prop := fun x y H Q => ∃ (k : Int) (a : Addr) (S : Int → Bool) (n : Nat), x = V.int k ∧ y = V.ref a ∧ H a = some (.set S n) ∧ Q (.bl (if neg then !S k else S k)) H
theorem or_hasS : OpR X (compareOp .In) (rHasS false) := by
  intro pins s σ H x y v u Q I rx ry h
  obtain ⟨k, a, S, n, rfl, rfl, ha, q⟩ := h
  obtain ⟨tk, rfl⟩ := rx
  cases ry
  exact wpAny_inSet_of (intKind_is _ _ _ _) rfl (seto_get I ha) ⟨.bl (S k), H, I.tok _, rfl, q⟩
theorem or_hasnS : OpR X (compareOp .NotIn) (rHasS true) := by
  intro pins s σ H x y v u Q I rx ry h
  obtain ⟨k, a, S, n, rfl, rfl, ha, q⟩ := h
  obtain ⟨tk, rfl⟩ := rx
  cases ry
  exact wpAny_notInSet_of (intKind_is _ _ _ _) rfl (seto_get I ha) ⟨.bl (!S k), H, I.tok _, rfl, q⟩
end
/-! ### slots that hold one -/
section
variable {K : PySem.W.Frag} {mg : Str → Option Value} {W : WX} {C : Cn} {F : Hp} {σ : L2.St} {H : Hp} {env : En} {i : Nat}
theorem Rel.storeB (R : Rel K C F σ H env) (i : Nat) {p : Addr} {o : HO} (h1 : F p = none) (h2 : C.H p = none) (h3 : H p = some o) (h5 : ∀ k, ¬ Owned σ env k p) : Rel K C F (σ.set i (some (.ref p))) H (env.set i (.obj o)) where
  fh := R.fh
  cf := R.cf
  new := R.new
  pres := R.pres
  bd := R.bd
  sl := fun j s hj => by
    rcases set_at hj with ⟨rfl, rfl, hl⟩ | ⟨ne, hj⟩
    · rw [List.getElem?_set_self (by rw [← R.len]; exact hl)]; exact ⟨p, rfl, h1, h2, h3⟩
    · rw [List.getElem?_set_ne (Ne.symm ne)]; exact R.sl j s hj
  dis := fun j k q o1 o2 => by
    obtain ⟨s1, e1, b1, a1⟩ := o1
    obtain ⟨s2, e2, b2, a2⟩ := o2
    rcases set_at e1 with ⟨rfl, rfl, l1⟩ | ⟨n1, f1⟩
    · rw [List.getElem?_set_self (by rw [← R.len]; exact l1)] at a1
      cases a1
      rcases set_at e2 with ⟨rfl, rfl, _⟩ | ⟨n2, f2⟩
      · rfl
      · rw [List.getElem?_set_ne (Ne.symm n2)] at a2
        exact absurd ⟨s2, f2, b2, a2⟩ (h5 k)
    · rw [List.getElem?_set_ne (Ne.symm n1)] at a1
      rcases set_at e2 with ⟨rfl, rfl, l2⟩ | ⟨n2, f2⟩
      · rw [List.getElem?_set_self (by rw [← R.len]; exact l2)] at a2
        cases a2
        exact absurd ⟨s1, f1, b1, a1⟩ (h5 j)
      · rw [List.getElem?_set_ne (Ne.symm n2)] at a2
        exact R.dis j k q ⟨s1, f1, b1, a1⟩ ⟨s2, f2, b2, a2⟩
  len := by rw [List.length_set, List.length_set]; exact R.len
  tb := R.tb
  nt := R.nt
theorem Rel.noOwn (R : Rel K C F σ H env) {p : Addr} (hp : H p = none) (k : Nat) : ¬ Owned σ env k p := fun ⟨s, e1, e2, e3⟩ => by
  have q := R.sl k s e1
  cases s with
  | own es => obtain ⟨p', ws, a1, a2, a3, a4, a5⟩ := q; rw [e3] at a1; cases a1; rw [hp] at a4; cases a4
  | bor es => obtain ⟨p', ws, a1, a2, a3, a4, a5⟩ := q; rw [e3] at a1; cases a1; rw [hp] at a4; cases a4
  | obj ob => obtain ⟨p', a1, a2, a3, a4⟩ := q; rw [e3] at a1; cases a1; rw [hp] at a4; cases a4
  | _ => cases e2
theorem Rel.storeNew (R : Rel K C F σ H env) (i : Nat) {p : Addr} {o : HO} (hp : H p = none) : Rel K C F (σ.set i (some (.ref p))) (upd H p o) (env.set i (.obj o)) := by
  have f := R.fresh hp
  exact (R.newH (o := o) hp).storeB i f.1 f.2 upd_same (R.noOwn hp)
theorem Rel.writeB {p : Addr} {o o' : HO} (R : Rel K C F σ H env) (h : env[i]? = some (.obj o)) (hp : σ[i]? = some (some (.ref p))) (hno : (∀ ps, o ≠ .tbl ps) ∧ ∀ c q, o ≠ LamX.CodeO c q) : Rel K C F σ (upd H p o') (env.set i (.obj o')) := by
  obtain ⟨p', b1, b2, b3, b4⟩ := R.sl i _ h
  rw [hp] at b1
  cases b1
  exact {
    fh := R.fh.mut b2
    cf := R.cf
    new := R.new
    pres := fun a u q hb => by
      have ne : a ≠ p := fun e => by subst e; rw [b3] at q; cases q
      rw [upd_ne ne]; exact R.pres a u q hb
    bd := fun b hb => by
      refine ⟨?_, (R.bd b hb).2⟩
      by_cases ne : b = p
      · subst ne; rw [upd_same]; simp
      · rw [upd_ne ne]; exact (R.bd b hb).1
    sl := fun j s' hj => by
      rcases set_at hj with ⟨rfl, rfl, _⟩ | ⟨ne, hj⟩
      · exact ⟨p, hp, b2, b3, upd_same⟩
      · have q := R.sl j s' hj
        have np : ∀ p', isOwn s' = true → σ[j]? = some (some (.ref p')) → p' ≠ p := fun p' o a e => ne (R.dis j i p ⟨s', hj, o, by rw [← e]; exact a⟩ ⟨_, h, rfl, hp⟩)
        cases s' with
        | no => trivial
        | val d => exact q
        | own es => obtain ⟨p', ws, a1, a2, a3, a4, a5⟩ := q; exact ⟨p', ws, a1, a2, a3, by rw [upd_ne (np p' rfl a1)]; exact a4, a5⟩
        | bor es => obtain ⟨p', ws, a1, a2, a3, a4, a5⟩ := q; exact ⟨p', ws, a1, a2, a3, by rw [upd_ne (np p' rfl a1)]; exact a4, a5⟩
        | obj ob => obtain ⟨p', a1, a2, a3, a4⟩ := q; exact ⟨p', a1, a2, a3, by rw [upd_ne (np p' rfl a1)]; exact a4⟩
        | raw v => exact q
        | exc a dd fs => exact q
        | tab T => exact q
    dis := fun j k q o1 o2 => by
      have back : ∀ {j : Nat}, Owned σ (env.set i (.obj o')) j q → Owned σ env j q := fun {j} o => by
        obtain ⟨s1, e1, b1, a1⟩ := o
        rcases set_at e1 with ⟨rfl, rfl, _⟩ | ⟨ne1, e1⟩
        · exact ⟨_, h, rfl, a1⟩
        · exact ⟨s1, e1, b1, a1⟩
      exact R.dis j k q (back o1) (back o2)
    len := by rw [List.length_set]; exact R.len
    nt := R.nt
    tb := fun q hq => by
      obtain ⟨ps, t1, t2, t3⟩ := R.tb q hq
      have ne : ∀ a u, H a = some u → u ≠ o → a ≠ p := fun a u e n z => by subst z; rw [b4] at e; cases e; exact n rfl
      refine ⟨ps, by rw [upd_ne (ne _ _ t1 (fun z => hno.1 _ z.symm))]; exact t1, t2, fun pos cv hc => ?_⟩
      obtain ⟨c, e1, e2⟩ := t3 pos cv hc
      exact ⟨c, e1, by rw [upd_ne (ne _ _ e2 (fun z => hno.2 _ _ z.symm))]; exact e2⟩ }
end
theorem set_plain (S : Int → Bool) (n : Nat) : (∀ ps, HO.set S n ≠ .tbl ps) ∧ ∀ c q, HO.set S n ≠ LamX.CodeO c q := ⟨(fun _ z => by cases z), fun _ _ z => by unfold LamX.CodeO at z; cases z⟩
/-- the set that a slot holds -/
def setAt (env : En) (i : Nat) : Option ((Int → Bool) × Nat) := match env[i]? with
  | some (.obj (.set S n)) => some (S, n)
  | _ => none
theorem setAt_some {env : En} {i : Nat} {S : Int → Bool} {n : Nat} (h : setAt env i = some (S, n)) : env[i]? = some (.obj (.set S n)) := by
  unfold setAt at h
  split at h
  · cases h; assumption
  · cases h
def gMkS (i : Nat) : S := fun env => some (.nx (env.set i (.obj (.set (fun _ => false) 0))))
def gHasS (i : Nat) (ga : M PyData) : M Bool := M.bd ga fun d env => match d, setAt env i with
  | .int k, some (S, _) => some (.ok (S k, env))
  | _, _ => none
def gAddS (i : Nat) (ga : M PyData) : S := fun env => match setAt env i with
  | none => none
  | some _ => gE ga (fun d env => match d, setAt env i with
    | .int k, some (S, n) => if n + 1 < 4096 then some (.nx (env.set i (.obj (.set (addS S k) (cntS S n k))))) else none
    | _, _ => none) env
section
variable {X : Cx} {W : WX} {e a : Expr} {ga : M PyData} {pos pos' p p1 p2 apos : Pos} {x : Str}
theorem ss_mkS (i : Nat) (hg : Gl X "set") (hm : X.mg "set" = none) (hN : X.N.Nodup) (hi : X.N[i]? = some x := by rfl) (hx : Loc X.env.scope x := by first | exact Or.inl rfl | exact Or.inr rfl) (hs : swapsWith (.Call (.Name "set" p) [] [] p1) (some (.Name x pos')) pos.line X.env = pure false := by rfl)
    (hf : X.fn x = true ∨ X.env.scope.names.lookup x = some .local := by first | exact .inl rfl | exact .inr rfl | assumption) : SS X W (.Assign [.Name x pos'] (.Call (.Name "set" p) [] [] p1) pos) (gMkS i) :=
  ps_imp (ps_set hN hi hx (pe_callTy0 cr_mkS hg hm (by decide +kernel)) hs hf) fun D σ H ⟨C, F, env, R, h⟩ => ⟨rfl, fun q hq => h _ F _ (R.storeNew i hq) (Ex.refl _)⟩
theorem st_hasS (i : Nat) (ha : SV X W a ga) (hN : X.N[i]? = some x := by rfl) (hv : Vis X.env.scope x := by first | exact Or.inl rfl | exact Or.inr (Or.inl rfl) | exact Or.inr (Or.inr rfl))
    (hd : (x == ("__debug__" : Str)) = false := by decide) (hcd : (x == ("__classdict__" : Str)) = false := by decide) (hm : behindInMarks .In (.Name x p) = false := by rfl) : ST X W (.Compare a [.In] [.Name x p] pos) (gHasS i ga) :=
  pt_imp (pt_cmpR or_hasS ha (pe_var hN hv hd hcd) hm) fun σ H Q ⟨C, F, env, R, h⟩ => tG_bd R h fun d env1 v F1 H1 R1 e1 o1 h1 => by
    cases o1 with
    | int k =>
      cases q : setAt env1 i with
      | none => rw [q] at h1; exact h1.elim
      | some z =>
        obtain ⟨S, n⟩ := z
        rw [q] at h1
        obtain ⟨r, a1, a2, a3, a4⟩ := R1.sl i _ (setAt_some q)
        exact ⟨.ref r, a1, k, r, S, n, rfl, rfl, a4, S k, rfl, aft (ok := okB) h1 R1 rfl⟩
    | _ => exact h1.elim
theorem ss_addS (i : Nat) (he : SV X W e ga) (hN : X.N[i]? = some x := by rfl) (hvis : Vis X.env.scope x := by first | exact Or.inl rfl | exact Or.inr (Or.inl rfl) | exact Or.inr (Or.inr rfl))
    (hd : (x == ("__debug__" : Str)) = false := by decide) (hcd : (x == ("__classdict__" : Str)) = false := by decide)
    (hbase : attributeBase (.Name x p1) "add" X.env (eval (.Name x p1) X.env) = eval (.Name x p1) X.env := by rfl)
    (hfew : ((backTo p2 (starEach [e] X.env)).all (fun x => !x.1) && (backToKw p2 (keywordEach [] X.env)).all (fun x => x.1.isSome)
      && decide ([e].length + ([] : List Keyword).length + (if ([] : List Keyword).isEmpty then 0 else 1) < 30)) = true := by rfl)
    (hline : (apos.endLine == p2.line) = true := by rfl) (hs : starEach [e] X.env = (false, eval e X.env) :: starEach [] X.env := by rfl) (hplain : (backTo p2 (starEach [] X.env)).any (·.1) = false := by rfl)
    (hsw : swapsWith (.Call (.Attribute (.Name x p1) "add" apos) [e] [] p2) none pos.line X.env = pure false := by rfl) :
    SS X W (.Expr (.Call (.Attribute (.Name x p1) "add" apos) [e] [] p2) pos) (gAddS i ga) :=
  ps_imp (ps_expr (pe_putS (pe_var hN hvis hd hcd) (pa_cons he pa_nil hs) hbase hfew hline hs hplain) hsw) fun D σ H ⟨C, F, env, R, h⟩ => by
    unfold gAddS at h
    cases q : setAt env i with
    | none => rw [q] at h; exact h.elim
    | some z =>
      obtain ⟨S, n⟩ := z
      rw [q] at h
      obtain ⟨r, a1, a2, a3, a4⟩ := R.sl i _ (setAt_some q)
      refine ⟨.ref r, a1, ⟨r, S, n, rfl, a4⟩, tE_bd R h fun d env1 v F1 H1 R1 e1 o1 h1 => ?_⟩
      cases o1 with
      | int k =>
        cases q1 : setAt env1 i with
        | none => rw [q1] at h1; exact h1.elim
        | some z =>
          obtain ⟨S1, n1⟩ := z
          rw [q1] at h1
          obtain ⟨r1, b1, b2, b3, b4⟩ := R1.sl i _ (setAt_some q1)
          rw [a1] at b1
          cases b1
          have h1 : AftS X.K X.mg W C F1 (if n1 + 1 < 4096 then some (.nx (env1.set i (.obj (.set (addS S1 k) (cntS S1 n1 k))))) else none) D := h1
          by_cases hl : n1 + 1 < 4096
          · rw [if_pos hl] at h1
            exact ⟨r, k, S1, n1, rfl, rfl, b4, hl, h1 _ F1 _ (R1.writeB (setAt_some q1) a1 (set_plain _ _)) (Ex.refl _)⟩
          · rw [if_neg hl] at h1
            exact h1.elim
      | _ => exact h1.elim
end
end Pf
/-! part PfR -/
set_option Elab.async false
set_option linter.all false
set_option maxRecDepth 100000
set_option maxHeartbeats 2000000
namespace Pf
open PySem PySem.Spec L2 Evl
/-! ### a region of new objects, held aside -/
def ovr (G H : Hp) : Hp := fun a => match G a with
  | some o => some o
  | none => H a
theorem ovr_some {G H : Hp} {a : Addr} {o : HO} (h : G a = some o) : ovr G H a = some o := by unfold ovr; rw [h]
theorem ovr_none {G H : Hp} {a : Addr} (h : G a = none) : ovr G H a = H a := by unfold ovr; rw [h]
def Cn.over (C : Cn) (G : Hp) : Cn := { C with H := ovr G C.H }
def GI (C : Cn) (G : Hp) : Prop := ∀ a o, G a = some o → C.H a = none ∧ C.F a = none
def CB (C : Cn) : Prop := ∀ b ∈ C.B, C.H b ≠ none
section
variable {K : PySem.W.Frag} {C : Cn} {F : Hp} {σ : L2.St} {H G : Hp} {env : En}
theorem Rel.cb (R : Rel K C F σ H env) : CB C := fun b hb => (R.bd b hb).2.2
theorem lst_upd {G : Hp} (l : ∀ a o, G a = some o → ∃ xs, o = .lst xs) (p : Addr) (ys : List V) : ∀ a o, upd G p (.lst ys) a = some o → ∃ xs, o = .lst xs := fun a o q => by
  by_cases e : a = p
  · subst e; rw [upd_same] at q; exact ⟨ys, (Option.some.inj q).symm⟩
  · rw [upd_ne e] at q; exact l a o q
theorem lst_nt {G : Hp} (l : ∀ a o, G a = some o → ∃ xs, o = HO.lst xs) : ∀ a o, G a = some o → ∀ ps, o ≠ .tbl ps := fun a o q ps z => by
  obtain ⟨xs, e⟩ := l a o q
  subst e; cases z
theorem Rel.over (hL : ∀ a o, G a = some o → ∃ xs, o = HO.lst xs) (R : Rel K C F σ H env) (hG : ∀ a o, G a = some o → F a = none ∧ C.H a = none ∧ H a = some o ∧ ∀ i, ¬ Owned σ env i a) : Rel K (C.over G) F σ H env where
  fh := R.fh
  cf := R.cf
  new := fun a h1 h2 => by
    cases q : G a with
    | some o => exact absurd (hG a o q).1 h2
    | none => show ovr G C.H a = none; rw [ovr_none q]; exact R.new a h1 h2
  pres := fun a o h hb => by
    have h : ovr G C.H a = some o := h
    cases q : G a with
    | some o' => rw [ovr_some q] at h; cases h; exact (hG a _ q).2.2.1
    | none => rw [ovr_none q] at h; exact R.pres a o h hb
  bd := fun b hb => by
    obtain ⟨a1, a2, a3⟩ := R.bd b hb
    refine ⟨a1, a2, ?_⟩
    show ovr G C.H b ≠ none
    cases q : G b with
    | some o => rw [ovr_some q]; simp
    | none => rw [ovr_none q]; exact a3
  sl := fun i s hs => by
    have q := R.sl i s hs
    have key : ∀ p, isOwn s = true → σ[i]? = some (some (.ref p)) → C.H p = none → ovr G C.H p = none := fun p ho hp hc => by
      cases g : G p with
      | some o => exact absurd ⟨s, hs, ho, hp⟩ ((hG p o g).2.2.2 i)
      | none => rw [ovr_none g]; exact hc
    cases s with
    | no => trivial
    | val d => exact q
    | own ds => obtain ⟨p', vs, a1, a2, a3, a4, a5⟩ := q; exact ⟨p', vs, a1, a2, key p' rfl a1 a3, a4, a5⟩
    | bor ds => exact q
    | obj ob => obtain ⟨p', a1, a2, a3, a4⟩ := q; exact ⟨p', a1, a2, key p' rfl a1 a3, a4⟩
    | raw v => exact q
    | exc a dd fs => exact q
    | tab T =>
      refine ⟨q.1, fun a ps z => ?_⟩
      have z : ovr G C.H a = some (.tbl ps) := z
      cases e : G a with
      | some u => rw [ovr_some e] at z; obtain ⟨xs, e2⟩ := hL a u e; rw [e2] at z; cases z
      | none => rw [ovr_none e] at z; exact q.2 a ps z
  dis := R.dis
  len := R.len
  tb := R.tb
  nt := R.nt
theorem Rel.under (hb : CB C) (g : GI C G) (R : Rel K (C.over G) F σ H env) : Rel K C F σ H env where
  fh := R.fh
  cf := R.cf
  new := fun a h1 h2 => by
    have h : ovr G C.H a = none := R.new a h1 h2
    cases q : G a with
    | some o => exact (g a o q).1
    | none => rw [ovr_none q] at h; exact h
  pres := fun a o h hB => by
    have ng : G a = none := by
      cases q : G a with
      | some o' => have := (g a o' q).1; rw [this] at h; cases h
      | none => rfl
    exact R.pres a o (by show ovr G C.H a = some o; rw [ovr_none ng]; exact h) hB
  bd := fun b hB => ⟨(R.bd b hB).1, (R.bd b hB).2.1, hb b hB⟩
  sl := fun i s hs => by
    have q := R.sl i s hs
    have key : ∀ p, ovr G C.H p = none → C.H p = none := fun p hc => by
      cases g' : G p with
      | some o => rw [ovr_some g'] at hc; cases hc
      | none => rw [ovr_none g'] at hc; exact hc
    cases s with
    | no => trivial
    | val d => exact q
    | own ds => obtain ⟨p', vs, a1, a2, a3, a4, a5⟩ := q; exact ⟨p', vs, a1, a2, key p' a3, a4, a5⟩
    | bor ds => exact q
    | obj ob => obtain ⟨p', a1, a2, a3, a4⟩ := q; exact ⟨p', a1, a2, key p' a3, a4⟩
    | raw v => exact q
    | exc a dd fs => exact q
    | tab T =>
      refine ⟨q.1, fun a ps z => q.2 a ps ?_⟩
      show ovr G C.H a = some (.tbl ps)
      cases e : G a with
      | some w => rw [(g a w e).1] at z; cases z
      | none => rw [ovr_none e]; exact z
  dis := R.dis
  len := R.len
  tb := R.tb
  nt := R.nt
theorem Rel.inG (hb : CB C) (g : GI C G) (R : Rel K (C.over G) F σ H env) : ∀ a o, G a = some o → F a = none ∧ C.H a = none ∧ H a = some o ∧ ∀ i, ¬ Owned σ env i a := fun a o h => by
  have hc := g a o h
  have hB : a ∉ C.B := fun z => hb a z hc.1
  refine ⟨?_, hc.1, R.pres a o (ovr_some h) hB, fun i ⟨s, e1, e2, e3⟩ => ?_⟩
  · cases q : F a with
    | none => rfl
    | some u =>
      have z : ovr G C.H a = none := R.new a hc.2 (by rw [q]; simp)
      rw [ovr_some h] at z; cases z
  · have q := R.sl i s e1
    cases s with
    | own es => obtain ⟨p', ws, a1, a2, a3, _⟩ := q; rw [e3] at a1; cases a1; have a3 : ovr G C.H a = none := a3; rw [ovr_some h] at a3; cases a3
    | bor es => obtain ⟨p', ws, a1, a2, a3, _⟩ := q; rw [e3] at a1; cases a1; exact hB a3
    | obj ob => obtain ⟨p', a1, a2, a3, _⟩ := q; rw [e3] at a1; cases a1; have a3 : ovr G C.H a = none := a3; rw [ovr_some h] at a3; cases a3
    | _ => cases e2
/-- an object that nobody holds is changed -/
theorem Rel.mut {p : Addr} {o : HO} {xs : List V} (R : Rel K C F σ H env) (hT : H p = some (.lst xs)) (hF : F p = none) (hC : C.H p = none) (hno : ∀ i, ¬ Owned σ env i p) : Rel K C F σ (upd H p o) env where
  fh := R.fh.mut hF
  cf := R.cf
  new := R.new
  pres := fun a u q hb => by rw [upd_ne (ne_of_none q hC)]; exact R.pres a u q hb
  bd := fun b hb => by
    refine ⟨?_, (R.bd b hb).2⟩
    have ne : b ≠ p := fun e => (R.bd b hb).2.2 (by rw [e]; exact hC)
    rw [upd_ne ne]; exact (R.bd b hb).1
  sl := fun i s hs => by
    have q := R.sl i s hs
    have np : ∀ p', isOwn s = true → σ[i]? = some (some (.ref p')) → p' ≠ p := fun p' ho a e => hno i ⟨s, hs, ho, by rw [← e]; exact a⟩
    cases s with
    | no => trivial
    | val d => exact q
    | own es => obtain ⟨p', ws, a1, a2, a3, a4, a5⟩ := q; exact ⟨p', ws, a1, a2, a3, by rw [upd_ne (np p' rfl a1)]; exact a4, a5⟩
    | bor es => obtain ⟨p', ws, a1, a2, a3, a4, a5⟩ := q; exact ⟨p', ws, a1, a2, a3, by rw [upd_ne (np p' rfl a1)]; exact a4, a5⟩
    | obj ob => obtain ⟨p', a1, a2, a3, a4⟩ := q; exact ⟨p', a1, a2, a3, by rw [upd_ne (np p' rfl a1)]; exact a4⟩
    | raw v => exact q
    | exc a dd fs => exact q
    | tab T => exact q
  dis := R.dis
  len := R.len
  nt := R.nt
  tb := tabs_lst R.tb hT fun a u ne e => by rw [upd_ne ne]; exact e
theorem GI.upd {p : Addr} {o o' : HO} (g : GI C G) (h : G p = some o) : GI C (upd G p o') := fun a u q => by
  by_cases e : a = p
  · subst e; exact g a o h
  · rw [upd_ne e] at q; exact g a u q
theorem Rel.mutG {p : Addr} {xs ys : List V} (hL : ∀ a o, G a = some o → ∃ xs, o = HO.lst xs) (hb : CB C) (g : GI C G) (h : G p = some (.lst xs)) (R : Rel K (C.over G) F σ H env) : Rel K (C.over (upd G p (.lst ys))) F σ (upd H p (.lst ys)) env := by
  have f := R.inG hb g
  have fp := f p _ h
  refine Rel.over (lst_upd hL p ys) ((R.under hb g).mut (o := .lst ys) fp.2.2.1 fp.1 fp.2.1 fp.2.2.2) fun a u q => ?_
  by_cases e : a = p
  · subst e; rw [upd_same] at q; cases q; exact ⟨fp.1, fp.2.1, upd_same, fp.2.2.2⟩
  · rw [upd_ne e] at q ⊢; exact f a u q
/-- a new list is held aside, too -/
theorem Rel.addG {ds : List PyData} {v : V} (hL : ∀ a o, G a = some o → ∃ xs, o = HO.lst xs) (hb : CB C) (g : GI C G) (R : Rel K (C.over G) F σ H env) (h : okO K (C.over G) F σ H env ds v) (hcf : Ex C.F F) :
    ∃ p vs, v = .ref p ∧ G p = none ∧ DpAll K F vs ds ∧ GI C (upd G p (.lst vs)) ∧ Rel K (C.over (upd G p (.lst vs))) F σ H env := by
  obtain ⟨p, vs, rfl, h1, h2, h3, h4, h5⟩ := h
  have h2 : ovr G C.H p = none := h2
  have gp : G p = none := by
    cases q : G p with
    | some o => rw [ovr_some q] at h2; cases h2
    | none => rfl
  rw [ovr_none gp] at h2
  have cp : C.F p = none := by
    cases q : C.F p with
    | none => rfl
    | some u => have := hcf p u q; rw [h1] at this; cases this
  have f := R.inG hb g
  refine ⟨p, vs, rfl, gp, h4, fun a u q => ?_, Rel.over (lst_upd hL p vs) (R.under hb g) fun a u q => ?_⟩
  · by_cases e : a = p
    · subst e; exact ⟨h2, cp⟩
    · rw [upd_ne e] at q; exact g a u q
  · by_cases e : a = p
    · subst e; rw [upd_same] at q; cases q; exact ⟨h1, h2, h3, h5⟩
    · rw [upd_ne e] at q; exact f a u q
/-- what was held aside becomes known -/
theorem Rel.freezeG (hL : ∀ a o, G a = some o → ∀ ps, o ≠ .tbl ps) (hb : CB C) (g : GI C G) (R : Rel K (C.over G) F σ H env) : Ex F (ovr G F) ∧ Rel K C (ovr G F) σ H env := by
  have f := R.inG hb g
  have ex : Ex F (ovr G F) := fun a o q => by
    cases z : G a with
    | some u => rw [(f a u z).1] at q; cases q
    | none => rw [ovr_none z]; exact q
  have U := R.under hb g
  refine ⟨ex, ?_⟩
  exact {
    fh := fun a o q => by
      cases z : G a with
      | some u => rw [ovr_some z] at q; cases q; exact (f a _ z).2.2.1
      | none => rw [ovr_none z] at q; exact R.fh a o q
    cf := R.cf.trans ex
    new := fun a h1 h2 => by
      cases z : G a with
      | some u => exact (g a u z).1
      | none => rw [ovr_none z] at h2; exact U.new a h1 h2
    pres := U.pres
    bd := U.bd
    sl := fun i s hs => by
      have q := U.sl i s hs
      have key : ∀ p, isOwn s = true → σ[i]? = some (some (.ref p)) → F p = none → ovr G F p = none := fun p ho hp hc => by
        cases z : G p with
        | some o => exact absurd ⟨s, hs, ho, hp⟩ ((f p o z).2.2.2 i)
        | none => rw [ovr_none z]; exact hc
      cases s with
      | no => trivial
      | val d => obtain ⟨v, a1, a2⟩ := q; exact ⟨v, a1, dp_mono ex a2⟩
      | own ds => obtain ⟨p', vs, a1, a2, a3, a4, a5⟩ := q; exact ⟨p', vs, a1, key p' rfl a1 a2, a3, a4, dps_mono ex a5⟩
      | bor ds => obtain ⟨p', vs, a1, a2, a3, a4, a5⟩ := q; exact ⟨p', vs, a1, key p' rfl a1 a2, a3, a4, dps_mono ex a5⟩
      | obj ob => obtain ⟨p', a1, a2, a3, a4⟩ := q; exact ⟨p', a1, key p' rfl a1 a2, a3, a4⟩
      | raw v => exact q
      | exc a dd fs => obtain ⟨z1, z2, z3, z4⟩ := q; exact ⟨z1, z2, ex _ _ z3, fs_mono ex z4⟩
      | tab T => exact q
    dis := R.dis
    len := R.len
    tb := R.tb
    nt := fun a ps z => by
      cases q : G a with
      | some u => rw [ovr_some q] at z; exact hL a u q ps (Option.some.inj z)
      | none => rw [ovr_none q] at z; exact R.nt a ps z }
/-- rows: new lists, one by one -/
inductive Rws (K : PySem.W.Frag) (F G : Hp) : List Addr → List (List PyData) → Prop where
  | nil : Rws K F G [] []
  | cons {p : Addr} {vs : List V} {ds : List PyData} {ps : List Addr} {dss : List (List PyData)} (h : G p = some (.lst vs)) (d : DpAll K F vs ds) (r : Rws K F G ps dss) : Rws K F G (p :: ps) (ds :: dss)
theorem Rws.mono {F' G' : Hp} (ex : Ex F F') : ∀ {ps : List Addr} {dss : List (List PyData)}, (∀ p ∈ ps, ∀ o, G p = some o → G' p = some o) → Rws K F G ps dss → Rws K F' G' ps dss
  | _, _, _, .nil => .nil
  | _, _, k, .cons h d r => .cons (k _ List.mem_cons_self _ h) (dps_mono ex d) (r.mono ex fun p hp => k p (List.mem_cons_of_mem _ hp))
theorem Rws.snoc {p : Addr} {vs : List V} {ds : List PyData} (h : G p = some (.lst vs)) (d : DpAll K F vs ds) : ∀ {ps : List Addr} {dss : List (List PyData)}, Rws K F G ps dss → Rws K F G (ps ++ [p]) (dss ++ [ds])
  | _, _, .nil => .cons h d .nil
  | _, _, .cons h1 d1 r => .cons h1 d1 (r.snoc h d)
theorem Rws.mem : ∀ {ps : List Addr} {dss : List (List PyData)} {p : Addr}, Rws K F G ps dss → p ∈ ps → ∃ o, G p = some o
  | _, _, _, .nil, h => by cases h
  | _, _, _, .cons h _ r, hp => by
    rcases List.mem_cons.mp hp with rfl | hp
    · exact ⟨_, h⟩
    · exact r.mem hp
theorem Rws.len : ∀ {ps : List Addr} {dss : List (List PyData)}, Rws K F G ps dss → ps.length = dss.length
  | _, _, .nil => rfl
  | _, _, .cons _ _ r => by rw [List.length_cons, List.length_cons, r.len]
theorem Rws.get : ∀ {ps : List Addr} {dss : List (List PyData)} {j : Nat} {ds : List PyData}, Rws K F G ps dss → dss[j]? = some ds → ∃ p vs, ps[j]? = some p ∧ G p = some (.lst vs) ∧ DpAll K F vs ds
  | _, _, _, _, .nil, h => by simp at h
  | _, _, 0, _, .cons h d _, e => by simp at e; subst e; exact ⟨_, _, rfl, h, d⟩
  | _, _, j + 1, _, .cons _ _ r, e => by
    obtain ⟨p, vs, a, b⟩ := r.get (j := j) (by simpa using e)
    exact ⟨p, vs, by simpa using a, b⟩
theorem Rws.set {vs : List V} {ds : List PyData} (d : DpAll K F vs ds) : ∀ {ps : List Addr} {dss : List (List PyData)} {j : Nat} {p : Addr}, ps.Nodup → ps[j]? = some p → Rws K F G ps dss → Rws K F (upd G p (.lst vs)) ps (dss.set j ds)
  | _, _, _, _, _, h, .nil => by simp at h
  | _, _, 0, _, nd, h, .cons h1 d1 r => by
    simp at h; subst h
    obtain ⟨n1, n2⟩ := List.nodup_cons.mp nd
    exact .cons upd_same d (r.mono (Ex.refl _) fun q hq o z => by rw [upd_ne (fun e => n1 (by rw [← e]; exact hq))]; exact z)
  | _, _, j + 1, p, nd, h, .cons h1 d1 r => by
    obtain ⟨n1, n2⟩ := List.nodup_cons.mp nd
    have h : _ := (by simpa using h : _)
    have hp := List.mem_of_getElem? h
    exact .cons (by rw [upd_ne (fun e => n1 (by rw [e]; exact hp))]; exact h1) d1 (r.set d n2 h)
theorem Rws.data {F' : Hp} (ex : Ex F F') (k : ∀ a o, G a = some o → F' a = some o) : ∀ {ps : List Addr} {dss : List (List PyData)}, Rws K F G ps dss → DpAll K F' (ps.map V.ref) (dss.map PyData.list)
  | _, _, .nil => .nil
  | _, _, .cons h d r => .cons (.lst (SqL.of (k _ _ h)) (dps_mono ex d)) (r.data ex k)
end
/-! ### rows = [[..] for x in t] -/
def loopCO (vs : List Nat) (b : PyData → En → Option En) (gt : M Bool) (ge : M (List PyData)) : List PyData → List (List PyData) → En → Option (List (List PyData) × En)
  | [], acc, env => some (acc, env)
  | d :: r, acc, env => match b d env with
    | none => none
    | some env1 => match gt env1 with
      | some (.ok (true, env2)) => match ge env2 with
        | some (.ok (y, env3)) => if acc.length < 16777216 then loopCO vs b gt ge r (acc ++ [y]) (wipeE vs env3) else none
        | _ => none
      | some (.ok (false, env2)) => loopCO vs b gt ge r acc (wipeE vs env2)
      | _ => none
section
variable {K : PySem.W.Frag} {mg : Str → Option Value} {C : Cn} {F1 : Hp} {σ : L2.St} {H1 : Hp} {env1 : En} {vs : List Nat} {b : PyData → En → Option En} {gt : M Bool} {ge : M (List PyData)} {ds : List PyData}
/-- rows held aside: D the list of them -/
structure RwG (K : PySem.W.Frag) (C : Cn) (F G : Hp) (D : Addr) (ps : List Addr) (dss : List (List PyData)) : Prop where
  g : GI C G
  d : G D = some (.lst (ps.map V.ref))
  r : Rws K F G ps dss
  nd : (D :: ps).Nodup
  l : ∀ a o, G a = some o → ∃ xs, o = .lst xs
def BtwR (K : PySem.W.Frag) (C : Cn) (F1 : Hp) (σ : L2.St) (vs : List Nat) (b : PyData → En → Option En) (gt : M Bool) (ge : M (List PyData)) (D : Addr) (out : List (List PyData) × En) (r : List PyData) (H : Hp) : Prop :=
  ∃ F env G ps acc, Rel K (C.over G) F (wipe σ vs) H env ∧ Ex F1 F ∧ RwG K C F G D ps acc ∧ loopCO vs b gt ge r acc env = some out
theorem btwR_start {D : Addr} {out} (R : Rel K C F1 σ H1 env1) (hD : H1 D = none) (h : loopCO vs b gt ge ds [] (wipeE vs env1) = some out) : BtwR K C F1 σ vs b gt ge D out ds (upd H1 D (.lst [])) := by
  have f := R.fresh hD
  have hcf : C.F D = none := by
    cases z : C.F D with
    | none => rfl
    | some u => have := R.cf D u z; rw [f.1] at this; cases this
  have R' := (R.newH (o := .lst []) hD).wipe vs
  refine ⟨F1, _, upd (fun _ => none) D (.lst []), [], [], Rel.over (lst_upd (fun _ _ z => by cases z) D []) R' fun a o q => ?_, Ex.refl _, ⟨fun a o q => ?_, upd_same, .nil, by simp, fun a o q => ?_⟩, h⟩
  · by_cases e : a = D
    · subst e
      rw [upd_same] at q
      cases q
      refine ⟨f.1, f.2, upd_same, fun i ⟨s, e1, e2, e3⟩ => ?_⟩
      rcases wipeE_at e1 with ⟨_, rfl⟩ | ⟨ne, e1⟩
      · cases e2
      · rw [wipe_out ne] at e3
        exact R.noOwn hD i ⟨s, e1, e2, e3⟩
    · rw [upd_ne e] at q; cases q
  · by_cases e : a = D
    · subst e; exact ⟨f.2, hcf⟩
    · rw [upd_ne e] at q; cases q
  · by_cases e : a = D
    · subst e; rw [upd_same] at q; exact ⟨[], (Option.some.inj q).symm⟩
    · rw [upd_ne e] at q; cases q
end
end Pf
/-! part PfR2 -/
set_option Elab.async false
set_option linter.all false
set_option maxRecDepth 100000
set_option maxHeartbeats 2000000
namespace Pf
open PySem PySem.Spec L2 Evl
theorem wipe_put {σ : L2.St} {vs : List Nat} {j : Nat} {x : Option V} (hj : j ∈ vs) : wipe ((wipe σ vs).set j x) vs = wipe σ vs := by
  apply List.ext_getElem?
  intro i
  by_cases hi : i ∈ vs
  · have key : ∀ (us : List Nat) (τ ρ : L2.St), τ.length = ρ.length → i ∈ us → (wipe τ us)[i]? = (wipe ρ us)[i]? := by
      intro us
      induction us with
      | nil => intro _ _ _ h; cases h
      | cons u us ih =>
        intro τ ρ hl hm
        unfold wipe
        by_cases e : u = i
        · subst e
          by_cases hu : u < ρ.length
          · rw [List.getElem?_set_self (by rw [wipe_length, hl]; exact hu), List.getElem?_set_self (by rw [wipe_length]; exact hu)]
          · rw [List.getElem?_eq_none (by rw [List.length_set, wipe_length, hl]; omega), List.getElem?_eq_none (by rw [List.length_set, wipe_length]; omega)]
        · rw [List.getElem?_set_ne e, List.getElem?_set_ne e]
          rcases List.mem_cons.mp hm with rfl | hm
          · exact absurd rfl e
          · exact ih τ ρ hl hm
    exact key vs _ _ (by rw [List.length_set, wipe_length]) hi
  · rw [wipe_out hi, wipe_out hi, List.getElem?_set_ne (fun e => hi (by rw [← e]; exact hj)), wipe_out hi]
section
variable {K : PySem.W.Frag} {mg : Str → Option Value} {C : Cn} {F1 : Hp} {σ : L2.St} {H1 : Hp} {env1 : En} {vs : List Nat} {b : PyData → En → Option En} {gt : M Bool} {ge : M (List PyData)} {ds : List PyData}
theorem btwR_turn {D : Addr} {out} {H : Hp} {x : V} {d : PyData} {r : List PyData} {j : Nat} (R0 : Rel K C F1 σ H1 env1) (hj : j ∈ vs) (hb : b = bN j) (hx : Dp K F1 x d) (h : BtwR K C F1 σ vs b gt ge D out (d :: r) H) :
    wipe ((wipe σ vs).set j (some x)) vs = wipe σ vs ∧ tG K mg okB W0 gt ((wipe σ vs).set j (some x)) H fun k H3 => if k = true then tG K mg (okO K) W0 ge ((wipe σ vs).set j (some x)) H3 fun y H4 => ∃ acc, H4 D = some (.lst acc) ∧ acc.length < sizeLine ∧ BtwR K C F1 σ vs b gt ge D out r (upd H4 D (.lst (acc ++ [y])))
      else BtwR K C F1 σ vs b gt ge D out r H3 := by
  have hw := wipe_put (σ := σ) (x := some x) hj
  have cb := R0.cb
  refine ⟨hw, ?_⟩
  obtain ⟨F, env, G, ps, acc, R, ex, rw0, hl⟩ := h
  subst hb
  have hl : (match gt (env.set j (.val d)) with
      | some (.ok (true, env2)) => match ge env2 with
        | some (.ok (y, env3)) => if acc.length < 16777216 then loopCO vs (bN j) gt ge r (acc ++ [y]) (wipeE vs env3) else none
        | _ => none
      | some (.ok (false, env2)) => loopCO vs (bN j) gt ge r acc (wipeE vs env2)
      | _ => none) = some out := hl
  refine ⟨_, F, env.set j (.val d), R.store j (dp_mono ex hx), ?_⟩
  cases q : gt (env.set j (.val d)) with
  | none => rw [q] at hl; cases hl
  | some z =>
    rw [q] at hl
    cases z with
    | error z => cases hl
    | ok z =>
      obtain ⟨k, env2⟩ := z
      intro k' F3 H3 R3 ex3 ek
      cases ek
      cases k with
      | false => exact ⟨F3, _, G, ps, acc, R3.rewipe hw, ex.trans ex3, ⟨rw0.g, rw0.d, rw0.r.mono ex3 (fun _ _ _ z => z), rw0.nd, rw0.l⟩, hl⟩
      | true =>
        simp only [if_true] at hl ⊢
        refine ⟨_, F3, env2, R3, ?_⟩
        cases q2 : ge env2 with
        | none => rw [q2] at hl; cases hl
        | some z =>
          rw [q2] at hl
          cases z with
          | error z => cases hl
          | ok z =>
            obtain ⟨y, env3⟩ := z
            intro v F4 H4 R4 ex4 dv
            simp only at hl
            split at hl
            · rename_i hlen
              obtain ⟨p, ws, rfl, gp, dw, g', R5⟩ := Rel.addG rw0.l cb rw0.g R4 dv (R4.cf)
              have npD : D ≠ p := fun e => by rw [← e, rw0.d] at gp; cases gp
              have hd' : upd G p (.lst ws) D = some (.lst (ps.map V.ref)) := by rw [upd_ne npD]; exact rw0.d
              have hDH := (R5.inG cb g' D _ hd').2.2.1
              have R6 := R5.rewipe hw
              have R7 := Rel.mutG (ys := (ps ++ [p]).map V.ref) (lst_upd rw0.l _ _) cb g' hd' R6
              have npm : p ∉ ps := fun hp => by obtain ⟨o, z⟩ := rw0.r.mem hp; rw [gp] at z; cases z
              have Dn := (List.nodup_cons.mp rw0.nd)
              have r' : Rws K F4 (upd G p (.lst ws)) ps acc := rw0.r.mono (ex3.trans ex4) (fun q hq o z => by rw [upd_ne (fun e => npm (by rw [← e]; exact hq))]; exact z)
              have r2 : Rws K F4 (upd G p (.lst ws)) (ps ++ [p]) (acc ++ [y]) := r'.snoc upd_same dw
              have r3 : Rws K F4 (upd (upd G p (.lst ws)) D (.lst ((ps ++ [p]).map V.ref))) (ps ++ [p]) (acc ++ [y]) := r2.mono (Ex.refl _) (fun q hq o z => by
                have : q ≠ D := fun e => by
                  subst e
                  rcases List.mem_append.mp hq with hq | hq
                  · exact Dn.1 hq
                  · rw [List.mem_singleton] at hq; exact npD hq
                rw [upd_ne this]; exact z)
              refine ⟨ps.map V.ref, hDH, by rw [List.length_map, rw0.r.len, sizeLine_eq]; exact hlen, F4, _, _, ps ++ [p], acc ++ [y], ?_, (ex.trans ex3).trans ex4, ⟨g'.upd hd', upd_same, r3, ?_, lst_upd (lst_upd rw0.l _ _) _ _⟩, hl⟩
              · rw [List.map_append] at R7 ⊢
                exact R7
              · rw [List.nodup_cons]
                refine ⟨fun h => ?_, ?_⟩
                · rcases List.mem_append.mp h with h | h
                  · exact Dn.1 h
                  · rw [List.mem_singleton] at h; exact npD h
                · rw [List.nodup_append]
                  refine ⟨Dn.2, by simp, fun a ha c hc e => ?_⟩
                  rw [List.mem_singleton] at hc
                  subst hc; subst e
                  exact npm ha
            · cases hl
theorem btwR_end {D : Addr} {acc : List (List PyData)} {env' : En} {H : Hp} (R0 : Rel K C F1 σ H1 env1) (h : BtwR K C F1 σ vs b gt ge D (acc, env') [] H) :
    ∃ F G ps, Rel K (C.over G) F σ H (backE env1 vs env') ∧ Ex F1 F ∧ RwG K C F G D ps acc := by
  have cb := R0.cb
  obtain ⟨F, env, G, ps, acc', R, ex, rw0, hl⟩ := h
  have e : (acc', env) = (acc, env') := Option.some.inj hl
  cases e
  have U := R.under cb rw0.g
  have B := R0.back U ex
  refine ⟨F, G, ps, Rel.over rw0.l B fun a o q => ?_, ex, rw0⟩
  have f := R.inG cb rw0.g a o q
  refine ⟨f.1, f.2.1, f.2.2.1, fun i ⟨s, e1, e2, e3⟩ => ?_⟩
  rcases backE_at e1 with ⟨_, rfl | ⟨d, rfl, _⟩⟩ | ⟨ne, e1⟩
  · cases e2
  · cases e2
  · exact f.2.2.2 i ⟨s, e1, e2, by rw [wipe_out ne]; exact e3⟩
end
/-- forgetting a slot -/
theorem Rel.forget {K : PySem.W.Frag} {C : Cn} {F : Hp} {σ : L2.St} {H : Hp} {env : En} (R : Rel K C F σ H env) (i : Nat) (v : V) : Rel K C F (σ.set i (some v)) H (env.set i .no) where
  fh := R.fh
  cf := R.cf
  new := R.new
  pres := R.pres
  bd := R.bd
  sl := fun j s hj => by
    rcases set_at hj with ⟨rfl, rfl, hl⟩ | ⟨ne, hj⟩
    · trivial
    · rw [List.getElem?_set_ne (Ne.symm ne)]; exact R.sl j s hj
  dis := fun j k q o1 o2 => by
    have back : ∀ {j : Nat}, Owned (σ.set i (some v)) (env.set i .no) j q → Owned σ env j q := fun {j} ⟨s1, e1, b1, a1⟩ => by
      rcases set_at e1 with ⟨rfl, rfl, _⟩ | ⟨n1, f1⟩
      · cases b1
      · rw [List.getElem?_set_ne (Ne.symm n1)] at a1
        exact ⟨s1, f1, b1, a1⟩
    exact R.dis j k q (back o1) (back o2)
  len := by rw [List.length_set, List.length_set]; exact R.len
  tb := R.tb
  nt := R.nt
/-- a new value in a slot that told nothing -/
theorem Rel.tell {K : PySem.W.Frag} {C : Cn} {F : Hp} {σ : L2.St} {H : Hp} {env : En} {i : Nat} {v : V} {d : PyData} (R : Rel K C F σ H env) (hs : σ[i]? = some (some v)) (h : Dp K F v d) : Rel K C F σ H (env.set i (.val d)) := R.slot (i := i) (.val d) rfl ⟨v, hs, h⟩
/-- what is done to one row -/
def rowSet (ins : Bool) (ds : List PyData) (m : PyData) : List PyData := if ins = true then m :: ds else ds ++ [m]
/-- rows[e].insert(0, m), rows[e].append(m): the rows, then what follows -/
def gRow (ins : Bool) (gk gm : M PyData) (dss : List (List PyData)) (k : List (List PyData) → S) : S := gE gk fun e => match e with
  | .int n => fun env => match ixN dss.length n with
    | none => none
    | some j => match dss[j]? with
      | none => none
      | some ds => gE gm (fun m => if ds.length < 16777216 then k (dss.set j (rowSet ins ds m)) else fun _ => none) env
  | _ => fun _ => none
def gRows (i : Nat) (vs : List Nat) (j : Nat) (gt : M Bool) (ge : M (List PyData)) (ga : M PyData) (gc : M Bool) (gk gm : M PyData) (g4 : S) : S := gE ga fun d env1 => match tupO d with
  | none => none
  | some ds => match loopCO vs (bN j) gt ge ds [] (wipeE vs env1) with
    | none => none
    | some (dss, env2) => if i < env1.length then gE gc (fun c => gRow c gk gm dss fun dss' env6 => g4 (env6.set i (.val (.list (dss'.map PyData.list))))) ((backE env1 vs env2).set i .no) else none
end Pf
/-! part PfR3 -/
set_option Elab.async false
set_option linter.all false
set_option maxRecDepth 100000
set_option maxHeartbeats 2000000
namespace Pf
open PySem PySem.Spec L2 Evl
theorem atI_ixN {α : Type} {xs : List α} {n : Int} {j : Nat} {v : α} (h : ixN xs.length n = some j) (e : xs[j]? = some v) : atI xs n = some v := by
  unfold atI
  rw [h]
  exact e
section
variable {K : PySem.W.Frag} {mg : Str → Option Value} {W : WX} {C : Cn} {F : Hp} {σ : L2.St} {H G : Hp} {env : En} {i : Nat} {Da : Addr} {ps : List Addr} {dss : List (List PyData)} {gk gm : M PyData} {k : List (List PyData) → S} {Dn : Ends} {ins : Bool}
/-- the row is found, what is put in is known -/
theorem row_do (cb : CB C) (R : Rel K (C.over G) F σ H env) (rw0 : RwG K C F G Da ps dss) (hs : σ[i]? = some (some (.ref Da))) (h : AftS K mg W C F (gRow ins gk gm dss (fun dss' env6 => k dss' (env6.set i (.val (.list (dss'.map PyData.list))))) env) Dn)
    {r : V → List V → Hp → VK → Prop} {pre : List V} (hr : ∀ (p : Addr) (vs : List V) (v : V) (H : Hp) (Q : VK), H p = some (.lst vs) → vs.length < sizeLine → Q .non (upd H p (.lst (if ins = true then v :: vs else vs ++ [v]))) → r (.ref p) (pre ++ [v]) H Q) (QK : Hp → Prop)
    (hk : ∀ dss' F' H' env', Rel K C F' σ H' env' → Ex F F' → AftS K mg W C F' (k dss' env') Dn → QK H') :
    tOp (rIx K) (tVar i) (tG K mg (okV K) W gk) σ H fun x H1 => tyV K "list" x H1 ∧ tG K mg (okV K) W gm σ H1 fun v H2 => r x (pre ++ [v]) H2 fun _ H3 => QK H3 := by
  refine ⟨.ref Da, hs, ?_⟩
  unfold gRow at h
  refine tE_bg R (fun F' H' env' R' => R'.under cb rw0.g) h fun d env1 w F1 H1 R1 ex1 o1 h1 => ?_
  cases o1 with
  | int n =>
    simp only at h1
    cases hj : ixN dss.length n with
    | none => rw [hj] at h1; exact h1.elim
    | some j =>
      rw [hj] at h1
      simp only at h1
      cases hd : dss[j]? with
      | none => rw [hd] at h1; exact h1.elim
      | some ds =>
        rw [hd] at h1
        simp only at h1
        have r1 : Rws K F1 G ps dss := rw0.r.mono ex1 (fun _ _ _ z => z)
        obtain ⟨p, vs, hp, gp, dv⟩ := r1.get hd
        have hD := (R1.inG cb rw0.g Da _ rw0.d).2.2.1
        have hP := (R1.inG cb rw0.g p _ gp).2.2.1
        refine .inl ⟨Da, ps.map V.ref, n, .ref p, rfl, rfl, SqL.of hD, atI_ixN (by rw [List.length_map, r1.len]; exact hj) (by rw [List.getElem?_map, hp]; rfl), .inl ⟨rfl, _, SqL.of hP⟩, ?_⟩
        refine tE_bg R1 (fun F' H' env' R' => R'.under cb rw0.g) h1 fun m env2 v F2 H2 R2 ex2 o2 h2 => ?_
        have hP2 := (R2.inG cb rw0.g p _ gp).2.2.1
        have dv2 := dps_mono ex2 dv
        by_cases hl : ds.length < 16777216
        · rw [if_pos hl] at h2
          refine hr p vs v H2 _ hP2 (by rw [dv2.len, sizeLine_eq]; exact hl) ?_
          have Dn' := List.nodup_cons.mp rw0.nd
          have hm := List.mem_of_getElem? hp
          have neD : Da ≠ p := fun e => Dn'.1 (by rw [e]; exact hm)
          have dv3 : DpAll K F2 (if ins = true then v :: vs else vs ++ [v]) (rowSet ins ds m) := by
            unfold rowSet
            cases ins with
            | true => exact .cons o2 dv2
            | false => exact dv2.app (.cons o2 .nil)
          have R3 := Rel.mutG (ys := if ins = true then v :: vs else vs ++ [v]) rw0.l cb rw0.g gp R2
          have g3 : GI C (upd G p (.lst (if ins = true then v :: vs else vs ++ [v]))) := rw0.g.upd gp
          have r3 : Rws K F2 (upd G p (.lst (if ins = true then v :: vs else vs ++ [v]))) ps (dss.set j (rowSet ins ds m)) := (r1.mono ex2 (fun _ _ _ z => z)).set dv3 Dn'.2 hp
          obtain ⟨ex3, R4⟩ := R3.freezeG (lst_nt (lst_upd rw0.l _ _)) cb g3
          have hDa : upd G p (.lst (if ins = true then v :: vs else vs ++ [v])) Da = some (.lst (ps.map V.ref)) := by rw [upd_ne neD]; exact rw0.d
          have R5 := R4.tell hs (.lst (SqL.of (ovr_some hDa)) (r3.data ex3 fun a o z => ovr_some z))
          exact hk _ _ _ _ R5 ((ex1.trans ex2).trans ex3) (AftS.up h2 ex3)
        · rw [if_neg hl] at h2
          exact h2.elim
  | _ => exact h1.elim
end
section
variable {X : Cx} {W : WX} {elt iter c e m e' m' : Expr} {ifs : List Expr} {scope : Scope} {own : List (Str × Nat)} {ga gk gm : M PyData} {gc gt : M Bool} {ge : M (List PyData)} {pos p0 p1 p2 p3 p4 p5 p6 p7 p8 q1 q2 q3 q4 q5 q6 py spos ipos : Pos} {x y : Str} {i j : Nat} {kk : Nat} {rest : List Stmt} {g4 : S}
/-- y = [[..] for x in t] · if c: y[e].insert(0, m) · else: y[e].append(m) -/
theorem pss_rows (i : Nat) (hc : X.calm = true) (hN : X.N.Nodup) (hy : X.N[i]? = some y) (hyl : X.env.scope.names.lookup y = some .local)
    (hsw : swapsWith (.ListComp elt [⟨.Name x p1, iter, ifs, 0⟩] scope pos) (some (.Name y py)) spos.line X.env = pure true) (hi : SV X W iter ga) (ok : BlkOk X.N X.env.scope scope own) (hj : j ∈ own.map (·.2))
    (hg : ∀ (s : Shared) (H : Hp) (C : Addr) (cl : List (Str × Addr)) (fp : List Addr), PG (X.blk s H scope (compEnvC scope cl C X.env) fp) (.Name x p1) (gName j)) (ht : ∀ (s : Shared) (H : Hp) (C : Addr) (cl : List (Str × Addr)) (fp : List Addr), STs (X.blk s H scope (compEnvC scope cl C X.env) fp) W0 ifs gt)
    (he : ∀ (s : Shared) (H : Hp) (C : Addr) (cl : List (Str × Addr)) (fp : List Addr), SO (X.blk s H scope (compEnvC scope cl C X.env) fp) W0 elt ge)
    (hcond : ST X W c gc) (hk : SV X W e gk) (hm : SV X W m gm) (hk' : SV X W e' gk) (hm' : SV X W m' gm) (h4 : SSs X W rest g4)
    (hpi : PlainIx e := by exact fun _ _ => rfl) (hpi' : PlainIx e' := by exact fun _ _ => rfl) (hvis : Vis X.env.scope y := by first | exact Or.inl rfl | exact Or.inr (Or.inl rfl) | exact Or.inr (Or.inr rfl)) (hd : (y == ("__debug__" : Str)) = false := by decide) (hcd : (y == ("__classdict__" : Str)) = false := by decide)
    (hb1 : attributeBase (.Subscript (.Name y p2) e p3) "insert" X.env (eval (.Subscript (.Name y p2) e p3) X.env) = eval (.Subscript (.Name y p2) e p3) X.env := by rfl)
    (hf1 : ((backTo p5 (starEach [.Constant (.int 0) kk p8, m] X.env)).all (fun x => !x.1) && (backToKw p5 (keywordEach [] X.env)).all (fun x => x.1.isSome)
      && decide ([.Constant (.int 0) kk p8, m].length + ([] : List Keyword).length + (if ([] : List Keyword).isEmpty then 0 else 1) < 30)) = true := by rfl)
    (hl1 : (p4.endLine == p5.line) = true := by rfl) (hs1 : starEach [.Constant (.int 0) kk p8, m] X.env = (false, eval (.Constant (.int 0) kk p8) X.env) :: starEach [m] X.env := by rfl) (hp1 : (backTo p5 (starEach [m] X.env)).any (·.1) = false := by rfl) (hs2 : starEach [m] X.env = (false, eval m X.env) :: starEach [] X.env := by rfl)
    (hw1 : swapsWith (.Call (.Attribute (.Subscript (.Name y p2) e p3) "insert" p4) [.Constant (.int 0) kk p8, m] [] p5) none p6.line X.env = pure false := by rfl)
    (hb2 : attributeBase (.Subscript (.Name y q1) e' q2) "append" X.env (eval (.Subscript (.Name y q1) e' q2) X.env) = eval (.Subscript (.Name y q1) e' q2) X.env := by rfl)
    (hf2 : ((backTo q4 (starEach [m'] X.env)).all (fun x => !x.1) && (backToKw q4 (keywordEach [] X.env)).all (fun x => x.1.isSome)
      && decide ([m'].length + ([] : List Keyword).length + (if ([] : List Keyword).isEmpty then 0 else 1) < 30)) = true := by rfl)
    (hs3 : starEach [m'] X.env = (false, eval m' X.env) :: starEach [] X.env := by rfl) (hl2 : (q3.endLine == q4.line) = true := by rfl) (hp2 : (backTo q4 (starEach [] X.env)).any (·.1) = false := by rfl)
    (hw2 : swapsWith (.Call (.Attribute (.Subscript (.Name y q1) e' q2) "append" q3) [m'] [] q4) none q5.line X.env = pure false := by rfl)
    (hs : ∀ x, foldedSetIterable iter X.env x = pure x := by intro _; rfl) :
    SSs X W (.Assign [.Name y py] (.ListComp elt [⟨.Name x p1, iter, ifs, 0⟩] scope pos) spos ::
      .If c [.Expr (.Call (.Attribute (.Subscript (.Name y p2) e p3) "insert" p4) [.Constant (.int 0) kk p8, m] [] p5) p6] [.Expr (.Call (.Attribute (.Subscript (.Name y q1) e' q2) "append" q3) [m'] [] q4) q5] ipos :: rest)
      (gRows i (own.map (·.2)) j gt ge ga gc gk gm g4) :=
  pss_imp (pss_cons (ps_setLc (tt := tG X.K X.mg okB W0 gt) (te := tG X.K X.mg (okO X.K) W0 ge) hc hN hy hyl hsw (pi_tup hi) ok hg ht he hs)
    (pss_cons (ps_if hcond (pss_one (ps_expr (pe_bm PySem.F.plainAttrs_list PySem.F.slot_list_insert PySem.F.type_list_insert mt_insert (pe_ix ix_seq (pe_var hy hvis hd hcd) hk hpi) (pa_cons pe_int (pa_cons hm pa_nil hs2) hs1) hb1 hf1 hl1 hs1 hp1) hw1))
      (pss_one (ps_expr (pe_bm PySem.F.plainAttrs_list PySem.F.slot_list_append PySem.F.type_list_append mt_append (pe_ix ix_seq (pe_var hy hvis hd hcd) hk' hpi') (pa_cons hm' pa_nil hs3) hb2 hf2 hl2 hs3 hp2) hw2))) h4)) fun D σ H ⟨C, F, env, R, h⟩ => by
    unfold gRows at h
    refine tE_bd R h fun d env1 v F1 H1 R1 e1 o1 h1 => ?_
    cases o1 with
    | @tup a xs ds s r =>
      have h1 : AftS X.K X.mg W C F1 (match loopCO (own.map (·.2)) (bN j) gt ge ds [] (wipeE (own.map (·.2)) env1) with
        | none => none
        | some (dss, env2) => if i < env1.length then gE gc (fun c => gRow c gk gm dss fun dss' env6 => g4 (env6.set i (.val (.list (dss'.map PyData.list))))) ((backE env1 (own.map (·.2)) env2).set i .no) else none) D := h1
      cases hl : loopCO (own.map (·.2)) (bN j) gt ge ds [] (wipeE (own.map (·.2)) env1) with
      | none => rw [hl] at h1; exact h1.elim
      | some out =>
        obtain ⟨dss, env2⟩ := out
        rw [hl] at h1
        by_cases hlen : i < env1.length
        · have h1 : AftS X.K X.mg W C F1 (gE gc (fun c => gRow c gk gm dss fun dss' env6 => g4 (env6.set i (.val (.list (dss'.map PyData.list))))) ((backE env1 (own.map (·.2)) env2).set i .no)) D := by
            have h1 : AftS X.K X.mg W C F1 (if i < env1.length then gE gc (fun c => gRow c gk gm dss fun dss' env6 => g4 (env6.set i (.val (.list (dss'.map PyData.list))))) ((backE env1 (own.map (·.2)) env2).set i .no) else none) D := h1
            rw [if_pos hlen] at h1
            exact h1
          refine ⟨a, rfl, ⟨xs, ex_t R1.fh s⟩, fun Da hD => lc_tup (xs := xs) (fun i => BtwR X.K C F1 σ (own.map (·.2)) (bN j) gt ge Da (dss, env2) (ds.drop i)) (btwR_start R1 hD hl) (fun i H _ ⟨F, env, G, ps, acc, R, ex, _⟩ => ex_t (ex.trans R.fh) s) (fun i x H hx hB => ?_) (fun H hB => ?_)⟩
          · obtain ⟨d, hd, dd⟩ := DpAll_at r hx
            rw [drop_at hd] at hB
            exact btwR_turn (mg := X.mg) R1 hj rfl dd hB
          · rw [List.drop_eq_nil_of_le (Nat.le_of_eq r.len.symm)] at hB
            obtain ⟨F2, G, ps, R2, ex2, rw2⟩ := btwR_end R1 hB
            have cb := R1.cb
            have R3 := R2.forget i (.ref Da)
            have hσ : (σ.set i (some (V.ref Da)))[i]? = some (some (.ref Da)) := List.getElem?_set_self (by rw [← R1.len]; exact hlen)
            refine tE_bg R3 (fun F' H' env' R' => R'.under cb rw2.g) (h1.up ex2) fun k env3 k' F3 H3 R4 ex4 o4 h4' => ?_
            cases o4
            have rw3 : RwG X.K C F3 G Da ps dss := ⟨rw2.g, rw2.d, rw2.r.mono ex4 (fun _ _ _ z => z), rw2.nd, rw2.l⟩
            cases k with
            | true =>
              rw [if_pos rfl]
              have := row_do (ins := true) (i := i) (k := fun dss' => g4) cb R4 rw3 hσ h4' (pre := [.int 0]) (r := fun x vs H Q => ∃ (l : Addr) (xs : List V) (i : Int) (y : V), x = .ref l ∧ vs = [.int i, y] ∧ H l = some (.lst xs) ∧ xs.length < sizeLine ∧ 0 ≤ i ∧ i < 2 ^ 63 ∧
                Q .non (upd H l (.lst (xs.take i.toNat ++ [y] ++ xs.drop i.toNat)))) (fun p vs v H Q e1 e2 q => ⟨p, vs, 0, v, rfl, rfl, e1, e2, by decide, by decide, q⟩)
                (fun H' => tS X.K X.mg W g4 D (σ.set i (some (V.ref Da))) H') (fun dss' F' H' env' R' ex' h' => ⟨C, F', env', R', h'⟩)
              exact this
            | false =>
              rw [if_neg (by decide)]
              have := row_do (ins := false) (i := i) (k := fun dss' => g4) cb R4 rw3 hσ h4' (pre := []) (r := rAppend) (fun p vs v H Q e1 e2 q => ⟨p, vs, v, rfl, rfl, e1, e2, q⟩)
                (fun H' => tS X.K X.mg W g4 D (σ.set i (some (V.ref Da))) H') (fun dss' F' H' env' R' ex' h' => ⟨C, F', env', R', h'⟩)
              exact this
        · have h1 : AftS X.K X.mg W C F1 (if i < env1.length then gE gc (fun c => gRow c gk gm dss fun dss' env6 => g4 (env6.set i (.val (.list (dss'.map PyData.list))))) ((backE env1 (own.map (·.2)) env2).set i .no) else none) D := h1
          rw [if_neg hlen] at h1
          exact h1.elim
    | _ => exact h1.elim
end
end Pf
/-! part PfK -/
set_option Elab.async false
set_option linter.all false
set_option maxRecDepth 100000
set_option maxHeartbeats 4000000
namespace PySem.W
open PySem PySem.Spec PySem.Calls PyProof.Rows
section
variable {prog : Program} {w : World} {A : Around} {E : Value → Shared → Prop} {s : Shared} {K : Frag} {x D : Addr} {ox od : Obj}
/-- an own error with a dict tells its class -/
theorem own_class {Q : Option Value → Shared → Prop} (C : L2.ExcC K D) (X : K.In s.heap) (I : InstAt s.heap x ox D (some od)) (h : Q (some (.ref D)) { s with toks := s.toks + 1 }) : wpAny (model prog w) A (getAttr? (.ref x) "__class__") Q E s := by
  have hf : findObj K D (some od) "__class__" = some (.bind (.builtin "getset_descriptor.__get__") (.builtin "object.__class__")) := findObj_data (by obtain ⟨cd, hc, _⟩ := any_some C.hd; rw [hc]; rfl) C.ha C.hn C.ht
  obtain ⟨hp, g, d, t, os⟩ := s
  have T0 := I.type (M := model prog w)
  have T1 := looks_findIn (M := model prog w) X C.hg
  have T2 := looks_findIn (M := model prog w) X C.hk
  have T3 := looks_find (M := model prog w) X I hf
  have sb : Looks (model prog w) hp (isInstance (.ref x) (.type "BaseException")) true := T0.andThen (looks_subIn X C.hs)
  have y0 : (false && onTheHeap (Value.builtin "BaseException.__getattribute__")) = false := rfl
  have y1 : (onTheHeap (Value.ref D) && Value.builtin "BaseException.__getattribute__" == Value.builtin "object.__getattribute__") = false := by
    rw [show (Value.builtin "BaseException.__getattribute__" == Value.builtin "object.__getattribute__") = false by decide +kernel]; rfl
  unfold getAttr? getAttrBy? getAttrBy
  refine wpAny_bind (wpAny_mkText (wpAny_bind (wpAny_attempt (wpAny_holding (wpAny_bind (T0.at (wpAny_bind (T1.at ?_))))))))
  show wpAny _ _ (if (onTheHeap (Value.ref D) && Value.builtin "BaseException.__getattribute__" == Value.builtin "object.__getattribute__") = true then _ else _) _ _ _
  rw [y1, if_neg Bool.false_ne_true]; unfold getAttrByItsOwn hookBefore
  refine wpAny_bind ?_; rw [if_pos (show onTheHeap (Value.ref D) = true from rfl)]
  refine T2.at (wpAny_bind (wpAny_attempt (wpAny_holding ?_)))
  unfold callGetattribute; rw [y0, if_neg Bool.false_ne_true]; unfold boundAndCalled
  rw [PySem.F.excAttr_ValueError.ga.bind (.ref x)]; refine wpAny_bind (wpAny_pure ?_)
  show wpAny _ _ (call (.builtin "BaseException.__getattribute__") [.ref x, .str "__class__" t]) _ _ _
  refine wpAny_call (codeAny_call_builtin PySem.F.excAttr_ValueError.ga.plain PySem.F.entry_bexc_ga (@check_slot (model prog w) _ _ ⟨hp, g, d, t + 1, os⟩ "BaseException.__getattribute__" "BaseException" "__getattribute__" (.ref x) [.str "__class__" t] [] _ (by decide +kernel) (by decide +kernel) sb (PySem.F.args_bexc_ga (.ref x) (.str "__class__" t)) ?_))
  unfold Builtin.«object.__getattribute__»
  refine wpAny_bind (wpAny_of_eq (a := ((Value.ref x : Value), [Value.str "__class__" t])) (by first | rfl | (simp only [slotArgs]; rfl)) (wpAny_bind (wpAny_pure (wpAny_bind (T0.at (wpAny_bind (T3.at ?_)))))))
  show wpAny _ _ (holding [Value.builtin "object.__class__"] (call (.builtin "getset_descriptor.__get__") [.builtin "object.__class__", .ref x, .ref D]) >>= ret) _ _ _
  refine wpAny_bind (wpAny_holding (wpAny_call (class_get (s := ⟨hp, g, d, t + 1, os⟩) (ox := ox) (od := some od) X I C.hm (wpAny_pure ?_))))
  show wpAny _ _ (handedOut (.ref D)) _ _ _
  rw [handedOut_of (v := .ref D) rfl]
  first
    | exact wpAny_pure (wpAny_pure h)
    | exact wpAny_pure h
    | exact wpAny_pure (wpAny_bind (wpAny_pure (wpAny_pure h)))
theorem own_kit (C : L2.ExcC K D) : KitX K (.ref x) (.ref D) (fun h => ∃ od, InstAt h x ox D (some od)) where
  ty := fun _ _ _ ⟨_, I⟩ => I.type
  it := fun M h X _ => by
    obtain ⟨cd, hc, _⟩ := any_some C.hd
    unfold clsIn at hc
    split at hc
    · rename_i c1 d1 cd1 sl1 ho
      intro A2 Q2 E2 s2 kk qq; unfold isType loadHead; exact wpAny_bind (wpAny_loadPart (kk _ _ (X _ _ ho)) (wpAny_pure qq))
    · cases hc
  ne := (handS_kitx_exc (x := x) (ox := ox) C.hg C.hk C.hs C.hd C.ha C.hn C.ht C.hm).ne
  ca := fun X ⟨_, I⟩ k => own_class C X I k
end
end PySem.W

namespace Pf
open PySem PySem.Spec L2 Evl
/-! ### an except suite: the error's kind, its values -/
def rIsK (K : PySem.W.Frag) (D a dd : Addr) : List V → Hp → VK → Prop := fun xs H Q => ∃ (c : V) (cv : Value) (b : Bool) (fs : List (Str × V)), xs = [.ref a, c] ∧ H dd = some (.xd fs) ∧ (∀ u, RelV c u → u = cv) ∧ PySem.W.kitOne K (.ref D) cv = some b ∧ Q (.bl b) H
theorem call_isK {X : Cx} {a D dd : Addr} {oe : Obj} {pn : List (Addr × Obj)} (C : ExcC X.K D) (hz : Zc (.ref D) (some dd) oe) (hf : ∃ vs, oe.data = .fields vs) : CallR (X.suite a ((a, oe) :: pn)) (.builtin "isinstance") (rIsK X.K D a dd) := by
  intro pins s σ H xs us Q I r h
  obtain ⟨c, cv, b, fs, rfl, hdd, hcv, e, q⟩ := h
  cases r with
  | cons rx rr =>
    cases rr with
    | cons rt rr =>
      cases rr
      cases rx
      have ec := hcv _ rt
      subst ec
      obtain ⟨hget, _⟩ := I.pin (a, oe) (List.mem_append.mpr (.inl List.mem_cons_self))
      obtain ⟨vs, hv⟩ := hf
      have hx : ObjOk X.prog X.w H s.heap dd (.xd fs) := I.hok dd _ hdd
      obtain ⟨mA, hns, hr⟩ := hx
      obtain ⟨od, ho, hl⟩ := lookIn_ns hns
      have J : PySem.W.InstAt s.heap a oe D (some od) := ⟨hget, hz.1, by unfold PySem.W.notCls; rw [hv] <;> rfl, by rw [hz.2]; exact ho⟩
      exact PySem.W.kia_one (PySem.W.own_kit C) I.kIn ⟨od, J⟩ e (fun z => nomatch z) fun tk => ⟨.bl b, H, I.kept (t' := tk) fun _ _ z => z, rfl, q⟩
def rCnt (K : PySem.W.Frag) : V → List V → Hp → VK → Prop := fun x xs H Q => ∃ (p : Addr) (ys : List V) (y : V), x = V.ref p ∧ xs = [y] ∧ SqL K H p ys ∧ flatV y = true ∧ ys.all flatV = true ∧ Q (.int ((ys.countP fun z => eqV z y : Nat) : Int)) H
theorem mt_cnt {X : Cx} : MtR X "list.count" (rCnt X.K) := by
  intro pins s σ H x xs v us Q I rx rxs h
  obtain ⟨p, ys, y, rfl, rfl, hs, fy, fys, q⟩ := h
  cases rx
  obtain ⟨u, rfl, ru⟩ := rxs.one
  obtain ⟨its, rv, ⟨⟨cls, dd, data, sl⟩, n, ho, hc, hdn, hd⟩, hlen⟩ := I.list hs
  simp only at hc hd
  subst hc hd
  refine call_meets PySem.F.slot_list_count ⟨_, ho, rfl⟩ PySem.F.entry_list_count (PySem.F.args_list_count_2 _ _)
    (SeqAt.list_countAt p its.toArray n dd sl u (eqU y)) ⟨ho, fun z hz => mem_eqAt ru fy rv fys z (by simpa using hz), ?_⟩
  have key : ∀ {ys : List V} {us : List Value}, Vals ys us → ys.all flatV = true → us.countP (eqU y) = ys.countP fun z => eqV z y := fun {ys us} r => by
    induction r with
    | nil => intro _; rfl
    | cons r0 rr ih =>
      intro f
      simp only [List.all_cons, Bool.and_eq_true] at f
      rw [List.countP_cons, List.countP_cons, ih f.2, eqU_of r0 f.1]
  have ec : its.toArray.toList.countP (eqU y) = ys.countP fun z => eqV z y := key rv fys
  refine ⟨.int ((ys.countP fun z => eqV z y : Nat) : Int), H, I.tok _, ⟨s.toks, ?_⟩, q⟩
  show Value.int ((its.toArray.toList.countP (eqU y) : Nat) : Int) s.toks = _
  rw [ec]
def cntD (ds : List PyData) (d : PyData) : Option PyData := if flatD d = true ∧ ds.all flatD = true then some (.int ((ds.countP fun z => PyData.eqv z d : Nat) : Int)) else none
def idxD (ds : List PyData) (d : PyData) : Option PyData := if flatD d = true ∧ ds.all flatD = true then match ds.findIdx? (fun z => PyData.eqv z d) with
  | some j => some (.int (j : Nat))
  | none => none else none
theorem cnt_of {K : PySem.W.Frag} {H : Hp} {w : V} {e : PyData} (h' : Dp K H w e) (f' : flatD e = true) : ∀ {vs : List V} {ds : List PyData}, DpAll K H vs ds → ds.all flatD = true → (vs.countP fun z => eqV z w) = ds.countP fun z => PyData.eqv z e
  | _, _, .nil, _ => rfl
  | _, _, .cons a r, f => by
    simp only [List.all_cons, Bool.and_eq_true] at f
    rw [List.countP_cons, List.countP_cons, cnt_of h' f' r f.2, eqV_of a h' f.1 f']
def gCount (i : Nat) (gb : M PyData) : M PyData := M.bd (gHeld i) fun _ => M.bd gb fun d => M.bd (gHeld i) fun ds => M.opt (cntD ds d)
def gIndex (i : Nat) (gb : M PyData) : M PyData := M.bd (gHeld i) fun _ => M.bd gb fun d => M.bd (gHeld i) fun ds => M.opt (idxD ds d)
def splitD : PyData → PyData → Option (List PyData)
  | .str a, .str b => if (b.length == 0) = false ∧ a.length ≤ 1000000 then some ((Txt.split a b).map .str) else none
  | _, _ => none
def gSplit (ga gb : M PyData) : M (List PyData) := M.bd ga fun d => match d with
  | .str a => M.bd gb fun e => M.opt (splitD (.str a) e)
  | _ => M.no
section
variable {X : Cx} {W : WX} {a b e : Expr} {ga gb : M PyData} {x : Str} {p p1 p2 pos apos : Pos}
theorem sv_count (i : Nat) (hb : SV X W e gb) (hN : X.N[i]? = some x := by rfl) (hvis : Vis X.env.scope x := by first | exact Or.inl rfl | exact Or.inr (Or.inl rfl) | exact Or.inr (Or.inr rfl))
    (hd : (x == ("__debug__" : Str)) = false := by decide) (hcd : (x == ("__classdict__" : Str)) = false := by decide)
    (hbase : attributeBase (.Name x p1) "count" X.env (eval (.Name x p1) X.env) = eval (.Name x p1) X.env := by rfl)
    (hfew : ((backTo p2 (starEach [e] X.env)).all (fun x => !x.1) && (backToKw p2 (keywordEach [] X.env)).all (fun x => x.1.isSome)
      && decide ([e].length + ([] : List Keyword).length + (if ([] : List Keyword).isEmpty then 0 else 1) < 30)) = true := by rfl)
    (hline : (apos.endLine == p2.line) = true := by rfl) (hs : starEach [e] X.env = (false, eval e X.env) :: starEach [] X.env := by rfl) (hplain : (backTo p2 (starEach [] X.env)).any (·.1) = false := by rfl) :
    SV X W (.Call (.Attribute (.Name x p1) "count" apos) [e] [] p2) (gCount i gb) :=
  pe_imp (pe_bm PySem.F.plainAttrs_list PySem.F.slot_list_count PySem.F.type_list_count mt_cnt (pe_var hN hvis hd hcd) (pa_cons hb pa_nil hs) hbase hfew hline hs hplain) fun σ H Q ⟨C, F, env, R, h⟩ => by
    obtain ⟨_, p, vs0, _, _, _, a1, a2, _, h2⟩ := bd_held R h
    refine ⟨.ref p, a1, .inl ⟨rfl, _, SqL.of a2⟩, tG_bd R h2 fun d env2 w F2 H2 R2 ex2 o2 h3 => ?_⟩
    obtain ⟨ds, p', vs, s, q, qo, b1, b2, b3, h4⟩ := bd_held R2 h3
    rw [a1] at b1
    cases b1
    obtain ⟨z, hz, h5⟩ := h4.of_opt
    unfold cntD at hz
    split at hz
    · rename_i hf
      cases hz
      refine ⟨p, vs, w, rfl, rfl, SqL.of b2, dp_flat o2 hf.1, dps_flat b3 hf.2, ?_⟩
      rw [cnt_of o2 hf.1 b3 hf.2]
      exact aft (ok := okV X.K) h5 R2 (.int _)
    · cases hz
theorem sv_index (i : Nat) (hb : SV X W e gb) (hN : X.N[i]? = some x := by rfl) (hvis : Vis X.env.scope x := by first | exact Or.inl rfl | exact Or.inr (Or.inl rfl) | exact Or.inr (Or.inr rfl))
    (hd : (x == ("__debug__" : Str)) = false := by decide) (hcd : (x == ("__classdict__" : Str)) = false := by decide)
    (hbase : attributeBase (.Name x p1) "index" X.env (eval (.Name x p1) X.env) = eval (.Name x p1) X.env := by rfl)
    (hfew : ((backTo p2 (starEach [e] X.env)).all (fun x => !x.1) && (backToKw p2 (keywordEach [] X.env)).all (fun x => x.1.isSome)
      && decide ([e].length + ([] : List Keyword).length + (if ([] : List Keyword).isEmpty then 0 else 1) < 30)) = true := by rfl)
    (hline : (apos.endLine == p2.line) = true := by rfl) (hs : starEach [e] X.env = (false, eval e X.env) :: starEach [] X.env := by rfl) (hplain : (backTo p2 (starEach [] X.env)).any (·.1) = false := by rfl) :
    SV X W (.Call (.Attribute (.Name x p1) "index" apos) [e] [] p2) (gIndex i gb) :=
  pe_imp (pe_bm PySem.F.plainAttrs_list PySem.F.slot_list_index PySem.F.type_list_index mt_index (pe_var hN hvis hd hcd) (pa_cons hb pa_nil hs) hbase hfew hline hs hplain) fun σ H Q ⟨C, F, env, R, h⟩ => by
    obtain ⟨_, p, vs0, _, _, _, a1, a2, _, h2⟩ := bd_held R h
    refine ⟨.ref p, a1, .inl ⟨rfl, _, SqL.of a2⟩, tG_bd R h2 fun d env2 w F2 H2 R2 ex2 o2 h3 => ?_⟩
    obtain ⟨ds, p', vs, s, q, qo, b1, b2, b3, h4⟩ := bd_held R2 h3
    rw [a1] at b1
    cases b1
    obtain ⟨z, hz, h5⟩ := h4.of_opt
    unfold idxD at hz
    split at hz
    · rename_i hf
      cases hj : ds.findIdx? (fun z => PyData.eqv z d) with
      | none => rw [hj] at hz; cases hz
      | some j =>
        rw [hj] at hz
        cases hz
        obtain ⟨hlt, hy, hno⟩ := List.findIdx?_eq_some_iff_getElem.mp hj
        have fa := List.all_eq_true.mp hf.2
        obtain ⟨v, hv, dv⟩ := b3.get (List.getElem?_eq_getElem hlt)
        refine ⟨p, vs, w, j, v, rfl, rfl, SqL.of b2, dp_flat o2 hf.1, dps_flat b3 hf.2, hv, ?_, fun m z' hm hz' => ?_, ?_⟩
        · rw [eqV_of dv o2 (fa _ (List.getElem_mem hlt)) hf.1]; exact hy
        · have hml : m < ds.length := by omega
          obtain ⟨v', hv', dv'⟩ := b3.get (List.getElem?_eq_getElem hml)
          rw [hv'] at hz'
          cases hz'
          rw [eqV_of dv' o2 (fa _ (List.getElem_mem hml)) hf.1]
          have := hno m hm
          simpa using this
        · exact aft (ok := okV X.K) h5 R2 (.int _)
    · cases hz
theorem so_split (ha : SV X W a ga) (hb : SV X W b gb) (hs : starEach [b] X.env = [(false, eval b X.env)] := by rfl) (hbase : attributeBase a "split" X.env (eval a X.env) = eval a X.env := by rfl) (hline : (apos.endLine == pos.line) = true := by rfl) :
    SO X W (.Call (.Attribute a "split" apos) [b] [] pos) (gSplit ga gb) :=
  pe_imp (pe_split ha hb hs hbase hline) fun σ H Q ⟨C, F, env, R, h⟩ => tG_bd R h fun d env1 v F1 H1 R1 e1 o1 h1 => by
    cases o1 with
    | str x =>
      refine ⟨⟨x, rfl⟩, tG_bd R1 h1 fun e env2 w F2 H2 R2 e2 o2 h2 => ?_⟩
      obtain ⟨z, hz, h3⟩ := h2.of_opt
      unfold splitD at hz
      split at hz
      · rename_i x' y hd
        cases hd
        split at hz
        · rename_i hc
          cases hz
          cases o2
          have sl := sizeLine_eq
          have key : ∀ l : List Str, DpAll X.K F2 (l.map V.str) (l.map PyData.str) := fun l => by
            induction l with
            | nil => exact .nil
            | cons a r ih => exact .cons (.str a) ih
          exact ⟨x, y, rfl, rfl, hc.1, by omega, fun q hq => aft' (ok := okO X.K) h3 (R2.newH hq) (Ex.refl _) (okO_new R2 hq (key _))⟩
        · cases hz
      · cases hz
    | _ => exact h1.elim
end
end Pf
/-! part PfL -/
set_option Elab.async false
set_option linter.all false
set_option maxRecDepth 100000
set_option maxHeartbeats 4000000
namespace Pf
open PySem PySem.Spec L2 Evl LamX
theorem fs_look {K : PySem.W.Frag} {F : Hp} {f : Str} {d : PyData} : ∀ {vs : List (Str × V)} {ds : List (Str × PyData)}, FsOk K F vs ds → ds.lookup f = some d → ∃ v, vs.lookup f = some v ∧ Dp K F v d
  | [], [], _, h => by simp at h
  | [], _ :: _, h, _ => h.elim
  | _ :: _, [], h, _ => by simp [FsOk] at h
  | (g, v) :: vs, (g', d') :: ds, ⟨h1, h2, h3⟩, h => by
    subst h1
    rw [List.lookup_cons] at h ⊢
    cases e : (f == g) with
    | true => rw [e] at h; cases h; exact ⟨v, rfl, h2⟩
    | false => rw [e] at h; exact fs_look h3 h
/-- isinstance(e, C), e what the suite holds -/
def gIsK (a dd : Addr) (i : Nat) (b : Bool) : M PyData := fun env => match env[i]? with
  | some (.exc a' dd' _) => if a' = a ∧ dd' = dd then some (.ok (.bool b, env)) else none
  | _ => none
/-- e.f -/
def gXf (a dd : Addr) (i : Nat) (f : Str) : M PyData := fun env => match env[i]? with
  | some (.exc a' dd' fs) => if a' = a ∧ dd' = dd then (match fs.lookup f with
    | some d => some (.ok (d, env))
    | none => none) else none
  | _ => none
theorem exc_at {K : PySem.W.Frag} {C : Cn} {F : Hp} {σ : L2.St} {H : Hp} {env : En} {i : Nat} {a dd : Addr} {fs : List (Str × PyData)} (R : Rel K C F σ H env) (h : env[i]? = some (.exc a dd fs)) : σ[i]? = some (some (.ref a)) ∧ ∃ vs, F dd = some (.xd vs) ∧ FsOk K F vs fs := R.sl i _ h
section
variable {X : Cx} {W : WX} {a D dd CS : Addr} {oe : Obj} {pn : List (Addr × Obj)} {x c f : Str} {p p1 p2 pos apos : Pos} {b : Bool} {T : String}
theorem sv_isK (i : Nat) (C : ExcC X.K D) (hz : Zc (.ref D) (some dd) oe) (hf : ∃ vs, oe.data = .fields vs) (hgI : Gl X "isinstance") (hmI : X.mg "isinstance" = none) (hg : Gl X c) (hm : X.mg c = some (.ref CS)) (hk : PySem.W.kitOne X.K (.ref D) (.ref CS) = some b)
    (hN : X.N[i]? = some x := by rfl) (hv : Vis X.env.scope x := by first | exact Or.inl rfl | exact Or.inr (Or.inl rfl) | exact Or.inr (Or.inr rfl)) (hd : (x == ("__debug__" : Str)) = false := by decide) (hcd : (x == ("__classdict__" : Str)) = false := by decide) (hdc : (c == ("__debug__" : Str)) = false := by decide)
    (h1 : starEach [.Name c p2] X.env = (false, eval (.Name c p2) X.env) :: starEach [] X.env := by rfl) (h2 : starEach [.Name x p1, .Name c p2] X.env = (false, eval (.Name x p1) X.env) :: starEach [.Name c p2] X.env := by rfl) (hpl : (backTo pos (starEach [.Name c p2] X.env)).any (·.1) = false := by rfl) :
    SV (X.suite a ((a, oe) :: pn)) W (.Call (.Name "isinstance" p) [.Name x p1, .Name c p2] [] pos) (gIsK a dd i b) :=
  pe_imp (pe_callB (X := X.suite a ((a, oe) :: pn)) (call_isK C hz hf) hgI hmI PyProof.Rows.boot_isinstance (pa_cons (pe_var hN hv hd hcd) (pa_cons (pe_glob (v := .ref CS) hg hm rfl hdc) pa_nil h1) h2) (by decide) (by decide) h2 hpl) fun σ H Q ⟨C, F, env, R, h⟩ => by
    unfold gIsK at h
    split at h
    · rename_i a' dd' fs q
      split at h
      · rename_i e
        obtain ⟨rfl, rfl⟩ := e
        obtain ⟨s1, vs, s2, s3⟩ := exc_at R q
        exact ⟨.ref a', s1, .ref CS, .ref CS, b, vs, rfl, R.fh _ _ s2, fun u hu => hu, hk, aft (ok := okV X.K) h R (.bl b)⟩
      · exact h.elim
    · exact h.elim
theorem sv_isKT (i : Nat) (C : ExcC X.K D) (hz : Zc (.ref D) (some dd) oe) (hf : ∃ vs, oe.data = .fields vs) (hgI : Gl X "isinstance") (hmI : X.mg "isinstance" = none) (hg : Gl X c) (hm : X.mg c = none) (hb : bootBuiltins c = some (.type T)) (hn : c ≠ "__name__") (hk : PySem.W.kitOne X.K (.ref D) (.type T) = some b)
    (hN : X.N[i]? = some x := by rfl) (hv : Vis X.env.scope x := by first | exact Or.inl rfl | exact Or.inr (Or.inl rfl) | exact Or.inr (Or.inr rfl)) (hd : (x == ("__debug__" : Str)) = false := by decide) (hcd : (x == ("__classdict__" : Str)) = false := by decide) (hdc : (c == ("__debug__" : Str)) = false := by decide)
    (h1 : starEach [.Name c p2] X.env = (false, eval (.Name c p2) X.env) :: starEach [] X.env := by rfl) (h2 : starEach [.Name x p1, .Name c p2] X.env = (false, eval (.Name x p1) X.env) :: starEach [.Name c p2] X.env := by rfl) (hpl : (backTo pos (starEach [.Name c p2] X.env)).any (·.1) = false := by rfl) :
    SV (X.suite a ((a, oe) :: pn)) W (.Call (.Name "isinstance" p) [.Name x p1, .Name c p2] [] pos) (gIsK a dd i b) :=
  pe_imp (pe_callB (X := X.suite a ((a, oe) :: pn)) (call_isK C hz hf) hgI hmI PyProof.Rows.boot_isinstance (pa_cons (pe_var hN hv hd hcd) (pa_cons (pe_bltn (v := .ty T) hg hm hb rfl hn hdc) pa_nil h1) h2) (by decide) (by decide) h2 hpl) fun σ H Q ⟨C, F, env, R, h⟩ => by
    unfold gIsK at h
    split at h
    · rename_i a' dd' fs q
      split at h
      · rename_i e
        obtain ⟨rfl, rfl⟩ := e
        obtain ⟨s1, vs, s2, s3⟩ := exc_at R q
        exact ⟨.ref a', s1, .ty T, .type T, b, vs, rfl, R.fh _ _ s2, fun u hu => hu, hk, aft (ok := okV X.K) h R (.bl b)⟩
      · exact h.elim
    · exact h.elim
theorem sv_xf (i : Nat) (T : XfC X.K D) (hno : PySem.W.findIn X.K (.ref D) f = some none) (hz : Zc (.ref D) (some dd) oe) (hf : ∃ vs, oe.data = .fields vs)
    (hN : X.N[i]? = some x := by rfl) (hv : Vis X.env.scope x := by first | exact Or.inl rfl | exact Or.inr (Or.inl rfl) | exact Or.inr (Or.inr rfl)) (hd : (x == ("__debug__" : Str)) = false := by decide) (hcd : (x == ("__classdict__" : Str)) = false := by decide)
    (hb : attributeBase (.Name x p) f X.env (eval (.Name x p) X.env) = eval (.Name x p) X.env := by rfl) :
    SV (X.suite a ((a, oe) :: pn)) W (.Attribute (.Name x p) f pos) (gXf a dd i f) :=
  pe_imp (pe_xf T hno hz hf (pe_var (X := X.suite a ((a, oe) :: pn)) hN hv hd hcd) hb) fun σ H Q ⟨C, F, env, R, h⟩ => by
    unfold gXf at h
    split at h
    · rename_i a' dd' fs q
      split at h
      · rename_i e
        obtain ⟨rfl, rfl⟩ := e
        obtain ⟨s1, vs, s2, s3⟩ := exc_at R q
        cases hl : fs.lookup f with
        | none => rw [hl] at h; exact h.elim
        | some d =>
          rw [hl] at h
          obtain ⟨v, hv, dv⟩ := fs_look s3 hl
          exact ⟨.ref a', s1, rfl, rfl, dd', vs, v, rfl, R.fh _ _ s2, hv, aft (ok := okV X.K) h R dv⟩
      · exact h.elim
    · exact h.elim
end
/-! ### def x(a): try: return a() · except C as n: suite -/
/-- what is wished of the errors of a() -/
def EK (K : PySem.W.Frag) (mg : Str → Option Value) (kind : Xc → Option PyData) (Q : VK) : XK := fun cls d H' => ∃ F' x dres, (Ex F' H' ∧ NT F') ∧ XOk K mg F' H' cls d x ∧ kind x = some dres ∧ ∀ F2 H2 v, Exit F' H' [] F2 H2 → Dp K F2 v dres → Q v H2
def TTk (K : PySem.W.Frag) (mg : Str → Option Value) (kind : Xc → Option PyData) : (XK → Hp → VK → Prop) → Hp → VK → Prop := fun tl H Q => tl (EK K mg kind Q) H Q
def envX (n i : Nat) (a dd : Addr) (gs : List (Str × PyData)) : En := (List.replicate n .no).set i (.exc a dd gs)
theorem rel_exc {K : PySem.W.Frag} {F H : Hp} {σ : L2.St} {n i : Nat} {a dd : Addr} {gs : List (Str × PyData)} {vs : List (Str × V)} (hF : Ex F H ∧ NT F) (hl : σ.length = n) (hi : i < n) (h : F dd = some (.xd vs)) (hg : FsOk K F vs gs) : Rel K ⟨F, H, [], []⟩ F (σ.set i (some (.ref a))) H (envX n i a dd gs) where
  fh := hF.1
  nt := hF.2
  cf := Ex.refl _
  new := fun a h1 h2 => absurd h1 h2
  pres := fun a o q _ => q
  bd := fun b hb => by cases hb
  sl := fun j s hs => by
    rcases set_at hs with ⟨rfl, rfl, _⟩ | ⟨ne, hs⟩
    · exact ⟨List.getElem?_set_self (by omega), vs, h, hg⟩
    · rw [List.getElem?_replicate] at hs
      split at hs
      · cases hs; trivial
      · cases hs
  dis := fun j k p ⟨s, e, b, _⟩ _ => by
    rcases set_at e with ⟨rfl, rfl, _⟩ | ⟨ne, e⟩
    · cases b
    · rw [List.getElem?_replicate] at e
      split at e
      · cases e; cases b
      · cases e
  len := by unfold envX; rw [List.length_set, List.length_set, List.length_replicate, hl]
  tb := fun q hq => nomatch hq
theorem takes_len {X : Cx} {W : WX} (tk : Takes X W) : Takes X (fun cls d σ H => σ.length = X.N.length → W cls d σ H) := fun u s' ⟨a, B, sI, pins, σ, H, cls, d, e, I, nb, up, sky, na, os, ag, w⟩ =>
  tk u s' ⟨a, B, sI, pins, σ, H, cls, d, e, I, nb, up, sky, na, os, ag, w I.len⟩
theorem kind_gives {X : Cx} {Ng : List Str} {x a en n q : Str} {sg : Scope} {g CS : Addr} {cdg : Value} {i : Nat} {b₀ : Stmt} {suite : List Stmt} {p1 p2 p3 p4 p6 p8 : Pos} (kind : Xc → Option PyData) (hN : Ng.Nodup) (hi : Ng[i]? = some n) (hln : sg.names.lookup n = some .local)
    (hge : sg.names.lookup en = some .globalImplicit) (hme : X.mg en = some (.ref CS)) (hde : (en == ("__debug__" : Str)) = false) (h0 : ∀ f : Addr, (L2.start Ng [V.ref f])[0]? = some (some (V.ref f)))
    (hsu : ∀ (s : Shared) (H : Hp) (xc : Xc) (dres : PyData) (cls : Value) (dd : Addr) (gs : List (Str × PyData)), kind xc = some dres → X.mg xc.cls = some cls → xc.fs = some gs → PySem.W.exmOne X.K cls (.ref CS) = some true ∧
      ∀ (a : Addr) (oe : Obj) (pn : List (Addr × Obj)), Zc cls (some dd) oe → (∃ vs, oe.data = .fields vs) → ∃ G : S, SSs ((cxOf C8.CX0 X.prog X.w X.K X.mg X.base Ng x sg g cdg X.A X.stack s H C8.E0).nox.suite a ((a, oe) :: pn)) W0 (b₀ :: suite) G ∧ ∃ env', G (envX Ng.length i a dd gs) = some (.rt dres env'))
    (hxc : ∀ xc dres, kind xc = some dres → ∃ gs, xc.fs = some gs) :
    GivesTo X Ng x sg g cdg [.Try [.Return (some (.Call (.Name a p1) [] [] p2)) p3] [.ExceptHandler (some (.Name en p4)) (some n) (b₀ :: suite) p6] [] [] p8] a q (TTk X.K X.mg kind) := by
  intro f c' s H Q tl act hc h
  have hgl : Gl (cxOf C8.CX0 X.prog X.w X.K X.mg X.base Ng x sg g cdg X.A X.stack s H C8.E0).nox en := hge
  have hil : i < Ng.length := (List.getElem?_eq_some_iff.mp hi).1
  refine ⟨_, pss_one (ps_try_as (X := (cxOf C8.CX0 X.prog X.w X.K X.mg X.base Ng x sg g cdg X.A X.stack s H C8.E0).nox) (c := .ref CS) (i := i)
      (tb := fun W D σ H => ∃ Ech : XK, (∀ cls d σ' H', σ'.length = Ng.length → Ech cls d H' → W cls d σ' H') ∧ σ[0]? = some (some (.ref f)) ∧ H c' = some (CodeO c' q) ∧ tl Ech H D.rt)
      (ts := fun a cls d D σ H => ∃ xc dres dd gs F', d = some dd ∧ xc.fs = some gs ∧ X.mg xc.cls = some cls ∧ kind xc = some dres ∧ Rel X.K ⟨F', H, [], []⟩ F' σ H (envX Ng.length i a dd gs) ∧ ∀ F2 H2 v, Exit F' H [] F2 H2 → Dp X.K F2 v dres → D.rt v H2)
      rfl rfl hN hi hln ⟨hgl, hde, .inl hme⟩ L2.takes0 (fun W pn xe tk _ => ?_) (fun a oe cls d pn hz hf => ?_)), ?_⟩
  · refine ⟨fun pins s' σ H' D I h' => ?_⟩
    obtain ⟨Ech, hW, h1, h2, h3⟩ := h'
    have hp := act _ pn xe Ech p1 p2 (takes_len tk) (fun cls d σ' H' e l => hW cls d σ' H' l e)
    have hq := pss_one (ps_ret (pos := p3) hp)
    exact hq.run pins s' σ H' D I ⟨h1, h2, h3⟩
  · refine ⟨fun pins s' σ H' D I h' => ?_⟩
    obtain ⟨xc, dres, dd, gs, F', rfl, e1, e2, e3, R, hq⟩ := h'
    obtain ⟨_, hs⟩ := hsu s H xc dres cls dd gs e3 e2 e1
    obtain ⟨G, hG, env', eG⟩ := hs a oe pn hz hf
    exact hG.run pins s' σ H' D I ⟨_, F', _, R, by rw [eG]; exact fun v σ2 F2 H2 R2 ex dv => hq F2 H2 v R2.exit dv⟩
  · refine ⟨EK X.K X.mg kind Q, fun cls d σ' H' hl ⟨F', xc, dres, hF, ⟨c1, c2⟩, hk, hq⟩ => ?_, h0 f, hc, h⟩
    obtain ⟨gs, egs⟩ := hxc xc dres hk
    rw [egs] at c2
    obtain ⟨dd, vs, ed, eF, hfs⟩ := c2
    subst ed
    obtain ⟨he, _⟩ := hsu s H xc dres cls dd gs hk c1 egs
    exact ⟨true, he, fun _ a ha => ⟨xc, dres, dd, gs, F', rfl, egs, c1, hk, rel_exc hF hl hil eF hfs, hq⟩, fun z => by cases z⟩
end Pf
/-! part PfM -/
set_option Elab.async false
set_option linter.all false
set_option maxRecDepth 100000
set_option maxHeartbeats 4000000
namespace Pf
open PySem PySem.Spec L2 Evl LamX
def noObj (env : En) : Bool := env.all fun s => match s with
  | .obj _ => false
  | _ => true
/-- nothing but tables has changed -/
theorem Rel.extN {K : PySem.W.Frag} {C : Cn} {F : Hp} {σ : L2.St} {H H1 : Hp} {env : En} {i : Nat} {T : List (Addr × Str)} (R : Rel K C F σ H env) (ht : env[i]? = some (.tab T)) (hn : noObj env = true) (e : ExtN H H1) (t1 : Tabs T H1) : Rel K C F σ H1 env := by
  obtain ⟨⟨eT, eB⟩, eH⟩ := R.sl i _ ht
  exact {
    fh := fun a o q => e a o (R.fh a o q) fun ps z => R.nt a ps (by rw [q, z])
    cf := R.cf
    new := R.new
    pres := fun a o q hb => e a o (R.pres a o q hb) fun ps z => hb (eH a ps (by rw [q, z]))
    bd := fun b hb => by
      refine ⟨?_, (R.bd b hb).2⟩
      obtain ⟨q, hq⟩ := eB b hb
      obtain ⟨ps, h1, _⟩ := t1 _ hq
      rw [h1]; simp
    sl := fun j s hs => by
      have q := R.sl j s hs
      cases s with
      | no => trivial
      | val d => exact q
      | own es => obtain ⟨p', ws, a1, a2, a3, a4, a5⟩ := q; exact ⟨p', ws, a1, a2, a3, e _ _ a4 (fun ps z => by cases z), a5⟩
      | bor es => obtain ⟨p', ws, a1, a2, a3, a4, a5⟩ := q; exact ⟨p', ws, a1, a2, a3, e _ _ a4 (fun ps z => by cases z), a5⟩
      | obj ob =>
        have := List.all_eq_true.mp hn _ (List.mem_of_getElem? hs)
        cases this
      | raw v => exact q
      | exc a dd fs => exact q
      | tab T => exact q
    dis := R.dis
    len := R.len
    tb := by rw [eT]; exact t1
    nt := R.nt }
theorem takes_lam {X : Cx} {A : Around} {outer : List PySem.Env} {s : Shared} {H : Hp} {E : XK} {scope : Scope} {f c' : Addr} : Takes (lamCx X A outer s H E scope f c') (WE0 E) :=
  takes_of (X := lamCx X A outer s H E scope f c') (E := E) (E₁ := fun e' s'' => L2.CX X.prog X.w outer H s E e' s'') rfl rfl rfl rfl
/-- f(lambda: e), f the def that tells the kind of a refusal -/
def gKind (i : Nat) (T : List (Addr × Str)) (kind : Xc → Option PyData) (gB : M PyData) : M PyData := fun env => match env[i]? with
  | some (.tab T') => if T' = T ∧ noObj env = true then (match gB env with
    | some (.ok r) => some (.ok r)
    | some (.error (x, env')) => (match kind x with
      | some d => some (.ok (d, env'))
      | none => none)
    | none => none) else none
  | _ => none
section
variable {X : Cx} {W : WX}
theorem sv_lam {T : List (Addr × Str)} {kind : Xc → Option PyData} {gB : M PyData} {x a : Str} {g c P : Addr} {k : Nat} {pg : Arguments} {bg : List Stmt} {sg : Scope} {dV kV doc pm cdv ct oc : Value} {an od : Option Addr} {osl : Array (Option Value)} {Ng : List Str}
    {params : Arguments} {body : Expr} {scope : Scope} {p lpos pos : Pos} (i : Nat) (hg : Gl X x) (hm : X.mg x = some (.ref g)) (hk : PySem.W.keepIn X.K (.ref g) = true)
    (lk : X.K.lookup g = some ⟨oc, od, .func (PySem.W.fnOf x x pg bg sg dV kV doc pm an cdv ct), osl⟩) (hcg : PySem.W.codeIn X.K cdv x = true) (hb : L2.Binds X.K (PySem.W.fnOf x x pg bg sg dV kV doc pm an cdv ct) [a] []) (Sg : FnScope Ng [a] sg) (hNg : Ng[0]? = some a) (hva : Vis sg a)
    (hG : GivesTo X Ng x sg g cdv bg a (X.env.qual ++ "<lambda>") (TTk X.K X.mg kind))
    (TB : TabB X.base X.mg c P) (hcode : X.env.code = .ref c) (hmT : (P, X.env.qual ++ "<lambda>") ∈ T) (hu : ∀ p ∈ T, p.1 = P → p.2 = X.env.qual ++ "<lambda>") (hr : Room (k + 2) X.A) (L : LamS X.env.scope scope) (hdef : defaultsOf params X.env = ([], []))
    (hbind : ∀ (q : Str) (cl : List (Str × Addr)) (pm cv ctv : Value), bindArgs (PySem.W.kla_fn "<lambda>" q params body scope cl pm cv ctv) ⟨[], []⟩ = pure [])
    (hbody : ∀ (A : Around) (outer : List PySem.Env) (s : Shared) (H : Hp) (E : XK) (f c' : Addr), Room k (A.deeper (lamEnv X scope s.heap.objs.size f c')) → SV (lamCx X A outer s H E scope f c') (WE0 E) body gB)
    (hdb : (x == ("__debug__" : Str)) = false := by decide) (hd : (a == ("__debug__" : Str)) = false := by decide) (hcd : (a == ("__classdict__" : Str)) = false := by decide) :
    SV X W (.Call (.Name x p) [.Lambda params body scope lpos] [] pos) (gKind i T kind gB) :=
  pe_imp (pe_lamcall (T := T) (TT := TTk X.K X.mg kind) (t := fun E => tG X.K X.mg (okV X.K) (WE0 E) gB) hg hm hk lk hcg hb Sg hNg hva hG TB hcode hmT hu hr L hdef hbind (fun A outer s H E f c' hr' => hbody A outer s H E f c' hr') hdb hd hcd) fun σ H Q ⟨C, F, env, R, h⟩ => by
    unfold gKind at h
    split at h
    · rename_i T' q
      split at h
      · rename_i hc
        obtain ⟨rfl, hn⟩ := hc
        obtain ⟨⟨eT, eB⟩, eH⟩ := R.sl i _ q
        refine ⟨by rw [← eT]; exact R.tb, fun H1 ex t1 => ?_⟩
        refine ⟨C, F, env, R.extN q hn ex t1, ?_⟩
        cases hq : gB env with
        | none => rw [hq] at h; exact h.elim
        | some r =>
          rw [hq] at h
          cases r with
          | ok z => exact h
          | error z =>
            obtain ⟨xc, env'⟩ := z
            simp only at h
            cases hkx : kind xc with
            | none => rw [hkx] at h; exact h.elim
            | some d =>
              rw [hkx] at h
              exact fun F' H' cls dx R' e xo => ⟨F', xc, d, ⟨R'.fh, R'.nt⟩, xo, hkx, fun F2 H2 v x dv => h v F2 H2 (R'.call x) (e.trans x.ff) dv⟩
      · exact h.elim
    · exact h.elim
end
end Pf
/-! part PfN -/
set_option Elab.async false
set_option linter.all false
set_option maxRecDepth 100000
set_option maxHeartbeats 2000000
namespace Pf
open PySem PySem.Spec L2 Evl
/-- what a slot holds, as data; the slot stays as it is -/
def gLk (i : Nat) : M PyData := fun env => match env[i]? with
  | some (.own ds) => some (.ok (.list ds, env))
  | some (.bor ds) => some (.ok (.list ds, env))
  | some (.val d) => some (.ok (d, env))
  | _ => none
theorem bd_lk {K : PySem.W.Frag} {mg : Str → Option Value} {W : WX} {C : Cn} {F : Hp} {σ : L2.St} {H : Hp} {env : En} {i : Nat} {γ δ : Type} {ok : OkR γ δ} {f : PyData → M γ} {Q : δ → Hp → Prop} (R : Rel K C F σ H env) (h : After K mg ok W C F σ (M.bd (gLk i) f env) Q) :
    ∃ v d, σ[i]? = some (some v) ∧ Dp K H v d ∧ After K mg ok W C F σ (f d env) Q := by
  unfold M.bd gLk at h
  cases q : env[i]? with
  | none => rw [q] at h; exact h.elim
  | some s =>
    rw [q] at h
    cases s with
    | own ds => obtain ⟨p, vs, a1, _, _, a4, a5⟩ := R.sl i _ q; exact ⟨.ref p, .list ds, a1, .lst (SqL.of a4) (dps_mono R.fh a5), h⟩
    | bor ds => obtain ⟨p, vs, a1, _, _, a4, a5⟩ := R.sl i _ q; exact ⟨.ref p, .list ds, a1, .lst (SqL.of a4) (dps_mono R.fh a5), h⟩
    | val d => obtain ⟨v, a1, a2⟩ := R.sl i _ q; exact ⟨v, d, a1, dp_mono R.fh a2, h⟩
    | _ => exact h.elim
def gTstL (f : PyData → PyData → Option Bool) (i : Nat) (gb : M PyData) : M Bool := M.bd (gLk i) fun _ => M.bd gb fun e => M.bd (gLk i) fun d => M.opt (f d e)
section
variable {X : Cx} {W : WX} {b : Expr} {gb : M PyData} {pos p : Pos} {x : Str}
theorem st_neL (i : Nat) (hu : X.A.units + 64 < cLine) (hb : SV X W b gb) (hN : X.N[i]? = some x := by rfl) (hv : Vis X.env.scope x := by first | exact Or.inl rfl | exact Or.inr (Or.inl rfl) | exact Or.inr (Or.inr rfl))
    (hd : (x == ("__debug__" : Str)) = false := by decide) (hcd : (x == ("__classdict__" : Str)) = false := by decide) (hm : behindInMarks .NotEq b = false := by rfl) : ST X W (.Compare (.Name x p) [.NotEq] [b] pos) (gTstL neD i gb) :=
  pt_imp (pt_cmpR (op_neD hu) (pe_var hN hv hd hcd) hb hm) fun σ H Q ⟨C, F, env, R, h⟩ => by
    obtain ⟨v, d0, a1, _, h1⟩ := bd_lk R h
    refine ⟨v, a1, tG_bd R h1 fun e env2 w F2 H2 R2 e2 o2 h2 => ?_⟩
    obtain ⟨v', d, b1, b2, h3⟩ := bd_lk R2 h2
    rw [a1] at b1
    cases b1
    obtain ⟨k, hk, h4⟩ := h3.of_opt
    unfold neD at hk
    split at hk
    · rename_i hs; cases hk
      exact ⟨d, e, b2, dp_mono R2.fh o2, hs.1, hs.2, _, rfl, aft (ok := okB) h4 R2 rfl⟩
    · cases hk
theorem st_eqL (i : Nat) (hu : X.A.units + 64 < cLine) (hb : SV X W b gb) (hN : X.N[i]? = some x := by rfl) (hv : Vis X.env.scope x := by first | exact Or.inl rfl | exact Or.inr (Or.inl rfl) | exact Or.inr (Or.inr rfl))
    (hd : (x == ("__debug__" : Str)) = false := by decide) (hcd : (x == ("__classdict__" : Str)) = false := by decide) (hm : behindInMarks .Eq b = false := by rfl) : ST X W (.Compare (.Name x p) [.Eq] [b] pos) (gTstL eqD i gb) :=
  pt_imp (pt_cmpR (op_eqD hu) (pe_var hN hv hd hcd) hb hm) fun σ H Q ⟨C, F, env, R, h⟩ => by
    obtain ⟨v, d0, a1, _, h1⟩ := bd_lk R h
    refine ⟨v, a1, tG_bd R h1 fun e env2 w F2 H2 R2 e2 o2 h2 => ?_⟩
    obtain ⟨v', d, b1, b2, h3⟩ := bd_lk R2 h2
    rw [a1] at b1
    cases b1
    obtain ⟨k, hk, h4⟩ := h3.of_opt
    unfold eqD at hk
    split at hk
    · rename_i hs; cases hk
      exact ⟨d, e, b2, dp_mono R2.fh o2, hs.1, hs.2, _, rfl, aft (ok := okB) h4 R2 rfl⟩
    · cases hk
end
end Pf
/-! part PfV -/
set_option Elab.async false
set_option linter.all false
set_option maxRecDepth 100000
set_option maxHeartbeats 1000000
namespace Pf
open PySem PySem.Spec L2 Evl
/-! ### what the readings come to -/
section
variable {env env1 env2 : En} {i : Nat} {ds ds1 st st' : List PyData} {d x : PyData}
theorem held_own (h : env[i]? = some (.own ds)) : gHeld i env = some (.ok (ds, env)) := by unfold gHeld; rw [h]
theorem held_bor (h : env[i]? = some (.bor ds)) : gHeld i env = some (.ok (ds, env)) := by unfold gHeld; rw [h]
theorem peek_own (h : env[i]? = some (.own ds)) : gPeek i env = some (.ok (ds, env)) := by unfold gPeek; rw [h]
theorem peek_bor (h : env[i]? = some (.bor ds)) : gPeek i env = some (.ok (ds, env)) := by unfold gPeek; rw [h]
theorem peek_lst (h : env[i]? = some (.val (.list ds))) : gPeek i env = some (.ok (ds, env)) := by unfold gPeek; rw [h]
theorem peek_tup (h : env[i]? = some (.val (.tuple ds))) : gPeek i env = some (.ok (ds, env)) := by unfold gPeek; rw [h]
theorem put_own (h : env[i]? = some (.own ds)) (es : List PyData) : gPut i es env = some (.ok ((), env.set i (.own es))) := by unfold gPut; rw [h]; rfl
theorem put_bor (h : env[i]? = some (.bor ds)) (es : List PyData) : gPut i es env = some (.ok ((), env.set i (.bor es))) := by unfold gPut; rw [h]; rfl
theorem bd_ok {α β : Type} {m : M α} {f : α → M β} {a : α} (h : m env = some (.ok (a, env1))) : M.bd m f env = f a env1 := by unfold M.bd; rw [h]
theorem gE_ok {α : Type} {m : M α} {f : α → S} {a : α} (h : m env = some (.ok (a, env1))) : gE m f env = f a env1 := by unfold gE; rw [h]
theorem seq_nx {g h : S} (e : g env = some (.nx env1)) : gSeq g h env = h env1 := by unfold gSeq; rw [e]
theorem opt_ok {α : Type} {o : Option α} {a : α} (h : o = some a) : M.opt o env = some (.ok (a, env)) := by unfold M.opt; rw [h]
theorem lenP_own (h : env[i]? = some (.own ds)) : gLenP i env = some (.ok (.int ds.length, env)) := by unfold gLenP; rw [bd_ok (peek_own h)]; rfl
theorem n_val (h : env[i]? = some (.val d)) : gN i env = some (.ok (d, env)) := by unfold gN; rw [h]
theorem n_own (h : env[i]? = some (.own ds)) : gN i env = some (.ok (.list ds, env.set i (.val (.list ds)))) := by unfold gN; rw [h]
theorem callB_bor {α : Type} {gl : M (List PyData)} {m : List PyData → List PyData → Rf (α × List PyData)} {as : List PyData} {a : α} (h0 : env[i]? = some (.bor st)) (h1 : gl env = some (.ok (as, env1))) (h2 : env1[i]? = some (.bor ds)) (h3 : m ds as = some (.ok (a, st'))) : gCallB i gl m env = some (.ok (a, env1.set i (.bor st'))) := by
  unfold gCallB
  rw [bd_ok (held_bor h0), bd_ok h1, bd_ok (held_bor h2)]
  simp only [h3]
  rw [bd_ok (put_bor h2 st')]
  rfl
theorem callB_own {α : Type} {gl : M (List PyData)} {m : List PyData → List PyData → Rf (α × List PyData)} {as : List PyData} {a : α} (h0 : env[i]? = some (.own st)) (h1 : gl env = some (.ok (as, env1))) (h2 : env1[i]? = some (.own ds)) (h3 : m ds as = some (.ok (a, st'))) : gCallB i gl m env = some (.ok (a, env1.set i (.own st'))) := by
  unfold gCallB
  rw [bd_ok (held_own h0), bd_ok h1, bd_ok (held_own h2)]
  simp only [h3]
  rw [bd_ok (put_own h2 st')]
  rfl
theorem popAt_own {gb : M PyData} {k : Nat} (h0 : env[i]? = some (.own ds)) (h1 : gb env = some (.ok (.int k, env1))) (h2 : env1[i]? = some (.own ds1)) (hk : k < ds1.length) (hl : ds1.length ≤ 16777216) (hx : ds1[k]? = some x) : gPopAt i gb env = some (.ok (x, env1.set i (.own (ds1.eraseIdx k)))) := by
  have hb : -(2 ^ 63) ≤ (k : Int) ∧ (k : Int) < 2 ^ 63 := by omega
  have hs : seqIndex? (k : Int) ds1.length = some k := (ixN_seq (ixN_nat hk)).1
  unfold gPopAt
  rw [bd_ok (held_own h0), bd_ok h1, bd_ok (held_own h2)]
  simp only
  rw [if_pos hb]
  simp only [hs, hx]
  rw [bd_ok (put_own h2 _)]
  rfl
theorem app_own {gb : M PyData} (h0 : env[i]? = some (.own ds)) (h1 : gb env = some (.ok (x, env1))) (h2 : env1[i]? = some (.own ds1)) (hl : ds1.length < 16777216) : gApp i gb env = some (.nx (env1.set i (.own (ds1 ++ [x])))) := by
  unfold gApp
  rw [gE_ok (held_own h0), gE_ok h1, gE_ok (held_own h2), if_pos hl, gE_ok (put_own h2 _)]
  rfl
theorem setIx_own {gv gi : M PyData} {k : Nat} (h0 : gv env = some (.ok (x, env1))) (h1 : env1[i]? = some (.own ds)) (h2 : gi env1 = some (.ok (.int k, env2))) (h3 : env2[i]? = some (.own ds1)) (hk : k < ds1.length) : gSetIx i gv gi env = some (.nx (env2.set i (.own (ds1.set k x)))) := by
  unfold gSetIx
  rw [gE_ok h0, gE_ok (held_own h1), gE_ok h2, gE_ok (held_own h3)]
  simp only [ixN_nat hk]
  rw [gE_ok (put_own h3 _)]
  rfl
theorem ixP_own {gb : M PyData} {k : Nat} (h0 : env[i]? = some (.own ds)) (h1 : gb env = some (.ok (.int k, env1))) (h2 : env1[i]? = some (.own ds1)) (hx : ds1[k]? = some x) : gIxP i gb env = some (.ok (x, env1)) := by
  unfold gIxP
  rw [bd_ok (peek_own h0), bd_ok h1, bd_ok (peek_own h2)]
  exact opt_ok (atI_nat hx)
theorem ixP_tup {gb : M PyData} {k : Nat} (h0 : env[i]? = some (.val (.tuple ds))) (h1 : gb env = some (.ok (.int k, env1))) (h2 : env1[i]? = some (.val (.tuple ds1))) (hx : ds1[k]? = some x) : gIxP i gb env = some (.ok (x, env1)) := by
  unfold gIxP
  rw [bd_ok (peek_tup h0), bd_ok h1, bd_ok (peek_tup h2)]
  exact opt_ok (atI_nat hx)
end
theorem aug_at {env env1 : En} {i : Nat} {f : Int → Int → Int} {gb : M PyData} {a b : Int} (h : env[i]? = some (.val (.int a))) (h1 : gb env = some (.ok (.int b, env1))) : gAug i f gb env = some (.nx (env1.set i (.val (.int (f a b))))) := by
  unfold gAug
  simp only [h]
  rw [gE_ok h1]
theorem repD_nat {ds : List PyData} {c : Nat} (h : ds.length * c ≤ 16777216) (h2 : c < 1000000) : repD ds (.int c) = some (List.replicate c ds).flatten := by
  unfold repD
  simp only
  rw [if_pos ⟨by omega, by omega, by rw [Int.toNat_natCast]; exact h⟩, Int.toNat_natCast]
theorem fnB_rt {G : S} {N : Nat} {st ds st' : List PyData} {d : PyData} {r : En} (h : G (envB N st ds) = some (.rt d (.bor st' :: r))) : fnB G N st ds = some (.ok (d, st')) := by unfold fnB; rw [h]
theorem fnD_rt {G : S} {N : Nat} {ds : List PyData} {d : PyData} {r : En} (h : G (envD N ds) = some (.rt d r)) : fnD G N ds = some (.ok d) := by unfold fnD; rw [h]
theorem fnD_nx {G : S} {N : Nat} {ds : List PyData} {r : En} (h : G (envD N ds) = some (.nx r)) : fnD G N ds = some (.ok .none) := by unfold fnD; rw [h]
theorem fnD_er {G : S} {N : Nat} {ds : List PyData} {x : Xc} {r : En} (h : G (envD N ds) = some (.er x r)) : fnD G N ds = some (.error x) := by unfold fnD; rw [h]
end Pf
/-! part Rd -/
set_option Elab.async false
set_option linter.all false
set_option maxRecDepth 100000
set_option maxHeartbeats 4000000
namespace Q
open PySem PySem.Spec L2 Evl Pf
def G_is_number : S :=
  (gRet (gAnd (gIsa "int" (gN 0)) (gNot (gIsa "bool" (gN 0)))))
def m_is_number : List PyData → Rf PyData := fnD G_is_number 1
def G_is_place : S :=
  (gRet (gAnd (gCall m_is_number (gCons (gN 0) gNil)) (gChain (gC (.int 0)) (gN 0) (gN 1) (cmpD fun i j => decide (i ≤ j)) (cmpD fun i j => decide (i < j)))))
def m_is_place : List PyData → Rf PyData := fnD G_is_place 2
def G_is_price : S :=
  (gRet (gOr (gCmp isD (gN 0) (gC .none)) (gAnd (gCall m_is_number (gCons (gN 0) gNil)) (gChain (gC (.int 1)) (gN 0) (gC (.int 99)) (cmpD fun i j => decide (i ≤ j)) (cmpD fun i j => decide (i ≤ j))))))
def m_is_price : List PyData → Rf PyData := fnD G_is_price 1
def G_lot_of : S :=
  (gSeq (gForET (gN 0) (bTup 2 (bCons (bN 2) (bCons (bN 3) bNil))) (gIfS (gTst inD (gN 1) (gN 3)) (gRet (gN 2)) gNx))
  (gRet (gC .none)))
def m_lot_of : List PyData → Rf PyData := fnD G_lot_of 4
def G_wrong_price : S :=
  (gSeq (gIfS (gOrT (gNotT (gTru (gIsa "tuple" (gN 0)))) (gTst eqD (gLenP 0) (gC (.int 0)))) (gRet (gC (.int 0))) gNx)
  (gSeq (gForET (gN 0) (bTup 2 (bCons (bN 1) (bCons (bN 2) bNil))) (gIfS (gOrT (gTst eqD (gN 1) (gC (.int 12))) (gNotT (gTru (gCall m_is_price (gCons (gN 2) gNil))))) (gRet (gN 1)) gNx))
  (gRet (gC .none))))
def m_wrong_price : List PyData → Rf PyData := fnD G_wrong_price 3
def G_wrong_lot : S :=
  (gSeq (gIfS (gNotT (gTru (gIsa "tuple" (gN 0)))) (gRet (gC (.int 0))) gNx)
  (gSeq (gMkS 4)
  (gSeq (gForET (gN 0) (bTup 2 (bCons (bN 5) (bCons (bN 6) bNil))) (gSeq (gIfS (gOrT (gTst eqD (gN 5) (gN 3)) (gNotT (gTru (gIsa "tuple" (gN 6))))) (gRet (gN 5)) gNx)
  (gForT (gN 6) (bN 7) (gSeq (gIfS (gOrT (gNotT (gTru (gCall m_is_place (gCons (gN 7) (gCons (gN 1) gNil))))) (gHasS 4 (gN 7))) (gRet (gN 5)) gNx)
  (gAddS 4 (gN 7))))))
  (gSeq (gIfS (gTst (cmpD fun i j => decide (i < j)) (gLenP 0) (gN 2)) (gRet (gLenP 0)) gNx)
  (gRet (gC .none))))))
def m_wrong_lot : List PyData → Rf PyData := fnD G_wrong_lot 8
def G_missing_book : S :=
  (gSeq (gForR1 (gN 1) (bN 2) (gIfS (gTst isD (gCall m_lot_of (gCons (gN 0) (gCons (gN 2) gNil))) (gC .none)) (gRet (gN 2)) gNx))
  (gRet (gC .none)))
def m_missing_book : List PyData → Rf PyData := fnD G_missing_book 3
def G_check_shelf : S :=
  (gSeq (gIfS (gOrT (gNotT (gTru (gIsa "tuple" (gN 0)))) (gTst neD (gLenP 0) (gC (.int 2)))) (gRaise "BadShelf" ["part", "number"] (gCons (gUn negD (gC (.int 1))) (gCons (gC (.int 0)) gNil))) gNx)
  (gSeq (gAsg (bTup 2 (bCons (bN 1) (bCons (bN 2) bNil))) (gN 0))
  (gSeq (gSet 3 (gCall m_wrong_price (gCons (gN 1) gNil)))
  (gSeq (gIfS (gTst isnD (gN 3) (gC .none)) (gRaise "BadShelf" ["part", "number"] (gCons (gC (.int 0)) (gCons (gN 3) gNil))) gNx)
  (gSeq (gSet 3 (gCall m_wrong_lot (gCons (gN 2) (gCons (gLenP 1) (gCons (gC (.int 1)) (gCons (gC (.int 5)) gNil))))))
  (gSeq (gIfS (gTst isnD (gN 3) (gC .none)) (gRaise "BadShelf" ["part", "number"] (gCons (gC (.int 1)) (gCons (gN 3) gNil))) gNx)
  (gSeq (gSet 3 (gCall m_missing_book (gCons (gN 2) (gCons (gLenP 1) gNil))))
  (gIfS (gTst isnD (gN 3) (gC .none)) (gRaise "BadShelf" ["part", "number"] (gCons (gC (.int 2)) (gCons (gN 3) gNil))) gNx))))))))
def m_check_shelf : List PyData → Rf PyData := fnD G_check_shelf 4
def G_is_deed : S :=
  (gSeq (gIfS (gOrT (gNotT (gTru (gIsa "tuple" (gN 1)))) (gTst neD (gLenP 1) (gC (.int 3)))) (gRet (gC (.bool false))) gNx)
  (gSeq (gAsg (bTup 2 (bCons (bN 2) (bCons (bN 3) bNil))) (gN 0))
  (gSeq (gAsg (bTup 3 (bCons (bN 4) (bCons (bN 5) (bCons (bN 6) bNil)))) (gN 1))
  (gRet (gAnd (gCall m_is_place (gCons (gN 4) (gCons (gLenP 2) gNil))) (gAnd (gCall m_is_place (gCons (gN 5) (gCons (gLenP 3) gNil))) (gCmp inD (gN 6) (gTup (gCons (gC (.str "first")) (gCons (gC (.str "last")) gNil))))))))))
def m_is_deed : List PyData → Rf PyData := fnD G_is_deed 7
def G_why_not : S :=
  (gSeq (gIfS (gNotT (gTru (gCall m_is_deed (gCons (gN 0) (gCons (gN 1) gNil))))) (gRet (gC (.str "form"))) gNx)
  (gSeq (gSet 2 (gIxP 0 (gC (.int 0))))
  (gSeq (gIfS (gTst isD (gIxP 2 (gIxP 1 (gC (.int 0)))) (gC .none)) (gRet (gC (.str "fixed"))) gNx)
  (gRet (gC .none)))))
def m_why_not : List PyData → Rf PyData := fnD G_why_not 3
def G_check_list : S :=
  (gIfS (gNotT (gTru (gIsa "list" (gN 0)))) (gRaise "BadWay" ["number", "why"] (gCons (gC (.int 0)) (gCons (gC (.str "form")) gNil))) gNx)
def m_check_list : List PyData → Rf PyData := fnD G_check_list 1
def G_check_deeds : S :=
  (gSeq (gEx (gCall m_check_list (gCons (gN 1) gNil)))
  (gForEL (gN 1) (bTup 2 (bCons (bN 2) (bCons (bN 3) bNil))) (gSeq (gSet 4 (gCall m_why_not (gCons (gN 0) (gCons (gN 3) gNil))))
  (gIfS (gTst isnD (gN 4) (gC .none)) (gRaise "BadWay" ["number", "why"] (gCons (gN 2) (gCons (gN 4) gNil))) gNx))))
def m_check_deeds : List PyData → Rf PyData := fnD G_check_deeds 5
def G_lots_behind : S :=
  (gSeq (gAsg (bTup 3 (bCons (bN 2) (bCons (bN 3) (bCons (bN 4) bNil)))) (gN 1))
  (gRows 5 [6] 6 gYes (gLcT [7] 7 (gTst neD (gN 7) (gN 2)) (gN 7) (gN 6)) (gN 0) (gTst eqD (gN 4) (gC (.str "first"))) (gN 3) (gN 2)
  (gRet (gBlt tupK (gCons (gFz (gLcL [8] 8 gYes (gBlt tupK (gCons (gN 8) gNil)) (gN 5))) gNil)))))
def m_lots_behind : List PyData → Rf PyData := fnD G_lots_behind 9
def G_outcome : S :=
  (gSeq (gAsg (bTup 2 (bCons (bN 2) (bCons (bN 3) bNil))) (gN 0))
  (gSeq (gSet 4 (gC (.int 0)))
  (gSeq (gForL (gN 1) (bN 5) (gSeq (gSet 3 (gCall m_lots_behind (gCons (gN 3) (gCons (gN 5) gNil))))
  (gAug 4 (fun i j => i + j) (gIxP 2 (gIxP 5 (gC (.int 0)))))))
  (gRet (gTup (gCons (gN 3) (gCons (gN 4) gNil)))))))
def m_outcome : List PyData → Rf PyData := fnD G_outcome 6
def G_done : S :=
  (gSeq (gEx (gCall m_check_shelf (gCons (gN 0) gNil)))
  (gSeq (gEx (gCall m_check_deeds (gCons (gN 0) (gCons (gN 1) gNil))))
  (gRet (gCall m_outcome (gCons (gN 0) (gCons (gN 1) gNil))))))
def m_done : List PyData → Rf PyData := fnD G_done 2
def G__law_start : S :=
  (gSeq (gSet 1 (gC (.int 1)))
  (gSeq (gForL (gN 0) (bN 2) (gSet 1 (gBin modD (gBin addD (gBin addD (gBin mulD (gN 1) (gC (.int 48271))) (gN 2)) (gC (.int 7))) (gC (.int 2147483647)))))
  (gRetO (gLst (gCons (gN 0) (gCons (gC (.int 0)) (gCons (gN 1) (gCons (gC (.int 0)) gNil))))))))
def m__law_start : List PyData → Rf (List PyData) := fnO G__law_start 3
def G__law_drawn : S :=
  (gSeq (gIfS (gTst (cmpD fun i j => decide (j < i)) (gIxP 0 (gC (.int 3))) (gC (.int 0))) (gSeq (gSet 2 (gBin modD (gIxP 0 (gC (.int 3))) (gN 1)))
  (gSeq (gSetIx 0 (gBin divD (gIxP 0 (gC (.int 3))) (gN 1)) (gC (.int 3)))
  (gRet (gN 2)))) gNx)
  (gSeq (gSetIx 0 (gBin addD (gIxP 0 (gC (.int 1))) (gC (.int 1))) (gC (.int 1)))
  (gSeq (gIfS (gTst (cmpD fun i j => decide (i ≤ j)) (gIxP 0 (gC (.int 1))) (gBlt lenK (gCons (gIxP 0 (gC (.int 0))) gNil))) (gSeq (gSet 3 (gBin atD (gIxP 0 (gC (.int 0))) (gBin subD (gIxP 0 (gC (.int 1))) (gC (.int 1)))))
  (gSeq (gSetIx 0 (gIf (gTst (cmpD fun i j => decide (j ≤ i)) (gN 3) (gBin powD (gC (.int 10)) (gC (.int 18)))) (gBin divD (gN 3) (gN 1)) (gC (.int 0))) (gC (.int 3)))
  (gRet (gBin modD (gN 3) (gN 1))))) gNx)
  (gSeq (gSetIx 0 (gBin modD (gBin addD (gBin mulD (gIxP 0 (gC (.int 2))) (gC (.int 48271))) (gC (.int 11))) (gC (.int 2147483647))) (gC (.int 2)))
  (gRet (gBin modD (gBin divD (gIxP 0 (gC (.int 2))) (gC (.int 7))) (gN 1)))))))
def m__law_drawn : List PyData → List PyData → Rf (PyData × List PyData) := fnB G__law_drawn 4
def G__law_same (mr : List PyData → Rf PyData) : S :=
  (gSeq (gIfS (gTru (gIsa2 "tuple" "list" (gN 1))) (gSeq (gIfS (gOrT (gNotT (gTru (gIsa2 "tuple" "list" (gN 0)))) (gTst neD (gIsa "list" (gN 0)) (gIsa "list" (gN 1)))) (gRet (gC (.bool false))) gNx)
  (gSeq (gIfS (gTst neD (gLenP 0) (gLenP 1)) (gRet (gC (.bool false))) gNx)
  (gRet (gCmp eqD (gFz (gLcR [3] 3 (gNotT (gTru (gCall mr (gCons (gIxP 0 (gN 3)) (gCons (gIxP 1 (gN 3)) gNil))))) (gN 3) (gLenP 1))) (gFz (gLst gNil)))))) gNx)
  (gSeq (gSet 2 (gAnd (gCmp eqD (gIsa "bool" (gN 0)) (gIsa "bool" (gN 1))) (gCmp eqD (gIsa "int" (gN 0)) (gIsa "int" (gN 1)))))
  (gRet (gAnd (gN 2) (gCmp eqD (gN 0) (gN 1))))))
def m__law_same : Nat → List PyData → Rf PyData
  | 0 => fun _ => none
  | n + 1 => fnD (G__law_same (m__law_same n)) 4
def G__law_turned : S :=
  (gSeq (gParOO 2 3 (gListR (gN 1)) (gLst gNil))
  (gSeq (loopW (gTstL neD 2 (gFz (gLst gNil))) (gApp 3 (gPopAt 2 (gCallB 0 (gCons (gLenP 2) gNil) m__law_drawn))) 100)
  (gRetO (gNO 3))))
def m__law_turned : List PyData → List PyData → Rf (List PyData × List PyData) := fnBO G__law_turned 4
def G__law_lots : S :=
  (gSeq (gSetO 3 (gRep (gLst (gCons (gTup gNil) gNil)) (gN 2)))
  (gSeq (gForL (gFz (gCallB 0 (gCons (gN 1) gNil) m__law_turned)) (bN 4) (gSeq (gSet 5 (gCallB 0 (gCons (gN 2) gNil) m__law_drawn))
  (gSetIx 3 (gBin addD (gIxP 3 (gN 5)) (gTup (gCons (gN 4) gNil))) (gN 5))))
  (gRet (gBlt tupK (gCons (gN 3) gNil)))))
def m__law_lots : List PyData → List PyData → Rf (PyData × List PyData) := fnB G__law_lots 6
def G__law_shelf : S :=
  (gSeq (gAsg (bTup 2 (bCons (bN 3) (bCons (bN 4) bNil))) (gTup (gCons (gBin addD (gC (.int 1)) (gCallB 0 (gCons (gN 1) gNil) m__law_drawn)) (gCons (gBin atD (gFz (gLst (gCons (gC (.int 2)) (gCons (gC (.int 9)) (gCons (gC (.int 99)) gNil))))) (gCallB 0 (gCons (gC (.int 3)) gNil) m__law_drawn)) gNil))))
  (gSeq (gSet 5 (gBin atD (gFz (gLst (gCons (gC (.int 4)) (gCons (gC (.int 12)) (gCons (gC (.int 60)) gNil))))) (gCallB 0 (gCons (gC (.int 3)) gNil) m__law_drawn)))
  (gSeq (gSet 6 (gBlt tupK (gCons (gFz (gLcR [7] 7 gYes (gIf (gTst eqD (gCallB 0 (gCons (gN 5) gNil) m__law_drawn) (gC (.int 0))) (gC .none) (gBin addD (gC (.int 1)) (gCallB 0 (gCons (gN 4) gNil) m__law_drawn))) (gN 3))) gNil)))
  (gRet (gTup (gCons (gN 6) (gCons (gCallB 0 (gCons (gN 3) (gCons (gBin addD (gC (.int 1)) (gCallB 0 (gCons (gN 2) gNil) m__law_drawn)) gNil)) m__law_lots) gNil)))))))
def m__law_shelf : List PyData → List PyData → Rf (PyData × List PyData) := fnB G__law_shelf 8
def G__law_placed : S :=
  (gSeq (gSetO 4 (gLcT [5] 5 gYes (gBlt tupK (gCons (gFz (gLcT [6] 6 (gTst neD (gN 6) (gN 1)) (gN 6) (gN 5))) gNil)) (gN 0)))
  (gSeq (gSetIx 4 (gIf (gTst eqD (gN 3) (gC (.str "first"))) (gBin addD (gTup (gCons (gN 1) gNil)) (gIxP 4 (gN 2))) (gBin addD (gIxP 4 (gN 2)) (gTup (gCons (gN 1) gNil)))) (gN 2))
  (gRet (gBlt tupK (gCons (gN 4) gNil)))))
def m__law_placed : List PyData → Rf PyData := fnD G__law_placed 7
def G__law_is : S :=
  (gRet (gAnd (gIsa "int" (gN 0)) (gAnd (gNot (gIsa "bool" (gN 0))) (gChain (gN 1) (gN 0) (gN 2) (cmpD fun i j => decide (i ≤ j)) (cmpD fun i j => decide (i ≤ j))))))
def m__law_is : List PyData → Rf PyData := fnD G__law_is 3
def G__law_deed : S :=
  (gSeq (gE (gCons (gCallB 0 (gCons (gBlt lenK (gCons (gIxP 1 (gC (.int 0))) gNil)) gNil) m__law_drawn) (gCons (gCallB 0 (gCons (gBlt lenK (gCons (gIxP 1 (gC (.int 1))) gNil)) gNil) m__law_drawn) gNil)) (gPar 2 3))
  (gSeq (gE (gCons (gBin atD (gFz (gLst (gCons (gC (.str "first")) (gCons (gC (.str "last")) gNil)))) (gCallB 0 (gCons (gC (.int 2)) gNil) m__law_drawn)) (gCons (gCallB 0 (gCons (gC (.int 70)) gNil) m__law_drawn) gNil)) (gPar 4 5))
  (gSeq (gIfS (gTst (cmpD fun i j => decide (i < j)) (gN 5) (gC (.int 4))) (gSet 2 (gBin atD (gFz (gLst (gCons (gBlt lenK (gCons (gIxP 1 (gC (.int 0))) gNil)) (gCons (gBin subD (gC (.int 0)) (gC (.int 1))) (gCons (gC (.bool true)) (gCons (gC .none) gNil)))))) (gN 5))) gNx)
  (gSeq (gIfS (gChainT (gC (.int 4)) (gN 5) (gC (.int 8)) (cmpD fun i j => decide (i ≤ j)) (cmpD fun i j => decide (i < j))) (gSet 3 (gBin atD (gFz (gLst (gCons (gBlt lenK (gCons (gIxP 1 (gC (.int 1))) gNil)) (gCons (gBin subD (gC (.int 0)) (gC (.int 1))) (gCons (gC (.bool true)) (gCons (gC (.str "0")) gNil)))))) (gBin subD (gN 5) (gC (.int 4))))) gNx)
  (gSeq (gIfS (gChainT (gC (.int 8)) (gN 5) (gC (.int 11)) (cmpD fun i j => decide (i ≤ j)) (cmpD fun i j => decide (i < j))) (gSet 4 (gBin atD (gFz (gLst (gCons (gC (.str "First")) (gCons (gC .none) (gCons (gC (.int 0)) gNil))))) (gBin subD (gN 5) (gC (.int 8))))) gNx)
  (gSeq (gIfS (gChainT (gC (.int 11)) (gN 5) (gC (.int 14)) (cmpD fun i j => decide (i ≤ j)) (cmpD fun i j => decide (i < j))) (gSeq (gSetO 6 (gLst (gCons (gFz (gLst (gCons (gN 2) (gCons (gN 3) (gCons (gN 4) gNil))))) (gCons (gTup (gCons (gN 2) (gCons (gN 3) gNil))) (gCons (gTup (gCons (gN 2) (gCons (gN 3) (gCons (gN 4) (gCons (gC (.int 1)) gNil))))) gNil)))))
  (gRet (gIxP 6 (gBin subD (gN 5) (gC (.int 11)))))) gNx)
  (gRet (gTup (gCons (gN 2) (gCons (gN 3) (gCons (gN 4) gNil)))))))))))
def m__law_deed : List PyData → List PyData → Rf (PyData × List PyData) := fnB G__law_deed 7
def G__law_why : S :=
  (gSeq (gIfS (gOrT (gNotT (gTru (gIsa "tuple" (gN 1)))) (gOrT (gTst neD (gLenP 1) (gC (.int 3))) (gTst ninD (gIxP 1 (gC (.int 2))) (gTup (gCons (gC (.str "first")) (gCons (gC (.str "last")) gNil)))))) (gRet (gC (.str "form"))) gNx)
  (gSeq (gIfS (gNotT (gTru (gCall m__law_is (gCons (gIxP 1 (gC (.int 0))) (gCons (gC (.int 0)) (gCons (gBin subD (gBlt lenK (gCons (gIxP 0 (gC (.int 0))) gNil)) (gC (.int 1))) gNil)))))) (gRet (gC (.str "form"))) gNx)
  (gSeq (gIfS (gNotT (gTru (gCall m__law_is (gCons (gIxP 1 (gC (.int 1))) (gCons (gC (.int 0)) (gCons (gBin subD (gBlt lenK (gCons (gIxP 0 (gC (.int 1))) gNil)) (gC (.int 1))) gNil)))))) (gRet (gC (.str "form"))) gNx)
  (gRet (gIf (gTst isD (gBin atD (gIxP 0 (gC (.int 0))) (gIxP 1 (gC (.int 0)))) (gC .none)) (gC (.str "fixed")) (gC (.str "")))))))
def m__law_why : List PyData → Rf PyData := fnD G__law_why 2
def G_kind_BadShelf (a dd : Addr) : S :=
  (gSeq (gSetO 2 (gLst (gCons (gIsK a dd 1 true) (gCons (gIsK a dd 1 false) (gCons (gIsK a dd 1 false) (gCons (gIsK a dd 1 false) gNil))))))
  (gSeq (gSetO 2 (gCat (gNO 2) (gLst (gCons (gIsK a dd 1 false) (gCons (gIsK a dd 1 false) (gCons (gIsK a dd 1 false) (gCons (gIsK a dd 1 false) gNil)))))))
  (gSeq (gSetO 2 (gCat (gNO 2) (gLst (gCons (gIsK a dd 1 false) gNil))))
  (gSeq (gSet 3 (gC (.str "BadShelf BadGoal BadWish BadWay NoWay BadName NoPoint Halted BadText")))
  (gSeq (gIfS (gOrT (gTst neD (gCount 2 (gC (.bool true))) (gC (.int 1))) (gNotT (gTru (gIsK a dd 1 true)))) (gRet (gC (.str "other"))) gNx)
  (gSeq (gSet 4 (gBin atD (gFz (gSplit (gN 3) (gC (.str " ")))) (gIndex 2 (gC (.bool true)))))
  (gSeq (gIfS (gTst eqD (gN 4) (gC (.str "BadShelf"))) (gRet (gTup (gCons (gN 4) (gCons (gXf a dd 1 "part") (gCons (gXf a dd 1 "number") gNil))))) gNx)
  (gSeq (gIfS (gTst eqD (gN 4) (gC (.str "BadWay"))) (gRet (gTup (gCons (gN 4) (gCons (gXf a dd 1 "number") (gCons (gXf a dd 1 "why") gNil))))) gNx)
  (gSeq (gIfS (gTst eqD (gN 4) (gC (.str "Halted"))) (gRet (gTup (gCons (gN 4) (gCons (gXf a dd 1 "number") (gCons (gXf a dd 1 "done") gNil))))) gNx)
  (gSeq (gIfS (gTst inD (gN 4) (gTup (gCons (gC (.str "BadGoal")) (gCons (gC (.str "BadWish")) gNil)))) (gRet (gTup (gCons (gN 4) (gCons (gXf a dd 1 "number") gNil)))) gNx)
  (gRet (gIf (gTst eqD (gN 4) (gC (.str "BadText"))) (gTup (gCons (gN 4) (gCons (gXf a dd 1 "row") gNil))) (gN 4)))))))))))))
def G_kind_BadWay (a dd : Addr) : S :=
  (gSeq (gSetO 2 (gLst (gCons (gIsK a dd 1 false) (gCons (gIsK a dd 1 false) (gCons (gIsK a dd 1 false) (gCons (gIsK a dd 1 true) gNil))))))
  (gSeq (gSetO 2 (gCat (gNO 2) (gLst (gCons (gIsK a dd 1 false) (gCons (gIsK a dd 1 false) (gCons (gIsK a dd 1 false) (gCons (gIsK a dd 1 false) gNil)))))))
  (gSeq (gSetO 2 (gCat (gNO 2) (gLst (gCons (gIsK a dd 1 false) gNil))))
  (gSeq (gSet 3 (gC (.str "BadShelf BadGoal BadWish BadWay NoWay BadName NoPoint Halted BadText")))
  (gSeq (gIfS (gOrT (gTst neD (gCount 2 (gC (.bool true))) (gC (.int 1))) (gNotT (gTru (gIsK a dd 1 true)))) (gRet (gC (.str "other"))) gNx)
  (gSeq (gSet 4 (gBin atD (gFz (gSplit (gN 3) (gC (.str " ")))) (gIndex 2 (gC (.bool true)))))
  (gSeq (gIfS (gTst eqD (gN 4) (gC (.str "BadShelf"))) (gRet (gTup (gCons (gN 4) (gCons (gXf a dd 1 "part") (gCons (gXf a dd 1 "number") gNil))))) gNx)
  (gSeq (gIfS (gTst eqD (gN 4) (gC (.str "BadWay"))) (gRet (gTup (gCons (gN 4) (gCons (gXf a dd 1 "number") (gCons (gXf a dd 1 "why") gNil))))) gNx)
  (gSeq (gIfS (gTst eqD (gN 4) (gC (.str "Halted"))) (gRet (gTup (gCons (gN 4) (gCons (gXf a dd 1 "number") (gCons (gXf a dd 1 "done") gNil))))) gNx)
  (gSeq (gIfS (gTst inD (gN 4) (gTup (gCons (gC (.str "BadGoal")) (gCons (gC (.str "BadWish")) gNil)))) (gRet (gTup (gCons (gN 4) (gCons (gXf a dd 1 "number") gNil)))) gNx)
  (gRet (gIf (gTst eqD (gN 4) (gC (.str "BadText"))) (gTup (gCons (gN 4) (gCons (gXf a dd 1 "row") gNil))) (gN 4)))))))))))))
/-! ### the kinds of the refusals -/
def kWords : List Str := ["BadShelf", "BadGoal", "BadWish", "BadWay", "NoWay", "BadName", "NoPoint", "Halted", "BadText"]
theorem words_split : splitD (.str "BadShelf BadGoal BadWish BadWay NoWay BadName NoPoint Halted BadText") (.str " ") = some (kWords.map .str) := by
  have h : ((" " : Str).length == 0) = false ∧ ("BadShelf BadGoal BadWish BadWay NoWay BadName NoPoint Halted BadText" : Str).length ≤ 1000000 := by decide +kernel
  have e : Txt.split "BadShelf BadGoal BadWish BadWay NoWay BadName NoPoint Halted BadText" " " = kWords := by decide +kernel
  show (if ((" " : Str).length == 0) = false ∧ ("BadShelf BadGoal BadWish BadWay NoWay BadName NoPoint Halted BadText" : Str).length ≤ 1000000 then some ((Txt.split "BadShelf BadGoal BadWish BadWay NoWay BadName NoPoint Halted BadText" " ").map PyData.str) else none) = _
  rw [if_pos h, e]
theorem neD_int (a b : Int) : neD (.int a) (.int b) = some (!decide (a = b)) := rfl
theorem kind_BadShelf (a dd : Addr) (x y : PyData) : ∃ env', G_kind_BadShelf a dd (envX 5 1 a dd [("number", y), ("part", x)]) = some (.rt (.tuple [.str "BadShelf", x, y]) env') := by
  have c1 : cntD [.bool true, .bool false, .bool false, .bool false, .bool false, .bool false, .bool false, .bool false, .bool false] (.bool true) = some (.int 1) := by rfl
  have c2 : idxD [.bool true, .bool false, .bool false, .bool false, .bool false, .bool false, .bool false, .bool false, .bool false] (.bool true) = some (.int 0) := by rfl
  have c3 : atD (.list (kWords.map .str)) (.int 0) = some (.str "BadShelf") := by rfl
  have z1 : (Str.ofString "part" == Str.ofString "number") = false := by decide +kernel
  have c5 : ([(Str.ofString "number", y), (Str.ofString "part", x)] : List (Str × PyData)).lookup (Str.ofString "part") = some x := by
    simp [List.lookup_cons, z1]
  have c6 : ([(Str.ofString "number", y), (Str.ofString "part", x)] : List (Str × PyData)).lookup (Str.ofString "number") = some y := by
    simp [List.lookup_cons]
  have e_BadShelf : eqD (.str "BadShelf") (.str "BadShelf") = some true := by decide +kernel
  simp [G_kind_BadShelf, envX, gSeq, gSetO, gE, Pf.gLst, Pf.gCons, Pf.gNil, gIsK, M.bd, M.opt, M.ok, M.no, lstD, gStO, gNO, gC, gSt, gIfS, gOrT, gTst, gCount, gNotT, gTru, gHeld, c1, c2, c3, c5, c6, neD_int, e_BadShelf, truD, gNx, gN, gSplit, words_split, gIndex, Pf.gTup, tupD, gXf, gRt, gRet, gBin, gFz]
theorem kind_BadWay (a dd : Addr) (x y : PyData) : ∃ env', G_kind_BadWay a dd (envX 5 1 a dd [("why", y), ("number", x)]) = some (.rt (.tuple [.str "BadWay", x, y]) env') := by
  have c1 : cntD [.bool false, .bool false, .bool false, .bool true, .bool false, .bool false, .bool false, .bool false, .bool false] (.bool true) = some (.int 1) := by rfl
  have c2 : idxD [.bool false, .bool false, .bool false, .bool true, .bool false, .bool false, .bool false, .bool false, .bool false] (.bool true) = some (.int 3) := by rfl
  have c3 : atD (.list (kWords.map .str)) (.int 3) = some (.str "BadWay") := by rfl
  have z1 : (Str.ofString "number" == Str.ofString "why") = false := by decide +kernel
  have c5 : ([(Str.ofString "why", y), (Str.ofString "number", x)] : List (Str × PyData)).lookup (Str.ofString "number") = some x := by
    simp [List.lookup_cons, z1]
  have c6 : ([(Str.ofString "why", y), (Str.ofString "number", x)] : List (Str × PyData)).lookup (Str.ofString "why") = some y := by
    simp [List.lookup_cons]
  have e_BadShelf : eqD (.str "BadWay") (.str "BadShelf") = some false := by decide +kernel
  have e_BadWay : eqD (.str "BadWay") (.str "BadWay") = some true := by decide +kernel
  simp [G_kind_BadWay, envX, gSeq, gSetO, gE, Pf.gLst, Pf.gCons, Pf.gNil, gIsK, M.bd, M.opt, M.ok, M.no, lstD, gStO, gNO, gC, gSt, gIfS, gOrT, gTst, gCount, gNotT, gTru, gHeld, c1, c2, c3, c5, c6, neD_int, e_BadShelf, e_BadWay, truD, gNx, gN, gSplit, words_split, gIndex, Pf.gTup, tupD, gXf, gRt, gRet, gBin, gFz]
/-- what _law_kind tells of a refusal -/
def kindX (x : Xc) : Option PyData := match x.fs with
  | some [(f2, y), (f1, z)] => if x.cls = "BadShelf" ∧ f2 = "number" ∧ f1 = "part" then some (.tuple [.str "BadShelf", z, y]) else if x.cls = "BadWay" ∧ f2 = "why" ∧ f1 = "number" then some (.tuple [.str "BadWay", z, y]) else none
  | _ => none
theorem kindX_cases {x : Xc} {d : PyData} (h : kindX x = some d) : (∃ y z, x.cls = "BadShelf" ∧ x.fs = some [(("number" : Str), y), (("part" : Str), z)] ∧ d = .tuple [.str "BadShelf", z, y]) ∨ ∃ y z, x.cls = "BadWay" ∧ x.fs = some [(("why" : Str), y), (("number" : Str), z)] ∧ d = .tuple [.str "BadWay", z, y] := by
  unfold kindX at h
  split at h
  · rename_i f2 y f1 z e
    split at h
    · rename_i c
      obtain ⟨c1, rfl, rfl⟩ := c
      exact .inl ⟨y, z, c1, e, (Option.some.inj h).symm⟩
    · split at h
      · rename_i c
        obtain ⟨c1, rfl, rfl⟩ := c
        exact .inr ⟨y, z, c1, e, (Option.some.inj h).symm⟩
      · cases h
  · cases h
def qLam : Str := (("law" : Str) ++ (".<locals>." : Str)) ++ ("<lambda>" : Str)
def G_law (Pt : Addr) : S :=
  (gSeq (gSetO 1 (gCall m__law_start (gCons (gN 0) gNil)))
  (gSeq (gForR1 (gC (.int 4)) (bN 2) (gSeq (gSet 12 (gCallB 1 (gCons (gC (.int 12)) (gCons (gC (.int 5)) gNil)) m__law_shelf))
  (gSeq (gSet 3 (gBin mulD (gCallB 1 (gCons (gC (.int 9)) gNil) m__law_drawn) (gCallB 1 (gCons (gC (.int 6)) gNil) m__law_drawn)))
  (gSeq (gSetO 10 (gLcR [4] 4 gYes (gCallB 1 (gCons (gN 12) gNil) m__law_deed) (gN 3)))
  (gSeq (gE (gCons (gIxP 12 (gC (.int 1))) (gCons (gC (.int 0)) (gCons (gC .none) gNil))) (gPar3 5 6 7))
  (gSeq (gForR1 (gLenP 10) (bN 4) (gSeq (gSet 8 (gCall m__law_why (gCons (gN 12) (gCons (gIxP 10 (gN 4)) gNil))))
  (gSeq (gIfS (gAndT (gTst isD (gN 7) (gC .none)) (gTst neD (gN 8) (gC (.str "")))) (gSet 7 (gTup (gCons (gC (.str "BadWay")) (gCons (gN 4) (gCons (gN 8) gNil))))) gNx)
  (gIfS (gTst isD (gN 7) (gC .none)) (gSeq (gSet 5 (gCall m__law_placed (gCons (gN 5) (gCons (gBin atD (gIxP 10 (gN 4)) (gC (.int 0))) (gCons (gBin atD (gIxP 10 (gN 4)) (gC (.int 1))) (gCons (gBin atD (gIxP 10 (gN 4)) (gC (.int 2))) gNil))))))
  (gSet 6 (gBin addD (gN 6) (gBin atD (gIxP 12 (gC (.int 0))) (gBin atD (gIxP 10 (gN 4)) (gC (.int 0))))))) gNx))))
  (gSeq (gSet 7 (gIf (gTst isD (gN 7) (gC .none)) (gTup (gCons (gN 5) (gCons (gN 6) gNil))) (gN 7)))
  (gSeq (gSetO 9 (gList (gN 10)))
  (gSeq (gIfS (gOrT (gNotT (gTru (gCall (m__law_same 4) (gCons (gKind 13 [(Pt, qLam)] kindX (gCall m_done (gCons (gN 12) (gCons (gN 10) gNil)))) (gCons (gN 7) gNil))))) (gTstL neD 10 (gN 9))) (gRet (gC (.bool false))) gNx)
  (gSeq (gSet 11 (gBin atD (gFz (gLst (gCons (gBlt tupK (gCons (gN 10) gNil)) (gCons (gC .none) (gCons (gC (.str "put")) (gCons (gC (.int 3)) gNil)))))) (gCallB 1 (gCons (gC (.int 4)) gNil) m__law_drawn)))
  (gIfS (gTst neD (gKind 13 [(Pt, qLam)] kindX (gCall m_done (gCons (gN 12) (gCons (gN 11) gNil)))) (gTup (gCons (gC (.str "BadWay")) (gCons (gC (.int 0)) (gCons (gC (.str "form")) gNil))))) (gRet (gC (.bool false))) gNx)))))))))))
  (gRet (gC (.bool true)))))
def envL (Pt : Addr) (ns : List Int) : En := .val (.list (ns.map PyData.int)) :: (List.replicate 12 .no ++ [.tab [(Pt, qLam)]])
def scriptOk (ns : List Int) : Prop := ns.length ≤ 63 ∧ ∀ z ∈ ns, Builtin.Int.intBits z ≤ 1048576
end Q
/-! part K02 -/
set_option Elab.async false
set_option linter.all false
set_option maxRecDepth 100000
set_option maxHeartbeats 4000000
namespace Q
open PySem PySem.Spec L2 Evl Pf
/-- the suite of the one handler of the one statement of a def -/
def hBody (st : Stmt) : List Stmt := match defBody st with
  | [.Try _ [.ExceptHandler _ _ b _] _ _ _] => b
  | _ => []
def topS (i : Nat) : Stmt := PySem.Challenge.pw_pinshelf_k02_deeds_done.main.body.getD i (.Pass ⟨0, 0, 0, 0⟩)
abbrev s_is_number : Stmt := topS 15
abbrev N_is_number : List Str := ["value"]
theorem sc_is_number : FnScope N_is_number ["value"] (defScope s_is_number) := ⟨rfl, rfl, rfl, by decide +kernel, rfl, by decide +kernel, by decide +kernel⟩
abbrev a_is_number (f : Nat → Addr) : Addr := f 15
abbrev d_is_number (fd : Nat → FuncData) : FuncData := fd 15
abbrev s_is_place : Stmt := topS 16
abbrev N_is_place : List Str := ["value", "many"]
theorem sc_is_place : FnScope N_is_place ["value", "many"] (defScope s_is_place) := ⟨rfl, rfl, rfl, by decide +kernel, rfl, by decide +kernel, by decide +kernel⟩
abbrev a_is_place (f : Nat → Addr) : Addr := f 16
abbrev d_is_place (fd : Nat → FuncData) : FuncData := fd 16
abbrev s_is_price : Stmt := topS 17
abbrev N_is_price : List Str := ["value"]
theorem sc_is_price : FnScope N_is_price ["value"] (defScope s_is_price) := ⟨rfl, rfl, rfl, by decide +kernel, rfl, by decide +kernel, by decide +kernel⟩
abbrev a_is_price (f : Nat → Addr) : Addr := f 17
abbrev d_is_price (fd : Nat → FuncData) : FuncData := fd 17
abbrev s_lot_of : Stmt := topS 18
abbrev N_lot_of : List Str := ["lots", "book", "number", "lot"]
theorem sc_lot_of : FnScope N_lot_of ["lots", "book"] (defScope s_lot_of) := ⟨rfl, rfl, rfl, by decide +kernel, rfl, by decide +kernel, by decide +kernel⟩
abbrev a_lot_of (f : Nat → Addr) : Addr := f 18
abbrev d_lot_of (fd : Nat → FuncData) : FuncData := fd 18
abbrev s_wrong_price : Stmt := topS 19
abbrev N_wrong_price : List Str := ["prices", "number", "price"]
theorem sc_wrong_price : FnScope N_wrong_price ["prices"] (defScope s_wrong_price) := ⟨rfl, rfl, rfl, by decide +kernel, rfl, by decide +kernel, by decide +kernel⟩
abbrev a_wrong_price (f : Nat → Addr) : Addr := f 19
abbrev d_wrong_price (fd : Nat → FuncData) : FuncData := fd 19
abbrev s_wrong_lot : Stmt := topS 20
abbrev N_wrong_lot : List Str := ["lots", "books", "fewest", "most", "seen", "number", "lot", "book"]
theorem sc_wrong_lot : FnScope N_wrong_lot ["lots", "books", "fewest", "most"] (defScope s_wrong_lot) := ⟨rfl, rfl, rfl, by decide +kernel, rfl, by decide +kernel, by decide +kernel⟩
abbrev a_wrong_lot (f : Nat → Addr) : Addr := f 20
abbrev d_wrong_lot (fd : Nat → FuncData) : FuncData := fd 20
abbrev s_missing_book : Stmt := topS 21
abbrev N_missing_book : List Str := ["lots", "books", "book"]
theorem sc_missing_book : FnScope N_missing_book ["lots", "books"] (defScope s_missing_book) := ⟨rfl, rfl, rfl, by decide +kernel, rfl, by decide +kernel, by decide +kernel⟩
abbrev a_missing_book (f : Nat → Addr) : Addr := f 21
abbrev d_missing_book (fd : Nat → FuncData) : FuncData := fd 21
abbrev s_check_shelf : Stmt := topS 22
abbrev N_check_shelf : List Str := ["shelf", "prices", "lots", "number"]
theorem sc_check_shelf : FnScope N_check_shelf ["shelf"] (defScope s_check_shelf) := ⟨rfl, rfl, rfl, by decide +kernel, rfl, by decide +kernel, by decide +kernel⟩
abbrev a_check_shelf (f : Nat → Addr) : Addr := f 22
abbrev d_check_shelf (fd : Nat → FuncData) : FuncData := fd 22
abbrev s_is_deed : Stmt := topS 26
abbrev N_is_deed : List Str := ["shelf", "deed", "prices", "lots", "book", "lot", "end"]
theorem sc_is_deed : FnScope N_is_deed ["shelf", "deed"] (defScope s_is_deed) := ⟨rfl, rfl, rfl, by decide +kernel, rfl, by decide +kernel, by decide +kernel⟩
abbrev a_is_deed (f : Nat → Addr) : Addr := f 26
abbrev d_is_deed (fd : Nat → FuncData) : FuncData := fd 26
abbrev s_why_not : Stmt := topS 27
abbrev N_why_not : List Str := ["shelf", "deed", "prices"]
theorem sc_why_not : FnScope N_why_not ["shelf", "deed"] (defScope s_why_not) := ⟨rfl, rfl, rfl, by decide +kernel, rfl, by decide +kernel, by decide +kernel⟩
abbrev a_why_not (f : Nat → Addr) : Addr := f 27
abbrev d_why_not (fd : Nat → FuncData) : FuncData := fd 27
abbrev s_check_list : Stmt := topS 28
abbrev N_check_list : List Str := ["deeds"]
theorem sc_check_list : FnScope N_check_list ["deeds"] (defScope s_check_list) := ⟨rfl, rfl, rfl, by decide +kernel, rfl, by decide +kernel, by decide +kernel⟩
abbrev a_check_list (f : Nat → Addr) : Addr := f 28
abbrev d_check_list (fd : Nat → FuncData) : FuncData := fd 28
abbrev s_check_deeds : Stmt := topS 29
abbrev N_check_deeds : List Str := ["shelf", "deeds", "number", "deed", "why"]
theorem sc_check_deeds : FnScope N_check_deeds ["shelf", "deeds"] (defScope s_check_deeds) := ⟨rfl, rfl, rfl, by decide +kernel, rfl, by decide +kernel, by decide +kernel⟩
abbrev a_check_deeds (f : Nat → Addr) : Addr := f 29
abbrev d_check_deeds (fd : Nat → FuncData) : FuncData := fd 29
abbrev s_lots_behind : Stmt := topS 30
abbrev N_lots_behind : List Str := ["lots", "deed", "moved", "target", "end", "rows", "lot", "book", "row"]
theorem sc_lots_behind : FnScope N_lots_behind ["lots", "deed"] (defScope s_lots_behind) := ⟨rfl, rfl, rfl, by decide +kernel, rfl, by decide +kernel, by decide +kernel⟩
abbrev a_lots_behind (f : Nat → Addr) : Addr := f 30
abbrev d_lots_behind (fd : Nat → FuncData) : FuncData := fd 30
abbrev s_outcome : Stmt := topS 31
abbrev N_outcome : List Str := ["shelf", "deeds", "prices", "lots", "cost", "deed"]
theorem sc_outcome : FnScope N_outcome ["shelf", "deeds"] (defScope s_outcome) := ⟨rfl, rfl, rfl, by decide +kernel, rfl, by decide +kernel, by decide +kernel⟩
abbrev a_outcome (f : Nat → Addr) : Addr := f 31
abbrev d_outcome (fd : Nat → FuncData) : FuncData := fd 31
abbrev s_done : Stmt := topS 32
abbrev N_done : List Str := ["shelf", "deeds"]
theorem sc_done : FnScope N_done ["shelf", "deeds"] (defScope s_done) := ⟨rfl, rfl, rfl, by decide +kernel, rfl, by decide +kernel, by decide +kernel⟩
abbrev a_done (f : Nat → Addr) : Addr := f 32
abbrev d_done (fd : Nat → FuncData) : FuncData := fd 32
abbrev s__law_start : Stmt := topS 34
abbrev N__law_start : List Str := ["_law_script", "_law_mixed", "_law_cell"]
theorem sc__law_start : FnScope N__law_start ["_law_script"] (defScope s__law_start) := ⟨rfl, rfl, rfl, by decide +kernel, rfl, by decide +kernel, by decide +kernel⟩
abbrev a__law_start (f : Nat → Addr) : Addr := f 34
abbrev d__law_start (fd : Nat → FuncData) : FuncData := fd 34
abbrev s__law_drawn : Stmt := topS 35
abbrev N__law_drawn : List Str := ["_law_state", "_law_many", "_law_found", "_law_cell"]
theorem sc__law_drawn : FnScope N__law_drawn ["_law_state", "_law_many"] (defScope s__law_drawn) := ⟨rfl, rfl, rfl, by decide +kernel, rfl, by decide +kernel, by decide +kernel⟩
abbrev a__law_drawn (f : Nat → Addr) : Addr := f 35
abbrev d__law_drawn (fd : Nat → FuncData) : FuncData := fd 35
abbrev s__law_same : Stmt := topS 36
abbrev N__law_same : List Str := ["_law_found", "_law_due", "_law_alike", "_law_k"]
theorem sc__law_same : FnScope N__law_same ["_law_found", "_law_due"] (defScope s__law_same) := ⟨rfl, rfl, rfl, by decide +kernel, rfl, by decide +kernel, by decide +kernel⟩
abbrev a__law_same (f : Nat → Addr) : Addr := f 36
abbrev d__law_same (fd : Nat → FuncData) : FuncData := fd 36
abbrev s__law_turned : Stmt := topS 38
abbrev N__law_turned : List Str := ["_law_state", "_law_many", "_law_left", "_law_found"]
theorem sc__law_turned : FnScope N__law_turned ["_law_state", "_law_many"] (defScope s__law_turned) := ⟨rfl, rfl, rfl, by decide +kernel, rfl, by decide +kernel, by decide +kernel⟩
abbrev a__law_turned (f : Nat → Addr) : Addr := f 38
abbrev d__law_turned (fd : Nat → FuncData) : FuncData := fd 38
abbrev s__law_lots : Stmt := topS 39
abbrev N__law_lots : List Str := ["_law_state", "_law_many", "_law_lots_here", "_law_found", "_law_book", "_law_k"]
theorem sc__law_lots : FnScope N__law_lots ["_law_state", "_law_many", "_law_lots_here"] (defScope s__law_lots) := ⟨rfl, rfl, rfl, by decide +kernel, rfl, by decide +kernel, by decide +kernel⟩
abbrev a__law_lots (f : Nat → Addr) : Addr := f 39
abbrev d__law_lots (fd : Nat → FuncData) : FuncData := fd 39
abbrev s__law_shelf : Stmt := topS 40
abbrev N__law_shelf : List Str := ["_law_state", "_law_most", "_law_lots_here", "_law_many", "_law_dear", "_law_rare", "_law_prices", "_law_k"]
theorem sc__law_shelf : FnScope N__law_shelf ["_law_state", "_law_most", "_law_lots_here"] (defScope s__law_shelf) := ⟨rfl, rfl, rfl, by decide +kernel, rfl, by decide +kernel, by decide +kernel⟩
abbrev a__law_shelf (f : Nat → Addr) : Addr := f 40
abbrev d__law_shelf (fd : Nat → FuncData) : FuncData := fd 40
abbrev s__law_placed : Stmt := topS 41
abbrev N__law_placed : List Str := ["_law_lots_here", "_law_book", "_law_number", "_law_end", "_law_found", "_law_lot", "_law_one"]
theorem sc__law_placed : FnScope N__law_placed ["_law_lots_here", "_law_book", "_law_number", "_law_end"] (defScope s__law_placed) := ⟨rfl, rfl, rfl, by decide +kernel, rfl, by decide +kernel, by decide +kernel⟩
abbrev a__law_placed (f : Nat → Addr) : Addr := f 41
abbrev d__law_placed (fd : Nat → FuncData) : FuncData := fd 41
abbrev s__law_is : Stmt := topS 43
abbrev N__law_is : List Str := ["_law_thing", "_law_low", "_law_high"]
theorem sc__law_is : FnScope N__law_is ["_law_thing", "_law_low", "_law_high"] (defScope s__law_is) := ⟨rfl, rfl, rfl, by decide +kernel, rfl, by decide +kernel, by decide +kernel⟩
abbrev a__law_is (f : Nat → Addr) : Addr := f 43
abbrev d__law_is (fd : Nat → FuncData) : FuncData := fd 43
abbrev s__law_deed : Stmt := topS 44
abbrev N__law_deed : List Str := ["_law_state", "_law_shelf_here", "_law_book", "_law_number", "_law_end", "_law_odd", "_law_some"]
theorem sc__law_deed : FnScope N__law_deed ["_law_state", "_law_shelf_here"] (defScope s__law_deed) := ⟨rfl, rfl, rfl, by decide +kernel, rfl, by decide +kernel, by decide +kernel⟩
abbrev a__law_deed (f : Nat → Addr) : Addr := f 44
abbrev d__law_deed (fd : Nat → FuncData) : FuncData := fd 44
abbrev s__law_why : Stmt := topS 45
abbrev N__law_why : List Str := ["_law_shelf_here", "_law_deed_here"]
theorem sc__law_why : FnScope N__law_why ["_law_shelf_here", "_law_deed_here"] (defScope s__law_why) := ⟨rfl, rfl, rfl, by decide +kernel, rfl, by decide +kernel, by decide +kernel⟩
abbrev a__law_why (f : Nat → Addr) : Addr := f 45
abbrev d__law_why (fd : Nat → FuncData) : FuncData := fd 45
abbrev s__law_kind : Stmt := topS 37
abbrev N__law_kind : List Str := ["_law_work", "e", "_law_kinds", "_law_words", "_law_word"]
theorem sc__law_kind : FnScope N__law_kind ["_law_work"] (defScope s__law_kind) := ⟨rfl, rfl, rfl, by decide +kernel, rfl, by decide +kernel, by decide +kernel⟩
abbrev a__law_kind (f : Nat → Addr) : Addr := f 37
abbrev d__law_kind (fd : Nat → FuncData) : FuncData := fd 37
abbrev s_law : Stmt := topS 46
abbrev N_law : List Str := ["_law_script", "_law_state", "_law_turn", "_law_many", "_law_k", "_law_lots_here", "_law_total", "_law_due", "_law_why_here", "_law_handed", "_law_deeds", "_law_odd", "_law_shelf_here", ".t"]
theorem sc_law : FnScope N_law ["_law_script"] (defScope s_law) := ⟨rfl, rfl, rfl, by decide +kernel, rfl, by decide +kernel, by decide +kernel⟩
abbrev a_law (f : Nat → Addr) : Addr := f 46
abbrev d_law (fd : Nat → FuncData) : FuncData := fd 46
structure Tx (K : PySem.W.Frag) (mg : Str → Option Value) (f : Nat → Addr) (fd : Nat → FuncData) (g : Nat → Addr) (gd : Nat → FuncData) : Prop where
  n_ValueError : mg "ValueError" = none
  n_bool : mg "bool" = none
  n_enumerate : mg "enumerate" = none
  n_int : mg "int" = none
  n_isinstance : mg "isinstance" = none
  n_len : mg "len" = none
  n_list : mg "list" = none
  n_range : mg "range" = none
  n_set : mg "set" = none
  n_tuple : mg "tuple" = none
  c_FIRST : ∃ u, mg "FIRST" = some u ∧ RelV (.str "first") u
  c_LAST : ∃ u, mg "LAST" = some u ∧ RelV (.str "last") u
  c_MOST_BOOKS : ∃ u, mg "MOST_BOOKS" = some u ∧ RelV (.int 12) u
  c_MOST_LOTS : ∃ u, mg "MOST_LOTS" = some u ∧ RelV (.int 5) u
  c_MOST_PRICE : ∃ u, mg "MOST_PRICE" = some u ∧ RelV (.int 99) u
  gc_BadGoal : mg "BadGoal" = some (.ref (f 3))
  gc_BadName : mg "BadName" = some (.ref (f 7))
  gc_BadShelf : mg "BadShelf" = some (.ref (f 2))
  gc_BadText : mg "BadText" = some (.ref (f 10))
  gc_BadWay : mg "BadWay" = some (.ref (f 5))
  gc_BadWish : mg "BadWish" = some (.ref (f 4))
  gc_Halted : mg "Halted" = some (.ref (f 9))
  gc_NoPoint : mg "NoPoint" = some (.ref (f 8))
  gc_NoWay : mg "NoWay" = some (.ref (f 6))
  ec_BadShelf : ExcC K (f 2)
  xf_BadShelf : XfC K (f 2)
  exm_BadShelf : PySem.W.exmOne K (.ref (f 2)) (.ref (f 1)) = some true
  ec_BadWay : ExcC K (f 5)
  xf_BadWay : XfC K (f 5)
  exm_BadWay : PySem.W.exmOne K (.ref (f 5)) (.ref (f 1)) = some true
  gh_ShelfError : mg "ShelfError" = some (.ref (f 1))
  kit_BadShelf_BadGoal : PySem.W.kitOne K (.ref (f 2)) (.ref (f 3)) = some false
  kit_BadShelf_BadName : PySem.W.kitOne K (.ref (f 2)) (.ref (f 7)) = some false
  kit_BadShelf_BadShelf : PySem.W.kitOne K (.ref (f 2)) (.ref (f 2)) = some true
  kit_BadShelf_BadText : PySem.W.kitOne K (.ref (f 2)) (.ref (f 10)) = some false
  kit_BadShelf_BadWay : PySem.W.kitOne K (.ref (f 2)) (.ref (f 5)) = some false
  kit_BadShelf_BadWish : PySem.W.kitOne K (.ref (f 2)) (.ref (f 4)) = some false
  kit_BadShelf_Halted : PySem.W.kitOne K (.ref (f 2)) (.ref (f 9)) = some false
  kit_BadShelf_NoPoint : PySem.W.kitOne K (.ref (f 2)) (.ref (f 8)) = some false
  kit_BadShelf_NoWay : PySem.W.kitOne K (.ref (f 2)) (.ref (f 6)) = some false
  kit_BadWay_BadGoal : PySem.W.kitOne K (.ref (f 5)) (.ref (f 3)) = some false
  kit_BadWay_BadName : PySem.W.kitOne K (.ref (f 5)) (.ref (f 7)) = some false
  kit_BadWay_BadShelf : PySem.W.kitOne K (.ref (f 5)) (.ref (f 2)) = some false
  kit_BadWay_BadText : PySem.W.kitOne K (.ref (f 5)) (.ref (f 10)) = some false
  kit_BadWay_BadWay : PySem.W.kitOne K (.ref (f 5)) (.ref (f 5)) = some true
  kit_BadWay_BadWish : PySem.W.kitOne K (.ref (f 5)) (.ref (f 4)) = some false
  kit_BadWay_Halted : PySem.W.kitOne K (.ref (f 5)) (.ref (f 9)) = some false
  kit_BadWay_NoPoint : PySem.W.kitOne K (.ref (f 5)) (.ref (f 8)) = some false
  kit_BadWay_NoWay : PySem.W.kitOne K (.ref (f 5)) (.ref (f 6)) = some false
  kitb_BadShelf_ValueError : PySem.W.kitOne K (.ref (f 2)) (.type "ValueError") = some true
  kitb_BadWay_ValueError : PySem.W.kitOne K (.ref (f 5)) (.type "ValueError") = some true
  nf_BadShelf_done : PySem.W.findIn K (.ref (f 2)) "done" = some none
  nf_BadShelf_row : PySem.W.findIn K (.ref (f 2)) "row" = some none
  nf_BadShelf_why : PySem.W.findIn K (.ref (f 2)) "why" = some none
  nf_BadWay_done : PySem.W.findIn K (.ref (f 5)) "done" = some none
  nf_BadWay_part : PySem.W.findIn K (.ref (f 5)) "part" = some none
  nf_BadWay_row : PySem.W.findIn K (.ref (f 5)) "row" = some none
  base_ShelfError : BaseI K mg "ShelfError" (f 1)
  x_BadShelf : XCls K mg "BadShelf" (f 2) (g 2)
  fi_BadShelf : Fun K "__init__" "BadShelf.__init__" (inClass (topS 2) 0) (g 2) (gd 2)
  bk_BadShelf : ∀ (s : Shared) (u : Value) (ws : List Value), ws.length = 2 → BindsTo s (gd 2) ⟨[u], [("part" : Str), ("number" : Str)].zip ws⟩ ([("self" : Str), ("part" : Str), ("number" : Str)].zip (u :: ws))
  nf_BadShelf_part : PySem.W.findIn K (.ref (f 2)) "part" = some none
  nf_BadShelf_number : PySem.W.findIn K (.ref (f 2)) "number" = some none
  x_BadWay : XCls K mg "BadWay" (f 5) (g 5)
  fi_BadWay : Fun K "__init__" "BadWay.__init__" (inClass (topS 5) 0) (g 5) (gd 5)
  bk_BadWay : ∀ (s : Shared) (u : Value) (ws : List Value), ws.length = 2 → BindsTo s (gd 5) ⟨[u], [("number" : Str), ("why" : Str)].zip ws⟩ ([("self" : Str), ("number" : Str), ("why" : Str)].zip (u :: ws))
  nf_BadWay_number : PySem.W.findIn K (.ref (f 5)) "number" = some none
  nf_BadWay_why : PySem.W.findIn K (.ref (f 5)) "why" = some none
  g_is_number : mg "is_number" = some (.ref (a_is_number f))
  f_is_number : Fun K "is_number" "is_number" s_is_number (a_is_number f) (d_is_number fd)
  b_is_number : Binds K (d_is_number fd) ["value"] []
  g_is_place : mg "is_place" = some (.ref (a_is_place f))
  f_is_place : Fun K "is_place" "is_place" s_is_place (a_is_place f) (d_is_place fd)
  b_is_place : Binds K (d_is_place fd) ["value", "many"] []
  g_is_price : mg "is_price" = some (.ref (a_is_price f))
  f_is_price : Fun K "is_price" "is_price" s_is_price (a_is_price f) (d_is_price fd)
  b_is_price : Binds K (d_is_price fd) ["value"] []
  g_lot_of : mg "lot_of" = some (.ref (a_lot_of f))
  f_lot_of : Fun K "lot_of" "lot_of" s_lot_of (a_lot_of f) (d_lot_of fd)
  b_lot_of : Binds K (d_lot_of fd) ["lots", "book"] []
  g_wrong_price : mg "wrong_price" = some (.ref (a_wrong_price f))
  f_wrong_price : Fun K "wrong_price" "wrong_price" s_wrong_price (a_wrong_price f) (d_wrong_price fd)
  b_wrong_price : Binds K (d_wrong_price fd) ["prices"] []
  g_wrong_lot : mg "wrong_lot" = some (.ref (a_wrong_lot f))
  f_wrong_lot : Fun K "wrong_lot" "wrong_lot" s_wrong_lot (a_wrong_lot f) (d_wrong_lot fd)
  b_wrong_lot : Binds K (d_wrong_lot fd) ["lots", "books", "fewest", "most"] []
  g_missing_book : mg "missing_book" = some (.ref (a_missing_book f))
  f_missing_book : Fun K "missing_book" "missing_book" s_missing_book (a_missing_book f) (d_missing_book fd)
  b_missing_book : Binds K (d_missing_book fd) ["lots", "books"] []
  g_check_shelf : mg "check_shelf" = some (.ref (a_check_shelf f))
  f_check_shelf : Fun K "check_shelf" "check_shelf" s_check_shelf (a_check_shelf f) (d_check_shelf fd)
  b_check_shelf : Binds K (d_check_shelf fd) ["shelf"] []
  g_is_deed : mg "is_deed" = some (.ref (a_is_deed f))
  f_is_deed : Fun K "is_deed" "is_deed" s_is_deed (a_is_deed f) (d_is_deed fd)
  b_is_deed : Binds K (d_is_deed fd) ["shelf", "deed"] []
  g_why_not : mg "why_not" = some (.ref (a_why_not f))
  f_why_not : Fun K "why_not" "why_not" s_why_not (a_why_not f) (d_why_not fd)
  b_why_not : Binds K (d_why_not fd) ["shelf", "deed"] []
  g_check_list : mg "check_list" = some (.ref (a_check_list f))
  f_check_list : Fun K "check_list" "check_list" s_check_list (a_check_list f) (d_check_list fd)
  b_check_list : Binds K (d_check_list fd) ["deeds"] []
  g_check_deeds : mg "check_deeds" = some (.ref (a_check_deeds f))
  f_check_deeds : Fun K "check_deeds" "check_deeds" s_check_deeds (a_check_deeds f) (d_check_deeds fd)
  b_check_deeds : Binds K (d_check_deeds fd) ["shelf", "deeds"] []
  g_lots_behind : mg "lots_behind" = some (.ref (a_lots_behind f))
  f_lots_behind : Fun K "lots_behind" "lots_behind" s_lots_behind (a_lots_behind f) (d_lots_behind fd)
  b_lots_behind : Binds K (d_lots_behind fd) ["lots", "deed"] []
  g_outcome : mg "outcome" = some (.ref (a_outcome f))
  f_outcome : Fun K "outcome" "outcome" s_outcome (a_outcome f) (d_outcome fd)
  b_outcome : Binds K (d_outcome fd) ["shelf", "deeds"] []
  g_done : mg "done" = some (.ref (a_done f))
  f_done : Fun K "done" "done" s_done (a_done f) (d_done fd)
  b_done : Binds K (d_done fd) ["shelf", "deeds"] []
  g__law_start : mg "_law_start" = some (.ref (a__law_start f))
  f__law_start : Fun K "_law_start" "_law_start" s__law_start (a__law_start f) (d__law_start fd)
  b__law_start : Binds K (d__law_start fd) ["_law_script"] []
  g__law_drawn : mg "_law_drawn" = some (.ref (a__law_drawn f))
  f__law_drawn : Fun K "_law_drawn" "_law_drawn" s__law_drawn (a__law_drawn f) (d__law_drawn fd)
  b__law_drawn : Binds K (d__law_drawn fd) ["_law_state", "_law_many"] []
  g__law_same : mg "_law_same" = some (.ref (a__law_same f))
  f__law_same : Fun K "_law_same" "_law_same" s__law_same (a__law_same f) (d__law_same fd)
  b__law_same : Binds K (d__law_same fd) ["_law_found", "_law_due"] []
  g__law_turned : mg "_law_turned" = some (.ref (a__law_turned f))
  f__law_turned : Fun K "_law_turned" "_law_turned" s__law_turned (a__law_turned f) (d__law_turned fd)
  b__law_turned : Binds K (d__law_turned fd) ["_law_state", "_law_many"] []
  g__law_lots : mg "_law_lots" = some (.ref (a__law_lots f))
  f__law_lots : Fun K "_law_lots" "_law_lots" s__law_lots (a__law_lots f) (d__law_lots fd)
  b__law_lots : Binds K (d__law_lots fd) ["_law_state", "_law_many", "_law_lots_here"] []
  g__law_shelf : mg "_law_shelf" = some (.ref (a__law_shelf f))
  f__law_shelf : Fun K "_law_shelf" "_law_shelf" s__law_shelf (a__law_shelf f) (d__law_shelf fd)
  b__law_shelf : Binds K (d__law_shelf fd) ["_law_state", "_law_most", "_law_lots_here"] []
  g__law_placed : mg "_law_placed" = some (.ref (a__law_placed f))
  f__law_placed : Fun K "_law_placed" "_law_placed" s__law_placed (a__law_placed f) (d__law_placed fd)
  b__law_placed : Binds K (d__law_placed fd) ["_law_lots_here", "_law_book", "_law_number", "_law_end"] []
  g__law_is : mg "_law_is" = some (.ref (a__law_is f))
  f__law_is : Fun K "_law_is" "_law_is" s__law_is (a__law_is f) (d__law_is fd)
  b__law_is : Binds K (d__law_is fd) ["_law_thing", "_law_low", "_law_high"] []
  g__law_deed : mg "_law_deed" = some (.ref (a__law_deed f))
  f__law_deed : Fun K "_law_deed" "_law_deed" s__law_deed (a__law_deed f) (d__law_deed fd)
  b__law_deed : Binds K (d__law_deed fd) ["_law_state", "_law_shelf_here"] []
  g__law_why : mg "_law_why" = some (.ref (a__law_why f))
  f__law_why : Fun K "_law_why" "_law_why" s__law_why (a__law_why f) (d__law_why fd)
  b__law_why : Binds K (d__law_why fd) ["_law_shelf_here", "_law_deed_here"] []
  g__law_kind : mg "_law_kind" = some (.ref (a__law_kind f))
  f__law_kind : Fun K "_law_kind" "_law_kind" s__law_kind (a__law_kind f) (d__law_kind fd)
  b__law_kind : Binds K (d__law_kind fd) ["_law_work"] []
section
variable {P : Program} {w : World} {K : PySem.W.Frag} {mg : Str → Option Value} {base : Heap} {f : Nat → Addr} {fd : Nat → FuncData} {g : Nat → Addr} {gd : Nat → FuncData}
abbrev i_BadShelf : Stmt := inClass (topS 2) 0
theorem sci_BadShelf : FnScope ["self", "part", "number"] ["self", "part", "number"] (defScope i_BadShelf) := ⟨rfl, rfl, rfl, by decide +kernel, rfl, by decide +kernel, by decide +kernel⟩
theorem ok_init_BadShelf (T : Tx K mg f fd g gd) : FnOk P w K mg base (L2.CX P w) 1 (g 2) (gd 2) ["self", "part", "number"] (spInit K (f 2) ["part", "number"]) := by
  refine Fun.okX (k := 0) T.fi_BadShelf sci_BadShelf (fun vs H Q E h => by obtain ⟨a, ws, F, ds, rfl, _, _, _, _, h1, h2, _⟩ := h; rw [List.length_cons, h1.len, h2]; rfl) fun cdv A outer s H vs Q E hr h => ?_
  obtain ⟨a, ws, F, ds, rfl, T1, ea, hF, hx, hd, hl, hp, hq⟩ := h
  cases hd with
  | nil => cases hl
  | @cons v1 _ d1 _ dv1 r1 =>
    cases r1 with
    | nil => cases hl
    | @cons v2 _ d2 _ dv2 r2 =>
      cases r2 with
      | cons _ _ => cases hl
      | nil =>
        simp only [List.all_cons, List.all_nil, Bool.and_true, Bool.and_eq_true] at hp
        obtain ⟨hp1, hp2⟩ := hp
        refine ⟨_, pss_cons (ps_expr (pe_binit T.base_ShelfError (pa_cons (pv 0) (pa_cons (pe_joined (.cons pe_str (.cons (pe_fmt (pv 1)) (.cons pe_str (.cons (pe_fmt (pv 2)) .nil))))) pa_nil)))) (pss_cons (ps_ost (pv 0) (pv 1)) (pss_one (ps_ost (pv 0) (pv 2)))), ?_⟩
        refine init2 (F := F) (Q := Q) (d1 := d1) (d2 := d2) T1 T.nf_BadShelf_part T.nf_BadShelf_number rfl rfl rfl ea (fun t ht => ?_) (by decide) fun d hn hne => hq d hn hne
        simp only [List.mem_cons, List.mem_nil_iff, or_false] at ht
        rcases ht with rfl | rfl | rfl | rfl
        · exact j_const (by decide)
        · exact j_slot (i := 1) rfl dv1 hp1
        · exact j_const (by decide)
        · exact j_slot (i := 2) rfl dv2 hp2
abbrev i_BadWay : Stmt := inClass (topS 5) 0
theorem sci_BadWay : FnScope ["self", "number", "why"] ["self", "number", "why"] (defScope i_BadWay) := ⟨rfl, rfl, rfl, by decide +kernel, rfl, by decide +kernel, by decide +kernel⟩
theorem ok_init_BadWay (T : Tx K mg f fd g gd) : FnOk P w K mg base (L2.CX P w) 1 (g 5) (gd 5) ["self", "number", "why"] (spInit K (f 5) ["number", "why"]) := by
  refine Fun.okX (k := 0) T.fi_BadWay sci_BadWay (fun vs H Q E h => by obtain ⟨a, ws, F, ds, rfl, _, _, _, _, h1, h2, _⟩ := h; rw [List.length_cons, h1.len, h2]; rfl) fun cdv A outer s H vs Q E hr h => ?_
  obtain ⟨a, ws, F, ds, rfl, T1, ea, hF, hx, hd, hl, hp, hq⟩ := h
  cases hd with
  | nil => cases hl
  | @cons v1 _ d1 _ dv1 r1 =>
    cases r1 with
    | nil => cases hl
    | @cons v2 _ d2 _ dv2 r2 =>
      cases r2 with
      | cons _ _ => cases hl
      | nil =>
        simp only [List.all_cons, List.all_nil, Bool.and_true, Bool.and_eq_true] at hp
        obtain ⟨hp1, hp2⟩ := hp
        refine ⟨_, pss_cons (ps_expr (pe_binit T.base_ShelfError (pa_cons (pv 0) (pa_cons (pe_joined (.cons pe_str (.cons (pe_fmt (pv 1)) (.cons pe_str (.cons (pe_fmt (pv 2)) .nil))))) pa_nil)))) (pss_cons (ps_ost (pv 0) (pv 1)) (pss_one (ps_ost (pv 0) (pv 2)))), ?_⟩
        refine init2 (F := F) (Q := Q) (d1 := d1) (d2 := d2) T1 T.nf_BadWay_number T.nf_BadWay_why rfl rfl rfl ea (fun t ht => ?_) (by decide) fun d hn hne => hq d hn hne
        simp only [List.mem_cons, List.mem_nil_iff, or_false] at ht
        rcases ht with rfl | rfl | rfl | rfl
        · exact j_const (by decide)
        · exact j_slot (i := 1) rfl dv1 hp1
        · exact j_const (by decide)
        · exact j_slot (i := 2) rfl dv2 hp2
theorem ok_kind_BadShelf (T : Tx K mg f fd g gd) (X : Cx) (hr : Room 1 X.A) (hK : X.K = K) (hmg : X.mg = mg) (ga : Addr) (cdg : Value) (s : Shared) (H : Hp) (a dd : Addr) (oe : Obj) (pn : List (Addr × Obj)) (hz : Zc (.ref (f 2)) (some dd) oe) (hf : ∃ vs, oe.data = .fields vs) :
    SSs ((cxOf C8.CX0 X.prog X.w X.K X.mg X.base N__law_kind "_law_kind" (defScope s__law_kind) ga cdg X.A X.stack s H C8.E0).nox.suite a ((a, oe) :: pn)) W0 (hBody s__law_kind) (G_kind_BadShelf a dd) := by
  subst hK hmg
  exact (ss_cons (ss_setO 2 (so_lst (sa_cons (sv_isK 1 T.ec_BadShelf hz hf (by rfl) T.n_isinstance (by rfl) T.gc_BadShelf T.kit_BadShelf_BadShelf) (sa_cons (sv_isK 1 T.ec_BadShelf hz hf (by rfl) T.n_isinstance (by rfl) T.gc_BadGoal T.kit_BadShelf_BadGoal) (sa_cons (sv_isK 1 T.ec_BadShelf hz hf (by rfl) T.n_isinstance (by rfl) T.gc_BadWish T.kit_BadShelf_BadWish) (sa_cons (sv_isK 1 T.ec_BadShelf hz hf (by rfl) T.n_isinstance (by rfl) T.gc_BadWay T.kit_BadShelf_BadWay) sa_nil))))) sc__law_kind.nd) (ss_cons (ss_setO 2 (so_cat (so_n 2) (so_lst (sa_cons (sv_isK 1 T.ec_BadShelf hz hf (by rfl) T.n_isinstance (by rfl) T.gc_NoWay T.kit_BadShelf_NoWay) (sa_cons (sv_isK 1 T.ec_BadShelf hz hf (by rfl) T.n_isinstance (by rfl) T.gc_BadName T.kit_BadShelf_BadName) (sa_cons (sv_isK 1 T.ec_BadShelf hz hf (by rfl) T.n_isinstance (by rfl) T.gc_NoPoint T.kit_BadShelf_NoPoint) (sa_cons (sv_isK 1 T.ec_BadShelf hz hf (by rfl) T.n_isinstance (by rfl) T.gc_Halted T.kit_BadShelf_Halted) sa_nil)))))) sc__law_kind.nd) (ss_cons (ss_setO 2 (so_cat (so_n 2) (so_lst (sa_cons (sv_isK 1 T.ec_BadShelf hz hf (by rfl) T.n_isinstance (by rfl) T.gc_BadText T.kit_BadShelf_BadText) sa_nil))) sc__law_kind.nd) (ss_cons (ss_set 3 sv_str sc__law_kind.nd) (ss_cons (ss_if (st_w (sw_or (st_cmp (cm_ne (hr.deeper X.env).units) (sv_count 2 sv_bl) sv_int) (sw_or1 (st_not (st_val (sv_isKT (T := "ValueError") 1 T.ec_BadShelf hz hf (by rfl) T.n_isinstance (by rfl) T.n_ValueError (by decide +kernel) (by decide) T.kitb_BadShelf_ValueError)))))) (ss_one (ss_ret sv_str)) ss_nil) (ss_cons (ss_set 4 (sv_ix (sv_o (so_split (sv_n 3) sv_str)) (sv_index 2 sv_bl)) sc__law_kind.nd) (ss_cons (ss_if (st_cmp (cm_eq (hr.deeper X.env).units) (sv_n 4) sv_str) (ss_one (ss_ret (sv_tup (sa_cons (sv_n 4) (sa_cons (sv_xf 1 T.xf_BadShelf T.nf_BadShelf_part hz hf) (sa_cons (sv_xf 1 T.xf_BadShelf T.nf_BadShelf_number hz hf) sa_nil)))))) ss_nil) (ss_cons (ss_if (st_cmp (cm_eq (hr.deeper X.env).units) (sv_n 4) sv_str) (ss_one (ss_ret (sv_tup (sa_cons (sv_n 4) (sa_cons (sv_xf 1 T.xf_BadShelf T.nf_BadShelf_number hz hf) (sa_cons (sv_xf 1 T.xf_BadShelf T.nf_BadShelf_why hz hf) sa_nil)))))) ss_nil) (ss_cons (ss_if (st_cmp (cm_eq (hr.deeper X.env).units) (sv_n 4) sv_str) (ss_one (ss_ret (sv_tup (sa_cons (sv_n 4) (sa_cons (sv_xf 1 T.xf_BadShelf T.nf_BadShelf_number hz hf) (sa_cons (sv_xf 1 T.xf_BadShelf T.nf_BadShelf_done hz hf) sa_nil)))))) ss_nil) (ss_cons (ss_if (st_cmp cm_in (sv_n 4) (sv_tup (sa_cons sv_str (sa_cons sv_str sa_nil)))) (ss_one (ss_ret (sv_tup (sa_cons (sv_n 4) (sa_cons (sv_xf 1 T.xf_BadShelf T.nf_BadShelf_number hz hf) sa_nil))))) ss_nil) (ss_one (ss_ret (sg_ifE (st_cmp (cm_eq (hr.deeper X.env).units) (sv_n 4) sv_str) (sv_tup (sa_cons (sv_n 4) (sa_cons (sv_xf 1 T.xf_BadShelf T.nf_BadShelf_row hz hf) sa_nil))) (sv_n 4))))))))))))))
theorem ok_kind_BadWay (T : Tx K mg f fd g gd) (X : Cx) (hr : Room 1 X.A) (hK : X.K = K) (hmg : X.mg = mg) (ga : Addr) (cdg : Value) (s : Shared) (H : Hp) (a dd : Addr) (oe : Obj) (pn : List (Addr × Obj)) (hz : Zc (.ref (f 5)) (some dd) oe) (hf : ∃ vs, oe.data = .fields vs) :
    SSs ((cxOf C8.CX0 X.prog X.w X.K X.mg X.base N__law_kind "_law_kind" (defScope s__law_kind) ga cdg X.A X.stack s H C8.E0).nox.suite a ((a, oe) :: pn)) W0 (hBody s__law_kind) (G_kind_BadWay a dd) := by
  subst hK hmg
  exact (ss_cons (ss_setO 2 (so_lst (sa_cons (sv_isK 1 T.ec_BadWay hz hf (by rfl) T.n_isinstance (by rfl) T.gc_BadShelf T.kit_BadWay_BadShelf) (sa_cons (sv_isK 1 T.ec_BadWay hz hf (by rfl) T.n_isinstance (by rfl) T.gc_BadGoal T.kit_BadWay_BadGoal) (sa_cons (sv_isK 1 T.ec_BadWay hz hf (by rfl) T.n_isinstance (by rfl) T.gc_BadWish T.kit_BadWay_BadWish) (sa_cons (sv_isK 1 T.ec_BadWay hz hf (by rfl) T.n_isinstance (by rfl) T.gc_BadWay T.kit_BadWay_BadWay) sa_nil))))) sc__law_kind.nd) (ss_cons (ss_setO 2 (so_cat (so_n 2) (so_lst (sa_cons (sv_isK 1 T.ec_BadWay hz hf (by rfl) T.n_isinstance (by rfl) T.gc_NoWay T.kit_BadWay_NoWay) (sa_cons (sv_isK 1 T.ec_BadWay hz hf (by rfl) T.n_isinstance (by rfl) T.gc_BadName T.kit_BadWay_BadName) (sa_cons (sv_isK 1 T.ec_BadWay hz hf (by rfl) T.n_isinstance (by rfl) T.gc_NoPoint T.kit_BadWay_NoPoint) (sa_cons (sv_isK 1 T.ec_BadWay hz hf (by rfl) T.n_isinstance (by rfl) T.gc_Halted T.kit_BadWay_Halted) sa_nil)))))) sc__law_kind.nd) (ss_cons (ss_setO 2 (so_cat (so_n 2) (so_lst (sa_cons (sv_isK 1 T.ec_BadWay hz hf (by rfl) T.n_isinstance (by rfl) T.gc_BadText T.kit_BadWay_BadText) sa_nil))) sc__law_kind.nd) (ss_cons (ss_set 3 sv_str sc__law_kind.nd) (ss_cons (ss_if (st_w (sw_or (st_cmp (cm_ne (hr.deeper X.env).units) (sv_count 2 sv_bl) sv_int) (sw_or1 (st_not (st_val (sv_isKT (T := "ValueError") 1 T.ec_BadWay hz hf (by rfl) T.n_isinstance (by rfl) T.n_ValueError (by decide +kernel) (by decide) T.kitb_BadWay_ValueError)))))) (ss_one (ss_ret sv_str)) ss_nil) (ss_cons (ss_set 4 (sv_ix (sv_o (so_split (sv_n 3) sv_str)) (sv_index 2 sv_bl)) sc__law_kind.nd) (ss_cons (ss_if (st_cmp (cm_eq (hr.deeper X.env).units) (sv_n 4) sv_str) (ss_one (ss_ret (sv_tup (sa_cons (sv_n 4) (sa_cons (sv_xf 1 T.xf_BadWay T.nf_BadWay_part hz hf) (sa_cons (sv_xf 1 T.xf_BadWay T.nf_BadWay_number hz hf) sa_nil)))))) ss_nil) (ss_cons (ss_if (st_cmp (cm_eq (hr.deeper X.env).units) (sv_n 4) sv_str) (ss_one (ss_ret (sv_tup (sa_cons (sv_n 4) (sa_cons (sv_xf 1 T.xf_BadWay T.nf_BadWay_number hz hf) (sa_cons (sv_xf 1 T.xf_BadWay T.nf_BadWay_why hz hf) sa_nil)))))) ss_nil) (ss_cons (ss_if (st_cmp (cm_eq (hr.deeper X.env).units) (sv_n 4) sv_str) (ss_one (ss_ret (sv_tup (sa_cons (sv_n 4) (sa_cons (sv_xf 1 T.xf_BadWay T.nf_BadWay_number hz hf) (sa_cons (sv_xf 1 T.xf_BadWay T.nf_BadWay_done hz hf) sa_nil)))))) ss_nil) (ss_cons (ss_if (st_cmp cm_in (sv_n 4) (sv_tup (sa_cons sv_str (sa_cons sv_str sa_nil)))) (ss_one (ss_ret (sv_tup (sa_cons (sv_n 4) (sa_cons (sv_xf 1 T.xf_BadWay T.nf_BadWay_number hz hf) sa_nil))))) ss_nil) (ss_one (ss_ret (sg_ifE (st_cmp (cm_eq (hr.deeper X.env).units) (sv_n 4) sv_str) (sv_tup (sa_cons (sv_n 4) (sa_cons (sv_xf 1 T.xf_BadWay T.nf_BadWay_row hz hf) sa_nil))) (sv_n 4))))))))))))))
theorem ok_is_number (T : Tx K mg f fd g gd) : FnOk P w K mg base (L2.CX P w) 1 (a_is_number f) (d_is_number fd) ["value"] (SpD K mg 1 m_is_number) :=
  ok_fnD T.f_is_number sc_is_number (by decide) fun cdv A outer s H E hr => by
    have tk := takes_of (X := cxOf (L2.CX P w) P w K mg base N_is_number "is_number" (defScope s_is_number) (a_is_number f) cdv A outer s H E) (E := E) rfl rfl rfl rfl
    have hp := passes_of (X := cxOf (L2.CX P w) P w K mg base N_is_number "is_number" (defScope s_is_number) (a_is_number f) cdv A outer s H E) rfl
    exact (ss_one (ss_ret (sv_and (sv_isa (by rfl) T.n_isinstance (by rfl) T.n_int (by decide +kernel) (by decide) (sv_n 0)) (sv_one (sv_not (sv_isa (by rfl) T.n_isinstance (by rfl) T.n_bool (by decide +kernel) (by decide) (sv_n 0)))))))
theorem ok_is_place (T : Tx K mg f fd g gd) (F_is_number : FnOk P w K mg base (L2.CX P w) 1 (a_is_number f) (d_is_number fd) ["value"] (SpD K mg 1 m_is_number)) : FnOk P w K mg base (L2.CX P w) 2 (a_is_place f) (d_is_place fd) ["value", "many"] (SpD K mg 2 m_is_place) :=
  ok_fnD T.f_is_place sc_is_place (by decide) fun cdv A outer s H E hr => by
    have tk := takes_of (X := cxOf (L2.CX P w) P w K mg base N_is_place "is_place" (defScope s_is_place) (a_is_place f) cdv A outer s H E) (E := E) rfl rfl rfl rfl
    have hp := passes_of (X := cxOf (L2.CX P w) P w K mg base N_is_place "is_place" (defScope s_is_place) (a_is_place f) cdv A outer s H E) rfl
    exact (ss_one (ss_ret (sv_and (sv_call F_is_number hr T.g_is_number T.f_is_number.kp T.b_is_number tk (sa_cons (sv_n 0) sa_nil) (len_cons len_nil)) (sv_one (sv_chain cm_le cm_lt sv_int (sv_n 0) (sv_n 1))))))
theorem ok_is_price (T : Tx K mg f fd g gd) (F_is_number : FnOk P w K mg base (L2.CX P w) 1 (a_is_number f) (d_is_number fd) ["value"] (SpD K mg 1 m_is_number)) : FnOk P w K mg base (L2.CX P w) 2 (a_is_price f) (d_is_price fd) ["value"] (SpD K mg 1 m_is_price) :=
  ok_fnD T.f_is_price sc_is_price (by decide) fun cdv A outer s H E hr => by
    have tk := takes_of (X := cxOf (L2.CX P w) P w K mg base N_is_price "is_price" (defScope s_is_price) (a_is_price f) cdv A outer s H E) (E := E) rfl rfl rfl rfl
    have hp := passes_of (X := cxOf (L2.CX P w) P w K mg base N_is_price "is_price" (defScope s_is_price) (a_is_price f) cdv A outer s H E) rfl
    exact (ss_one (ss_ret (sv_or (sv_cmp cm_is (sv_n 0) sv_non) (sv_one (sv_and (sv_call F_is_number hr T.g_is_number T.f_is_number.kp T.b_is_number tk (sa_cons (sv_n 0) sa_nil) (len_cons len_nil)) (sv_one (sv_chain cm_le cm_le sv_int (sv_n 0) (sv_glob T.c_MOST_PRICE.choose_spec.1 T.c_MOST_PRICE.choose_spec.2 fun _ => .int _))))))))
theorem ok_lot_of (T : Tx K mg f fd g gd) : FnOk P w K mg base (L2.CX P w) 1 (a_lot_of f) (d_lot_of fd) ["lots", "book"] (SpD K mg 2 m_lot_of) :=
  ok_fnD T.f_lot_of sc_lot_of (by decide) fun cdv A outer s H E hr => by
    have tk := takes_of (X := cxOf (L2.CX P w) P w K mg base N_lot_of "lot_of" (defScope s_lot_of) (a_lot_of f) cdv A outer s H E) (E := E) rfl rfl rfl rfl
    have hp := passes_of (X := cxOf (L2.CX P w) P w K mg base N_lot_of "lot_of" (defScope s_lot_of) (a_lot_of f) cdv A outer s H E) rfl
    exact (ss_cons (ss_forET hp rfl (by rfl) T.n_enumerate (sv_n 0) (sg_tup rfl (sgs_cons (sg_n 2 sc_lot_of.nd) (sgs_cons (sg_n 3 sc_lot_of.nd) sgs_nil))) (ss_one (ss_if (st_cmp cm_in (sv_n 1) (sv_n 3)) (ss_one (ss_ret (sv_n 2))) ss_nil))) (ss_one (ss_ret sv_non)))
theorem ok_wrong_price (T : Tx K mg f fd g gd) (F_is_price : FnOk P w K mg base (L2.CX P w) 2 (a_is_price f) (d_is_price fd) ["value"] (SpD K mg 1 m_is_price)) : FnOk P w K mg base (L2.CX P w) 3 (a_wrong_price f) (d_wrong_price fd) ["prices"] (SpD K mg 1 m_wrong_price) :=
  ok_fnD T.f_wrong_price sc_wrong_price (by decide) fun cdv A outer s H E hr => by
    have tk := takes_of (X := cxOf (L2.CX P w) P w K mg base N_wrong_price "wrong_price" (defScope s_wrong_price) (a_wrong_price f) cdv A outer s H E) (E := E) rfl rfl rfl rfl
    have hp := passes_of (X := cxOf (L2.CX P w) P w K mg base N_wrong_price "wrong_price" (defScope s_wrong_price) (a_wrong_price f) cdv A outer s H E) rfl
    exact (ss_cons (ss_if (st_w (sw_or (st_not (st_val (sv_isa (by rfl) T.n_isinstance (by rfl) T.n_tuple (by decide +kernel) (by decide) (sv_n 0)))) (sw_or1 (st_cmp (cm_eq hr.units) (sv_lenP 0 (by rfl) T.n_len) sv_int)))) (ss_one (ss_ret sv_int)) ss_nil) (ss_cons (ss_forET hp rfl (by rfl) T.n_enumerate (sv_n 0) (sg_tup rfl (sgs_cons (sg_n 1 sc_wrong_price.nd) (sgs_cons (sg_n 2 sc_wrong_price.nd) sgs_nil))) (ss_one (ss_if (st_w (sw_or (st_cmp (cm_eq hr.units) (sv_n 1) (sv_glob T.c_MOST_BOOKS.choose_spec.1 T.c_MOST_BOOKS.choose_spec.2 fun _ => .int _)) (sw_or1 (st_not (st_val (sv_call F_is_price hr T.g_is_price T.f_is_price.kp T.b_is_price tk (sa_cons (sv_n 2) sa_nil) (len_cons len_nil))))))) (ss_one (ss_ret (sv_n 1))) ss_nil))) (ss_one (ss_ret sv_non))))
theorem ok_wrong_lot (T : Tx K mg f fd g gd) (F_is_place : FnOk P w K mg base (L2.CX P w) 2 (a_is_place f) (d_is_place fd) ["value", "many"] (SpD K mg 2 m_is_place)) : FnOk P w K mg base (L2.CX P w) 3 (a_wrong_lot f) (d_wrong_lot fd) ["lots", "books", "fewest", "most"] (SpD K mg 4 m_wrong_lot) :=
  ok_fnD T.f_wrong_lot sc_wrong_lot (by decide) fun cdv A outer s H E hr => by
    have tk := takes_of (X := cxOf (L2.CX P w) P w K mg base N_wrong_lot "wrong_lot" (defScope s_wrong_lot) (a_wrong_lot f) cdv A outer s H E) (E := E) rfl rfl rfl rfl
    have hp := passes_of (X := cxOf (L2.CX P w) P w K mg base N_wrong_lot "wrong_lot" (defScope s_wrong_lot) (a_wrong_lot f) cdv A outer s H E) rfl
    exact (ss_cons (ss_if (st_not (st_val (sv_isa (by rfl) T.n_isinstance (by rfl) T.n_tuple (by decide +kernel) (by decide) (sv_n 0)))) (ss_one (ss_ret sv_int)) ss_nil) (ss_cons (ss_mkS 4 (by rfl) T.n_set sc_wrong_lot.nd) (ss_cons (ss_forET hp rfl (by rfl) T.n_enumerate (sv_n 0) (sg_tup rfl (sgs_cons (sg_n 5 sc_wrong_lot.nd) (sgs_cons (sg_n 6 sc_wrong_lot.nd) sgs_nil))) (ss_cons (ss_if (st_w (sw_or (st_cmp (cm_eq hr.units) (sv_n 5) (sv_n 3)) (sw_or1 (st_not (st_val (sv_isa (by rfl) T.n_isinstance (by rfl) T.n_tuple (by decide +kernel) (by decide) (sv_n 6))))))) (ss_one (ss_ret (sv_n 5))) ss_nil) (ss_one (ss_forT hp rfl (sv_n 6) (sg_n 7 sc_wrong_lot.nd) (ss_cons (ss_if (st_w (sw_or (st_not (st_val (sv_call F_is_place hr T.g_is_place T.f_is_place.kp T.b_is_place tk (sa_cons (sv_n 7) (sa_cons (sv_n 1) sa_nil)) (len_cons (len_cons len_nil))))) (sw_or1 (st_hasS 4 (sv_n 7))))) (ss_one (ss_ret (sv_n 5))) ss_nil) (ss_one (ss_addS 4 (sv_n 7)))))))) (ss_cons (ss_if (st_cmp cm_lt (sv_lenP 0 (by rfl) T.n_len) (sv_n 2)) (ss_one (ss_ret (sv_lenP 0 (by rfl) T.n_len))) ss_nil) (ss_one (ss_ret sv_non))))))
theorem ok_missing_book (T : Tx K mg f fd g gd) (F_lot_of : FnOk P w K mg base (L2.CX P w) 1 (a_lot_of f) (d_lot_of fd) ["lots", "book"] (SpD K mg 2 m_lot_of)) : FnOk P w K mg base (L2.CX P w) 2 (a_missing_book f) (d_missing_book fd) ["lots", "books"] (SpD K mg 2 m_missing_book) :=
  ok_fnD T.f_missing_book sc_missing_book (by decide) fun cdv A outer s H E hr => by
    have tk := takes_of (X := cxOf (L2.CX P w) P w K mg base N_missing_book "missing_book" (defScope s_missing_book) (a_missing_book f) cdv A outer s H E) (E := E) rfl rfl rfl rfl
    have hp := passes_of (X := cxOf (L2.CX P w) P w K mg base N_missing_book "missing_book" (defScope s_missing_book) (a_missing_book f) cdv A outer s H E) rfl
    exact (ss_cons (ss_forR1 hp rfl (by rfl) T.n_range (sv_n 1) (sg_n 2 sc_missing_book.nd) (ss_one (ss_if (st_cmp cm_is (sv_call F_lot_of hr T.g_lot_of T.f_lot_of.kp T.b_lot_of tk (sa_cons (sv_n 0) (sa_cons (sv_n 2) sa_nil)) (len_cons (len_cons len_nil))) sv_non) (ss_one (ss_ret (sv_n 2))) ss_nil))) (ss_one (ss_ret sv_non)))
theorem ok_check_shelf (T : Tx K mg f fd g gd) (F_missing_book : FnOk P w K mg base (L2.CX P w) 2 (a_missing_book f) (d_missing_book fd) ["lots", "books"] (SpD K mg 2 m_missing_book)) (F_wrong_lot : FnOk P w K mg base (L2.CX P w) 3 (a_wrong_lot f) (d_wrong_lot fd) ["lots", "books", "fewest", "most"] (SpD K mg 4 m_wrong_lot)) (F_wrong_price : FnOk P w K mg base (L2.CX P w) 3 (a_wrong_price f) (d_wrong_price fd) ["prices"] (SpD K mg 1 m_wrong_price)) (F_init_BadShelf : FnOk P w K mg base (L2.CX P w) 1 (g 2) (gd 2) ["self", "part", "number"] (spInit K (f 2) ["part", "number"])) : FnOk P w K mg base (L2.CX P w) 4 (a_check_shelf f) (d_check_shelf fd) ["shelf"] (SpD K mg 1 m_check_shelf) :=
  ok_fnD T.f_check_shelf sc_check_shelf (by decide) fun cdv A outer s H E hr => by
    have tk := takes_of (X := cxOf (L2.CX P w) P w K mg base N_check_shelf "check_shelf" (defScope s_check_shelf) (a_check_shelf f) cdv A outer s H E) (E := E) rfl rfl rfl rfl
    have hp := passes_of (X := cxOf (L2.CX P w) P w K mg base N_check_shelf "check_shelf" (defScope s_check_shelf) (a_check_shelf f) cdv A outer s H E) rfl
    exact (ss_cons (ss_if (st_w (sw_or (st_not (st_val (sv_isa (by rfl) T.n_isinstance (by rfl) T.n_tuple (by decide +kernel) (by decide) (sv_n 0)))) (sw_or1 (st_cmp (cm_ne hr.units) (sv_lenP 0 (by rfl) T.n_len) sv_int)))) (ss_one (ss_raise rfl tk T.x_BadShelf F_init_BadShelf (hr.mono (by decide)) T.bk_BadShelf (sk_cons (sv_neg sv_int) (sk_cons sv_int sk_nil)))) ss_nil) (ss_cons (ss_asg (sv_n 0) (sg_tup rfl (sgs_cons (sg_n 1 sc_check_shelf.nd) (sgs_cons (sg_n 2 sc_check_shelf.nd) sgs_nil)))) (ss_cons (ss_set 3 (sv_call F_wrong_price hr T.g_wrong_price T.f_wrong_price.kp T.b_wrong_price tk (sa_cons (sv_n 1) sa_nil) (len_cons len_nil)) sc_check_shelf.nd) (ss_cons (ss_if (st_cmp cm_isn (sv_n 3) sv_non) (ss_one (ss_raise rfl tk T.x_BadShelf F_init_BadShelf (hr.mono (by decide)) T.bk_BadShelf (sk_cons sv_int (sk_cons (sv_n 3) sk_nil)))) ss_nil) (ss_cons (ss_set 3 (sv_call F_wrong_lot hr T.g_wrong_lot T.f_wrong_lot.kp T.b_wrong_lot tk (sa_cons (sv_n 2) (sa_cons (sv_lenP 1 (by rfl) T.n_len) (sa_cons sv_int (sa_cons (sv_glob T.c_MOST_LOTS.choose_spec.1 T.c_MOST_LOTS.choose_spec.2 fun _ => .int _) sa_nil)))) (len_cons (len_cons (len_cons (len_cons len_nil))))) sc_check_shelf.nd) (ss_cons (ss_if (st_cmp cm_isn (sv_n 3) sv_non) (ss_one (ss_raise rfl tk T.x_BadShelf F_init_BadShelf (hr.mono (by decide)) T.bk_BadShelf (sk_cons sv_int (sk_cons (sv_n 3) sk_nil)))) ss_nil) (ss_cons (ss_set 3 (sv_call F_missing_book (hr.mono (by decide)) T.g_missing_book T.f_missing_book.kp T.b_missing_book tk (sa_cons (sv_n 2) (sa_cons (sv_lenP 1 (by rfl) T.n_len) sa_nil)) (len_cons (len_cons len_nil))) sc_check_shelf.nd) (ss_one (ss_if (st_cmp cm_isn (sv_n 3) sv_non) (ss_one (ss_raise rfl tk T.x_BadShelf F_init_BadShelf (hr.mono (by decide)) T.bk_BadShelf (sk_cons sv_int (sk_cons (sv_n 3) sk_nil)))) ss_nil)))))))))
theorem ok_is_deed (T : Tx K mg f fd g gd) (F_is_place : FnOk P w K mg base (L2.CX P w) 2 (a_is_place f) (d_is_place fd) ["value", "many"] (SpD K mg 2 m_is_place)) : FnOk P w K mg base (L2.CX P w) 3 (a_is_deed f) (d_is_deed fd) ["shelf", "deed"] (SpD K mg 2 m_is_deed) :=
  ok_fnD T.f_is_deed sc_is_deed (by decide) fun cdv A outer s H E hr => by
    have tk := takes_of (X := cxOf (L2.CX P w) P w K mg base N_is_deed "is_deed" (defScope s_is_deed) (a_is_deed f) cdv A outer s H E) (E := E) rfl rfl rfl rfl
    have hp := passes_of (X := cxOf (L2.CX P w) P w K mg base N_is_deed "is_deed" (defScope s_is_deed) (a_is_deed f) cdv A outer s H E) rfl
    exact (ss_cons (ss_if (st_w (sw_or (st_not (st_val (sv_isa (by rfl) T.n_isinstance (by rfl) T.n_tuple (by decide +kernel) (by decide) (sv_n 1)))) (sw_or1 (st_cmp (cm_ne hr.units) (sv_lenP 1 (by rfl) T.n_len) sv_int)))) (ss_one (ss_ret sv_bl)) ss_nil) (ss_cons (ss_asg (sv_n 0) (sg_tup rfl (sgs_cons (sg_n 2 sc_is_deed.nd) (sgs_cons (sg_n 3 sc_is_deed.nd) sgs_nil)))) (ss_cons (ss_asg (sv_n 1) (sg_tup rfl (sgs_cons (sg_n 4 sc_is_deed.nd) (sgs_cons (sg_n 5 sc_is_deed.nd) (sgs_cons (sg_n 6 sc_is_deed.nd) sgs_nil))))) (ss_one (ss_ret (sv_and (sv_call F_is_place hr T.g_is_place T.f_is_place.kp T.b_is_place tk (sa_cons (sv_n 4) (sa_cons (sv_lenP 2 (by rfl) T.n_len) sa_nil)) (len_cons (len_cons len_nil))) (sv_and (sv_call F_is_place hr T.g_is_place T.f_is_place.kp T.b_is_place tk (sa_cons (sv_n 5) (sa_cons (sv_lenP 3 (by rfl) T.n_len) sa_nil)) (len_cons (len_cons len_nil))) (sv_one (sv_cmp cm_in (sv_n 6) (sv_tup (sa_cons (sv_glob T.c_FIRST.choose_spec.1 T.c_FIRST.choose_spec.2 fun _ => .str _) (sa_cons (sv_glob T.c_LAST.choose_spec.1 T.c_LAST.choose_spec.2 fun _ => .str _) sa_nil))))))))))))
theorem ok_why_not (T : Tx K mg f fd g gd) (F_is_deed : FnOk P w K mg base (L2.CX P w) 3 (a_is_deed f) (d_is_deed fd) ["shelf", "deed"] (SpD K mg 2 m_is_deed)) : FnOk P w K mg base (L2.CX P w) 4 (a_why_not f) (d_why_not fd) ["shelf", "deed"] (SpD K mg 2 m_why_not) :=
  ok_fnD T.f_why_not sc_why_not (by decide) fun cdv A outer s H E hr => by
    have tk := takes_of (X := cxOf (L2.CX P w) P w K mg base N_why_not "why_not" (defScope s_why_not) (a_why_not f) cdv A outer s H E) (E := E) rfl rfl rfl rfl
    have hp := passes_of (X := cxOf (L2.CX P w) P w K mg base N_why_not "why_not" (defScope s_why_not) (a_why_not f) cdv A outer s H E) rfl
    exact (ss_cons (ss_if (st_not (st_val (sv_call F_is_deed hr T.g_is_deed T.f_is_deed.kp T.b_is_deed tk (sa_cons (sv_n 0) (sa_cons (sv_n 1) sa_nil)) (len_cons (len_cons len_nil))))) (ss_one (ss_ret sv_str)) ss_nil) (ss_cons (ss_set 2 (sv_ixP 0 sv_int) sc_why_not.nd) (ss_cons (ss_if (st_cmp cm_is (sv_ixP 2 (sv_ixP 1 sv_int)) sv_non) (ss_one (ss_ret sv_str)) ss_nil) (ss_one (ss_ret sv_non)))))
theorem ok_check_list (T : Tx K mg f fd g gd) (F_init_BadWay : FnOk P w K mg base (L2.CX P w) 1 (g 5) (gd 5) ["self", "number", "why"] (spInit K (f 5) ["number", "why"])) : FnOk P w K mg base (L2.CX P w) 3 (a_check_list f) (d_check_list fd) ["deeds"] (SpD K mg 1 m_check_list) :=
  ok_fnD T.f_check_list sc_check_list (by decide) fun cdv A outer s H E hr => by
    have tk := takes_of (X := cxOf (L2.CX P w) P w K mg base N_check_list "check_list" (defScope s_check_list) (a_check_list f) cdv A outer s H E) (E := E) rfl rfl rfl rfl
    have hp := passes_of (X := cxOf (L2.CX P w) P w K mg base N_check_list "check_list" (defScope s_check_list) (a_check_list f) cdv A outer s H E) rfl
    exact (ss_one (ss_if (st_not (st_val (sv_isa (by rfl) T.n_isinstance (by rfl) T.n_list (by decide +kernel) (by decide) (sv_n 0)))) (ss_one (ss_raise rfl tk T.x_BadWay F_init_BadWay (hr.mono (by decide)) T.bk_BadWay (sk_cons sv_int (sk_cons sv_str sk_nil)))) ss_nil))
theorem ok_check_deeds (T : Tx K mg f fd g gd) (F_check_list : FnOk P w K mg base (L2.CX P w) 3 (a_check_list f) (d_check_list fd) ["deeds"] (SpD K mg 1 m_check_list)) (F_why_not : FnOk P w K mg base (L2.CX P w) 4 (a_why_not f) (d_why_not fd) ["shelf", "deed"] (SpD K mg 2 m_why_not)) (F_init_BadWay : FnOk P w K mg base (L2.CX P w) 1 (g 5) (gd 5) ["self", "number", "why"] (spInit K (f 5) ["number", "why"])) : FnOk P w K mg base (L2.CX P w) 5 (a_check_deeds f) (d_check_deeds fd) ["shelf", "deeds"] (SpD K mg 2 m_check_deeds) :=
  ok_fnD T.f_check_deeds sc_check_deeds (by decide) fun cdv A outer s H E hr => by
    have tk := takes_of (X := cxOf (L2.CX P w) P w K mg base N_check_deeds "check_deeds" (defScope s_check_deeds) (a_check_deeds f) cdv A outer s H E) (E := E) rfl rfl rfl rfl
    have hp := passes_of (X := cxOf (L2.CX P w) P w K mg base N_check_deeds "check_deeds" (defScope s_check_deeds) (a_check_deeds f) cdv A outer s H E) rfl
    exact (ss_cons (ss_expr (sv_call F_check_list (hr.mono (by decide)) T.g_check_list T.f_check_list.kp T.b_check_list tk (sa_cons (sv_n 1) sa_nil) (len_cons len_nil))) (ss_one (ss_forEL hp rfl (by rfl) T.n_enumerate (sv_n 1) (sg_tup rfl (sgs_cons (sg_n 2 sc_check_deeds.nd) (sgs_cons (sg_n 3 sc_check_deeds.nd) sgs_nil))) (ss_cons (ss_set 4 (sv_call F_why_not hr T.g_why_not T.f_why_not.kp T.b_why_not tk (sa_cons (sv_n 0) (sa_cons (sv_n 3) sa_nil)) (len_cons (len_cons len_nil))) sc_check_deeds.nd) (ss_one (ss_if (st_cmp cm_isn (sv_n 4) sv_non) (ss_one (ss_raise rfl tk T.x_BadWay F_init_BadWay (hr.mono (by decide)) T.bk_BadWay (sk_cons (sv_n 2) (sk_cons (sv_n 4) sk_nil)))) ss_nil))))))
theorem ok_lots_behind (T : Tx K mg f fd g gd) : FnOk P w K mg base (L2.CX P w) 1 (a_lots_behind f) (d_lots_behind fd) ["lots", "deed"] (SpD K mg 2 m_lots_behind) :=
  ok_fnD T.f_lots_behind sc_lots_behind (by decide) fun cdv A outer s H E hr => by
    have tk := takes_of (X := cxOf (L2.CX P w) P w K mg base N_lots_behind "lots_behind" (defScope s_lots_behind) (a_lots_behind f) cdv A outer s H E) (E := E) rfl rfl rfl rfl
    have hp := passes_of (X := cxOf (L2.CX P w) P w K mg base N_lots_behind "lots_behind" (defScope s_lots_behind) (a_lots_behind f) cdv A outer s H E) rfl
    exact (ss_cons (ss_asg (sv_n 1) (sg_tup rfl (sgs_cons (sg_n 2 sc_lots_behind.nd) (sgs_cons (sg_n 3 sc_lots_behind.nd) (sgs_cons (sg_n 4 sc_lots_behind.nd) sgs_nil))))) (pss_rows 5 (own := [("lot", 6)]) (j := 6) rfl sc_lots_behind.nd rfl rfl (sw_true rfl rfl rfl (by decide +kernel)) (sv_n 0) (by exact blkOk_by (own := [("lot", 6)]) (N := N_lots_behind) (sc := defScope s_lots_behind) (scope := { kind := PySem.ScopeKind.function, names := [(PySem.Str.ofString ".0", PySem.NameKind.local), (PySem.Str.ofString "lot", PySem.NameKind.local), (PySem.Str.ofString "moved", PySem.NameKind.free)], isGenerator := false, isCoroutine := false, more := [] }) (by decide +kernel)) (by decide) (fun _ _ _ _ _ => pg_name (i := 6) sc_lots_behind.nd rfl (Or.inl rfl)) (fun _ _ _ _ _ => sts_nil) (fun _ _ _ _ _ => (so_lcT (own := [("book", 7)]) (j := 7) rfl sc_lots_behind.nd (sv_n 6) (by exact blkOk_by (own := [("book", 7)]) (N := N_lots_behind) (sc := { kind := PySem.ScopeKind.function, names := [(PySem.Str.ofString ".0", PySem.NameKind.local), (PySem.Str.ofString "lot", PySem.NameKind.local), (PySem.Str.ofString "moved", PySem.NameKind.cell)], isGenerator := false, isCoroutine := false, more := [] }) (scope := { kind := PySem.ScopeKind.function, names := [(PySem.Str.ofString ".0", PySem.NameKind.local), (PySem.Str.ofString "book", PySem.NameKind.local), (PySem.Str.ofString "moved", PySem.NameKind.free)], isGenerator := false, isCoroutine := false, more := [] }) (by decide +kernel)) (by decide) (fun _ _ _ _ _ => pg_name (i := 7) sc_lots_behind.nd rfl (Or.inl rfl)) (fun _ _ _ _ _ => sts_one (st_cmp (cm_ne hr.units) (sv_n 7) (sv_n 2))) (fun _ _ _ _ _ => (sv_n 7)))) (st_cmp (cm_eq hr.units) (sv_n 4) (sv_glob T.c_FIRST.choose_spec.1 T.c_FIRST.choose_spec.2 fun _ => .str _)) (sv_n 3) (sv_n 2) (sv_n 3) (sv_n 2) (ss_one (ss_ret (sv_tupleOf (by rfl) T.n_tuple (sa_cons (sv_o (so_lcL (own := [("row", 8)]) (j := 8) rfl sc_lots_behind.nd (sv_n 5) (by exact blkOk_by (own := [("row", 8)]) (N := N_lots_behind) (sc := defScope s_lots_behind) (scope := { kind := PySem.ScopeKind.function, names := [(PySem.Str.ofString ".0", PySem.NameKind.local), (PySem.Str.ofString "row", PySem.NameKind.local), (PySem.Str.ofString "tuple", PySem.NameKind.globalImplicit)], isGenerator := false, isCoroutine := false, more := [] }) (by decide +kernel)) (by decide) (fun _ _ _ _ _ => pg_name (i := 8) sc_lots_behind.nd rfl (Or.inl rfl)) (fun _ _ _ _ _ => sts_nil) (fun _ _ _ _ _ => (sv_tupleOf (by rfl) T.n_tuple (sa_cons (sv_n 8) sa_nil))))) sa_nil))))))
theorem ok_outcome (T : Tx K mg f fd g gd) (F_lots_behind : FnOk P w K mg base (L2.CX P w) 1 (a_lots_behind f) (d_lots_behind fd) ["lots", "deed"] (SpD K mg 2 m_lots_behind)) : FnOk P w K mg base (L2.CX P w) 2 (a_outcome f) (d_outcome fd) ["shelf", "deeds"] (SpD K mg 2 m_outcome) :=
  ok_fnD T.f_outcome sc_outcome (by decide) fun cdv A outer s H E hr => by
    have tk := takes_of (X := cxOf (L2.CX P w) P w K mg base N_outcome "outcome" (defScope s_outcome) (a_outcome f) cdv A outer s H E) (E := E) rfl rfl rfl rfl
    have hp := passes_of (X := cxOf (L2.CX P w) P w K mg base N_outcome "outcome" (defScope s_outcome) (a_outcome f) cdv A outer s H E) rfl
    exact (ss_cons (ss_asg (sv_n 0) (sg_tup rfl (sgs_cons (sg_n 2 sc_outcome.nd) (sgs_cons (sg_n 3 sc_outcome.nd) sgs_nil)))) (ss_cons (ss_set 4 sv_int sc_outcome.nd) (ss_cons (ss_forL hp rfl (sv_n 1) (sg_n 5 sc_outcome.nd) (ss_cons (ss_set 3 (sv_call F_lots_behind hr T.g_lots_behind T.f_lots_behind.kp T.b_lots_behind tk (sa_cons (sv_n 3) (sa_cons (sv_n 5) sa_nil)) (len_cons (len_cons len_nil))) sc_outcome.nd) (ss_one (ss_aug 4 ip_add (sv_ixP 2 (sv_ixP 5 sv_int)) sc_outcome.nd)))) (ss_one (ss_ret (sv_tup (sa_cons (sv_n 3) (sa_cons (sv_n 4) sa_nil))))))))
theorem ok_done (T : Tx K mg f fd g gd) (F_check_deeds : FnOk P w K mg base (L2.CX P w) 5 (a_check_deeds f) (d_check_deeds fd) ["shelf", "deeds"] (SpD K mg 2 m_check_deeds)) (F_check_shelf : FnOk P w K mg base (L2.CX P w) 4 (a_check_shelf f) (d_check_shelf fd) ["shelf"] (SpD K mg 1 m_check_shelf)) (F_outcome : FnOk P w K mg base (L2.CX P w) 2 (a_outcome f) (d_outcome fd) ["shelf", "deeds"] (SpD K mg 2 m_outcome)) : FnOk P w K mg base (L2.CX P w) 6 (a_done f) (d_done fd) ["shelf", "deeds"] (SpD K mg 2 m_done) :=
  ok_fnD T.f_done sc_done (by decide) fun cdv A outer s H E hr => by
    have tk := takes_of (X := cxOf (L2.CX P w) P w K mg base N_done "done" (defScope s_done) (a_done f) cdv A outer s H E) (E := E) rfl rfl rfl rfl
    have hp := passes_of (X := cxOf (L2.CX P w) P w K mg base N_done "done" (defScope s_done) (a_done f) cdv A outer s H E) rfl
    exact (ss_cons (ss_expr (sv_call F_check_shelf (hr.mono (by decide)) T.g_check_shelf T.f_check_shelf.kp T.b_check_shelf tk (sa_cons (sv_n 0) sa_nil) (len_cons len_nil))) (ss_cons (ss_expr (sv_call F_check_deeds hr T.g_check_deeds T.f_check_deeds.kp T.b_check_deeds tk (sa_cons (sv_n 0) (sa_cons (sv_n 1) sa_nil)) (len_cons (len_cons len_nil)))) (ss_one (ss_ret (sv_call F_outcome (hr.mono (by decide)) T.g_outcome T.f_outcome.kp T.b_outcome tk (sa_cons (sv_n 0) (sa_cons (sv_n 1) sa_nil)) (len_cons (len_cons len_nil)))))))
theorem ok__law_start (T : Tx K mg f fd g gd) : FnOk P w K mg base (L2.CX P w) 1 (a__law_start f) (d__law_start fd) ["_law_script"] (SpO K mg 1 m__law_start) :=
  ok_fnO T.f__law_start sc__law_start (by decide) fun cdv A outer s H E hr => by
    have tk := takes_of (X := cxOf (L2.CX P w) P w K mg base N__law_start "_law_start" (defScope s__law_start) (a__law_start f) cdv A outer s H E) (E := E) rfl rfl rfl rfl
    have hp := passes_of (X := cxOf (L2.CX P w) P w K mg base N__law_start "_law_start" (defScope s__law_start) (a__law_start f) cdv A outer s H E) rfl
    exact (ss_cons (ss_set 1 sv_int sc__law_start.nd) (ss_cons (ss_forL hp rfl (sv_n 0) (sg_n 2 sc__law_start.nd) (ss_one (ss_set 1 (sv_mod (sv_add (sv_add (sv_mul (sv_n 1) sv_int) (sv_n 2)) sv_int) sv_int) sc__law_start.nd))) (ss_one (ss_retO (so_lst (sa_cons (sv_n 0) (sa_cons sv_int (sa_cons (sv_n 1) (sa_cons sv_int sa_nil)))))))))
theorem ok__law_drawn (T : Tx K mg f fd g gd) : FnOk P w K mg base (L2.CX P w) 1 (a__law_drawn f) (d__law_drawn fd) ["_law_state", "_law_many"] (SpB K 1 m__law_drawn) :=
  ok_fnB T.f__law_drawn sc__law_drawn (by decide) fun cdv A outer s H E hr => by
    have tk := takes_of (X := cxOf (L2.CX P w) P w K mg base N__law_drawn "_law_drawn" (defScope s__law_drawn) (a__law_drawn f) cdv A outer s H E) (E := E) rfl rfl rfl rfl
    have hp := passes_of (X := cxOf (L2.CX P w) P w K mg base N__law_drawn "_law_drawn" (defScope s__law_drawn) (a__law_drawn f) cdv A outer s H E) rfl
    exact (ss_cons (ss_if (st_cmp cm_gt (sv_ixP 0 sv_int) sv_int) (ss_cons (ss_set 2 (sv_mod (sv_ixP 0 sv_int) (sv_n 1)) sc__law_drawn.nd) (ss_cons (ss_setIx 0 (sv_div (sv_ixP 0 sv_int) (sv_n 1)) sv_int) (ss_one (ss_ret (sv_n 2))))) ss_nil) (ss_cons (ss_setIx 0 (sv_add (sv_ixP 0 sv_int) sv_int) sv_int) (ss_cons (ss_if (st_cmp cm_le (sv_ixP 0 sv_int) (sv_len (by rfl) T.n_len (sa_cons (sv_ixP 0 sv_int) sa_nil))) (ss_cons (ss_set 3 (sv_ix (sv_ixP 0 sv_int) (sv_sub (sv_ixP 0 sv_int) sv_int)) sc__law_drawn.nd) (ss_cons (ss_setIx 0 (sg_ifE (st_cmp cm_ge (sv_n 3) (sv_pow sv_int sv_int)) (sv_div (sv_n 3) (sv_n 1)) sv_int) sv_int) (ss_one (ss_ret (sv_mod (sv_n 3) (sv_n 1)))))) ss_nil) (ss_cons (ss_setIx 0 (sv_mod (sv_add (sv_mul (sv_ixP 0 sv_int) sv_int) sv_int) sv_int) sv_int) (ss_one (ss_ret (sv_mod (sv_div (sv_ixP 0 sv_int) sv_int) (sv_n 1))))))))
theorem step__law_same (T : Tx K mg f fd g gd) {k : Nat} {mr : List PyData → Rf PyData} (F_rec : FnOk P w K mg base (L2.CX P w) k (a__law_same f) (d__law_same fd) ["_law_found", "_law_due"] (SpD K mg 2 mr)) : FnOk P w K mg base (L2.CX P w) (k + 1) (a__law_same f) (d__law_same fd) ["_law_found", "_law_due"] (SpD K mg 2 (fnD (G__law_same mr) 4)) :=
  ok_fnD T.f__law_same sc__law_same (by decide) fun cdv A outer s H E hr => by
    have tk := takes_of (X := cxOf (L2.CX P w) P w K mg base N__law_same "_law_same" (defScope s__law_same) (a__law_same f) cdv A outer s H E) (E := E) rfl rfl rfl rfl
    have hp := passes_of (X := cxOf (L2.CX P w) P w K mg base N__law_same "_law_same" (defScope s__law_same) (a__law_same f) cdv A outer s H E) rfl
    exact (ss_cons (ss_if (st_val (sv_isa2 (x1 := false) (by rfl) T.n_isinstance (by rfl) T.n_tuple (by decide +kernel) (by decide) (by rfl) T.n_list (by decide +kernel) (by decide) (sv_n 1))) (ss_cons (ss_if (st_w (sw_or (st_not (st_val (sv_isa2 (x1 := false) (by rfl) T.n_isinstance (by rfl) T.n_tuple (by decide +kernel) (by decide) (by rfl) T.n_list (by decide +kernel) (by decide) (sv_n 0)))) (sw_or1 (st_cmp (cm_ne hr.units) (sv_isa (by rfl) T.n_isinstance (by rfl) T.n_list (by decide +kernel) (by decide) (sv_n 0)) (sv_isa (by rfl) T.n_isinstance (by rfl) T.n_list (by decide +kernel) (by decide) (sv_n 1)))))) (ss_one (ss_ret sv_bl)) ss_nil) (ss_cons (ss_if (st_cmp (cm_ne hr.units) (sv_lenP 0 (by rfl) T.n_len) (sv_lenP 1 (by rfl) T.n_len)) (ss_one (ss_ret sv_bl)) ss_nil) (ss_one (ss_ret (sv_cmp (cm_eq hr.units) (sv_o (so_lcR1 (own := [("_law_k", 3)]) (j := 3) rfl sc__law_same.nd (by rfl) T.n_range (sv_lenP 1 (by rfl) T.n_len) (by exact blkOk_by (own := [("_law_k", 3)]) (N := N__law_same) (sc := defScope s__law_same) (scope := { kind := PySem.ScopeKind.function, names := [(PySem.Str.ofString ".0", PySem.NameKind.local), (PySem.Str.ofString "_law_k", PySem.NameKind.local), (PySem.Str.ofString "_law_same", PySem.NameKind.globalImplicit), (PySem.Str.ofString "_law_due", PySem.NameKind.free), (PySem.Str.ofString "_law_found", PySem.NameKind.free)], isGenerator := false, isCoroutine := false, more := [] }) (by decide +kernel)) (by decide) (fun _ _ _ _ _ => pg_name (i := 3) sc__law_same.nd rfl (Or.inl rfl)) (fun _ _ _ _ _ => sts_one (st_not (st_val (sv_call F_rec hr T.g__law_same T.f__law_same.kp T.b__law_same takes0 (sa_cons (sv_ixP 0 (sv_n 3)) (sa_cons (sv_ixP 1 (sv_n 3)) sa_nil)) (len_cons (len_cons len_nil)))))) (fun _ _ _ _ _ => (sv_n 3)))) (sv_o (so_lst sa_nil))))))) ss_nil) (ss_cons (ss_set 2 (sv_and (sv_cmp (cm_eq hr.units) (sv_isa (by rfl) T.n_isinstance (by rfl) T.n_bool (by decide +kernel) (by decide) (sv_n 0)) (sv_isa (by rfl) T.n_isinstance (by rfl) T.n_bool (by decide +kernel) (by decide) (sv_n 1))) (sv_one (sv_cmp (cm_eq hr.units) (sv_isa (by rfl) T.n_isinstance (by rfl) T.n_int (by decide +kernel) (by decide) (sv_n 0)) (sv_isa (by rfl) T.n_isinstance (by rfl) T.n_int (by decide +kernel) (by decide) (sv_n 1))))) sc__law_same.nd) (ss_one (ss_ret (sv_and (sv_n 2) (sv_one (sv_cmp (cm_eq hr.units) (sv_n 0) (sv_n 1))))))))
theorem ok__law_same (T : Tx K mg f fd g gd) : ∀ n : Nat, FnOk P w K mg base (L2.CX P w) n (a__law_same f) (d__law_same fd) ["_law_found", "_law_due"] (SpD K mg 2 (m__law_same n))
  | 0 => ⟨fun _ _ _ _ ⟨_, _, _, _, _, h⟩ => h.elim, fun _ _ _ _ _ _ _ _ _ _ _ _ _ ⟨_, _, _, _, _, h⟩ => h.elim⟩
  | n + 1 => step__law_same T (ok__law_same T n)
theorem ok__law_turned (T : Tx K mg f fd g gd) (F__law_drawn : FnOk P w K mg base (L2.CX P w) 1 (a__law_drawn f) (d__law_drawn fd) ["_law_state", "_law_many"] (SpB K 1 m__law_drawn)) : FnOk P w K mg base (L2.CX P w) 2 (a__law_turned f) (d__law_turned fd) ["_law_state", "_law_many"] (SpBO K 1 m__law_turned) :=
  ok_fnBO T.f__law_turned sc__law_turned (by decide) fun cdv A outer s H E hr => by
    have tk := takes_of (X := cxOf (L2.CX P w) P w K mg base N__law_turned "_law_turned" (defScope s__law_turned) (a__law_turned f) cdv A outer s H E) (E := E) rfl rfl rfl rfl
    have hp := passes_of (X := cxOf (L2.CX P w) P w K mg base N__law_turned "_law_turned" (defScope s__law_turned) (a__law_turned f) cdv A outer s H E) rfl
    exact (ss_cons (ss_parOO (i := 2) (j := 3) rfl sc__law_turned.nd rfl rfl (by decide) rfl rfl (so_listR rfl (by rfl) T.n_list (by rfl) T.n_range (sv_n 1)) (so_lst sa_nil) (by rfl)) (ss_cons (ss_while 100 hp (st_neL 2 hr.units (sv_o (so_lst sa_nil))) (ss_one (ss_app 3 (sv_popAt 2 (sv_callB' 0 F__law_drawn hr T.g__law_drawn T.f__law_drawn.kp T.b__law_drawn tk (sa_cons (sv_lenP 2 (by rfl) T.n_len) sa_nil) (len_cons len_nil)))))) (ss_one (ss_retO (so_n 3)))))
theorem ok__law_lots (T : Tx K mg f fd g gd) (F__law_drawn : FnOk P w K mg base (L2.CX P w) 1 (a__law_drawn f) (d__law_drawn fd) ["_law_state", "_law_many"] (SpB K 1 m__law_drawn)) (F__law_turned : FnOk P w K mg base (L2.CX P w) 2 (a__law_turned f) (d__law_turned fd) ["_law_state", "_law_many"] (SpBO K 1 m__law_turned)) : FnOk P w K mg base (L2.CX P w) 3 (a__law_lots f) (d__law_lots fd) ["_law_state", "_law_many", "_law_lots_here"] (SpB K 2 m__law_lots) :=
  ok_fnB T.f__law_lots sc__law_lots (by decide) fun cdv A outer s H E hr => by
    have tk := takes_of (X := cxOf (L2.CX P w) P w K mg base N__law_lots "_law_lots" (defScope s__law_lots) (a__law_lots f) cdv A outer s H E) (E := E) rfl rfl rfl rfl
    have hp := passes_of (X := cxOf (L2.CX P w) P w K mg base N__law_lots "_law_lots" (defScope s__law_lots) (a__law_lots f) cdv A outer s H E) rfl
    exact (ss_cons (ss_setO 3 (so_rep (so_lst (sa_cons (sv_tup sa_nil) sa_nil)) (sv_n 2)) sc__law_lots.nd) (ss_cons (ss_forL hp rfl (sv_o (so_callB' 0 F__law_turned hr T.g__law_turned T.f__law_turned.kp T.b__law_turned tk (sa_cons (sv_n 1) sa_nil) (len_cons len_nil))) (sg_n 4 sc__law_lots.nd) (ss_cons (ss_set 5 (sv_callB' 0 F__law_drawn (hr.mono (by decide)) T.g__law_drawn T.f__law_drawn.kp T.b__law_drawn tk (sa_cons (sv_n 2) sa_nil) (len_cons len_nil)) sc__law_lots.nd) (ss_one (ss_setIx 3 (sv_add (sv_ixP 3 (sv_n 5)) (sv_tup (sa_cons (sv_n 4) sa_nil))) (sv_n 5))))) (ss_one (ss_ret (sv_tupleOf (by rfl) T.n_tuple (sa_cons (sv_n 3) sa_nil))))))
theorem ok__law_shelf (T : Tx K mg f fd g gd) (F__law_drawn : FnOk P w K mg base (L2.CX P w) 1 (a__law_drawn f) (d__law_drawn fd) ["_law_state", "_law_many"] (SpB K 1 m__law_drawn)) (F__law_lots : FnOk P w K mg base (L2.CX P w) 3 (a__law_lots f) (d__law_lots fd) ["_law_state", "_law_many", "_law_lots_here"] (SpB K 2 m__law_lots)) : FnOk P w K mg base (L2.CX P w) 4 (a__law_shelf f) (d__law_shelf fd) ["_law_state", "_law_most", "_law_lots_here"] (SpB K 2 m__law_shelf) :=
  ok_fnB T.f__law_shelf sc__law_shelf (by decide) fun cdv A outer s H E hr => by
    have tk := takes_of (X := cxOf (L2.CX P w) P w K mg base N__law_shelf "_law_shelf" (defScope s__law_shelf) (a__law_shelf f) cdv A outer s H E) (E := E) rfl rfl rfl rfl
    have hp := passes_of (X := cxOf (L2.CX P w) P w K mg base N__law_shelf "_law_shelf" (defScope s__law_shelf) (a__law_shelf f) cdv A outer s H E) rfl
    exact (ss_cons (ss_asg (sv_tup (sa_cons (sv_add sv_int (sv_callB' 0 F__law_drawn (hr.mono (by decide)) T.g__law_drawn T.f__law_drawn.kp T.b__law_drawn tk (sa_cons (sv_n 1) sa_nil) (len_cons len_nil))) (sa_cons (sv_ix (sv_o (so_lst (sa_cons sv_int (sa_cons sv_int (sa_cons sv_int sa_nil))))) (sv_callB' 0 F__law_drawn (hr.mono (by decide)) T.g__law_drawn T.f__law_drawn.kp T.b__law_drawn tk (sa_cons sv_int sa_nil) (len_cons len_nil))) sa_nil))) (sg_tup rfl (sgs_cons (sg_n 3 sc__law_shelf.nd) (sgs_cons (sg_n 4 sc__law_shelf.nd) sgs_nil)))) (ss_cons (ss_set 5 (sv_ix (sv_o (so_lst (sa_cons sv_int (sa_cons sv_int (sa_cons sv_int sa_nil))))) (sv_callB' 0 F__law_drawn (hr.mono (by decide)) T.g__law_drawn T.f__law_drawn.kp T.b__law_drawn tk (sa_cons sv_int sa_nil) (len_cons len_nil))) sc__law_shelf.nd) (ss_cons (ss_set 6 (sv_tupleOf (by rfl) T.n_tuple (sa_cons (sv_o (so_lcR1 (own := [("_law_k", 7)]) (j := 7) rfl sc__law_shelf.nd (by rfl) T.n_range (sv_n 3) (by exact blkOk_by (own := [("_law_k", 7)]) (N := N__law_shelf) (sc := defScope s__law_shelf) (scope := { kind := PySem.ScopeKind.function, names := [(PySem.Str.ofString ".0", PySem.NameKind.local), (PySem.Str.ofString "_law_k", PySem.NameKind.local), (PySem.Str.ofString "_law_drawn", PySem.NameKind.globalImplicit), (PySem.Str.ofString "_law_dear", PySem.NameKind.free), (PySem.Str.ofString "_law_rare", PySem.NameKind.free), (PySem.Str.ofString "_law_state", PySem.NameKind.free)], isGenerator := false, isCoroutine := false, more := [] }) (by decide +kernel)) (by decide) (fun _ _ _ _ _ => pg_name (i := 7) sc__law_shelf.nd rfl (Or.inl rfl)) (fun _ _ _ _ _ => sts_nil) (fun _ _ _ _ _ => (sg_ifE (st_cmp (cm_eq hr.units) (sv_callB' 0 F__law_drawn (hr.mono (by decide)) T.g__law_drawn T.f__law_drawn.kp T.b__law_drawn takes0 (sa_cons (sv_n 5) sa_nil) (len_cons len_nil)) sv_int) sv_non (sv_add sv_int (sv_callB' 0 F__law_drawn (hr.mono (by decide)) T.g__law_drawn T.f__law_drawn.kp T.b__law_drawn takes0 (sa_cons (sv_n 4) sa_nil) (len_cons len_nil))))))) sa_nil)) sc__law_shelf.nd) (ss_one (ss_ret (sv_tup (sa_cons (sv_n 6) (sa_cons (sv_callB' 0 F__law_lots hr T.g__law_lots T.f__law_lots.kp T.b__law_lots tk (sa_cons (sv_n 3) (sa_cons (sv_add sv_int (sv_callB' 0 F__law_drawn (hr.mono (by decide)) T.g__law_drawn T.f__law_drawn.kp T.b__law_drawn tk (sa_cons (sv_n 2) sa_nil) (len_cons len_nil))) sa_nil)) (len_cons (len_cons len_nil))) sa_nil))))))))
theorem ok__law_placed (T : Tx K mg f fd g gd) : FnOk P w K mg base (L2.CX P w) 1 (a__law_placed f) (d__law_placed fd) ["_law_lots_here", "_law_book", "_law_number", "_law_end"] (SpD K mg 4 m__law_placed) :=
  ok_fnD T.f__law_placed sc__law_placed (by decide) fun cdv A outer s H E hr => by
    have tk := takes_of (X := cxOf (L2.CX P w) P w K mg base N__law_placed "_law_placed" (defScope s__law_placed) (a__law_placed f) cdv A outer s H E) (E := E) rfl rfl rfl rfl
    have hp := passes_of (X := cxOf (L2.CX P w) P w K mg base N__law_placed "_law_placed" (defScope s__law_placed) (a__law_placed f) cdv A outer s H E) rfl
    exact (ss_cons (ss_setLcT (i := 4) (own := [("_law_lot", 5)]) (j := 5) rfl sc__law_placed.nd rfl rfl (sw_true rfl rfl rfl (by decide +kernel)) (sv_n 0) (by exact blkOk_by (own := [("_law_lot", 5)]) (N := N__law_placed) (sc := defScope s__law_placed) (scope := { kind := PySem.ScopeKind.function, names := [(PySem.Str.ofString ".0", PySem.NameKind.local), (PySem.Str.ofString "_law_lot", PySem.NameKind.local), (PySem.Str.ofString "tuple", PySem.NameKind.globalImplicit), (PySem.Str.ofString "_law_book", PySem.NameKind.free)], isGenerator := false, isCoroutine := false, more := [] }) (by decide +kernel)) (by decide) (fun _ _ _ _ _ => pg_name (i := 5) sc__law_placed.nd rfl (Or.inl rfl)) (fun _ _ _ _ _ => sts_nil) (fun _ _ _ _ _ => (sv_tupleOf (by rfl) T.n_tuple (sa_cons (sv_o (so_lcT (own := [("_law_one", 6)]) (j := 6) rfl sc__law_placed.nd (sv_n 5) (by exact blkOk_by (own := [("_law_one", 6)]) (N := N__law_placed) (sc := { kind := PySem.ScopeKind.function, names := [(PySem.Str.ofString ".0", PySem.NameKind.local), (PySem.Str.ofString "_law_lot", PySem.NameKind.local), (PySem.Str.ofString "tuple", PySem.NameKind.globalImplicit), (PySem.Str.ofString "_law_book", PySem.NameKind.cell)], isGenerator := false, isCoroutine := false, more := [] }) (scope := { kind := PySem.ScopeKind.function, names := [(PySem.Str.ofString ".0", PySem.NameKind.local), (PySem.Str.ofString "_law_one", PySem.NameKind.local), (PySem.Str.ofString "_law_book", PySem.NameKind.free)], isGenerator := false, isCoroutine := false, more := [] }) (by decide +kernel)) (by decide) (fun _ _ _ _ _ => pg_name (i := 6) sc__law_placed.nd rfl (Or.inl rfl)) (fun _ _ _ _ _ => sts_one (st_cmp (cm_ne hr.units) (sv_n 6) (sv_n 1))) (fun _ _ _ _ _ => (sv_n 6)))) sa_nil)))) (ss_cons (ss_setIx 4 (sg_ifE (st_cmp (cm_eq hr.units) (sv_n 3) sv_str) (sv_add (sv_tup (sa_cons (sv_n 1) sa_nil)) (sv_ixP 4 (sv_n 2))) (sv_add (sv_ixP 4 (sv_n 2)) (sv_tup (sa_cons (sv_n 1) sa_nil)))) (sv_n 2)) (ss_one (ss_ret (sv_tupleOf (by rfl) T.n_tuple (sa_cons (sv_n 4) sa_nil))))))
theorem ok__law_is (T : Tx K mg f fd g gd) : FnOk P w K mg base (L2.CX P w) 1 (a__law_is f) (d__law_is fd) ["_law_thing", "_law_low", "_law_high"] (SpD K mg 3 m__law_is) :=
  ok_fnD T.f__law_is sc__law_is (by decide) fun cdv A outer s H E hr => by
    have tk := takes_of (X := cxOf (L2.CX P w) P w K mg base N__law_is "_law_is" (defScope s__law_is) (a__law_is f) cdv A outer s H E) (E := E) rfl rfl rfl rfl
    have hp := passes_of (X := cxOf (L2.CX P w) P w K mg base N__law_is "_law_is" (defScope s__law_is) (a__law_is f) cdv A outer s H E) rfl
    exact (ss_one (ss_ret (sv_and (sv_isa (by rfl) T.n_isinstance (by rfl) T.n_int (by decide +kernel) (by decide) (sv_n 0)) (sv_and (sv_not (sv_isa (by rfl) T.n_isinstance (by rfl) T.n_bool (by decide +kernel) (by decide) (sv_n 0))) (sv_one (sv_chain cm_le cm_le (sv_n 1) (sv_n 0) (sv_n 2)))))))
theorem ok__law_deed (T : Tx K mg f fd g gd) (F__law_drawn : FnOk P w K mg base (L2.CX P w) 1 (a__law_drawn f) (d__law_drawn fd) ["_law_state", "_law_many"] (SpB K 1 m__law_drawn)) : FnOk P w K mg base (L2.CX P w) 2 (a__law_deed f) (d__law_deed fd) ["_law_state", "_law_shelf_here"] (SpB K 1 m__law_deed) :=
  ok_fnB T.f__law_deed sc__law_deed (by decide) fun cdv A outer s H E hr => by
    have tk := takes_of (X := cxOf (L2.CX P w) P w K mg base N__law_deed "_law_deed" (defScope s__law_deed) (a__law_deed f) cdv A outer s H E) (E := E) rfl rfl rfl rfl
    have hp := passes_of (X := cxOf (L2.CX P w) P w K mg base N__law_deed "_law_deed" (defScope s__law_deed) (a__law_deed f) cdv A outer s H E) rfl
    exact (ss_cons (ss_par (i := 2) (j := 3) rfl sc__law_deed.nd rfl rfl (by decide) rfl rfl (sa_cons (sv_callB' 0 F__law_drawn hr T.g__law_drawn T.f__law_drawn.kp T.b__law_drawn tk (sa_cons (sv_len (by rfl) T.n_len (sa_cons (sv_ixP 1 sv_int) sa_nil)) sa_nil) (len_cons len_nil)) (sa_cons (sv_callB' 0 F__law_drawn hr T.g__law_drawn T.f__law_drawn.kp T.b__law_drawn tk (sa_cons (sv_len (by rfl) T.n_len (sa_cons (sv_ixP 1 sv_int) sa_nil)) sa_nil) (len_cons len_nil)) sa_nil)) (by rfl)) (ss_cons (ss_par (i := 4) (j := 5) rfl sc__law_deed.nd rfl rfl (by decide) rfl rfl (sa_cons (sv_ix (sv_o (so_lst (sa_cons sv_str (sa_cons sv_str sa_nil)))) (sv_callB' 0 F__law_drawn hr T.g__law_drawn T.f__law_drawn.kp T.b__law_drawn tk (sa_cons sv_int sa_nil) (len_cons len_nil))) (sa_cons (sv_callB' 0 F__law_drawn hr T.g__law_drawn T.f__law_drawn.kp T.b__law_drawn tk (sa_cons sv_int sa_nil) (len_cons len_nil)) sa_nil)) (by rfl)) (ss_cons (ss_if (st_cmp cm_lt (sv_n 5) sv_int) (ss_one (ss_set 2 (sv_ix (sv_o (so_lst (sa_cons (sv_len (by rfl) T.n_len (sa_cons (sv_ixP 1 sv_int) sa_nil)) (sa_cons (sv_sub sv_int sv_int) (sa_cons sv_bl (sa_cons sv_non sa_nil)))))) (sv_n 5)) sc__law_deed.nd)) ss_nil) (ss_cons (ss_if (st_chain cm_le cm_lt sv_int (sv_n 5) sv_int) (ss_one (ss_set 3 (sv_ix (sv_o (so_lst (sa_cons (sv_len (by rfl) T.n_len (sa_cons (sv_ixP 1 sv_int) sa_nil)) (sa_cons (sv_sub sv_int sv_int) (sa_cons sv_bl (sa_cons sv_str sa_nil)))))) (sv_sub (sv_n 5) sv_int)) sc__law_deed.nd)) ss_nil) (ss_cons (ss_if (st_chain cm_le cm_lt sv_int (sv_n 5) sv_int) (ss_one (ss_set 4 (sv_ix (sv_o (so_lst (sa_cons sv_str (sa_cons sv_non (sa_cons sv_int sa_nil))))) (sv_sub (sv_n 5) sv_int)) sc__law_deed.nd)) ss_nil) (ss_cons (ss_if (st_chain cm_le cm_lt sv_int (sv_n 5) sv_int) (ss_cons (ss_setO 6 (so_lst (sa_cons (sv_o (so_lst (sa_cons (sv_n 2) (sa_cons (sv_n 3) (sa_cons (sv_n 4) sa_nil))))) (sa_cons (sv_tup (sa_cons (sv_n 2) (sa_cons (sv_n 3) sa_nil))) (sa_cons (sv_tup (sa_cons (sv_n 2) (sa_cons (sv_n 3) (sa_cons (sv_n 4) (sa_cons sv_int sa_nil))))) sa_nil)))) sc__law_deed.nd) (ss_one (ss_ret (sv_ixP 6 (sv_sub (sv_n 5) sv_int))))) ss_nil) (ss_one (ss_ret (sv_tup (sa_cons (sv_n 2) (sa_cons (sv_n 3) (sa_cons (sv_n 4) sa_nil))))))))))))
theorem ok__law_why (T : Tx K mg f fd g gd) (F__law_is : FnOk P w K mg base (L2.CX P w) 1 (a__law_is f) (d__law_is fd) ["_law_thing", "_law_low", "_law_high"] (SpD K mg 3 m__law_is)) : FnOk P w K mg base (L2.CX P w) 2 (a__law_why f) (d__law_why fd) ["_law_shelf_here", "_law_deed_here"] (SpD K mg 2 m__law_why) :=
  ok_fnD T.f__law_why sc__law_why (by decide) fun cdv A outer s H E hr => by
    have tk := takes_of (X := cxOf (L2.CX P w) P w K mg base N__law_why "_law_why" (defScope s__law_why) (a__law_why f) cdv A outer s H E) (E := E) rfl rfl rfl rfl
    have hp := passes_of (X := cxOf (L2.CX P w) P w K mg base N__law_why "_law_why" (defScope s__law_why) (a__law_why f) cdv A outer s H E) rfl
    exact (ss_cons (ss_if (st_w (sw_or (st_not (st_val (sv_isa (by rfl) T.n_isinstance (by rfl) T.n_tuple (by decide +kernel) (by decide) (sv_n 1)))) (sw_or (st_cmp (cm_ne hr.units) (sv_lenP 1 (by rfl) T.n_len) sv_int) (sw_or1 (st_cmp cm_nin (sv_ixP 1 sv_int) (sv_tup (sa_cons sv_str (sa_cons sv_str sa_nil)))))))) (ss_one (ss_ret sv_str)) ss_nil) (ss_cons (ss_if (st_not (st_val (sv_call F__law_is hr T.g__law_is T.f__law_is.kp T.b__law_is tk (sa_cons (sv_ixP 1 sv_int) (sa_cons sv_int (sa_cons (sv_sub (sv_len (by rfl) T.n_len (sa_cons (sv_ixP 0 sv_int) sa_nil)) sv_int) sa_nil))) (len_cons (len_cons (len_cons len_nil)))))) (ss_one (ss_ret sv_str)) ss_nil) (ss_cons (ss_if (st_not (st_val (sv_call F__law_is hr T.g__law_is T.f__law_is.kp T.b__law_is tk (sa_cons (sv_ixP 1 sv_int) (sa_cons sv_int (sa_cons (sv_sub (sv_len (by rfl) T.n_len (sa_cons (sv_ixP 0 sv_int) sa_nil)) sv_int) sa_nil))) (len_cons (len_cons (len_cons len_nil)))))) (ss_one (ss_ret sv_str)) ss_nil) (ss_one (ss_ret (sg_ifE (st_cmp cm_is (sv_ix (sv_ixP 0 sv_int) (sv_ixP 1 sv_int)) sv_non) sv_str sv_str))))))
end
section
variable {P : Program} {w : World} {K : PySem.W.Frag} {mg : Str → Option Value} {base : Heap} {f : Nat → Addr} {fd : Nat → FuncData} {g : Nat → Addr} {gd : Nat → FuncData}
theorem kind_ok (T : Tx K mg f fd g gd) (X : Cx) (hr : Room 1 X.A) (hK : X.K = K) (hmg : X.mg = mg) (ga : Addr) (cdg : Value) (q : Str) :
    LamX.GivesTo X N__law_kind "_law_kind" (defScope s__law_kind) ga cdg (defBody s__law_kind) "_law_work" q (TTk X.K X.mg kindX) := by
  subst hK hmg
  refine kind_gives (CS := f 1) (i := 1) kindX (by decide +kernel) rfl rfl rfl T.gh_ShelfError (by decide) (fun _ => rfl) (fun s H xc dres cls dd gs hk hc hf => ?_) (fun xc dres hk => ?_)
  · rcases kindX_cases hk with ⟨y, z, e1, e2, rfl⟩ | ⟨y, z, e1, e2, rfl⟩
    · rw [e1, T.gc_BadShelf] at hc
      cases hc
      rw [e2] at hf
      cases hf
      exact ⟨T.exm_BadShelf, fun a oe pn hz hd => ⟨_, ok_kind_BadShelf T X hr rfl rfl ga cdg s H a dd oe pn hz hd, kind_BadShelf a dd z y⟩⟩
    · rw [e1, T.gc_BadWay] at hc
      cases hc
      rw [e2] at hf
      cases hf
      exact ⟨T.exm_BadWay, fun a oe pn hz hd => ⟨_, ok_kind_BadWay T X hr rfl rfl ga cdg s H a dd oe pn hz hd, kind_BadWay a dd z y⟩⟩
  · rcases kindX_cases hk with ⟨y, z, e1, e2, rfl⟩ | ⟨y, z, e1, e2, rfl⟩ <;> exact ⟨_, e2⟩
end
section
variable {P : Program} {w : World} {K : PySem.W.Frag} {mg : Str → Option Value} {base : Heap} {f : Nat → Addr} {fd : Nat → FuncData} {g : Nat → Addr} {gd : Nat → FuncData}
theorem body_law (T : Tx K mg f fd g gd) (F__law_deed : FnOk P w K mg base (L2.CX P w) 2 (a__law_deed f) (d__law_deed fd) ["_law_state", "_law_shelf_here"] (SpB K 1 m__law_deed)) (F__law_drawn : FnOk P w K mg base (L2.CX P w) 1 (a__law_drawn f) (d__law_drawn fd) ["_law_state", "_law_many"] (SpB K 1 m__law_drawn)) (F__law_placed : FnOk P w K mg base (L2.CX P w) 1 (a__law_placed f) (d__law_placed fd) ["_law_lots_here", "_law_book", "_law_number", "_law_end"] (SpD K mg 4 m__law_placed)) (F__law_shelf : FnOk P w K mg base (L2.CX P w) 4 (a__law_shelf f) (d__law_shelf fd) ["_law_state", "_law_most", "_law_lots_here"] (SpB K 2 m__law_shelf)) (F__law_start : FnOk P w K mg base (L2.CX P w) 1 (a__law_start f) (d__law_start fd) ["_law_script"] (SpO K mg 1 m__law_start)) (F__law_why : FnOk P w K mg base (L2.CX P w) 2 (a__law_why f) (d__law_why fd) ["_law_shelf_here", "_law_deed_here"] (SpD K mg 2 m__law_why)) (F_done : FnOk P w K mg base (L2.CX P w) 6 (a_done f) (d_done fd) ["shelf", "deeds"] (SpD K mg 2 m_done)) {c Pt fa : Addr} (TB : LamX.TabB base mg c Pt) (A : Around) (outer : List PySem.Env) (s : Shared) (H : Hp) (E : XK) (hr : Room 12 (A.deeper (PyProof.Rows.envOfC "law" (defScope s_law) s.heap.objs.size fa (.ref c)))) :
    SSs (cxOf (L2.CX P w) P w K mg base N_law "law" (defScope s_law) fa (.ref c) A outer s H E) (WE0 E) (defBody s_law) (G_law Pt) := by
  obtain ⟨ock, odk, kVk, dock, pmk, ank, cdk, ctk, oslk, efk, lkk, hck⟩ := T.f__law_kind.ex
  have bk := T.b__law_kind; rw [efk] at bk lkk
  have tk := takes_of (X := (cxOf (L2.CX P w) P w K mg base N_law "law" (defScope s_law) fa (.ref c) A outer s H E)) (E := E) rfl rfl rfl rfl
  have hp := passes_of (X := (cxOf (L2.CX P w) P w K mg base N_law "law" (defScope s_law) fa (.ref c) A outer s H E)) rfl
  exact (ss_cons (ss_setO 1 (so_call F__law_start (hr.mono (by decide)) T.g__law_start T.f__law_start.kp T.b__law_start tk (sa_cons (sv_n 0) sa_nil) (len_cons len_nil)) sc_law.nd) (ss_cons (ss_forR1 hp rfl (by rfl) T.n_range sv_int (sg_n 2 sc_law.nd) (ss_cons (ss_set 12 (sv_callB' 1 F__law_shelf (hr.mono (by decide)) T.g__law_shelf T.f__law_shelf.kp T.b__law_shelf tk (sa_cons sv_int (sa_cons sv_int sa_nil)) (len_cons (len_cons len_nil))) sc_law.nd) (ss_cons (ss_set 3 (sv_mul (sv_callB' 1 F__law_drawn (hr.mono (by decide)) T.g__law_drawn T.f__law_drawn.kp T.b__law_drawn tk (sa_cons sv_int sa_nil) (len_cons len_nil)) (sv_callB' 1 F__law_drawn (hr.mono (by decide)) T.g__law_drawn T.f__law_drawn.kp T.b__law_drawn tk (sa_cons sv_int sa_nil) (len_cons len_nil))) sc_law.nd) (ss_cons (ss_setO 10 (so_lcR1 (own := [("_law_k", 4)]) (j := 4) rfl sc_law.nd (by rfl) T.n_range (sv_n 3) (by exact blkOk_by (own := [("_law_k", 4)]) (N := N_law) (sc := defScope s_law) (scope := { kind := PySem.ScopeKind.function, names := [(PySem.Str.ofString ".0", PySem.NameKind.local), (PySem.Str.ofString "_law_k", PySem.NameKind.local), (PySem.Str.ofString "_law_deed", PySem.NameKind.globalImplicit), (PySem.Str.ofString "_law_shelf_here", PySem.NameKind.free), (PySem.Str.ofString "_law_state", PySem.NameKind.free)], isGenerator := false, isCoroutine := false, more := [] }) (by decide +kernel)) (by decide) (fun _ _ _ _ _ => pg_name (i := 4) sc_law.nd rfl (Or.inl rfl)) (fun _ _ _ _ _ => sts_nil) (fun _ _ _ _ _ => (sv_callB' 1 F__law_deed (hr.mono (by decide)) T.g__law_deed T.f__law_deed.kp T.b__law_deed takes0 (sa_cons (sv_n 12) sa_nil) (len_cons len_nil)))) sc_law.nd) (ss_cons (ss_par3 (i := 5) (j := 6) (l := 7) rfl sc_law.nd rfl rfl rfl (by decide) (by decide) (by decide) rfl rfl rfl (sa_cons (sv_ixP 12 sv_int) (sa_cons sv_int (sa_cons sv_non sa_nil))) (by rfl)) (ss_cons (ss_forR1 hp rfl (by rfl) T.n_range (sv_lenP 10 (by rfl) T.n_len) (sg_n 4 sc_law.nd) (ss_cons (ss_set 8 (sv_call F__law_why (hr.mono (by decide)) T.g__law_why T.f__law_why.kp T.b__law_why tk (sa_cons (sv_n 12) (sa_cons (sv_ixP 10 (sv_n 4)) sa_nil)) (len_cons (len_cons len_nil))) sc_law.nd) (ss_cons (ss_if (st_w (sw_and (st_cmp cm_is (sv_n 7) sv_non) (sw_and1 (st_cmp (cm_ne hr.units) (sv_n 8) sv_str)))) (ss_one (ss_set 7 (sv_tup (sa_cons sv_str (sa_cons (sv_n 4) (sa_cons (sv_n 8) sa_nil)))) sc_law.nd)) ss_nil) (ss_one (ss_if (st_cmp cm_is (sv_n 7) sv_non) (ss_cons (ss_set 5 (sv_call F__law_placed (hr.mono (by decide)) T.g__law_placed T.f__law_placed.kp T.b__law_placed tk (sa_cons (sv_n 5) (sa_cons (sv_ix (sv_ixP 10 (sv_n 4)) sv_int) (sa_cons (sv_ix (sv_ixP 10 (sv_n 4)) sv_int) (sa_cons (sv_ix (sv_ixP 10 (sv_n 4)) sv_int) sa_nil)))) (len_cons (len_cons (len_cons (len_cons len_nil))))) sc_law.nd) (ss_one (ss_set 6 (sv_add (sv_n 6) (sv_ix (sv_ixP 12 sv_int) (sv_ix (sv_ixP 10 (sv_n 4)) sv_int))) sc_law.nd))) ss_nil))))) (ss_cons (ss_set 7 (sg_ifE (st_cmp cm_is (sv_n 7) sv_non) (sv_tup (sa_cons (sv_n 5) (sa_cons (sv_n 6) sa_nil))) (sv_n 7)) sc_law.nd) (ss_cons (ss_setO 9 (so_list (by rfl) T.n_list (sv_n 10)) sc_law.nd) (ss_cons (ss_if (st_w (sw_or (st_not (st_val (sv_call (ok__law_same T 4) (hr.mono (by decide)) T.g__law_same T.f__law_same.kp T.b__law_same tk (sa_cons (sv_lam (T := [(Pt, qLam)]) (kind := kindX) (k := 8) 13 (by rfl) T.g__law_kind T.f__law_kind.kp lkk hck bk sc__law_kind rfl (Or.inl rfl) (kind_ok T _ (hr.mono (by decide)) rfl rfl _ _ _) TB rfl (List.mem_singleton.mpr rfl) (fun p hp _ => by rw [List.mem_singleton.mp hp]; rfl) (hr.mono (by decide)) (LamX.lamS_by (sc := defScope s_law) (by decide +kernel)) rfl (fun _ _ _ _ _ => rfl) (fun A2 o2 s2 H2 E2 f2 c2 hr2 => (sv_call F_done (hr2.mono (by decide)) T.g_done T.f_done.kp T.b_done takes_lam (sa_cons (sv_n 12) (sa_cons (sv_n 10) sa_nil)) (len_cons (len_cons len_nil))))) (sa_cons (sv_n 7) sa_nil)) (len_cons (len_cons len_nil))))) (sw_or1 (st_neL 10 hr.units (sv_n 9))))) (ss_one (ss_ret sv_bl)) ss_nil) (ss_cons (ss_set 11 (sv_ix (sv_o (so_lst (sa_cons (sv_tupleOf (by rfl) T.n_tuple (sa_cons (sv_n 10) sa_nil)) (sa_cons sv_non (sa_cons sv_str (sa_cons sv_int sa_nil)))))) (sv_callB' 1 F__law_drawn (hr.mono (by decide)) T.g__law_drawn T.f__law_drawn.kp T.b__law_drawn tk (sa_cons sv_int sa_nil) (len_cons len_nil))) sc_law.nd) (ss_one (ss_if (st_cmp (cm_ne hr.units) (sv_lam (T := [(Pt, qLam)]) (kind := kindX) (k := 8) 13 (by rfl) T.g__law_kind T.f__law_kind.kp lkk hck bk sc__law_kind rfl (Or.inl rfl) (kind_ok T _ (hr.mono (by decide)) rfl rfl _ _ _) TB rfl (List.mem_singleton.mpr rfl) (fun p hp _ => by rw [List.mem_singleton.mp hp]; rfl) (hr.mono (by decide)) (LamX.lamS_by (sc := defScope s_law) (by decide +kernel)) rfl (fun _ _ _ _ _ => rfl) (fun A2 o2 s2 H2 E2 f2 c2 hr2 => (sv_call F_done (hr2.mono (by decide)) T.g_done T.f_done.kp T.b_done takes_lam (sa_cons (sv_n 12) (sa_cons (sv_n 11) sa_nil)) (len_cons (len_cons len_nil))))) (sv_tup (sa_cons sv_str (sa_cons sv_int (sa_cons sv_str sa_nil))))) (ss_one (ss_ret sv_bl)) ss_nil)))))))))))) (ss_one (ss_ret sv_bl))))
end
def spLaw (K : PySem.W.Frag) (Pt : Addr) : Sp := fun vs H Q E => ∃ (a : Addr) (ns : List Int), vs = [.ref a] ∧ SqL K H a (ns.map V.int) ∧ scriptOk ns ∧ H Pt = some (.tbl #[]) ∧ ∀ H', Q (.bl true) H'
/-- what is known at the law's entry: the script -/
def f0 (H : Hp) (a : Addr) : Hp := fun b => if b = a then (match H a with
  | some (.tbl _) => none
  | o => o) else none
theorem f0_some {H : Hp} {a b : Addr} {o : HO} (h : f0 H a b = some o) : b = a ∧ H a = some o ∧ ∀ ps, o ≠ .tbl ps := by
  unfold f0 at h
  split at h
  · rename_i e
    split at h
    · cases h
    · rename_i hn
      refine ⟨e, h, fun ps z => ?_⟩
      subst z
      exact hn ps h
  · cases h
theorem f0_sql {K : PySem.W.Frag} {H : Hp} {a : Addr} {xs : List V} (h : SqL K H a xs) : SqL K (f0 H a) a xs := by
  rcases h with (h | ⟨ob, h⟩) | h
  · exact .inl (.inl (by unfold f0; rw [if_pos rfl, h]))
  · exact .inl (.inr ⟨ob, by unfold f0; rw [if_pos rfl, h]⟩)
  · exact .inr h
theorem ints_dps {K : PySem.W.Frag} {F : Hp} : ∀ ns : List Int, DpAll K F (ns.map V.int) (ns.map PyData.int)
  | [] => .nil
  | n :: r => .cons (.int n) (ints_dps r)
theorem rel_law {K : PySem.W.Frag} {H : Hp} {a Pt : Addr} {ns : List Int} (hS : SqL K H a (ns.map V.int)) (hP : H Pt = some (.tbl #[])) :
    Rel K ⟨f0 H a, fun b => if b = Pt then H Pt else f0 H a b, [Pt], [(Pt, qLam)]⟩ (f0 H a) (L2.start N_law [.ref a]) H (envL Pt ns) where
  fh := fun b o h => by obtain ⟨rfl, h2, _⟩ := f0_some h; exact h2
  cf := Ex.refl _
  new := fun b h1 h2 => absurd h1 h2
  pres := fun b o h hb => by
    have ne : b ≠ Pt := by simpa using hb
    have h : (if b = Pt then H Pt else f0 H a b) = some o := h
    rw [if_neg ne] at h
    obtain ⟨rfl, h2, _⟩ := f0_some h; exact h2
  bd := fun b hb => by
    have e : b = Pt := by simpa using hb
    subst e
    refine ⟨by rw [hP]; simp, ?_, ?_⟩
    · cases q : f0 H a b with
      | none => exact q
      | some o =>
        obtain ⟨rfl, h2, h3⟩ := f0_some q
        rw [hP] at h2
        exact absurd (Option.some.inj h2).symm (h3 _)
    · show (if b = b then H b else f0 H a b) ≠ none
      rw [if_pos rfl, hP]; simp
  sl := fun i s hs => by
    unfold envL at hs
    match i with
    | 0 =>
      have e : Sl.val (.list (ns.map PyData.int)) = s := by simpa using hs
      subst e
      exact ⟨.ref a, rfl, .lst (f0_sql hS) (ints_dps ns)⟩
    | i + 1 =>
      have hs : (List.replicate 12 Sl.no ++ [Sl.tab [(Pt, qLam)]])[i]? = some s := by simpa using hs
      by_cases hi : i < 12
      · rw [List.getElem?_append_left (by simpa using hi), List.getElem?_replicate, if_pos hi] at hs
        cases hs
        trivial
      · rw [List.getElem?_append_right (by simpa using hi)] at hs
        have : i - 12 = 0 := by
          by_cases z : i - 12 = 0
          · exact z
          · rw [List.length_replicate, List.getElem?_eq_none (by simp; omega)] at hs; cases hs
        rw [List.length_replicate, this] at hs
        cases hs
        refine ⟨⟨rfl, fun b hb => ⟨qLam, ?_⟩⟩, fun b ps z => ?_⟩
        · have e : b = Pt := by simpa using hb
          rw [e]; exact List.mem_singleton.mpr rfl
        · have z : (if b = Pt then H Pt else f0 H a b) = some (.tbl ps) := z
          by_cases e : b = Pt
          · subst e; exact List.mem_singleton.mpr rfl
          · rw [if_neg e] at z; exact absurd rfl ((f0_some z).2.2 ps)
  dis := fun i j p ⟨s, e, b, _⟩ _ => by
    unfold envL at e
    have := List.mem_of_getElem? e
    simp only [List.mem_cons, List.mem_append, List.mem_replicate, List.mem_nil_iff, or_false] at this
    rcases this with rfl | ⟨_, rfl⟩ | rfl <;> cases b
  len := rfl
  tb := fun q hq => by
    rw [List.mem_singleton.mp hq]
    exact LamX.TabS.nil hP
  nt := fun b ps h => (f0_some h).2.2 ps rfl

section
variable {P : Program} {w : World} {K : PySem.W.Frag} {mg : Str → Option Value} {base : Heap} {f : Nat → Addr} {fd : Nat → FuncData} {g : Nat → Addr} {gd : Nat → FuncData}
theorem ok_law (T : Tx K mg f fd g gd) (F__law_deed : FnOk P w K mg base (L2.CX P w) 2 (a__law_deed f) (d__law_deed fd) ["_law_state", "_law_shelf_here"] (SpB K 1 m__law_deed)) (F__law_drawn : FnOk P w K mg base (L2.CX P w) 1 (a__law_drawn f) (d__law_drawn fd) ["_law_state", "_law_many"] (SpB K 1 m__law_drawn)) (F__law_placed : FnOk P w K mg base (L2.CX P w) 1 (a__law_placed f) (d__law_placed fd) ["_law_lots_here", "_law_book", "_law_number", "_law_end"] (SpD K mg 4 m__law_placed)) (F__law_shelf : FnOk P w K mg base (L2.CX P w) 4 (a__law_shelf f) (d__law_shelf fd) ["_law_state", "_law_most", "_law_lots_here"] (SpB K 2 m__law_shelf)) (F__law_start : FnOk P w K mg base (L2.CX P w) 1 (a__law_start f) (d__law_start fd) ["_law_script"] (SpO K mg 1 m__law_start)) (F__law_why : FnOk P w K mg base (L2.CX P w) 2 (a__law_why f) (d__law_why fd) ["_law_shelf_here", "_law_deed_here"] (SpD K mg 2 m__law_why)) (F_done : FnOk P w K mg base (L2.CX P w) 6 (a_done f) (d_done fd) ["shelf", "deeds"] (SpD K mg 2 m_done)) {c Pt fa : Addr} (TB : LamX.TabB base mg c Pt) {oc kV dV doc pm ct : Value} {od an : Option Addr} {osl : Array (Option Value)} (lk : K.lookup fa = some ⟨oc, od, .func (PySem.W.fnOf "law" "law" (defArgs s_law) (defBody s_law) (defScope s_law) dV kV doc pm an (.ref c) ct), osl⟩) (hcd : PySem.W.codeIn K (.ref c) "law" = true)
    (math : ∀ ns : List Int, scriptOk ns → ∃ env, G_law Pt (envL Pt ns) = some (.rt (.bool true) env)) : FnOk P w K mg base (L2.CX P w) 13 fa (PySem.W.fnOf "law" "law" (defArgs s_law) (defBody s_law) (defScope s_law) dV kV doc pm an (.ref c) ct) ["_law_script"] (spLaw K Pt) :=
  fn_of lk hcd sc_law (fun vs H Q E ⟨a, ns, e, _⟩ => by rw [e]; rfl) fun A outer s H vs Q E hr ⟨a, ns, e, hS, hl, hP, hq⟩ => by
    subst e
    obtain ⟨env, hm⟩ := math ns hl
    exact ⟨_, body_law T F__law_deed F__law_drawn F__law_placed F__law_shelf F__law_start F__law_why F_done TB A outer s H E hr, _, _, _, rel_law hS hP, by rw [hm]; exact fun v σ F2 H2 R ex dv => by cases dv; exact hq H2⟩
end
theorem all_mk {P : Program} {w : World} {K : PySem.W.Frag} {mg : Str → Option Value} {h : Heap} (X : K.In h) (G : h.Ns mainGlobals mg) {fa : Addr} (hfa : mg "law" = some (.ref fa))
    {t_FIRST : Tok}
    {t_LAST : Tok}
    {t_MOST_BOOKS : Tok}
    {t_MOST_LOTS : Tok}
    {t_MOST_PRICE : Tok}
    {C1 : Addr}
    {C2 : Addr}
    {C3 : Addr}
    {C4 : Addr}
    {C5 : Addr}
    {C6 : Addr}
    {C7 : Addr}
    {C8 : Addr}
    {C9 : Addr}
    {C10 : Addr}
    {g2 : Addr} {nm2 q2 : Str} {N2 : Addr} {bs2 : List Value} {sn2 : List Str} {sub2 : List Value} {ab2 : Bool} {col2 : Option Bool} {dd2 : Option Addr} {m02 m12 m22 m32 m52 : Option Value} {oi2 ki2 di2 pi2 ci2 ti2 : Value} {odi2 ani2 : Option Addr} {sli2 : Array (Option Value)}
    {g5 : Addr} {nm5 q5 : Str} {N5 : Addr} {bs5 : List Value} {sn5 : List Str} {sub5 : List Value} {ab5 : Bool} {col5 : Option Bool} {dd5 : Option Addr} {m05 m15 m25 m35 m55 : Option Value} {oi5 ki5 di5 pi5 ci5 ti5 : Value} {odi5 ani5 : Option Addr} {sli5 : Array (Option Value)}
    {a15 : Addr} {o15 k15 e15 p15 c15 u15 : Value} {y15 z15 : Option Addr} {s15 : Array (Option Value)}
    {a16 : Addr} {o16 k16 e16 p16 c16 u16 : Value} {y16 z16 : Option Addr} {s16 : Array (Option Value)}
    {a17 : Addr} {o17 k17 e17 p17 c17 u17 : Value} {y17 z17 : Option Addr} {s17 : Array (Option Value)}
    {a18 : Addr} {o18 k18 e18 p18 c18 u18 : Value} {y18 z18 : Option Addr} {s18 : Array (Option Value)}
    {a19 : Addr} {o19 k19 e19 p19 c19 u19 : Value} {y19 z19 : Option Addr} {s19 : Array (Option Value)}
    {a20 : Addr} {o20 k20 e20 p20 c20 u20 : Value} {y20 z20 : Option Addr} {s20 : Array (Option Value)}
    {a21 : Addr} {o21 k21 e21 p21 c21 u21 : Value} {y21 z21 : Option Addr} {s21 : Array (Option Value)}
    {a22 : Addr} {o22 k22 e22 p22 c22 u22 : Value} {y22 z22 : Option Addr} {s22 : Array (Option Value)}
    {a26 : Addr} {o26 k26 e26 p26 c26 u26 : Value} {y26 z26 : Option Addr} {s26 : Array (Option Value)}
    {a27 : Addr} {o27 k27 e27 p27 c27 u27 : Value} {y27 z27 : Option Addr} {s27 : Array (Option Value)}
    {a28 : Addr} {o28 k28 e28 p28 c28 u28 : Value} {y28 z28 : Option Addr} {s28 : Array (Option Value)}
    {a29 : Addr} {o29 k29 e29 p29 c29 u29 : Value} {y29 z29 : Option Addr} {s29 : Array (Option Value)}
    {a30 : Addr} {o30 k30 e30 p30 c30 u30 : Value} {y30 z30 : Option Addr} {s30 : Array (Option Value)}
    {a31 : Addr} {o31 k31 e31 p31 c31 u31 : Value} {y31 z31 : Option Addr} {s31 : Array (Option Value)}
    {a32 : Addr} {o32 k32 e32 p32 c32 u32 : Value} {y32 z32 : Option Addr} {s32 : Array (Option Value)}
    {a34 : Addr} {o34 k34 e34 p34 c34 u34 : Value} {y34 z34 : Option Addr} {s34 : Array (Option Value)}
    {a35 : Addr} {o35 k35 e35 p35 c35 u35 : Value} {y35 z35 : Option Addr} {s35 : Array (Option Value)}
    {a36 : Addr} {o36 k36 e36 p36 c36 u36 : Value} {y36 z36 : Option Addr} {s36 : Array (Option Value)}
    {a38 : Addr} {o38 k38 e38 p38 c38 u38 : Value} {y38 z38 : Option Addr} {s38 : Array (Option Value)}
    {a39 : Addr} {o39 k39 e39 p39 c39 u39 : Value} {y39 z39 : Option Addr} {s39 : Array (Option Value)}
    {a40 : Addr} {o40 k40 e40 p40 c40 u40 : Value} {y40 z40 : Option Addr} {s40 : Array (Option Value)}
    {a41 : Addr} {o41 k41 e41 p41 c41 u41 : Value} {y41 z41 : Option Addr} {s41 : Array (Option Value)}
    {a43 : Addr} {o43 k43 e43 p43 c43 u43 : Value} {y43 z43 : Option Addr} {s43 : Array (Option Value)}
    {a44 : Addr} {o44 k44 e44 p44 c44 u44 : Value} {y44 z44 : Option Addr} {s44 : Array (Option Value)}
    {a45 : Addr} {o45 k45 e45 p45 c45 u45 : Value} {y45 z45 : Option Addr} {s45 : Array (Option Value)}
    {a37 : Addr} {o37 k37 e37 p37 c37 u37 : Value} {y37 z37 : Option Addr} {s37 : Array (Option Value)}
    {c Pt aL : Addr} {oL kL eL pL uL : Value} {yL zL : Option Addr} {sL : Array (Option Value)}
    (nb_ValueError : PySem.W.nsIn K mainGlobals "ValueError" = some none)
    (nb_bool : PySem.W.nsIn K mainGlobals "bool" = some none)
    (nb_enumerate : PySem.W.nsIn K mainGlobals "enumerate" = some none)
    (nb_int : PySem.W.nsIn K mainGlobals "int" = some none)
    (nb_isinstance : PySem.W.nsIn K mainGlobals "isinstance" = some none)
    (nb_len : PySem.W.nsIn K mainGlobals "len" = some none)
    (nb_list : PySem.W.nsIn K mainGlobals "list" = some none)
    (nb_range : PySem.W.nsIn K mainGlobals "range" = some none)
    (nb_set : PySem.W.nsIn K mainGlobals "set" = some none)
    (nb_tuple : PySem.W.nsIn K mainGlobals "tuple" = some none)
    (gl_FIRST : PySem.W.nsIn K mainGlobals "FIRST" = some (some (.str "first" t_FIRST)))
    (gl_LAST : PySem.W.nsIn K mainGlobals "LAST" = some (some (.str "last" t_LAST)))
    (gl_MOST_BOOKS : PySem.W.nsIn K mainGlobals "MOST_BOOKS" = some (some (.int 12 t_MOST_BOOKS)))
    (gl_MOST_LOTS : PySem.W.nsIn K mainGlobals "MOST_LOTS" = some (some (.int 5 t_MOST_LOTS)))
    (gl_MOST_PRICE : PySem.W.nsIn K mainGlobals "MOST_PRICE" = some (some (.int 99 t_MOST_PRICE)))
    (cl_1 : PySem.W.nsIn K mainGlobals "ShelfError" = some (some (.ref C1)))
    (cl_2 : PySem.W.nsIn K mainGlobals "BadShelf" = some (some (.ref C2)))
    (cl_3 : PySem.W.nsIn K mainGlobals "BadGoal" = some (some (.ref C3)))
    (cl_4 : PySem.W.nsIn K mainGlobals "BadWish" = some (some (.ref C4)))
    (cl_5 : PySem.W.nsIn K mainGlobals "BadWay" = some (some (.ref C5)))
    (cl_6 : PySem.W.nsIn K mainGlobals "NoWay" = some (some (.ref C6)))
    (cl_7 : PySem.W.nsIn K mainGlobals "BadName" = some (some (.ref C7)))
    (cl_8 : PySem.W.nsIn K mainGlobals "NoPoint" = some (some (.ref C8)))
    (cl_9 : PySem.W.nsIn K mainGlobals "Halted" = some (some (.ref C9)))
    (cl_10 : PySem.W.nsIn K mainGlobals "BadText" = some (some (.ref C10)))
    (bg_1 : PySem.W.specialIn K (.ref C1) "__getattribute__" = some (some (.builtin "type.__getattribute__")))
    (br_1 : PySem.W.readsIn K C1 (.type "type") = true)
    (bf_1 : PySem.W.findCls K (.ref C1) (.type "type") "__init__" = some (.val (.builtin "ValueError.__init__")))
    (xl_2 : K.lookup C2 = some (excClassObj nm2 q2 C2 N2 bs2 [.ref C1, .type "ValueError", .type "Exception", .type "BaseException", .type "object"] true sn2 sub2 ab2 col2 dd2 m02 m12 m22 m32 m52 "ValueError.__new__"))
    (sa_2 : PySem.W.findIn K (.ref C2) "__setattr__" = some (some (.builtin "object.__setattr__")))
    (ex_2 : PySem.W.subIn K (.ref C2) (.type "BaseException") = some true)
    (ty_2 : PySem.W.typeIn K (.ref C2) = some (.type "type"))
    (kc_2 : PySem.W.keepIn K (.ref C2) = true)
    (ic_2 : PySem.W.findIn K (.ref C2) "__init__" = some (some (.ref g2)))
    (ti_2 : PySem.W.typeIn K (.ref g2) = some (.type "function"))
    (li_2 : K.lookup g2 = some ⟨oi2, odi2, .func (PySem.W.fnOf "__init__" "BadShelf.__init__" (defArgs i_BadShelf) (defBody i_BadShelf) (defScope i_BadShelf) .none ki2 di2 pi2 ani2 ci2 ti2), sli2⟩)
    (cc_2 : PySem.W.codeIn K ci2 "BadShelf.__init__" = true)
    (kk_2 : PySem.W.keepIn K (.ref g2) = true)
    (nf_2_part : PySem.W.findIn K (.ref C2) "part" = some none)
    (nf_2_number : PySem.W.findIn K (.ref C2) "number" = some none)
    (xl_5 : K.lookup C5 = some (excClassObj nm5 q5 C5 N5 bs5 [.ref C1, .type "ValueError", .type "Exception", .type "BaseException", .type "object"] true sn5 sub5 ab5 col5 dd5 m05 m15 m25 m35 m55 "ValueError.__new__"))
    (sa_5 : PySem.W.findIn K (.ref C5) "__setattr__" = some (some (.builtin "object.__setattr__")))
    (ex_5 : PySem.W.subIn K (.ref C5) (.type "BaseException") = some true)
    (ty_5 : PySem.W.typeIn K (.ref C5) = some (.type "type"))
    (kc_5 : PySem.W.keepIn K (.ref C5) = true)
    (ic_5 : PySem.W.findIn K (.ref C5) "__init__" = some (some (.ref g5)))
    (ti_5 : PySem.W.typeIn K (.ref g5) = some (.type "function"))
    (li_5 : K.lookup g5 = some ⟨oi5, odi5, .func (PySem.W.fnOf "__init__" "BadWay.__init__" (defArgs i_BadWay) (defBody i_BadWay) (defScope i_BadWay) .none ki5 di5 pi5 ani5 ci5 ti5), sli5⟩)
    (cc_5 : PySem.W.codeIn K ci5 "BadWay.__init__" = true)
    (kk_5 : PySem.W.keepIn K (.ref g5) = true)
    (nf_5_number : PySem.W.findIn K (.ref C5) "number" = some none)
    (nf_5_why : PySem.W.findIn K (.ref C5) "why" = some none)
    (ga_2 : PySem.W.findIn K (.ref C2) "__getattribute__" = some (some (.builtin "BaseException.__getattribute__")))
    (gg_2 : PySem.W.findIn K (.ref C2) "__getattr__" = some none)
    (hd_2 : PySem.W.hasDictIn K C2 = true)
    (ha_2 : PySem.W.findIn K (.ref C2) "__class__" = some (some (.builtin "object.__class__")))
    (hm_2 : PySem.W.mroIn K C2 (.type "object") = some true)
    (em_2 : PySem.W.exmOne K (.ref C2) (.ref C1) = some true)
    (ga_5 : PySem.W.findIn K (.ref C5) "__getattribute__" = some (some (.builtin "BaseException.__getattribute__")))
    (gg_5 : PySem.W.findIn K (.ref C5) "__getattr__" = some none)
    (hd_5 : PySem.W.hasDictIn K C5 = true)
    (ha_5 : PySem.W.findIn K (.ref C5) "__class__" = some (some (.builtin "object.__class__")))
    (hm_5 : PySem.W.mroIn K C5 (.type "object") = some true)
    (em_5 : PySem.W.exmOne K (.ref C5) (.ref C1) = some true)
    (hn : PySem.W.specialIn K (.builtin "object.__class__") "__get__" = some (some (.builtin "getset_descriptor.__get__")))
    (ht : PySem.W.takesIn K (.builtin "object.__class__") = some true)
    (kt_BadShelf_BadGoal : PySem.W.kitOne K (.ref C2) (.ref C3) = some false)
    (kt_BadShelf_BadName : PySem.W.kitOne K (.ref C2) (.ref C7) = some false)
    (kt_BadShelf_BadShelf : PySem.W.kitOne K (.ref C2) (.ref C2) = some true)
    (kt_BadShelf_BadText : PySem.W.kitOne K (.ref C2) (.ref C10) = some false)
    (kt_BadShelf_BadWay : PySem.W.kitOne K (.ref C2) (.ref C5) = some false)
    (kt_BadShelf_BadWish : PySem.W.kitOne K (.ref C2) (.ref C4) = some false)
    (kt_BadShelf_Halted : PySem.W.kitOne K (.ref C2) (.ref C9) = some false)
    (kt_BadShelf_NoPoint : PySem.W.kitOne K (.ref C2) (.ref C8) = some false)
    (kt_BadShelf_NoWay : PySem.W.kitOne K (.ref C2) (.ref C6) = some false)
    (kt_BadWay_BadGoal : PySem.W.kitOne K (.ref C5) (.ref C3) = some false)
    (kt_BadWay_BadName : PySem.W.kitOne K (.ref C5) (.ref C7) = some false)
    (kt_BadWay_BadShelf : PySem.W.kitOne K (.ref C5) (.ref C2) = some false)
    (kt_BadWay_BadText : PySem.W.kitOne K (.ref C5) (.ref C10) = some false)
    (kt_BadWay_BadWay : PySem.W.kitOne K (.ref C5) (.ref C5) = some true)
    (kt_BadWay_BadWish : PySem.W.kitOne K (.ref C5) (.ref C4) = some false)
    (kt_BadWay_Halted : PySem.W.kitOne K (.ref C5) (.ref C9) = some false)
    (kt_BadWay_NoPoint : PySem.W.kitOne K (.ref C5) (.ref C8) = some false)
    (kt_BadWay_NoWay : PySem.W.kitOne K (.ref C5) (.ref C6) = some false)
    (kb_BadShelf_ValueError : PySem.W.kitOne K (.ref C2) (.type "ValueError") = some true)
    (kb_BadWay_ValueError : PySem.W.kitOne K (.ref C5) (.type "ValueError") = some true)
    (nf_2_done : PySem.W.findIn K (.ref C2) "done" = some none)
    (nf_2_row : PySem.W.findIn K (.ref C2) "row" = some none)
    (nf_2_why : PySem.W.findIn K (.ref C2) "why" = some none)
    (nf_5_done : PySem.W.findIn K (.ref C5) "done" = some none)
    (nf_5_part : PySem.W.findIn K (.ref C5) "part" = some none)
    (nf_5_row : PySem.W.findIn K (.ref C5) "row" = some none)
    (fa_15 : PySem.W.nsIn K mainGlobals "is_number" = some (some (.ref a15)))
    (fl_15 : K.lookup a15 = some ⟨o15, y15, .func (PySem.W.fnOf "is_number" "is_number" (defArgs s_is_number) (defBody s_is_number) (defScope s_is_number) .none k15 e15 p15 z15 c15 u15), s15⟩)
    (fc_15 : PySem.W.codeIn K c15 "is_number" = true)
    (fk_15 : PySem.W.keepIn K (.ref a15) = true)
    (fa_16 : PySem.W.nsIn K mainGlobals "is_place" = some (some (.ref a16)))
    (fl_16 : K.lookup a16 = some ⟨o16, y16, .func (PySem.W.fnOf "is_place" "is_place" (defArgs s_is_place) (defBody s_is_place) (defScope s_is_place) .none k16 e16 p16 z16 c16 u16), s16⟩)
    (fc_16 : PySem.W.codeIn K c16 "is_place" = true)
    (fk_16 : PySem.W.keepIn K (.ref a16) = true)
    (fa_17 : PySem.W.nsIn K mainGlobals "is_price" = some (some (.ref a17)))
    (fl_17 : K.lookup a17 = some ⟨o17, y17, .func (PySem.W.fnOf "is_price" "is_price" (defArgs s_is_price) (defBody s_is_price) (defScope s_is_price) .none k17 e17 p17 z17 c17 u17), s17⟩)
    (fc_17 : PySem.W.codeIn K c17 "is_price" = true)
    (fk_17 : PySem.W.keepIn K (.ref a17) = true)
    (fa_18 : PySem.W.nsIn K mainGlobals "lot_of" = some (some (.ref a18)))
    (fl_18 : K.lookup a18 = some ⟨o18, y18, .func (PySem.W.fnOf "lot_of" "lot_of" (defArgs s_lot_of) (defBody s_lot_of) (defScope s_lot_of) .none k18 e18 p18 z18 c18 u18), s18⟩)
    (fc_18 : PySem.W.codeIn K c18 "lot_of" = true)
    (fk_18 : PySem.W.keepIn K (.ref a18) = true)
    (fa_19 : PySem.W.nsIn K mainGlobals "wrong_price" = some (some (.ref a19)))
    (fl_19 : K.lookup a19 = some ⟨o19, y19, .func (PySem.W.fnOf "wrong_price" "wrong_price" (defArgs s_wrong_price) (defBody s_wrong_price) (defScope s_wrong_price) .none k19 e19 p19 z19 c19 u19), s19⟩)
    (fc_19 : PySem.W.codeIn K c19 "wrong_price" = true)
    (fk_19 : PySem.W.keepIn K (.ref a19) = true)
    (fa_20 : PySem.W.nsIn K mainGlobals "wrong_lot" = some (some (.ref a20)))
    (fl_20 : K.lookup a20 = some ⟨o20, y20, .func (PySem.W.fnOf "wrong_lot" "wrong_lot" (defArgs s_wrong_lot) (defBody s_wrong_lot) (defScope s_wrong_lot) .none k20 e20 p20 z20 c20 u20), s20⟩)
    (fc_20 : PySem.W.codeIn K c20 "wrong_lot" = true)
    (fk_20 : PySem.W.keepIn K (.ref a20) = true)
    (fa_21 : PySem.W.nsIn K mainGlobals "missing_book" = some (some (.ref a21)))
    (fl_21 : K.lookup a21 = some ⟨o21, y21, .func (PySem.W.fnOf "missing_book" "missing_book" (defArgs s_missing_book) (defBody s_missing_book) (defScope s_missing_book) .none k21 e21 p21 z21 c21 u21), s21⟩)
    (fc_21 : PySem.W.codeIn K c21 "missing_book" = true)
    (fk_21 : PySem.W.keepIn K (.ref a21) = true)
    (fa_22 : PySem.W.nsIn K mainGlobals "check_shelf" = some (some (.ref a22)))
    (fl_22 : K.lookup a22 = some ⟨o22, y22, .func (PySem.W.fnOf "check_shelf" "check_shelf" (defArgs s_check_shelf) (defBody s_check_shelf) (defScope s_check_shelf) .none k22 e22 p22 z22 c22 u22), s22⟩)
    (fc_22 : PySem.W.codeIn K c22 "check_shelf" = true)
    (fk_22 : PySem.W.keepIn K (.ref a22) = true)
    (fa_26 : PySem.W.nsIn K mainGlobals "is_deed" = some (some (.ref a26)))
    (fl_26 : K.lookup a26 = some ⟨o26, y26, .func (PySem.W.fnOf "is_deed" "is_deed" (defArgs s_is_deed) (defBody s_is_deed) (defScope s_is_deed) .none k26 e26 p26 z26 c26 u26), s26⟩)
    (fc_26 : PySem.W.codeIn K c26 "is_deed" = true)
    (fk_26 : PySem.W.keepIn K (.ref a26) = true)
    (fa_27 : PySem.W.nsIn K mainGlobals "why_not" = some (some (.ref a27)))
    (fl_27 : K.lookup a27 = some ⟨o27, y27, .func (PySem.W.fnOf "why_not" "why_not" (defArgs s_why_not) (defBody s_why_not) (defScope s_why_not) .none k27 e27 p27 z27 c27 u27), s27⟩)
    (fc_27 : PySem.W.codeIn K c27 "why_not" = true)
    (fk_27 : PySem.W.keepIn K (.ref a27) = true)
    (fa_28 : PySem.W.nsIn K mainGlobals "check_list" = some (some (.ref a28)))
    (fl_28 : K.lookup a28 = some ⟨o28, y28, .func (PySem.W.fnOf "check_list" "check_list" (defArgs s_check_list) (defBody s_check_list) (defScope s_check_list) .none k28 e28 p28 z28 c28 u28), s28⟩)
    (fc_28 : PySem.W.codeIn K c28 "check_list" = true)
    (fk_28 : PySem.W.keepIn K (.ref a28) = true)
    (fa_29 : PySem.W.nsIn K mainGlobals "check_deeds" = some (some (.ref a29)))
    (fl_29 : K.lookup a29 = some ⟨o29, y29, .func (PySem.W.fnOf "check_deeds" "check_deeds" (defArgs s_check_deeds) (defBody s_check_deeds) (defScope s_check_deeds) .none k29 e29 p29 z29 c29 u29), s29⟩)
    (fc_29 : PySem.W.codeIn K c29 "check_deeds" = true)
    (fk_29 : PySem.W.keepIn K (.ref a29) = true)
    (fa_30 : PySem.W.nsIn K mainGlobals "lots_behind" = some (some (.ref a30)))
    (fl_30 : K.lookup a30 = some ⟨o30, y30, .func (PySem.W.fnOf "lots_behind" "lots_behind" (defArgs s_lots_behind) (defBody s_lots_behind) (defScope s_lots_behind) .none k30 e30 p30 z30 c30 u30), s30⟩)
    (fc_30 : PySem.W.codeIn K c30 "lots_behind" = true)
    (fk_30 : PySem.W.keepIn K (.ref a30) = true)
    (fa_31 : PySem.W.nsIn K mainGlobals "outcome" = some (some (.ref a31)))
    (fl_31 : K.lookup a31 = some ⟨o31, y31, .func (PySem.W.fnOf "outcome" "outcome" (defArgs s_outcome) (defBody s_outcome) (defScope s_outcome) .none k31 e31 p31 z31 c31 u31), s31⟩)
    (fc_31 : PySem.W.codeIn K c31 "outcome" = true)
    (fk_31 : PySem.W.keepIn K (.ref a31) = true)
    (fa_32 : PySem.W.nsIn K mainGlobals "done" = some (some (.ref a32)))
    (fl_32 : K.lookup a32 = some ⟨o32, y32, .func (PySem.W.fnOf "done" "done" (defArgs s_done) (defBody s_done) (defScope s_done) .none k32 e32 p32 z32 c32 u32), s32⟩)
    (fc_32 : PySem.W.codeIn K c32 "done" = true)
    (fk_32 : PySem.W.keepIn K (.ref a32) = true)
    (fa_34 : PySem.W.nsIn K mainGlobals "_law_start" = some (some (.ref a34)))
    (fl_34 : K.lookup a34 = some ⟨o34, y34, .func (PySem.W.fnOf "_law_start" "_law_start" (defArgs s__law_start) (defBody s__law_start) (defScope s__law_start) .none k34 e34 p34 z34 c34 u34), s34⟩)
    (fc_34 : PySem.W.codeIn K c34 "_law_start" = true)
    (fk_34 : PySem.W.keepIn K (.ref a34) = true)
    (fa_35 : PySem.W.nsIn K mainGlobals "_law_drawn" = some (some (.ref a35)))
    (fl_35 : K.lookup a35 = some ⟨o35, y35, .func (PySem.W.fnOf "_law_drawn" "_law_drawn" (defArgs s__law_drawn) (defBody s__law_drawn) (defScope s__law_drawn) .none k35 e35 p35 z35 c35 u35), s35⟩)
    (fc_35 : PySem.W.codeIn K c35 "_law_drawn" = true)
    (fk_35 : PySem.W.keepIn K (.ref a35) = true)
    (fa_36 : PySem.W.nsIn K mainGlobals "_law_same" = some (some (.ref a36)))
    (fl_36 : K.lookup a36 = some ⟨o36, y36, .func (PySem.W.fnOf "_law_same" "_law_same" (defArgs s__law_same) (defBody s__law_same) (defScope s__law_same) .none k36 e36 p36 z36 c36 u36), s36⟩)
    (fc_36 : PySem.W.codeIn K c36 "_law_same" = true)
    (fk_36 : PySem.W.keepIn K (.ref a36) = true)
    (fa_38 : PySem.W.nsIn K mainGlobals "_law_turned" = some (some (.ref a38)))
    (fl_38 : K.lookup a38 = some ⟨o38, y38, .func (PySem.W.fnOf "_law_turned" "_law_turned" (defArgs s__law_turned) (defBody s__law_turned) (defScope s__law_turned) .none k38 e38 p38 z38 c38 u38), s38⟩)
    (fc_38 : PySem.W.codeIn K c38 "_law_turned" = true)
    (fk_38 : PySem.W.keepIn K (.ref a38) = true)
    (fa_39 : PySem.W.nsIn K mainGlobals "_law_lots" = some (some (.ref a39)))
    (fl_39 : K.lookup a39 = some ⟨o39, y39, .func (PySem.W.fnOf "_law_lots" "_law_lots" (defArgs s__law_lots) (defBody s__law_lots) (defScope s__law_lots) .none k39 e39 p39 z39 c39 u39), s39⟩)
    (fc_39 : PySem.W.codeIn K c39 "_law_lots" = true)
    (fk_39 : PySem.W.keepIn K (.ref a39) = true)
    (fa_40 : PySem.W.nsIn K mainGlobals "_law_shelf" = some (some (.ref a40)))
    (fl_40 : K.lookup a40 = some ⟨o40, y40, .func (PySem.W.fnOf "_law_shelf" "_law_shelf" (defArgs s__law_shelf) (defBody s__law_shelf) (defScope s__law_shelf) .none k40 e40 p40 z40 c40 u40), s40⟩)
    (fc_40 : PySem.W.codeIn K c40 "_law_shelf" = true)
    (fk_40 : PySem.W.keepIn K (.ref a40) = true)
    (fa_41 : PySem.W.nsIn K mainGlobals "_law_placed" = some (some (.ref a41)))
    (fl_41 : K.lookup a41 = some ⟨o41, y41, .func (PySem.W.fnOf "_law_placed" "_law_placed" (defArgs s__law_placed) (defBody s__law_placed) (defScope s__law_placed) .none k41 e41 p41 z41 c41 u41), s41⟩)
    (fc_41 : PySem.W.codeIn K c41 "_law_placed" = true)
    (fk_41 : PySem.W.keepIn K (.ref a41) = true)
    (fa_43 : PySem.W.nsIn K mainGlobals "_law_is" = some (some (.ref a43)))
    (fl_43 : K.lookup a43 = some ⟨o43, y43, .func (PySem.W.fnOf "_law_is" "_law_is" (defArgs s__law_is) (defBody s__law_is) (defScope s__law_is) .none k43 e43 p43 z43 c43 u43), s43⟩)
    (fc_43 : PySem.W.codeIn K c43 "_law_is" = true)
    (fk_43 : PySem.W.keepIn K (.ref a43) = true)
    (fa_44 : PySem.W.nsIn K mainGlobals "_law_deed" = some (some (.ref a44)))
    (fl_44 : K.lookup a44 = some ⟨o44, y44, .func (PySem.W.fnOf "_law_deed" "_law_deed" (defArgs s__law_deed) (defBody s__law_deed) (defScope s__law_deed) .none k44 e44 p44 z44 c44 u44), s44⟩)
    (fc_44 : PySem.W.codeIn K c44 "_law_deed" = true)
    (fk_44 : PySem.W.keepIn K (.ref a44) = true)
    (fa_45 : PySem.W.nsIn K mainGlobals "_law_why" = some (some (.ref a45)))
    (fl_45 : K.lookup a45 = some ⟨o45, y45, .func (PySem.W.fnOf "_law_why" "_law_why" (defArgs s__law_why) (defBody s__law_why) (defScope s__law_why) .none k45 e45 p45 z45 c45 u45), s45⟩)
    (fc_45 : PySem.W.codeIn K c45 "_law_why" = true)
    (fk_45 : PySem.W.keepIn K (.ref a45) = true)
    (fa_37 : PySem.W.nsIn K mainGlobals "_law_kind" = some (some (.ref a37)))
    (fl_37 : K.lookup a37 = some ⟨o37, y37, .func (PySem.W.fnOf "_law_kind" "_law_kind" (defArgs s__law_kind) (defBody s__law_kind) (defScope s__law_kind) .none k37 e37 p37 z37 c37 u37), s37⟩)
    (fc_37 : PySem.W.codeIn K c37 "_law_kind" = true)
    (fk_37 : PySem.W.keepIn K (.ref a37) = true)
    (la : PySem.W.nsIn K mainGlobals "law" = some (some (.ref aL)))
    (ll : K.lookup aL = some ⟨oL, yL, .func (PySem.W.fnOf "law" "law" (defArgs s_law) (defBody s_law) (defScope s_law) .none kL eL pL zL (.ref c) uL), sL⟩)
    (lc : PySem.W.codeIn K (.ref c) "law" = true)
    (lt : PySem.W.codeHdIn K c Pt = true)
    (ln : K.lookup Pt = none)
    (math : ∀ ns : List Int, scriptOk ns → ∃ env, G_law Pt (envL Pt ns) = some (.rt (.bool true) env)) :
    ∃ fd : FuncData, PySem.W.CodeHd h c Pt ∧ K.lookup Pt = none ∧ (∀ (s : Shared) (u : Value), BindsTo s fd ⟨[u], []⟩ [("_law_script", u)]) ∧ ∀ base : Heap, LamX.TabB base mg c Pt → FnOk P w K mg base (L2.CX P w) 13 fa fd ["_law_script"] (spLaw K Pt) := by
  have eL1 := hfa.symm.trans (PySem.W.mg_of X G la)
  cases eL1
  have F15 := fun_mk (st := s_is_number) fl_15 fc_15 fk_15
  have F16 := fun_mk (st := s_is_place) fl_16 fc_16 fk_16
  have F17 := fun_mk (st := s_is_price) fl_17 fc_17 fk_17
  have F18 := fun_mk (st := s_lot_of) fl_18 fc_18 fk_18
  have F19 := fun_mk (st := s_wrong_price) fl_19 fc_19 fk_19
  have F20 := fun_mk (st := s_wrong_lot) fl_20 fc_20 fk_20
  have F21 := fun_mk (st := s_missing_book) fl_21 fc_21 fk_21
  have F22 := fun_mk (st := s_check_shelf) fl_22 fc_22 fk_22
  have F26 := fun_mk (st := s_is_deed) fl_26 fc_26 fk_26
  have F27 := fun_mk (st := s_why_not) fl_27 fc_27 fk_27
  have F28 := fun_mk (st := s_check_list) fl_28 fc_28 fk_28
  have F29 := fun_mk (st := s_check_deeds) fl_29 fc_29 fk_29
  have F30 := fun_mk (st := s_lots_behind) fl_30 fc_30 fk_30
  have F31 := fun_mk (st := s_outcome) fl_31 fc_31 fk_31
  have F32 := fun_mk (st := s_done) fl_32 fc_32 fk_32
  have F34 := fun_mk (st := s__law_start) fl_34 fc_34 fk_34
  have F35 := fun_mk (st := s__law_drawn) fl_35 fc_35 fk_35
  have F36 := fun_mk (st := s__law_same) fl_36 fc_36 fk_36
  have F38 := fun_mk (st := s__law_turned) fl_38 fc_38 fk_38
  have F39 := fun_mk (st := s__law_lots) fl_39 fc_39 fk_39
  have F40 := fun_mk (st := s__law_shelf) fl_40 fc_40 fk_40
  have F41 := fun_mk (st := s__law_placed) fl_41 fc_41 fk_41
  have F43 := fun_mk (st := s__law_is) fl_43 fc_43 fk_43
  have F44 := fun_mk (st := s__law_deed) fl_44 fc_44 fk_44
  have F45 := fun_mk (st := s__law_why) fl_45 fc_45 fk_45
  have F37 := fun_mk (st := s__law_kind) fl_37 fc_37 fk_37
  have I2 := fun_mk (st := i_BadShelf) li_2 cc_2 kk_2
  have O2 : OexC K C2 := ⟨⟨_, _, _, _, _, _, _, _, _, _, _, _, _, _, _, xl_2, by rfl⟩, sa_2, ex_2, ty_2, kc_2⟩
  have I5 := fun_mk (st := i_BadWay) li_5 cc_5 kk_5
  have O5 : OexC K C5 := ⟨⟨_, _, _, _, _, _, _, _, _, _, _, _, _, _, _, xl_5, by rfl⟩, sa_5, ex_5, ty_5, kc_5⟩
  have T : Tx K mg (fun i => ([0, C1, C2, C3, C4, C5, C6, C7, C8, C9, C10, 0, 0, 0, 0, a15, a16, a17, a18, a19, a20, a21, a22, 0, 0, 0, a26, a27, a28, a29, a30, a31, a32, 0, a34, a35, a36, a37, a38, a39, a40, a41, 0, a43, a44, a45] : List Addr).getD i 0) (fun i => ([PySem.W.fnOf "law" "law" (defArgs s_law) (defBody s_law) (defScope s_law) .none kL eL pL zL (.ref c) uL, PySem.W.fnOf "law" "law" (defArgs s_law) (defBody s_law) (defScope s_law) .none kL eL pL zL (.ref c) uL, PySem.W.fnOf "law" "law" (defArgs s_law) (defBody s_law) (defScope s_law) .none kL eL pL zL (.ref c) uL, PySem.W.fnOf "law" "law" (defArgs s_law) (defBody s_law) (defScope s_law) .none kL eL pL zL (.ref c) uL, PySem.W.fnOf "law" "law" (defArgs s_law) (defBody s_law) (defScope s_law) .none kL eL pL zL (.ref c) uL, PySem.W.fnOf "law" "law" (defArgs s_law) (defBody s_law) (defScope s_law) .none kL eL pL zL (.ref c) uL, PySem.W.fnOf "law" "law" (defArgs s_law) (defBody s_law) (defScope s_law) .none kL eL pL zL (.ref c) uL, PySem.W.fnOf "law" "law" (defArgs s_law) (defBody s_law) (defScope s_law) .none kL eL pL zL (.ref c) uL, PySem.W.fnOf "law" "law" (defArgs s_law) (defBody s_law) (defScope s_law) .none kL eL pL zL (.ref c) uL, PySem.W.fnOf "law" "law" (defArgs s_law) (defBody s_law) (defScope s_law) .none kL eL pL zL (.ref c) uL, PySem.W.fnOf "law" "law" (defArgs s_law) (defBody s_law) (defScope s_law) .none kL eL pL zL (.ref c) uL, PySem.W.fnOf "law" "law" (defArgs s_law) (defBody s_law) (defScope s_law) .none kL eL pL zL (.ref c) uL, PySem.W.fnOf "law" "law" (defArgs s_law) (defBody s_law) (defScope s_law) .none kL eL pL zL (.ref c) uL, PySem.W.fnOf "law" "law" (defArgs s_law) (defBody s_law) (defScope s_law) .none kL eL pL zL (.ref c) uL, PySem.W.fnOf "law" "law" (defArgs s_law) (defBody s_law) (defScope s_law) .none kL eL pL zL (.ref c) uL, PySem.W.fnOf "is_number" "is_number" (defArgs s_is_number) (defBody s_is_number) (defScope s_is_number) .none k15 e15 p15 z15 c15 u15, PySem.W.fnOf "is_place" "is_place" (defArgs s_is_place) (defBody s_is_place) (defScope s_is_place) .none k16 e16 p16 z16 c16 u16, PySem.W.fnOf "is_price" "is_price" (defArgs s_is_price) (defBody s_is_price) (defScope s_is_price) .none k17 e17 p17 z17 c17 u17, PySem.W.fnOf "lot_of" "lot_of" (defArgs s_lot_of) (defBody s_lot_of) (defScope s_lot_of) .none k18 e18 p18 z18 c18 u18, PySem.W.fnOf "wrong_price" "wrong_price" (defArgs s_wrong_price) (defBody s_wrong_price) (defScope s_wrong_price) .none k19 e19 p19 z19 c19 u19, PySem.W.fnOf "wrong_lot" "wrong_lot" (defArgs s_wrong_lot) (defBody s_wrong_lot) (defScope s_wrong_lot) .none k20 e20 p20 z20 c20 u20, PySem.W.fnOf "missing_book" "missing_book" (defArgs s_missing_book) (defBody s_missing_book) (defScope s_missing_book) .none k21 e21 p21 z21 c21 u21, PySem.W.fnOf "check_shelf" "check_shelf" (defArgs s_check_shelf) (defBody s_check_shelf) (defScope s_check_shelf) .none k22 e22 p22 z22 c22 u22, PySem.W.fnOf "law" "law" (defArgs s_law) (defBody s_law) (defScope s_law) .none kL eL pL zL (.ref c) uL, PySem.W.fnOf "law" "law" (defArgs s_law) (defBody s_law) (defScope s_law) .none kL eL pL zL (.ref c) uL, PySem.W.fnOf "law" "law" (defArgs s_law) (defBody s_law) (defScope s_law) .none kL eL pL zL (.ref c) uL, PySem.W.fnOf "is_deed" "is_deed" (defArgs s_is_deed) (defBody s_is_deed) (defScope s_is_deed) .none k26 e26 p26 z26 c26 u26, PySem.W.fnOf "why_not" "why_not" (defArgs s_why_not) (defBody s_why_not) (defScope s_why_not) .none k27 e27 p27 z27 c27 u27, PySem.W.fnOf "check_list" "check_list" (defArgs s_check_list) (defBody s_check_list) (defScope s_check_list) .none k28 e28 p28 z28 c28 u28, PySem.W.fnOf "check_deeds" "check_deeds" (defArgs s_check_deeds) (defBody s_check_deeds) (defScope s_check_deeds) .none k29 e29 p29 z29 c29 u29, PySem.W.fnOf "lots_behind" "lots_behind" (defArgs s_lots_behind) (defBody s_lots_behind) (defScope s_lots_behind) .none k30 e30 p30 z30 c30 u30, PySem.W.fnOf "outcome" "outcome" (defArgs s_outcome) (defBody s_outcome) (defScope s_outcome) .none k31 e31 p31 z31 c31 u31, PySem.W.fnOf "done" "done" (defArgs s_done) (defBody s_done) (defScope s_done) .none k32 e32 p32 z32 c32 u32, PySem.W.fnOf "law" "law" (defArgs s_law) (defBody s_law) (defScope s_law) .none kL eL pL zL (.ref c) uL, PySem.W.fnOf "_law_start" "_law_start" (defArgs s__law_start) (defBody s__law_start) (defScope s__law_start) .none k34 e34 p34 z34 c34 u34, PySem.W.fnOf "_law_drawn" "_law_drawn" (defArgs s__law_drawn) (defBody s__law_drawn) (defScope s__law_drawn) .none k35 e35 p35 z35 c35 u35, PySem.W.fnOf "_law_same" "_law_same" (defArgs s__law_same) (defBody s__law_same) (defScope s__law_same) .none k36 e36 p36 z36 c36 u36, PySem.W.fnOf "_law_kind" "_law_kind" (defArgs s__law_kind) (defBody s__law_kind) (defScope s__law_kind) .none k37 e37 p37 z37 c37 u37, PySem.W.fnOf "_law_turned" "_law_turned" (defArgs s__law_turned) (defBody s__law_turned) (defScope s__law_turned) .none k38 e38 p38 z38 c38 u38, PySem.W.fnOf "_law_lots" "_law_lots" (defArgs s__law_lots) (defBody s__law_lots) (defScope s__law_lots) .none k39 e39 p39 z39 c39 u39, PySem.W.fnOf "_law_shelf" "_law_shelf" (defArgs s__law_shelf) (defBody s__law_shelf) (defScope s__law_shelf) .none k40 e40 p40 z40 c40 u40, PySem.W.fnOf "_law_placed" "_law_placed" (defArgs s__law_placed) (defBody s__law_placed) (defScope s__law_placed) .none k41 e41 p41 z41 c41 u41, PySem.W.fnOf "law" "law" (defArgs s_law) (defBody s_law) (defScope s_law) .none kL eL pL zL (.ref c) uL, PySem.W.fnOf "_law_is" "_law_is" (defArgs s__law_is) (defBody s__law_is) (defScope s__law_is) .none k43 e43 p43 z43 c43 u43, PySem.W.fnOf "_law_deed" "_law_deed" (defArgs s__law_deed) (defBody s__law_deed) (defScope s__law_deed) .none k44 e44 p44 z44 c44 u44, PySem.W.fnOf "_law_why" "_law_why" (defArgs s__law_why) (defBody s__law_why) (defScope s__law_why) .none k45 e45 p45 z45 c45 u45] : List FuncData).getD i (PySem.W.fnOf "law" "law" (defArgs s_law) (defBody s_law) (defScope s_law) .none kL eL pL zL (.ref c) uL)) (fun i => ([0, 0, g2, 0, 0, g5, 0, 0, 0, 0, 0, 0, 0, 0, 0, 0, 0, 0, 0, 0, 0, 0, 0, 0, 0, 0, 0, 0, 0, 0, 0, 0, 0, 0, 0, 0, 0, 0, 0, 0, 0, 0, 0, 0, 0, 0] : List Addr).getD i 0) (fun i => ([PySem.W.fnOf "law" "law" (defArgs s_law) (defBody s_law) (defScope s_law) .none kL eL pL zL (.ref c) uL, PySem.W.fnOf "law" "law" (defArgs s_law) (defBody s_law) (defScope s_law) .none kL eL pL zL (.ref c) uL, PySem.W.fnOf "__init__" "BadShelf.__init__" (defArgs i_BadShelf) (defBody i_BadShelf) (defScope i_BadShelf) .none ki2 di2 pi2 ani2 ci2 ti2, PySem.W.fnOf "law" "law" (defArgs s_law) (defBody s_law) (defScope s_law) .none kL eL pL zL (.ref c) uL, PySem.W.fnOf "law" "law" (defArgs s_law) (defBody s_law) (defScope s_law) .none kL eL pL zL (.ref c) uL, PySem.W.fnOf "__init__" "BadWay.__init__" (defArgs i_BadWay) (defBody i_BadWay) (defScope i_BadWay) .none ki5 di5 pi5 ani5 ci5 ti5, PySem.W.fnOf "law" "law" (defArgs s_law) (defBody s_law) (defScope s_law) .none kL eL pL zL (.ref c) uL, PySem.W.fnOf "law" "law" (defArgs s_law) (defBody s_law) (defScope s_law) .none kL eL pL zL (.ref c) uL, PySem.W.fnOf "law" "law" (defArgs s_law) (defBody s_law) (defScope s_law) .none kL eL pL zL (.ref c) uL, PySem.W.fnOf "law" "law" (defArgs s_law) (defBody s_law) (defScope s_law) .none kL eL pL zL (.ref c) uL, PySem.W.fnOf "law" "law" (defArgs s_law) (defBody s_law) (defScope s_law) .none kL eL pL zL (.ref c) uL, PySem.W.fnOf "law" "law" (defArgs s_law) (defBody s_law) (defScope s_law) .none kL eL pL zL (.ref c) uL, PySem.W.fnOf "law" "law" (defArgs s_law) (defBody s_law) (defScope s_law) .none kL eL pL zL (.ref c) uL, PySem.W.fnOf "law" "law" (defArgs s_law) (defBody s_law) (defScope s_law) .none kL eL pL zL (.ref c) uL, PySem.W.fnOf "law" "law" (defArgs s_law) (defBody s_law) (defScope s_law) .none kL eL pL zL (.ref c) uL, PySem.W.fnOf "law" "law" (defArgs s_law) (defBody s_law) (defScope s_law) .none kL eL pL zL (.ref c) uL, PySem.W.fnOf "law" "law" (defArgs s_law) (defBody s_law) (defScope s_law) .none kL eL pL zL (.ref c) uL, PySem.W.fnOf "law" "law" (defArgs s_law) (defBody s_law) (defScope s_law) .none kL eL pL zL (.ref c) uL, PySem.W.fnOf "law" "law" (defArgs s_law) (defBody s_law) (defScope s_law) .none kL eL pL zL (.ref c) uL, PySem.W.fnOf "law" "law" (defArgs s_law) (defBody s_law) (defScope s_law) .none kL eL pL zL (.ref c) uL, PySem.W.fnOf "law" "law" (defArgs s_law) (defBody s_law) (defScope s_law) .none kL eL pL zL (.ref c) uL, PySem.W.fnOf "law" "law" (defArgs s_law) (defBody s_law) (defScope s_law) .none kL eL pL zL (.ref c) uL, PySem.W.fnOf "law" "law" (defArgs s_law) (defBody s_law) (defScope s_law) .none kL eL pL zL (.ref c) uL, PySem.W.fnOf "law" "law" (defArgs s_law) (defBody s_law) (defScope s_law) .none kL eL pL zL (.ref c) uL, PySem.W.fnOf "law" "law" (defArgs s_law) (defBody s_law) (defScope s_law) .none kL eL pL zL (.ref c) uL, PySem.W.fnOf "law" "law" (defArgs s_law) (defBody s_law) (defScope s_law) .none kL eL pL zL (.ref c) uL, PySem.W.fnOf "law" "law" (defArgs s_law) (defBody s_law) (defScope s_law) .none kL eL pL zL (.ref c) uL, PySem.W.fnOf "law" "law" (defArgs s_law) (defBody s_law) (defScope s_law) .none kL eL pL zL (.ref c) uL, PySem.W.fnOf "law" "law" (defArgs s_law) (defBody s_law) (defScope s_law) .none kL eL pL zL (.ref c) uL, PySem.W.fnOf "law" "law" (defArgs s_law) (defBody s_law) (defScope s_law) .none kL eL pL zL (.ref c) uL, PySem.W.fnOf "law" "law" (defArgs s_law) (defBody s_law) (defScope s_law) .none kL eL pL zL (.ref c) uL, PySem.W.fnOf "law" "law" (defArgs s_law) (defBody s_law) (defScope s_law) .none kL eL pL zL (.ref c) uL, PySem.W.fnOf "law" "law" (defArgs s_law) (defBody s_law) (defScope s_law) .none kL eL pL zL (.ref c) uL, PySem.W.fnOf "law" "law" (defArgs s_law) (defBody s_law) (defScope s_law) .none kL eL pL zL (.ref c) uL, PySem.W.fnOf "law" "law" (defArgs s_law) (defBody s_law) (defScope s_law) .none kL eL pL zL (.ref c) uL, PySem.W.fnOf "law" "law" (defArgs s_law) (defBody s_law) (defScope s_law) .none kL eL pL zL (.ref c) uL, PySem.W.fnOf "law" "law" (defArgs s_law) (defBody s_law) (defScope s_law) .none kL eL pL zL (.ref c) uL, PySem.W.fnOf "law" "law" (defArgs s_law) (defBody s_law) (defScope s_law) .none kL eL pL zL (.ref c) uL, PySem.W.fnOf "law" "law" (defArgs s_law) (defBody s_law) (defScope s_law) .none kL eL pL zL (.ref c) uL, PySem.W.fnOf "law" "law" (defArgs s_law) (defBody s_law) (defScope s_law) .none kL eL pL zL (.ref c) uL, PySem.W.fnOf "law" "law" (defArgs s_law) (defBody s_law) (defScope s_law) .none kL eL pL zL (.ref c) uL, PySem.W.fnOf "law" "law" (defArgs s_law) (defBody s_law) (defScope s_law) .none kL eL pL zL (.ref c) uL, PySem.W.fnOf "law" "law" (defArgs s_law) (defBody s_law) (defScope s_law) .none kL eL pL zL (.ref c) uL, PySem.W.fnOf "law" "law" (defArgs s_law) (defBody s_law) (defScope s_law) .none kL eL pL zL (.ref c) uL, PySem.W.fnOf "law" "law" (defArgs s_law) (defBody s_law) (defScope s_law) .none kL eL pL zL (.ref c) uL, PySem.W.fnOf "law" "law" (defArgs s_law) (defBody s_law) (defScope s_law) .none kL eL pL zL (.ref c) uL] : List FuncData).getD i (PySem.W.fnOf "law" "law" (defArgs s_law) (defBody s_law) (defScope s_law) .none kL eL pL zL (.ref c) uL)) := {
    n_ValueError := PySem.W.mg_none_of X G nb_ValueError
    n_bool := PySem.W.mg_none_of X G nb_bool
    n_enumerate := PySem.W.mg_none_of X G nb_enumerate
    n_int := PySem.W.mg_none_of X G nb_int
    n_isinstance := PySem.W.mg_none_of X G nb_isinstance
    n_len := PySem.W.mg_none_of X G nb_len
    n_list := PySem.W.mg_none_of X G nb_list
    n_range := PySem.W.mg_none_of X G nb_range
    n_set := PySem.W.mg_none_of X G nb_set
    n_tuple := PySem.W.mg_none_of X G nb_tuple
    c_FIRST := ⟨_, PySem.W.mg_of X G gl_FIRST, ⟨_, rfl⟩⟩
    c_LAST := ⟨_, PySem.W.mg_of X G gl_LAST, ⟨_, rfl⟩⟩
    c_MOST_BOOKS := ⟨_, PySem.W.mg_of X G gl_MOST_BOOKS, ⟨_, rfl⟩⟩
    c_MOST_LOTS := ⟨_, PySem.W.mg_of X G gl_MOST_LOTS, ⟨_, rfl⟩⟩
    c_MOST_PRICE := ⟨_, PySem.W.mg_of X G gl_MOST_PRICE, ⟨_, rfl⟩⟩
    gc_BadGoal := PySem.W.mg_of X G cl_3
    gc_BadName := PySem.W.mg_of X G cl_7
    gc_BadShelf := PySem.W.mg_of X G cl_2
    gc_BadText := PySem.W.mg_of X G cl_10
    gc_BadWay := PySem.W.mg_of X G cl_5
    gc_BadWish := PySem.W.mg_of X G cl_4
    gc_Halted := PySem.W.mg_of X G cl_9
    gc_NoPoint := PySem.W.mg_of X G cl_8
    gc_NoWay := PySem.W.mg_of X G cl_6
    ec_BadShelf := ⟨ga_2, gg_2, ex_2, hd_2, ha_2, hn, ht, hm_2⟩
    xf_BadShelf := ⟨ga_2, gg_2, ex_2, hd_2⟩
    exm_BadShelf := em_2
    ec_BadWay := ⟨ga_5, gg_5, ex_5, hd_5, ha_5, hn, ht, hm_5⟩
    xf_BadWay := ⟨ga_5, gg_5, ex_5, hd_5⟩
    exm_BadWay := em_5
    gh_ShelfError := PySem.W.mg_of X G cl_1
    kit_BadShelf_BadGoal := kt_BadShelf_BadGoal
    kit_BadShelf_BadName := kt_BadShelf_BadName
    kit_BadShelf_BadShelf := kt_BadShelf_BadShelf
    kit_BadShelf_BadText := kt_BadShelf_BadText
    kit_BadShelf_BadWay := kt_BadShelf_BadWay
    kit_BadShelf_BadWish := kt_BadShelf_BadWish
    kit_BadShelf_Halted := kt_BadShelf_Halted
    kit_BadShelf_NoPoint := kt_BadShelf_NoPoint
    kit_BadShelf_NoWay := kt_BadShelf_NoWay
    kit_BadWay_BadGoal := kt_BadWay_BadGoal
    kit_BadWay_BadName := kt_BadWay_BadName
    kit_BadWay_BadShelf := kt_BadWay_BadShelf
    kit_BadWay_BadText := kt_BadWay_BadText
    kit_BadWay_BadWay := kt_BadWay_BadWay
    kit_BadWay_BadWish := kt_BadWay_BadWish
    kit_BadWay_Halted := kt_BadWay_Halted
    kit_BadWay_NoPoint := kt_BadWay_NoPoint
    kit_BadWay_NoWay := kt_BadWay_NoWay
    kitb_BadShelf_ValueError := kb_BadShelf_ValueError
    kitb_BadWay_ValueError := kb_BadWay_ValueError
    nf_BadShelf_done := nf_2_done
    nf_BadShelf_row := nf_2_row
    nf_BadShelf_why := nf_2_why
    nf_BadWay_done := nf_5_done
    nf_BadWay_part := nf_5_part
    nf_BadWay_row := nf_5_row
    base_ShelfError := ⟨PySem.W.mg_of X G cl_1, bg_1, br_1, bf_1⟩
    x_BadShelf := ⟨PySem.W.mg_of X G cl_2, O2, ic_2, ti_2⟩
    fi_BadShelf := I2
    bk_BadShelf := fun s u ws hl => match ws, hl with | [_, _], _ => .of_eq rfl
    nf_BadShelf_part := nf_2_part
    nf_BadShelf_number := nf_2_number
    x_BadWay := ⟨PySem.W.mg_of X G cl_5, O5, ic_5, ti_5⟩
    fi_BadWay := I5
    bk_BadWay := fun s u ws hl => match ws, hl with | [_, _], _ => .of_eq rfl
    nf_BadWay_number := nf_5_number
    nf_BadWay_why := nf_5_why
    g_is_number := PySem.W.mg_of X G fa_15
    f_is_number := F15
    b_is_number := F15.binds (ps := ["value"]) fun _ _ _ _ _ _ us hl => match us, hl with | [_], _ => rfl
    g_is_place := PySem.W.mg_of X G fa_16
    f_is_place := F16
    b_is_place := F16.binds (ps := ["value", "many"]) fun _ _ _ _ _ _ us hl => match us, hl with | [_, _], _ => rfl
    g_is_price := PySem.W.mg_of X G fa_17
    f_is_price := F17
    b_is_price := F17.binds (ps := ["value"]) fun _ _ _ _ _ _ us hl => match us, hl with | [_], _ => rfl
    g_lot_of := PySem.W.mg_of X G fa_18
    f_lot_of := F18
    b_lot_of := F18.binds (ps := ["lots", "book"]) fun _ _ _ _ _ _ us hl => match us, hl with | [_, _], _ => rfl
    g_wrong_price := PySem.W.mg_of X G fa_19
    f_wrong_price := F19
    b_wrong_price := F19.binds (ps := ["prices"]) fun _ _ _ _ _ _ us hl => match us, hl with | [_], _ => rfl
    g_wrong_lot := PySem.W.mg_of X G fa_20
    f_wrong_lot := F20
    b_wrong_lot := F20.binds (ps := ["lots", "books", "fewest", "most"]) fun _ _ _ _ _ _ us hl => match us, hl with | [_, _, _, _], _ => rfl
    g_missing_book := PySem.W.mg_of X G fa_21
    f_missing_book := F21
    b_missing_book := F21.binds (ps := ["lots", "books"]) fun _ _ _ _ _ _ us hl => match us, hl with | [_, _], _ => rfl
    g_check_shelf := PySem.W.mg_of X G fa_22
    f_check_shelf := F22
    b_check_shelf := F22.binds (ps := ["shelf"]) fun _ _ _ _ _ _ us hl => match us, hl with | [_], _ => rfl
    g_is_deed := PySem.W.mg_of X G fa_26
    f_is_deed := F26
    b_is_deed := F26.binds (ps := ["shelf", "deed"]) fun _ _ _ _ _ _ us hl => match us, hl with | [_, _], _ => rfl
    g_why_not := PySem.W.mg_of X G fa_27
    f_why_not := F27
    b_why_not := F27.binds (ps := ["shelf", "deed"]) fun _ _ _ _ _ _ us hl => match us, hl with | [_, _], _ => rfl
    g_check_list := PySem.W.mg_of X G fa_28
    f_check_list := F28
    b_check_list := F28.binds (ps := ["deeds"]) fun _ _ _ _ _ _ us hl => match us, hl with | [_], _ => rfl
    g_check_deeds := PySem.W.mg_of X G fa_29
    f_check_deeds := F29
    b_check_deeds := F29.binds (ps := ["shelf", "deeds"]) fun _ _ _ _ _ _ us hl => match us, hl with | [_, _], _ => rfl
    g_lots_behind := PySem.W.mg_of X G fa_30
    f_lots_behind := F30
    b_lots_behind := F30.binds (ps := ["lots", "deed"]) fun _ _ _ _ _ _ us hl => match us, hl with | [_, _], _ => rfl
    g_outcome := PySem.W.mg_of X G fa_31
    f_outcome := F31
    b_outcome := F31.binds (ps := ["shelf", "deeds"]) fun _ _ _ _ _ _ us hl => match us, hl with | [_, _], _ => rfl
    g_done := PySem.W.mg_of X G fa_32
    f_done := F32
    b_done := F32.binds (ps := ["shelf", "deeds"]) fun _ _ _ _ _ _ us hl => match us, hl with | [_, _], _ => rfl
    g__law_start := PySem.W.mg_of X G fa_34
    f__law_start := F34
    b__law_start := F34.binds (ps := ["_law_script"]) fun _ _ _ _ _ _ us hl => match us, hl with | [_], _ => rfl
    g__law_drawn := PySem.W.mg_of X G fa_35
    f__law_drawn := F35
    b__law_drawn := F35.binds (ps := ["_law_state", "_law_many"]) fun _ _ _ _ _ _ us hl => match us, hl with | [_, _], _ => rfl
    g__law_same := PySem.W.mg_of X G fa_36
    f__law_same := F36
    b__law_same := F36.binds (ps := ["_law_found", "_law_due"]) fun _ _ _ _ _ _ us hl => match us, hl with | [_, _], _ => rfl
    g__law_turned := PySem.W.mg_of X G fa_38
    f__law_turned := F38
    b__law_turned := F38.binds (ps := ["_law_state", "_law_many"]) fun _ _ _ _ _ _ us hl => match us, hl with | [_, _], _ => rfl
    g__law_lots := PySem.W.mg_of X G fa_39
    f__law_lots := F39
    b__law_lots := F39.binds (ps := ["_law_state", "_law_many", "_law_lots_here"]) fun _ _ _ _ _ _ us hl => match us, hl with | [_, _, _], _ => rfl
    g__law_shelf := PySem.W.mg_of X G fa_40
    f__law_shelf := F40
    b__law_shelf := F40.binds (ps := ["_law_state", "_law_most", "_law_lots_here"]) fun _ _ _ _ _ _ us hl => match us, hl with | [_, _, _], _ => rfl
    g__law_placed := PySem.W.mg_of X G fa_41
    f__law_placed := F41
    b__law_placed := F41.binds (ps := ["_law_lots_here", "_law_book", "_law_number", "_law_end"]) fun _ _ _ _ _ _ us hl => match us, hl with | [_, _, _, _], _ => rfl
    g__law_is := PySem.W.mg_of X G fa_43
    f__law_is := F43
    b__law_is := F43.binds (ps := ["_law_thing", "_law_low", "_law_high"]) fun _ _ _ _ _ _ us hl => match us, hl with | [_, _, _], _ => rfl
    g__law_deed := PySem.W.mg_of X G fa_44
    f__law_deed := F44
    b__law_deed := F44.binds (ps := ["_law_state", "_law_shelf_here"]) fun _ _ _ _ _ _ us hl => match us, hl with | [_, _], _ => rfl
    g__law_why := PySem.W.mg_of X G fa_45
    f__law_why := F45
    b__law_why := F45.binds (ps := ["_law_shelf_here", "_law_deed_here"]) fun _ _ _ _ _ _ us hl => match us, hl with | [_, _], _ => rfl
    g__law_kind := PySem.W.mg_of X G fa_37
    f__law_kind := F37
    b__law_kind := F37.binds (ps := ["_law_work"]) fun _ _ _ _ _ _ us hl => match us, hl with | [_], _ => rfl
  }
  refine ⟨PySem.W.fnOf "law" "law" (defArgs s_law) (defBody s_law) (defScope s_law) .none kL eL pL zL (.ref c) uL, PySem.W.codeHd_of_K X lt, ln, fun s u => .of_eq rfl, fun base TB => ?_⟩
  have F_init_BadShelf := ok_init_BadShelf (P := P) (w := w) (base := base) T
  have F_init_BadWay := ok_init_BadWay (P := P) (w := w) (base := base) T
  have F_is_number := ok_is_number (P := P) (w := w) (base := base) T 
  have F_is_place := ok_is_place (P := P) (w := w) (base := base) T F_is_number
  have F_is_price := ok_is_price (P := P) (w := w) (base := base) T F_is_number
  have F_lot_of := ok_lot_of (P := P) (w := w) (base := base) T 
  have F_wrong_price := ok_wrong_price (P := P) (w := w) (base := base) T F_is_price
  have F_wrong_lot := ok_wrong_lot (P := P) (w := w) (base := base) T F_is_place
  have F_missing_book := ok_missing_book (P := P) (w := w) (base := base) T F_lot_of
  have F_check_shelf := ok_check_shelf (P := P) (w := w) (base := base) T F_missing_book F_wrong_lot F_wrong_price F_init_BadShelf
  have F_is_deed := ok_is_deed (P := P) (w := w) (base := base) T F_is_place
  have F_why_not := ok_why_not (P := P) (w := w) (base := base) T F_is_deed
  have F_check_list := ok_check_list (P := P) (w := w) (base := base) T F_init_BadWay
  have F_check_deeds := ok_check_deeds (P := P) (w := w) (base := base) T F_check_list F_why_not F_init_BadWay
  have F_lots_behind := ok_lots_behind (P := P) (w := w) (base := base) T 
  have F_outcome := ok_outcome (P := P) (w := w) (base := base) T F_lots_behind
  have F_done := ok_done (P := P) (w := w) (base := base) T F_check_deeds F_check_shelf F_outcome
  have F__law_start := ok__law_start (P := P) (w := w) (base := base) T 
  have F__law_drawn := ok__law_drawn (P := P) (w := w) (base := base) T 
  have F__law_turned := ok__law_turned (P := P) (w := w) (base := base) T F__law_drawn
  have F__law_lots := ok__law_lots (P := P) (w := w) (base := base) T F__law_drawn F__law_turned
  have F__law_shelf := ok__law_shelf (P := P) (w := w) (base := base) T F__law_drawn F__law_lots
  have F__law_placed := ok__law_placed (P := P) (w := w) (base := base) T 
  have F__law_is := ok__law_is (P := P) (w := w) (base := base) T 
  have F__law_deed := ok__law_deed (P := P) (w := w) (base := base) T F__law_drawn
  have F__law_why := ok__law_why (P := P) (w := w) (base := base) T F__law_is
  exact ok_law T F__law_deed F__law_drawn F__law_placed F__law_shelf F__law_start F__law_why F_done TB ll lc math
theorem law_at {l : PySem.W.OpenLaw} {w : World} {K : PySem.W.Frag} {mg : Str → Option Value} {h : Heap} {fa Pt : Addr} (hT : h.get? Pt = some { cls := .none, data := .fields #[] }) (X : K.In h) (G : h.Ns mainGlobals mg) (hfa : mg "law" = some (.ref fa))
    {t_FIRST : Tok}
    {t_LAST : Tok}
    {t_MOST_BOOKS : Tok}
    {t_MOST_LOTS : Tok}
    {t_MOST_PRICE : Tok}
    {C1 : Addr}
    {C2 : Addr}
    {C3 : Addr}
    {C4 : Addr}
    {C5 : Addr}
    {C6 : Addr}
    {C7 : Addr}
    {C8 : Addr}
    {C9 : Addr}
    {C10 : Addr}
    {g2 : Addr} {nm2 q2 : Str} {N2 : Addr} {bs2 : List Value} {sn2 : List Str} {sub2 : List Value} {ab2 : Bool} {col2 : Option Bool} {dd2 : Option Addr} {m02 m12 m22 m32 m52 : Option Value} {oi2 ki2 di2 pi2 ci2 ti2 : Value} {odi2 ani2 : Option Addr} {sli2 : Array (Option Value)}
    {g5 : Addr} {nm5 q5 : Str} {N5 : Addr} {bs5 : List Value} {sn5 : List Str} {sub5 : List Value} {ab5 : Bool} {col5 : Option Bool} {dd5 : Option Addr} {m05 m15 m25 m35 m55 : Option Value} {oi5 ki5 di5 pi5 ci5 ti5 : Value} {odi5 ani5 : Option Addr} {sli5 : Array (Option Value)}
    {a15 : Addr} {o15 k15 e15 p15 c15 u15 : Value} {y15 z15 : Option Addr} {s15 : Array (Option Value)}
    {a16 : Addr} {o16 k16 e16 p16 c16 u16 : Value} {y16 z16 : Option Addr} {s16 : Array (Option Value)}
    {a17 : Addr} {o17 k17 e17 p17 c17 u17 : Value} {y17 z17 : Option Addr} {s17 : Array (Option Value)}
    {a18 : Addr} {o18 k18 e18 p18 c18 u18 : Value} {y18 z18 : Option Addr} {s18 : Array (Option Value)}
    {a19 : Addr} {o19 k19 e19 p19 c19 u19 : Value} {y19 z19 : Option Addr} {s19 : Array (Option Value)}
    {a20 : Addr} {o20 k20 e20 p20 c20 u20 : Value} {y20 z20 : Option Addr} {s20 : Array (Option Value)}
    {a21 : Addr} {o21 k21 e21 p21 c21 u21 : Value} {y21 z21 : Option Addr} {s21 : Array (Option Value)}
    {a22 : Addr} {o22 k22 e22 p22 c22 u22 : Value} {y22 z22 : Option Addr} {s22 : Array (Option Value)}
    {a26 : Addr} {o26 k26 e26 p26 c26 u26 : Value} {y26 z26 : Option Addr} {s26 : Array (Option Value)}
    {a27 : Addr} {o27 k27 e27 p27 c27 u27 : Value} {y27 z27 : Option Addr} {s27 : Array (Option Value)}
    {a28 : Addr} {o28 k28 e28 p28 c28 u28 : Value} {y28 z28 : Option Addr} {s28 : Array (Option Value)}
    {a29 : Addr} {o29 k29 e29 p29 c29 u29 : Value} {y29 z29 : Option Addr} {s29 : Array (Option Value)}
    {a30 : Addr} {o30 k30 e30 p30 c30 u30 : Value} {y30 z30 : Option Addr} {s30 : Array (Option Value)}
    {a31 : Addr} {o31 k31 e31 p31 c31 u31 : Value} {y31 z31 : Option Addr} {s31 : Array (Option Value)}
    {a32 : Addr} {o32 k32 e32 p32 c32 u32 : Value} {y32 z32 : Option Addr} {s32 : Array (Option Value)}
    {a34 : Addr} {o34 k34 e34 p34 c34 u34 : Value} {y34 z34 : Option Addr} {s34 : Array (Option Value)}
    {a35 : Addr} {o35 k35 e35 p35 c35 u35 : Value} {y35 z35 : Option Addr} {s35 : Array (Option Value)}
    {a36 : Addr} {o36 k36 e36 p36 c36 u36 : Value} {y36 z36 : Option Addr} {s36 : Array (Option Value)}
    {a38 : Addr} {o38 k38 e38 p38 c38 u38 : Value} {y38 z38 : Option Addr} {s38 : Array (Option Value)}
    {a39 : Addr} {o39 k39 e39 p39 c39 u39 : Value} {y39 z39 : Option Addr} {s39 : Array (Option Value)}
    {a40 : Addr} {o40 k40 e40 p40 c40 u40 : Value} {y40 z40 : Option Addr} {s40 : Array (Option Value)}
    {a41 : Addr} {o41 k41 e41 p41 c41 u41 : Value} {y41 z41 : Option Addr} {s41 : Array (Option Value)}
    {a43 : Addr} {o43 k43 e43 p43 c43 u43 : Value} {y43 z43 : Option Addr} {s43 : Array (Option Value)}
    {a44 : Addr} {o44 k44 e44 p44 c44 u44 : Value} {y44 z44 : Option Addr} {s44 : Array (Option Value)}
    {a45 : Addr} {o45 k45 e45 p45 c45 u45 : Value} {y45 z45 : Option Addr} {s45 : Array (Option Value)}
    {a37 : Addr} {o37 k37 e37 p37 c37 u37 : Value} {y37 z37 : Option Addr} {s37 : Array (Option Value)}
    {c aL : Addr} {oL kL eL pL uL : Value} {yL zL : Option Addr} {sL : Array (Option Value)}
    (nb_ValueError : PySem.W.nsIn K mainGlobals "ValueError" = some none)
    (nb_bool : PySem.W.nsIn K mainGlobals "bool" = some none)
    (nb_enumerate : PySem.W.nsIn K mainGlobals "enumerate" = some none)
    (nb_int : PySem.W.nsIn K mainGlobals "int" = some none)
    (nb_isinstance : PySem.W.nsIn K mainGlobals "isinstance" = some none)
    (nb_len : PySem.W.nsIn K mainGlobals "len" = some none)
    (nb_list : PySem.W.nsIn K mainGlobals "list" = some none)
    (nb_range : PySem.W.nsIn K mainGlobals "range" = some none)
    (nb_set : PySem.W.nsIn K mainGlobals "set" = some none)
    (nb_tuple : PySem.W.nsIn K mainGlobals "tuple" = some none)
    (gl_FIRST : PySem.W.nsIn K mainGlobals "FIRST" = some (some (.str "first" t_FIRST)))
    (gl_LAST : PySem.W.nsIn K mainGlobals "LAST" = some (some (.str "last" t_LAST)))
    (gl_MOST_BOOKS : PySem.W.nsIn K mainGlobals "MOST_BOOKS" = some (some (.int 12 t_MOST_BOOKS)))
    (gl_MOST_LOTS : PySem.W.nsIn K mainGlobals "MOST_LOTS" = some (some (.int 5 t_MOST_LOTS)))
    (gl_MOST_PRICE : PySem.W.nsIn K mainGlobals "MOST_PRICE" = some (some (.int 99 t_MOST_PRICE)))
    (cl_1 : PySem.W.nsIn K mainGlobals "ShelfError" = some (some (.ref C1)))
    (cl_2 : PySem.W.nsIn K mainGlobals "BadShelf" = some (some (.ref C2)))
    (cl_3 : PySem.W.nsIn K mainGlobals "BadGoal" = some (some (.ref C3)))
    (cl_4 : PySem.W.nsIn K mainGlobals "BadWish" = some (some (.ref C4)))
    (cl_5 : PySem.W.nsIn K mainGlobals "BadWay" = some (some (.ref C5)))
    (cl_6 : PySem.W.nsIn K mainGlobals "NoWay" = some (some (.ref C6)))
    (cl_7 : PySem.W.nsIn K mainGlobals "BadName" = some (some (.ref C7)))
    (cl_8 : PySem.W.nsIn K mainGlobals "NoPoint" = some (some (.ref C8)))
    (cl_9 : PySem.W.nsIn K mainGlobals "Halted" = some (some (.ref C9)))
    (cl_10 : PySem.W.nsIn K mainGlobals "BadText" = some (some (.ref C10)))
    (bg_1 : PySem.W.specialIn K (.ref C1) "__getattribute__" = some (some (.builtin "type.__getattribute__")))
    (br_1 : PySem.W.readsIn K C1 (.type "type") = true)
    (bf_1 : PySem.W.findCls K (.ref C1) (.type "type") "__init__" = some (.val (.builtin "ValueError.__init__")))
    (xl_2 : K.lookup C2 = some (excClassObj nm2 q2 C2 N2 bs2 [.ref C1, .type "ValueError", .type "Exception", .type "BaseException", .type "object"] true sn2 sub2 ab2 col2 dd2 m02 m12 m22 m32 m52 "ValueError.__new__"))
    (sa_2 : PySem.W.findIn K (.ref C2) "__setattr__" = some (some (.builtin "object.__setattr__")))
    (ex_2 : PySem.W.subIn K (.ref C2) (.type "BaseException") = some true)
    (ty_2 : PySem.W.typeIn K (.ref C2) = some (.type "type"))
    (kc_2 : PySem.W.keepIn K (.ref C2) = true)
    (ic_2 : PySem.W.findIn K (.ref C2) "__init__" = some (some (.ref g2)))
    (ti_2 : PySem.W.typeIn K (.ref g2) = some (.type "function"))
    (li_2 : K.lookup g2 = some ⟨oi2, odi2, .func (PySem.W.fnOf "__init__" "BadShelf.__init__" (defArgs i_BadShelf) (defBody i_BadShelf) (defScope i_BadShelf) .none ki2 di2 pi2 ani2 ci2 ti2), sli2⟩)
    (cc_2 : PySem.W.codeIn K ci2 "BadShelf.__init__" = true)
    (kk_2 : PySem.W.keepIn K (.ref g2) = true)
    (nf_2_part : PySem.W.findIn K (.ref C2) "part" = some none)
    (nf_2_number : PySem.W.findIn K (.ref C2) "number" = some none)
    (xl_5 : K.lookup C5 = some (excClassObj nm5 q5 C5 N5 bs5 [.ref C1, .type "ValueError", .type "Exception", .type "BaseException", .type "object"] true sn5 sub5 ab5 col5 dd5 m05 m15 m25 m35 m55 "ValueError.__new__"))
    (sa_5 : PySem.W.findIn K (.ref C5) "__setattr__" = some (some (.builtin "object.__setattr__")))
    (ex_5 : PySem.W.subIn K (.ref C5) (.type "BaseException") = some true)
    (ty_5 : PySem.W.typeIn K (.ref C5) = some (.type "type"))
    (kc_5 : PySem.W.keepIn K (.ref C5) = true)
    (ic_5 : PySem.W.findIn K (.ref C5) "__init__" = some (some (.ref g5)))
    (ti_5 : PySem.W.typeIn K (.ref g5) = some (.type "function"))
    (li_5 : K.lookup g5 = some ⟨oi5, odi5, .func (PySem.W.fnOf "__init__" "BadWay.__init__" (defArgs i_BadWay) (defBody i_BadWay) (defScope i_BadWay) .none ki5 di5 pi5 ani5 ci5 ti5), sli5⟩)
    (cc_5 : PySem.W.codeIn K ci5 "BadWay.__init__" = true)
    (kk_5 : PySem.W.keepIn K (.ref g5) = true)
    (nf_5_number : PySem.W.findIn K (.ref C5) "number" = some none)
    (nf_5_why : PySem.W.findIn K (.ref C5) "why" = some none)
    (ga_2 : PySem.W.findIn K (.ref C2) "__getattribute__" = some (some (.builtin "BaseException.__getattribute__")))
    (gg_2 : PySem.W.findIn K (.ref C2) "__getattr__" = some none)
    (hd_2 : PySem.W.hasDictIn K C2 = true)
    (ha_2 : PySem.W.findIn K (.ref C2) "__class__" = some (some (.builtin "object.__class__")))
    (hm_2 : PySem.W.mroIn K C2 (.type "object") = some true)
    (em_2 : PySem.W.exmOne K (.ref C2) (.ref C1) = some true)
    (ga_5 : PySem.W.findIn K (.ref C5) "__getattribute__" = some (some (.builtin "BaseException.__getattribute__")))
    (gg_5 : PySem.W.findIn K (.ref C5) "__getattr__" = some none)
    (hd_5 : PySem.W.hasDictIn K C5 = true)
    (ha_5 : PySem.W.findIn K (.ref C5) "__class__" = some (some (.builtin "object.__class__")))
    (hm_5 : PySem.W.mroIn K C5 (.type "object") = some true)
    (em_5 : PySem.W.exmOne K (.ref C5) (.ref C1) = some true)
    (hn : PySem.W.specialIn K (.builtin "object.__class__") "__get__" = some (some (.builtin "getset_descriptor.__get__")))
    (ht : PySem.W.takesIn K (.builtin "object.__class__") = some true)
    (kt_BadShelf_BadGoal : PySem.W.kitOne K (.ref C2) (.ref C3) = some false)
    (kt_BadShelf_BadName : PySem.W.kitOne K (.ref C2) (.ref C7) = some false)
    (kt_BadShelf_BadShelf : PySem.W.kitOne K (.ref C2) (.ref C2) = some true)
    (kt_BadShelf_BadText : PySem.W.kitOne K (.ref C2) (.ref C10) = some false)
    (kt_BadShelf_BadWay : PySem.W.kitOne K (.ref C2) (.ref C5) = some false)
    (kt_BadShelf_BadWish : PySem.W.kitOne K (.ref C2) (.ref C4) = some false)
    (kt_BadShelf_Halted : PySem.W.kitOne K (.ref C2) (.ref C9) = some false)
    (kt_BadShelf_NoPoint : PySem.W.kitOne K (.ref C2) (.ref C8) = some false)
    (kt_BadShelf_NoWay : PySem.W.kitOne K (.ref C2) (.ref C6) = some false)
    (kt_BadWay_BadGoal : PySem.W.kitOne K (.ref C5) (.ref C3) = some false)
    (kt_BadWay_BadName : PySem.W.kitOne K (.ref C5) (.ref C7) = some false)
    (kt_BadWay_BadShelf : PySem.W.kitOne K (.ref C5) (.ref C2) = some false)
    (kt_BadWay_BadText : PySem.W.kitOne K (.ref C5) (.ref C10) = some false)
    (kt_BadWay_BadWay : PySem.W.kitOne K (.ref C5) (.ref C5) = some true)
    (kt_BadWay_BadWish : PySem.W.kitOne K (.ref C5) (.ref C4) = some false)
    (kt_BadWay_Halted : PySem.W.kitOne K (.ref C5) (.ref C9) = some false)
    (kt_BadWay_NoPoint : PySem.W.kitOne K (.ref C5) (.ref C8) = some false)
    (kt_BadWay_NoWay : PySem.W.kitOne K (.ref C5) (.ref C6) = some false)
    (kb_BadShelf_ValueError : PySem.W.kitOne K (.ref C2) (.type "ValueError") = some true)
    (kb_BadWay_ValueError : PySem.W.kitOne K (.ref C5) (.type "ValueError") = some true)
    (nf_2_done : PySem.W.findIn K (.ref C2) "done" = some none)
    (nf_2_row : PySem.W.findIn K (.ref C2) "row" = some none)
    (nf_2_why : PySem.W.findIn K (.ref C2) "why" = some none)
    (nf_5_done : PySem.W.findIn K (.ref C5) "done" = some none)
    (nf_5_part : PySem.W.findIn K (.ref C5) "part" = some none)
    (nf_5_row : PySem.W.findIn K (.ref C5) "row" = some none)
    (fa_15 : PySem.W.nsIn K mainGlobals "is_number" = some (some (.ref a15)))
    (fl_15 : K.lookup a15 = some ⟨o15, y15, .func (PySem.W.fnOf "is_number" "is_number" (defArgs s_is_number) (defBody s_is_number) (defScope s_is_number) .none k15 e15 p15 z15 c15 u15), s15⟩)
    (fc_15 : PySem.W.codeIn K c15 "is_number" = true)
    (fk_15 : PySem.W.keepIn K (.ref a15) = true)
    (fa_16 : PySem.W.nsIn K mainGlobals "is_place" = some (some (.ref a16)))
    (fl_16 : K.lookup a16 = some ⟨o16, y16, .func (PySem.W.fnOf "is_place" "is_place" (defArgs s_is_place) (defBody s_is_place) (defScope s_is_place) .none k16 e16 p16 z16 c16 u16), s16⟩)
    (fc_16 : PySem.W.codeIn K c16 "is_place" = true)
    (fk_16 : PySem.W.keepIn K (.ref a16) = true)
    (fa_17 : PySem.W.nsIn K mainGlobals "is_price" = some (some (.ref a17)))
    (fl_17 : K.lookup a17 = some ⟨o17, y17, .func (PySem.W.fnOf "is_price" "is_price" (defArgs s_is_price) (defBody s_is_price) (defScope s_is_price) .none k17 e17 p17 z17 c17 u17), s17⟩)
    (fc_17 : PySem.W.codeIn K c17 "is_price" = true)
    (fk_17 : PySem.W.keepIn K (.ref a17) = true)
    (fa_18 : PySem.W.nsIn K mainGlobals "lot_of" = some (some (.ref a18)))
    (fl_18 : K.lookup a18 = some ⟨o18, y18, .func (PySem.W.fnOf "lot_of" "lot_of" (defArgs s_lot_of) (defBody s_lot_of) (defScope s_lot_of) .none k18 e18 p18 z18 c18 u18), s18⟩)
    (fc_18 : PySem.W.codeIn K c18 "lot_of" = true)
    (fk_18 : PySem.W.keepIn K (.ref a18) = true)
    (fa_19 : PySem.W.nsIn K mainGlobals "wrong_price" = some (some (.ref a19)))
    (fl_19 : K.lookup a19 = some ⟨o19, y19, .func (PySem.W.fnOf "wrong_price" "wrong_price" (defArgs s_wrong_price) (defBody s_wrong_price) (defScope s_wrong_price) .none k19 e19 p19 z19 c19 u19), s19⟩)
    (fc_19 : PySem.W.codeIn K c19 "wrong_price" = true)
    (fk_19 : PySem.W.keepIn K (.ref a19) = true)
    (fa_20 : PySem.W.nsIn K mainGlobals "wrong_lot" = some (some (.ref a20)))
    (fl_20 : K.lookup a20 = some ⟨o20, y20, .func (PySem.W.fnOf "wrong_lot" "wrong_lot" (defArgs s_wrong_lot) (defBody s_wrong_lot) (defScope s_wrong_lot) .none k20 e20 p20 z20 c20 u20), s20⟩)
    (fc_20 : PySem.W.codeIn K c20 "wrong_lot" = true)
    (fk_20 : PySem.W.keepIn K (.ref a20) = true)
    (fa_21 : PySem.W.nsIn K mainGlobals "missing_book" = some (some (.ref a21)))
    (fl_21 : K.lookup a21 = some ⟨o21, y21, .func (PySem.W.fnOf "missing_book" "missing_book" (defArgs s_missing_book) (defBody s_missing_book) (defScope s_missing_book) .none k21 e21 p21 z21 c21 u21), s21⟩)
    (fc_21 : PySem.W.codeIn K c21 "missing_book" = true)
    (fk_21 : PySem.W.keepIn K (.ref a21) = true)
    (fa_22 : PySem.W.nsIn K mainGlobals "check_shelf" = some (some (.ref a22)))
    (fl_22 : K.lookup a22 = some ⟨o22, y22, .func (PySem.W.fnOf "check_shelf" "check_shelf" (defArgs s_check_shelf) (defBody s_check_shelf) (defScope s_check_shelf) .none k22 e22 p22 z22 c22 u22), s22⟩)
    (fc_22 : PySem.W.codeIn K c22 "check_shelf" = true)
    (fk_22 : PySem.W.keepIn K (.ref a22) = true)
    (fa_26 : PySem.W.nsIn K mainGlobals "is_deed" = some (some (.ref a26)))
    (fl_26 : K.lookup a26 = some ⟨o26, y26, .func (PySem.W.fnOf "is_deed" "is_deed" (defArgs s_is_deed) (defBody s_is_deed) (defScope s_is_deed) .none k26 e26 p26 z26 c26 u26), s26⟩)
    (fc_26 : PySem.W.codeIn K c26 "is_deed" = true)
    (fk_26 : PySem.W.keepIn K (.ref a26) = true)
    (fa_27 : PySem.W.nsIn K mainGlobals "why_not" = some (some (.ref a27)))
    (fl_27 : K.lookup a27 = some ⟨o27, y27, .func (PySem.W.fnOf "why_not" "why_not" (defArgs s_why_not) (defBody s_why_not) (defScope s_why_not) .none k27 e27 p27 z27 c27 u27), s27⟩)
    (fc_27 : PySem.W.codeIn K c27 "why_not" = true)
    (fk_27 : PySem.W.keepIn K (.ref a27) = true)
    (fa_28 : PySem.W.nsIn K mainGlobals "check_list" = some (some (.ref a28)))
    (fl_28 : K.lookup a28 = some ⟨o28, y28, .func (PySem.W.fnOf "check_list" "check_list" (defArgs s_check_list) (defBody s_check_list) (defScope s_check_list) .none k28 e28 p28 z28 c28 u28), s28⟩)
    (fc_28 : PySem.W.codeIn K c28 "check_list" = true)
    (fk_28 : PySem.W.keepIn K (.ref a28) = true)
    (fa_29 : PySem.W.nsIn K mainGlobals "check_deeds" = some (some (.ref a29)))
    (fl_29 : K.lookup a29 = some ⟨o29, y29, .func (PySem.W.fnOf "check_deeds" "check_deeds" (defArgs s_check_deeds) (defBody s_check_deeds) (defScope s_check_deeds) .none k29 e29 p29 z29 c29 u29), s29⟩)
    (fc_29 : PySem.W.codeIn K c29 "check_deeds" = true)
    (fk_29 : PySem.W.keepIn K (.ref a29) = true)
    (fa_30 : PySem.W.nsIn K mainGlobals "lots_behind" = some (some (.ref a30)))
    (fl_30 : K.lookup a30 = some ⟨o30, y30, .func (PySem.W.fnOf "lots_behind" "lots_behind" (defArgs s_lots_behind) (defBody s_lots_behind) (defScope s_lots_behind) .none k30 e30 p30 z30 c30 u30), s30⟩)
    (fc_30 : PySem.W.codeIn K c30 "lots_behind" = true)
    (fk_30 : PySem.W.keepIn K (.ref a30) = true)
    (fa_31 : PySem.W.nsIn K mainGlobals "outcome" = some (some (.ref a31)))
    (fl_31 : K.lookup a31 = some ⟨o31, y31, .func (PySem.W.fnOf "outcome" "outcome" (defArgs s_outcome) (defBody s_outcome) (defScope s_outcome) .none k31 e31 p31 z31 c31 u31), s31⟩)
    (fc_31 : PySem.W.codeIn K c31 "outcome" = true)
    (fk_31 : PySem.W.keepIn K (.ref a31) = true)
    (fa_32 : PySem.W.nsIn K mainGlobals "done" = some (some (.ref a32)))
    (fl_32 : K.lookup a32 = some ⟨o32, y32, .func (PySem.W.fnOf "done" "done" (defArgs s_done) (defBody s_done) (defScope s_done) .none k32 e32 p32 z32 c32 u32), s32⟩)
    (fc_32 : PySem.W.codeIn K c32 "done" = true)
    (fk_32 : PySem.W.keepIn K (.ref a32) = true)
    (fa_34 : PySem.W.nsIn K mainGlobals "_law_start" = some (some (.ref a34)))
    (fl_34 : K.lookup a34 = some ⟨o34, y34, .func (PySem.W.fnOf "_law_start" "_law_start" (defArgs s__law_start) (defBody s__law_start) (defScope s__law_start) .none k34 e34 p34 z34 c34 u34), s34⟩)
    (fc_34 : PySem.W.codeIn K c34 "_law_start" = true)
    (fk_34 : PySem.W.keepIn K (.ref a34) = true)
    (fa_35 : PySem.W.nsIn K mainGlobals "_law_drawn" = some (some (.ref a35)))
    (fl_35 : K.lookup a35 = some ⟨o35, y35, .func (PySem.W.fnOf "_law_drawn" "_law_drawn" (defArgs s__law_drawn) (defBody s__law_drawn) (defScope s__law_drawn) .none k35 e35 p35 z35 c35 u35), s35⟩)
    (fc_35 : PySem.W.codeIn K c35 "_law_drawn" = true)
    (fk_35 : PySem.W.keepIn K (.ref a35) = true)
    (fa_36 : PySem.W.nsIn K mainGlobals "_law_same" = some (some (.ref a36)))
    (fl_36 : K.lookup a36 = some ⟨o36, y36, .func (PySem.W.fnOf "_law_same" "_law_same" (defArgs s__law_same) (defBody s__law_same) (defScope s__law_same) .none k36 e36 p36 z36 c36 u36), s36⟩)
    (fc_36 : PySem.W.codeIn K c36 "_law_same" = true)
    (fk_36 : PySem.W.keepIn K (.ref a36) = true)
    (fa_38 : PySem.W.nsIn K mainGlobals "_law_turned" = some (some (.ref a38)))
    (fl_38 : K.lookup a38 = some ⟨o38, y38, .func (PySem.W.fnOf "_law_turned" "_law_turned" (defArgs s__law_turned) (defBody s__law_turned) (defScope s__law_turned) .none k38 e38 p38 z38 c38 u38), s38⟩)
    (fc_38 : PySem.W.codeIn K c38 "_law_turned" = true)
    (fk_38 : PySem.W.keepIn K (.ref a38) = true)
    (fa_39 : PySem.W.nsIn K mainGlobals "_law_lots" = some (some (.ref a39)))
    (fl_39 : K.lookup a39 = some ⟨o39, y39, .func (PySem.W.fnOf "_law_lots" "_law_lots" (defArgs s__law_lots) (defBody s__law_lots) (defScope s__law_lots) .none k39 e39 p39 z39 c39 u39), s39⟩)
    (fc_39 : PySem.W.codeIn K c39 "_law_lots" = true)
    (fk_39 : PySem.W.keepIn K (.ref a39) = true)
    (fa_40 : PySem.W.nsIn K mainGlobals "_law_shelf" = some (some (.ref a40)))
    (fl_40 : K.lookup a40 = some ⟨o40, y40, .func (PySem.W.fnOf "_law_shelf" "_law_shelf" (defArgs s__law_shelf) (defBody s__law_shelf) (defScope s__law_shelf) .none k40 e40 p40 z40 c40 u40), s40⟩)
    (fc_40 : PySem.W.codeIn K c40 "_law_shelf" = true)
    (fk_40 : PySem.W.keepIn K (.ref a40) = true)
    (fa_41 : PySem.W.nsIn K mainGlobals "_law_placed" = some (some (.ref a41)))
    (fl_41 : K.lookup a41 = some ⟨o41, y41, .func (PySem.W.fnOf "_law_placed" "_law_placed" (defArgs s__law_placed) (defBody s__law_placed) (defScope s__law_placed) .none k41 e41 p41 z41 c41 u41), s41⟩)
    (fc_41 : PySem.W.codeIn K c41 "_law_placed" = true)
    (fk_41 : PySem.W.keepIn K (.ref a41) = true)
    (fa_43 : PySem.W.nsIn K mainGlobals "_law_is" = some (some (.ref a43)))
    (fl_43 : K.lookup a43 = some ⟨o43, y43, .func (PySem.W.fnOf "_law_is" "_law_is" (defArgs s__law_is) (defBody s__law_is) (defScope s__law_is) .none k43 e43 p43 z43 c43 u43), s43⟩)
    (fc_43 : PySem.W.codeIn K c43 "_law_is" = true)
    (fk_43 : PySem.W.keepIn K (.ref a43) = true)
    (fa_44 : PySem.W.nsIn K mainGlobals "_law_deed" = some (some (.ref a44)))
    (fl_44 : K.lookup a44 = some ⟨o44, y44, .func (PySem.W.fnOf "_law_deed" "_law_deed" (defArgs s__law_deed) (defBody s__law_deed) (defScope s__law_deed) .none k44 e44 p44 z44 c44 u44), s44⟩)
    (fc_44 : PySem.W.codeIn K c44 "_law_deed" = true)
    (fk_44 : PySem.W.keepIn K (.ref a44) = true)
    (fa_45 : PySem.W.nsIn K mainGlobals "_law_why" = some (some (.ref a45)))
    (fl_45 : K.lookup a45 = some ⟨o45, y45, .func (PySem.W.fnOf "_law_why" "_law_why" (defArgs s__law_why) (defBody s__law_why) (defScope s__law_why) .none k45 e45 p45 z45 c45 u45), s45⟩)
    (fc_45 : PySem.W.codeIn K c45 "_law_why" = true)
    (fk_45 : PySem.W.keepIn K (.ref a45) = true)
    (fa_37 : PySem.W.nsIn K mainGlobals "_law_kind" = some (some (.ref a37)))
    (fl_37 : K.lookup a37 = some ⟨o37, y37, .func (PySem.W.fnOf "_law_kind" "_law_kind" (defArgs s__law_kind) (defBody s__law_kind) (defScope s__law_kind) .none k37 e37 p37 z37 c37 u37), s37⟩)
    (fc_37 : PySem.W.codeIn K c37 "_law_kind" = true)
    (fk_37 : PySem.W.keepIn K (.ref a37) = true)
    (la : PySem.W.nsIn K mainGlobals "law" = some (some (.ref aL)))
    (ll : K.lookup aL = some ⟨oL, yL, .func (PySem.W.fnOf "law" "law" (defArgs s_law) (defBody s_law) (defScope s_law) .none kL eL pL zL (.ref c) uL), sL⟩)
    (lc : PySem.W.codeIn K (.ref c) "law" = true)
    (lt : PySem.W.codeHdIn K c Pt = true)
    (ln : K.lookup Pt = none)
    (math : ∀ ns : List Int, scriptOk ns → ∃ env, G_law Pt (envL Pt ns) = some (.rt (.bool true) env)) : LamX.LawAtS l w K (L2.CX l.prog w) 13 63 "_law_script" mg fa h := by
  obtain ⟨fd, h1, h2, h3, h4⟩ := all_mk (P := l.prog) (w := w) X G hfa nb_ValueError nb_bool nb_enumerate nb_int nb_isinstance nb_len nb_list nb_range nb_set nb_tuple gl_FIRST gl_LAST gl_MOST_BOOKS gl_MOST_LOTS gl_MOST_PRICE cl_1 cl_2 cl_3 cl_4 cl_5 cl_6 cl_7 cl_8 cl_9 cl_10 bg_1 br_1 bf_1 xl_2 sa_2 ex_2 ty_2 kc_2 ic_2 ti_2 li_2 cc_2 kk_2 nf_2_part nf_2_number xl_5 sa_5 ex_5 ty_5 kc_5 ic_5 ti_5 li_5 cc_5 kk_5 nf_5_number nf_5_why ga_2 gg_2 hd_2 ha_2 hm_2 em_2 ga_5 gg_5 hd_5 ha_5 hm_5 em_5 hn ht kt_BadShelf_BadGoal kt_BadShelf_BadName kt_BadShelf_BadShelf kt_BadShelf_BadText kt_BadShelf_BadWay kt_BadShelf_BadWish kt_BadShelf_Halted kt_BadShelf_NoPoint kt_BadShelf_NoWay kt_BadWay_BadGoal kt_BadWay_BadName kt_BadWay_BadShelf kt_BadWay_BadText kt_BadWay_BadWay kt_BadWay_BadWish kt_BadWay_Halted kt_BadWay_NoPoint kt_BadWay_NoWay kb_BadShelf_ValueError kb_BadWay_ValueError nf_2_done nf_2_row nf_2_why nf_5_done nf_5_part nf_5_row fa_15 fl_15 fc_15 fk_15 fa_16 fl_16 fc_16 fk_16 fa_17 fl_17 fc_17 fk_17 fa_18 fl_18 fc_18 fk_18 fa_19 fl_19 fc_19 fk_19 fa_20 fl_20 fc_20 fk_20 fa_21 fl_21 fc_21 fk_21 fa_22 fl_22 fc_22 fk_22 fa_26 fl_26 fc_26 fk_26 fa_27 fl_27 fc_27 fk_27 fa_28 fl_28 fc_28 fk_28 fa_29 fl_29 fc_29 fk_29 fa_30 fl_30 fc_30 fk_30 fa_31 fl_31 fc_31 fk_31 fa_32 fl_32 fc_32 fk_32 fa_34 fl_34 fc_34 fk_34 fa_35 fl_35 fc_35 fk_35 fa_36 fl_36 fc_36 fk_36 fa_38 fl_38 fc_38 fk_38 fa_39 fl_39 fc_39 fk_39 fa_40 fl_40 fc_40 fk_40 fa_41 fl_41 fc_41 fk_41 fa_43 fl_43 fc_43 fk_43 fa_44 fl_44 fc_44 fk_44 fa_45 fl_45 fc_45 fk_45 fa_37 fl_37 fc_37 fk_37 la ll lc lt ln math
  exact ⟨fd, [(c, Pt)], spLaw K Pt, fun p hp => by rw [List.mem_singleton.mp hp]; exact hT, fun p hp => by rw [List.mem_singleton.mp hp]; exact h2, fun p hp => by rw [List.mem_singleton.mp hp]; exact h1, h3, fun H a ns hl hb hT hS => ⟨a, ns, rfl, hS, ⟨hl, hb⟩, hT _ (List.mem_singleton.mpr rfl), fun _ => rfl⟩, fun base _ _ hB => h4 base (hB _ (List.mem_singleton.mpr rfl))⟩
end Q
/-! part M1 -/
set_option Elab.async false
set_option linter.all false
set_option maxRecDepth 100000
set_option maxHeartbeats 2000000
namespace Q
open PySem PySem.Spec L2
open Pf
/-! ### drawing -/
structure Stt where
  ns : List Int
  k : Nat
  m : Int
  r : Int
def enc (s : Stt) : List PyData := [.list (s.ns.map PyData.int), .int s.k, .int s.m, .int s.r]
theorem drawn_rest (s : Stt) (n : Nat) (hn : 0 < n) (hb : n < 1073741824) (hr : 0 < s.r) : m__law_drawn (enc s) [.int n] = some (.ok (.int (s.r.fmod n), enc { s with r := s.r.fdiv n })) := by
  have h1 : (cmpD fun i j => decide (j < i)) (.int s.r) (.int 0) = some true := by simp [cmpD, hr]
  have h2 : modD (.int s.r) (.int n) = some (.int (s.r.fmod n)) := by
    have : ¬ ((n : Int) = 0) := by omega
    simp [modD]; omega
  have h3 : divD (.int s.r) (.int n) = some (.int (s.r.fdiv n)) := by
    have : ¬ ((n : Int) = 0) := by omega
    simp [divD]; omega
  simp only [m__law_drawn, fnB, G__law_drawn, envB, enc]
  simp [gSeq, gE, gIfS, gTst, M.bd, M.opt, gIxP, gPeek, gC, M.ok, M.no, atI, ixN, gN, gSet, gSt, gBin, gRet, gRt, gSetIx, gHeld, gPut, putS, gNx, gBlt, Pf.gCons, Pf.gNil, gIf, h1, h2, h3]
theorem drawn_cell (s : Stt) (n : Nat) (c : Int) (hn : 0 < n) (hb : n < 1073741824) (hr : s.r ≤ 0) (hc : s.ns[s.k]? = some c) : m__law_drawn (enc s) [.int n] = some (.ok (.int (c.fmod n), enc { s with k := s.k + 1, r := if 1000000000000000000 ≤ c then c.fdiv n else 0 })) := by
  have h1 : (cmpD fun i j => decide (j < i)) (.int s.r) (.int 0) = some false := by simp [cmpD]; omega
  have hl : s.k < s.ns.length := (List.getElem?_eq_some_iff.mp hc).1
  have h2 : modD (.int c) (.int n) = some (.int (c.fmod n)) := by simp [modD]; omega
  have h3 : divD (.int c) (.int n) = some (.int (c.fdiv n)) := by simp [divD]; omega
  have h4 : addD (.int s.k) (.int 1) = some (.int ((s.k : Int) + 1)) := rfl
  have h5 : lenK [.list (s.ns.map PyData.int)] = some (.int s.ns.length) := by simp [lenK, lenD]
  have h6 : (cmpD fun i j => decide (i ≤ j)) (.int ((s.k : Int) + 1)) (.int s.ns.length) = some true := by simp [cmpD]; omega
  have h7 : subD (.int ((s.k : Int) + 1)) (.int 1) = some (.int s.k) := by simp [subD]
  have h8 : atD (.list (s.ns.map PyData.int)) (.int s.k) = some (.int c) := by
    show L2.atI _ _ = _
    exact atI_nat (by rw [List.getElem?_map, hc]; rfl)
  have h9 : powD (.int 10) (.int 18) = some (.int 1000000000000000000) := by simp [powD]
  by_cases hbig : 1000000000000000000 ≤ c
  · have h10 : (cmpD fun i j => decide (j ≤ i)) (.int c) (.int 1000000000000000000) = some true := by simp [cmpD, hbig]
    simp only [m__law_drawn, fnB, G__law_drawn, envB, enc]
    simp [gSeq, gE, gIfS, gTst, M.bd, M.opt, gIxP, gPeek, gC, M.ok, M.no, atI, ixN, gN, gSet, gSt, gBin, gRet, gRt, gSetIx, gHeld, gPut, putS, gNx, gBlt, Pf.gCons, Pf.gNil, gIf, h1, h2, h3, h4, h5, h6, h7, h8, h9, h10, hbig]
  · have h10 : (cmpD fun i j => decide (j ≤ i)) (.int c) (.int 1000000000000000000) = some false := by simp [cmpD, hbig]
    simp only [m__law_drawn, fnB, G__law_drawn, envB, enc]
    simp [gSeq, gE, gIfS, gTst, M.bd, M.opt, gIxP, gPeek, gC, M.ok, M.no, atI, ixN, gN, gSet, gSt, gBin, gRet, gRt, gSetIx, gHeld, gPut, putS, gNx, gBlt, Pf.gCons, Pf.gNil, gIf, h1, h2, h3, h4, h5, h6, h7, h8, h9, h10, hbig]
theorem drawn_mix (s : Stt) (n : Nat) (hn : 0 < n) (hb : n < 1073741824) (hr : s.r ≤ 0) (hc : s.ns.length ≤ s.k) : m__law_drawn (enc s) [.int n] = some (.ok (.int (((s.m * 48271 + 11).fmod 2147483647).fdiv 7 |>.fmod n), enc { s with k := s.k + 1, m := (s.m * 48271 + 11).fmod 2147483647 })) := by
  have h1 : (cmpD fun i j => decide (j < i)) (.int s.r) (.int 0) = some false := by simp [cmpD]; omega
  have h2 : ∀ c : Int, modD (.int c) (.int n) = some (.int (c.fmod n)) := fun c => by simp [modD]; omega
  have h3 : ∀ c : Int, divD (.int c) (.int 7) = some (.int (c.fdiv 7)) := fun c => by simp [divD]
  have h4 : addD (.int s.k) (.int 1) = some (.int ((s.k : Int) + 1)) := rfl
  have h5 : lenK [.list (s.ns.map PyData.int)] = some (.int s.ns.length) := by simp [lenK, lenD]
  have h6 : (cmpD fun i j => decide (i ≤ j)) (.int ((s.k : Int) + 1)) (.int s.ns.length) = some false := by simp [cmpD]; omega
  have h7 : mulD (.int s.m) (.int 48271) = some (.int (s.m * 48271)) := by simp [mulD]
  have h8 : ∀ c : Int, addD (.int c) (.int 11) = some (.int (c + 11)) := fun c => rfl
  have h9 : ∀ c : Int, modD (.int c) (.int 2147483647) = some (.int (c.fmod 2147483647)) := fun c => by simp [modD]
  simp only [m__law_drawn, fnB, G__law_drawn, envB, enc]
  simp [gSeq, gE, gIfS, gTst, M.bd, M.opt, gIxP, gPeek, gC, M.ok, M.no, atI, ixN, gN, gSet, gSt, gBin, gRet, gRt, gSetIx, gHeld, gPut, putS, gNx, gBlt, Pf.gCons, Pf.gNil, gIf, h1, h2, h3, h4, h5, h6, h7, h8, h9]
theorem fmod_nat (c : Int) (n : Nat) (hn : 0 < n) : ∃ d : Nat, d < n ∧ c.fmod n = d := by
  have h1 : 0 ≤ c.fmod n := Int.fmod_nonneg_of_pos _ (by omega)
  have h2 : c.fmod n < n := Int.fmod_lt_of_pos _ (by omega)
  exact ⟨(c.fmod n).toNat, by omega, by omega⟩
theorem drawn_ok (s : Stt) (n : Nat) (hn : 0 < n) (hb : n < 1073741824) : ∃ (d : Nat) (s' : Stt), d < n ∧ m__law_drawn (enc s) [.int n] = some (.ok (.int d, enc s')) := by
  by_cases hr : 0 < s.r
  · obtain ⟨d, h1, h2⟩ := fmod_nat s.r n hn
    exact ⟨d, _, h1, by rw [drawn_rest s n hn hb hr, h2]⟩
  · by_cases hk : s.k < s.ns.length
    · obtain ⟨d, h1, h2⟩ := fmod_nat s.ns[s.k] n hn
      exact ⟨d, _, h1, by rw [drawn_cell s n s.ns[s.k] hn hb (by omega) (List.getElem?_eq_getElem hk), h2]⟩
    · obtain ⟨d, h1, h2⟩ := fmod_nat (((s.m * 48271 + 11).fmod 2147483647).fdiv 7) n hn
      exact ⟨d, _, h1, by rw [drawn_mix s n hn hb (by omega) (by omega), h2]⟩
def startB : S := gSet 1 (gBin modD (gBin addD (gBin addD (gBin mulD (gN 1) (gC (.int 48271))) (gN 2)) (gC (.int 7))) (gC (.int 2147483647)))
theorem start_loop : ∀ (ms : List Int) (m : Int) (x : Sl) (d0 : PyData), ∃ m' y, loopL (bN 2) startB (ms.map PyData.int) [.val d0, .val (.int m), x] = some (.nx [.val d0, .val (.int m'), y])
  | [], m, x, d0 => ⟨m, x, rfl⟩
  | c :: ms, m, x, d0 => by
    have h7 : mulD (.int m) (.int 48271) = some (.int (m * 48271)) := by simp [mulD]
    have h8 : ∀ c d : Int, addD (.int c) (.int d) = some (.int (c + d)) := fun c d => rfl
    have h9 : ∀ c : Int, modD (.int c) (.int 2147483647) = some (.int (c.fmod 2147483647)) := fun c => by simp [modD]
    obtain ⟨m', y, e⟩ := start_loop ms ((m * 48271 + c + 7).fmod 2147483647) (.val (.int c)) d0
    refine ⟨m', y, ?_⟩
    simp only [List.map_cons, loopL]
    have e1 : startB [.val d0, .val (.int m), .val (.int c)] = some (.nx [.val d0, .val (.int ((m * 48271 + c + 7).fmod 2147483647)), .val (.int c)]) := by
      unfold startB
      simp [gSeq, gE, gIfS, gTst, M.bd, M.opt, gIxP, gPeek, gC, M.ok, M.no, atI, ixN, gN, gSet, gSt, gBin, gRet, gRt, gSetIx, gHeld, gPut, putS, gNx, gBlt, Pf.gCons, Pf.gNil, gIf, h7, h8, h9]
    simp [bN, e1, e]
theorem start_ok (ns : List Int) : ∃ m, m__law_start [.list (ns.map PyData.int)] = some (.ok (enc ⟨ns, 0, m, 0⟩)) := by
  obtain ⟨m', y, e⟩ := start_loop ns 1 .no (.list (ns.map PyData.int))
  refine ⟨m', ?_⟩
  have eG : G__law_start = gSeq (gSet 1 (gC (.int 1))) (gSeq (gForL (gN 0) (bN 2) startB) (gRetO (Pf.gLst (Pf.gCons (gN 0) (Pf.gCons (gC (.int 0)) (Pf.gCons (gN 1) (Pf.gCons (gC (.int 0)) Pf.gNil))))))) := rfl
  simp only [m__law_start, fnO, envD]
  rw [eG]
  simp [gSeq, gE, gIfS, gTst, M.bd, M.opt, gIxP, gPeek, gC, M.ok, M.no, atI, ixN, gN, gSet, gSt, gBin, gRet, gRt, gSetIx, gHeld, gPut, putS, gNx, gBlt, Pf.gCons, Pf.gNil, gIf, gForL, e, enc, Pf.gLst, lstD, gRetO, gRo]
end Q
/-! part M2 -/
set_option Elab.async false
set_option linter.all false
set_option maxRecDepth 100000
set_option maxHeartbeats 2000000
namespace Q
open PySem PySem.Spec L2
open Pf
/-! ### data that can be compared -/
def okD (k : Nat) (d : PyData) : Prop := d.canLay0 = true ∧ d.depth ≤ k
theorem okD.shaped {k : Nat} {d : PyData} (h : okD k d) (hk : k ≤ 64) : SeqAt.shaped d = true := by
  unfold SeqAt.shaped
  rw [h.1, Bool.true_and]
  exact decide_eq_true (Nat.le_trans h.2 hk)
theorem okD.mono {k j : Nat} {d : PyData} (h : okD k d) (hk : k ≤ j) : okD j d := ⟨h.1, Nat.le_trans h.2 hk⟩
theorem okD_none {k : Nat} : okD k .none := ⟨by simp [PyData.canLay0], by simp [PyData.depth]⟩
theorem okD_bool {k : Nat} (b : Bool) : okD k (.bool b) := ⟨by simp [PyData.canLay0], by simp [PyData.depth]⟩
theorem okD_int {k : Nat} (i : Int) : okD k (.int i) := ⟨by simp [PyData.canLay0], by simp [PyData.depth]⟩
theorem okD_str {k : Nat} {x : Str} (h : (PyData.str x).canLay0 = true) : okD k (.str x) := ⟨h, by simp [PyData.depth]⟩
theorem canAll : ∀ {xs : List PyData}, (∀ x ∈ xs, x.canLay0 = true) → PyData.canLayAll0 xs = true
  | [], _ => by simp [PyData.canLayAll0]
  | x :: r, h => by simp [PyData.canLayAll0, h x List.mem_cons_self, canAll fun y hy => h y (List.mem_cons_of_mem _ hy)]
theorem depAll {k : Nat} : ∀ {xs : List PyData}, (∀ x ∈ xs, x.depth ≤ k) → PyData.depthAll xs ≤ k
  | [], _ => by simp [PyData.depthAll]
  | x :: r, h => by
    have h1 := h x List.mem_cons_self
    have h2 := depAll (k := k) fun y hy => h y (List.mem_cons_of_mem _ hy)
    simp only [PyData.depthAll]
    omega
theorem okD_list {k : Nat} {xs : List PyData} (h : ∀ x ∈ xs, okD k x) : okD (k + 1) (.list xs) := ⟨by simp [PyData.canLay0, canAll fun x hx => (h x hx).1], by
  have := depAll fun x hx => (h x hx).2
  simp only [PyData.depth]
  omega⟩
theorem okD_tuple {k : Nat} {xs : List PyData} (h : ∀ x ∈ xs, okD k x) : okD (k + 1) (.tuple xs) := ⟨by simp [PyData.canLay0, canAll fun x hx => (h x hx).1], by
  have := depAll fun x hx => (h x hx).2
  simp only [PyData.depth]
  omega⟩
theorem eqD_ok {k j : Nat} {a b : PyData} (ha : okD k a) (hb : okD j b) (hk : k ≤ 64) (hj : j ≤ 64) : eqD a b = some (PyData.eqv a b) := by
  unfold eqD; rw [if_pos ⟨ha.shaped hk, hb.shaped hj⟩]
theorem neD_ok {k j : Nat} {a b : PyData} (ha : okD k a) (hb : okD j b) (hk : k ≤ 64) (hj : j ≤ 64) : neD a b = some (!PyData.eqv a b) := by
  unfold neD; rw [if_pos ⟨ha.shaped hk, hb.shaped hj⟩]
/-! ### a drawn turn -/
abbrev nats (l : List Nat) : List PyData := l.map fun (x : Nat) => PyData.int (x : Int)
theorem nats_ok {k : Nat} {l : List Nat} : ∀ x ∈ nats l, okD k x := fun x hx => by
  obtain ⟨y, _, rfl⟩ := List.mem_map.mp hx
  exact okD_int _
theorem nats_len (l : List Nat) : (nats l).length = l.length := List.length_map ..
theorem nats_at {l : List Nat} {d : Nat} (h : d < l.length) : (nats l)[d]? = some (.int (l[d] : Nat)) := by
  show (l.map _)[d]? = _
  rw [List.getElem?_map, List.getElem?_eq_getElem h]; rfl
theorem map_erase {α β : Type} (f : α → β) : ∀ (l : List α) (d : Nat), (l.map f).eraseIdx d = (l.eraseIdx d).map f
  | [], d => by simp
  | a :: l, 0 => by simp
  | a :: l, d + 1 => by simp [map_erase f l d]
theorem nats_ne {l : List Nat} : neD (.list (nats l)) (.list []) = some (!l.isEmpty) := by
  rw [neD_ok (k := 1) (j := 1) (okD_list nats_ok) (okD_list (k := 0) (by simp)) (by decide) (by decide)]
  cases l with
  | nil => simp [PyData.eqv, PyData.eqvAll, nats]
  | cons a r => simp [PyData.eqv, PyData.eqvAll, nats]
def turnT : M Bool := gTstL neD 2 (gFz (Pf.gLst Pf.gNil))
def turnP : M PyData := gCallB 0 (Pf.gCons (gLenP 2) Pf.gNil) m__law_drawn
def turnB : S := gApp 3 (gPopAt 2 turnP)
theorem turn_test (s : Stt) (n : Int) (L A : List Nat) : turnT [.bor (enc s), .val (.int n), .own (nats L), .own (nats A)] = some (.ok (!L.isEmpty, [.bor (enc s), .val (.int n), .own (nats L), .own (nats A)])) := by
  have h := nats_ne (l := L)
  unfold turnT gTstL
  have e1 : gLk 2 [.bor (enc s), .val (.int n), .own (nats L), .own (nats A)] = some (.ok (.list (nats L), [.bor (enc s), .val (.int n), .own (nats L), .own (nats A)])) := rfl
  have e2 : gFz (Pf.gLst Pf.gNil) [.bor (enc s), .val (.int n), .own (nats L), .own (nats A)] = some (.ok (.list [], [.bor (enc s), .val (.int n), .own (nats L), .own (nats A)])) := rfl
  rw [bd_ok e1, bd_ok e2, bd_ok e1]
  exact opt_ok h
theorem turn_body (s : Stt) (n : Int) (L A : List Nat) (hL : 0 < L.length) (hl : L.length < 1000) (ha : A.length < 1000) : ∃ (s' : Stt) (d : Nat) (hd : d < L.length), turnB [.bor (enc s), .val (.int n), .own (nats L), .own (nats A)] = some (.nx [.bor (enc s'), .val (.int n), .own (nats (L.eraseIdx d)), .own (nats (A ++ [L[d]]))]) := by
  obtain ⟨d, s', hd, e⟩ := drawn_ok s L.length hL (by omega)
  refine ⟨s', d, hd, ?_⟩
  have e1 : turnP [.bor (enc s), .val (.int n), .own (nats L), .own (nats A)] = some (.ok (.int d, [.bor (enc s'), .val (.int n), .own (nats L), .own (nats A)])) := by
    unfold turnP
    refine callB_bor (st := enc s) (ds := enc s) rfl (as := [.int (L.length : Nat)]) (env1 := [.bor (enc s), .val (.int n), .own (nats L), .own (nats A)]) ?_ rfl e
    show M.bd _ _ _ = _
    rw [bd_ok (lenP_own (ds := nats L) rfl), nats_len]
    rfl
  have e2 : gPopAt 2 turnP [.bor (enc s), .val (.int n), .own (nats L), .own (nats A)] = some (.ok (.int (L[d] : Nat), [.bor (enc s'), .val (.int n), .own (nats (L.eraseIdx d)), .own (nats A)])) := by
    rw [popAt_own (ds := nats L) (ds1 := nats L) rfl e1 rfl (by rw [nats_len]; exact hd) (by rw [nats_len]; omega) (nats_at hd)]
    rw [show (nats L).eraseIdx d = nats (L.eraseIdx d) from map_erase _ L d]
    rfl
  unfold turnB
  rw [app_own (ds := nats A) (ds1 := nats A) rfl e2 rfl (by rw [nats_len]; omega)]
  rw [show nats A ++ [.int (L[d] : Nat)] = nats (A ++ [L[d]]) by simp [nats]]
  rfl
theorem erase_perm {α : Type} : ∀ (l : List α) (d : Nat) (h : d < l.length), (l[d] :: l.eraseIdx d).Perm l
  | a :: l, 0, _ => List.Perm.refl _
  | a :: l, d + 1, h => by
    have ih := erase_perm l d (by simpa using h)
    simp only [List.getElem_cons_succ, List.eraseIdx_cons_succ]
    exact (List.Perm.swap a _ _).trans (ih.cons a)
theorem turn_loop : ∀ (f : Nat) (s : Stt) (n : Int) (L A : List Nat), L.length < f → L.length + A.length < 1000 → ∃ (s' : Stt) (P : List Nat), P.Perm L ∧ loopW turnT turnB f [.bor (enc s), .val (.int n), .own (nats L), .own (nats A)] = some (.nx [.bor (enc s'), .val (.int n), .own [], .own (nats (A ++ P))])
  | 0, _, _, _, _, h, _ => absurd h (Nat.not_lt_zero _)
  | f + 1, s, n, L, A, h, hl => by
    cases L with
    | nil =>
      refine ⟨s, [], List.Perm.refl _, ?_⟩
      show gE turnT _ _ = _
      rw [gE_ok (turn_test s n [] A)]
      simp [gNx, nats]
    | cons x r =>
      obtain ⟨s1, d, hd, e1⟩ := turn_body s n (x :: r) A (by simp) (by simp only [List.length_cons] at *; omega) (by simp only [List.length_cons] at *; omega)
      have hlen : ((x :: r).eraseIdx d).length = r.length := by rw [List.length_eraseIdx, if_pos hd]; simp
      obtain ⟨s', P, hP, e2⟩ := turn_loop f s1 n ((x :: r).eraseIdx d) (A ++ [(x :: r)[d]]) (by rw [hlen]; simp only [List.length_cons] at h; omega) (by rw [hlen]; simp only [List.length_cons, List.length_append, List.length_nil] at *; omega)
      refine ⟨s', (x :: r)[d] :: P, (hP.cons _).trans (erase_perm _ d hd), ?_⟩
      show gE turnT _ _ = _
      rw [gE_ok (turn_test s n (x :: r) A)]
      simp only [List.isEmpty_cons, Bool.not_false, if_true, e1]
      rw [e2, List.append_assoc]
      rfl
theorem rng_nats (n : Nat) : rngD 0 n = nats (List.range n) := by
  unfold rngD nats
  refine List.map_congr_left fun a _ => ?_
  rw [Int.zero_add]
theorem turned_ok (s : Stt) (n : Nat) (hn : n < 90) : ∃ (s' : Stt) (P : List Nat), P.Perm (List.range n) ∧ m__law_turned (enc s) [.int n] = some (.ok (nats P, enc s')) := by
  obtain ⟨s', P, hP, e⟩ := turn_loop 100 s n (List.range n) [] (by rw [List.length_range]; omega) (by rw [List.length_range]; simp; omega)
  refine ⟨s', P, hP, ?_⟩
  have eG : G__law_turned = gSeq (gParOO 2 3 (gListR (gN 1)) (Pf.gLst Pf.gNil)) (gSeq (loopW turnT turnB 100) (gRetO (gNO 3))) := rfl
  have e1 : gParOO 2 3 (gListR (gN 1)) (Pf.gLst Pf.gNil) [.bor (enc s), .val (.int n), .no, .no] = some (.nx [.bor (enc s), .val (.int n), .own (nats (List.range n)), .own (nats [])]) := by
    have z : gListR (gN 1) [.bor (enc s), .val (.int n), .no, .no] = some (.ok (nats (List.range n), [.bor (enc s), .val (.int n), .no, .no])) := by
      rw [← rng_nats]
      show M.bd _ _ _ = _
      rw [bd_ok (n_val (d := .int n) rfl)]
      refine opt_ok ?_
      show (if 0 ≤ (n : Int) ∧ (n : Int) ≤ 16777216 then some (rngD 0 (n : Int).toNat) else none) = _
      rw [if_pos (by omega)]
      simp
    unfold gParOO
    rw [gE_ok z]
    rfl
  unfold m__law_turned fnBO
  show (match G__law_turned [.bor (enc s), .val (.int n), .no, .no] with
    | some (.ro es (.bor st' :: _)) => (some (Except.ok (es, st')) : Rf (List PyData × List PyData))
    | _ => none) = _
  rw [eG, seq_nx e1, seq_nx e]
  simp [gRetO, gE, gNO, gRo]
end Q
/-! part M3 -/
set_option Elab.async false
set_option linter.all false
set_option maxRecDepth 100000
set_option maxHeartbeats 2000000
namespace Q
open PySem PySem.Spec L2
open Pf
/-! ### lots -/
abbrev lotsD (ls : List (List Nat)) : List PyData := ls.map fun l => PyData.tuple (nats l)
theorem lotsD_len (ls : List (List Nat)) : (lotsD ls).length = ls.length := List.length_map ..
theorem lotsD_at {ls : List (List Nat)} {k : Nat} (h : k < ls.length) : (lotsD ls)[k]? = some (.tuple (nats ls[k])) := by
  show (ls.map _)[k]? = _
  rw [List.getElem?_map, List.getElem?_eq_getElem h]; rfl
theorem lotsD_set (ls : List (List Nat)) (k : Nat) (l : List Nat) : (lotsD ls).set k (.tuple (nats l)) = lotsD (ls.set k l) := by
  exact (List.map_set (f := fun l => PyData.tuple (nats l))).symm
theorem flat_set : ∀ (ls : List (List Nat)) (k : Nat) (h : k < ls.length) (b : Nat), (ls.set k (ls[k] ++ [b])).flatten.Perm (b :: ls.flatten)
  | l :: r, 0, _, b => by
    simp only [List.set_cons_zero, List.getElem_cons_zero, List.flatten_cons]
    rw [List.append_assoc, List.singleton_append]
    exact List.perm_middle
  | l :: r, k + 1, h, b => by
    simp only [List.set_cons_succ, List.getElem_cons_succ, List.flatten_cons]
    exact ((flat_set r k (by simpa using h) b).append_left l).trans List.perm_middle
theorem mem_len {ls : List (List Nat)} {k : Nat} (h : k < ls.length) : ls[k].length ≤ ls.flatten.length := by
  have : ls[k].Sublist ls.flatten := List.sublist_flatten_of_mem (List.getElem_mem h)
  exact this.length_le
def lotB : S := gSeq (gSet 5 (gCallB 0 (Pf.gCons (gN 2) Pf.gNil) m__law_drawn)) (gSetIx 3 (gBin addD (gIxP 3 (gN 5)) (Pf.gTup (Pf.gCons (gN 4) Pf.gNil))) (gN 5))
theorem lot_body (s : Stt) (n : Int) (c : Nat) (ls : List (List Nat)) (b : Nat) (x : Sl) (hc : 0 < c) (hcb : c < 1000) (hlen : ls.length = c) (hl : ls.flatten.length < 1000) :
    ∃ (s' : Stt) (k : Nat) (hk : k < ls.length), lotB [.bor (enc s), .val (.int n), .val (.int c), .own (lotsD ls), .val (.int b), x] = some (.nx [.bor (enc s'), .val (.int n), .val (.int c), .own (lotsD (ls.set k (ls[k] ++ [b]))), .val (.int b), .val (.int k)]) := by
  obtain ⟨k, s', hk, e⟩ := drawn_ok s c hc (by omega)
  have hkl : k < ls.length := by omega
  refine ⟨s', k, hkl, ?_⟩
  have e1 : gSet 5 (gCallB 0 (Pf.gCons (gN 2) Pf.gNil) m__law_drawn) [.bor (enc s), .val (.int n), .val (.int c), .own (lotsD ls), .val (.int b), x] = some (.nx [.bor (enc s'), .val (.int n), .val (.int c), .own (lotsD ls), .val (.int b), .val (.int k)]) := by
    have z : gCallB 0 (Pf.gCons (gN 2) Pf.gNil) m__law_drawn [.bor (enc s), .val (.int n), .val (.int c), .own (lotsD ls), .val (.int b), x] = some (.ok (.int k, [.bor (enc s'), .val (.int n), .val (.int c), .own (lotsD ls), .val (.int b), x])) :=
      callB_bor (st := enc s) (ds := enc s) rfl (as := [.int c]) (env1 := [.bor (enc s), .val (.int n), .val (.int c), .own (lotsD ls), .val (.int b), x]) rfl rfl e
    show gE _ _ _ = _
    rw [gE_ok z]
    rfl
  unfold lotB
  rw [seq_nx e1]
  have hs := sizeLine_eq
  have hm := mem_len hkl
  have e2 : addD (.tuple (nats ls[k])) (.tuple [.int b]) = some (.tuple (nats (ls[k] ++ [b]))) := by
    show (if (nats ls[k]).length + 1 ≤ sizeLine then some (PyData.tuple (nats ls[k] ++ [.int b])) else none) = _
    rw [if_pos (by rw [nats_len]; omega)]
    simp [nats]
  have e3 : gBin addD (gIxP 3 (gN 5)) (Pf.gTup (Pf.gCons (gN 4) Pf.gNil)) [.bor (enc s'), .val (.int n), .val (.int c), .own (lotsD ls), .val (.int b), .val (.int k)] = some (.ok (.tuple (nats (ls[k] ++ [b])), [.bor (enc s'), .val (.int n), .val (.int c), .own (lotsD ls), .val (.int b), .val (.int k)])) := by
    show M.bd _ _ _ = _
    rw [bd_ok (ixP_own (ds := lotsD ls) (ds1 := lotsD ls) (k := k) rfl rfl rfl (lotsD_at hkl))]
    have z : Pf.gTup (Pf.gCons (gN 4) Pf.gNil) [.bor (enc s'), .val (.int n), .val (.int c), .own (lotsD ls), .val (.int b), .val (.int k)] = some (.ok (.tuple [.int b], [.bor (enc s'), .val (.int n), .val (.int c), .own (lotsD ls), .val (.int b), .val (.int k)])) := rfl
    rw [bd_ok z]
    exact opt_ok e2
  rw [setIx_own (ds := lotsD ls) (ds1 := lotsD ls) (k := k) e3 rfl rfl rfl (by rw [lotsD_len]; exact hkl), lotsD_set]
  rfl
theorem lot_loop : ∀ (B : List Nat) (s : Stt) (n : Int) (c : Nat) (ls : List (List Nat)) (x y : Sl), 0 < c → c < 1000 → ls.length = c → ls.flatten.length + B.length < 1000 →
    ∃ (s' : Stt) (ls' : List (List Nat)) (x' y' : Sl), ls'.length = c ∧ ls'.flatten.Perm (B ++ ls.flatten) ∧ loopL (bN 4) lotB (nats B) [.bor (enc s), .val (.int n), .val (.int c), .own (lotsD ls), x, y] = some (.nx [.bor (enc s'), .val (.int n), .val (.int c), .own (lotsD ls'), x', y'])
  | [], s, n, c, ls, x, y, _, _, hl, _ => ⟨s, ls, x, y, hl, List.Perm.refl _, rfl⟩
  | b :: B, s, n, c, ls, x, y, hc, hcb, hlen, hl => by
    obtain ⟨s1, k, hk, e1⟩ := lot_body s n c ls b y hc hcb hlen (by omega)
    have hp := flat_set ls k hk b
    have hpl := hp.length_eq
    simp only [List.length_cons] at hpl hl
    obtain ⟨s', ls', x', y', h1, h2, e2⟩ := lot_loop B s1 n c (ls.set k (ls[k] ++ [b])) (.val (.int b)) (.val (.int k)) hc hcb (by rw [List.length_set]; exact hlen) (by omega)
    refine ⟨s', ls', x', y', h1, h2.trans ((hp.append_left B).trans List.perm_middle), ?_⟩
    show (match (bN 4 (.int b) [.bor (enc s), .val (.int n), .val (.int c), .own (lotsD ls), x, y]) with
      | none => none
      | some env1 => match lotB env1 with
        | some (.nx env2) => loopL (bN 4) lotB (nats B) env2
        | some (.ct env2) => loopL (bN 4) lotB (nats B) env2
        | some (.bk env2) => some (.nx env2)
        | o => o) = _
    show (match lotB [.bor (enc s), .val (.int n), .val (.int c), .own (lotsD ls), .val (.int b), y] with
        | some (.nx env2) => loopL (bN 4) lotB (nats B) env2
        | some (.ct env2) => loopL (bN 4) lotB (nats B) env2
        | some (.bk env2) => some (.nx env2)
        | o => o) = _
    rw [e1]
    exact e2
theorem lots_ok (s : Stt) (n c : Nat) (hn : n < 90) (hc : 0 < c) (hcb : c < 100) : ∃ (s' : Stt) (ls : List (List Nat)), ls.length = c ∧ ls.flatten.Perm (List.range n) ∧ m__law_lots (enc s) [.int n, .int c] = some (.ok (.tuple (lotsD ls), enc s')) := by
  obtain ⟨s1, P, hP, e1⟩ := turned_ok s n hn
  have hf : (List.replicate c ([] : List Nat)).flatten = [] := by simp
  obtain ⟨s', ls, x', y', h1, h2, e2⟩ := lot_loop P s1 n c (List.replicate c []) .no .no hc (by omega) (by simp) (by rw [hf, hP.length_eq, List.length_range]; simp; omega)
  rw [hf, List.append_nil] at h2
  refine ⟨s', ls, h1, h2.trans hP, ?_⟩
  have eG : G__law_lots = gSeq (gSetO 3 (gRep (Pf.gLst (Pf.gCons (Pf.gTup Pf.gNil) Pf.gNil)) (gN 2))) (gSeq (gForL (gFz (gCallB 0 (Pf.gCons (gN 1) Pf.gNil) m__law_turned)) (bN 4) lotB) (gRet (gBlt tupK (Pf.gCons (gN 3) Pf.gNil)))) := rfl
  have a1 : gSetO 3 (gRep (Pf.gLst (Pf.gCons (Pf.gTup Pf.gNil) Pf.gNil)) (gN 2)) [.bor (enc s), .val (.int n), .val (.int c), .no, .no, .no] = some (.nx [.bor (enc s), .val (.int n), .val (.int c), .own (lotsD (List.replicate c [])), .no, .no]) := by
    have r1 : repD [.tuple []] (.int c) = some (lotsD (List.replicate c [])) := by
      rw [repD_nat (by simp; omega) (by omega)]
      have key : ∀ c : Nat, (List.replicate c [PyData.tuple []]).flatten = lotsD (List.replicate c []) := fun c => by
        induction c with
        | zero => rfl
        | succ c ih => rw [List.replicate_succ, List.flatten_cons, ih]; rfl
      rw [key]
    have z0 : Pf.gLst (Pf.gCons (Pf.gTup Pf.gNil) Pf.gNil) [.bor (enc s), .val (.int n), .val (.int c), .no, .no, .no] = some (.ok ([.tuple []], [.bor (enc s), .val (.int n), .val (.int c), .no, .no, .no])) := rfl
    have z : gRep (Pf.gLst (Pf.gCons (Pf.gTup Pf.gNil) Pf.gNil)) (gN 2) [.bor (enc s), .val (.int n), .val (.int c), .no, .no, .no] = some (.ok (lotsD (List.replicate c []), [.bor (enc s), .val (.int n), .val (.int c), .no, .no, .no])) := by
      show M.bd _ _ _ = _
      rw [bd_ok z0, bd_ok (n_val (d := .int c) rfl)]
      exact opt_ok r1
    show gE _ _ _ = _
    rw [gE_ok z]
    rfl
  have a2 : gFz (gCallB 0 (Pf.gCons (gN 1) Pf.gNil) m__law_turned) [.bor (enc s), .val (.int n), .val (.int c), .own (lotsD (List.replicate c [])), .no, .no] = some (.ok (.list (nats P), [.bor (enc s1), .val (.int n), .val (.int c), .own (lotsD (List.replicate c [])), .no, .no])) := by
    have z : gCallB 0 (Pf.gCons (gN 1) Pf.gNil) m__law_turned [.bor (enc s), .val (.int n), .val (.int c), .own (lotsD (List.replicate c [])), .no, .no] = some (.ok (nats P, [.bor (enc s1), .val (.int n), .val (.int c), .own (lotsD (List.replicate c [])), .no, .no])) :=
      callB_bor (st := enc s) (ds := enc s) rfl (as := [.int n]) (env1 := [.bor (enc s), .val (.int n), .val (.int c), .own (lotsD (List.replicate c [])), .no, .no]) rfl rfl e1
    show M.bd _ _ _ = _
    rw [bd_ok z]
    rfl
  have a3 : gForL (gFz (gCallB 0 (Pf.gCons (gN 1) Pf.gNil) m__law_turned)) (bN 4) lotB [.bor (enc s), .val (.int n), .val (.int c), .own (lotsD (List.replicate c [])), .no, .no] = some (.nx [.bor (enc s'), .val (.int n), .val (.int c), .own (lotsD ls), x', y']) := by
    unfold gForL
    rw [gE_ok a2]
    exact e2
  have a4 : gRet (gBlt tupK (Pf.gCons (gN 3) Pf.gNil)) [.bor (enc s'), .val (.int n), .val (.int c), .own (lotsD ls), x', y'] = some (.rt (.tuple (lotsD ls)) [.bor (enc s'), .val (.int n), .val (.int c), .val (.list (lotsD ls)), x', y']) := by
    have z : Pf.gCons (gN 3) Pf.gNil [.bor (enc s'), .val (.int n), .val (.int c), .own (lotsD ls), x', y'] = some (.ok ([.list (lotsD ls)], [.bor (enc s'), .val (.int n), .val (.int c), .val (.list (lotsD ls)), x', y'])) := by
      show M.bd _ _ _ = _
      rw [bd_ok (n_own (ds := lotsD ls) rfl)]
      rfl
    have z2 : gBlt tupK (Pf.gCons (gN 3) Pf.gNil) [.bor (enc s'), .val (.int n), .val (.int c), .own (lotsD ls), x', y'] = some (.ok (.tuple (lotsD ls), [.bor (enc s'), .val (.int n), .val (.int c), .val (.list (lotsD ls)), x', y'])) := by
      show M.bd _ _ _ = _
      rw [bd_ok z]
      exact opt_ok rfl
    show gE _ _ _ = _
    rw [gE_ok z2]
    rfl
  refine fnB_rt (r := [.val (.int n), .val (.int c), .val (.list (lotsD ls)), x', y']) ?_
  have eE : envB 6 (enc s) [.int n, .int c] = [.bor (enc s), .val (.int n), .val (.int c), .no, .no, .no] := rfl
  rw [eE, eG, seq_nx a1, seq_nx a3, a4]
end Q
/-! part M4 -/
set_option Elab.async false
set_option linter.all false
set_option maxRecDepth 100000
set_option maxHeartbeats 2000000
namespace Q
open PySem PySem.Spec L2
open Pf
/-! ### a shelf -/
theorem drawn_call {s : Stt} {n : Nat} {gl : M (List PyData)} {env : En} (hn : 0 < n) (hb : n < 1073741824) (h0 : env[0]? = some (.bor (enc s))) (h1 : gl env = some (.ok ([.int n], env))) :
    ∃ (d : Nat) (s' : Stt), d < n ∧ gCallB 0 gl m__law_drawn env = some (.ok (.int d, env.set 0 (.bor (enc s')))) := by
  obtain ⟨d, s', hd, e⟩ := drawn_ok s n hn hb
  exact ⟨d, s', hd, callB_bor h0 h1 h0 e⟩
theorem eqD_int (i j : Int) : eqD (.int i) (.int j) = some (i == j) := by
  rw [eqD_ok (k := 0) (j := 0) (okD_int i) (okD_int j) (by decide) (by decide)]
  simp [PyData.eqv]
def priceD : Option Nat → PyData
  | none => .none
  | some p => .int (p : Int)
abbrev pricesD (ps : List (Option Nat)) : List PyData := ps.map priceD
def priceOk (p : Option Nat) : Prop := ∀ q, p = some q → 1 ≤ q ∧ q ≤ 99
def priceG : M PyData := gIf (gTst eqD (gCallB 0 (Pf.gCons (gN 5) Pf.gNil) m__law_drawn) (gC (.int 0))) (gC .none) (gBin addD (gC (.int 1)) (gCallB 0 (Pf.gCons (gN 4) Pf.gNil) m__law_drawn))
def envS (s : Stt) (a b c : Int) (dear rare : Nat) (x y : Sl) : En := [.bor (enc s), .val (.int a), .val (.int b), .val (.int c), .val (.int dear), .val (.int rare), x, y]
theorem price_ok (s : Stt) (a b c : Int) (dear rare : Nat) (x y : Sl) (hd : 0 < dear) (hd2 : dear ≤ 99) (hr : 0 < rare) (hr2 : rare < 1000) :
    ∃ (s' : Stt) (p : Option Nat), priceOk p ∧ priceG (envS s a b c dear rare x y) = some (.ok (priceD p, envS s' a b c dear rare x y)) := by
  obtain ⟨d, s1, h1, e1⟩ := drawn_call (s := s) (n := rare) (gl := Pf.gCons (gN 5) Pf.gNil) (env := envS s a b c dear rare x y) hr (by omega) rfl rfl
  have e1 : gCallB 0 (Pf.gCons (gN 5) Pf.gNil) m__law_drawn (envS s a b c dear rare x y) = some (.ok (.int d, envS s1 a b c dear rare x y)) := e1
  have t : gTst eqD (gCallB 0 (Pf.gCons (gN 5) Pf.gNil) m__law_drawn) (gC (.int 0)) (envS s a b c dear rare x y) = some (.ok ((d : Int) == 0, envS s1 a b c dear rare x y)) := by
    show M.bd _ _ _ = _
    rw [bd_ok e1]
    have z : gC (.int 0) (envS s1 a b c dear rare x y) = some (.ok (.int 0, envS s1 a b c dear rare x y)) := rfl
    rw [bd_ok z]
    exact opt_ok (eqD_int d 0)
  by_cases h : d = 0
  · refine ⟨s1, none, (fun q z => by cases z), ?_⟩
    show M.bd _ _ _ = _
    rw [bd_ok t]
    subst h
    rfl
  · obtain ⟨e, s2, h2, e2⟩ := drawn_call (s := s1) (n := dear) (gl := Pf.gCons (gN 4) Pf.gNil) (env := envS s1 a b c dear rare x y) hd (by omega) rfl rfl
    have e2 : gCallB 0 (Pf.gCons (gN 4) Pf.gNil) m__law_drawn (envS s1 a b c dear rare x y) = some (.ok (.int e, envS s2 a b c dear rare x y)) := e2
    refine ⟨s2, some (1 + e), (fun q z => by cases z; omega), ?_⟩
    show M.bd _ _ _ = _
    rw [bd_ok t]
    have hz : ((d : Int) == 0) = false := by simp; omega
    rw [hz]
    show M.bd (gCallB 0 (Pf.gCons (gN 4) Pf.gNil) m__law_drawn) (fun e => M.opt (addD (PyData.int 1) e)) _ = _
    rw [bd_ok e2]
    refine opt_ok ?_
    show some (PyData.int (1 + (e : Int))) = some (PyData.int ((1 + e : Nat) : Int))
    rw [Int.natCast_add]
    rfl
theorem price_loop : ∀ (js : List PyData) (acc : List (Option Nat)) (s : Stt) (a b c : Int) (dear rare : Nat), 0 < dear → dear ≤ 99 → 0 < rare → rare < 1000 → acc.length + js.length < 1000 →
    ∃ (s' : Stt) (ps : List (Option Nat)), ps.length = js.length ∧ (∀ p ∈ ps, priceOk p) ∧ loopC [7] (bN 7) gYes priceG js (pricesD acc) (envS s a b c dear rare .no .no) = some (pricesD (acc ++ ps), envS s' a b c dear rare .no .no)
  | [], acc, s, a, b, c, dear, rare, _, _, _, _, _ => ⟨s, [], rfl, (fun _ h => by cases h), by rw [List.append_nil]; rfl⟩
  | j :: js, acc, s, a, b, c, dear, rare, h1, h2, h3, h4, hl => by
    obtain ⟨s1, p, hp, e1⟩ := price_ok s a b c dear rare .no (.val j) h1 h2 h3 h4
    obtain ⟨s', ps, q1, q2, e2⟩ := price_loop js (acc ++ [p]) s1 a b c dear rare h1 h2 h3 h4 (by simp only [List.length_cons, List.length_append, List.length_nil] at *; omega)
    refine ⟨s', p :: ps, by simp [q1], fun q hq => ?_, ?_⟩
    · rcases List.mem_cons.mp hq with rfl | hq
      · exact hp
      · exact q2 q hq
    · have el : (pricesD acc).length < 16777216 := by simp only [List.length_map, List.length_cons] at *; omega
      have step : loopC [7] (bN 7) gYes priceG (j :: js) (pricesD acc) (envS s a b c dear rare .no .no) = (match priceG (envS s a b c dear rare .no (.val j)) with
          | some (.ok (y, env3)) => if (pricesD acc).length < 16777216 then loopC [7] (bN 7) gYes priceG js (pricesD acc ++ [y]) (wipeE [7] env3) else none
          | _ => none) := rfl
      rw [step, e1]
      show (if (pricesD acc).length < 16777216 then loopC [7] (bN 7) gYes priceG js (pricesD acc ++ [priceD p]) (wipeE [7] (envS s1 a b c dear rare .no (.val j))) else none) = _
      rw [if_pos el]
      have w1 : wipeE [7] (envS s1 a b c dear rare .no (.val j)) = envS s1 a b c dear rare .no .no := rfl
      have w2 : pricesD acc ++ [priceD p] = pricesD (acc ++ [p]) := by simp [pricesD]
      rw [w1, w2, e2, List.append_assoc]
      rfl
end Q
namespace Q
open PySem PySem.Spec L2
open Pf
def pick3 (a b c : Int) : M PyData := gBin atD (gFz (Pf.gLst (Pf.gCons (gC (.int a)) (Pf.gCons (gC (.int b)) (Pf.gCons (gC (.int c)) Pf.gNil))))) (gCallB 0 (Pf.gCons (gC (.int 3)) Pf.gNil) m__law_drawn)
theorem pick3_ok {s : Stt} {env : En} (a b c : Nat) (h0 : env[0]? = some (.bor (enc s))) : ∃ (v : Nat) (s' : Stt), (v = a ∨ v = b ∨ v = c) ∧ pick3 a b c env = some (.ok (.int v, env.set 0 (.bor (enc s')))) := by
  obtain ⟨d, s', hd, e⟩ := drawn_call (s := s) (n := 3) (gl := Pf.gCons (gC (.int 3)) Pf.gNil) (env := env) (by decide) (by decide) h0 rfl
  have z : gFz (Pf.gLst (Pf.gCons (gC (.int a)) (Pf.gCons (gC (.int b)) (Pf.gCons (gC (.int c)) Pf.gNil)))) env = some (.ok (.list [.int a, .int b, .int c], env)) := rfl
  have key : ∃ v : Nat, (v = a ∨ v = b ∨ v = c) ∧ atD (.list [.int a, .int b, .int c]) (.int d) = some (.int v) := by
    match d, hd with
    | 0, _ => exact ⟨a, .inl rfl, rfl⟩
    | 1, _ => exact ⟨b, .inr (.inl rfl), rfl⟩
    | 2, _ => exact ⟨c, .inr (.inr rfl), rfl⟩
  obtain ⟨v, hv, ev⟩ := key
  refine ⟨v, s', hv, ?_⟩
  show M.bd (gCallB 0 (Pf.gCons (gC (.int 3)) Pf.gNil) m__law_drawn) (fun e => M.opt (atD (.list [.int a, .int b, .int c]) e)) env = _
  rw [bd_ok e]
  exact opt_ok ev
/-- 1 + a drawn number below what slot i holds -/
theorem one_more {s : Stt} {env : En} {i n : Nat} (hn : 0 < n) (hb : n < 1000) (h0 : env[0]? = some (.bor (enc s))) (hi : env[i]? = some (.val (.int n))) : ∃ (v : Nat) (s' : Stt), 1 ≤ v ∧ v ≤ n ∧ gBin addD (gC (.int 1)) (gCallB 0 (Pf.gCons (gN i) Pf.gNil) m__law_drawn) env = some (.ok (.int v, env.set 0 (.bor (enc s')))) := by
  have hg : Pf.gCons (gN i) Pf.gNil env = some (.ok ([.int n], env)) := by
    show M.bd _ _ _ = _
    rw [bd_ok (n_val hi)]
    rfl
  obtain ⟨d, s', hd, e⟩ := drawn_call (s := s) (n := n) (gl := Pf.gCons (gN i) Pf.gNil) (env := env) hn (by omega) h0 hg
  refine ⟨1 + d, s', by omega, by omega, ?_⟩
  show M.bd (gCallB 0 (Pf.gCons (gN i) Pf.gNil) m__law_drawn) (fun e => M.opt (addD (PyData.int 1) e)) _ = _
  rw [bd_ok e]
  refine opt_ok ?_
  show some (PyData.int (1 + (d : Int))) = some (PyData.int ((1 + d : Nat) : Int))
  rw [Int.natCast_add]
  rfl
def shelfD (ps : List (Option Nat)) (ls : List (List Nat)) : PyData := .tuple [.tuple (pricesD ps), .tuple (lotsD ls)]
structure ShelfOk (ps : List (Option Nat)) (ls : List (List Nat)) : Prop where
  p1 : 1 ≤ ps.length
  p2 : ps.length ≤ 12
  pr : ∀ p ∈ ps, priceOk p
  l1 : 1 ≤ ls.length
  l2 : ls.length ≤ 5
  perm : ls.flatten.Perm (List.range ps.length)
theorem shelf_ok (s : Stt) : ∃ (s' : Stt) (ps : List (Option Nat)) (ls : List (List Nat)), ShelfOk ps ls ∧ m__law_shelf (enc s) [.int 12, .int 5] = some (.ok (shelfD ps ls, enc s')) := by
  obtain ⟨m, s1, m1, m2, e1⟩ := one_more (s := s) (env := [.bor (enc s), .val (.int (12 : Nat)), .val (.int (5 : Nat)), .no, .no, .no, .no, .no]) (i := 1) (n := 12) (by decide) (by decide) rfl rfl
  obtain ⟨dear, s2, hdear, e2⟩ := pick3_ok (s := s1) (env := [.bor (enc s1), .val (.int (12 : Nat)), .val (.int (5 : Nat)), .no, .no, .no, .no, .no]) 2 9 99 rfl
  obtain ⟨rare, s3, hrare, e3⟩ := pick3_ok (s := s2) (env := [.bor (enc s2), .val (.int (12 : Nat)), .val (.int (5 : Nat)), .val (.int m), .val (.int dear), .no, .no, .no]) 4 12 60 rfl
  obtain ⟨s4, ps, pl, pp, e4⟩ := price_loop (rngD 0 m) [] s3 (12 : Nat) (5 : Nat) m dear rare (by omega) (by omega) (by omega) (by omega) (by rw [rngD_len]; simp; omega)
  rw [rngD_len] at pl
  obtain ⟨c, s5, c1, c2, e5⟩ := one_more (s := s4) (env := [.bor (enc s4), .val (.int (12 : Nat)), .val (.int (5 : Nat)), .val (.int m), .val (.int dear), .val (.int rare), .val (.tuple (pricesD ps)), .no]) (i := 2) (n := 5) (by decide) (by decide) rfl rfl
  obtain ⟨s6, ls, l1, l2, e6⟩ := lots_ok s5 m c (by omega) (by omega) (by omega)
  refine ⟨s6, ps, ls, ⟨by omega, by omega, pp, by omega, by omega, by rw [pl]; exact l2⟩, ?_⟩
  have e1 : gBin addD (gC (.int 1)) (gCallB 0 (Pf.gCons (gN 1) Pf.gNil) m__law_drawn) [.bor (enc s), .val (.int 12), .val (.int 5), .no, .no, .no, .no, .no] = some (.ok (.int m, [.bor (enc s1), .val (.int 12), .val (.int 5), .no, .no, .no, .no, .no])) := e1
  have e2 : pick3 2 9 99 [.bor (enc s1), .val (.int 12), .val (.int 5), .no, .no, .no, .no, .no] = some (.ok (.int dear, [.bor (enc s2), .val (.int 12), .val (.int 5), .no, .no, .no, .no, .no])) := e2
  have e3 : pick3 4 12 60 [.bor (enc s2), .val (.int 12), .val (.int 5), .val (.int m), .val (.int dear), .no, .no, .no] = some (.ok (.int rare, [.bor (enc s3), .val (.int 12), .val (.int 5), .val (.int m), .val (.int dear), .no, .no, .no])) := e3
  have eG : G__law_shelf = gSeq (gAsg (bTup 2 (bCons (bN 3) (bCons (bN 4) bNil))) (Pf.gTup (Pf.gCons (gBin addD (gC (.int 1)) (gCallB 0 (Pf.gCons (gN 1) Pf.gNil) m__law_drawn)) (Pf.gCons (pick3 2 9 99) Pf.gNil)))) (gSeq (gSet 5 (pick3 4 12 60)) (gSeq (gSet 6 (gBlt tupK (Pf.gCons (gFz (gLcR [7] 7 gYes priceG (gN 3))) Pf.gNil)))
    (gRet (Pf.gTup (Pf.gCons (gN 6) (Pf.gCons (gCallB 0 (Pf.gCons (gN 3) (Pf.gCons (gBin addD (gC (.int 1)) (gCallB 0 (Pf.gCons (gN 2) Pf.gNil) m__law_drawn)) Pf.gNil)) m__law_lots) Pf.gNil)))))) := rfl
  have a1 : gAsg (bTup 2 (bCons (bN 3) (bCons (bN 4) bNil))) (Pf.gTup (Pf.gCons (gBin addD (gC (.int 1)) (gCallB 0 (Pf.gCons (gN 1) Pf.gNil) m__law_drawn)) (Pf.gCons (pick3 2 9 99) Pf.gNil))) [.bor (enc s), .val (.int 12), .val (.int 5), .no, .no, .no, .no, .no] = some (.nx [.bor (enc s2), .val (.int 12), .val (.int 5), .val (.int m), .val (.int dear), .no, .no, .no]) := by
    have z : Pf.gTup (Pf.gCons (gBin addD (gC (.int 1)) (gCallB 0 (Pf.gCons (gN 1) Pf.gNil) m__law_drawn)) (Pf.gCons (pick3 2 9 99) Pf.gNil)) [.bor (enc s), .val (.int 12), .val (.int 5), .no, .no, .no, .no, .no] = some (.ok (.tuple [.int m, .int dear], [.bor (enc s2), .val (.int 12), .val (.int 5), .no, .no, .no, .no, .no])) := by
      have y2 : Pf.gCons (pick3 2 9 99) Pf.gNil [.bor (enc s1), .val (.int 12), .val (.int 5), .no, .no, .no, .no, .no] = some (.ok ([.int dear], [.bor (enc s2), .val (.int 12), .val (.int 5), .no, .no, .no, .no, .no])) := by
        show M.bd _ _ _ = _
        rw [bd_ok e2]
        rfl
      have y1 : Pf.gCons (gBin addD (gC (.int 1)) (gCallB 0 (Pf.gCons (gN 1) Pf.gNil) m__law_drawn)) (Pf.gCons (pick3 2 9 99) Pf.gNil) [.bor (enc s), .val (.int 12), .val (.int 5), .no, .no, .no, .no, .no] = some (.ok ([.int m, .int dear], [.bor (enc s2), .val (.int 12), .val (.int 5), .no, .no, .no, .no, .no])) := by
        show M.bd (gBin addD (gC (.int 1)) (gCallB 0 (Pf.gCons (gN 1) Pf.gNil) m__law_drawn)) _ _ = _
        rw [bd_ok e1]
        show M.bd (Pf.gCons (pick3 2 9 99) Pf.gNil) _ [.bor (enc s1), .val (.int 12), .val (.int 5), .no, .no, .no, .no, .no] = _
        rw [bd_ok y2]
        rfl
      show M.bd (Pf.gCons (gBin addD (gC (.int 1)) (gCallB 0 (Pf.gCons (gN 1) Pf.gNil) m__law_drawn)) (Pf.gCons (pick3 2 9 99) Pf.gNil)) _ _ = _
      rw [bd_ok y1]
      exact opt_ok rfl
    show gE _ _ _ = _
    rw [gE_ok z]
    rfl
  have a2 : gSet 5 (pick3 4 12 60) [.bor (enc s2), .val (.int 12), .val (.int 5), .val (.int m), .val (.int dear), .no, .no, .no] = some (.nx [.bor (enc s3), .val (.int 12), .val (.int 5), .val (.int m), .val (.int dear), .val (.int rare), .no, .no]) := by
    show gE _ _ _ = _
    rw [gE_ok e3]
    rfl
  have e4 : loopC [7] (bN 7) gYes priceG (rngD 0 m) [] [.bor (enc s3), .val (.int 12), .val (.int 5), .val (.int m), .val (.int dear), .val (.int rare), .no, .no] = some (pricesD ps, [.bor (enc s4), .val (.int 12), .val (.int 5), .val (.int m), .val (.int dear), .val (.int rare), .no, .no]) := e4
  have a3 : gSet 6 (gBlt tupK (Pf.gCons (gFz (gLcR [7] 7 gYes priceG (gN 3))) Pf.gNil)) [.bor (enc s3), .val (.int 12), .val (.int 5), .val (.int m), .val (.int dear), .val (.int rare), .no, .no] = some (.nx [.bor (enc s4), .val (.int 12), .val (.int 5), .val (.int m), .val (.int dear), .val (.int rare), .val (.tuple (pricesD ps)), .no]) := by
    have z0 : gLcR [7] 7 gYes priceG (gN 3) [.bor (enc s3), .val (.int 12), .val (.int 5), .val (.int m), .val (.int dear), .val (.int rare), .no, .no] = some (.ok (pricesD ps, [.bor (enc s4), .val (.int 12), .val (.int 5), .val (.int m), .val (.int dear), .val (.int rare), .no, .no])) := by
      show M.bd (gN 3) _ _ = _
      rw [bd_ok (n_val (d := .int m) rfl)]
      have r : rngO (.int (m : Int)) = some (rngD 0 m) := by
        unfold rngO
        simp only
        rw [if_pos (by omega), Int.toNat_natCast]
      rw [bd_ok (opt_ok r)]
      have w : wipeE [7] [.bor (enc s3), .val (.int 12), .val (.int 5), .val (.int m), .val (.int dear), .val (.int rare), .no, .no] = [.bor (enc s3), .val (.int 12), .val (.int 5), .val (.int m), .val (.int dear), .val (.int rare), .no, .no] := rfl
      unfold gLc
      rw [w, e4]
      rfl
    have z1 : gFz (gLcR [7] 7 gYes priceG (gN 3)) [.bor (enc s3), .val (.int 12), .val (.int 5), .val (.int m), .val (.int dear), .val (.int rare), .no, .no] = some (.ok (.list (pricesD ps), [.bor (enc s4), .val (.int 12), .val (.int 5), .val (.int m), .val (.int dear), .val (.int rare), .no, .no])) := by
      show M.bd (gLcR [7] 7 gYes priceG (gN 3)) _ _ = _
      rw [bd_ok z0]
      rfl
    have z2 : Pf.gCons (gFz (gLcR [7] 7 gYes priceG (gN 3))) Pf.gNil [.bor (enc s3), .val (.int 12), .val (.int 5), .val (.int m), .val (.int dear), .val (.int rare), .no, .no] = some (.ok ([.list (pricesD ps)], [.bor (enc s4), .val (.int 12), .val (.int 5), .val (.int m), .val (.int dear), .val (.int rare), .no, .no])) := by
      show M.bd (gFz (gLcR [7] 7 gYes priceG (gN 3))) _ _ = _
      rw [bd_ok z1]
      rfl
    have z3 : gBlt tupK (Pf.gCons (gFz (gLcR [7] 7 gYes priceG (gN 3))) Pf.gNil) [.bor (enc s3), .val (.int 12), .val (.int 5), .val (.int m), .val (.int dear), .val (.int rare), .no, .no] = some (.ok (.tuple (pricesD ps), [.bor (enc s4), .val (.int 12), .val (.int 5), .val (.int m), .val (.int dear), .val (.int rare), .no, .no])) := by
      show M.bd (Pf.gCons (gFz (gLcR [7] 7 gYes priceG (gN 3))) Pf.gNil) _ _ = _
      rw [bd_ok z2]
      exact opt_ok rfl
    show gE _ _ _ = _
    rw [gE_ok z3]
    rfl
  have e5 : gBin addD (gC (.int 1)) (gCallB 0 (Pf.gCons (gN 2) Pf.gNil) m__law_drawn) [.bor (enc s4), .val (.int 12), .val (.int 5), .val (.int m), .val (.int dear), .val (.int rare), .val (.tuple (pricesD ps)), .no] = some (.ok (.int c, [.bor (enc s5), .val (.int 12), .val (.int 5), .val (.int m), .val (.int dear), .val (.int rare), .val (.tuple (pricesD ps)), .no])) := e5
  have y1 : Pf.gCons (gBin addD (gC (.int 1)) (gCallB 0 (Pf.gCons (gN 2) Pf.gNil) m__law_drawn)) Pf.gNil [.bor (enc s4), .val (.int 12), .val (.int 5), .val (.int m), .val (.int dear), .val (.int rare), .val (.tuple (pricesD ps)), .no] = some (.ok ([.int c], [.bor (enc s5), .val (.int 12), .val (.int 5), .val (.int m), .val (.int dear), .val (.int rare), .val (.tuple (pricesD ps)), .no])) := by
    show M.bd (gBin addD (gC (.int 1)) (gCallB 0 (Pf.gCons (gN 2) Pf.gNil) m__law_drawn)) (fun d => M.bd Pf.gNil fun ds => M.ok (d :: ds)) _ = _
    rw [bd_ok e5]
    rfl
  have y2 : Pf.gCons (gN 3) (Pf.gCons (gBin addD (gC (.int 1)) (gCallB 0 (Pf.gCons (gN 2) Pf.gNil) m__law_drawn)) Pf.gNil) [.bor (enc s4), .val (.int 12), .val (.int 5), .val (.int m), .val (.int dear), .val (.int rare), .val (.tuple (pricesD ps)), .no] = some (.ok ([.int m, .int c], [.bor (enc s5), .val (.int 12), .val (.int 5), .val (.int m), .val (.int dear), .val (.int rare), .val (.tuple (pricesD ps)), .no])) := by
    show M.bd (gN 3) (fun d => M.bd (Pf.gCons (gBin addD (gC (.int 1)) (gCallB 0 (Pf.gCons (gN 2) Pf.gNil) m__law_drawn)) Pf.gNil) fun ds => M.ok (d :: ds)) _ = _
    rw [bd_ok (n_val (d := .int m) rfl), bd_ok y1]
    rfl
  have y3 : gCallB 0 (Pf.gCons (gN 3) (Pf.gCons (gBin addD (gC (.int 1)) (gCallB 0 (Pf.gCons (gN 2) Pf.gNil) m__law_drawn)) Pf.gNil)) m__law_lots [.bor (enc s4), .val (.int 12), .val (.int 5), .val (.int m), .val (.int dear), .val (.int rare), .val (.tuple (pricesD ps)), .no] = some (.ok (.tuple (lotsD ls), [.bor (enc s6), .val (.int 12), .val (.int 5), .val (.int m), .val (.int dear), .val (.int rare), .val (.tuple (pricesD ps)), .no])) := callB_bor (st := enc s4) (ds := enc s5) rfl y2 rfl e6
  have y4 : Pf.gCons (gCallB 0 (Pf.gCons (gN 3) (Pf.gCons (gBin addD (gC (.int 1)) (gCallB 0 (Pf.gCons (gN 2) Pf.gNil) m__law_drawn)) Pf.gNil)) m__law_lots) Pf.gNil [.bor (enc s4), .val (.int 12), .val (.int 5), .val (.int m), .val (.int dear), .val (.int rare), .val (.tuple (pricesD ps)), .no] = some (.ok ([.tuple (lotsD ls)], [.bor (enc s6), .val (.int 12), .val (.int 5), .val (.int m), .val (.int dear), .val (.int rare), .val (.tuple (pricesD ps)), .no])) := by
    show M.bd (gCallB 0 (Pf.gCons (gN 3) (Pf.gCons (gBin addD (gC (.int 1)) (gCallB 0 (Pf.gCons (gN 2) Pf.gNil) m__law_drawn)) Pf.gNil)) m__law_lots) (fun d => M.bd Pf.gNil fun ds => M.ok (d :: ds)) _ = _
    rw [bd_ok y3]
    rfl
  have y5 : Pf.gCons (gN 6) (Pf.gCons (gCallB 0 (Pf.gCons (gN 3) (Pf.gCons (gBin addD (gC (.int 1)) (gCallB 0 (Pf.gCons (gN 2) Pf.gNil) m__law_drawn)) Pf.gNil)) m__law_lots) Pf.gNil) [.bor (enc s4), .val (.int 12), .val (.int 5), .val (.int m), .val (.int dear), .val (.int rare), .val (.tuple (pricesD ps)), .no] = some (.ok ([.tuple (pricesD ps), .tuple (lotsD ls)], [.bor (enc s6), .val (.int 12), .val (.int 5), .val (.int m), .val (.int dear), .val (.int rare), .val (.tuple (pricesD ps)), .no])) := by
    show M.bd (gN 6) (fun d => M.bd (Pf.gCons (gCallB 0 (Pf.gCons (gN 3) (Pf.gCons (gBin addD (gC (.int 1)) (gCallB 0 (Pf.gCons (gN 2) Pf.gNil) m__law_drawn)) Pf.gNil)) m__law_lots) Pf.gNil) fun ds => M.ok (d :: ds)) _ = _
    rw [bd_ok (n_val (d := .tuple (pricesD ps)) rfl), bd_ok y4]
    rfl
  have y6 : Pf.gTup (Pf.gCons (gN 6) (Pf.gCons (gCallB 0 (Pf.gCons (gN 3) (Pf.gCons (gBin addD (gC (.int 1)) (gCallB 0 (Pf.gCons (gN 2) Pf.gNil) m__law_drawn)) Pf.gNil)) m__law_lots) Pf.gNil)) [.bor (enc s4), .val (.int 12), .val (.int 5), .val (.int m), .val (.int dear), .val (.int rare), .val (.tuple (pricesD ps)), .no] = some (.ok (shelfD ps ls, [.bor (enc s6), .val (.int 12), .val (.int 5), .val (.int m), .val (.int dear), .val (.int rare), .val (.tuple (pricesD ps)), .no])) := by
    show M.bd (Pf.gCons (gN 6) (Pf.gCons (gCallB 0 (Pf.gCons (gN 3) (Pf.gCons (gBin addD (gC (.int 1)) (gCallB 0 (Pf.gCons (gN 2) Pf.gNil) m__law_drawn)) Pf.gNil)) m__law_lots) Pf.gNil)) (fun ds => M.opt (tupD ds)) _ = _
    rw [bd_ok y5]
    exact opt_ok rfl
  refine fnB_rt (r := [.val (.int 12), .val (.int 5), .val (.int m), .val (.int dear), .val (.int rare), .val (.tuple (pricesD ps)), .no]) ?_
  have eE : envB 8 (enc s) [.int 12, .int 5] = [.bor (enc s), .val (.int 12), .val (.int 5), .no, .no, .no, .no, .no] := rfl
  rw [eE, eG, seq_nx a1, seq_nx a2, seq_nx a3]
  show gE _ _ _ = _
  rw [gE_ok y6]
  rfl
end Q
/-! part M5 -/
set_option Elab.async false
set_option linter.all false
set_option maxRecDepth 100000
set_option maxHeartbeats 2000000
namespace Q
open PySem PySem.Spec L2
open Pf
/-! ### a deed -/
def smallV (v : PyData) : Prop := flatD v = true ∧ okD 0 v
theorem small_int (i : Int) : smallV (.int i) := ⟨rfl, okD_int i⟩
theorem small_bool (b : Bool) : smallV (.bool b) := ⟨rfl, okD_bool b⟩
theorem small_none : smallV .none := ⟨rfl, okD_none⟩
theorem small_str {x : Str} (h : (PyData.str x).canLay0 = true) : smallV (.str x) := ⟨rfl, okD_str h⟩
theorem small_first : smallV (.str "first") := small_str (by decide +kernel)
theorem small_last : smallV (.str "last") := small_str (by decide +kernel)
def DeedD (d : PyData) : Prop := ∃ b l e, smallV b ∧ smallV l ∧ smallV e ∧ (d = .tuple [b, l, e] ∨ d = .list [b, l, e] ∨ d = .tuple [b, l] ∨ d = .tuple [b, l, e, .int 1])
def envP (s : Stt) (sh b l e : PyData) (o : Nat) (x : Sl) : En := [.bor (enc s), .val sh, .val b, .val l, .val e, .val (.int o), x]
/-- a choice out of a written list by a drawn number in a range -/
def pickIf (lo hi i : Nat) (gl : M PyData) (gi : M PyData) : S := gIfS (gChainT (gC (.int lo)) (gN 5) (gC (.int hi)) (cmpD fun i j => decide (i ≤ j)) (cmpD fun i j => decide (i < j))) (gSet i (gBin atD gl gi)) gNx
theorem chain_at {env : En} {lo hi o : Nat} (h : env[5]? = some (.val (.int o))) : gChainT (gC (.int lo)) (gN 5) (gC (.int hi)) (cmpD fun i j => decide (i ≤ j)) (cmpD fun i j => decide (i < j)) env = some (.ok (decide (lo ≤ o ∧ o < hi), env)) := by
  show M.bd (gN 5) _ env = _
  rw [bd_ok (n_val h)]
  have e1 : (cmpD fun i j => decide (i ≤ j)) (.int lo) (.int o) = some (decide (lo ≤ o)) := by simp [cmpD]
  rw [bd_ok (opt_ok e1)]
  by_cases h1 : lo ≤ o
  · rw [decide_eq_true h1]
    have e2 : (cmpD fun i j => decide (i < j)) (.int o) (.int hi) = some (decide (o < hi)) := by simp [cmpD]
    show M.opt ((cmpD fun i j => decide (i < j)) (.int o) (.int hi)) env = _
    rw [opt_ok e2]
    simp [h1]
  · rw [decide_eq_false h1]
    simp [h1, M.ok]
theorem ifS_t {g : M Bool} {a b : S} {env env1 : En} (h : g env = some (.ok (true, env1))) : gIfS g a b env = a env1 := by unfold gIfS; rw [gE_ok h]; rfl
theorem ifS_f {g : M Bool} {a b : S} {env env1 : En} (h : g env = some (.ok (false, env1))) : gIfS g a b env = b env1 := by unfold gIfS; rw [gE_ok h]; rfl
theorem sub_at {env : En} {lo o : Nat} (h : env[5]? = some (.val (.int o))) (hl : lo ≤ o) : gBin subD (gN 5) (gC (.int lo)) env = some (.ok (.int (o - lo : Nat), env)) := by
  show M.bd (gN 5) _ env = _
  rw [bd_ok (n_val h)]
  show M.opt (subD (.int o) (.int lo)) env = _
  refine opt_ok ?_
  show some (PyData.int ((o : Int) - lo)) = _
  rw [Int.natCast_sub hl]
theorem atD_nat {ds : List PyData} {k : Nat} {x : PyData} (h : ds[k]? = some x) : atD (.list ds) (.int k) = some x := atI_nat h
/-- the book is another one -/
def deed1 : S := gIfS (gTst (cmpD fun i j => decide (i < j)) (gN 5) (gC (.int 4))) (gSet 2 (gBin atD (gFz (Pf.gLst (Pf.gCons (gBlt lenK (Pf.gCons (gIxP 1 (gC (.int 0))) Pf.gNil)) (Pf.gCons (gBin subD (gC (.int 0)) (gC (.int 1))) (Pf.gCons (gC (.bool true)) (Pf.gCons (gC .none) Pf.gNil)))))) (gN 5))) gNx
theorem deed1_ok (s : Stt) (ps : List (Option Nat)) (ls : List (List Nat)) (b l e : PyData) (o : Nat) (x : Sl) (hb : smallV b) : ∃ b', smallV b' ∧ deed1 (envP s (shelfD ps ls) b l e o x) = some (.nx (envP s (shelfD ps ls) b' l e o x)) := by
  have t : gTst (cmpD fun i j => decide (i < j)) (gN 5) (gC (.int 4)) (envP s (shelfD ps ls) b l e o x) = some (.ok (decide (o < 4), envP s (shelfD ps ls) b l e o x)) := by
    have e1 : (cmpD fun i j => decide (i < j)) (.int o) (.int 4) = some (decide (o < 4)) := by simp [cmpD]; omega
    show M.bd (gN 5) _ _ = _
    rw [bd_ok (n_val (d := .int o) rfl)]
    exact opt_ok e1
  by_cases h : o < 4
  · rw [decide_eq_true h] at t
    have z : gFz (Pf.gLst (Pf.gCons (gBlt lenK (Pf.gCons (gIxP 1 (gC (.int 0))) Pf.gNil)) (Pf.gCons (gBin subD (gC (.int 0)) (gC (.int 1))) (Pf.gCons (gC (.bool true)) (Pf.gCons (gC .none) Pf.gNil))))) (envP s (shelfD ps ls) b l e o x) = some (.ok (.list [.int (pricesD ps).length, .int (-1), .bool true, .none], envP s (shelfD ps ls) b l e o x)) := rfl
    have key : ∃ v, smallV v ∧ ([.int (pricesD ps).length, .int (-1), .bool true, .none] : List PyData)[o]? = some v := by
      match o, h with
      | 0, _ => exact ⟨_, small_int _, rfl⟩
      | 1, _ => exact ⟨_, small_int _, rfl⟩
      | 2, _ => exact ⟨_, small_bool _, rfl⟩
      | 3, _ => exact ⟨_, small_none, rfl⟩
    obtain ⟨v, hv, ev⟩ := key
    refine ⟨v, hv, ?_⟩
    unfold deed1
    rw [ifS_t t]
    have y : gBin atD (gFz (Pf.gLst (Pf.gCons (gBlt lenK (Pf.gCons (gIxP 1 (gC (.int 0))) Pf.gNil)) (Pf.gCons (gBin subD (gC (.int 0)) (gC (.int 1))) (Pf.gCons (gC (.bool true)) (Pf.gCons (gC .none) Pf.gNil)))))) (gN 5) (envP s (shelfD ps ls) b l e o x) = some (.ok (v, envP s (shelfD ps ls) b l e o x)) := by
      show M.bd (gFz (Pf.gLst (Pf.gCons (gBlt lenK (Pf.gCons (gIxP 1 (gC (.int 0))) Pf.gNil)) (Pf.gCons (gBin subD (gC (.int 0)) (gC (.int 1))) (Pf.gCons (gC (.bool true)) (Pf.gCons (gC .none) Pf.gNil)))))) _ _ = _
      rw [bd_ok z, bd_ok (n_val (d := .int o) rfl)]
      exact opt_ok (atD_nat ev)
    show gE _ _ _ = _
    rw [gE_ok y]
    rfl
  · rw [decide_eq_false h] at t
    exact ⟨b, hb, by unfold deed1; rw [ifS_f t]; rfl⟩
theorem pickIf_ok {s : Stt} {sh b l e : PyData} {o : Nat} {x : Sl} {lo hi i : Nat} {gl : M PyData} {vs : List PyData} (hl : gl (envP s sh b l e o x) = some (.ok (.list vs, envP s sh b l e o x))) (hv : vs.length = hi - lo) (hs : ∀ v ∈ vs, smallV v) :
    (pickIf lo hi i gl (gBin subD (gN 5) (gC (.int lo))) (envP s sh b l e o x) = some (.nx (envP s sh b l e o x))) ∨ ∃ v, smallV v ∧ pickIf lo hi i gl (gBin subD (gN 5) (gC (.int lo))) (envP s sh b l e o x) = some (.nx ((envP s sh b l e o x).set i (.val v))) := by
  have t := chain_at (env := envP s sh b l e o x) (lo := lo) (hi := hi) (o := o) rfl
  by_cases h : lo ≤ o ∧ o < hi
  · rw [decide_eq_true h] at t
    have hlt : o - lo < vs.length := by omega
    refine .inr ⟨vs[o - lo], hs _ (List.getElem_mem hlt), ?_⟩
    unfold pickIf
    rw [ifS_t t]
    have y : gBin atD gl (gBin subD (gN 5) (gC (.int lo))) (envP s sh b l e o x) = some (.ok (vs[o - lo], envP s sh b l e o x)) := by
      show M.bd gl (fun d => M.bd (gBin subD (gN 5) (gC (.int lo))) fun e => M.opt (atD d e)) _ = _
      rw [bd_ok hl, bd_ok (sub_at rfl h.1)]
      exact opt_ok (atD_nat (List.getElem?_eq_getElem hlt))
    show gE _ _ _ = _
    rw [gE_ok y]
    rfl
  · rw [decide_eq_false h] at t
    exact .inl (by unfold pickIf; rw [ifS_f t]; rfl)
def deed4 : S := gIfS (gChainT (gC (.int (11 : Nat))) (gN 5) (gC (.int (14 : Nat))) (cmpD fun i j => decide (i ≤ j)) (cmpD fun i j => decide (i < j))) (gSeq (gSetO 6 (Pf.gLst (Pf.gCons (gFz (Pf.gLst (Pf.gCons (gN 2) (Pf.gCons (gN 3) (Pf.gCons (gN 4) Pf.gNil))))) (Pf.gCons (Pf.gTup (Pf.gCons (gN 2) (Pf.gCons (gN 3) Pf.gNil))) (Pf.gCons (Pf.gTup (Pf.gCons (gN 2) (Pf.gCons (gN 3) (Pf.gCons (gN 4) (Pf.gCons (gC (.int 1)) Pf.gNil))))) Pf.gNil)))))
  (gRet (gIxP 6 (gBin subD (gN 5) (gC (.int (11 : Nat))))))) gNx
def deedR : S := gSeq deed4 (gRet (Pf.gTup (Pf.gCons (gN 2) (Pf.gCons (gN 3) (Pf.gCons (gN 4) Pf.gNil)))))
theorem deedR_ok (s : Stt) (sh b l e : PyData) (o : Nat) (hb : smallV b) (hl : smallV l) (he : smallV e) : ∃ d r, DeedD d ∧ deedR (envP s sh b l e o .no) = some (.rt d (.bor (enc s) :: r)) := by
  have t := chain_at (env := envP s sh b l e o .no) (lo := 11) (hi := 14) (o := o) rfl
  by_cases h : 11 ≤ o ∧ o < 14
  · rw [decide_eq_true h] at t
    have z : gSetO 6 (Pf.gLst (Pf.gCons (gFz (Pf.gLst (Pf.gCons (gN 2) (Pf.gCons (gN 3) (Pf.gCons (gN 4) Pf.gNil))))) (Pf.gCons (Pf.gTup (Pf.gCons (gN 2) (Pf.gCons (gN 3) Pf.gNil))) (Pf.gCons (Pf.gTup (Pf.gCons (gN 2) (Pf.gCons (gN 3) (Pf.gCons (gN 4) (Pf.gCons (gC (.int 1)) Pf.gNil))))) Pf.gNil)))) (envP s sh b l e o .no) = some (.nx (envP s sh b l e o (.own [.list [b, l, e], .tuple [b, l], .tuple [b, l, e, .int 1]]))) := rfl
    have key : ∃ d, DeedD d ∧ ([.list [b, l, e], .tuple [b, l], .tuple [b, l, e, .int 1]] : List PyData)[o - 11]? = some d := by
      have : o - 11 < 3 := by omega
      match o - 11, this with
      | 0, _ => exact ⟨_, ⟨b, l, e, hb, hl, he, .inr (.inl rfl)⟩, rfl⟩
      | 1, _ => exact ⟨_, ⟨b, l, e, hb, hl, he, .inr (.inr (.inl rfl))⟩, rfl⟩
      | 2, _ => exact ⟨_, ⟨b, l, e, hb, hl, he, .inr (.inr (.inr rfl))⟩, rfl⟩
    obtain ⟨d, hd, ed⟩ := key
    have y : gIxP 6 (gBin subD (gN 5) (gC (.int (11 : Nat)))) (envP s sh b l e o (.own [.list [b, l, e], .tuple [b, l], .tuple [b, l, e, .int 1]])) = some (.ok (d, envP s sh b l e o (.own [.list [b, l, e], .tuple [b, l], .tuple [b, l, e, .int 1]]))) :=
      ixP_own (ds := [.list [b, l, e], .tuple [b, l], .tuple [b, l, e, .int 1]]) (ds1 := [.list [b, l, e], .tuple [b, l], .tuple [b, l, e, .int 1]]) rfl (sub_at rfl h.1) rfl ed
    refine ⟨d, [.val sh, .val b, .val l, .val e, .val (.int o), .own [.list [b, l, e], .tuple [b, l], .tuple [b, l, e, .int 1]]], hd, ?_⟩
    have e4 : deed4 (envP s sh b l e o .no) = some (.rt d (envP s sh b l e o (.own [.list [b, l, e], .tuple [b, l], .tuple [b, l, e, .int 1]]))) := by
      unfold deed4
      rw [ifS_t t, seq_nx z]
      show gE _ _ _ = _
      rw [gE_ok y]
      rfl
    unfold deedR gSeq
    rw [e4]
    rfl
  · rw [decide_eq_false h] at t
    refine ⟨.tuple [b, l, e], [.val sh, .val b, .val l, .val e, .val (.int o), .no], ⟨b, l, e, hb, hl, he, .inl rfl⟩, ?_⟩
    have e4 : deed4 (envP s sh b l e o .no) = some (.nx (envP s sh b l e o .no)) := by
      unfold deed4; rw [ifS_f t]; rfl
    unfold deedR
    rw [seq_nx e4]
    rfl
theorem deed_ok (s : Stt) (ps : List (Option Nat)) (ls : List (List Nat)) (hs : ShelfOk ps ls) : ∃ (s' : Stt) (d : PyData), DeedD d ∧ m__law_deed (enc s) [shelfD ps ls] = some (.ok (d, enc s')) := by
  have hp1 := hs.p1
  have hp2 := hs.p2
  have hl1 := hs.l1
  have hl2 := hs.l2
  obtain ⟨b, s1, hb, e1⟩ := drawn_call (s := s) (n := ps.length) (gl := Pf.gCons (gBlt lenK (Pf.gCons (gIxP 1 (gC (.int 0))) Pf.gNil)) Pf.gNil) (env := [.bor (enc s), .val (shelfD ps ls), .no, .no, .no, .no, .no]) (by omega) (by omega) rfl (by rw [show (ps.length : Int) = ((pricesD ps).length : Nat) by rw [List.length_map]]; rfl)
  obtain ⟨l, s2, hl, e2⟩ := drawn_call (s := s1) (n := ls.length) (gl := Pf.gCons (gBlt lenK (Pf.gCons (gIxP 1 (gC (.int 1))) Pf.gNil)) Pf.gNil) (env := [.bor (enc s1), .val (shelfD ps ls), .no, .no, .no, .no, .no]) (by omega) (by omega) rfl (by rw [show (ls.length : Int) = ((lotsD ls).length : Nat) by rw [List.length_map]]; rfl)
  obtain ⟨j, s3, hj, e3⟩ := drawn_call (s := s2) (n := 2) (gl := Pf.gCons (gC (.int 2)) Pf.gNil) (env := [.bor (enc s2), .val (shelfD ps ls), .val (.int b), .val (.int l), .no, .no, .no]) (by decide) (by decide) rfl rfl
  obtain ⟨o, s4, ho, e4⟩ := drawn_call (s := s3) (n := 70) (gl := Pf.gCons (gC (.int 70)) Pf.gNil) (env := [.bor (enc s3), .val (shelfD ps ls), .val (.int b), .val (.int l), .no, .no, .no]) (by decide) (by decide) rfl rfl
  have key : ∃ e, smallV e ∧ atD (.list [.str "first", .str "last"]) (.int j) = some e := by
    match j, hj with
    | 0, _ => exact ⟨_, small_first, rfl⟩
    | 1, _ => exact ⟨_, small_last, rfl⟩
  obtain ⟨e, he, ee⟩ := key
  have e1 : (gCallB 0 (Pf.gCons (gBlt lenK (Pf.gCons (gIxP 1 (gC (.int 0))) Pf.gNil)) Pf.gNil) m__law_drawn) [.bor (enc s), .val (shelfD ps ls), .no, .no, .no, .no, .no] = some (.ok (.int b, [.bor (enc s1), .val (shelfD ps ls), .no, .no, .no, .no, .no])) := e1
  have e2 : (gCallB 0 (Pf.gCons (gBlt lenK (Pf.gCons (gIxP 1 (gC (.int 1))) Pf.gNil)) Pf.gNil) m__law_drawn) [.bor (enc s1), .val (shelfD ps ls), .no, .no, .no, .no, .no] = some (.ok (.int l, [.bor (enc s2), .val (shelfD ps ls), .no, .no, .no, .no, .no])) := e2
  have e3 : gCallB 0 (Pf.gCons (gC (.int 2)) Pf.gNil) m__law_drawn [.bor (enc s2), .val (shelfD ps ls), .val (.int b), .val (.int l), .no, .no, .no] = some (.ok (.int j, [.bor (enc s3), .val (shelfD ps ls), .val (.int b), .val (.int l), .no, .no, .no])) := e3
  have e4 : (gCallB 0 (Pf.gCons (gC (.int 70)) Pf.gNil) m__law_drawn) [.bor (enc s3), .val (shelfD ps ls), .val (.int b), .val (.int l), .no, .no, .no] = some (.ok (.int o, [.bor (enc s4), .val (shelfD ps ls), .val (.int b), .val (.int l), .no, .no, .no])) := e4
  have a1 : gE (Pf.gCons (gCallB 0 (Pf.gCons (gBlt lenK (Pf.gCons (gIxP 1 (gC (.int 0))) Pf.gNil)) Pf.gNil) m__law_drawn) (Pf.gCons (gCallB 0 (Pf.gCons (gBlt lenK (Pf.gCons (gIxP 1 (gC (.int 1))) Pf.gNil)) Pf.gNil) m__law_drawn) Pf.gNil)) (gPar 2 3) [.bor (enc s), .val (shelfD ps ls), .no, .no, .no, .no, .no] = some (.nx [.bor (enc s2), .val (shelfD ps ls), .val (.int b), .val (.int l), .no, .no, .no]) := by
    have y2 : Pf.gCons (gCallB 0 (Pf.gCons (gBlt lenK (Pf.gCons (gIxP 1 (gC (.int 1))) Pf.gNil)) Pf.gNil) m__law_drawn) Pf.gNil [.bor (enc s1), .val (shelfD ps ls), .no, .no, .no, .no, .no] = some (.ok ([.int l], [.bor (enc s2), .val (shelfD ps ls), .no, .no, .no, .no, .no])) := by
      show M.bd (gCallB 0 (Pf.gCons (gBlt lenK (Pf.gCons (gIxP 1 (gC (.int 1))) Pf.gNil)) Pf.gNil) m__law_drawn) (fun d => M.bd Pf.gNil fun ds => M.ok (d :: ds)) _ = _
      rw [bd_ok e2]
      rfl
    have y1 : Pf.gCons (gCallB 0 (Pf.gCons (gBlt lenK (Pf.gCons (gIxP 1 (gC (.int 0))) Pf.gNil)) Pf.gNil) m__law_drawn) (Pf.gCons (gCallB 0 (Pf.gCons (gBlt lenK (Pf.gCons (gIxP 1 (gC (.int 1))) Pf.gNil)) Pf.gNil) m__law_drawn) Pf.gNil) [.bor (enc s), .val (shelfD ps ls), .no, .no, .no, .no, .no] = some (.ok ([.int b, .int l], [.bor (enc s2), .val (shelfD ps ls), .no, .no, .no, .no, .no])) := by
      show M.bd (gCallB 0 (Pf.gCons (gBlt lenK (Pf.gCons (gIxP 1 (gC (.int 0))) Pf.gNil)) Pf.gNil) m__law_drawn) (fun d => M.bd (Pf.gCons (gCallB 0 (Pf.gCons (gBlt lenK (Pf.gCons (gIxP 1 (gC (.int 1))) Pf.gNil)) Pf.gNil) m__law_drawn) Pf.gNil) fun ds => M.ok (d :: ds)) _ = _
      rw [bd_ok e1, bd_ok y2]
      rfl
    rw [gE_ok y1]
    rfl
  have a2 : gE (Pf.gCons (gBin atD (gFz (Pf.gLst (Pf.gCons (gC (.str "first")) (Pf.gCons (gC (.str "last")) Pf.gNil)))) (gCallB 0 (Pf.gCons (gC (.int 2)) Pf.gNil) m__law_drawn)) (Pf.gCons (gCallB 0 (Pf.gCons (gC (.int 70)) Pf.gNil) m__law_drawn) Pf.gNil)) (gPar 4 5) [.bor (enc s2), .val (shelfD ps ls), .val (.int b), .val (.int l), .no, .no, .no] = some (.nx (envP s4 (shelfD ps ls) (.int b) (.int l) e o .no)) := by
    have y3 : (gBin atD (gFz (Pf.gLst (Pf.gCons (gC (.str "first")) (Pf.gCons (gC (.str "last")) Pf.gNil)))) (gCallB 0 (Pf.gCons (gC (.int 2)) Pf.gNil) m__law_drawn)) [.bor (enc s2), .val (shelfD ps ls), .val (.int b), .val (.int l), .no, .no, .no] = some (.ok (e, [.bor (enc s3), .val (shelfD ps ls), .val (.int b), .val (.int l), .no, .no, .no])) := by
      show M.bd (gCallB 0 (Pf.gCons (gC (.int 2)) Pf.gNil) m__law_drawn) (fun k => M.opt (atD (.list [.str "first", .str "last"]) k)) _ = _
      rw [bd_ok e3]
      exact opt_ok ee
    have y2 : Pf.gCons (gCallB 0 (Pf.gCons (gC (.int 70)) Pf.gNil) m__law_drawn) Pf.gNil [.bor (enc s3), .val (shelfD ps ls), .val (.int b), .val (.int l), .no, .no, .no] = some (.ok ([.int o], [.bor (enc s4), .val (shelfD ps ls), .val (.int b), .val (.int l), .no, .no, .no])) := by
      show M.bd (gCallB 0 (Pf.gCons (gC (.int 70)) Pf.gNil) m__law_drawn) (fun d => M.bd Pf.gNil fun ds => M.ok (d :: ds)) _ = _
      rw [bd_ok e4]
      rfl
    have y1 : Pf.gCons (gBin atD (gFz (Pf.gLst (Pf.gCons (gC (.str "first")) (Pf.gCons (gC (.str "last")) Pf.gNil)))) (gCallB 0 (Pf.gCons (gC (.int 2)) Pf.gNil) m__law_drawn)) (Pf.gCons (gCallB 0 (Pf.gCons (gC (.int 70)) Pf.gNil) m__law_drawn) Pf.gNil) [.bor (enc s2), .val (shelfD ps ls), .val (.int b), .val (.int l), .no, .no, .no] = some (.ok ([e, .int o], [.bor (enc s4), .val (shelfD ps ls), .val (.int b), .val (.int l), .no, .no, .no])) := by
      show M.bd (gBin atD (gFz (Pf.gLst (Pf.gCons (gC (.str "first")) (Pf.gCons (gC (.str "last")) Pf.gNil)))) (gCallB 0 (Pf.gCons (gC (.int 2)) Pf.gNil) m__law_drawn)) (fun d => M.bd (Pf.gCons (gCallB 0 (Pf.gCons (gC (.int 70)) Pf.gNil) m__law_drawn) Pf.gNil) fun ds => M.ok (d :: ds)) _ = _
      rw [bd_ok y3, bd_ok y2]
      rfl
    rw [gE_ok y1]
    rfl
  obtain ⟨b', hb', a3⟩ := deed1_ok s4 ps ls (.int b) (.int l) e o .no (small_int _)
  have zl : gFz (Pf.gLst (Pf.gCons (gBlt lenK (Pf.gCons (gIxP 1 (gC (.int 1))) Pf.gNil)) (Pf.gCons (gBin subD (gC (.int 0)) (gC (.int 1))) (Pf.gCons (gC (.bool true)) (Pf.gCons (gC (.str "0")) Pf.gNil))))) (envP s4 (shelfD ps ls) b' (.int l) e o .no) = some (.ok (.list [.int (lotsD ls).length, .int (-1), .bool true, .str "0"], envP s4 (shelfD ps ls) b' (.int l) e o .no)) := rfl
  have a4 : ∃ l', smallV l' ∧ pickIf 4 8 3 (gFz (Pf.gLst (Pf.gCons (gBlt lenK (Pf.gCons (gIxP 1 (gC (.int 1))) Pf.gNil)) (Pf.gCons (gBin subD (gC (.int 0)) (gC (.int 1))) (Pf.gCons (gC (.bool true)) (Pf.gCons (gC (.str "0")) Pf.gNil)))))) (gBin subD (gN 5) (gC (.int (4 : Nat)))) (envP s4 (shelfD ps ls) b' (.int l) e o .no) = some (.nx (envP s4 (shelfD ps ls) b' l' e o .no)) := by
    rcases pickIf_ok (lo := 4) (hi := 8) (i := 3) zl rfl (fun v hv => by
      simp only [List.mem_cons, List.mem_nil_iff, or_false] at hv
      rcases hv with rfl | rfl | rfl | rfl
      · exact small_int _
      · exact small_int _
      · exact small_bool _
      · exact small_str (by decide +kernel)) with h | ⟨v, hv, h⟩
    · exact ⟨_, small_int _, h⟩
    · exact ⟨v, hv, h⟩
  obtain ⟨l', hl', a4⟩ := a4
  have zf : gFz (Pf.gLst (Pf.gCons (gC (.str "First")) (Pf.gCons (gC .none) (Pf.gCons (gC (.int 0)) Pf.gNil)))) (envP s4 (shelfD ps ls) b' l' e o .no) = some (.ok (.list [.str "First", .none, .int 0], envP s4 (shelfD ps ls) b' l' e o .no)) := rfl
  have a5 : ∃ e', smallV e' ∧ pickIf 8 11 4 (gFz (Pf.gLst (Pf.gCons (gC (.str "First")) (Pf.gCons (gC .none) (Pf.gCons (gC (.int 0)) Pf.gNil))))) (gBin subD (gN 5) (gC (.int (8 : Nat)))) (envP s4 (shelfD ps ls) b' l' e o .no) = some (.nx (envP s4 (shelfD ps ls) b' l' e' o .no)) := by
    rcases pickIf_ok (lo := 8) (hi := 11) (i := 4) zf rfl (fun v hv => by
      simp only [List.mem_cons, List.mem_nil_iff, or_false] at hv
      rcases hv with rfl | rfl | rfl
      · exact small_str (by decide +kernel)
      · exact small_none
      · exact small_int _) with h | ⟨v, hv, h⟩
    · exact ⟨_, he, h⟩
    · exact ⟨v, hv, h⟩
  obtain ⟨e', he', a5⟩ := a5
  obtain ⟨d, r, hd, a6⟩ := deedR_ok s4 (shelfD ps ls) b' l' e' o hb' hl' he'
  refine ⟨s4, d, hd, fnB_rt (r := r) ?_⟩
  have eE : envB 7 (enc s) [shelfD ps ls] = [.bor (enc s), .val (shelfD ps ls), .no, .no, .no, .no, .no] := rfl
  have eG : G__law_deed = gSeq (gE (Pf.gCons (gCallB 0 (Pf.gCons (gBlt lenK (Pf.gCons (gIxP 1 (gC (.int 0))) Pf.gNil)) Pf.gNil) m__law_drawn) (Pf.gCons (gCallB 0 (Pf.gCons (gBlt lenK (Pf.gCons (gIxP 1 (gC (.int 1))) Pf.gNil)) Pf.gNil) m__law_drawn) Pf.gNil)) (gPar 2 3)) (gSeq (gE (Pf.gCons (gBin atD (gFz (Pf.gLst (Pf.gCons (gC (.str "first")) (Pf.gCons (gC (.str "last")) Pf.gNil)))) (gCallB 0 (Pf.gCons (gC (.int 2)) Pf.gNil) m__law_drawn)) (Pf.gCons (gCallB 0 (Pf.gCons (gC (.int 70)) Pf.gNil) m__law_drawn) Pf.gNil)) (gPar 4 5)) (gSeq deed1 (gSeq (pickIf 4 8 3 (gFz (Pf.gLst (Pf.gCons (gBlt lenK (Pf.gCons (gIxP 1 (gC (.int 1))) Pf.gNil)) (Pf.gCons (gBin subD (gC (.int 0)) (gC (.int 1))) (Pf.gCons (gC (.bool true)) (Pf.gCons (gC (.str "0")) Pf.gNil)))))) (gBin subD (gN 5) (gC (.int (4 : Nat))))) (gSeq (pickIf 8 11 4 (gFz (Pf.gLst (Pf.gCons (gC (.str "First")) (Pf.gCons (gC .none) (Pf.gCons (gC (.int 0)) Pf.gNil))))) (gBin subD (gN 5) (gC (.int (8 : Nat))))) deedR)))) := rfl
  rw [eE, eG, seq_nx a1, seq_nx a2, seq_nx a3, seq_nx a4, seq_nx a5, a6]
end Q
/-! part M6 -/
set_option Elab.async false
set_option linter.all false
set_option maxRecDepth 100000
set_option maxHeartbeats 2000000
namespace Q
open PySem PySem.Spec L2
open Pf
/-! ### what can be done -/
def inR (v : PyData) (lo hi : Int) : Bool := match v with
  | .int i => decide (lo ≤ i ∧ i ≤ hi)
  | _ => false
theorem law_is_ok (v : PyData) (hv : flatD v = true) (lo hi : Int) : m__law_is [v, .int lo, .int hi] = some (.ok (.bool (inR v lo hi))) := by
  cases v with
  | none => rfl
  | bool b => rfl
  | str x => rfl
  | list xs => cases hv
  | tuple xs => cases hv
  | dict d => cases hv
  | int i =>
    refine fnD_rt (r := [.val (.int i), .val (.int lo), .val (.int hi)]) ?_
    have eE : envD 3 [PyData.int i, .int lo, .int hi] = [.val (.int i), .val (.int lo), .val (.int hi)] := rfl
    rw [eE]
    have c1 : (cmpD fun i j => decide (i ≤ j)) (.int lo) (.int i) = some (decide (lo ≤ i)) := rfl
    have c2 : (cmpD fun i j => decide (i ≤ j)) (.int i) (.int hi) = some (decide (i ≤ hi)) := rfl
    have ch : gChain (gN 1) (gN 0) (gN 2) (cmpD fun i j => decide (i ≤ j)) (cmpD fun i j => decide (i ≤ j)) [.val (.int i), .val (.int lo), .val (.int hi)] = some (.ok (.bool (inR (.int i) lo hi), [.val (.int i), .val (.int lo), .val (.int hi)])) := by
      unfold gChain
      rw [bd_ok (n_val (d := .int lo) rfl), bd_ok (n_val (d := .int i) rfl), bd_ok (opt_ok c1)]
      by_cases h : lo ≤ i
      · rw [decide_eq_true h, if_pos rfl, bd_ok (n_val (d := .int hi) rfl)]
        refine opt_ok ?_
        rw [c2]
        simp [inR, h]
      · rw [decide_eq_false h]
        simp [inR, h, M.ok]
    have h1 : gAnd (gNot (gIsa "bool" (gN 0))) (gChain (gN 1) (gN 0) (gN 2) (cmpD fun i j => decide (i ≤ j)) (cmpD fun i j => decide (i ≤ j))) [.val (.int i), .val (.int lo), .val (.int hi)] = gChain (gN 1) (gN 0) (gN 2) (cmpD fun i j => decide (i ≤ j)) (cmpD fun i j => decide (i ≤ j)) [.val (.int i), .val (.int lo), .val (.int hi)] := rfl
    have h2 : gAnd (gIsa "int" (gN 0)) (gAnd (gNot (gIsa "bool" (gN 0))) (gChain (gN 1) (gN 0) (gN 2) (cmpD fun i j => decide (i ≤ j)) (cmpD fun i j => decide (i ≤ j)))) [.val (.int i), .val (.int lo), .val (.int hi)] = gAnd (gNot (gIsa "bool" (gN 0))) (gChain (gN 1) (gN 0) (gN 2) (cmpD fun i j => decide (i ≤ j)) (cmpD fun i j => decide (i ≤ j))) [.val (.int i), .val (.int lo), .val (.int hi)] := rfl
    show gE (gAnd (gIsa "int" (gN 0)) (gAnd (gNot (gIsa "bool" (gN 0))) (gChain (gN 1) (gN 0) (gN 2) (cmpD fun i j => decide (i ≤ j)) (cmpD fun i j => decide (i ≤ j))))) gRt _ = _
    rw [gE_ok (h2.trans (h1.trans ch))]
    rfl
def inP (v : PyData) (n : Nat) : Bool := match v with
  | .int i => decide (0 ≤ i ∧ i < n)
  | _ => false
theorem inP_inR (v : PyData) (n : Nat) : inR v 0 ((n : Int) - 1) = inP v n := by
  cases v with
  | int i => simp only [inR, inP]; congr 1; simp; omega
  | _ => rfl
theorem place_ok (v : PyData) (hv : flatD v = true) (n : Nat) : m_is_place [v, .int n] = some (.ok (.bool (inP v n))) := by
  cases v with
  | none => rfl
  | bool b => rfl
  | str x => rfl
  | list xs => cases hv
  | tuple xs => cases hv
  | dict d => cases hv
  | int i =>
    refine fnD_rt (r := [.val (.int i), .val (.int n)]) ?_
    have eE : envD 2 [PyData.int i, .int n] = [.val (.int i), .val (.int n)] := rfl
    rw [eE]
    have c1 : (cmpD fun i j => decide (i ≤ j)) (.int 0) (.int i) = some (decide (0 ≤ i)) := rfl
    have c2 : (cmpD fun i j => decide (i < j)) (.int i) (.int n) = some (decide (i < n)) := rfl
    have ch : gChain (gC (.int 0)) (gN 0) (gN 1) (cmpD fun i j => decide (i ≤ j)) (cmpD fun i j => decide (i < j)) [.val (.int i), .val (.int n)] = some (.ok (.bool (inP (.int i) n), [.val (.int i), .val (.int n)])) := by
      have zc : gC (.int 0) [.val (.int i), .val (.int n)] = some (.ok (.int 0, [.val (.int i), .val (.int n)])) := rfl
      unfold gChain
      rw [bd_ok zc]
      rw [bd_ok (n_val (d := .int i) rfl), bd_ok (opt_ok c1)]
      by_cases h : 0 ≤ i
      · rw [decide_eq_true h, if_pos rfl, bd_ok (n_val (d := .int n) rfl)]
        refine opt_ok ?_
        rw [c2]
        simp [inP, h]
      · rw [decide_eq_false h]
        simp [inP, h, M.ok]
    have h1 : gAnd (gCall m_is_number (Pf.gCons (gN 0) Pf.gNil)) (gChain (gC (.int 0)) (gN 0) (gN 1) (cmpD fun i j => decide (i ≤ j)) (cmpD fun i j => decide (i < j))) [.val (.int i), .val (.int n)] = gChain (gC (.int 0)) (gN 0) (gN 1) (cmpD fun i j => decide (i ≤ j)) (cmpD fun i j => decide (i < j)) [.val (.int i), .val (.int n)] := rfl
    show gE (gAnd (gCall m_is_number (Pf.gCons (gN 0) Pf.gNil)) (gChain (gC (.int 0)) (gN 0) (gN 1) (cmpD fun i j => decide (i ≤ j)) (cmpD fun i j => decide (i < j)))) gRt _ = _
    rw [gE_ok (h1.trans ch)]
    rfl
/-- a good end -/
def endOk (e : PyData) : Bool := PyData.eqv (.str "first") e || PyData.eqv (.str "last") e
theorem inD_ends (e : PyData) (he : flatD e = true) : inD e (.tuple [.str "first", .str "last"]) = some (endOk e) := by
  show (if flatD e = true ∧ ([.str "first", .str "last"] : List PyData).all flatD = true then some (([.str "first", .str "last"] : List PyData).any fun y => PyData.eqv y e) else none) = _
  rw [if_pos ⟨he, rfl⟩]
  simp [endOk]
/-- just what is_deed asks of three -/
def good3 (b l e : PyData) (n c : Nat) : Bool := inP b n && (inP l c && endOk e)
theorem is_deed_l (sh b l e : PyData) : m_is_deed [sh, .list [b, l, e]] = some (.ok (.bool false)) := rfl
theorem is_deed_2 (sh b l : PyData) : m_is_deed [sh, .tuple [b, l]] = some (.ok (.bool false)) := rfl
theorem is_deed_4 (sh b l e x : PyData) : m_is_deed [sh, .tuple [b, l, e, x]] = some (.ok (.bool false)) := rfl
def envI (ps : List (Option Nat)) (ls : List (List Nat)) (b l e : PyData) : En := [.val (shelfD ps ls), .val (.tuple [b, l, e]), .val (.tuple (pricesD ps)), .val (.tuple (lotsD ls)), .val b, .val l, .val e]
theorem and_tf {ga gb : M PyData} {k : Bool} {env : En} (h : ga env = some (.ok (.bool k, env))) : gAnd ga gb env = if k = true then gb env else some (.ok (.bool false, env)) := by
  unfold gAnd
  rw [bd_ok h]
  cases k <;> rfl
theorem is_deed_3 (ps : List (Option Nat)) (ls : List (List Nat)) (b l e : PyData) (hb : flatD b = true) (hl : flatD l = true) (he : flatD e = true) : m_is_deed [shelfD ps ls, .tuple [b, l, e]] = some (.ok (.bool (good3 b l e ps.length ls.length))) := by
  refine fnD_rt (r := envI ps ls b l e) ?_
  have eG : G_is_deed (envD 7 [shelfD ps ls, .tuple [b, l, e]]) = gRet (gAnd (gCall m_is_place (Pf.gCons (gN 4) (Pf.gCons (gLenP 2) Pf.gNil))) (gAnd (gCall m_is_place (Pf.gCons (gN 5) (Pf.gCons (gLenP 3) Pf.gNil))) (gCmp inD (gN 6) (Pf.gTup (Pf.gCons (gC (.str "first")) (Pf.gCons (gC (.str "last")) Pf.gNil)))))) (envI ps ls b l e) := rfl
  rw [eG]
  have p1 : gCall m_is_place (Pf.gCons (gN 4) (Pf.gCons (gLenP 2) Pf.gNil)) (envI ps ls b l e) = some (.ok (.bool (inP b ps.length), envI ps ls b l e)) := by
    have z : Pf.gCons (gN 4) (Pf.gCons (gLenP 2) Pf.gNil) (envI ps ls b l e) = some (.ok ([b, .int (pricesD ps).length], envI ps ls b l e)) := rfl
    show M.bd (Pf.gCons (gN 4) (Pf.gCons (gLenP 2) Pf.gNil)) (fun ds => gLift (m_is_place ds)) _ = _
    rw [bd_ok z, List.length_map, place_ok b hb]
    rfl
  have p2 : gCall m_is_place (Pf.gCons (gN 5) (Pf.gCons (gLenP 3) Pf.gNil)) (envI ps ls b l e) = some (.ok (.bool (inP l ls.length), envI ps ls b l e)) := by
    have z : Pf.gCons (gN 5) (Pf.gCons (gLenP 3) Pf.gNil) (envI ps ls b l e) = some (.ok ([l, .int (lotsD ls).length], envI ps ls b l e)) := rfl
    show M.bd (Pf.gCons (gN 5) (Pf.gCons (gLenP 3) Pf.gNil)) (fun ds => gLift (m_is_place ds)) _ = _
    rw [bd_ok z, List.length_map, place_ok l hl]
    rfl
  have p3 : gCmp inD (gN 6) (Pf.gTup (Pf.gCons (gC (.str "first")) (Pf.gCons (gC (.str "last")) Pf.gNil))) (envI ps ls b l e) = some (.ok (.bool (endOk e), envI ps ls b l e)) := by
    show M.bd (gN 6) (fun d => M.bd (Pf.gTup (Pf.gCons (gC (.str "first")) (Pf.gCons (gC (.str "last")) Pf.gNil))) fun y => M.opt ((inD d y).map PyData.bool)) _ = _
    rw [bd_ok (n_val (d := e) rfl)]
    have z : Pf.gTup (Pf.gCons (gC (.str "first")) (Pf.gCons (gC (.str "last")) Pf.gNil)) (envI ps ls b l e) = some (.ok (.tuple [.str "first", .str "last"], envI ps ls b l e)) := rfl
    rw [bd_ok z, inD_ends e he]
    rfl
  have all : gAnd (gCall m_is_place (Pf.gCons (gN 4) (Pf.gCons (gLenP 2) Pf.gNil))) (gAnd (gCall m_is_place (Pf.gCons (gN 5) (Pf.gCons (gLenP 3) Pf.gNil))) (gCmp inD (gN 6) (Pf.gTup (Pf.gCons (gC (.str "first")) (Pf.gCons (gC (.str "last")) Pf.gNil))))) (envI ps ls b l e) = some (.ok (.bool (good3 b l e ps.length ls.length), envI ps ls b l e)) := by
    rw [and_tf p1]
    unfold good3
    cases inP b ps.length with
    | false => rfl
    | true =>
      rw [if_pos rfl, and_tf p2]
      cases inP l ls.length with
      | false => rfl
      | true => rw [if_pos rfl, p3]; rfl
  show gE _ gRt _ = _
  rw [gE_ok all]
  rfl
end Q
/-! part M7 -/
set_option Elab.async false
set_option linter.all false
set_option maxRecDepth 100000
set_option maxHeartbeats 2000000
namespace Q
open PySem PySem.Spec L2
open Pf
/-! ### why a deed can't be done -/
theorem why_not_no {sh d : PyData} (h : m_is_deed [sh, d] = some (.ok (.bool false))) : m_why_not [sh, d] = some (.ok (.str "form")) := by
  refine fnD_rt (r := [.val sh, .val d, .no]) ?_
  have eE : envD 3 [sh, d] = [.val sh, .val d, .no] := rfl
  rw [eE]
  have z : gCall m_is_deed (Pf.gCons (gN 0) (Pf.gCons (gN 1) Pf.gNil)) [.val sh, .val d, .no] = some (.ok (.bool false, [.val sh, .val d, .no])) := by
    have z : Pf.gCons (gN 0) (Pf.gCons (gN 1) Pf.gNil) [.val sh, .val d, .no] = some (.ok ([sh, d], [.val sh, .val d, .no])) := rfl
    show M.bd (Pf.gCons (gN 0) (Pf.gCons (gN 1) Pf.gNil)) (fun ds => gLift (m_is_deed ds)) _ = _
    rw [bd_ok z, h]
    rfl
  have t : gNotT (gTru (gCall m_is_deed (Pf.gCons (gN 0) (Pf.gCons (gN 1) Pf.gNil)))) [.val sh, .val d, .no] = some (.ok (true, [.val sh, .val d, .no])) := by
    show M.bd (M.bd (gCall m_is_deed (Pf.gCons (gN 0) (Pf.gCons (gN 1) Pf.gNil))) fun d => M.opt (truD d)) (fun b => M.ok (!b)) _ = _
    have y : M.bd (gCall m_is_deed (Pf.gCons (gN 0) (Pf.gCons (gN 1) Pf.gNil))) (fun d => M.opt (truD d)) [.val sh, .val d, .no] = some (.ok (false, [.val sh, .val d, .no])) := by
      rw [bd_ok z]
      rfl
    rw [bd_ok y]
    rfl
  unfold G_why_not gSeq
  rw [ifS_t t]
  rfl
theorem price_at {ps : List (Option Nat)} {k : Nat} (h : k < ps.length) : (pricesD ps)[k]? = some (priceD ps[k]) := by
  show (ps.map _)[k]? = _
  rw [List.getElem?_map, List.getElem?_eq_getElem h]; rfl
theorem why_not_yes (ps : List (Option Nat)) (ls : List (List Nat)) (k : Nat) (l e : PyData) (hk : k < ps.length) (h : m_is_deed [shelfD ps ls, .tuple [.int k, l, e]] = some (.ok (.bool true))) : m_why_not [shelfD ps ls, .tuple [.int k, l, e]] = some (.ok (if ps[k] = none then .str "fixed" else .none)) := by
  have z : gCall m_is_deed (Pf.gCons (gN 0) (Pf.gCons (gN 1) Pf.gNil)) [.val (shelfD ps ls), .val (.tuple [.int k, l, e]), .no] = some (.ok (.bool true, [.val (shelfD ps ls), .val (.tuple [.int k, l, e]), .no])) := by
    have z : Pf.gCons (gN 0) (Pf.gCons (gN 1) Pf.gNil) [.val (shelfD ps ls), .val (.tuple [.int k, l, e]), .no] = some (.ok ([shelfD ps ls, .tuple [.int k, l, e]], [.val (shelfD ps ls), .val (.tuple [.int k, l, e]), .no])) := rfl
    show M.bd (Pf.gCons (gN 0) (Pf.gCons (gN 1) Pf.gNil)) (fun ds => gLift (m_is_deed ds)) _ = _
    rw [bd_ok z, h]
    rfl
  have t : gNotT (gTru (gCall m_is_deed (Pf.gCons (gN 0) (Pf.gCons (gN 1) Pf.gNil)))) [.val (shelfD ps ls), .val (.tuple [.int k, l, e]), .no] = some (.ok (false, [.val (shelfD ps ls), .val (.tuple [.int k, l, e]), .no])) := by
    show M.bd (M.bd (gCall m_is_deed (Pf.gCons (gN 0) (Pf.gCons (gN 1) Pf.gNil))) fun d => M.opt (truD d)) (fun b => M.ok (!b)) _ = _
    have y : M.bd (gCall m_is_deed (Pf.gCons (gN 0) (Pf.gCons (gN 1) Pf.gNil))) (fun d => M.opt (truD d)) [.val (shelfD ps ls), .val (.tuple [.int k, l, e]), .no] = some (.ok (true, [.val (shelfD ps ls), .val (.tuple [.int k, l, e]), .no])) := by
      rw [bd_ok z]
      rfl
    rw [bd_ok y]
    rfl
  have eE : envD 3 [shelfD ps ls, .tuple [.int k, l, e]] = [.val (shelfD ps ls), .val (.tuple [.int k, l, e]), .no] := rfl
  have a1 : gIfS (gNotT (gTru (gCall m_is_deed (Pf.gCons (gN 0) (Pf.gCons (gN 1) Pf.gNil))))) (gRet (gC (.str "form"))) gNx [.val (shelfD ps ls), .val (.tuple [.int k, l, e]), .no] = some (.nx [.val (shelfD ps ls), .val (.tuple [.int k, l, e]), .no]) := by rw [ifS_f t]; rfl
  have a2 : gSet 2 (gIxP 0 (gC (.int 0))) [.val (shelfD ps ls), .val (.tuple [.int k, l, e]), .no] = some (.nx [.val (shelfD ps ls), .val (.tuple [.int k, l, e]), .val (.tuple (pricesD ps))]) := rfl
  have x1 : gIxP 2 (gIxP 1 (gC (.int 0))) [.val (shelfD ps ls), .val (.tuple [.int k, l, e]), .val (.tuple (pricesD ps))] = some (.ok (priceD ps[k], [.val (shelfD ps ls), .val (.tuple [.int k, l, e]), .val (.tuple (pricesD ps))])) :=
    ixP_tup (ds := pricesD ps) (ds1 := pricesD ps) (k := k) rfl rfl rfl (price_at hk)
  have t2 : gTst isD (gIxP 2 (gIxP 1 (gC (.int 0)))) (gC .none) [.val (shelfD ps ls), .val (.tuple [.int k, l, e]), .val (.tuple (pricesD ps))] = some (.ok (isNoneD (priceD ps[k]), [.val (shelfD ps ls), .val (.tuple [.int k, l, e]), .val (.tuple (pricesD ps))])) := by
    show M.bd (gIxP 2 (gIxP 1 (gC (.int 0)))) (fun d => M.bd (gC .none) fun e => M.opt (isD d e)) _ = _
    rw [bd_ok x1]
    rfl
  by_cases hn : ps[k] = none
  · rw [if_pos hn]
    have ht : isNoneD (priceD ps[k]) = true := by rw [hn]; rfl
    rw [ht] at t2
    refine fnD_rt (r := [.val (shelfD ps ls), .val (.tuple [.int k, l, e]), .val (.tuple (pricesD ps))]) ?_
    unfold G_why_not
    rw [eE, seq_nx a1, seq_nx a2]
    unfold gSeq
    rw [ifS_t t2]
    rfl
  · rw [if_neg hn]
    have ht : isNoneD (priceD ps[k]) = false := by
      cases hq : ps[k] with
      | none => exact absurd hq hn
      | some q => rfl
    rw [ht] at t2
    have a3 : gIfS (gTst isD (gIxP 2 (gIxP 1 (gC (.int 0)))) (gC .none)) (gRet (gC (.str "fixed"))) gNx [.val (shelfD ps ls), .val (.tuple [.int k, l, e]), .val (.tuple (pricesD ps))] = some (.nx [.val (shelfD ps ls), .val (.tuple [.int k, l, e]), .val (.tuple (pricesD ps))]) := by rw [ifS_f t2]; rfl
    refine fnD_rt (r := [.val (shelfD ps ls), .val (.tuple [.int k, l, e]), .val (.tuple (pricesD ps))]) ?_
    unfold G_why_not
    rw [eE, seq_nx a1, seq_nx a2, seq_nx a3]
    rfl
end Q
/-! part M8 -/
set_option Elab.async false
set_option linter.all false
set_option maxRecDepth 100000
set_option maxHeartbeats 2000000
namespace Q
open PySem PySem.Spec L2
open Pf
theorem law_why_l (sh b l e : PyData) : m__law_why [sh, .list [b, l, e]] = some (.ok (.str "form")) := rfl
theorem law_why_2 (sh b l : PyData) : m__law_why [sh, .tuple [b, l]] = some (.ok (.str "form")) := rfl
theorem law_why_4 (sh b l e x : PyData) : m__law_why [sh, .tuple [b, l, e, x]] = some (.ok (.str "form")) := rfl
def envW (ps : List (Option Nat)) (ls : List (List Nat)) (b l e : PyData) : En := [.val (shelfD ps ls), .val (.tuple [b, l, e])]
theorem ninD_ends (e : PyData) (he : flatD e = true) : ninD e (.tuple [.str "first", .str "last"]) = some (!endOk e) := by
  unfold ninD; rw [inD_ends e he]
def whyT1 : M Bool := gOrT (gNotT (gTru (gIsa "tuple" (gN 1)))) (gOrT (gTst neD (gLenP 1) (gC (.int 3))) (gTst ninD (gIxP 1 (gC (.int 2))) (Pf.gTup (Pf.gCons (gC (.str "first")) (Pf.gCons (gC (.str "last")) Pf.gNil)))))
def whyT2 : M Bool := gNotT (gTru (gCall m__law_is (Pf.gCons (gIxP 1 (gC (.int 0))) (Pf.gCons (gC (.int 0)) (Pf.gCons (gBin subD (gBlt lenK (Pf.gCons (gIxP 0 (gC (.int 0))) Pf.gNil)) (gC (.int 1))) Pf.gNil)))))
def whyT3 : M Bool := gNotT (gTru (gCall m__law_is (Pf.gCons (gIxP 1 (gC (.int 1))) (Pf.gCons (gC (.int 0)) (Pf.gCons (gBin subD (gBlt lenK (Pf.gCons (gIxP 0 (gC (.int 1))) Pf.gNil)) (gC (.int 1))) Pf.gNil)))))
def whyR : S := gRet (gIf (gTst isD (gBin atD (gIxP 0 (gC (.int 0))) (gIxP 1 (gC (.int 0)))) (gC .none)) (gC (.str "fixed")) (gC (.str "")))
theorem whyG : G__law_why = gSeq (gIfS whyT1 (gRet (gC (.str "form"))) gNx) (gSeq (gIfS whyT2 (gRet (gC (.str "form"))) gNx) (gSeq (gIfS whyT3 (gRet (gC (.str "form"))) gNx) whyR)) := rfl
section
variable (ps : List (Option Nat)) (ls : List (List Nat)) (b l e : PyData)
theorem whyT1_ok (he : flatD e = true) : whyT1 (envW ps ls b l e) = some (.ok (!endOk e, envW ps ls b l e)) := by
  have z : gTst ninD (gIxP 1 (gC (.int 2))) (Pf.gTup (Pf.gCons (gC (.str "first")) (Pf.gCons (gC (.str "last")) Pf.gNil))) (envW ps ls b l e) = some (.ok (!endOk e, envW ps ls b l e)) := by
    have x1 : gIxP 1 (gC (.int 2)) (envW ps ls b l e) = some (.ok (e, envW ps ls b l e)) := rfl
    have x2 : Pf.gTup (Pf.gCons (gC (.str "first")) (Pf.gCons (gC (.str "last")) Pf.gNil)) (envW ps ls b l e) = some (.ok (.tuple [.str "first", .str "last"], envW ps ls b l e)) := rfl
    show M.bd (gIxP 1 (gC (.int 2))) (fun d => M.bd (Pf.gTup (Pf.gCons (gC (.str "first")) (Pf.gCons (gC (.str "last")) Pf.gNil))) fun y => M.opt (ninD d y)) _ = _
    rw [bd_ok x1, bd_ok x2]
    exact opt_ok (ninD_ends e he)
  have y : whyT1 (envW ps ls b l e) = gTst ninD (gIxP 1 (gC (.int 2))) (Pf.gTup (Pf.gCons (gC (.str "first")) (Pf.gCons (gC (.str "last")) Pf.gNil))) (envW ps ls b l e) := rfl
  rw [y, z]
theorem whyT2_ok (hb : flatD b = true) : whyT2 (envW ps ls b l e) = some (.ok (!inP b ps.length, envW ps ls b l e)) := by
  have z : gCall m__law_is (Pf.gCons (gIxP 1 (gC (.int 0))) (Pf.gCons (gC (.int 0)) (Pf.gCons (gBin subD (gBlt lenK (Pf.gCons (gIxP 0 (gC (.int 0))) Pf.gNil)) (gC (.int 1))) Pf.gNil))) (envW ps ls b l e) = some (.ok (.bool (inP b ps.length), envW ps ls b l e)) := by
    have x : Pf.gCons (gIxP 1 (gC (.int 0))) (Pf.gCons (gC (.int 0)) (Pf.gCons (gBin subD (gBlt lenK (Pf.gCons (gIxP 0 (gC (.int 0))) Pf.gNil)) (gC (.int 1))) Pf.gNil)) (envW ps ls b l e) = some (.ok ([b, .int 0, .int (((pricesD ps).length : Int) - 1)], envW ps ls b l e)) := rfl
    show M.bd (Pf.gCons (gIxP 1 (gC (.int 0))) (Pf.gCons (gC (.int 0)) (Pf.gCons (gBin subD (gBlt lenK (Pf.gCons (gIxP 0 (gC (.int 0))) Pf.gNil)) (gC (.int 1))) Pf.gNil))) (fun ds => gLift (m__law_is ds)) _ = _
    rw [bd_ok x, law_is_ok b hb, List.length_map, inP_inR]
    rfl
  show M.bd (M.bd (gCall m__law_is (Pf.gCons (gIxP 1 (gC (.int 0))) (Pf.gCons (gC (.int 0)) (Pf.gCons (gBin subD (gBlt lenK (Pf.gCons (gIxP 0 (gC (.int 0))) Pf.gNil)) (gC (.int 1))) Pf.gNil)))) fun d => M.opt (truD d)) (fun b => M.ok (!b)) _ = _
  have y : M.bd (gCall m__law_is (Pf.gCons (gIxP 1 (gC (.int 0))) (Pf.gCons (gC (.int 0)) (Pf.gCons (gBin subD (gBlt lenK (Pf.gCons (gIxP 0 (gC (.int 0))) Pf.gNil)) (gC (.int 1))) Pf.gNil)))) (fun d => M.opt (truD d)) (envW ps ls b l e) = some (.ok (inP b ps.length, envW ps ls b l e)) := by
    rw [bd_ok z]
    rfl
  rw [bd_ok y]
  rfl
theorem whyT3_ok (hl : flatD l = true) : whyT3 (envW ps ls b l e) = some (.ok (!inP l ls.length, envW ps ls b l e)) := by
  have z : gCall m__law_is (Pf.gCons (gIxP 1 (gC (.int 1))) (Pf.gCons (gC (.int 0)) (Pf.gCons (gBin subD (gBlt lenK (Pf.gCons (gIxP 0 (gC (.int 1))) Pf.gNil)) (gC (.int 1))) Pf.gNil))) (envW ps ls b l e) = some (.ok (.bool (inP l ls.length), envW ps ls b l e)) := by
    have x : Pf.gCons (gIxP 1 (gC (.int 1))) (Pf.gCons (gC (.int 0)) (Pf.gCons (gBin subD (gBlt lenK (Pf.gCons (gIxP 0 (gC (.int 1))) Pf.gNil)) (gC (.int 1))) Pf.gNil)) (envW ps ls b l e) = some (.ok ([l, .int 0, .int (((lotsD ls).length : Int) - 1)], envW ps ls b l e)) := rfl
    show M.bd (Pf.gCons (gIxP 1 (gC (.int 1))) (Pf.gCons (gC (.int 0)) (Pf.gCons (gBin subD (gBlt lenK (Pf.gCons (gIxP 0 (gC (.int 1))) Pf.gNil)) (gC (.int 1))) Pf.gNil))) (fun ds => gLift (m__law_is ds)) _ = _
    rw [bd_ok x, law_is_ok l hl, List.length_map, inP_inR]
    rfl
  show M.bd (M.bd (gCall m__law_is (Pf.gCons (gIxP 1 (gC (.int 1))) (Pf.gCons (gC (.int 0)) (Pf.gCons (gBin subD (gBlt lenK (Pf.gCons (gIxP 0 (gC (.int 1))) Pf.gNil)) (gC (.int 1))) Pf.gNil)))) fun d => M.opt (truD d)) (fun b => M.ok (!b)) _ = _
  have y : M.bd (gCall m__law_is (Pf.gCons (gIxP 1 (gC (.int 1))) (Pf.gCons (gC (.int 0)) (Pf.gCons (gBin subD (gBlt lenK (Pf.gCons (gIxP 0 (gC (.int 1))) Pf.gNil)) (gC (.int 1))) Pf.gNil)))) (fun d => M.opt (truD d)) (envW ps ls b l e) = some (.ok (inP l ls.length, envW ps ls b l e)) := by
    rw [bd_ok z]
    rfl
  rw [bd_ok y]
  rfl
theorem law_why_no (hb : flatD b = true) (hl : flatD l = true) (he : flatD e = true) (h : good3 b l e ps.length ls.length = false) : m__law_why [shelfD ps ls, .tuple [b, l, e]] = some (.ok (.str "form")) := by
  refine fnD_rt (r := envW ps ls b l e) ?_
  have eE : envD 2 [shelfD ps ls, .tuple [b, l, e]] = envW ps ls b l e := rfl
  have t1 := whyT1_ok ps ls b l e he
  have t2 := whyT2_ok ps ls b l e hb
  have t3 := whyT3_ok ps ls b l e hl
  rw [eE, whyG]
  cases h1 : endOk e with
  | false =>
    rw [h1] at t1
    unfold gSeq
    rw [ifS_t t1]
    rfl
  | true =>
    rw [h1] at t1
    have a1 : gIfS whyT1 (gRet (gC (.str "form"))) gNx (envW ps ls b l e) = some (.nx (envW ps ls b l e)) := by rw [ifS_f t1]; rfl
    rw [seq_nx a1]
    cases h2 : inP b ps.length with
    | false =>
      rw [h2] at t2
      unfold gSeq
      rw [ifS_t t2]
      rfl
    | true =>
      rw [h2] at t2
      have a2 : gIfS whyT2 (gRet (gC (.str "form"))) gNx (envW ps ls b l e) = some (.nx (envW ps ls b l e)) := by rw [ifS_f t2]; rfl
      rw [seq_nx a2]
      have h3 : inP l ls.length = false := by
        unfold good3 at h
        rw [h1, h2] at h
        simpa using h
      rw [h3] at t3
      unfold gSeq
      rw [ifS_t t3]
      rfl
theorem law_why_yes (k : Nat) (hk : k < ps.length) (hl : flatD l = true) (he : flatD e = true) (h : good3 (.int k) l e ps.length ls.length = true) : m__law_why [shelfD ps ls, .tuple [.int k, l, e]] = some (.ok (if ps[k] = none then .str "fixed" else .str "")) := by
  refine fnD_rt (r := envW ps ls (.int k) l e) ?_
  have eE : envD 2 [shelfD ps ls, .tuple [.int k, l, e]] = envW ps ls (.int k) l e := rfl
  have t1 := whyT1_ok ps ls (.int k) l e he
  have t2 := whyT2_ok ps ls (.int k) l e rfl
  have t3 := whyT3_ok ps ls (.int k) l e hl
  unfold good3 at h
  simp only [Bool.and_eq_true] at h
  rw [h.2.2] at t1
  rw [h.1] at t2
  rw [h.2.1] at t3
  have a1 : gIfS whyT1 (gRet (gC (.str "form"))) gNx (envW ps ls (.int k) l e) = some (.nx (envW ps ls (.int k) l e)) := by rw [ifS_f t1]; rfl
  have a2 : gIfS whyT2 (gRet (gC (.str "form"))) gNx (envW ps ls (.int k) l e) = some (.nx (envW ps ls (.int k) l e)) := by rw [ifS_f t2]; rfl
  have a3 : gIfS whyT3 (gRet (gC (.str "form"))) gNx (envW ps ls (.int k) l e) = some (.nx (envW ps ls (.int k) l e)) := by rw [ifS_f t3]; rfl
  rw [eE, whyG, seq_nx a1, seq_nx a2, seq_nx a3]
  have x0 : gBin atD (gIxP 0 (gC (.int 0))) (gIxP 1 (gC (.int 0))) (envW ps ls (.int k) l e) = some (.ok (priceD ps[k], envW ps ls (.int k) l e)) := by
    have y1 : gIxP 0 (gC (.int 0)) (envW ps ls (.int k) l e) = some (.ok (.tuple (pricesD ps), envW ps ls (.int k) l e)) := rfl
    have y2 : gIxP 1 (gC (.int 0)) (envW ps ls (.int k) l e) = some (.ok (.int k, envW ps ls (.int k) l e)) := rfl
    show M.bd (gIxP 0 (gC (.int 0))) (fun d => M.bd (gIxP 1 (gC (.int 0))) fun e => M.opt (atD d e)) _ = _
    rw [bd_ok y1, bd_ok y2]
    exact opt_ok (atI_nat (price_at hk))
  have t : gTst isD (gBin atD (gIxP 0 (gC (.int 0))) (gIxP 1 (gC (.int 0)))) (gC .none) (envW ps ls (.int k) l e) = some (.ok (isNoneD (priceD ps[k]), envW ps ls (.int k) l e)) := by
    show M.bd (gBin atD (gIxP 0 (gC (.int 0))) (gIxP 1 (gC (.int 0)))) (fun d => M.bd (gC .none) fun e => M.opt (isD d e)) _ = _
    rw [bd_ok x0]
    rfl
  have fin : gIf (gTst isD (gBin atD (gIxP 0 (gC (.int 0))) (gIxP 1 (gC (.int 0)))) (gC .none)) (gC (.str "fixed")) (gC (.str "")) (envW ps ls (.int k) l e) = some (.ok (if ps[k] = none then .str "fixed" else .str "", envW ps ls (.int k) l e)) := by
    unfold gIf
    rw [bd_ok t]
    cases hq : ps[k] with
    | none => rfl
    | some q => rfl
  unfold whyR
  show gE _ gRt _ = _
  rw [gE_ok fin]
  rfl
end
end Q
/-! part M9 -/
set_option Elab.async false
set_option linter.all false
set_option maxRecDepth 100000
set_option maxHeartbeats 2000000
namespace Q
open PySem PySem.Spec L2
open Pf
/-! ### the lots behind a deed -/
def strip (b : Nat) (l : List Nat) : List Nat := l.filter fun x => x != b
theorem set_back {env : En} {j : Nat} {v : Sl} (h : env[j]? = some .no) : wipeE [j] (env.set j v) = env := by
  show (env.set j v).set j .no = env
  rw [List.set_set]
  apply List.ext_getElem?
  intro i
  by_cases e : i = j
  · subst e
    have hl := (List.getElem?_eq_some_iff.mp h).1
    rw [List.getElem?_set_self hl, h]
  · rw [List.getElem?_set_ne (Ne.symm e)]
theorem neD_int2 (x b : Nat) : neD (.int x) (.int b) = some (x != b) := by
  rw [neD_int]
  congr 1
  by_cases h : x = b
  · subst h; simp
  · have : ¬ ((x : Int) = b) := by omega
    simp [h, this]
theorem filt_loop {env : En} {j m b : Nat} (hjm : m ≠ j) (hm : env[m]? = some (.val (.int b))) (hj : env[j]? = some .no) : ∀ (l acc : List Nat), acc.length + l.length < 1000 →
    loopC [j] (bN j) (gTst neD (gN j) (gN m)) (gN j) (nats l) (nats acc) env = some (nats (acc ++ strip b l), env)
  | [], acc, _ => by simp [strip]; rfl
  | x :: l, acc, hl => by
    have hlen := (List.getElem?_eq_some_iff.mp hj).1
    have ej : (env.set j (.val (.int x)))[j]? = some (.val (.int x)) := List.getElem?_set_self hlen
    have em : (env.set j (.val (.int x)))[m]? = some (.val (.int b)) := by rw [List.getElem?_set_ne (Ne.symm hjm)]; exact hm
    have t : gTst neD (gN j) (gN m) (env.set j (.val (.int x))) = some (.ok (x != b, env.set j (.val (.int x)))) := by
      show M.bd (gN j) (fun d => M.bd (gN m) fun e => M.opt (neD d e)) _ = _
      rw [bd_ok (n_val ej), bd_ok (n_val em)]
      exact opt_ok (neD_int2 x b)
    have step : loopC [j] (bN j) (gTst neD (gN j) (gN m)) (gN j) (nats (x :: l)) (nats acc) env = (match gTst neD (gN j) (gN m) (env.set j (.val (.int x))) with
      | some (.ok (true, env2)) => match gN j env2 with
        | some (.ok (y, env3)) => if (nats acc).length < 16777216 then loopC [j] (bN j) (gTst neD (gN j) (gN m)) (gN j) (nats l) (nats acc ++ [y]) (wipeE [j] env3) else none
        | _ => none
      | some (.ok (false, env2)) => loopC [j] (bN j) (gTst neD (gN j) (gN m)) (gN j) (nats l) (nats acc) (wipeE [j] env2)
      | _ => none) := rfl
    rw [step, t]
    simp only [List.length_cons] at hl
    by_cases h : x = b
    · have e : (x != b) = false := by simp [h]
      rw [e]
      simp only
      rw [set_back hj, filt_loop hjm hm hj l acc (by omega)]
      simp [strip, List.filter_cons, h]
    · have e : (x != b) = true := by simp [h]
      rw [e]
      simp only [n_val ej]
      rw [if_pos (by rw [nats_len]; omega), set_back hj]
      have e2 : nats acc ++ [.int x] = nats (acc ++ [x]) := by simp [nats]
      rw [e2, filt_loop hjm hm hj l (acc ++ [x]) (by simp; omega)]
      simp [strip, List.filter_cons, h]
/-- [book for book in lot if book != b], as a new list -/
theorem filt_ok {env : En} {j m s b : Nat} {l : List Nat} (hjm : m ≠ j) (hm : env[m]? = some (.val (.int b))) (hj : env[j]? = some .no) (hs : env[s]? = some (.val (.tuple (nats l)))) (hl : l.length < 1000) :
    gLcT [j] j (gTst neD (gN j) (gN m)) (gN j) (gN s) env = some (.ok (nats (strip b l), env)) := by
  show M.bd (gN s) (fun d => M.bd (M.opt (tupO d)) fun ds => gLc [j] (bN j) (gTst neD (gN j) (gN m)) (gN j) ds) env = _
  rw [bd_ok (n_val hs)]
  have r : tupO (.tuple (nats l)) = some (nats l) := rfl
  rw [bd_ok (opt_ok r)]
  have w : wipeE [j] env = env := by
    have := set_back (v := .no) hj
    have e : env.set j .no = env := by
      apply List.ext_getElem?
      intro i
      by_cases e : i = j
      · subst e
        rw [List.getElem?_set_self (List.getElem?_eq_some_iff.mp hj).1, hj]
      · rw [List.getElem?_set_ne (Ne.symm e)]
    exact e
  have bk : backE env [j] env = env := by
    show env.set j (match env[j]? with
      | some (.val d) => .val d
      | _ => .no) = env
    rw [hj]
    exact w
  have lp := filt_loop (l := l) (acc := []) hjm hm hj (by simpa using hl)
  unfold gLc
  rw [w]
  have lp' : loopC [j] (bN j) (gTst neD (gN j) (gN m)) (gN j) (nats l) [] env = some (nats (strip b l), env) := lp
  rw [lp']
  simp only [bk]
end Q
/-! part M10 -/
set_option Elab.async false
set_option linter.all false
set_option maxRecDepth 100000
set_option maxHeartbeats 2000000
namespace Q
open PySem PySem.Spec L2
open Pf
/-- each lot without the book; j the inner name's slot, s the outer's, m the book's -/
def stripE (j m s : Nat) : M PyData := gBlt tupK (Pf.gCons (gFz (gLcT [j] j (gTst neD (gN j) (gN m)) (gN j) (gN s))) Pf.gNil)
theorem stripE_ok {env : En} {j m s b : Nat} {l : List Nat} (hjm : m ≠ j) (hm : env[m]? = some (.val (.int b))) (hj : env[j]? = some .no) (hs : env[s]? = some (.val (.tuple (nats l)))) (hl : l.length < 1000) :
    stripE j m s env = some (.ok (.tuple (nats (strip b l)), env)) := by
  have f := filt_ok hjm hm hj hs hl
  have z1 : gFz (gLcT [j] j (gTst neD (gN j) (gN m)) (gN j) (gN s)) env = some (.ok (.list (nats (strip b l)), env)) := by
    show M.bd (gLcT [j] j (gTst neD (gN j) (gN m)) (gN j) (gN s)) (fun ds => M.ok (PyData.list ds)) env = _
    rw [bd_ok f]
    rfl
  have z2 : Pf.gCons (gFz (gLcT [j] j (gTst neD (gN j) (gN m)) (gN j) (gN s))) Pf.gNil env = some (.ok ([.list (nats (strip b l))], env)) := by
    show M.bd (gFz (gLcT [j] j (gTst neD (gN j) (gN m)) (gN j) (gN s))) (fun d => M.bd Pf.gNil fun ds => M.ok (d :: ds)) env = _
    rw [bd_ok z1]
    rfl
  show M.bd (Pf.gCons (gFz (gLcT [j] j (gTst neD (gN j) (gN m)) (gN j) (gN s))) Pf.gNil) (fun ds => M.opt (tupK ds)) env = _
  rw [bd_ok z2]
  exact opt_ok rfl
theorem strip_loop {env : En} {j m s b : Nat} (hjm : m ≠ j) (hsm : m ≠ s) (hsj : j ≠ s) (hm : env[m]? = some (.val (.int b))) (hj : env[j]? = some .no) (hs : env[s]? = some .no) : ∀ (ls acc : List (List Nat)), (∀ l ∈ ls, l.length < 1000) → acc.length + ls.length < 1000 →
    loopC [s] (bN s) gYes (stripE j m s) (lotsD ls) (lotsD acc) env = some (lotsD (acc ++ ls.map (strip b)), env)
  | [], acc, _, _ => by simp; rfl
  | l :: ls, acc, hb, hl => by
    have hlen := (List.getElem?_eq_some_iff.mp hs).1
    have es : (env.set s (.val (.tuple (nats l))))[s]? = some (.val (.tuple (nats l))) := List.getElem?_set_self hlen
    have em : (env.set s (.val (.tuple (nats l))))[m]? = some (.val (.int b)) := by rw [List.getElem?_set_ne (Ne.symm hsm)]; exact hm
    have ej : (env.set s (.val (.tuple (nats l))))[j]? = some .no := by rw [List.getElem?_set_ne (Ne.symm hsj)]; exact hj
    have t := stripE_ok hjm em ej es (hb l List.mem_cons_self)
    have step : loopC [s] (bN s) gYes (stripE j m s) (lotsD (l :: ls)) (lotsD acc) env = (match stripE j m s (env.set s (.val (.tuple (nats l)))) with
        | some (.ok (y, env3)) => if (lotsD acc).length < 16777216 then loopC [s] (bN s) gYes (stripE j m s) (lotsD ls) (lotsD acc ++ [y]) (wipeE [s] env3) else none
        | _ => none) := rfl
    simp only [List.length_cons] at hl
    rw [step, t]
    simp only
    rw [if_pos (by rw [lotsD_len]; omega), set_back hs]
    have e2 : lotsD acc ++ [.tuple (nats (strip b l))] = lotsD (acc ++ [strip b l]) := by simp [lotsD]
    rw [e2, strip_loop hjm hsm hsj hm hj hs ls (acc ++ [strip b l]) (fun x hx => hb x (List.mem_cons_of_mem _ hx)) (by simp; omega)]
    simp
/-- the book put at an end -/
def putEnd (first : Bool) (b : Nat) (l : List Nat) : List Nat := if first = true then b :: l else l ++ [b]
def placed (ls : List (List Nat)) (b k : Nat) (first : Bool) : List (List Nat) := (ls.map (strip b)).set k (putEnd first b (((ls.map (strip b))[k]?).getD []))
def envQ (ls : List (List Nat)) (b k : Nat) (e : PyData) (x : Sl) : En := [.val (.tuple (lotsD ls)), .val (.int b), .val (.int k), .val e, x, .no, .no]
def endD (first : Bool) : PyData := if first = true then .str "first" else .str "last"
theorem law_placed_ok (ls : List (List Nat)) (b k : Nat) (first : Bool) (hk : k < ls.length) (hl : ls.length < 100) (hb : ∀ l ∈ ls, l.length < 900) : m__law_placed [.tuple (lotsD ls), .int b, .int k, endD first] = some (.ok (.tuple (lotsD (placed ls b k first)))) := by
  have e0 : envD 7 [.tuple (lotsD ls), .int b, .int k, endD first] = envQ ls b k (endD first) .no := rfl
  have lp := strip_loop (env := envQ ls b k (endD first) .no) (j := 6) (m := 1) (s := 5) (b := b) (by decide) (by decide) (by decide) rfl rfl rfl ls [] (fun l hl => by have := hb l hl; omega) (by simp; omega)
  have lp' : loopC [5] (bN 5) gYes (stripE 6 1 5) (lotsD ls) [] (envQ ls b k (endD first) .no) = some (lotsD (ls.map (strip b)), envQ ls b k (endD first) .no) := lp
  have a0 : gLcT [5] 5 gYes (stripE 6 1 5) (gN 0) (envQ ls b k (endD first) .no) = some (.ok (lotsD (ls.map (strip b)), envQ ls b k (endD first) .no)) := by
    show M.bd (gN 0) (fun d => M.bd (M.opt (tupO d)) fun ds => gLc [5] (bN 5) gYes (stripE 6 1 5) ds) _ = _
    rw [bd_ok (n_val (d := .tuple (lotsD ls)) rfl)]
    have r : tupO (.tuple (lotsD ls)) = some (lotsD ls) := rfl
    rw [bd_ok (opt_ok r)]
    have w : wipeE [5] (envQ ls b k (endD first) .no) = envQ ls b k (endD first) .no := rfl
    unfold gLc
    rw [w, lp']
    rfl
  have a1 : gSetO 4 (gLcT [5] 5 gYes (stripE 6 1 5) (gN 0)) (envQ ls b k (endD first) .no) = some (.nx (envQ ls b k (endD first) (.own (lotsD (ls.map (strip b)))))) := by
    show gE _ _ _ = _
    rw [gE_ok a0]
    rfl
  have hk2 : k < (ls.map (strip b)).length := by rw [List.length_map]; exact hk
  have hsz := sizeLine_eq
  have hlen : ((ls.map (strip b))[k]).length ≤ 900 := by
    rw [List.getElem_map]
    have h1 := hb _ (List.getElem_mem hk)
    have h2 : (strip b ls[k]).length ≤ ls[k].length := List.length_filter_le _ _
    omega
  have hx : gIxP 4 (gN 2) (envQ ls b k (endD first) (.own (lotsD (ls.map (strip b))))) = some (.ok (.tuple (nats ((ls.map (strip b))[k])), envQ ls b k (endD first) (.own (lotsD (ls.map (strip b)))))) :=
    ixP_own (ds := lotsD (ls.map (strip b))) (ds1 := lotsD (ls.map (strip b))) (k := k) rfl rfl rfl (lotsD_at hk2)
  have ht : Pf.gTup (Pf.gCons (gN 1) Pf.gNil) (envQ ls b k (endD first) (.own (lotsD (ls.map (strip b))))) = some (.ok (.tuple [.int b], envQ ls b k (endD first) (.own (lotsD (ls.map (strip b)))))) := rfl
  have tst : gTst eqD (gN 3) (gC (.str "first")) (envQ ls b k (endD first) (.own (lotsD (ls.map (strip b))))) = some (.ok (first, envQ ls b k (endD first) (.own (lotsD (ls.map (strip b)))))) := by
    have q1 : eqD (.str "first") (.str "first") = some true := by decide +kernel
    have q2 : eqD (.str "last") (.str "first") = some false := by decide +kernel
    show M.bd (gN 3) (fun d => M.bd (gC (.str "first")) fun e => M.opt (eqD d e)) _ = _
    rw [bd_ok (n_val (d := endD first) rfl)]
    cases first with
    | true => exact opt_ok q1
    | false => exact opt_ok q2
  have val : gIf (gTst eqD (gN 3) (gC (.str "first"))) (gBin addD (Pf.gTup (Pf.gCons (gN 1) Pf.gNil)) (gIxP 4 (gN 2))) (gBin addD (gIxP 4 (gN 2)) (Pf.gTup (Pf.gCons (gN 1) Pf.gNil))) (envQ ls b k (endD first) (.own (lotsD (ls.map (strip b))))) = some (.ok (.tuple (nats (putEnd first b ((ls.map (strip b))[k]))), envQ ls b k (endD first) (.own (lotsD (ls.map (strip b)))))) := by
    unfold gIf
    rw [bd_ok tst]
    cases first with
    | true =>
      rw [if_pos rfl]
      show M.bd (Pf.gTup (Pf.gCons (gN 1) Pf.gNil)) (fun d => M.bd (gIxP 4 (gN 2)) fun e => M.opt (addD d e)) _ = _
      rw [bd_ok ht, bd_ok hx]
      refine opt_ok ?_
      show (if [PyData.int b].length + (nats ((ls.map (strip b))[k])).length ≤ sizeLine then some (PyData.tuple ([PyData.int b] ++ nats ((ls.map (strip b))[k]))) else none) = _
      rw [if_pos (by rw [nats_len]; simp only [List.length_cons, List.length_nil]; omega)]
      rfl
    | false =>
      rw [if_neg (by decide)]
      show M.bd (gIxP 4 (gN 2)) (fun d => M.bd (Pf.gTup (Pf.gCons (gN 1) Pf.gNil)) fun e => M.opt (addD d e)) _ = _
      rw [bd_ok hx, bd_ok ht]
      refine opt_ok ?_
      show (if (nats ((ls.map (strip b))[k])).length + [PyData.int b].length ≤ sizeLine then some (PyData.tuple (nats ((ls.map (strip b))[k]) ++ [PyData.int b])) else none) = _
      rw [if_pos (by rw [nats_len]; simp only [List.length_cons, List.length_nil]; omega)]
      simp [putEnd, nats]
  have a2 : gSetIx 4 (gIf (gTst eqD (gN 3) (gC (.str "first"))) (gBin addD (Pf.gTup (Pf.gCons (gN 1) Pf.gNil)) (gIxP 4 (gN 2))) (gBin addD (gIxP 4 (gN 2)) (Pf.gTup (Pf.gCons (gN 1) Pf.gNil)))) (gN 2) (envQ ls b k (endD first) (.own (lotsD (ls.map (strip b))))) = some (.nx (envQ ls b k (endD first) (.own (lotsD (placed ls b k first))))) := by
    rw [setIx_own (ds := lotsD (ls.map (strip b))) (ds1 := lotsD (ls.map (strip b))) (k := k) val rfl rfl rfl (by rw [lotsD_len]; exact hk2), lotsD_set]
    unfold placed
    rw [List.getElem?_eq_getElem hk2]
    rfl
  have a3 : gRet (gBlt tupK (Pf.gCons (gN 4) Pf.gNil)) (envQ ls b k (endD first) (.own (lotsD (placed ls b k first)))) = some (.rt (.tuple (lotsD (placed ls b k first))) (envQ ls b k (endD first) (.val (.list (lotsD (placed ls b k first)))))) := by
    have z : Pf.gCons (gN 4) Pf.gNil (envQ ls b k (endD first) (.own (lotsD (placed ls b k first)))) = some (.ok ([.list (lotsD (placed ls b k first))], envQ ls b k (endD first) (.val (.list (lotsD (placed ls b k first)))))) := by
      show M.bd (gN 4) (fun d => M.bd Pf.gNil fun ds => M.ok (d :: ds)) _ = _
      rw [bd_ok (n_own (ds := lotsD (placed ls b k first)) rfl)]
      rfl
    have z2 : gBlt tupK (Pf.gCons (gN 4) Pf.gNil) (envQ ls b k (endD first) (.own (lotsD (placed ls b k first)))) = some (.ok (.tuple (lotsD (placed ls b k first)), envQ ls b k (endD first) (.val (.list (lotsD (placed ls b k first)))))) := by
      show M.bd (Pf.gCons (gN 4) Pf.gNil) (fun ds => M.opt (tupK ds)) _ = _
      rw [bd_ok z]
      exact opt_ok rfl
    show gE _ _ _ = _
    rw [gE_ok z2]
    rfl
  have eG : G__law_placed = gSeq (gSetO 4 (gLcT [5] 5 gYes (stripE 6 1 5) (gN 0))) (gSeq (gSetIx 4 (gIf (gTst eqD (gN 3) (gC (.str "first"))) (gBin addD (Pf.gTup (Pf.gCons (gN 1) Pf.gNil)) (gIxP 4 (gN 2))) (gBin addD (gIxP 4 (gN 2)) (Pf.gTup (Pf.gCons (gN 1) Pf.gNil)))) (gN 2)) (gRet (gBlt tupK (Pf.gCons (gN 4) Pf.gNil)))) := rfl
  refine fnD_rt (r := envQ ls b k (endD first) (.val (.list (lotsD (placed ls b k first))))) ?_
  rw [e0, eG, seq_nx a1, seq_nx a2, a3]
end Q
/-! part M11 -/
set_option Elab.async false
set_option linter.all false
set_option maxRecDepth 100000
set_option maxHeartbeats 2000000
namespace Q
open PySem PySem.Spec L2
open Pf
abbrev natss (ls : List (List Nat)) : List (List PyData) := ls.map fun l => nats l
def stripO (j m s : Nat) : M (List PyData) := gLcT [j] j (gTst neD (gN j) (gN m)) (gN j) (gN s)
theorem stripO_loop {env : En} {j m s b : Nat} (hjm : m ≠ j) (hsm : m ≠ s) (hsj : j ≠ s) (hm : env[m]? = some (.val (.int b))) (hj : env[j]? = some .no) (hs : env[s]? = some .no) : ∀ (ls acc : List (List Nat)), (∀ l ∈ ls, l.length < 1000) → acc.length + ls.length < 1000 →
    loopCO [s] (bN s) gYes (stripO j m s) (lotsD ls) (natss acc) env = some (natss (acc ++ ls.map (strip b)), env)
  | [], acc, _, _ => by simp; rfl
  | l :: ls, acc, hb, hl => by
    have hlen := (List.getElem?_eq_some_iff.mp hs).1
    have es : (env.set s (.val (.tuple (nats l))))[s]? = some (.val (.tuple (nats l))) := List.getElem?_set_self hlen
    have em : (env.set s (.val (.tuple (nats l))))[m]? = some (.val (.int b)) := by rw [List.getElem?_set_ne (Ne.symm hsm)]; exact hm
    have ej : (env.set s (.val (.tuple (nats l))))[j]? = some .no := by rw [List.getElem?_set_ne (Ne.symm hsj)]; exact hj
    have t : stripO j m s (env.set s (.val (.tuple (nats l)))) = some (.ok (nats (strip b l), env.set s (.val (.tuple (nats l))))) := filt_ok hjm em ej es (hb l List.mem_cons_self)
    have step : loopCO [s] (bN s) gYes (stripO j m s) (lotsD (l :: ls)) (natss acc) env = (match stripO j m s (env.set s (.val (.tuple (nats l)))) with
        | some (.ok (y, env3)) => if (natss acc).length < 16777216 then loopCO [s] (bN s) gYes (stripO j m s) (lotsD ls) (natss acc ++ [y]) (wipeE [s] env3) else none
        | _ => none) := rfl
    simp only [List.length_cons] at hl
    have hz : (natss acc).length = acc.length := List.length_map ..
    rw [step, t]
    simp only
    rw [if_pos (by rw [hz]; omega), set_back hs]
    have e2 : natss acc ++ [nats (strip b l)] = natss (acc ++ [strip b l]) := by simp [natss]
    rw [e2, stripO_loop hjm hsm hsj hm hj hs ls (acc ++ [strip b l]) (fun x hx => hb x (List.mem_cons_of_mem _ hx)) (by simp; omega)]
    simp
def tupE (s : Nat) : M PyData := gBlt tupK (Pf.gCons (gN s) Pf.gNil)
theorem tup_loop {env : En} {s : Nat} (hs : env[s]? = some .no) : ∀ (ls acc : List (List Nat)), acc.length + ls.length < 1000 →
    loopC [s] (bN s) gYes (tupE s) ((natss ls).map PyData.list) (lotsD acc) env = some (lotsD (acc ++ ls), env)
  | [], acc, _ => by simp; rfl
  | l :: ls, acc, hl => by
    have hlen := (List.getElem?_eq_some_iff.mp hs).1
    have es : (env.set s (.val (.list (nats l))))[s]? = some (.val (.list (nats l))) := List.getElem?_set_self hlen
    have t : tupE s (env.set s (.val (.list (nats l)))) = some (.ok (.tuple (nats l), env.set s (.val (.list (nats l))))) := by
      have z : Pf.gCons (gN s) Pf.gNil (env.set s (.val (.list (nats l)))) = some (.ok ([.list (nats l)], env.set s (.val (.list (nats l))))) := by
        show M.bd (gN s) (fun d => M.bd Pf.gNil fun ds => M.ok (d :: ds)) _ = _
        rw [bd_ok (n_val es)]
        rfl
      show M.bd (Pf.gCons (gN s) Pf.gNil) (fun ds => M.opt (tupK ds)) _ = _
      rw [bd_ok z]
      exact opt_ok rfl
    have step : loopC [s] (bN s) gYes (tupE s) ((natss (l :: ls)).map PyData.list) (lotsD acc) env = (match tupE s (env.set s (.val (.list (nats l)))) with
        | some (.ok (y, env3)) => if (lotsD acc).length < 16777216 then loopC [s] (bN s) gYes (tupE s) ((natss ls).map PyData.list) (lotsD acc ++ [y]) (wipeE [s] env3) else none
        | _ => none) := rfl
    simp only [List.length_cons] at hl
    rw [step, t]
    simp only
    rw [if_pos (by rw [lotsD_len]; omega), set_back hs]
    have e2 : lotsD acc ++ [.tuple (nats l)] = lotsD (acc ++ [l]) := by simp [lotsD]
    rw [e2, tup_loop hs ls (acc ++ [l]) (by simp; omega)]
    simp
def envB9 (ls : List (List Nat)) (b k : Nat) (first : Bool) (x y z : Sl) : En := [.val (.tuple (lotsD ls)), .val (.tuple [.int b, .int k, endD first]), .val (.int b), .val (.int k), .val (endD first), x, y, z, .no]
theorem lots_behind_ok (ls : List (List Nat)) (b k : Nat) (first : Bool) (hk : k < ls.length) (hl : ls.length < 100) (hb : ∀ l ∈ ls, l.length < 900) : m_lots_behind [.tuple (lotsD ls), .tuple [.int b, .int k, endD first]] = some (.ok (.tuple (lotsD (placed ls b k first)))) := by
  have hk2 : k < (ls.map (strip b)).length := by rw [List.length_map]; exact hk
  have lp := stripO_loop (env := envB9 ls b k first .no .no .no) (j := 7) (m := 2) (s := 6) (b := b) (by decide) (by decide) (by decide) rfl rfl rfl ls [] (fun l hl => by have := hb l hl; omega) (by simp; omega)
  have lp' : loopCO [6] (bN 6) gYes (stripO 7 2 6) (lotsD ls) [] (envB9 ls b k first .no .no .no) = some (natss (ls.map (strip b)), envB9 ls b k first .no .no .no) := lp
  have eG : G_lots_behind = gSeq (gAsg (bTup 3 (bCons (bN 2) (bCons (bN 3) (bCons (bN 4) bNil)))) (gN 1)) (gRows 5 [6] 6 gYes (stripO 7 2 6) (gN 0) (gTst eqD (gN 4) (gC (.str "first"))) (gN 3) (gN 2) (gRet (gBlt tupK (Pf.gCons (gFz (gLcL [8] 8 gYes (tupE 8) (gN 5))) Pf.gNil)))) := rfl
  have a1 : gAsg (bTup 3 (bCons (bN 2) (bCons (bN 3) (bCons (bN 4) bNil)))) (gN 1) (envD 9 [.tuple (lotsD ls), .tuple [.int b, .int k, endD first]]) = some (.nx (envB9 ls b k first .no .no .no)) := rfl
  have tst : gTst eqD (gN 4) (gC (.str "first")) (envB9 ls b k first .no .no .no) = some (.ok (first, envB9 ls b k first .no .no .no)) := by
    have q1 : eqD (.str "first") (.str "first") = some true := by decide +kernel
    have q2 : eqD (.str "last") (.str "first") = some false := by decide +kernel
    show M.bd (gN 4) (fun d => M.bd (gC (.str "first")) fun e => M.opt (eqD d e)) _ = _
    rw [bd_ok (n_val (d := endD first) rfl)]
    cases first with
    | true => exact opt_ok q1
    | false => exact opt_ok q2
  have hlen : ((ls.map (strip b))[k]).length ≤ 900 := by
    rw [List.getElem_map]
    have h1 := hb _ (List.getElem_mem hk)
    have h2 : (strip b ls[k]).length ≤ ls[k].length := List.length_filter_le _ _
    omega
  have hdss : (natss (ls.map (strip b)))[k]? = some (nats ((ls.map (strip b))[k])) := by
    show ((ls.map (strip b)).map fun l => nats l)[k]? = _
    rw [List.getElem?_map, List.getElem?_eq_getElem hk2]; rfl
  have hset : (natss (ls.map (strip b))).set k (rowSet first (nats ((ls.map (strip b))[k])) (.int b)) = natss (placed ls b k first) := by
    have e1 : rowSet first (nats ((ls.map (strip b))[k])) (.int b) = nats (putEnd first b ((ls.map (strip b))[k])) := by
      cases first with
      | true => rfl
      | false => simp [rowSet, putEnd, nats]
    rw [e1]
    unfold placed
    rw [List.getElem?_eq_getElem hk2]
    show ((ls.map (strip b)).map fun l => nats l).set k _ = ((ls.map (strip b)).set k _).map fun l => nats l
    rw [List.map_set]
    rfl
  have row : gRow first (gN 3) (gN 2) (natss (ls.map (strip b))) (fun dss' env6 => gRet (gBlt tupK (Pf.gCons (gFz (gLcL [8] 8 gYes (tupE 8) (gN 5))) Pf.gNil)) (env6.set 5 (.val (.list (dss'.map PyData.list))))) (envB9 ls b k first .no .no .no) = gRet (gBlt tupK (Pf.gCons (gFz (gLcL [8] 8 gYes (tupE 8) (gN 5))) Pf.gNil)) (envB9 ls b k first (.val (.list ((natss (placed ls b k first)).map PyData.list))) .no .no) := by
    unfold gRow
    rw [gE_ok (n_val (d := .int k) rfl)]
    simp only
    have hn : (natss (ls.map (strip b))).length = ls.length := by simp [natss]
    rw [hn, Evl.ixN_nat hk]
    simp only [hdss]
    rw [gE_ok (n_val (d := .int b) rfl), if_pos (by rw [nats_len]; omega), hset]
    rfl
  have fin : gRet (gBlt tupK (Pf.gCons (gFz (gLcL [8] 8 gYes (tupE 8) (gN 5))) Pf.gNil)) (envB9 ls b k first (.val (.list ((natss (placed ls b k first)).map PyData.list))) .no .no) = some (.rt (.tuple (lotsD (placed ls b k first))) (envB9 ls b k first (.val (.list ((natss (placed ls b k first)).map PyData.list))) .no .no)) := by
    have pl : (placed ls b k first).length = ls.length := by simp [placed]
    have tl := tup_loop (env := envB9 ls b k first (.val (.list ((natss (placed ls b k first)).map PyData.list))) .no .no) (s := 8) rfl (placed ls b k first) [] (by simp [pl]; omega)
    have tl' : loopC [8] (bN 8) gYes (tupE 8) ((natss (placed ls b k first)).map PyData.list) [] (envB9 ls b k first (.val (.list ((natss (placed ls b k first)).map PyData.list))) .no .no) = some (lotsD (placed ls b k first), envB9 ls b k first (.val (.list ((natss (placed ls b k first)).map PyData.list))) .no .no) := tl
    have z0 : gLcL [8] 8 gYes (tupE 8) (gN 5) (envB9 ls b k first (.val (.list ((natss (placed ls b k first)).map PyData.list))) .no .no) = some (.ok (lotsD (placed ls b k first), envB9 ls b k first (.val (.list ((natss (placed ls b k first)).map PyData.list))) .no .no)) := by
      show M.bd (gN 5) (fun d => M.bd (M.opt (lstO d)) fun ds => gLc [8] (bN 8) gYes (tupE 8) ds) _ = _
      rw [bd_ok (n_val (d := .list ((natss (placed ls b k first)).map PyData.list)) rfl)]
      have r : lstO (.list ((natss (placed ls b k first)).map PyData.list)) = some ((natss (placed ls b k first)).map PyData.list) := rfl
      rw [bd_ok (opt_ok r)]
      have w : wipeE [8] (envB9 ls b k first (.val (.list ((natss (placed ls b k first)).map PyData.list))) .no .no) = envB9 ls b k first (.val (.list ((natss (placed ls b k first)).map PyData.list))) .no .no := rfl
      unfold gLc
      rw [w, tl']
      rfl
    have z1 : gFz (gLcL [8] 8 gYes (tupE 8) (gN 5)) (envB9 ls b k first (.val (.list ((natss (placed ls b k first)).map PyData.list))) .no .no) = some (.ok (.list (lotsD (placed ls b k first)), envB9 ls b k first (.val (.list ((natss (placed ls b k first)).map PyData.list))) .no .no)) := by
      show M.bd (gLcL [8] 8 gYes (tupE 8) (gN 5)) (fun ds => M.ok (PyData.list ds)) _ = _
      rw [bd_ok z0]
      rfl
    have z2 : Pf.gCons (gFz (gLcL [8] 8 gYes (tupE 8) (gN 5))) Pf.gNil (envB9 ls b k first (.val (.list ((natss (placed ls b k first)).map PyData.list))) .no .no) = some (.ok ([.list (lotsD (placed ls b k first))], envB9 ls b k first (.val (.list ((natss (placed ls b k first)).map PyData.list))) .no .no)) := by
      show M.bd (gFz (gLcL [8] 8 gYes (tupE 8) (gN 5))) (fun d => M.bd Pf.gNil fun ds => M.ok (d :: ds)) _ = _
      rw [bd_ok z1]
      rfl
    have z3 : gBlt tupK (Pf.gCons (gFz (gLcL [8] 8 gYes (tupE 8) (gN 5))) Pf.gNil) (envB9 ls b k first (.val (.list ((natss (placed ls b k first)).map PyData.list))) .no .no) = some (.ok (.tuple (lotsD (placed ls b k first)), envB9 ls b k first (.val (.list ((natss (placed ls b k first)).map PyData.list))) .no .no)) := by
      show M.bd (Pf.gCons (gFz (gLcL [8] 8 gYes (tupE 8) (gN 5))) Pf.gNil) (fun ds => M.opt (tupK ds)) _ = _
      rw [bd_ok z2]
      exact opt_ok rfl
    show gE _ gRt _ = _
    rw [gE_ok z3]
    rfl
  refine fnD_rt (r := envB9 ls b k first (.val (.list ((natss (placed ls b k first)).map PyData.list))) .no .no) ?_
  rw [eG, seq_nx a1]
  unfold gRows
  rw [gE_ok (n_val (d := .tuple (lotsD ls)) rfl)]
  have r : tupO (.tuple (lotsD ls)) = some (lotsD ls) := rfl
  have w : wipeE [6] (envB9 ls b k first .no .no .no) = envB9 ls b k first .no .no .no := rfl
  have bk : (backE (envB9 ls b k first .no .no .no) [6] (envB9 ls b k first .no .no .no)).set 5 .no = envB9 ls b k first .no .no .no := rfl
  have len : 5 < (envB9 ls b k first .no .no .no).length := by show 5 < 9; decide
  simp only [r, w, lp', bk]
  rw [if_pos len, gE_ok tst, row, fin]
end Q
/-! part M12 -/
set_option Elab.async false
set_option linter.all false
set_option maxRecDepth 100000
set_option maxHeartbeats 2000000
namespace Q
open PySem PySem.Spec L2
open Pf
/-! ### a good shelf is let by -/
def enumK : Nat → List PyData → List PyData
  | _, [] => []
  | k, d :: r => .tuple [.int (k : Int), d] :: enumK (k + 1) r
theorem enumK_at : ∀ (ds : List PyData) (k i : Nat), (enumK k ds)[i]? = ds[i]?.map fun d => PyData.tuple [.int ((k + i : Nat) : Int), d]
  | [], k, i => by simp [enumK]
  | d :: r, k, 0 => by simp [enumK]
  | d :: r, k, i + 1 => by
    have := enumK_at r (k + 1) i
    simp only [enumK, List.getElem?_cons_succ]
    rw [this]
    have e : k + 1 + i = k + (i + 1) := by omega
    rw [e]
theorem enum_K (ds : List PyData) : enumD ds = enumK 0 ds := by
  apply List.ext_getElem?
  intro i
  rw [enumK_at]
  cases h : ds[i]? with
  | some d => rw [enumD_at h, Nat.zero_add]; rfl
  | none =>
    rw [List.getElem?_eq_none_iff] at h
    rw [List.getElem?_eq_none (by rw [enumD_len]; exact h)]
    rfl
theorem is_price_ok (p : Option Nat) (h : priceOk p) : m_is_price [priceD p] = some (.ok (.bool true)) := by
  cases p with
  | none => rfl
  | some q =>
    obtain ⟨h1, h2⟩ := h q rfl
    refine fnD_rt (r := [.val (.int q)]) ?_
    have eE : envD 1 [priceD (some q)] = [.val (.int q)] := rfl
    rw [eE]
    have c1 : (cmpD fun i j => decide (i ≤ j)) (.int 1) (.int q) = some true := by simp [cmpD]; omega
    have c2 : (cmpD fun i j => decide (i ≤ j)) (.int q) (.int 99) = some true := by simp [cmpD]; omega
    have z1 : gC (.int 1) [.val (.int q)] = some (.ok (.int 1, [.val (.int q)])) := rfl
    have z2 : gC (.int 99) [.val (.int q)] = some (.ok (.int 99, [.val (.int q)])) := rfl
    have ch : gChain (gC (.int 1)) (gN 0) (gC (.int 99)) (cmpD fun i j => decide (i ≤ j)) (cmpD fun i j => decide (i ≤ j)) [.val (.int q)] = some (.ok (.bool true, [.val (.int q)])) := by
      unfold gChain
      rw [bd_ok z1, bd_ok (n_val (d := .int q) rfl), bd_ok (opt_ok c1), if_pos rfl, bd_ok z2]
      refine opt_ok ?_
      rw [c2]
      rfl
    have h1 : gOr (gCmp isD (gN 0) (gC .none)) (gAnd (gCall m_is_number (Pf.gCons (gN 0) Pf.gNil)) (gChain (gC (.int 1)) (gN 0) (gC (.int 99)) (cmpD fun i j => decide (i ≤ j)) (cmpD fun i j => decide (i ≤ j)))) [.val (.int q)] = gChain (gC (.int 1)) (gN 0) (gC (.int 99)) (cmpD fun i j => decide (i ≤ j)) (cmpD fun i j => decide (i ≤ j)) [.val (.int q)] := rfl
    show gE (gOr (gCmp isD (gN 0) (gC .none)) (gAnd (gCall m_is_number (Pf.gCons (gN 0) Pf.gNil)) (gChain (gC (.int 1)) (gN 0) (gC (.int 99)) (cmpD fun i j => decide (i ≤ j)) (cmpD fun i j => decide (i ≤ j))))) gRt _ = _
    rw [gE_ok (h1.trans ch)]
    rfl
def wpB : S := gIfS (gOrT (gTst eqD (gN 1) (gC (.int 12))) (gNotT (gTru (gCall m_is_price (Pf.gCons (gN 2) Pf.gNil))))) (gRet (gN 1)) gNx
theorem wp_body (a : PyData) (k : Nat) (p : Option Nat) (hk : k < 12) (hp : priceOk p) : wpB [.val a, .val (.int k), .val (priceD p)] = some (.nx [.val a, .val (.int k), .val (priceD p)]) := by
  have t1 : gTst eqD (gN 1) (gC (.int 12)) [.val a, .val (.int k), .val (priceD p)] = some (.ok (false, [.val a, .val (.int k), .val (priceD p)])) := by
    show M.bd (gN 1) (fun d => M.bd (gC (.int 12)) fun e => M.opt (eqD d e)) _ = _
    rw [bd_ok (n_val (d := .int k) rfl)]
    refine opt_ok (o := eqD (.int k) (.int 12)) ?_
    rw [eqD_int]
    have : ((k : Int) == 12) = false := by simp; omega
    rw [this]
  have z : gCall m_is_price (Pf.gCons (gN 2) Pf.gNil) [.val a, .val (.int k), .val (priceD p)] = some (.ok (.bool true, [.val a, .val (.int k), .val (priceD p)])) := by
    have z : Pf.gCons (gN 2) Pf.gNil [.val a, .val (.int k), .val (priceD p)] = some (.ok ([priceD p], [.val a, .val (.int k), .val (priceD p)])) := rfl
    show M.bd (Pf.gCons (gN 2) Pf.gNil) (fun ds => gLift (m_is_price ds)) _ = _
    rw [bd_ok z, is_price_ok p hp]
    rfl
  have t2 : gNotT (gTru (gCall m_is_price (Pf.gCons (gN 2) Pf.gNil))) [.val a, .val (.int k), .val (priceD p)] = some (.ok (false, [.val a, .val (.int k), .val (priceD p)])) := by
    have y : M.bd (gCall m_is_price (Pf.gCons (gN 2) Pf.gNil)) (fun d => M.opt (truD d)) [.val a, .val (.int k), .val (priceD p)] = some (.ok (true, [.val a, .val (.int k), .val (priceD p)])) := by
      rw [bd_ok z]
      rfl
    show M.bd (M.bd (gCall m_is_price (Pf.gCons (gN 2) Pf.gNil)) fun d => M.opt (truD d)) (fun b => M.ok (!b)) _ = _
    rw [bd_ok y]
    rfl
  have t : gOrT (gTst eqD (gN 1) (gC (.int 12))) (gNotT (gTru (gCall m_is_price (Pf.gCons (gN 2) Pf.gNil)))) [.val a, .val (.int k), .val (priceD p)] = some (.ok (false, [.val a, .val (.int k), .val (priceD p)])) := by
    unfold gOrT
    rw [bd_ok t1]
    exact t2
  unfold wpB
  rw [ifS_f t]
  rfl
theorem wp_loop (a : PyData) : ∀ (ps : List (Option Nat)) (k : Nat) (x y : Sl), (∀ p ∈ ps, priceOk p) → k + ps.length ≤ 12 → ∃ x' y', loopL (bTup 2 (bCons (bN 1) (bCons (bN 2) bNil))) wpB (enumK k (pricesD ps)) [.val a, x, y] = some (.nx [.val a, x', y'])
  | [], k, x, y, _, _ => ⟨x, y, rfl⟩
  | p :: ps, k, x, y, h, hk => by
    simp only [List.length_cons] at hk
    obtain ⟨x', y', e⟩ := wp_loop a ps (k + 1) (.val (.int k)) (.val (priceD p)) (fun q hq => h q (List.mem_cons_of_mem _ hq)) (by omega)
    refine ⟨x', y', ?_⟩
    have step : loopL (bTup 2 (bCons (bN 1) (bCons (bN 2) bNil))) wpB (enumK k (pricesD (p :: ps))) [.val a, x, y] = (match wpB [.val a, .val (.int k), .val (priceD p)] with
      | some (.nx env2) => loopL (bTup 2 (bCons (bN 1) (bCons (bN 2) bNil))) wpB (enumK (k + 1) (pricesD ps)) env2
      | some (.ct env2) => loopL (bTup 2 (bCons (bN 1) (bCons (bN 2) bNil))) wpB (enumK (k + 1) (pricesD ps)) env2
      | some (.bk env2) => some (.nx env2)
      | o => o) := rfl
    rw [step, wp_body a k p (by omega) (h p List.mem_cons_self)]
    exact e
theorem wrong_price_ok (ps : List (Option Nat)) (h : ∀ p ∈ ps, priceOk p) (h1 : 1 ≤ ps.length) (h2 : ps.length ≤ 12) : m_wrong_price [.tuple (pricesD ps)] = some (.ok .none) := by
  obtain ⟨x', y', e⟩ := wp_loop (.tuple (pricesD ps)) ps 0 .no .no h (by omega)
  have eG : G_wrong_price = gSeq (gIfS (gOrT (gNotT (gTru (gIsa "tuple" (gN 0)))) (gTst eqD (gLenP 0) (gC (.int 0)))) (gRet (gC (.int 0))) gNx) (gSeq (gForET (gN 0) (bTup 2 (bCons (bN 1) (bCons (bN 2) bNil))) wpB) (gRet (gC .none))) := rfl
  have eE : envD 3 [.tuple (pricesD ps)] = [.val (.tuple (pricesD ps)), .no, .no] := rfl
  have t : gOrT (gNotT (gTru (gIsa "tuple" (gN 0)))) (gTst eqD (gLenP 0) (gC (.int 0))) [.val (.tuple (pricesD ps)), .no, .no] = some (.ok (false, [.val (.tuple (pricesD ps)), .no, .no])) := by
    have y : gOrT (gNotT (gTru (gIsa "tuple" (gN 0)))) (gTst eqD (gLenP 0) (gC (.int 0))) [.val (.tuple (pricesD ps)), .no, .no] = M.opt (eqD (.int (pricesD ps).length) (.int 0)) [.val (.tuple (pricesD ps)), .no, .no] := rfl
    rw [y]
    refine opt_ok ?_
    rw [eqD_int, List.length_map]
    have : ((ps.length : Int) == 0) = false := beq_eq_false_iff_ne.mpr (by omega)
    rw [this]
  have a1 : gIfS (gOrT (gNotT (gTru (gIsa "tuple" (gN 0)))) (gTst eqD (gLenP 0) (gC (.int 0)))) (gRet (gC (.int 0))) gNx [.val (.tuple (pricesD ps)), .no, .no] = some (.nx [.val (.tuple (pricesD ps)), .no, .no]) := by rw [ifS_f t]; rfl
  have a2 : gForET (gN 0) (bTup 2 (bCons (bN 1) (bCons (bN 2) bNil))) wpB [.val (.tuple (pricesD ps)), .no, .no] = some (.nx [.val (.tuple (pricesD ps)), x', y']) := by
    unfold gForET
    rw [gE_ok (n_val (d := .tuple (pricesD ps)) rfl)]
    simp only
    rw [enum_K]
    exact e
  refine fnD_rt (r := [.val (.tuple (pricesD ps)), x', y']) ?_
  rw [eE, eG, seq_nx a1, seq_nx a2]
  rfl
end Q
/-! part M13 -/
set_option Elab.async false
set_option linter.all false
set_option maxRecDepth 100000
set_option maxHeartbeats 2000000
namespace Q
open PySem PySem.Spec L2
open Pf
def inB : S := gSeq (gIfS (gOrT (gNotT (gTru (gCall m_is_place (Pf.gCons (gN 7) (Pf.gCons (gN 1) Pf.gNil))))) (gHasS 4 (gN 7))) (gRet (gN 5)) gNx) (gAddS 4 (gN 7))
def envL8 (a : PyData) (n : Nat) (f m : PyData) (S : Int → Bool) (c : Nat) (num lot x : Sl) : En := [.val a, .val (.int n), .val f, .val m, .obj (.set S c), num, lot, x]
theorem in_body (a : PyData) (n : Nat) (f m : PyData) (S : Int → Bool) (c : Nat) (num lot : Sl) (b : Nat) (hb : b < n) (hS : S b = false) (hc : c + 1 < 4096) : inB (envL8 a n f m S c num lot (.val (.int b))) = some (.nx (envL8 a n f m (addS S b) (c + 1) num lot (.val (.int b)))) := by
  have hp : inP (.int b) n = true := by simp [inP]; omega
  have z : gCall m_is_place (Pf.gCons (gN 7) (Pf.gCons (gN 1) Pf.gNil)) (envL8 a n f m S c num lot (.val (.int b))) = some (.ok (.bool true, envL8 a n f m S c num lot (.val (.int b)))) := by
    have z : Pf.gCons (gN 7) (Pf.gCons (gN 1) Pf.gNil) (envL8 a n f m S c num lot (.val (.int b))) = some (.ok ([.int b, .int n], envL8 a n f m S c num lot (.val (.int b)))) := rfl
    show M.bd (Pf.gCons (gN 7) (Pf.gCons (gN 1) Pf.gNil)) (fun ds => gLift (m_is_place ds)) _ = _
    rw [bd_ok z, place_ok (.int b) rfl n, hp]
    rfl
  have t1 : gNotT (gTru (gCall m_is_place (Pf.gCons (gN 7) (Pf.gCons (gN 1) Pf.gNil)))) (envL8 a n f m S c num lot (.val (.int b))) = some (.ok (false, envL8 a n f m S c num lot (.val (.int b)))) := by
    have y : M.bd (gCall m_is_place (Pf.gCons (gN 7) (Pf.gCons (gN 1) Pf.gNil))) (fun d => M.opt (truD d)) (envL8 a n f m S c num lot (.val (.int b))) = some (.ok (true, envL8 a n f m S c num lot (.val (.int b)))) := by
      rw [bd_ok z]
      rfl
    show M.bd (M.bd (gCall m_is_place (Pf.gCons (gN 7) (Pf.gCons (gN 1) Pf.gNil))) fun d => M.opt (truD d)) (fun b => M.ok (!b)) _ = _
    rw [bd_ok y]
    rfl
  have t2 : gHasS 4 (gN 7) (envL8 a n f m S c num lot (.val (.int b))) = some (.ok (false, envL8 a n f m S c num lot (.val (.int b)))) := by
    have y : gHasS 4 (gN 7) (envL8 a n f m S c num lot (.val (.int b))) = some (.ok (S b, envL8 a n f m S c num lot (.val (.int b)))) := rfl
    rw [y, hS]
  have t : gOrT (gNotT (gTru (gCall m_is_place (Pf.gCons (gN 7) (Pf.gCons (gN 1) Pf.gNil))))) (gHasS 4 (gN 7)) (envL8 a n f m S c num lot (.val (.int b))) = some (.ok (false, envL8 a n f m S c num lot (.val (.int b)))) := by
    unfold gOrT
    rw [bd_ok t1]
    exact t2
  have a1 : gIfS (gOrT (gNotT (gTru (gCall m_is_place (Pf.gCons (gN 7) (Pf.gCons (gN 1) Pf.gNil))))) (gHasS 4 (gN 7))) (gRet (gN 5)) gNx (envL8 a n f m S c num lot (.val (.int b))) = some (.nx (envL8 a n f m S c num lot (.val (.int b)))) := by rw [ifS_f t]; rfl
  unfold inB
  rw [seq_nx a1]
  have y : gAddS 4 (gN 7) (envL8 a n f m S c num lot (.val (.int b))) = (if c + 1 < 4096 then some (.nx (envL8 a n f m (addS S b) (cntS S c b) num lot (.val (.int b)))) else none) := rfl
  rw [y, if_pos hc]
  unfold cntS
  rw [hS]
  rfl
theorem in_loop (a : PyData) (n : Nat) (f m : PyData) (num lot : Sl) : ∀ (bs : List Nat) (S : Int → Bool) (c : Nat) (x : Sl), (∀ b ∈ bs, b < n) → bs.Nodup → (∀ b ∈ bs, S (b : Nat) = false) → c + bs.length < 4000 →
    ∃ (S' : Int → Bool) (x' : Sl), (∀ i : Nat, S' i = true → S i = true ∨ i ∈ bs) ∧ loopL (bN 7) inB (nats bs) (envL8 a n f m S c num lot x) = some (.nx (envL8 a n f m S' (c + bs.length) num lot x'))
  | [], S, c, x, _, _, _, _ => ⟨S, x, fun i h => .inl h, rfl⟩
  | b :: bs, S, c, x, h1, h2, h3, h4 => by
    simp only [List.length_cons] at h4
    obtain ⟨n1, n2⟩ := List.nodup_cons.mp h2
    obtain ⟨S', x', q1, e⟩ := in_loop a n f m num lot bs (addS S b) (c + 1) (.val (.int b)) (fun y hy => h1 y (List.mem_cons_of_mem _ hy)) n2 (fun y hy => by
      have ne : ¬ ((y : Int) = (b : Int)) := fun z => n1 (Int.ofNat.inj z ▸ hy)
      simp [addS, h3 y (List.mem_cons_of_mem _ hy), ne]) (by omega)
    refine ⟨S', x', fun i hi => ?_, ?_⟩
    · rcases q1 i hi with z | z
      · simp only [addS, Bool.or_eq_true, decide_eq_true_eq] at z
        rcases z with z | z
        · exact .inl z
        · exact .inr (List.mem_cons.mpr (.inl (Int.ofNat.inj z)))
      · exact .inr (List.mem_cons_of_mem _ z)
    · have step : loopL (bN 7) inB (nats (b :: bs)) (envL8 a n f m S c num lot x) = (match inB (envL8 a n f m S c num lot (.val (.int b))) with
        | some (.nx env2) => loopL (bN 7) inB (nats bs) env2
        | some (.ct env2) => loopL (bN 7) inB (nats bs) env2
        | some (.bk env2) => some (.nx env2)
        | o => o) := rfl
      rw [step, in_body a n f m S c num lot b (h1 b List.mem_cons_self) (h3 b List.mem_cons_self) (by omega)]
      simp only
      rw [e, List.length_cons]
      have : c + 1 + bs.length = c + (bs.length + 1) := by omega
      rw [this]
def outB : S := gSeq (gIfS (gOrT (gTst eqD (gN 5) (gN 3)) (gNotT (gTru (gIsa "tuple" (gN 6))))) (gRet (gN 5)) gNx) (gForT (gN 6) (bN 7) inB)
theorem out_loop (a : PyData) (n : Nat) (f : PyData) (mx : Nat) : ∀ (ls : List (List Nat)) (k : Nat) (S : Int → Bool) (c : Nat) (u v x : Sl), (∀ b ∈ ls.flatten, b < n) → ls.flatten.Nodup → (∀ b ∈ ls.flatten, S (b : Nat) = false) → c + ls.flatten.length < 4000 → k + ls.length ≤ mx →
    ∃ (S' : Int → Bool) (c' : Nat) (u' v' x' : Sl), loopL (bTup 2 (bCons (bN 5) (bCons (bN 6) bNil))) outB (enumK k (lotsD ls)) (envL8 a n f (.int mx) S c u v x) = some (.nx (envL8 a n f (.int mx) S' c' u' v' x'))
  | [], k, S, c, u, v, x, _, _, _, _, _ => ⟨S, c, u, v, x, rfl⟩
  | l :: ls, k, S, c, u, v, x, h1, h2, h3, h4, h5 => by
    simp only [List.flatten_cons, List.length_append, List.length_cons] at h4 h5
    rw [List.flatten_cons] at h1 h2 h3
    obtain ⟨n1, n2, n3⟩ := List.nodup_append.mp h2
    obtain ⟨S1, x1, q1, e1⟩ := in_loop a n f (.int mx) (.val (.int k)) (.val (.tuple (nats l))) l S c x (fun b hb => h1 b (List.mem_append_left _ hb)) n1 (fun b hb => h3 b (List.mem_append_left _ hb)) (by omega)
    have dis : ∀ b ∈ ls.flatten, S1 (b : Nat) = false := fun b hb => by
      cases hz : S1 (b : Nat) with
      | false => rfl
      | true =>
        rcases q1 b hz with z | z
        · rw [h3 b (List.mem_append_right _ hb)] at z; cases z
        · exact absurd rfl (n3 b z b hb)
    obtain ⟨S', c', u', v', x', e⟩ := out_loop a n f mx ls (k + 1) S1 (c + l.length) (.val (.int k)) (.val (.tuple (nats l))) x1 (fun b hb => h1 b (List.mem_append_right _ hb)) n2 dis (by omega) (by omega)
    refine ⟨S', c', u', v', x', ?_⟩
    have t1 : gTst eqD (gN 5) (gN 3) (envL8 a n f (.int mx) S c (.val (.int k)) (.val (.tuple (nats l))) x) = some (.ok (false, envL8 a n f (.int mx) S c (.val (.int k)) (.val (.tuple (nats l))) x)) := by
      show M.bd (gN 5) (fun d => M.bd (gN 3) fun e => M.opt (eqD d e)) _ = _
      rw [bd_ok (n_val (d := .int k) rfl), bd_ok (n_val (d := .int mx) rfl)]
      refine opt_ok ?_
      rw [eqD_int]
      rw [beq_eq_false_iff_ne.mpr (by omega)]
    have t : gOrT (gTst eqD (gN 5) (gN 3)) (gNotT (gTru (gIsa "tuple" (gN 6)))) (envL8 a n f (.int mx) S c (.val (.int k)) (.val (.tuple (nats l))) x) = some (.ok (false, envL8 a n f (.int mx) S c (.val (.int k)) (.val (.tuple (nats l))) x)) := by
      unfold gOrT
      rw [bd_ok t1]
      rfl
    have a1 : gIfS (gOrT (gTst eqD (gN 5) (gN 3)) (gNotT (gTru (gIsa "tuple" (gN 6))))) (gRet (gN 5)) gNx (envL8 a n f (.int mx) S c (.val (.int k)) (.val (.tuple (nats l))) x) = some (.nx (envL8 a n f (.int mx) S c (.val (.int k)) (.val (.tuple (nats l))) x)) := by rw [ifS_f t]; rfl
    have body : outB (envL8 a n f (.int mx) S c (.val (.int k)) (.val (.tuple (nats l))) x) = some (.nx (envL8 a n f (.int mx) S1 (c + l.length) (.val (.int k)) (.val (.tuple (nats l))) x1)) := by
      unfold outB
      rw [seq_nx a1]
      unfold gForT
      rw [gE_ok (n_val (d := .tuple (nats l)) rfl)]
      exact e1
    have step : loopL (bTup 2 (bCons (bN 5) (bCons (bN 6) bNil))) outB (enumK k (lotsD (l :: ls))) (envL8 a n f (.int mx) S c u v x) = (match outB (envL8 a n f (.int mx) S c (.val (.int k)) (.val (.tuple (nats l))) x) with
      | some (.nx env2) => loopL (bTup 2 (bCons (bN 5) (bCons (bN 6) bNil))) outB (enumK (k + 1) (lotsD ls)) env2
      | some (.ct env2) => loopL (bTup 2 (bCons (bN 5) (bCons (bN 6) bNil))) outB (enumK (k + 1) (lotsD ls)) env2
      | some (.bk env2) => some (.nx env2)
      | o => o) := rfl
    rw [step, body]
    exact e
theorem wrong_lot_ok (ls : List (List Nat)) (n fw mx : Nat) (h1 : ∀ b ∈ ls.flatten, b < n) (h2 : ls.flatten.Nodup) (h3 : fw ≤ ls.length) (h4 : ls.length ≤ mx) (h5 : ls.flatten.length < 1000) : m_wrong_lot [.tuple (lotsD ls), .int n, .int fw, .int mx] = some (.ok .none) := by
  obtain ⟨S', c', u', v', x', e⟩ := out_loop (.tuple (lotsD ls)) n (.int fw) mx ls 0 (fun _ => false) 0 .no .no .no h1 h2 (fun _ _ => rfl) (by omega) (by omega)
  have eG : G_wrong_lot = gSeq (gIfS (gNotT (gTru (gIsa "tuple" (gN 0)))) (gRet (gC (.int 0))) gNx) (gSeq (gMkS 4) (gSeq (gForET (gN 0) (bTup 2 (bCons (bN 5) (bCons (bN 6) bNil))) outB) (gSeq (gIfS (gTst (cmpD fun i j => decide (i < j)) (gLenP 0) (gN 2)) (gRet (gLenP 0)) gNx) (gRet (gC .none))))) := rfl
  have eE : envD 8 [.tuple (lotsD ls), .int n, .int fw, .int mx] = [.val (.tuple (lotsD ls)), .val (.int n), .val (.int fw), .val (.int mx), .no, .no, .no, .no] := rfl
  have a1 : gIfS (gNotT (gTru (gIsa "tuple" (gN 0)))) (gRet (gC (.int 0))) gNx [.val (.tuple (lotsD ls)), .val (.int n), .val (.int fw), .val (.int mx), .no, .no, .no, .no] = some (.nx [.val (.tuple (lotsD ls)), .val (.int n), .val (.int fw), .val (.int mx), .no, .no, .no, .no]) := rfl
  have a2 : gMkS 4 [.val (.tuple (lotsD ls)), .val (.int n), .val (.int fw), .val (.int mx), .no, .no, .no, .no] = some (.nx (envL8 (.tuple (lotsD ls)) n (.int fw) (.int mx) (fun _ => false) 0 .no .no .no)) := rfl
  have a3 : gForET (gN 0) (bTup 2 (bCons (bN 5) (bCons (bN 6) bNil))) outB (envL8 (.tuple (lotsD ls)) n (.int fw) (.int mx) (fun _ => false) 0 .no .no .no) = some (.nx (envL8 (.tuple (lotsD ls)) n (.int fw) (.int mx) S' c' u' v' x')) := by
    unfold gForET
    rw [gE_ok (n_val (d := .tuple (lotsD ls)) rfl)]
    simp only
    rw [enum_K]
    exact e
  have t : gTst (cmpD fun i j => decide (i < j)) (gLenP 0) (gN 2) (envL8 (.tuple (lotsD ls)) n (.int fw) (.int mx) S' c' u' v' x') = some (.ok (false, envL8 (.tuple (lotsD ls)) n (.int fw) (.int mx) S' c' u' v' x')) := by
    have y : gTst (cmpD fun i j => decide (i < j)) (gLenP 0) (gN 2) (envL8 (.tuple (lotsD ls)) n (.int fw) (.int mx) S' c' u' v' x') = M.opt ((cmpD fun i j => decide (i < j)) (.int (lotsD ls).length) (.int fw)) (envL8 (.tuple (lotsD ls)) n (.int fw) (.int mx) S' c' u' v' x') := rfl
    rw [y]
    refine opt_ok ?_
    rw [List.length_map]
    simp [cmpD]; omega
  have a4 : gIfS (gTst (cmpD fun i j => decide (i < j)) (gLenP 0) (gN 2)) (gRet (gLenP 0)) gNx (envL8 (.tuple (lotsD ls)) n (.int fw) (.int mx) S' c' u' v' x') = some (.nx (envL8 (.tuple (lotsD ls)) n (.int fw) (.int mx) S' c' u' v' x')) := by rw [ifS_f t]; rfl
  refine fnD_rt (r := envL8 (.tuple (lotsD ls)) n (.int fw) (.int mx) S' c' u' v' x') ?_
  rw [eE, eG, seq_nx a1, seq_nx a2, seq_nx a3, seq_nx a4]
  rfl
end Q
/-! part M14 -/
set_option Elab.async false
set_option linter.all false
set_option maxRecDepth 100000
set_option maxHeartbeats 2000000
namespace Q
open PySem PySem.Spec L2
open Pf
theorem any_nats (b : Nat) : ∀ l : List Nat, ((nats l).any fun y => PyData.eqv y (.int b)) = decide (b ∈ l)
  | [] => by simp [nats]
  | x :: l => by
    have ih := any_nats b l
    have e : ((nats (x :: l)).any fun y => PyData.eqv y (.int b)) = (PyData.eqv (.int (x : Int)) (.int b) || (nats l).any fun y => PyData.eqv y (.int b)) := rfl
    rw [e, ih]
    by_cases h : x = b
    · subst h; simp [PyData.eqv]
    · have h1 : ((x : Int) == (b : Int)) = false := beq_eq_false_iff_ne.mpr (by omega)
      have h2 : ¬ b = x := fun z => h z.symm
      simp [PyData.eqv, h1, h2]
theorem all_nats : ∀ l : List Nat, (nats l).all flatD = true
  | [] => rfl
  | x :: l => by
    show (flatD (.int (x : Int)) && (nats l).all flatD) = true
    rw [all_nats l]; rfl
theorem inD_nats (b : Nat) (l : List Nat) : inD (.int b) (.tuple (nats l)) = some (decide (b ∈ l)) := by
  show (if flatD (.int b) = true ∧ (nats l).all flatD = true then some ((nats l).any fun y => PyData.eqv y (.int b)) else none) = _
  rw [if_pos ⟨rfl, all_nats l⟩, any_nats]
def loB : S := gIfS (gTst inD (gN 1) (gN 3)) (gRet (gN 2)) gNx
theorem lo_body (a : PyData) (b k : Nat) (l : List Nat) : loB [.val a, .val (.int b), .val (.int k), .val (.tuple (nats l))] = if b ∈ l then some (.rt (.int k) [.val a, .val (.int b), .val (.int k), .val (.tuple (nats l))]) else some (.nx [.val a, .val (.int b), .val (.int k), .val (.tuple (nats l))]) := by
  have t : gTst inD (gN 1) (gN 3) [.val a, .val (.int b), .val (.int k), .val (.tuple (nats l))] = some (.ok (decide (b ∈ l), [.val a, .val (.int b), .val (.int k), .val (.tuple (nats l))])) := by
    show M.bd (gN 1) (fun d => M.bd (gN 3) fun e => M.opt (inD d e)) _ = _
    rw [bd_ok (n_val (d := .int b) rfl), bd_ok (n_val (d := .tuple (nats l)) rfl)]
    exact opt_ok (inD_nats b l)
  unfold loB
  by_cases h : b ∈ l
  · rw [decide_eq_true h] at t
    rw [ifS_t t, if_pos h]
    rfl
  · rw [decide_eq_false h] at t
    rw [ifS_f t, if_neg h]
    rfl
theorem lo_loop (a : PyData) (b : Nat) : ∀ (ls : List (List Nat)) (k : Nat) (x y : Sl), b ∈ ls.flatten → ∃ (k' : Nat) (env : En), loopL (bTup 2 (bCons (bN 2) (bCons (bN 3) bNil))) loB (enumK k (lotsD ls)) [.val a, .val (.int b), x, y] = some (.rt (.int k') env)
  | [], k, x, y, h => by simp at h
  | l :: ls, k, x, y, h => by
    have step : loopL (bTup 2 (bCons (bN 2) (bCons (bN 3) bNil))) loB (enumK k (lotsD (l :: ls))) [.val a, .val (.int b), x, y] = (match loB [.val a, .val (.int b), .val (.int k), .val (.tuple (nats l))] with
      | some (.nx env2) => loopL (bTup 2 (bCons (bN 2) (bCons (bN 3) bNil))) loB (enumK (k + 1) (lotsD ls)) env2
      | some (.ct env2) => loopL (bTup 2 (bCons (bN 2) (bCons (bN 3) bNil))) loB (enumK (k + 1) (lotsD ls)) env2
      | some (.bk env2) => some (.nx env2)
      | o => o) := rfl
    rw [step, lo_body]
    by_cases hb : b ∈ l
    · rw [if_pos hb]
      exact ⟨k, _, rfl⟩
    · rw [if_neg hb]
      simp only
      rw [List.flatten_cons, List.mem_append] at h
      exact lo_loop a b ls (k + 1) _ _ (h.resolve_left hb)
theorem lot_of_ok (ls : List (List Nat)) (b : Nat) (h : b ∈ ls.flatten) : ∃ k : Nat, m_lot_of [.tuple (lotsD ls), .int b] = some (.ok (.int k)) := by
  obtain ⟨k, env, e⟩ := lo_loop (.tuple (lotsD ls)) b ls 0 .no .no h
  refine ⟨k, fnD_rt (r := env) ?_⟩
  have eG : G_lot_of = gSeq (gForET (gN 0) (bTup 2 (bCons (bN 2) (bCons (bN 3) bNil))) loB) (gRet (gC .none)) := rfl
  have eE : envD 4 [.tuple (lotsD ls), .int b] = [.val (.tuple (lotsD ls)), .val (.int b), .no, .no] := rfl
  have a1 : gForET (gN 0) (bTup 2 (bCons (bN 2) (bCons (bN 3) bNil))) loB [.val (.tuple (lotsD ls)), .val (.int b), .no, .no] = some (.rt (.int k) env) := by
    unfold gForET
    rw [gE_ok (n_val (d := .tuple (lotsD ls)) rfl)]
    simp only
    rw [enum_K]
    exact e
  rw [eE, eG]
  unfold gSeq
  rw [a1]
def mbB : S := gIfS (gTst isD (gCall m_lot_of (Pf.gCons (gN 0) (Pf.gCons (gN 2) Pf.gNil))) (gC .none)) (gRet (gN 2)) gNx
theorem mb_body (ls : List (List Nat)) (n : PyData) (b : Nat) (h : b ∈ ls.flatten) : mbB [.val (.tuple (lotsD ls)), .val n, .val (.int b)] = some (.nx [.val (.tuple (lotsD ls)), .val n, .val (.int b)]) := by
  obtain ⟨k, e⟩ := lot_of_ok ls b h
  have z : gCall m_lot_of (Pf.gCons (gN 0) (Pf.gCons (gN 2) Pf.gNil)) [.val (.tuple (lotsD ls)), .val n, .val (.int b)] = some (.ok (.int k, [.val (.tuple (lotsD ls)), .val n, .val (.int b)])) := by
    have z : Pf.gCons (gN 0) (Pf.gCons (gN 2) Pf.gNil) [.val (.tuple (lotsD ls)), .val n, .val (.int b)] = some (.ok ([.tuple (lotsD ls), .int b], [.val (.tuple (lotsD ls)), .val n, .val (.int b)])) := rfl
    show M.bd (Pf.gCons (gN 0) (Pf.gCons (gN 2) Pf.gNil)) (fun ds => gLift (m_lot_of ds)) _ = _
    rw [bd_ok z, e]
    rfl
  have t : gTst isD (gCall m_lot_of (Pf.gCons (gN 0) (Pf.gCons (gN 2) Pf.gNil))) (gC .none) [.val (.tuple (lotsD ls)), .val n, .val (.int b)] = some (.ok (false, [.val (.tuple (lotsD ls)), .val n, .val (.int b)])) := by
    show M.bd (gCall m_lot_of (Pf.gCons (gN 0) (Pf.gCons (gN 2) Pf.gNil))) (fun d => M.bd (gC .none) fun e => M.opt (isD d e)) _ = _
    rw [bd_ok z]
    rfl
  unfold mbB
  rw [ifS_f t]
  rfl
theorem mb_loop (ls : List (List Nat)) (n : PyData) : ∀ (bs : List Nat) (x : Sl), (∀ b ∈ bs, b ∈ ls.flatten) → ∃ x', loopL (bN 2) mbB (nats bs) [.val (.tuple (lotsD ls)), .val n, x] = some (.nx [.val (.tuple (lotsD ls)), .val n, x'])
  | [], x, _ => ⟨x, rfl⟩
  | b :: bs, x, h => by
    obtain ⟨x', e⟩ := mb_loop ls n bs (.val (.int b)) (fun y hy => h y (List.mem_cons_of_mem _ hy))
    refine ⟨x', ?_⟩
    have step : loopL (bN 2) mbB (nats (b :: bs)) [.val (.tuple (lotsD ls)), .val n, x] = (match mbB [.val (.tuple (lotsD ls)), .val n, .val (.int b)] with
      | some (.nx env2) => loopL (bN 2) mbB (nats bs) env2
      | some (.ct env2) => loopL (bN 2) mbB (nats bs) env2
      | some (.bk env2) => some (.nx env2)
      | o => o) := rfl
    rw [step, mb_body ls n b (h b List.mem_cons_self)]
    exact e
theorem missing_book_ok (ls : List (List Nat)) (n : Nat) (hn : n < 1000) (h : ∀ b, b < n → b ∈ ls.flatten) : m_missing_book [.tuple (lotsD ls), .int n] = some (.ok .none) := by
  obtain ⟨x', e⟩ := mb_loop ls (.int n) (List.range n) .no (fun b hb => h b (List.mem_range.mp hb))
  have eG : G_missing_book = gSeq (gForR1 (gN 1) (bN 2) mbB) (gRet (gC .none)) := rfl
  have eE : envD 3 [.tuple (lotsD ls), .int n] = [.val (.tuple (lotsD ls)), .val (.int n), .no] := rfl
  have a1 : gForR1 (gN 1) (bN 2) mbB [.val (.tuple (lotsD ls)), .val (.int n), .no] = some (.nx [.val (.tuple (lotsD ls)), .val (.int n), x']) := by
    unfold gForR1
    rw [gE_ok (n_val (d := .int n) rfl)]
    simp only
    rw [if_pos (by omega), Int.toNat_natCast, rng_nats]
    exact e
  refine fnD_rt (r := [.val (.tuple (lotsD ls)), .val (.int n), x']) ?_
  rw [eE, eG, seq_nx a1]
  rfl
theorem check_shelf_ok (ps : List (Option Nat)) (ls : List (List Nat)) (hs : ShelfOk ps ls) : m_check_shelf [shelfD ps ls] = some (.ok .none) := by
  have hp1 := hs.p1
  have hp2 := hs.p2
  have w1 := wrong_price_ok ps hs.pr hs.p1 hs.p2
  have hlen := hs.perm.length_eq
  rw [List.length_range] at hlen
  have w2 := wrong_lot_ok ls ps.length 1 5 (fun b hb => List.mem_range.mp (hs.perm.mem_iff.mp hb)) (hs.perm.nodup_iff.mpr List.nodup_range) hs.l1 hs.l2 (by omega)
  have w3 := missing_book_ok ls ps.length (by omega) (fun b hb => hs.perm.mem_iff.mpr (List.mem_range.mpr hb))
  have lp : ((pricesD ps).length : Int) = (ps.length : Int) := by rw [List.length_map]
  have eE : envD 4 [shelfD ps ls] = [.val (shelfD ps ls), .no, .no, .no] := rfl
  have eG : G_check_shelf = gSeq (gIfS (gOrT (gNotT (gTru (gIsa "tuple" (gN 0)))) (gTst neD (gLenP 0) (gC (.int 2)))) (gRaise "BadShelf" ["part", "number"] (Pf.gCons (gUn negD (gC (.int 1))) (Pf.gCons (gC (.int 0)) Pf.gNil))) gNx) (gSeq (gAsg (bTup 2 (bCons (bN 1) (bCons (bN 2) bNil))) (gN 0)) (gSeq (gSet 3 (gCall m_wrong_price (Pf.gCons (gN 1) Pf.gNil))) (gSeq (gIfS (gTst isnD (gN 3) (gC .none)) (gRaise "BadShelf" ["part", "number"] (Pf.gCons (gC (.int 0)) (Pf.gCons (gN 3) Pf.gNil))) gNx) (gSeq (gSet 3 (gCall m_wrong_lot (Pf.gCons (gN 2) (Pf.gCons (gLenP 1) (Pf.gCons (gC (.int 1)) (Pf.gCons (gC (.int 5)) Pf.gNil)))))) (gSeq (gIfS (gTst isnD (gN 3) (gC .none)) (gRaise "BadShelf" ["part", "number"] (Pf.gCons (gC (.int 1)) (Pf.gCons (gN 3) Pf.gNil))) gNx) (gSeq (gSet 3 (gCall m_missing_book (Pf.gCons (gN 2) (Pf.gCons (gLenP 1) Pf.gNil)))) (gIfS (gTst isnD (gN 3) (gC .none)) (gRaise "BadShelf" ["part", "number"] (Pf.gCons (gC (.int 2)) (Pf.gCons (gN 3) Pf.gNil))) gNx))))))) := rfl
  have b0 : (gIfS (gOrT (gNotT (gTru (gIsa "tuple" (gN 0)))) (gTst neD (gLenP 0) (gC (.int 2)))) (gRaise "BadShelf" ["part", "number"] (Pf.gCons (gUn negD (gC (.int 1))) (Pf.gCons (gC (.int 0)) Pf.gNil))) gNx) [.val (shelfD ps ls), .no, .no, .no] = some (.nx [.val (shelfD ps ls), .no, .no, .no]) := rfl
  have b1 : gAsg (bTup 2 (bCons (bN 1) (bCons (bN 2) bNil))) (gN 0) [.val (shelfD ps ls), .no, .no, .no] = some (.nx [.val (shelfD ps ls), .val (.tuple (pricesD ps)), .val (.tuple (lotsD ls)), .no]) := rfl
  have c0 : (gIfS (gTst isnD (gN 3) (gC .none)) (gRaise "BadShelf" ["part", "number"] (Pf.gCons (gC (.int 0)) (Pf.gCons (gN 3) Pf.gNil))) gNx) [.val (shelfD ps ls), .val (.tuple (pricesD ps)), .val (.tuple (lotsD ls)), .val .none] = some (.nx [.val (shelfD ps ls), .val (.tuple (pricesD ps)), .val (.tuple (lotsD ls)), .val .none]) := rfl
  have c1 : (gIfS (gTst isnD (gN 3) (gC .none)) (gRaise "BadShelf" ["part", "number"] (Pf.gCons (gC (.int 1)) (Pf.gCons (gN 3) Pf.gNil))) gNx) [.val (shelfD ps ls), .val (.tuple (pricesD ps)), .val (.tuple (lotsD ls)), .val .none] = some (.nx [.val (shelfD ps ls), .val (.tuple (pricesD ps)), .val (.tuple (lotsD ls)), .val .none]) := rfl
  have c2 : (gIfS (gTst isnD (gN 3) (gC .none)) (gRaise "BadShelf" ["part", "number"] (Pf.gCons (gC (.int 2)) (Pf.gCons (gN 3) Pf.gNil))) gNx) [.val (shelfD ps ls), .val (.tuple (pricesD ps)), .val (.tuple (lotsD ls)), .val .none] = some (.nx [.val (shelfD ps ls), .val (.tuple (pricesD ps)), .val (.tuple (lotsD ls)), .val .none]) := rfl
  have d1 : gSet 3 (gCall m_wrong_price (Pf.gCons (gN 1) Pf.gNil)) [.val (shelfD ps ls), .val (.tuple (pricesD ps)), .val (.tuple (lotsD ls)), .no] = some (.nx [.val (shelfD ps ls), .val (.tuple (pricesD ps)), .val (.tuple (lotsD ls)), .val .none]) := by
    have z : (Pf.gCons (gN 1) Pf.gNil) [.val (shelfD ps ls), .val (.tuple (pricesD ps)), .val (.tuple (lotsD ls)), .no] = some (.ok ([.tuple (pricesD ps)], [.val (shelfD ps ls), .val (.tuple (pricesD ps)), .val (.tuple (lotsD ls)), .no])) := rfl
    have y : gCall m_wrong_price (Pf.gCons (gN 1) Pf.gNil) [.val (shelfD ps ls), .val (.tuple (pricesD ps)), .val (.tuple (lotsD ls)), .no] = some (.ok (.none, [.val (shelfD ps ls), .val (.tuple (pricesD ps)), .val (.tuple (lotsD ls)), .no])) := by
      show M.bd (Pf.gCons (gN 1) Pf.gNil) (fun ds => gLift (m_wrong_price ds)) _ = _
      rw [bd_ok z]
      show gLift (m_wrong_price [.tuple (pricesD ps)]) _ = _
      rw [w1]
      rfl
    show gE _ _ _ = _
    rw [gE_ok y]
    rfl
  have d2 : gSet 3 (gCall m_wrong_lot (Pf.gCons (gN 2) (Pf.gCons (gLenP 1) (Pf.gCons (gC (.int 1)) (Pf.gCons (gC (.int 5)) Pf.gNil))))) [.val (shelfD ps ls), .val (.tuple (pricesD ps)), .val (.tuple (lotsD ls)), .val .none] = some (.nx [.val (shelfD ps ls), .val (.tuple (pricesD ps)), .val (.tuple (lotsD ls)), .val .none]) := by
    have z : (Pf.gCons (gN 2) (Pf.gCons (gLenP 1) (Pf.gCons (gC (.int 1)) (Pf.gCons (gC (.int 5)) Pf.gNil)))) [.val (shelfD ps ls), .val (.tuple (pricesD ps)), .val (.tuple (lotsD ls)), .val .none] = some (.ok ([.tuple (lotsD ls), .int (pricesD ps).length, .int 1, .int 5], [.val (shelfD ps ls), .val (.tuple (pricesD ps)), .val (.tuple (lotsD ls)), .val .none])) := rfl
    have y : gCall m_wrong_lot (Pf.gCons (gN 2) (Pf.gCons (gLenP 1) (Pf.gCons (gC (.int 1)) (Pf.gCons (gC (.int 5)) Pf.gNil)))) [.val (shelfD ps ls), .val (.tuple (pricesD ps)), .val (.tuple (lotsD ls)), .val .none] = some (.ok (.none, [.val (shelfD ps ls), .val (.tuple (pricesD ps)), .val (.tuple (lotsD ls)), .val .none])) := by
      show M.bd (Pf.gCons (gN 2) (Pf.gCons (gLenP 1) (Pf.gCons (gC (.int 1)) (Pf.gCons (gC (.int 5)) Pf.gNil)))) (fun ds => gLift (m_wrong_lot ds)) _ = _
      rw [bd_ok z]
      show gLift (m_wrong_lot [.tuple (lotsD ls), .int (pricesD ps).length, .int 1, .int 5]) _ = _
      rw [lp, show m_wrong_lot [.tuple (lotsD ls), .int ps.length, .int 1, .int 5] = _ from w2]
      rfl
    show gE _ _ _ = _
    rw [gE_ok y]
    rfl
  have d3 : gSet 3 (gCall m_missing_book (Pf.gCons (gN 2) (Pf.gCons (gLenP 1) Pf.gNil))) [.val (shelfD ps ls), .val (.tuple (pricesD ps)), .val (.tuple (lotsD ls)), .val .none] = some (.nx [.val (shelfD ps ls), .val (.tuple (pricesD ps)), .val (.tuple (lotsD ls)), .val .none]) := by
    have z : (Pf.gCons (gN 2) (Pf.gCons (gLenP 1) Pf.gNil)) [.val (shelfD ps ls), .val (.tuple (pricesD ps)), .val (.tuple (lotsD ls)), .val .none] = some (.ok ([.tuple (lotsD ls), .int (pricesD ps).length], [.val (shelfD ps ls), .val (.tuple (pricesD ps)), .val (.tuple (lotsD ls)), .val .none])) := rfl
    have y : gCall m_missing_book (Pf.gCons (gN 2) (Pf.gCons (gLenP 1) Pf.gNil)) [.val (shelfD ps ls), .val (.tuple (pricesD ps)), .val (.tuple (lotsD ls)), .val .none] = some (.ok (.none, [.val (shelfD ps ls), .val (.tuple (pricesD ps)), .val (.tuple (lotsD ls)), .val .none])) := by
      show M.bd (Pf.gCons (gN 2) (Pf.gCons (gLenP 1) Pf.gNil)) (fun ds => gLift (m_missing_book ds)) _ = _
      rw [bd_ok z]
      show gLift (m_missing_book [.tuple (lotsD ls), .int (pricesD ps).length]) _ = _
      rw [lp, w3]
      rfl
    show gE _ _ _ = _
    rw [gE_ok y]
    rfl
  refine fnD_nx (r := [.val (shelfD ps ls), .val (.tuple (pricesD ps)), .val (.tuple (lotsD ls)), .val .none]) ?_
  rw [eE, eG, seq_nx b0, seq_nx b1, seq_nx d1, seq_nx c0, seq_nx d2, seq_nx c1, seq_nx d3, c2]
end Q
/-! part M15 -/
set_option Elab.async false
set_option linter.all false
set_option maxRecDepth 100000
set_option maxHeartbeats 2000000
namespace Q
open PySem PySem.Spec L2
open Pf
/-! ### a deed is refused by both, or done -/
theorem inP_int {v : PyData} {n : Nat} (h : inP v n = true) : ∃ k : Nat, k < n ∧ v = .int k := by
  cases v with
  | int i =>
    have h : decide (0 ≤ i ∧ i < n) = true := h
    have h := of_decide_eq_true h
    exact ⟨i.toNat, by omega, by rw [Int.toNat_of_nonneg h.1]⟩
  | _ => cases h
theorem endOk_is {e : PyData} (h : endOk e = true) : ∃ first, e = endD first := by
  unfold endOk at h
  cases e with
  | str x =>
    simp only [PyData.eqv, Bool.or_eq_true, beq_iff_eq] at h
    rcases h with h | h
    · exact ⟨true, by rw [← h]; rfl⟩
    · exact ⟨false, by rw [← h]; rfl⟩
  | _ => simp [PyData.eqv] at h
def deedD (b k : Nat) (first : Bool) : PyData := .tuple [.int b, .int k, endD first]
/-- what becomes of a deed -/
inductive DeedIs (ps : List (Option Nat)) (ls : List (List Nat)) (d : PyData) : Prop where
  | no (y : Str) (hy : y = "form" ∨ y = "fixed") (h1 : m__law_why [shelfD ps ls, d] = some (.ok (.str y))) (h2 : m_why_not [shelfD ps ls, d] = some (.ok (.str y)))
  | yes (b k : Nat) (first : Bool) (p : Nat) (hd : d = deedD b k first) (hb : b < ps.length) (hk : k < ls.length) (hp : ps[b]? = some (some p)) (h1 : m__law_why [shelfD ps ls, d] = some (.ok (.str ""))) (h2 : m_why_not [shelfD ps ls, d] = some (.ok .none))
theorem deed_is (ps : List (Option Nat)) (ls : List (List Nat)) (d : PyData) (h : DeedD d) : DeedIs ps ls d := by
  obtain ⟨b, l, e, hb, hl, he, rfl | rfl | rfl | rfl⟩ := h
  · cases hg : good3 b l e ps.length ls.length with
    | false => exact .no "form" (.inl rfl) (law_why_no ps ls b l e hb.1 hl.1 he.1 hg) (why_not_no (by rw [is_deed_3 ps ls b l e hb.1 hl.1 he.1, hg]))
    | true =>
      have hg' := hg
      unfold good3 at hg'
      simp only [Bool.and_eq_true] at hg'
      obtain ⟨k, hk, rfl⟩ := inP_int hg'.1
      obtain ⟨j, hj, rfl⟩ := inP_int hg'.2.1
      obtain ⟨first, rfl⟩ := endOk_is hg'.2.2
      have i3 := is_deed_3 ps ls (.int k) (.int j) (endD first) rfl rfl he.1
      rw [hg] at i3
      have w1 := law_why_yes ps ls (.int j) (endD first) k hk rfl he.1 hg
      have w2 := why_not_yes ps ls k (.int j) (endD first) hk i3
      by_cases hn : ps[k] = none
      · rw [if_pos hn] at w1 w2
        exact .no "fixed" (.inr rfl) w1 w2
      · rw [if_neg hn] at w1 w2
        obtain ⟨p, hp⟩ := Option.ne_none_iff_exists'.mp hn
        exact .yes k j first p rfl hk hj (by rw [List.getElem?_eq_getElem hk, hp]) w1 w2
  · exact .no "form" (.inl rfl) (law_why_l _ b l e) (why_not_no (is_deed_l _ b l e))
  · exact .no "form" (.inl rfl) (law_why_2 _ b l) (why_not_no (is_deed_2 _ b l))
  · exact .no "form" (.inl rfl) (law_why_4 _ b l e _) (why_not_no (is_deed_4 _ b l e _))
/-! ### check_deeds -/
def BadWayX (k : Nat) (y : Str) : Xc := ⟨"BadWay", some [(("why" : Str), .str y), (("number" : Str), .int k)]⟩
def cdB : S := gSeq (gSet 4 (gCall m_why_not (Pf.gCons (gN 0) (Pf.gCons (gN 3) Pf.gNil)))) (gIfS (gTst isnD (gN 4) (gC .none)) (gRaise "BadWay" ["number", "why"] (Pf.gCons (gN 2) (Pf.gCons (gN 4) Pf.gNil))) gNx)
def envC5 (sh a : PyData) (k : Nat) (d : PyData) (x : Sl) : En := [.val sh, .val a, .val (.int k), .val d, x]
theorem cd_call {sh a d r : PyData} {k : Nat} {x : Sl} (h : m_why_not [sh, d] = some (.ok r)) : gSet 4 (gCall m_why_not (Pf.gCons (gN 0) (Pf.gCons (gN 3) Pf.gNil))) (envC5 sh a k d x) = some (.nx (envC5 sh a k d (.val r))) := by
  have z : Pf.gCons (gN 0) (Pf.gCons (gN 3) Pf.gNil) (envC5 sh a k d x) = some (.ok ([sh, d], envC5 sh a k d x)) := rfl
  have y : gCall m_why_not (Pf.gCons (gN 0) (Pf.gCons (gN 3) Pf.gNil)) (envC5 sh a k d x) = some (.ok (r, envC5 sh a k d x)) := by
    show M.bd (Pf.gCons (gN 0) (Pf.gCons (gN 3) Pf.gNil)) (fun ds => gLift (m_why_not ds)) _ = _
    rw [bd_ok z, h]
    rfl
  show gE _ _ _ = _
  rw [gE_ok y]
  rfl
theorem cd_yes {sh a d : PyData} {k : Nat} {x : Sl} (h : m_why_not [sh, d] = some (.ok .none)) : cdB (envC5 sh a k d x) = some (.nx (envC5 sh a k d (.val .none))) := by
  unfold cdB
  rw [seq_nx (cd_call h)]
  rfl
theorem cd_no {sh a d : PyData} {k : Nat} {x : Sl} {y : Str} (hy : y = "form" ∨ y = "fixed") (hk : k < 1000) (h : m_why_not [sh, d] = some (.ok (.str y))) : ∃ env, cdB (envC5 sh a k d x) = some (.er (BadWayX k y) env) := by
  refine ⟨envC5 sh a k d (.val (.str y)), ?_⟩
  unfold cdB
  rw [seq_nx (cd_call h)]
  have t : gTst isnD (gN 4) (gC .none) (envC5 sh a k d (.val (.str y))) = some (.ok (true, envC5 sh a k d (.val (.str y)))) := rfl
  rw [ifS_t t]
  have z : Pf.gCons (gN 2) (Pf.gCons (gN 4) Pf.gNil) (envC5 sh a k d (.val (.str y))) = some (.ok ([.int k, .str y], envC5 sh a k d (.val (.str y)))) := rfl
  unfold gRaise
  rw [gE_ok z]
  have pr : ([.int k, .str y] : List PyData).all printable = true := by
    have h1 : printable (.int k) = true := by
      show decide ((k : Int).natAbs.log2 < 1920) = true
      refine decide_eq_true ?_
      have : (k : Int).natAbs = k := rfl
      rw [this]
      exact Nat.lt_of_le_of_lt (Nat.log2_le_self k) (by omega)
    have h2 : printable (.str y) = true := by
      rcases hy with rfl | rfl
      · decide +kernel
      · decide +kernel
    simp [h1, h2]
  rw [if_pos ⟨rfl, pr⟩]
  rfl
/-- the first deed that can't be: its number, why -/
inductive FirstNo (ps : List (Option Nat)) (ls : List (List Nat)) : Nat → List PyData → Option (Nat × Str) → Prop where
  | nil {k : Nat} : FirstNo ps ls k [] none
  | no {k : Nat} {d : PyData} {r : List PyData} {y : Str} (hy : y = "form" ∨ y = "fixed") (h1 : m__law_why [shelfD ps ls, d] = some (.ok (.str y))) (h2 : m_why_not [shelfD ps ls, d] = some (.ok (.str y))) : FirstNo ps ls k (d :: r) (some (k, y))
  | yes {k : Nat} {b j : Nat} {first : Bool} {p : Nat} {r : List PyData} {o : Option (Nat × Str)} (hb : b < ps.length) (hk : j < ls.length) (hp : ps[b]? = some (some p)) (h1 : m__law_why [shelfD ps ls, deedD b j first] = some (.ok (.str ""))) (h2 : m_why_not [shelfD ps ls, deedD b j first] = some (.ok .none)) (hr : FirstNo ps ls (k + 1) r o) : FirstNo ps ls k (deedD b j first :: r) o
theorem first_no (ps : List (Option Nat)) (ls : List (List Nat)) : ∀ (ds : List PyData) (k : Nat), (∀ d ∈ ds, DeedD d) → ∃ o, FirstNo ps ls k ds o
  | [], k, _ => ⟨none, .nil⟩
  | d :: r, k, h => by
    cases deed_is ps ls d (h d List.mem_cons_self) with
    | no y hy h1 h2 => exact ⟨some (k, y), .no hy h1 h2⟩
    | yes b j first p hd hb hk hp h1 h2 =>
      subst hd
      obtain ⟨o, ho⟩ := first_no ps ls r (k + 1) fun x hx => h x (List.mem_cons_of_mem _ hx)
      exact ⟨o, .yes hb hk hp h1 h2 ho⟩
theorem cd_loop (ps : List (Option Nat)) (ls : List (List Nat)) (a : PyData) {ds : List PyData} {k : Nat} {o : Option (Nat × Str)} (hf : FirstNo ps ls k ds o) : ∀ (x y z : Sl), k + ds.length < 1000 →
    (o = none ∧ ∃ x' y' z', loopL (bTup 2 (bCons (bN 2) (bCons (bN 3) bNil))) cdB (enumK k ds) [.val (shelfD ps ls), .val a, x, y, z] = some (.nx [.val (shelfD ps ls), .val a, x', y', z'])) ∨
    ∃ k' w env, o = some (k', w) ∧ loopL (bTup 2 (bCons (bN 2) (bCons (bN 3) bNil))) cdB (enumK k ds) [.val (shelfD ps ls), .val a, x, y, z] = some (.er (BadWayX k' w) env) := by
  induction hf with
  | nil => exact fun x y z _ => .inl ⟨rfl, x, y, z, rfl⟩
  | @no k d r w hy h1 h2 =>
    intro x y z hl
    obtain ⟨env, e⟩ := cd_no (a := a) (k := k) (x := z) hy (by simp only [List.length_cons] at hl; omega) h2
    refine .inr ⟨k, w, env, rfl, ?_⟩
    have step : loopL (bTup 2 (bCons (bN 2) (bCons (bN 3) bNil))) cdB (enumK k (d :: r)) [.val (shelfD ps ls), .val a, x, y, z] = (match cdB (envC5 (shelfD ps ls) a k d z) with
      | some (.nx env2) => loopL (bTup 2 (bCons (bN 2) (bCons (bN 3) bNil))) cdB (enumK (k + 1) r) env2
      | some (.ct env2) => loopL (bTup 2 (bCons (bN 2) (bCons (bN 3) bNil))) cdB (enumK (k + 1) r) env2
      | some (.bk env2) => some (.nx env2)
      | o => o) := rfl
    rw [step, e]
  | @yes k b j first p r o hb hk hp h1 h2 hr ih =>
    intro x y z hl
    have e := cd_yes (a := a) (k := k) (x := z) h2
    have step : loopL (bTup 2 (bCons (bN 2) (bCons (bN 3) bNil))) cdB (enumK k (deedD b j first :: r)) [.val (shelfD ps ls), .val a, x, y, z] = (match cdB (envC5 (shelfD ps ls) a k (deedD b j first) z) with
      | some (.nx env2) => loopL (bTup 2 (bCons (bN 2) (bCons (bN 3) bNil))) cdB (enumK (k + 1) r) env2
      | some (.ct env2) => loopL (bTup 2 (bCons (bN 2) (bCons (bN 3) bNil))) cdB (enumK (k + 1) r) env2
      | some (.bk env2) => some (.nx env2)
      | o => o) := rfl
    rw [step, e]
    exact ih _ _ _ (by simp only [List.length_cons] at hl; omega)
theorem check_list_ok (ds : List PyData) : m_check_list [.list ds] = some (.ok .none) := fnD_nx (r := [.val (.list ds)]) rfl
theorem check_list_no (d : PyData) (hd : ∀ xs, d ≠ .list xs) (hd2 : ∀ xs, d ≠ .dict xs) : m_check_list [d] = some (.error (BadWayX 0 "form")) := by
  have t : gNotT (gTru (gIsa "list" (gN 0))) [.val d] = some (.ok (true, [.val d])) := by
    cases d with
    | list xs => exact absurd rfl (hd xs)
    | dict xs => exact absurd rfl (hd2 xs)
    | _ => rfl
  refine fnD_er (r := [.val d]) ?_
  show G_check_list [.val d] = _
  unfold G_check_list
  rw [ifS_t t]
  have z : Pf.gCons (gC (.int 0)) (Pf.gCons (gC (.str "form")) Pf.gNil) [.val d] = some (.ok ([.int 0, .str "form"], [.val d])) := rfl
  have pr : ([.int 0, .str "form"] : List PyData).all printable = true := by decide +kernel
  show gRaise _ _ _ _ = _
  unfold gRaise
  rw [gE_ok z, if_pos ⟨rfl, pr⟩]
  rfl
/-- check_deeds of a list -/
theorem check_deeds_ok (ps : List (Option Nat)) (ls : List (List Nat)) (ds : List PyData) (o : Option (Nat × Str)) (hf : FirstNo ps ls 0 ds o) (hl : ds.length < 900) :
    m_check_deeds [shelfD ps ls, .list ds] = some (match o with
      | none => .ok .none
      | some (k, y) => .error (BadWayX k y)) := by
  have eG : G_check_deeds = gSeq (gEx (gCall m_check_list (Pf.gCons (gN 1) Pf.gNil))) (gForEL (gN 1) (bTup 2 (bCons (bN 2) (bCons (bN 3) bNil))) cdB) := rfl
  have eE : envD 5 [shelfD ps ls, .list ds] = [.val (shelfD ps ls), .val (.list ds), .no, .no, .no] := rfl
  have a0 : gEx (gCall m_check_list (Pf.gCons (gN 1) Pf.gNil)) [.val (shelfD ps ls), .val (.list ds), .no, .no, .no] = some (.nx [.val (shelfD ps ls), .val (.list ds), .no, .no, .no]) := by
    have z : Pf.gCons (gN 1) Pf.gNil [.val (shelfD ps ls), .val (.list ds), .no, .no, .no] = some (.ok ([.list ds], [.val (shelfD ps ls), .val (.list ds), .no, .no, .no])) := rfl
    have y : gCall m_check_list (Pf.gCons (gN 1) Pf.gNil) [.val (shelfD ps ls), .val (.list ds), .no, .no, .no] = some (.ok (.none, [.val (shelfD ps ls), .val (.list ds), .no, .no, .no])) := by
      show M.bd (Pf.gCons (gN 1) Pf.gNil) (fun ds => gLift (m_check_list ds)) _ = _
      rw [bd_ok z, check_list_ok]
      rfl
    show gE _ _ _ = _
    rw [gE_ok y]
    rfl
  have f : gForEL (gN 1) (bTup 2 (bCons (bN 2) (bCons (bN 3) bNil))) cdB [.val (shelfD ps ls), .val (.list ds), .no, .no, .no] = loopL (bTup 2 (bCons (bN 2) (bCons (bN 3) bNil))) cdB (enumK 0 ds) [.val (shelfD ps ls), .val (.list ds), .no, .no, .no] := by
    unfold gForEL
    rw [gE_ok (n_val (d := .list ds) rfl)]
    simp only
    rw [enum_K]
  rcases cd_loop ps ls (.list ds) hf .no .no .no (by omega) with ⟨ho, x', y', z', e⟩ | ⟨k', w, env, ho, e⟩
  · subst ho
    refine fnD_nx (r := [.val (shelfD ps ls), .val (.list ds), x', y', z']) ?_
    rw [eE, eG, seq_nx a0, f, e]
  · subst ho
    refine fnD_er (r := env) ?_
    rw [eE, eG, seq_nx a0, f, e]
end Q
/-! part M16 -/
set_option Elab.async false
set_option linter.all false
set_option maxRecDepth 100000
set_option maxHeartbeats 2000000
namespace Q
open PySem PySem.Spec L2
open Pf
/-! ### deeds done -/
theorem strip_flat (b : Nat) : ∀ ls : List (List Nat), (ls.map (strip b)).flatten.length ≤ ls.flatten.length
  | [] => Nat.le_refl _
  | l :: ls => by
    have h1 : (strip b l).length ≤ l.length := List.length_filter_le _ _
    have h2 := strip_flat b ls
    simp only [List.map_cons, List.flatten_cons, List.length_append]
    omega
theorem set_flat : ∀ (ls : List (List Nat)) (k : Nat) (l : List Nat), l.length ≤ ((ls[k]?).getD []).length + 1 → (ls.set k l).flatten.length ≤ ls.flatten.length + 1
  | [], k, l, _ => by simp
  | x :: ls, 0, l, h => by
    simp only [List.set_cons_zero, List.flatten_cons, List.length_append]
    simp at h
    omega
  | x :: ls, k + 1, l, h => by
    have ih := set_flat ls k l (by simpa using h)
    simp only [List.set_cons_succ, List.flatten_cons, List.length_append]
    omega
theorem placed_flat (ls : List (List Nat)) (b k : Nat) (first : Bool) : (placed ls b k first).flatten.length ≤ ls.flatten.length + 1 := by
  have h1 := strip_flat b ls
  have h2 := set_flat (ls.map (strip b)) k (putEnd first b (((ls.map (strip b))[k]?).getD [])) (by cases first <;> simp [putEnd])
  unfold placed
  omega
theorem placed_len (ls : List (List Nat)) (b k : Nat) (first : Bool) : (placed ls b k first).length = ls.length := by simp [placed]
/-- what the deeds lead to, and cost -/
inductive Runs (ps : List (Option Nat)) (c : Nat) : List (List Nat) → Nat → List PyData → List (List Nat) → Nat → Prop where
  | nil {cur : List (List Nat)} {t : Nat} : Runs ps c cur t [] cur t
  | cons {cur L : List (List Nat)} {t T b j p : Nat} {first : Bool} {r : List PyData} (hb : b < ps.length) (hj : j < c) (hp : ps[b]? = some (some p)) (hr : Runs ps c (placed cur b j first) (t + p) r L T) : Runs ps c cur t (deedD b j first :: r) L T
theorem runs_of (ps : List (Option Nat)) (ls : List (List Nat)) {k : Nat} {ds : List PyData} {o : Option (Nat × Str)} (h : FirstNo ps ls k ds o) : o = none → ∀ (cur : List (List Nat)) (t : Nat), ∃ L T, Runs ps ls.length cur t ds L T := by
  induction h with
  | nil => exact fun _ cur t => ⟨cur, t, .nil⟩
  | no _ _ _ => intro e; cases e
  | @yes k b j first p r o hb hk hp h1 h2 hr ih =>
    intro e cur t
    obtain ⟨L, T, hh⟩ := ih e (placed cur b j first) (t + p)
    exact ⟨L, T, .cons hb hk hp hh⟩
theorem lots_small {ls : List (List Nat)} {n : Nat} (h : ls.flatten.length < n) : ∀ l ∈ ls, l.length < n := fun l hl => by
  have : l.Sublist ls.flatten := List.sublist_flatten_of_mem hl
  have := this.length_le
  omega
def doB : S := gSeq (gSet 3 (gCall m_lots_behind (Pf.gCons (gN 3) (Pf.gCons (gN 5) Pf.gNil)))) (gAug 4 (fun i j => i + j) (gIxP 2 (gIxP 5 (gC (.int 0)))))
def envDo (sh dd : PyData) (ps : List (Option Nat)) (cur : List (List Nat)) (t : Nat) (x : Sl) : En := [.val sh, .val dd, .val (.tuple (pricesD ps)), .val (.tuple (lotsD cur)), .val (.int t), x]
theorem do_body (sh dd : PyData) (ps : List (Option Nat)) (cur : List (List Nat)) (t b j p : Nat) (first : Bool) (hb : b < ps.length) (hj : j < cur.length) (hp : ps[b]? = some (some p)) (hl : cur.length < 100) (hf : cur.flatten.length < 900) :
    doB (envDo sh dd ps cur t (.val (deedD b j first))) = some (.nx (envDo sh dd ps (placed cur b j first) (t + p) (.val (deedD b j first)))) := by
  have lb := lots_behind_ok cur b j first hj hl (lots_small hf)
  have z : Pf.gCons (gN 3) (Pf.gCons (gN 5) Pf.gNil) (envDo sh dd ps cur t (.val (deedD b j first))) = some (.ok ([.tuple (lotsD cur), deedD b j first], envDo sh dd ps cur t (.val (deedD b j first)))) := rfl
  have y : gCall m_lots_behind (Pf.gCons (gN 3) (Pf.gCons (gN 5) Pf.gNil)) (envDo sh dd ps cur t (.val (deedD b j first))) = some (.ok (.tuple (lotsD (placed cur b j first)), envDo sh dd ps cur t (.val (deedD b j first)))) := by
    show M.bd (Pf.gCons (gN 3) (Pf.gCons (gN 5) Pf.gNil)) (fun ds => gLift (m_lots_behind ds)) _ = _
    rw [bd_ok z]
    unfold deedD
    rw [lb]
    rfl
  have a1 : gSet 3 (gCall m_lots_behind (Pf.gCons (gN 3) (Pf.gCons (gN 5) Pf.gNil))) (envDo sh dd ps cur t (.val (deedD b j first))) = some (.nx (envDo sh dd ps (placed cur b j first) t (.val (deedD b j first)))) := by
    show gE _ _ _ = _
    rw [gE_ok y]
    rfl
  have hpb : (pricesD ps)[b]? = some (.int p) := by
    rw [price_at hb]
    have : ps[b] = some p := by rw [List.getElem?_eq_getElem hb] at hp; exact Option.some.inj hp
    rw [this]; rfl
  have x1 : gIxP 2 (gIxP 5 (gC (.int 0))) (envDo sh dd ps (placed cur b j first) t (.val (deedD b j first))) = some (.ok (.int p, envDo sh dd ps (placed cur b j first) t (.val (deedD b j first)))) :=
    ixP_tup (ds := pricesD ps) (ds1 := pricesD ps) (k := b) rfl rfl rfl hpb
  unfold doB
  rw [seq_nx a1]
  rw [aug_at (a := t) (b := p) rfl x1]
  show some (Out.nx ((envDo sh dd ps (placed cur b j first) t (.val (deedD b j first))).set 4 (.val (.int ((t : Int) + (p : Int)))))) = _
  have : ((t : Int) + (p : Int)) = ((t + p : Nat) : Int) := by omega
  rw [this]
  rfl
theorem do_loop (sh dd : PyData) (ps : List (Option Nat)) {c : Nat} {cur L : List (List Nat)} {t T : Nat} {ds : List PyData} (h : Runs ps c cur t ds L T) : ∀ x : Sl, cur.length = c → c < 100 → cur.flatten.length + ds.length < 900 →
    ∃ x', loopL (bN 5) doB ds (envDo sh dd ps cur t x) = some (.nx (envDo sh dd ps L T x')) := by
  induction h with
  | nil => exact fun x _ _ _ => ⟨x, rfl⟩
  | @cons cur L t T b j p first r hb hj hp hr ih =>
    intro x h1 h2 h3
    simp only [List.length_cons] at h3
    have hf := placed_flat cur b j first
    obtain ⟨x', e⟩ := ih (.val (deedD b j first)) (by rw [placed_len]; exact h1) h2 (by omega)
    refine ⟨x', ?_⟩
    have step : loopL (bN 5) doB (deedD b j first :: r) (envDo sh dd ps cur t x) = (match doB (envDo sh dd ps cur t (.val (deedD b j first))) with
      | some (.nx env2) => loopL (bN 5) doB r env2
      | some (.ct env2) => loopL (bN 5) doB r env2
      | some (.bk env2) => some (.nx env2)
      | o => o) := rfl
    rw [step, do_body sh dd ps cur t b j p first hb (by omega) hp (by omega) (by omega)]
    exact e
end Q
/-! part M17 -/
set_option Elab.async false
set_option linter.all false
set_option maxRecDepth 100000
set_option maxHeartbeats 2000000
namespace Q
open PySem PySem.Spec L2
open Pf
theorem done_head (ps : List (Option Nat)) (ls : List (List Nat)) (hs : ShelfOk ps ls) (dd : PyData) : gEx (gCall m_check_shelf (Pf.gCons (gN 0) Pf.gNil)) (envD 2 [shelfD ps ls, dd]) = some (.nx [.val (shelfD ps ls), .val dd]) := by
  have z : Pf.gCons (gN 0) Pf.gNil (envD 2 [shelfD ps ls, dd]) = some (.ok ([shelfD ps ls], [.val (shelfD ps ls), .val dd])) := rfl
  have y : gCall m_check_shelf (Pf.gCons (gN 0) Pf.gNil) (envD 2 [shelfD ps ls, dd]) = some (.ok (.none, [.val (shelfD ps ls), .val dd])) := by
    show M.bd (Pf.gCons (gN 0) Pf.gNil) (fun ds => gLift (m_check_shelf ds)) _ = _
    rw [bd_ok z, check_shelf_ok ps ls hs]
    rfl
  show gE _ _ _ = _
  rw [gE_ok y]
  rfl
theorem done_er (ps : List (Option Nat)) (ls : List (List Nat)) (hs : ShelfOk ps ls) (dd : PyData) (x : Xc) (h : m_check_deeds [shelfD ps ls, dd] = some (.error x)) : m_done [shelfD ps ls, dd] = some (.error x) := by
  have z : Pf.gCons (gN 0) (Pf.gCons (gN 1) Pf.gNil) [.val (shelfD ps ls), .val dd] = some (.ok ([shelfD ps ls, dd], [.val (shelfD ps ls), .val dd])) := rfl
  have y : gCall m_check_deeds (Pf.gCons (gN 0) (Pf.gCons (gN 1) Pf.gNil)) [.val (shelfD ps ls), .val dd] = some (.error (x, [.val (shelfD ps ls), .val dd])) := by
    show M.bd (Pf.gCons (gN 0) (Pf.gCons (gN 1) Pf.gNil)) (fun ds => gLift (m_check_deeds ds)) _ = _
    rw [bd_ok z, h]
    rfl
  have e : gEx (gCall m_check_deeds (Pf.gCons (gN 0) (Pf.gCons (gN 1) Pf.gNil))) [.val (shelfD ps ls), .val dd] = some (.er x [.val (shelfD ps ls), .val dd]) := by
    show gE _ _ _ = _
    unfold gE
    rw [y]
  refine fnD_er (r := [.val (shelfD ps ls), .val dd]) ?_
  unfold G_done
  rw [seq_nx (done_head ps ls hs dd)]
  unfold gSeq
  rw [e]
theorem outcome_ok (ps : List (Option Nat)) (ls : List (List Nat)) (ds : List PyData) (L : List (List Nat)) (T : Nat) (hr : Runs ps ls.length ls 0 ds L T) (h2 : ls.length < 100) (h3 : ls.flatten.length + ds.length < 900) : m_outcome [shelfD ps ls, .list ds] = some (.ok (.tuple [.tuple (lotsD L), .int T])) := by
  obtain ⟨x', e⟩ := do_loop (shelfD ps ls) (.list ds) ps hr .no rfl h2 h3
  have a2 : gAsg (bTup 2 (bCons (bN 2) (bCons (bN 3) bNil))) (gN 0) [.val (shelfD ps ls), .val (.list ds), .no, .no, .no, .no] = some (.nx [.val (shelfD ps ls), .val (.list ds), .val (.tuple (pricesD ps)), .val (.tuple (lotsD ls)), .no, .no]) := rfl
  have a3 : gSet 4 (gC (.int 0)) [.val (shelfD ps ls), .val (.list ds), .val (.tuple (pricesD ps)), .val (.tuple (lotsD ls)), .no, .no] = some (.nx (envDo (shelfD ps ls) (.list ds) ps ls 0 .no)) := rfl
  have a4 : gForL (gN 1) (bN 5) doB (envDo (shelfD ps ls) (.list ds) ps ls 0 .no) = some (.nx (envDo (shelfD ps ls) (.list ds) ps L T x')) := by
    unfold gForL
    rw [gE_ok (n_val (d := .list ds) rfl)]
    exact e
  have eG : G_outcome = gSeq (gAsg (bTup 2 (bCons (bN 2) (bCons (bN 3) bNil))) (gN 0)) (gSeq (gSet 4 (gC (.int 0))) (gSeq (gForL (gN 1) (bN 5) doB) (gRet (Pf.gTup (Pf.gCons (gN 3) (Pf.gCons (gN 4) Pf.gNil)))))) := rfl
  have eE : envD 6 [shelfD ps ls, .list ds] = [.val (shelfD ps ls), .val (.list ds), .no, .no, .no, .no] := rfl
  refine fnD_rt (r := envDo (shelfD ps ls) (.list ds) ps L T x') ?_
  rw [eE, eG, seq_nx a2, seq_nx a3, seq_nx a4]
  rfl
theorem done_yes (ps : List (Option Nat)) (ls : List (List Nat)) (hs : ShelfOk ps ls) (ds : List PyData) (L : List (List Nat)) (T : Nat) (hf : FirstNo ps ls 0 ds none) (hr : Runs ps ls.length ls 0 ds L T) (hl : ds.length < 800) : m_done [shelfD ps ls, .list ds] = some (.ok (.tuple [.tuple (lotsD L), .int T])) := by
  have hc := check_deeds_ok ps ls ds none hf (by omega)
  have hp2 := hs.p2
  have hl2 := hs.l2
  have hlen := hs.perm.length_eq
  rw [List.length_range] at hlen
  have ho := outcome_ok ps ls ds L T hr (by omega) (by omega)
  have z : Pf.gCons (gN 0) (Pf.gCons (gN 1) Pf.gNil) [.val (shelfD ps ls), .val (.list ds)] = some (.ok ([shelfD ps ls, .list ds], [.val (shelfD ps ls), .val (.list ds)])) := rfl
  have y : gCall m_check_deeds (Pf.gCons (gN 0) (Pf.gCons (gN 1) Pf.gNil)) [.val (shelfD ps ls), .val (.list ds)] = some (.ok (.none, [.val (shelfD ps ls), .val (.list ds)])) := by
    show M.bd (Pf.gCons (gN 0) (Pf.gCons (gN 1) Pf.gNil)) (fun ds => gLift (m_check_deeds ds)) _ = _
    rw [bd_ok z, hc]
    rfl
  have a1 : gEx (gCall m_check_deeds (Pf.gCons (gN 0) (Pf.gCons (gN 1) Pf.gNil))) [.val (shelfD ps ls), .val (.list ds)] = some (.nx [.val (shelfD ps ls), .val (.list ds)]) := by
    show gE _ _ _ = _
    rw [gE_ok y]
    rfl
  have y2 : gCall m_outcome (Pf.gCons (gN 0) (Pf.gCons (gN 1) Pf.gNil)) [.val (shelfD ps ls), .val (.list ds)] = some (.ok (.tuple [.tuple (lotsD L), .int T], [.val (shelfD ps ls), .val (.list ds)])) := by
    show M.bd (Pf.gCons (gN 0) (Pf.gCons (gN 1) Pf.gNil)) (fun ds => gLift (m_outcome ds)) _ = _
    rw [bd_ok z, ho]
    rfl
  refine fnD_rt (r := [.val (shelfD ps ls), .val (.list ds)]) ?_
  unfold G_done
  rw [seq_nx (done_head ps ls hs (.list ds)), seq_nx a1]
  show gE _ gRt _ = _
  rw [gE_ok y2]
  rfl
theorem done_no (ps : List (Option Nat)) (ls : List (List Nat)) (hs : ShelfOk ps ls) (ds : List PyData) (k : Nat) (y : Str) (hf : FirstNo ps ls 0 ds (some (k, y))) (hl : ds.length < 800) : m_done [shelfD ps ls, .list ds] = some (.error (BadWayX k y)) :=
  done_er ps ls hs _ _ (check_deeds_ok ps ls ds _ hf (by omega))
/-- what is no list is refused -/
theorem done_form (ps : List (Option Nat)) (ls : List (List Nat)) (hs : ShelfOk ps ls) (d : PyData) (hd : ∀ xs, d ≠ .list xs) (hd2 : ∀ xs, d ≠ .dict xs) : m_done [shelfD ps ls, d] = some (.error (BadWayX 0 "form")) := by
  refine done_er ps ls hs d _ ?_
  have eG : G_check_deeds = gSeq (gEx (gCall m_check_list (Pf.gCons (gN 1) Pf.gNil))) (gForEL (gN 1) (bTup 2 (bCons (bN 2) (bCons (bN 3) bNil))) cdB) := rfl
  have eE : envD 5 [shelfD ps ls, d] = [.val (shelfD ps ls), .val d, .no, .no, .no] := rfl
  have z : Pf.gCons (gN 1) Pf.gNil [.val (shelfD ps ls), .val d, .no, .no, .no] = some (.ok ([d], [.val (shelfD ps ls), .val d, .no, .no, .no])) := rfl
  have y : gCall m_check_list (Pf.gCons (gN 1) Pf.gNil) [.val (shelfD ps ls), .val d, .no, .no, .no] = some (.error (BadWayX 0 "form", [.val (shelfD ps ls), .val d, .no, .no, .no])) := by
    show M.bd (Pf.gCons (gN 1) Pf.gNil) (fun ds => gLift (m_check_list ds)) _ = _
    rw [bd_ok z, check_list_no d hd hd2]
    rfl
  have e : gEx (gCall m_check_list (Pf.gCons (gN 1) Pf.gNil)) [.val (shelfD ps ls), .val d, .no, .no, .no] = some (.er (BadWayX 0 "form") [.val (shelfD ps ls), .val d, .no, .no, .no]) := by
    show gE _ _ _ = _
    unfold gE
    rw [y]
  refine fnD_er (r := [.val (shelfD ps ls), .val d, .no, .no, .no]) ?_
  rw [eE, eG]
  unfold gSeq
  rw [e]
end Q
/-! part M18 -/
set_option Elab.async false
set_option linter.all false
set_option maxRecDepth 100000
set_option maxHeartbeats 2000000
namespace Q
open PySem PySem.Spec L2
open Pf
/-! ### the law's own reckoning -/
def envF (a : PyData) (s : Stt) (tn mn : PyData) (k : Sl) (lots tot due : PyData) (why hd : Sl) (ds : List PyData) (odd : Sl) (sh : PyData) (T : List (Addr × Str)) : En := [.val a, .own (enc s), .val tn, .val mn, k, .val lots, .val tot, .val due, why, hd, .own ds, odd, .val sh, .tab T]
def refW : S := gSet 8 (gCall m__law_why (Pf.gCons (gN 12) (Pf.gCons (gIxP 10 (gN 4)) Pf.gNil)))
def ref1 : S := gIfS (gAndT (gTst isD (gN 7) (gC .none)) (gTst neD (gN 8) (gC (.str "")))) (gSet 7 (Pf.gTup (Pf.gCons (gC (.str "BadWay")) (Pf.gCons (gN 4) (Pf.gCons (gN 8) Pf.gNil))))) gNx
def refP : M PyData := gCall m__law_placed (Pf.gCons (gN 5) (Pf.gCons (gBin atD (gIxP 10 (gN 4)) (gC (.int 0))) (Pf.gCons (gBin atD (gIxP 10 (gN 4)) (gC (.int 1))) (Pf.gCons (gBin atD (gIxP 10 (gN 4)) (gC (.int 2))) Pf.gNil))))
def ref2 : S := gIfS (gTst isD (gN 7) (gC .none)) (gSeq (gSet 5 refP) (gSet 6 (gBin addD (gN 6) (gBin atD (gIxP 12 (gC (.int 0))) (gBin atD (gIxP 10 (gN 4)) (gC (.int 0))))))) gNx
def refB : S := gSeq refW (gSeq ref1 ref2)
section
variable {a : PyData} {s : Stt} {tn mn lots tot due sh d r : PyData} {k : Nat} {why hd odd : Sl} {ds : List PyData} {T : List (Addr × Str)}
theorem refW_ok (hk : ds[k]? = some d) (h : m__law_why [sh, d] = some (.ok r)) : refW (envF a s tn mn (.val (.int k)) lots tot due why hd ds odd sh T) = some (.nx (envF a s tn mn (.val (.int k)) lots tot due (.val r) hd ds odd sh T)) := by
  have x1 : gIxP 10 (gN 4) (envF a s tn mn (.val (.int k)) lots tot due why hd ds odd sh T) = some (.ok (d, envF a s tn mn (.val (.int k)) lots tot due why hd ds odd sh T)) := ixP_own (ds := ds) (ds1 := ds) (k := k) rfl rfl rfl hk
  have z1 : Pf.gCons (gIxP 10 (gN 4)) Pf.gNil (envF a s tn mn (.val (.int k)) lots tot due why hd ds odd sh T) = some (.ok ([d], envF a s tn mn (.val (.int k)) lots tot due why hd ds odd sh T)) := by
    show M.bd (gIxP 10 (gN 4)) (fun d => M.bd Pf.gNil fun ds => M.ok (d :: ds)) _ = _
    rw [bd_ok x1]
    rfl
  have z : Pf.gCons (gN 12) (Pf.gCons (gIxP 10 (gN 4)) Pf.gNil) (envF a s tn mn (.val (.int k)) lots tot due why hd ds odd sh T) = some (.ok ([sh, d], envF a s tn mn (.val (.int k)) lots tot due why hd ds odd sh T)) := by
    show M.bd (gN 12) (fun x => M.bd (Pf.gCons (gIxP 10 (gN 4)) Pf.gNil) fun ds => M.ok (x :: ds)) _ = _
    rw [bd_ok (n_val (d := sh) rfl), bd_ok z1]
    rfl
  have y : gCall m__law_why (Pf.gCons (gN 12) (Pf.gCons (gIxP 10 (gN 4)) Pf.gNil)) (envF a s tn mn (.val (.int k)) lots tot due why hd ds odd sh T) = some (.ok (r, envF a s tn mn (.val (.int k)) lots tot due why hd ds odd sh T)) := by
    show M.bd (Pf.gCons (gN 12) (Pf.gCons (gIxP 10 (gN 4)) Pf.gNil)) (fun ds => gLift (m__law_why ds)) _ = _
    rw [bd_ok z, h]
    rfl
  show gE _ _ _ = _
  rw [gE_ok y]
  rfl
/-- once something is due, nothing more is reckoned -/
theorem ref_skip (hk : ds[k]? = some d) (h : m__law_why [sh, d] = some (.ok r)) (hd2 : isNoneD due = false) : refB (envF a s tn mn (.val (.int k)) lots tot due why hd ds odd sh T) = some (.nx (envF a s tn mn (.val (.int k)) lots tot due (.val r) hd ds odd sh T)) := by
  have t : gTst isD (gN 7) (gC .none) (envF a s tn mn (.val (.int k)) lots tot due (.val r) hd ds odd sh T) = some (.ok (false, envF a s tn mn (.val (.int k)) lots tot due (.val r) hd ds odd sh T)) := by
    show M.bd (gN 7) (fun d => M.bd (gC .none) fun e => M.opt (isD d e)) _ = _
    rw [bd_ok (n_val (d := due) rfl)]
    show M.opt (isD due .none) _ = _
    refine opt_ok ?_
    show some (isNoneD due) = _
    rw [hd2]
  have t2 : gAndT (gTst isD (gN 7) (gC .none)) (gTst neD (gN 8) (gC (.str ""))) (envF a s tn mn (.val (.int k)) lots tot due (.val r) hd ds odd sh T) = some (.ok (false, envF a s tn mn (.val (.int k)) lots tot due (.val r) hd ds odd sh T)) := by
    unfold gAndT
    rw [bd_ok t]
    rfl
  have e1 : ref1 (envF a s tn mn (.val (.int k)) lots tot due (.val r) hd ds odd sh T) = some (.nx (envF a s tn mn (.val (.int k)) lots tot due (.val r) hd ds odd sh T)) := by
    unfold ref1; rw [ifS_f t2]; rfl
  unfold refB
  rw [seq_nx (refW_ok hk h), seq_nx e1]
  unfold ref2
  rw [ifS_f t]
  rfl
/-- the first that can't be is due -/
theorem ref_no {y : Str} (hy : y = "form" ∨ y = "fixed") (hk : ds[k]? = some d) (h : m__law_why [sh, d] = some (.ok (.str y))) : refB (envF a s tn mn (.val (.int k)) lots tot .none why hd ds odd sh T) = some (.nx (envF a s tn mn (.val (.int k)) lots tot (.tuple [.str "BadWay", .int k, .str y]) (.val (.str y)) hd ds odd sh T)) := by
  have hne : neD (.str y) (.str "") = some true := by
    rcases hy with rfl | rfl
    · decide +kernel
    · decide +kernel
  have t2 : gAndT (gTst isD (gN 7) (gC .none)) (gTst neD (gN 8) (gC (.str ""))) (envF a s tn mn (.val (.int k)) lots tot .none (.val (.str y)) hd ds odd sh T) = some (.ok (true, envF a s tn mn (.val (.int k)) lots tot .none (.val (.str y)) hd ds odd sh T)) := by
    have q : gAndT (gTst isD (gN 7) (gC .none)) (gTst neD (gN 8) (gC (.str ""))) (envF a s tn mn (.val (.int k)) lots tot .none (.val (.str y)) hd ds odd sh T) = M.opt (neD (.str y) (.str "")) (envF a s tn mn (.val (.int k)) lots tot .none (.val (.str y)) hd ds odd sh T) := rfl
    rw [q]
    exact opt_ok hne
  have e1 : ref1 (envF a s tn mn (.val (.int k)) lots tot .none (.val (.str y)) hd ds odd sh T) = some (.nx (envF a s tn mn (.val (.int k)) lots tot (.tuple [.str "BadWay", .int k, .str y]) (.val (.str y)) hd ds odd sh T)) := by
    unfold ref1; rw [ifS_t t2]; rfl
  unfold refB
  rw [seq_nx (refW_ok hk h), seq_nx e1]
  rfl
/-- a deed that can be is done -/
theorem ref_yes {ps : List (Option Nat)} {ls cur : List (List Nat)} {t b j p : Nat} {first : Bool} (hk : ds[k]? = some (deedD b j first)) (h : m__law_why [shelfD ps ls, deedD b j first] = some (.ok (.str ""))) (hb : b < ps.length) (hj : j < cur.length) (hp : ps[b]? = some (some p)) (hl : cur.length < 100) (hf : cur.flatten.length < 900) :
    refB (envF a s tn mn (.val (.int k)) (.tuple (lotsD cur)) (.int t) .none why hd ds odd (shelfD ps ls) T) = some (.nx (envF a s tn mn (.val (.int k)) (.tuple (lotsD (placed cur b j first))) (.int (t + p : Nat)) .none (.val (.str "")) hd ds odd (shelfD ps ls) T)) := by
  have x1 : ∀ L t', gIxP 10 (gN 4) (envF a s tn mn (.val (.int k)) L t' .none (.val (.str "")) hd ds odd (shelfD ps ls) T) = some (.ok (deedD b j first, envF a s tn mn (.val (.int k)) L t' .none (.val (.str "")) hd ds odd (shelfD ps ls) T)) := fun L t' => ixP_own (ds := ds) (ds1 := ds) (k := k) rfl rfl rfl hk
  have i0 : ∀ L t', (gBin atD (gIxP 10 (gN 4)) (gC (.int 0))) (envF a s tn mn (.val (.int k)) L t' .none (.val (.str "")) hd ds odd (shelfD ps ls) T) = some (.ok (.int b, envF a s tn mn (.val (.int k)) L t' .none (.val (.str "")) hd ds odd (shelfD ps ls) T)) := fun L t' => by
    show M.bd (gIxP 10 (gN 4)) (fun d => M.bd (gC (.int 0)) fun e => M.opt (atD d e)) _ = _
    rw [bd_ok (x1 L t')]
    rfl
  have i1 : (gBin atD (gIxP 10 (gN 4)) (gC (.int 1))) (envF a s tn mn (.val (.int k)) (.tuple (lotsD cur)) (.int t) .none (.val (.str "")) hd ds odd (shelfD ps ls) T) = some (.ok (.int j, (envF a s tn mn (.val (.int k)) (.tuple (lotsD cur)) (.int t) .none (.val (.str "")) hd ds odd (shelfD ps ls) T))) := by
    show M.bd (gIxP 10 (gN 4)) (fun d => M.bd (gC (.int 1)) fun e => M.opt (atD d e)) _ = _
    rw [bd_ok (x1 _ _)]
    rfl
  have i2 : (gBin atD (gIxP 10 (gN 4)) (gC (.int 2))) (envF a s tn mn (.val (.int k)) (.tuple (lotsD cur)) (.int t) .none (.val (.str "")) hd ds odd (shelfD ps ls) T) = some (.ok (endD first, (envF a s tn mn (.val (.int k)) (.tuple (lotsD cur)) (.int t) .none (.val (.str "")) hd ds odd (shelfD ps ls) T))) := by
    show M.bd (gIxP 10 (gN 4)) (fun d => M.bd (gC (.int 2)) fun e => M.opt (atD d e)) _ = _
    rw [bd_ok (x1 _ _)]
    rfl
  have z2 : Pf.gCons (gBin atD (gIxP 10 (gN 4)) (gC (.int 2))) Pf.gNil (envF a s tn mn (.val (.int k)) (.tuple (lotsD cur)) (.int t) .none (.val (.str "")) hd ds odd (shelfD ps ls) T) = some (.ok ([endD first], (envF a s tn mn (.val (.int k)) (.tuple (lotsD cur)) (.int t) .none (.val (.str "")) hd ds odd (shelfD ps ls) T))) := by
    show M.bd (gBin atD (gIxP 10 (gN 4)) (gC (.int 2))) (fun d => M.bd Pf.gNil fun ds => M.ok (d :: ds)) _ = _
    rw [bd_ok i2]
    rfl
  have z1 : Pf.gCons (gBin atD (gIxP 10 (gN 4)) (gC (.int 1))) (Pf.gCons (gBin atD (gIxP 10 (gN 4)) (gC (.int 2))) Pf.gNil) (envF a s tn mn (.val (.int k)) (.tuple (lotsD cur)) (.int t) .none (.val (.str "")) hd ds odd (shelfD ps ls) T) = some (.ok ([.int j, endD first], (envF a s tn mn (.val (.int k)) (.tuple (lotsD cur)) (.int t) .none (.val (.str "")) hd ds odd (shelfD ps ls) T))) := by
    show M.bd (gBin atD (gIxP 10 (gN 4)) (gC (.int 1))) (fun d => M.bd (Pf.gCons (gBin atD (gIxP 10 (gN 4)) (gC (.int 2))) Pf.gNil) fun ds => M.ok (d :: ds)) _ = _
    rw [bd_ok i1, bd_ok z2]
    rfl
  have z0 : Pf.gCons (gBin atD (gIxP 10 (gN 4)) (gC (.int 0))) (Pf.gCons (gBin atD (gIxP 10 (gN 4)) (gC (.int 1))) (Pf.gCons (gBin atD (gIxP 10 (gN 4)) (gC (.int 2))) Pf.gNil)) (envF a s tn mn (.val (.int k)) (.tuple (lotsD cur)) (.int t) .none (.val (.str "")) hd ds odd (shelfD ps ls) T) = some (.ok ([.int b, .int j, endD first], (envF a s tn mn (.val (.int k)) (.tuple (lotsD cur)) (.int t) .none (.val (.str "")) hd ds odd (shelfD ps ls) T))) := by
    show M.bd (gBin atD (gIxP 10 (gN 4)) (gC (.int 0))) (fun d => M.bd (Pf.gCons (gBin atD (gIxP 10 (gN 4)) (gC (.int 1))) (Pf.gCons (gBin atD (gIxP 10 (gN 4)) (gC (.int 2))) Pf.gNil)) fun ds => M.ok (d :: ds)) _ = _
    rw [bd_ok (i0 _ _), bd_ok z1]
    rfl
  have z : Pf.gCons (gN 5) (Pf.gCons (gBin atD (gIxP 10 (gN 4)) (gC (.int 0))) (Pf.gCons (gBin atD (gIxP 10 (gN 4)) (gC (.int 1))) (Pf.gCons (gBin atD (gIxP 10 (gN 4)) (gC (.int 2))) Pf.gNil))) (envF a s tn mn (.val (.int k)) (.tuple (lotsD cur)) (.int t) .none (.val (.str "")) hd ds odd (shelfD ps ls) T) = some (.ok ([.tuple (lotsD cur), .int b, .int j, endD first], (envF a s tn mn (.val (.int k)) (.tuple (lotsD cur)) (.int t) .none (.val (.str "")) hd ds odd (shelfD ps ls) T))) := by
    show M.bd (gN 5) (fun d => M.bd (Pf.gCons (gBin atD (gIxP 10 (gN 4)) (gC (.int 0))) (Pf.gCons (gBin atD (gIxP 10 (gN 4)) (gC (.int 1))) (Pf.gCons (gBin atD (gIxP 10 (gN 4)) (gC (.int 2))) Pf.gNil))) fun ds => M.ok (d :: ds)) _ = _
    rw [bd_ok (n_val (d := .tuple (lotsD cur)) rfl), bd_ok z0]
    rfl
  have y : refP (envF a s tn mn (.val (.int k)) (.tuple (lotsD cur)) (.int t) .none (.val (.str "")) hd ds odd (shelfD ps ls) T) = some (.ok ((.tuple (lotsD (placed cur b j first))), (envF a s tn mn (.val (.int k)) (.tuple (lotsD cur)) (.int t) .none (.val (.str "")) hd ds odd (shelfD ps ls) T))) := by
    show M.bd (Pf.gCons (gN 5) (Pf.gCons (gBin atD (gIxP 10 (gN 4)) (gC (.int 0))) (Pf.gCons (gBin atD (gIxP 10 (gN 4)) (gC (.int 1))) (Pf.gCons (gBin atD (gIxP 10 (gN 4)) (gC (.int 2))) Pf.gNil)))) (fun ds => gLift (m__law_placed ds)) _ = _
    rw [bd_ok z, law_placed_ok cur b j first hj hl (lots_small hf)]
    rfl
  have a1 : gSet 5 refP (envF a s tn mn (.val (.int k)) (.tuple (lotsD cur)) (.int t) .none (.val (.str "")) hd ds odd (shelfD ps ls) T) = some (.nx (envF a s tn mn (.val (.int k)) (.tuple (lotsD (placed cur b j first))) (.int t) .none (.val (.str "")) hd ds odd (shelfD ps ls) T)) := by
    show gE _ _ _ = _
    rw [gE_ok y]
    rfl
  have hpb : (pricesD ps)[b]? = some (.int p) := by
    rw [price_at hb]
    have : ps[b] = some p := by rw [List.getElem?_eq_getElem hb] at hp; exact Option.some.inj hp
    rw [this]; rfl
  have w1 : gIxP 12 (gC (.int 0)) (envF a s tn mn (.val (.int k)) (.tuple (lotsD (placed cur b j first))) (.int t) .none (.val (.str "")) hd ds odd (shelfD ps ls) T) = some (.ok (.tuple (pricesD ps), (envF a s tn mn (.val (.int k)) (.tuple (lotsD (placed cur b j first))) (.int t) .none (.val (.str "")) hd ds odd (shelfD ps ls) T))) := rfl
  have w2 : gBin atD (gIxP 12 (gC (.int 0))) (gBin atD (gIxP 10 (gN 4)) (gC (.int 0))) (envF a s tn mn (.val (.int k)) (.tuple (lotsD (placed cur b j first))) (.int t) .none (.val (.str "")) hd ds odd (shelfD ps ls) T) = some (.ok (.int p, (envF a s tn mn (.val (.int k)) (.tuple (lotsD (placed cur b j first))) (.int t) .none (.val (.str "")) hd ds odd (shelfD ps ls) T))) := by
    show M.bd (gIxP 12 (gC (.int 0))) (fun d => M.bd (gBin atD (gIxP 10 (gN 4)) (gC (.int 0))) fun e => M.opt (atD d e)) _ = _
    rw [bd_ok w1, bd_ok (i0 _ _)]
    exact opt_ok (atI_nat hpb)
  have w3 : gBin addD (gN 6) (gBin atD (gIxP 12 (gC (.int 0))) (gBin atD (gIxP 10 (gN 4)) (gC (.int 0)))) (envF a s tn mn (.val (.int k)) (.tuple (lotsD (placed cur b j first))) (.int t) .none (.val (.str "")) hd ds odd (shelfD ps ls) T) = some (.ok (.int (t + p : Nat), (envF a s tn mn (.val (.int k)) (.tuple (lotsD (placed cur b j first))) (.int t) .none (.val (.str "")) hd ds odd (shelfD ps ls) T))) := by
    show M.bd (gN 6) (fun d => M.bd (gBin atD (gIxP 12 (gC (.int 0))) (gBin atD (gIxP 10 (gN 4)) (gC (.int 0)))) fun e => M.opt (addD d e)) _ = _
    rw [bd_ok (n_val (d := .int t) rfl), bd_ok w2]
    refine opt_ok ?_
    show some (PyData.int ((t : Int) + (p : Int))) = _
    have : ((t : Int) + (p : Int)) = ((t + p : Nat) : Int) := by omega
    rw [this]
  have a2 : gSet 6 (gBin addD (gN 6) (gBin atD (gIxP 12 (gC (.int 0))) (gBin atD (gIxP 10 (gN 4)) (gC (.int 0))))) (envF a s tn mn (.val (.int k)) (.tuple (lotsD (placed cur b j first))) (.int t) .none (.val (.str "")) hd ds odd (shelfD ps ls) T) = some (.nx (envF a s tn mn (.val (.int k)) (.tuple (lotsD (placed cur b j first))) (.int (t + p : Nat)) .none (.val (.str "")) hd ds odd (shelfD ps ls) T)) := by
    show gE _ _ _ = _
    rw [gE_ok w3]
    rfl
  have hne : neD (.str "") (.str "") = some false := by decide +kernel
  have t2 : gAndT (gTst isD (gN 7) (gC .none)) (gTst neD (gN 8) (gC (.str ""))) (envF a s tn mn (.val (.int k)) (.tuple (lotsD cur)) (.int t) .none (.val (.str "")) hd ds odd (shelfD ps ls) T) = some (.ok (false, (envF a s tn mn (.val (.int k)) (.tuple (lotsD cur)) (.int t) .none (.val (.str "")) hd ds odd (shelfD ps ls) T))) := by
    have q : gAndT (gTst isD (gN 7) (gC .none)) (gTst neD (gN 8) (gC (.str ""))) (envF a s tn mn (.val (.int k)) (.tuple (lotsD cur)) (.int t) .none (.val (.str "")) hd ds odd (shelfD ps ls) T) = M.opt (neD (.str "") (.str "")) (envF a s tn mn (.val (.int k)) (.tuple (lotsD cur)) (.int t) .none (.val (.str "")) hd ds odd (shelfD ps ls) T) := rfl
    rw [q]
    exact opt_ok hne
  have b1 : ref1 (envF a s tn mn (.val (.int k)) (.tuple (lotsD cur)) (.int t) .none (.val (.str "")) hd ds odd (shelfD ps ls) T) = some (.nx (envF a s tn mn (.val (.int k)) (.tuple (lotsD cur)) (.int t) .none (.val (.str "")) hd ds odd (shelfD ps ls) T)) := by
    unfold ref1; rw [ifS_f t2]; rfl
  have t3 : gTst isD (gN 7) (gC .none) (envF a s tn mn (.val (.int k)) (.tuple (lotsD cur)) (.int t) .none (.val (.str "")) hd ds odd (shelfD ps ls) T) = some (.ok (true, (envF a s tn mn (.val (.int k)) (.tuple (lotsD cur)) (.int t) .none (.val (.str "")) hd ds odd (shelfD ps ls) T))) := rfl
  unfold refB
  rw [seq_nx (refW_ok hk h), seq_nx b1]
  unfold ref2
  rw [ifS_t t3, seq_nx a1, a2]
end
end Q
/-! part M19 -/
set_option Elab.async false
set_option linter.all false
set_option maxRecDepth 100000
set_option maxHeartbeats 2000000
namespace Q
open PySem PySem.Spec L2
open Pf
theorem endD_inj {f g : Bool} (h : endD f = endD g) : f = g := by
  have ne : ¬ (Str.ofString "first" = Str.ofString "last") := by decide +kernel
  cases f <;> cases g <;> first | rfl | skip
  · exact absurd (PyData.str.inj h).symm ne
  · exact absurd (PyData.str.inj h) ne
theorem deedD_inj {b j b2 j2 : Nat} {f g : Bool} (h : deedD b j f = deedD b2 j2 g) : b = b2 ∧ j = j2 ∧ f = g := by
  have h := PyData.tuple.inj h
  obtain ⟨h1, h⟩ := List.cons.inj h
  obtain ⟨h2, h⟩ := List.cons.inj h
  obtain ⟨h3, _⟩ := List.cons.inj h
  exact ⟨Int.ofNat.inj (PyData.int.inj h1), Int.ofNat.inj (PyData.int.inj h2), endD_inj h3⟩
theorem runs_inv {ps : List (Option Nat)} {c : Nat} {cur L : List (List Nat)} {t tt b j p : Nat} {first : Bool} {r : List PyData} (h : Runs ps c cur t (deedD b j first :: r) L tt) (hp : ps[b]? = some (some p)) : Runs ps c (placed cur b j first) (t + p) r L tt := by
  generalize hds : (deedD b j first :: r) = ds at h
  cases h with
  | nil => cases hds
  | cons hb2 hj2 hp2 hr2 =>
    obtain ⟨h1, h2⟩ := List.cons.inj hds
    obtain ⟨rfl, rfl, rfl⟩ := deedD_inj h1
    subst h2
    rw [hp] at hp2
    cases hp2
    exact hr2
def nob (s : Sl) : Bool := match s with
  | .obj _ => false
  | _ => true
theorem noObj_all (env : En) : noObj env = env.all nob := by
  unfold noObj
  congr 1
section
variable {a : PyData} {s : Stt} {tn mn : PyData} {hd odd : Sl} {T : List (Addr × Str)} (ps : List (Option Nat)) (ls : List (List Nat))
theorem skip_loop {ds : List PyData} (hD : ∀ d ∈ ds, DeedD d) {due : PyData} (hdue : isNoneD due = false) (lots tot : PyData) : ∀ (m k : Nat) (kk why : Sl), k + m = ds.length → nob kk = true → nob why = true →
    ∃ kk' why', nob kk' = true ∧ nob why' = true ∧ loopL (bN 4) refB (nats (List.range' k m)) (envF a s tn mn kk lots tot due why hd ds odd (shelfD ps ls) T) = some (.nx (envF a s tn mn kk' lots tot due why' hd ds odd (shelfD ps ls) T))
  | 0, k, kk, why, _, n1, n2 => ⟨kk, why, n1, n2, rfl⟩
  | m + 1, k, kk, why, h, n1, n2 => by
    have hk : k < ds.length := by omega
    have e0 : ds[k]? = some ds[k] := List.getElem?_eq_getElem hk
    have hw : ∃ r, m__law_why [shelfD ps ls, ds[k]] = some (.ok r) := by
      cases deed_is ps ls ds[k] (hD _ (List.getElem_mem hk)) with
      | no y hy h1 h2 => exact ⟨_, h1⟩
      | yes b j first p hd' hb hj hp h1 h2 => exact ⟨_, h1⟩
    obtain ⟨r, hr⟩ := hw
    obtain ⟨kk', why', n3, n4, e⟩ := skip_loop hD hdue lots tot m (k + 1) (.val (.int k)) (.val r) (by omega) rfl rfl
    refine ⟨kk', why', n3, n4, ?_⟩
    have step : loopL (bN 4) refB (nats (List.range' k (m + 1))) (envF a s tn mn kk lots tot due why hd ds odd (shelfD ps ls) T) = (match refB (envF a s tn mn (.val (.int k)) lots tot due why hd ds odd (shelfD ps ls) T) with
      | some (.nx env2) => loopL (bN 4) refB (nats (List.range' (k + 1) m)) env2
      | some (.ct env2) => loopL (bN 4) refB (nats (List.range' (k + 1) m)) env2
      | some (.bk env2) => some (.nx env2)
      | o => o) := rfl
    rw [step, ref_skip e0 hr hdue]
    exact e
theorem ref_loop {ds : List PyData} (hD : ∀ d ∈ ds, DeedD d) (hl : ls.length < 100) {k : Nat} {r : List PyData} {o : Option (Nat × Str)} (hf : FirstNo ps ls k r o) : ∀ (cur : List (List Nat)) (t : Nat) (kk why : Sl), r = ds.drop k → k + r.length = ds.length → cur.length = ls.length → cur.flatten.length + r.length < 900 → nob kk = true → nob why = true →
    (o = none → ∀ L tt, Runs ps ls.length cur t r L tt → ∃ kk' why', nob kk' = true ∧ nob why' = true ∧ loopL (bN 4) refB (nats (List.range' k r.length)) (envF a s tn mn kk (.tuple (lotsD cur)) (.int t) .none why hd ds odd (shelfD ps ls) T) = some (.nx (envF a s tn mn kk' (.tuple (lotsD L)) (.int tt) .none why' hd ds odd (shelfD ps ls) T))) ∧
    (∀ k' y, o = some (k', y) → ∃ kk' why' lots tot, nob kk' = true ∧ nob why' = true ∧ loopL (bN 4) refB (nats (List.range' k r.length)) (envF a s tn mn kk (.tuple (lotsD cur)) (.int t) .none why hd ds odd (shelfD ps ls) T) = some (.nx (envF a s tn mn kk' lots tot (.tuple [.str "BadWay", .int k', .str y]) why' hd ds odd (shelfD ps ls) T))) := by
  induction hf with
  | nil =>
    intro cur t kk why _ _ _ _ n1 n2
    refine ⟨fun _ L tt hr => ?_, fun k' y e => by cases e⟩
    cases hr
    exact ⟨kk, why, n1, n2, rfl⟩
  | @no k d r w hy h1 h2 =>
    intro cur t kk why hr0 hlen hc hfl n1 n2
    refine ⟨(fun e => by cases e), fun k' y e => ?_⟩
    cases e
    have e0 : ds[k]? = some d := by
      have : (ds.drop k)[0]? = some d := by rw [← hr0]; rfl
      rw [List.getElem?_drop] at this
      simpa using this
    simp only [List.length_cons] at hlen
    obtain ⟨kk', why', n3, n4, e⟩ := skip_loop (a := a) (s := s) (tn := tn) (mn := mn) (hd := hd) (odd := odd) (T := T) ps ls hD (due := .tuple [.str "BadWay", .int k, .str w]) rfl (.tuple (lotsD cur)) (.int t) r.length (k + 1) (.val (.int k)) (.val (.str w)) (by omega) rfl rfl
    refine ⟨kk', why', .tuple (lotsD cur), .int t, n3, n4, ?_⟩
    have step : loopL (bN 4) refB (nats (List.range' k (r.length + 1))) (envF a s tn mn kk (.tuple (lotsD cur)) (.int t) .none why hd ds odd (shelfD ps ls) T) = (match refB (envF a s tn mn (.val (.int k)) (.tuple (lotsD cur)) (.int t) .none why hd ds odd (shelfD ps ls) T) with
      | some (.nx env2) => loopL (bN 4) refB (nats (List.range' (k + 1) r.length)) env2
      | some (.ct env2) => loopL (bN 4) refB (nats (List.range' (k + 1) r.length)) env2
      | some (.bk env2) => some (.nx env2)
      | o => o) := rfl
    rw [List.length_cons, step, ref_no hy e0 h1]
    exact e
  | @yes k b j first p r o hb hj hp h1 h2 hr ih =>
    intro cur t kk why hr0 hlen hc hfl n1 n2
    have e0 : ds[k]? = some (deedD b j first) := by
      have : (ds.drop k)[0]? = some (deedD b j first) := by rw [← hr0]; rfl
      rw [List.getElem?_drop] at this
      simpa using this
    simp only [List.length_cons] at hlen hfl
    have hpf := placed_flat cur b j first
    have hdrop : r = ds.drop (k + 1) := by
      have := congrArg List.tail hr0
      simpa [List.tail_drop] using this
    have step : loopL (bN 4) refB (nats (List.range' k (r.length + 1))) (envF a s tn mn kk (.tuple (lotsD cur)) (.int t) .none why hd ds odd (shelfD ps ls) T) = (match refB (envF a s tn mn (.val (.int k)) (.tuple (lotsD cur)) (.int t) .none why hd ds odd (shelfD ps ls) T) with
      | some (.nx env2) => loopL (bN 4) refB (nats (List.range' (k + 1) r.length)) env2
      | some (.ct env2) => loopL (bN 4) refB (nats (List.range' (k + 1) r.length)) env2
      | some (.bk env2) => some (.nx env2)
      | o => o) := rfl
    have body := ref_yes (a := a) (s := s) (tn := tn) (mn := mn) (why := why) (hd := hd) (odd := odd) (T := T) (ls := ls) (cur := cur) (t := t) e0 h1 hb (by omega) hp (by omega) (by omega)
    obtain ⟨i1, i2⟩ := ih (placed cur b j first) (t + p) (.val (.int k)) (.val (.str "")) hdrop (by omega) (by rw [placed_len]; exact hc) (by omega) rfl rfl
    refine ⟨fun e L tt hrun => ?_, fun k' y e => ?_⟩
    · obtain ⟨kk', why', n3, n4, e2⟩ := i1 e L tt (runs_inv hrun hp)
      refine ⟨kk', why', n3, n4, ?_⟩
      rw [List.length_cons, step, body]
      exact e2
    · obtain ⟨kk', why', lots, tot, n3, n4, e2⟩ := i2 k' y e
      refine ⟨kk', why', lots, tot, n3, n4, ?_⟩
      rw [List.length_cons, step, body]
      exact e2
end
end Q
/-! part M20 -/
set_option Elab.async false
set_option linter.all false
set_option maxRecDepth 100000
set_option maxHeartbeats 2000000
namespace Q
open PySem PySem.Spec L2
open Pf
/-! ### the same -/
theorem eqv_flat (x : PyData) (h : flatD x = true) : PyData.eqv x x = true := by
  cases x with
  | none => simp [PyData.eqv]
  | bool b => simp [PyData.eqv]
  | int i => simp [PyData.eqv]
  | str y => simp [PyData.eqv]
  | _ => cases h
def sameR : S := gRet (gAnd (gN 2) (gCmp eqD (gN 0) (gN 1)))
theorem same_flat (n : Nat) (x : PyData) (h : smallV x) : m__law_same (n + 1) [x, x] = some (.ok (.bool true)) := by
  refine fnD_rt (r := [.val x, .val x, .val (.bool true), .no]) ?_
  have hd : G__law_same (m__law_same n) (envD 4 [x, x]) = sameR [.val x, .val x, .val (.bool true), .no] := by
    obtain ⟨hf, _⟩ := h
    cases x with
    | none => rfl
    | bool b => rfl
    | int i => rfl
    | str y => rfl
    | _ => cases hf
  rw [hd]
  have c : gCmp eqD (gN 0) (gN 1) [.val x, .val x, .val (.bool true), .no] = some (.ok (.bool true, [.val x, .val x, .val (.bool true), .no])) := by
    show M.bd (gN 0) (fun d => M.bd (gN 1) fun e => M.opt ((eqD d e).map PyData.bool)) _ = _
    rw [bd_ok (n_val (d := x) rfl), bd_ok (n_val (d := x) rfl)]
    refine opt_ok ?_
    rw [eqD_ok h.2 h.2 (by decide) (by decide), eqv_flat x h.1]
    rfl
  have all : gAnd (gN 2) (gCmp eqD (gN 0) (gN 1)) [.val x, .val x, .val (.bool true), .no] = some (.ok (.bool true, [.val x, .val x, .val (.bool true), .no])) := by
    rw [and_tf (n_val (d := .bool true) rfl), if_pos rfl, c]
  show gE _ gRt _ = _
  rw [gE_ok all]
  rfl
def sameT (mr : List PyData → Rf PyData) : M Bool := gNotT (gTru (gCall mr (Pf.gCons (gIxP 0 (gN 3)) (Pf.gCons (gIxP 1 (gN 3)) Pf.gNil))))
theorem same_loop (mr : List PyData → Rf PyData) (xs : List PyData) (h : ∀ x ∈ xs, mr [x, x] = some (.ok (.bool true))) : ∀ (m k : Nat), k + m = xs.length →
    loopC [3] (bN 3) (sameT mr) (gN 3) (nats (List.range' k m)) [] [.val (.tuple xs), .val (.tuple xs), .no, .no] = some ([], [.val (.tuple xs), .val (.tuple xs), .no, .no])
  | 0, k, _ => rfl
  | m + 1, k, hk => by
    have hlt : k < xs.length := by omega
    have e0 : xs[k]? = some xs[k] := List.getElem?_eq_getElem hlt
    have x0 : gIxP 0 (gN 3) [.val (.tuple xs), .val (.tuple xs), .no, .val (.int k)] = some (.ok (xs[k], [.val (.tuple xs), .val (.tuple xs), .no, .val (.int k)])) := ixP_tup (ds := xs) (ds1 := xs) (k := k) rfl rfl rfl e0
    have x1 : gIxP 1 (gN 3) [.val (.tuple xs), .val (.tuple xs), .no, .val (.int k)] = some (.ok (xs[k], [.val (.tuple xs), .val (.tuple xs), .no, .val (.int k)])) := ixP_tup (ds := xs) (ds1 := xs) (k := k) rfl rfl rfl e0
    have z1 : Pf.gCons (gIxP 1 (gN 3)) Pf.gNil [.val (.tuple xs), .val (.tuple xs), .no, .val (.int k)] = some (.ok ([xs[k]], [.val (.tuple xs), .val (.tuple xs), .no, .val (.int k)])) := by
      show M.bd (gIxP 1 (gN 3)) (fun d => M.bd Pf.gNil fun ds => M.ok (d :: ds)) _ = _
      rw [bd_ok x1]
      rfl
    have z : Pf.gCons (gIxP 0 (gN 3)) (Pf.gCons (gIxP 1 (gN 3)) Pf.gNil) [.val (.tuple xs), .val (.tuple xs), .no, .val (.int k)] = some (.ok ([xs[k], xs[k]], [.val (.tuple xs), .val (.tuple xs), .no, .val (.int k)])) := by
      show M.bd (gIxP 0 (gN 3)) (fun d => M.bd (Pf.gCons (gIxP 1 (gN 3)) Pf.gNil) fun ds => M.ok (d :: ds)) _ = _
      rw [bd_ok x0, bd_ok z1]
      rfl
    have y : gCall mr (Pf.gCons (gIxP 0 (gN 3)) (Pf.gCons (gIxP 1 (gN 3)) Pf.gNil)) [.val (.tuple xs), .val (.tuple xs), .no, .val (.int k)] = some (.ok (.bool true, [.val (.tuple xs), .val (.tuple xs), .no, .val (.int k)])) := by
      show M.bd (Pf.gCons (gIxP 0 (gN 3)) (Pf.gCons (gIxP 1 (gN 3)) Pf.gNil)) (fun ds => gLift (mr ds)) _ = _
      rw [bd_ok z, h _ (List.getElem_mem hlt)]
      rfl
    have t : sameT mr [.val (.tuple xs), .val (.tuple xs), .no, .val (.int k)] = some (.ok (false, [.val (.tuple xs), .val (.tuple xs), .no, .val (.int k)])) := by
      have y2 : M.bd (gCall mr (Pf.gCons (gIxP 0 (gN 3)) (Pf.gCons (gIxP 1 (gN 3)) Pf.gNil))) (fun d => M.opt (truD d)) [.val (.tuple xs), .val (.tuple xs), .no, .val (.int k)] = some (.ok (true, [.val (.tuple xs), .val (.tuple xs), .no, .val (.int k)])) := by
        rw [bd_ok y]
        rfl
      show M.bd (M.bd (gCall mr (Pf.gCons (gIxP 0 (gN 3)) (Pf.gCons (gIxP 1 (gN 3)) Pf.gNil))) fun d => M.opt (truD d)) (fun b => M.ok (!b)) _ = _
      rw [bd_ok y2]
      rfl
    have step : loopC [3] (bN 3) (sameT mr) (gN 3) (nats (List.range' k (m + 1))) [] [.val (.tuple xs), .val (.tuple xs), .no, .no] = (match sameT mr [.val (.tuple xs), .val (.tuple xs), .no, .val (.int k)] with
      | some (.ok (true, env2)) => match gN 3 env2 with
        | some (.ok (y, env3)) => if ([] : List PyData).length < 16777216 then loopC [3] (bN 3) (sameT mr) (gN 3) (nats (List.range' (k + 1) m)) ([] ++ [y]) (wipeE [3] env3) else none
        | _ => none
      | some (.ok (false, env2)) => loopC [3] (bN 3) (sameT mr) (gN 3) (nats (List.range' (k + 1) m)) [] (wipeE [3] env2)
      | _ => none) := rfl
    rw [step, t]
    exact same_loop mr xs h m (k + 1) (by omega)
end Q
/-! part M21 -/
set_option Elab.async false
set_option linter.all false
set_option maxRecDepth 100000
set_option maxHeartbeats 2000000
namespace Q
open PySem PySem.Spec L2
open Pf
theorem same_tup (n : Nat) (xs : List PyData) (hl : xs.length < 1000) (h : ∀ x ∈ xs, m__law_same n [x, x] = some (.ok (.bool true))) : m__law_same (n + 1) [.tuple xs, .tuple xs] = some (.ok (.bool true)) := by
  have eE : envD 4 [.tuple xs, .tuple xs] = [.val (.tuple xs), .val (.tuple xs), .no, .no] := rfl
  have lp := same_loop (m__law_same n) xs h xs.length 0 (by omega)
  have lp' : loopC [3] (bN 3) (sameT (m__law_same n)) (gN 3) (rngD 0 xs.length) [] [.val (.tuple xs), .val (.tuple xs), .no, .no] = some ([], [.val (.tuple xs), .val (.tuple xs), .no, .no]) := by
    rw [rng_nats, List.range_eq_range']
    exact lp
  have z0 : gLcR [3] 3 (sameT (m__law_same n)) (gN 3) (gLenP 1) [.val (.tuple xs), .val (.tuple xs), .no, .no] = some (.ok ([], [.val (.tuple xs), .val (.tuple xs), .no, .no])) := by
    have zl : gLenP 1 [.val (.tuple xs), .val (.tuple xs), .no, .no] = some (.ok (.int xs.length, [.val (.tuple xs), .val (.tuple xs), .no, .no])) := rfl
    show M.bd (gLenP 1) (fun d => M.bd (M.opt (rngO d)) fun ds => gLc [3] (bN 3) (sameT (m__law_same n)) (gN 3) ds) _ = _
    rw [bd_ok zl]
    have r : rngO (.int (xs.length : Int)) = some (rngD 0 xs.length) := by
      unfold rngO
      simp only
      rw [if_pos (by omega), Int.toNat_natCast]
    rw [bd_ok (opt_ok r)]
    have w : wipeE [3] [.val (.tuple xs), .val (.tuple xs), .no, .no] = [.val (.tuple xs), .val (.tuple xs), .no, .no] := rfl
    unfold gLc
    rw [w, lp']
    rfl
  have z1 : gFz (gLcR [3] 3 (sameT (m__law_same n)) (gN 3) (gLenP 1)) [.val (.tuple xs), .val (.tuple xs), .no, .no] = some (.ok (.list [], [.val (.tuple xs), .val (.tuple xs), .no, .no])) := by
    show M.bd (gLcR [3] 3 (sameT (m__law_same n)) (gN 3) (gLenP 1)) (fun ds => M.ok (PyData.list ds)) _ = _
    rw [bd_ok z0]
    rfl
  have q : eqD (.list []) (.list []) = some true := by decide +kernel
  have z2 : gCmp eqD (gFz (gLcR [3] 3 (sameT (m__law_same n)) (gN 3) (gLenP 1))) (gFz (Pf.gLst Pf.gNil)) [.val (.tuple xs), .val (.tuple xs), .no, .no] = some (.ok (.bool true, [.val (.tuple xs), .val (.tuple xs), .no, .no])) := by
    show M.bd (gFz (gLcR [3] 3 (sameT (m__law_same n)) (gN 3) (gLenP 1))) (fun d => M.bd (gFz (Pf.gLst Pf.gNil)) fun e => M.opt ((eqD d e).map PyData.bool)) _ = _
    rw [bd_ok z1]
    show M.opt ((eqD (.list []) (.list [])).map PyData.bool) _ = _
    rw [q]
    rfl
  have t2 : gTst neD (gLenP 0) (gLenP 1) [.val (.tuple xs), .val (.tuple xs), .no, .no] = some (.ok (false, [.val (.tuple xs), .val (.tuple xs), .no, .no])) := by
    have y : gTst neD (gLenP 0) (gLenP 1) [.val (.tuple xs), .val (.tuple xs), .no, .no] = M.opt (neD (.int xs.length) (.int xs.length)) [.val (.tuple xs), .val (.tuple xs), .no, .no] := rfl
    rw [y]
    refine opt_ok ?_
    rw [neD_int]
    simp
  have b1 : gIfS (gOrT (gNotT (gTru (gIsa2 "tuple" "list" (gN 0)))) (gTst neD (gIsa "list" (gN 0)) (gIsa "list" (gN 1)))) (gRet (gC (.bool false))) gNx [.val (.tuple xs), .val (.tuple xs), .no, .no] = some (.nx [.val (.tuple xs), .val (.tuple xs), .no, .no]) := rfl
  have b2 : gIfS (gTst neD (gLenP 0) (gLenP 1)) (gRet (gC (.bool false))) gNx [.val (.tuple xs), .val (.tuple xs), .no, .no] = some (.nx [.val (.tuple xs), .val (.tuple xs), .no, .no]) := by rw [ifS_f t2]; rfl
  have b3 : gRet (gCmp eqD (gFz (gLcR [3] 3 (sameT (m__law_same n)) (gN 3) (gLenP 1))) (gFz (Pf.gLst Pf.gNil))) [.val (.tuple xs), .val (.tuple xs), .no, .no] = some (.rt (.bool true) [.val (.tuple xs), .val (.tuple xs), .no, .no]) := by
    show gE _ gRt _ = _
    rw [gE_ok z2]
    rfl
  have t0 : gTru (gIsa2 "tuple" "list" (gN 1)) [.val (.tuple xs), .val (.tuple xs), .no, .no] = some (.ok (true, [.val (.tuple xs), .val (.tuple xs), .no, .no])) := rfl
  have eG : G__law_same (m__law_same n) = gSeq (gIfS (gTru (gIsa2 "tuple" "list" (gN 1))) (gSeq (gIfS (gOrT (gNotT (gTru (gIsa2 "tuple" "list" (gN 0)))) (gTst neD (gIsa "list" (gN 0)) (gIsa "list" (gN 1)))) (gRet (gC (.bool false))) gNx) (gSeq (gIfS (gTst neD (gLenP 0) (gLenP 1)) (gRet (gC (.bool false))) gNx) (gRet (gCmp eqD (gFz (gLcR [3] 3 (sameT (m__law_same n)) (gN 3) (gLenP 1))) (gFz (Pf.gLst Pf.gNil)))))) gNx) (gSeq (gSet 2 (gAnd (gCmp eqD (gIsa "bool" (gN 0)) (gIsa "bool" (gN 1))) (gCmp eqD (gIsa "int" (gN 0)) (gIsa "int" (gN 1))))) sameR) := rfl
  have all : gIfS (gTru (gIsa2 "tuple" "list" (gN 1))) (gSeq (gIfS (gOrT (gNotT (gTru (gIsa2 "tuple" "list" (gN 0)))) (gTst neD (gIsa "list" (gN 0)) (gIsa "list" (gN 1)))) (gRet (gC (.bool false))) gNx) (gSeq (gIfS (gTst neD (gLenP 0) (gLenP 1)) (gRet (gC (.bool false))) gNx) (gRet (gCmp eqD (gFz (gLcR [3] 3 (sameT (m__law_same n)) (gN 3) (gLenP 1))) (gFz (Pf.gLst Pf.gNil)))))) gNx [.val (.tuple xs), .val (.tuple xs), .no, .no] = some (.rt (.bool true) [.val (.tuple xs), .val (.tuple xs), .no, .no]) := by
    rw [ifS_t t0, seq_nx b1, seq_nx b2, b3]
  refine fnD_rt (r := [.val (.tuple xs), .val (.tuple xs), .no, .no]) ?_
  rw [eE, eG]
  show (match gIfS (gTru (gIsa2 "tuple" "list" (gN 1))) (gSeq (gIfS (gOrT (gNotT (gTru (gIsa2 "tuple" "list" (gN 0)))) (gTst neD (gIsa "list" (gN 0)) (gIsa "list" (gN 1)))) (gRet (gC (.bool false))) gNx) (gSeq (gIfS (gTst neD (gLenP 0) (gLenP 1)) (gRet (gC (.bool false))) gNx) (gRet (gCmp eqD (gFz (gLcR [3] 3 (sameT (m__law_same n)) (gN 3) (gLenP 1))) (gFz (Pf.gLst Pf.gNil)))))) gNx [.val (.tuple xs), .val (.tuple xs), .no, .no] with
    | some (.nx env') => gSeq (gSet 2 (gAnd (gCmp eqD (gIsa "bool" (gN 0)) (gIsa "bool" (gN 1))) (gCmp eqD (gIsa "int" (gN 0)) (gIsa "int" (gN 1))))) sameR env'
    | o => o) = _
  rw [all]
/-- both ends of what is compared -/
theorem same_done (L : List (List Nat)) (T : Nat) (h1 : L.length < 900) (h2 : ∀ l ∈ L, l.length < 900) : m__law_same 4 [.tuple [.tuple (lotsD L), .int T], .tuple [.tuple (lotsD L), .int T]] = some (.ok (.bool true)) := by
  refine same_tup 3 _ (by simp) fun x hx => ?_
  simp only [List.mem_cons, List.mem_nil_iff, or_false] at hx
  rcases hx with rfl | rfl
  · refine same_tup 2 _ (by rw [lotsD_len]; omega) fun x hx => ?_
    obtain ⟨l, hl, rfl⟩ := List.mem_map.mp hx
    refine same_tup 1 _ (by rw [nats_len]; have := h2 l hl; omega) fun x hx => ?_
    obtain ⟨i, _, rfl⟩ := List.mem_map.mp hx
    exact same_flat 0 _ (small_int _)
  · exact same_flat 2 _ (small_int _)
theorem same_bad (k : Nat) (y : Str) (hy : y = "form" ∨ y = "fixed") : m__law_same 4 [.tuple [.str "BadWay", .int k, .str y], .tuple [.str "BadWay", .int k, .str y]] = some (.ok (.bool true)) := by
  refine same_tup 3 _ (by simp) fun x hx => ?_
  simp only [List.mem_cons, List.mem_nil_iff, or_false] at hx
  rcases hx with rfl | rfl | rfl
  · exact same_flat 2 _ (small_str (by decide +kernel))
  · exact same_flat 2 _ (small_int _)
  · rcases hy with rfl | rfl
    · exact same_flat 2 _ (small_str (by decide +kernel))
    · exact same_flat 2 _ (small_str (by decide +kernel))
end Q
/-! part M22 -/
set_option Elab.async false
set_option linter.all false
set_option maxRecDepth 100000
set_option maxHeartbeats 2000000
namespace Q
open PySem PySem.Spec L2
open Pf
/-! ### the deeds of a turn -/
/-- the law's environment before the deeds are there -/
def envG (a : PyData) (s : Stt) (tn mn : PyData) (k x5 x6 x7 x8 x9 x10 x11 : Sl) (sh : PyData) (T : List (Addr × Str)) : En := [.val a, .own (enc s), .val tn, .val mn, k, x5, x6, x7, x8, x9, x10, x11, .val sh, .tab T]
def deedG : M PyData := gCallB 1 (Pf.gCons (gN 12) Pf.gNil) m__law_deed
section
variable {a tn mn : PyData} {x5 x6 x7 x8 x9 x10 x11 : Sl} {T : List (Addr × Str)} {ps : List (Option Nat)} {ls : List (List Nat)}
theorem deedG_ok (hs : ShelfOk ps ls) (s : Stt) (k : Sl) : ∃ (s' : Stt) (d : PyData), DeedD d ∧ deedG (envG a s tn mn k x5 x6 x7 x8 x9 x10 x11 (shelfD ps ls) T) = some (.ok (d, envG a s' tn mn k x5 x6 x7 x8 x9 x10 x11 (shelfD ps ls) T)) := by
  obtain ⟨s', d, hd, e⟩ := deed_ok s ps ls hs
  exact ⟨s', d, hd, callB_own (st := enc s) (ds := enc s) rfl (as := [shelfD ps ls]) (env1 := envG a s tn mn k x5 x6 x7 x8 x9 x10 x11 (shelfD ps ls) T) rfl rfl e⟩
theorem deeds_loop (hs : ShelfOk ps ls) : ∀ (js acc : List PyData) (s : Stt), (∀ d ∈ acc, DeedD d) → acc.length + js.length < 1000 →
    ∃ (s' : Stt) (ds : List PyData), ds.length = acc.length + js.length ∧ (∀ d ∈ ds, DeedD d) ∧ loopC [4] (bN 4) gYes deedG js acc (envG a s tn mn .no x5 x6 x7 x8 x9 x10 x11 (shelfD ps ls) T) = some (ds, envG a s' tn mn .no x5 x6 x7 x8 x9 x10 x11 (shelfD ps ls) T)
  | [], acc, s, h, _ => ⟨s, acc, rfl, h, rfl⟩
  | j :: js, acc, s, h, hl => by
    simp only [List.length_cons] at hl
    obtain ⟨s1, d, hd, e1⟩ := deedG_ok (a := a) (tn := tn) (mn := mn) (x5 := x5) (x6 := x6) (x7 := x7) (x8 := x8) (x9 := x9) (x10 := x10) (x11 := x11) (T := T) hs s (.val j)
    obtain ⟨s', ds, q1, q2, e⟩ := deeds_loop hs js (acc ++ [d]) s1 (fun x hx => by
      rcases List.mem_append.mp hx with hx | hx
      · exact h x hx
      · rw [List.mem_singleton] at hx; rw [hx]; exact hd) (by simp; omega)
    refine ⟨s', ds, by rw [q1]; simp; omega, q2, ?_⟩
    have step : loopC [4] (bN 4) gYes deedG (j :: js) acc (envG a s tn mn .no x5 x6 x7 x8 x9 x10 x11 (shelfD ps ls) T) = (match deedG (envG a s tn mn (.val j) x5 x6 x7 x8 x9 x10 x11 (shelfD ps ls) T) with
        | some (.ok (y, env3)) => if acc.length < 16777216 then loopC [4] (bN 4) gYes deedG js (acc ++ [y]) (wipeE [4] env3) else none
        | _ => none) := rfl
    rw [step, e1]
    simp only
    rw [if_pos (by omega)]
    exact e
end
/-- what the kind tells of what done tells -/
theorem kind_ok_at {env env' : En} {i : Nat} {T : List (Addr × Str)} {gB : M PyData} {d : PyData} (h : env[i]? = some (.tab T)) (hn : noObj env = true) (hb : gB env = some (.ok (d, env'))) : gKind i T kindX gB env = some (.ok (d, env')) := by
  unfold gKind
  rw [h]
  simp only
  rw [if_pos ⟨trivial, hn⟩, hb]
theorem kind_er_at {env env' : En} {i : Nat} {T : List (Addr × Str)} {gB : M PyData} {k : Nat} {y : Str} (h : env[i]? = some (.tab T)) (hn : noObj env = true) (hb : gB env = some (.error (BadWayX k y, env'))) : gKind i T kindX gB env = some (.ok (.tuple [.str "BadWay", .int k, .str y], env')) := by
  unfold gKind
  rw [h]
  simp only
  rw [if_pos ⟨trivial, hn⟩, hb]
  rfl
end Q
/-! part M23 -/
set_option Elab.async false
set_option linter.all false
set_option maxRecDepth 100000
set_option maxHeartbeats 2000000
namespace Q
open PySem PySem.Spec L2
open Pf
theorem set_ok {env env1 : En} {i : Nat} {ga : M PyData} {d : PyData} (h : ga env = some (.ok (d, env1))) : gSet i ga env = some (.nx (env1.set i (.val d))) := gE_ok h
theorem setO_ok {env env1 : En} {i : Nat} {ga : M (List PyData)} {ds : List PyData} (h : ga env = some (.ok (ds, env1))) : gSetO i ga env = some (.nx (env1.set i (.own ds))) := gE_ok h
theorem call_ok {α : Type} {env env1 : En} {m : List PyData → Rf α} {gl : M (List PyData)} {ds : List PyData} {r : α} (h : gl env = some (.ok (ds, env1))) (hm : m ds = some (.ok r)) : gCall m gl env = some (.ok (r, env1)) := by
  show M.bd gl (fun ds => gLift (m ds)) env = _
  rw [bd_ok h, hm]
  rfl
theorem call_er {α : Type} {env env1 : En} {m : List PyData → Rf α} {gl : M (List PyData)} {ds : List PyData} {x : Xc} (h : gl env = some (.ok (ds, env1))) (hm : m ds = some (.error x)) : gCall m gl env = some (.error (x, env1)) := by
  show M.bd gl (fun ds => gLift (m ds)) env = _
  rw [bd_ok h, hm]
  rfl
theorem cons_ok {env env1 env2 : En} {ga : M PyData} {gl : M (List PyData)} {d : PyData} {ds : List PyData} (h : ga env = some (.ok (d, env1))) (h2 : gl env1 = some (.ok (ds, env2))) : Pf.gCons ga gl env = some (.ok (d :: ds, env2)) := by
  show M.bd ga (fun d => M.bd gl fun ds => M.ok (d :: ds)) env = _
  rw [bd_ok h, bd_ok h2]
  rfl
theorem bin_ok {env env1 env2 : En} {f : PyData → PyData → Option PyData} {ga gb : M PyData} {d e r : PyData} (h : ga env = some (.ok (d, env1))) (h2 : gb env1 = some (.ok (e, env2))) (h3 : f d e = some r) : gBin f ga gb env = some (.ok (r, env2)) := by
  show M.bd ga (fun d => M.bd gb fun e => M.opt (f d e)) env = _
  rw [bd_ok h, bd_ok h2]
  exact opt_ok h3
theorem tst_ok {env env1 env2 : En} {f : PyData → PyData → Option Bool} {ga gb : M PyData} {d e : PyData} {r : Bool} (h : ga env = some (.ok (d, env1))) (h2 : gb env1 = some (.ok (e, env2))) (h3 : f d e = some r) : gTst f ga gb env = some (.ok (r, env2)) := by
  show M.bd ga (fun d => M.bd gb fun e => M.opt (f d e)) env = _
  rw [bd_ok h, bd_ok h2]
  exact opt_ok h3
theorem lcR_ok {vs : List Nat} {j n : Nat} {gt : M Bool} {ge ga : M PyData} {env env1 e0 e1 e2 : En} {acc : List PyData} (hga : ga env = some (.ok (.int n, env1))) (hn : n < 1000000) (hw : wipeE vs env1 = e0) (hl : loopC vs (bN j) gt ge (rngD 0 n) [] e0 = some (acc, e1)) (hb : backE env1 vs e1 = e2) : gLcR vs j gt ge ga env = some (.ok (acc, e2)) := by
  have r : rngO (.int (n : Int)) = some (rngD 0 n) := by
    unfold rngO
    simp only
    rw [if_pos (by omega), Int.toNat_natCast]
  show M.bd ga (fun d => M.bd (M.opt (rngO d)) fun ds => gLc vs (bN j) gt ge ds) _ = _
  rw [bd_ok hga, bd_ok (opt_ok r)]
  unfold gLc
  rw [hw, hl]
  dsimp only
  rw [hb]
theorem forR1_ok {env env1 : En} {ga : M PyData} {b : PyData → En → Option En} {g : S} {n : Nat} (hga : ga env = some (.ok (.int n, env1))) (hn : n < 1000000) : gForR1 ga b g env = loopL b g (nats (List.range' 0 n)) env1 := by
  unfold gForR1
  rw [gE_ok hga]
  simp only
  rw [if_pos (by omega), Int.toNat_natCast, rng_nats, List.range_eq_range']
theorem nil_ok {env : En} : Pf.gNil env = some (.ok ([], env)) := rfl
/-! ### equal data -/
theorem eqvAll_refl : ∀ (xs : List PyData), (∀ x ∈ xs, PyData.eqv x x = true) → PyData.eqvAll xs xs = true
  | [], _ => by simp [PyData.eqvAll]
  | x :: r, h => by simp [PyData.eqvAll, h x List.mem_cons_self, eqvAll_refl r fun y hy => h y (List.mem_cons_of_mem _ hy)]
theorem deed_eqv {d : PyData} (h : DeedD d) : PyData.eqv d d = true ∧ okD 1 d := by
  obtain ⟨b, l, e, hb, hl, he, rfl | rfl | rfl | rfl⟩ := h
  · refine ⟨by simp [PyData.eqv, PyData.eqvAll, eqv_flat b hb.1, eqv_flat l hl.1, eqv_flat e he.1], okD_tuple (k := 0) fun x hx => ?_⟩
    simp only [List.mem_cons, List.mem_nil_iff, or_false] at hx
    rcases hx with rfl | rfl | rfl
    · exact hb.2
    · exact hl.2
    · exact he.2
  · refine ⟨by simp [PyData.eqv, PyData.eqvAll, eqv_flat b hb.1, eqv_flat l hl.1, eqv_flat e he.1], okD_list (k := 0) fun x hx => ?_⟩
    simp only [List.mem_cons, List.mem_nil_iff, or_false] at hx
    rcases hx with rfl | rfl | rfl
    · exact hb.2
    · exact hl.2
    · exact he.2
  · refine ⟨by simp [PyData.eqv, PyData.eqvAll, eqv_flat b hb.1, eqv_flat l hl.1], okD_tuple (k := 0) fun x hx => ?_⟩
    simp only [List.mem_cons, List.mem_nil_iff, or_false] at hx
    rcases hx with rfl | rfl
    · exact hb.2
    · exact hl.2
  · refine ⟨by simp [PyData.eqv, PyData.eqvAll, eqv_flat b hb.1, eqv_flat l hl.1, eqv_flat e he.1], okD_tuple (k := 0) fun x hx => ?_⟩
    simp only [List.mem_cons, List.mem_nil_iff, or_false] at hx
    rcases hx with rfl | rfl | rfl | rfl
    · exact hb.2
    · exact hl.2
    · exact he.2
    · exact okD_int 1
theorem deeds_ne {ds : List PyData} (h : ∀ d ∈ ds, DeedD d) : neD (.list ds) (.list ds) = some false := by
  have ho : okD 2 (.list ds) := okD_list (k := 1) fun d hd => (deed_eqv (h d hd)).2
  rw [neD_ok ho ho (by decide) (by decide)]
  simp [PyData.eqv, eqvAll_refl ds fun d hd => (deed_eqv (h d hd)).1]
/-! ### a turn of the law -/
def p1 : S := gSet 12 (gCallB 1 (Pf.gCons (gC (.int 12)) (Pf.gCons (gC (.int 5)) Pf.gNil)) m__law_shelf)
def p2 : S := gSet 3 (gBin mulD (gCallB 1 (Pf.gCons (gC (.int 9)) Pf.gNil) m__law_drawn) (gCallB 1 (Pf.gCons (gC (.int 6)) Pf.gNil) m__law_drawn))
def p3 : S := gSetO 10 (gLcR [4] 4 gYes deedG (gN 3))
def p4 : S := gE (Pf.gCons (gIxP 12 (gC (.int 1))) (Pf.gCons (gC (.int 0)) (Pf.gCons (gC .none) Pf.gNil))) (gPar3 5 6 7)
def p5 : S := gForR1 (gLenP 10) (bN 4) refB
def p6 : S := gSet 7 (gIf (gTst isD (gN 7) (gC .none)) (Pf.gTup (Pf.gCons (gN 5) (Pf.gCons (gN 6) Pf.gNil))) (gN 7))
def p7 : S := gSetO 9 (Pf.gList (gN 10))
def asked (Pt : Addr) (i : Nat) : M PyData := gKind 13 [(Pt, qLam)] kindX (gCall m_done (Pf.gCons (gN 12) (Pf.gCons (gN i) Pf.gNil)))
def p8 (Pt : Addr) : S := gIfS (gOrT (gNotT (gTru (gCall (m__law_same 4) (Pf.gCons (asked Pt 10) (Pf.gCons (gN 7) Pf.gNil))))) (gTstL neD 10 (gN 9))) (gRet (gC (.bool false))) gNx
def p9 : S := gSet 11 (gBin atD (gFz (Pf.gLst (Pf.gCons (gBlt tupK (Pf.gCons (gN 10) Pf.gNil)) (Pf.gCons (gC .none) (Pf.gCons (gC (.str "put")) (Pf.gCons (gC (.int 3)) Pf.gNil)))))) (gCallB 1 (Pf.gCons (gC (.int 4)) Pf.gNil) m__law_drawn))
def p10 (Pt : Addr) : S := gIfS (gTst neD (asked Pt 11) (Pf.gTup (Pf.gCons (gC (.str "BadWay")) (Pf.gCons (gC (.int 0)) (Pf.gCons (gC (.str "form")) Pf.gNil))))) (gRet (gC (.bool false))) gNx
def turnAll (Pt : Addr) : S := gSeq p1 (gSeq p2 (gSeq p3 (gSeq p4 (gSeq p5 (gSeq p6 (gSeq p7 (gSeq (p8 Pt) (gSeq p9 (p10 Pt)))))))))
theorem G_law_is (Pt : Addr) : G_law Pt = gSeq (gSetO 1 (gCall m__law_start (Pf.gCons (gN 0) Pf.gNil))) (gSeq (gForR1 (gC (.int 4)) (bN 2) (turnAll Pt)) (gRet (gC (.bool true)))) := rfl
section
variable {a tn : PyData} {x3 x4 x5 x6 x7 x8 x9 x10 x11 x12 : Sl} {T : List (Addr × Str)} {ps : List (Option Nat)} {ls : List (List Nat)}
theorem p1_ok (s : Stt) : ∃ (s' : Stt) (ps : List (Option Nat)) (ls : List (List Nat)), ShelfOk ps ls ∧ p1 [.val a, .own (enc s), .val tn, x3, x4, x5, x6, x7, x8, x9, x10, x11, x12, .tab T] = some (.nx [.val a, .own (enc s'), .val tn, x3, x4, x5, x6, x7, x8, x9, x10, x11, .val (shelfD ps ls), .tab T]) := by
  obtain ⟨s', ps, ls, h, e⟩ := shelf_ok s
  refine ⟨s', ps, ls, h, ?_⟩
  have c : gCallB 1 (Pf.gCons (gC (.int 12)) (Pf.gCons (gC (.int 5)) Pf.gNil)) m__law_shelf [.val a, .own (enc s), .val tn, x3, x4, x5, x6, x7, x8, x9, x10, x11, x12, .tab T] = some (.ok (shelfD ps ls, [.val a, .own (enc s'), .val tn, x3, x4, x5, x6, x7, x8, x9, x10, x11, x12, .tab T])) :=
    callB_own (st := enc s) (ds := enc s) rfl (as := [.int 12, .int 5]) (env1 := [.val a, .own (enc s), .val tn, x3, x4, x5, x6, x7, x8, x9, x10, x11, x12, .tab T]) rfl rfl e
  show gE _ _ _ = _
  rw [gE_ok c]
  rfl
theorem p2_ok (s : Stt) : ∃ (s' : Stt) (n : Nat), n ≤ 40 ∧ p2 [.val a, .own (enc s), .val tn, x3, x4, x5, x6, x7, x8, x9, x10, x11, x12, .tab T] = some (.nx [.val a, .own (enc s'), .val tn, .val (.int n), x4, x5, x6, x7, x8, x9, x10, x11, x12, .tab T]) := by
  obtain ⟨d1, s1, h1, e1⟩ := drawn_ok s 9 (by decide) (by decide)
  obtain ⟨d2, s2, h2, e2⟩ := drawn_ok s1 6 (by decide) (by decide)
  have h3 : d1 * d2 ≤ 40 := Nat.mul_le_mul (show d1 ≤ 8 by omega) (show d2 ≤ 5 by omega)
  refine ⟨s2, d1 * d2, h3, ?_⟩
  have c1 : gCallB 1 (Pf.gCons (gC (.int 9)) Pf.gNil) m__law_drawn [.val a, .own (enc s), .val tn, x3, x4, x5, x6, x7, x8, x9, x10, x11, x12, .tab T] = some (.ok (.int d1, [.val a, .own (enc s1), .val tn, x3, x4, x5, x6, x7, x8, x9, x10, x11, x12, .tab T])) :=
    callB_own (st := enc s) (ds := enc s) rfl (as := [.int 9]) (env1 := [.val a, .own (enc s), .val tn, x3, x4, x5, x6, x7, x8, x9, x10, x11, x12, .tab T]) rfl rfl e1
  have c2 : gCallB 1 (Pf.gCons (gC (.int 6)) Pf.gNil) m__law_drawn [.val a, .own (enc s1), .val tn, x3, x4, x5, x6, x7, x8, x9, x10, x11, x12, .tab T] = some (.ok (.int d2, [.val a, .own (enc s2), .val tn, x3, x4, x5, x6, x7, x8, x9, x10, x11, x12, .tab T])) :=
    callB_own (st := enc s1) (ds := enc s1) rfl (as := [.int 6]) (env1 := [.val a, .own (enc s1), .val tn, x3, x4, x5, x6, x7, x8, x9, x10, x11, x12, .tab T]) rfl rfl e2
  have m : mulD (.int d1) (.int d2) = some (.int ((d1 * d2 : Nat) : Int)) := by simp [mulD]; omega
  have b : gBin mulD (gCallB 1 (Pf.gCons (gC (.int 9)) Pf.gNil) m__law_drawn) (gCallB 1 (Pf.gCons (gC (.int 6)) Pf.gNil) m__law_drawn) [.val a, .own (enc s), .val tn, x3, x4, x5, x6, x7, x8, x9, x10, x11, x12, .tab T] = some (.ok (.int ((d1 * d2 : Nat) : Int), [.val a, .own (enc s2), .val tn, x3, x4, x5, x6, x7, x8, x9, x10, x11, x12, .tab T])) := by
    show M.bd _ _ _ = _
    rw [bd_ok c1, bd_ok c2]
    exact opt_ok m
  show gE _ _ _ = _
  rw [gE_ok b]
  rfl
theorem p3_ok (hs : ShelfOk ps ls) (s : Stt) (n : Nat) (hn : n ≤ 40) : ∃ (s' : Stt) (ds : List PyData) (k4 : Sl), nob k4 = true ∧ ds.length = n ∧ (∀ d ∈ ds, DeedD d) ∧ p3 [.val a, .own (enc s), .val tn, .val (.int n), x4, x5, x6, x7, x8, x9, x10, x11, .val (shelfD ps ls), .tab T] = some (.nx [.val a, .own (enc s'), .val tn, .val (.int n), k4, x5, x6, x7, x8, x9, .own ds, x11, .val (shelfD ps ls), .tab T]) := by
  have hlen : (rngD 0 n).length = n := by rw [rng_nats, nats_len, List.length_range]
  obtain ⟨s', ds, q1, q2, e⟩ := deeds_loop (a := a) (tn := tn) (mn := .int n) (x5 := x5) (x6 := x6) (x7 := x7) (x8 := x8) (x9 := x9) (x10 := x10) (x11 := x11) (T := T) hs (rngD 0 n) [] s (by simp) (by rw [hlen]; simp; omega)
  have q0 : ∃ k4 : Sl, nob k4 = true ∧ backE [.val a, .own (enc s), .val tn, .val (.int n), x4, x5, x6, x7, x8, x9, x10, x11, .val (shelfD ps ls), .tab T] [4] (envG a s' tn (.int n) .no x5 x6 x7 x8 x9 x10 x11 (shelfD ps ls) T) = [.val a, .own (enc s'), .val tn, .val (.int n), k4, x5, x6, x7, x8, x9, x10, x11, .val (shelfD ps ls), .tab T] := by
    cases x4 with
    | val d => exact ⟨.val d, rfl, rfl⟩
    | _ => exact ⟨.no, rfl, rfl⟩
  obtain ⟨k4, hk4, eb⟩ := q0
  refine ⟨s', ds, k4, hk4, by rw [q1, hlen]; simp, q2, ?_⟩
  have z := lcR_ok (vs := [4]) (j := 4) (gt := gYes) (ge := deedG) (ga := gN 3) (n := n) (env := [.val a, .own (enc s), .val tn, .val (.int n), x4, x5, x6, x7, x8, x9, x10, x11, .val (shelfD ps ls), .tab T]) rfl (by omega) rfl e eb
  have z2 := setO_ok (i := 10) z
  unfold p3
  rw [z2]
  rfl
end
end Q
/-! part M24 -/
set_option Elab.async false
set_option linter.all false
set_option maxRecDepth 100000
set_option maxHeartbeats 2000000
namespace Q
open PySem PySem.Spec L2
open Pf
section
variable {a tn : PyData} {x3 x4 x5 x6 x7 x8 x9 x10 x11 x12 : Sl} {Pt : Addr} {ps : List (Option Nat)} {ls : List (List Nat)}
theorem p4_ok (s : Stt) (ds : List PyData) (T : List (Addr × Str)) : p4 [.val a, .own (enc s), .val tn, x3, x4, x5, x6, x7, x8, x9, .own ds, x11, .val (shelfD ps ls), .tab T] = some (.nx [.val a, .own (enc s), .val tn, x3, x4, .val (.tuple (lotsD ls)), .val (.int 0), .val .none, x8, x9, .own ds, x11, .val (shelfD ps ls), .tab T]) := rfl
/-- what is due -/
inductive DueIs (ps : List (Option Nat)) (ls : List (List Nat)) (ds : List PyData) (D : PyData) : Prop where
  | yes (L : List (List Nat)) (t : Nat) (hd : D = .tuple [.tuple (lotsD L), .int t]) (h : m_done [shelfD ps ls, .list ds] = some (.ok D)) (hs : m__law_same 4 [D, D] = some (.ok (.bool true)))
  | no (k : Nat) (y : Str) (hd : D = .tuple [.str "BadWay", .int k, .str y]) (h : m_done [shelfD ps ls, .list ds] = some (.error (BadWayX k y))) (hs : m__law_same 4 [D, D] = some (.ok (.bool true)))
theorem firstNo_why {k : Nat} {ds : List PyData} {o : Option (Nat × Str)} (h : FirstNo ps ls k ds o) : ∀ k' y, o = some (k', y) → y = "form" ∨ y = "fixed" := by
  induction h with
  | nil => intro _ _ e; cases e
  | no hy _ _ => intro _ _ e; cases e; exact hy
  | yes _ _ _ _ _ _ ih => exact ih
theorem runs_len {c : Nat} {cur L : List (List Nat)} {t T : Nat} {ds : List PyData} (h : Runs ps c cur t ds L T) : L.length = cur.length ∧ L.flatten.length ≤ cur.flatten.length + ds.length := by
  induction h with
  | nil => exact ⟨rfl, Nat.le_add_right ..⟩
  | @cons cur L t T b j p first r hb hj hp hr ih =>
    refine ⟨by rw [ih.1, placed_len], ?_⟩
    have h2 := ih.2
    have h3 := placed_flat cur b j first
    simp only [List.length_cons]
    omega
theorem p56_ok (hs : ShelfOk ps ls) (s : Stt) (n : Nat) (hn : n ≤ 40) (ds : List PyData) (hl : ds.length = n) (hD : ∀ d ∈ ds, DeedD d) (T : List (Addr × Str)) (h4 : nob x4 = true) (h8 : nob x8 = true) :
    ∃ (k4 w : Sl) (lots tot D : PyData), nob k4 = true ∧ nob w = true ∧ DueIs ps ls ds D ∧ gSeq p5 p6 [.val a, .own (enc s), .val tn, .val (.int n), x4, .val (.tuple (lotsD ls)), .val (.int 0), .val .none, x8, x9, .own ds, x11, .val (shelfD ps ls), .tab T] = some (.nx [.val a, .own (enc s), .val tn, .val (.int n), k4, .val lots, .val tot, .val D, w, x9, .own ds, x11, .val (shelfD ps ls), .tab T]) := by
  obtain ⟨o, ho⟩ := first_no ps ls ds 0 hD
  have hp2 := hs.p2
  have hl2 := hs.l2
  have hlen := hs.perm.length_eq
  rw [List.length_range] at hlen
  have lp : p5 [.val a, .own (enc s), .val tn, .val (.int n), x4, .val (.tuple (lotsD ls)), .val (.int 0), .val .none, x8, x9, .own ds, x11, .val (shelfD ps ls), .tab T] = loopL (bN 4) refB (nats (List.range' 0 ds.length)) (envF a s tn (.int n) x4 (.tuple (lotsD ls)) (.int (0 : Nat)) .none x8 x9 ds x11 (shelfD ps ls) T) := by
    have z := forR1_ok (ga := gLenP 10) (b := bN 4) (g := refB) (n := ds.length) (lenP_own (env := [.val a, .own (enc s), .val tn, .val (.int n), x4, .val (.tuple (lotsD ls)), .val (.int 0), .val .none, x8, x9, .own ds, x11, .val (shelfD ps ls), .tab T]) (ds := ds) rfl) (by omega)
    unfold p5
    rw [z]
    rfl
  obtain ⟨r1, r2⟩ := ref_loop (a := a) (s := s) (tn := tn) (mn := .int n) (hd := x9) (odd := x11) (T := T) ps ls hD (by omega) ho ls 0 x4 x8 rfl (by omega) rfl (by omega) h4 h8
  cases o with
  | none =>
    obtain ⟨L, tt, hr⟩ := runs_of ps ls ho rfl ls 0
    obtain ⟨kk, why, n1, n2, e⟩ := r1 rfl L tt hr
    obtain ⟨q1, q2⟩ := runs_len hr
    refine ⟨kk, why, .tuple (lotsD L), .int tt, .tuple [.tuple (lotsD L), .int tt], n1, n2, .yes L tt rfl (done_yes ps ls hs ds L tt ho hr (by omega)) (same_done L tt (by omega) (lots_small (by omega))), ?_⟩
    rw [seq_nx (lp.trans e)]
    rfl
  | some ky =>
    obtain ⟨k, y⟩ := ky
    obtain ⟨kk, why, lots, tot, n1, n2, e⟩ := r2 k y rfl
    refine ⟨kk, why, lots, tot, .tuple [.str "BadWay", .int k, .str y], n1, n2, .no k y rfl (done_no ps ls hs ds k y ho (by omega)) (same_bad k y (firstNo_why ho k y rfl)), ?_⟩
    rw [seq_nx (lp.trans e)]
    rfl
theorem asked_ok {env : En} {i : Nat} {sh d D : PyData} (h13 : env[13]? = some (.tab [(Pt, qLam)])) (hn : noObj env = true) (h12 : env[12]? = some (.val sh)) (hi : env[i]? = some (.val d)) (h : m_done [sh, d] = some (.ok D)) : asked Pt i env = some (.ok (D, env)) :=
  kind_ok_at h13 hn (call_ok (cons_ok (n_val h12) (cons_ok (n_val hi) nil_ok)) h)
theorem asked_er {env : En} {i k : Nat} {y : Str} {sh d : PyData} (h13 : env[13]? = some (.tab [(Pt, qLam)])) (hn : noObj env = true) (h12 : env[12]? = some (.val sh)) (hi : env[i]? = some (.val d)) (h : m_done [sh, d] = some (.error (BadWayX k y))) : asked Pt i env = some (.ok (.tuple [.str "BadWay", .int k, .str y], env)) :=
  kind_er_at h13 hn (call_er (cons_ok (n_val h12) (cons_ok (n_val hi) nil_ok)) h)
theorem p7_ok (s : Stt) (n : Nat) (ds : List PyData) (lots tot D : PyData) (T : List (Addr × Str)) : p7 [.val a, .own (enc s), .val tn, .val (.int n), x4, .val lots, .val tot, .val D, x8, x9, .own ds, x11, .val (shelfD ps ls), .tab T] = some (.nx [.val a, .own (enc s), .val tn, .val (.int n), x4, .val lots, .val tot, .val D, x8, .own ds, .val (.list ds), x11, .val (shelfD ps ls), .tab T]) := rfl
theorem p8_ok (s : Stt) (n : Nat) (ds : List PyData) (lots tot D : PyData) (h4 : nob x4 = true) (h8 : nob x8 = true) (h11 : nob x11 = true) (hD : ∀ d ∈ ds, DeedD d) (hd : DueIs ps ls ds D) :
    p8 Pt [.val a, .own (enc s), .val tn, .val (.int n), x4, .val lots, .val tot, .val D, x8, .own ds, .val (.list ds), x11, .val (shelfD ps ls), .tab [(Pt, qLam)]] = some (.nx [.val a, .own (enc s), .val tn, .val (.int n), x4, .val lots, .val tot, .val D, x8, .val (.list ds), .val (.list ds), x11, .val (shelfD ps ls), .tab [(Pt, qLam)]]) := by
  have hn : noObj [.val a, .own (enc s), .val tn, .val (.int n), x4, .val lots, .val tot, .val D, x8, .own ds, .val (.list ds), x11, .val (shelfD ps ls), .tab [(Pt, qLam)]] = true := by
    rw [noObj_all]
    simp [h4, h8, h11]
    simp [nob]
  have ha : asked Pt 10 [.val a, .own (enc s), .val tn, .val (.int n), x4, .val lots, .val tot, .val D, x8, .own ds, .val (.list ds), x11, .val (shelfD ps ls), .tab [(Pt, qLam)]] = some (.ok (D, [.val a, .own (enc s), .val tn, .val (.int n), x4, .val lots, .val tot, .val D, x8, .own ds, .val (.list ds), x11, .val (shelfD ps ls), .tab [(Pt, qLam)]])) ∧ m__law_same 4 [D, D] = some (.ok (.bool true)) := by
    cases hd with
    | yes L t hd h hs => exact ⟨asked_ok rfl hn rfl rfl h, hs⟩
    | no k y hd h hs => subst hd; exact ⟨asked_er rfl hn rfl rfl h, hs⟩
  have c := call_ok (cons_ok ha.1 (cons_ok (n_val (i := 7) (d := D) rfl) nil_ok)) ha.2
  have t1 : gNotT (gTru (gCall (m__law_same 4) (Pf.gCons (asked Pt 10) (Pf.gCons (gN 7) Pf.gNil)))) [.val a, .own (enc s), .val tn, .val (.int n), x4, .val lots, .val tot, .val D, x8, .own ds, .val (.list ds), x11, .val (shelfD ps ls), .tab [(Pt, qLam)]] = some (.ok (false, [.val a, .own (enc s), .val tn, .val (.int n), x4, .val lots, .val tot, .val D, x8, .own ds, .val (.list ds), x11, .val (shelfD ps ls), .tab [(Pt, qLam)]])) := by
    have y2 : gTru (gCall (m__law_same 4) (Pf.gCons (asked Pt 10) (Pf.gCons (gN 7) Pf.gNil))) [.val a, .own (enc s), .val tn, .val (.int n), x4, .val lots, .val tot, .val D, x8, .own ds, .val (.list ds), x11, .val (shelfD ps ls), .tab [(Pt, qLam)]] = some (.ok (true, [.val a, .own (enc s), .val tn, .val (.int n), x4, .val lots, .val tot, .val D, x8, .own ds, .val (.list ds), x11, .val (shelfD ps ls), .tab [(Pt, qLam)]])) := (bd_ok c).trans rfl
    exact (bd_ok y2).trans rfl
  have t2 : gTstL neD 10 (gN 9) [.val a, .own (enc s), .val tn, .val (.int n), x4, .val lots, .val tot, .val D, x8, .own ds, .val (.list ds), x11, .val (shelfD ps ls), .tab [(Pt, qLam)]] = some (.ok (false, [.val a, .own (enc s), .val tn, .val (.int n), x4, .val lots, .val tot, .val D, x8, .val (.list ds), .val (.list ds), x11, .val (shelfD ps ls), .tab [(Pt, qLam)]])) := by
    have q : gTstL neD 10 (gN 9) [.val a, .own (enc s), .val tn, .val (.int n), x4, .val lots, .val tot, .val D, x8, .own ds, .val (.list ds), x11, .val (shelfD ps ls), .tab [(Pt, qLam)]] = M.opt (neD (.list ds) (.list ds)) [.val a, .own (enc s), .val tn, .val (.int n), x4, .val lots, .val tot, .val D, x8, .val (.list ds), .val (.list ds), x11, .val (shelfD ps ls), .tab [(Pt, qLam)]] := rfl
    rw [q]
    exact opt_ok (deeds_ne hD)
  have t3 : gOrT (gNotT (gTru (gCall (m__law_same 4) (Pf.gCons (asked Pt 10) (Pf.gCons (gN 7) Pf.gNil))))) (gTstL neD 10 (gN 9)) [.val a, .own (enc s), .val tn, .val (.int n), x4, .val lots, .val tot, .val D, x8, .own ds, .val (.list ds), x11, .val (shelfD ps ls), .tab [(Pt, qLam)]] = some (.ok (false, [.val a, .own (enc s), .val tn, .val (.int n), x4, .val lots, .val tot, .val D, x8, .val (.list ds), .val (.list ds), x11, .val (shelfD ps ls), .tab [(Pt, qLam)]])) := (bd_ok t1).trans t2
  unfold p8
  rw [ifS_f t3]
  rfl
theorem p9_ok (s : Stt) (n : Nat) (ds : List PyData) (lots tot D : PyData) (T : List (Addr × Str)) :
    ∃ (s' : Stt) (odd : PyData), (∀ xs, odd ≠ .list xs) ∧ (∀ xs, odd ≠ .dict xs) ∧ p9 [.val a, .own (enc s), .val tn, .val (.int n), x4, .val lots, .val tot, .val D, x8, .val (.list ds), .val (.list ds), x11, .val (shelfD ps ls), .tab T] = some (.nx [.val a, .own (enc s'), .val tn, .val (.int n), x4, .val lots, .val tot, .val D, x8, .val (.list ds), .val (.list ds), .val odd, .val (shelfD ps ls), .tab T]) := by
  obtain ⟨d, s1, h1, e1⟩ := drawn_ok s 4 (by decide) (by decide)
  have key : ∃ odd, (∀ xs, odd ≠ .list xs) ∧ (∀ xs, odd ≠ .dict xs) ∧ ([.tuple ds, .none, .str "put", .int 3] : List PyData)[d]? = some odd := by
    match d, h1 with
    | 0, _ => exact ⟨.tuple ds, (by intro _ h; cases h), (by intro _ h; cases h), rfl⟩
    | 1, _ => exact ⟨.none, (by intro _ h; cases h), (by intro _ h; cases h), rfl⟩
    | 2, _ => exact ⟨.str "put", (by intro _ h; cases h), (by intro _ h; cases h), rfl⟩
    | 3, _ => exact ⟨.int 3, (by intro _ h; cases h), (by intro _ h; cases h), rfl⟩
  obtain ⟨odd, n1, n2, hk⟩ := key
  refine ⟨s1, odd, n1, n2, ?_⟩
  have c : gCallB 1 (Pf.gCons (gC (.int 4)) Pf.gNil) m__law_drawn [.val a, .own (enc s), .val tn, .val (.int n), x4, .val lots, .val tot, .val D, x8, .val (.list ds), .val (.list ds), x11, .val (shelfD ps ls), .tab T] = some (.ok (.int d, [.val a, .own (enc s1), .val tn, .val (.int n), x4, .val lots, .val tot, .val D, x8, .val (.list ds), .val (.list ds), x11, .val (shelfD ps ls), .tab T])) :=
    callB_own (st := enc s) (ds := enc s) rfl (as := [.int 4]) (env1 := [.val a, .own (enc s), .val tn, .val (.int n), x4, .val lots, .val tot, .val D, x8, .val (.list ds), .val (.list ds), x11, .val (shelfD ps ls), .tab T]) rfl rfl e1
  have l : gFz (Pf.gLst (Pf.gCons (gBlt tupK (Pf.gCons (gN 10) Pf.gNil)) (Pf.gCons (gC .none) (Pf.gCons (gC (.str "put")) (Pf.gCons (gC (.int 3)) Pf.gNil))))) [.val a, .own (enc s), .val tn, .val (.int n), x4, .val lots, .val tot, .val D, x8, .val (.list ds), .val (.list ds), x11, .val (shelfD ps ls), .tab T] = some (.ok (.list [.tuple ds, .none, .str "put", .int 3], [.val a, .own (enc s), .val tn, .val (.int n), x4, .val lots, .val tot, .val D, x8, .val (.list ds), .val (.list ds), x11, .val (shelfD ps ls), .tab T])) := rfl
  exact (set_ok (bin_ok (f := atD) l c (show atD (.list [.tuple ds, .none, .str "put", .int 3]) (.int d) = some odd from atI_nat hk))).trans rfl
theorem p10_ok (hs : ShelfOk ps ls) (s : Stt) (n : Nat) (ds : List PyData) (lots tot D odd : PyData) (h4 : nob x4 = true) (h8 : nob x8 = true) (n1 : ∀ xs, odd ≠ .list xs) (n2 : ∀ xs, odd ≠ .dict xs) :
    p10 Pt [.val a, .own (enc s), .val tn, .val (.int n), x4, .val lots, .val tot, .val D, x8, .val (.list ds), .val (.list ds), .val odd, .val (shelfD ps ls), .tab [(Pt, qLam)]] = some (.nx [.val a, .own (enc s), .val tn, .val (.int n), x4, .val lots, .val tot, .val D, x8, .val (.list ds), .val (.list ds), .val odd, .val (shelfD ps ls), .tab [(Pt, qLam)]]) := by
  have hn : noObj [.val a, .own (enc s), .val tn, .val (.int n), x4, .val lots, .val tot, .val D, x8, .val (.list ds), .val (.list ds), .val odd, .val (shelfD ps ls), .tab [(Pt, qLam)]] = true := by
    rw [noObj_all]
    simp [h4, h8]
    simp [nob]
  have ha := asked_er (Pt := Pt) (i := 11) (env := [.val a, .own (enc s), .val tn, .val (.int n), x4, .val lots, .val tot, .val D, x8, .val (.list ds), .val (.list ds), .val odd, .val (shelfD ps ls), .tab [(Pt, qLam)]]) rfl hn rfl rfl (done_form ps ls hs odd n1 n2)
  have hne : neD (.tuple [.str "BadWay", .int ((0 : Nat) : Int), .str "form"]) (.tuple [.str "BadWay", .int 0, .str "form"]) = some false := by decide +kernel
  have t := tst_ok (f := neD) (gb := Pf.gTup (Pf.gCons (gC (.str "BadWay")) (Pf.gCons (gC (.int 0)) (Pf.gCons (gC (.str "form")) Pf.gNil)))) ha rfl hne
  unfold p10
  rw [ifS_f t]
  rfl
end
end Q
/-! part M30 -/
set_option Elab.async false
set_option linter.all false
set_option maxRecDepth 100000
set_option maxHeartbeats 2000000
namespace Q
open PySem PySem.Spec L2
open Pf
def envT (a : PyData) (s : Stt) (x2 x3 x4 x5 x6 x7 x8 x9 x10 x11 x12 : Sl) (T : List (Addr × Str)) : En := [.val a, .own (enc s), x2, x3, x4, x5, x6, x7, x8, x9, x10, x11, x12, .tab T]
theorem seq_to {g h : S} {env env1 : En} {o : Option Out} (h1 : g env = some (.nx env1)) (h2 : h env1 = o) : gSeq g h env = o := by rw [seq_nx h1]; exact h2
theorem turn_all (Pt : Addr) (a : PyData) (s : Stt) (tn : PyData) (x3 x4 x5 x6 x7 x8 x9 x10 x11 x12 : Sl) (h8 : nob x8 = true) (h11 : nob x11 = true) :
    ∃ (s' : Stt) (y3 y4 y5 y6 y7 y8 y9 y10 y11 y12 : Sl), nob y8 = true ∧ nob y11 = true ∧ turnAll Pt (envT a s (.val tn) x3 x4 x5 x6 x7 x8 x9 x10 x11 x12 [(Pt, qLam)]) = some (.nx (envT a s' (.val tn) y3 y4 y5 y6 y7 y8 y9 y10 y11 y12 [(Pt, qLam)])) := by
  obtain ⟨s1, ps, ls, hs, e1⟩ := p1_ok (a := a) (tn := tn) (x3 := x3) (x4 := x4) (x5 := x5) (x6 := x6) (x7 := x7) (x8 := x8) (x9 := x9) (x10 := x10) (x11 := x11) (x12 := x12) (T := [(Pt, qLam)]) s
  obtain ⟨s2, n, hn, e2⟩ := p2_ok (a := a) (tn := tn) (x3 := x3) (x4 := x4) (x5 := x5) (x6 := x6) (x7 := x7) (x8 := x8) (x9 := x9) (x10 := x10) (x11 := x11) (x12 := .val (shelfD ps ls)) (T := [(Pt, qLam)]) s1
  obtain ⟨s3, ds, k4, n4, hl, hD, e3⟩ := p3_ok (a := a) (tn := tn) (x4 := x4) (x5 := x5) (x6 := x6) (x7 := x7) (x8 := x8) (x9 := x9) (x10 := x10) (x11 := x11) (T := [(Pt, qLam)]) hs s2 n hn
  have e4 := p4_ok (a := a) (tn := tn) (x3 := .val (.int n)) (x4 := k4) (x5 := x5) (x6 := x6) (x7 := x7) (x8 := x8) (x9 := x9) (x11 := x11) (ps := ps) (ls := ls) s3 ds [(Pt, qLam)]
  obtain ⟨k5, w, lots, tot, D, n5, nw, hDue, e56⟩ := p56_ok (a := a) (tn := tn) (x4 := k4) (x8 := x8) (x9 := x9) (x11 := x11) hs s3 n hn ds hl hD [(Pt, qLam)] n4 h8
  have e7 := p7_ok (a := a) (tn := tn) (x4 := k5) (x8 := w) (x9 := x9) (x11 := x11) (ps := ps) (ls := ls) s3 n ds lots tot D [(Pt, qLam)]
  have e8 := p8_ok (a := a) (tn := tn) (x4 := k5) (x8 := w) (x11 := x11) (Pt := Pt) s3 n ds lots tot D n5 nw h11 hD hDue
  obtain ⟨s9, odd, o1, o2, e9⟩ := p9_ok (a := a) (tn := tn) (x4 := k5) (x8 := w) (x11 := x11) (ps := ps) (ls := ls) s3 n ds lots tot D [(Pt, qLam)]
  have e10 := p10_ok (a := a) (tn := tn) (x4 := k5) (x8 := w) (Pt := Pt) hs s9 n ds lots tot D odd n5 nw o1 o2
  have e56' : ∀ h : S, gSeq p5 (gSeq p6 h) = gSeq (gSeq p5 p6) h := fun h => by
    funext env
    show (match p5 env with
      | some (.nx env') => gSeq p6 h env'
      | o => o) = (match gSeq p5 p6 env with
      | some (.nx env') => h env'
      | o => o)
    have q : gSeq p5 p6 env = (match p5 env with
      | some (.nx env') => p6 env'
      | o => o) := rfl
    rw [q]
    cases p5 env with
    | none => rfl
    | some o => cases o <;> rfl
  refine ⟨s9, .val (.int n), k5, .val lots, .val tot, .val D, w, .val (.list ds), .val (.list ds), .val odd, .val (shelfD ps ls), nw, rfl, ?_⟩
  unfold turnAll
  rw [e56']
  exact seq_to e1 (seq_to e2 (seq_to e3 (seq_to e4 (seq_to e56 (seq_to e7 (seq_to e8 (seq_to e9 e10)))))))
theorem turns (Pt : Addr) (a : PyData) : ∀ (ks : List PyData) (s : Stt) (x2 x3 x4 x5 x6 x7 x8 x9 x10 x11 x12 : Sl), nob x8 = true → nob x11 = true →
    ∃ env, loopL (bN 2) (turnAll Pt) ks (envT a s x2 x3 x4 x5 x6 x7 x8 x9 x10 x11 x12 [(Pt, qLam)]) = some (.nx env)
  | [], s, x2, x3, x4, x5, x6, x7, x8, x9, x10, x11, x12, _, _ => ⟨_, rfl⟩
  | k :: ks, s, x2, x3, x4, x5, x6, x7, x8, x9, x10, x11, x12, h8, h11 => by
    obtain ⟨s', y3, y4, y5, y6, y7, y8, y9, y10, y11, y12, n8, n11, e⟩ := turn_all Pt a s k x3 x4 x5 x6 x7 x8 x9 x10 x11 x12 h8 h11
    obtain ⟨env, e2⟩ := turns Pt a ks s' (.val k) y3 y4 y5 y6 y7 y8 y9 y10 y11 y12 n8 n11
    refine ⟨env, ?_⟩
    have step : loopL (bN 2) (turnAll Pt) (k :: ks) (envT a s x2 x3 x4 x5 x6 x7 x8 x9 x10 x11 x12 [(Pt, qLam)]) = (match turnAll Pt (envT a s (.val k) x3 x4 x5 x6 x7 x8 x9 x10 x11 x12 [(Pt, qLam)]) with
      | some (.nx env2) => loopL (bN 2) (turnAll Pt) ks env2
      | some (.ct env2) => loopL (bN 2) (turnAll Pt) ks env2
      | some (.bk env2) => some (.nx env2)
      | o => o) := rfl
    rw [step, e]
    exact e2
theorem math (Pt : Addr) : ∀ ns : List Int, scriptOk ns → ∃ env, G_law Pt (envL Pt ns) = some (.rt (.bool true) env) := fun ns _ => by
  obtain ⟨m, e1⟩ := start_ok ns
  obtain ⟨env, e2⟩ := turns Pt (.list (ns.map PyData.int)) (nats (List.range' 0 4)) ⟨ns, 0, m, 0⟩ .no .no .no .no .no .no .no .no .no .no .no rfl rfl
  refine ⟨env, ?_⟩
  have z1 : gSetO 1 (gCall m__law_start (Pf.gCons (gN 0) Pf.gNil)) (envL Pt ns) = some (.nx (envT (.list (ns.map PyData.int)) ⟨ns, 0, m, 0⟩ .no .no .no .no .no .no .no .no .no .no .no [(Pt, qLam)])) := by
    rw [setO_ok (call_ok (cons_ok (n_val (d := .list (ns.map PyData.int)) rfl) nil_ok) e1)]
    rfl
  have z2 : gForR1 (gC (.int 4)) (bN 2) (turnAll Pt) (envT (.list (ns.map PyData.int)) ⟨ns, 0, m, 0⟩ .no .no .no .no .no .no .no .no .no .no .no [(Pt, qLam)]) = some (.nx env) := by
    rw [forR1_ok (n := 4) rfl (by decide)]
    exact e2
  rw [G_law_is]
  exact seq_to z1 (seq_to z2 rfl)
end Q
/-! part K02e -/
open PySem PySem.W PyProof.Rows
set_option Elab.async false
set_option linter.all false
set_option maxRecDepth 100000 in
set_option maxHeartbeats 0 in
theorem PySem.Challenge.cw_pinshelf_k02_deeds_done_holds : PySem.Challenge.rw_pinshelf_k02_deeds_done.Holds := by
  w_on; o_law; k_head; (case hw => w_witness2)
  k_fill
  refine LamX.walk_ofTs (l := PySem.Challenge.rw_pinshelf_k02_deeds_done) (n := 63) (k := 13) (x := "_law_script") (CX := fun w => L2.CX PySem.Challenge.pw_pinshelf_k02_deeds_done w) rfl (by decide) rfl ⟨rfl, by decide, by decide⟩ (fun w h Y => PySem.W.km_in_of Y) ?F (fun w H s e s2 z => by obtain ⟨_, _, _, _, _, _, _, _, _, _, _, _, z⟩ := z; exact z)
  case F =>
    intro w mg fa h Y KX G hmg
    have tt := PySem.W.km_tabs_of Y
    refine' Q.law_at (tt _ (List.Mem.head _)) KX G hmg ?nb_ValueError ?nb_bool ?nb_enumerate ?nb_int ?nb_isinstance ?nb_len ?nb_list ?nb_range ?nb_set ?nb_tuple ?gl_FIRST ?gl_LAST ?gl_MOST_BOOKS ?gl_MOST_LOTS ?gl_MOST_PRICE ?cl_1 ?cl_2 ?cl_3 ?cl_4 ?cl_5 ?cl_6 ?cl_7 ?cl_8 ?cl_9 ?cl_10 ?bg_1 ?br_1 ?bf_1 ?xl_2 ?sa_2 ?ex_2 ?ty_2 ?kc_2 ?ic_2 ?ti_2 ?li_2 ?cc_2 ?kk_2 ?nf_2_part ?nf_2_number ?xl_5 ?sa_5 ?ex_5 ?ty_5 ?kc_5 ?ic_5 ?ti_5 ?li_5 ?cc_5 ?kk_5 ?nf_5_number ?nf_5_why ?ga_2 ?gg_2 ?hd_2 ?ha_2 ?hm_2 ?em_2 ?ga_5 ?gg_5 ?hd_5 ?ha_5 ?hm_5 ?em_5 ?hn ?ht ?kt_BadShelf_BadGoal ?kt_BadShelf_BadName ?kt_BadShelf_BadShelf ?kt_BadShelf_BadText ?kt_BadShelf_BadWay ?kt_BadShelf_BadWish ?kt_BadShelf_Halted ?kt_BadShelf_NoPoint ?kt_BadShelf_NoWay ?kt_BadWay_BadGoal ?kt_BadWay_BadName ?kt_BadWay_BadShelf ?kt_BadWay_BadText ?kt_BadWay_BadWay ?kt_BadWay_BadWish ?kt_BadWay_Halted ?kt_BadWay_NoPoint ?kt_BadWay_NoWay ?kb_BadShelf_ValueError ?kb_BadWay_ValueError ?nf_2_done ?nf_2_row ?nf_2_why ?nf_5_done ?nf_5_part ?nf_5_row ?fa_15 ?fl_15 ?fc_15 ?fk_15 ?fa_16 ?fl_16 ?fc_16 ?fk_16 ?fa_17 ?fl_17 ?fc_17 ?fk_17 ?fa_18 ?fl_18 ?fc_18 ?fk_18 ?fa_19 ?fl_19 ?fc_19 ?fk_19 ?fa_20 ?fl_20 ?fc_20 ?fk_20 ?fa_21 ?fl_21 ?fc_21 ?fk_21 ?fa_22 ?fl_22 ?fc_22 ?fk_22 ?fa_26 ?fl_26 ?fc_26 ?fk_26 ?fa_27 ?fl_27 ?fc_27 ?fk_27 ?fa_28 ?fl_28 ?fc_28 ?fk_28 ?fa_29 ?fl_29 ?fc_29 ?fk_29 ?fa_30 ?fl_30 ?fc_30 ?fk_30 ?fa_31 ?fl_31 ?fc_31 ?fk_31 ?fa_32 ?fl_32 ?fc_32 ?fk_32 ?fa_34 ?fl_34 ?fc_34 ?fk_34 ?fa_35 ?fl_35 ?fc_35 ?fk_35 ?fa_36 ?fl_36 ?fc_36 ?fk_36 ?fa_38 ?fl_38 ?fc_38 ?fk_38 ?fa_39 ?fl_39 ?fc_39 ?fk_39 ?fa_40 ?fl_40 ?fc_40 ?fk_40 ?fa_41 ?fl_41 ?fc_41 ?fk_41 ?fa_43 ?fl_43 ?fc_43 ?fk_43 ?fa_44 ?fl_44 ?fc_44 ?fk_44 ?fa_45 ?fl_45 ?fc_45 ?fk_45 ?fa_37 ?fl_37 ?fc_37 ?fk_37 ?la ?ll ?lc ?lt ?ln (Q.math _)
    (case nb_ValueError => k_is)
    (case nb_bool => k_is)
    (case nb_enumerate => k_is)
    (case nb_int => k_is)
    (case nb_isinstance => k_is)
    (case nb_len => k_is)
    (case nb_list => k_is)
    (case nb_range => k_is)
    (case nb_set => k_is)
    (case nb_tuple => k_is)
    (case gl_FIRST => k_is)
    (case gl_LAST => k_is)
    (case gl_MOST_BOOKS => k_is)
    (case gl_MOST_LOTS => k_is)
    (case gl_MOST_PRICE => k_is)
    (case cl_1 => k_is)
    (case cl_2 => k_is)
    (case cl_3 => k_is)
    (case cl_4 => k_is)
    (case cl_5 => k_is)
    (case cl_6 => k_is)
    (case cl_7 => k_is)
    (case cl_8 => k_is)
    (case cl_9 => k_is)
    (case cl_10 => k_is)
    (case bg_1 => k_is)
    (case br_1 => k_is)
    (case bf_1 => k_is)
    (case xl_2 => k_is)
    (case sa_2 => k_is)
    (case ex_2 => k_is)
    (case ty_2 => k_is)
    (case kc_2 => k_is)
    (case ic_2 => k_is)
    (case ti_2 => k_is)
    (case li_2 => k_is)
    (case cc_2 => k_is)
    (case kk_2 => k_is)
    (case nf_2_part => k_is)
    (case nf_2_number => k_is)
    (case xl_5 => k_is)
    (case sa_5 => k_is)
    (case ex_5 => k_is)
    (case ty_5 => k_is)
    (case kc_5 => k_is)
    (case ic_5 => k_is)
    (case ti_5 => k_is)
    (case li_5 => k_is)
    (case cc_5 => k_is)
    (case kk_5 => k_is)
    (case nf_5_number => k_is)
    (case nf_5_why => k_is)
    (case ga_2 => k_is)
    (case gg_2 => k_is)
    (case hd_2 => k_is)
    (case ha_2 => k_is)
    (case hm_2 => k_is)
    (case em_2 => first | k_is | rfl | kernel_rfl)
    (case ga_5 => k_is)
    (case gg_5 => k_is)
    (case hd_5 => k_is)
    (case ha_5 => k_is)
    (case hm_5 => k_is)
    (case em_5 => first | k_is | rfl | kernel_rfl)
    (case hn => k_is)
    (case ht => k_is)
    (case kt_BadShelf_BadGoal => first | k_is | rfl | kernel_rfl)
    (case kt_BadShelf_BadName => first | k_is | rfl | kernel_rfl)
    (case kt_BadShelf_BadShelf => first | k_is | rfl | kernel_rfl)
    (case kt_BadShelf_BadText => first | k_is | rfl | kernel_rfl)
    (case kt_BadShelf_BadWay => first | k_is | rfl | kernel_rfl)
    (case kt_BadShelf_BadWish => first | k_is | rfl | kernel_rfl)
    (case kt_BadShelf_Halted => first | k_is | rfl | kernel_rfl)
    (case kt_BadShelf_NoPoint => first | k_is | rfl | kernel_rfl)
    (case kt_BadShelf_NoWay => first | k_is | rfl | kernel_rfl)
    (case kt_BadWay_BadGoal => first | k_is | rfl | kernel_rfl)
    (case kt_BadWay_BadName => first | k_is | rfl | kernel_rfl)
    (case kt_BadWay_BadShelf => first | k_is | rfl | kernel_rfl)
    (case kt_BadWay_BadText => first | k_is | rfl | kernel_rfl)
    (case kt_BadWay_BadWay => first | k_is | rfl | kernel_rfl)
    (case kt_BadWay_BadWish => first | k_is | rfl | kernel_rfl)
    (case kt_BadWay_Halted => first | k_is | rfl | kernel_rfl)
    (case kt_BadWay_NoPoint => first | k_is | rfl | kernel_rfl)
    (case kt_BadWay_NoWay => first | k_is | rfl | kernel_rfl)
    (case kb_BadShelf_ValueError => first | k_is | rfl | kernel_rfl)
    (case kb_BadWay_ValueError => first | k_is | rfl | kernel_rfl)
    (case nf_2_done => k_is)
    (case nf_2_row => k_is)
    (case nf_2_why => k_is)
    (case nf_5_done => k_is)
    (case nf_5_part => k_is)
    (case nf_5_row => k_is)
    (case fa_15 => k_is)
    (case fl_15 => k_is)
    (case fc_15 => k_is)
    (case fk_15 => k_is)
    (case fa_16 => k_is)
    (case fl_16 => k_is)
    (case fc_16 => k_is)
    (case fk_16 => k_is)
    (case fa_17 => k_is)
    (case fl_17 => k_is)
    (case fc_17 => k_is)
    (case fk_17 => k_is)
    (case fa_18 => k_is)
    (case fl_18 => k_is)
    (case fc_18 => k_is)
    (case fk_18 => k_is)
    (case fa_19 => k_is)
    (case fl_19 => k_is)
    (case fc_19 => k_is)
    (case fk_19 => k_is)
    (case fa_20 => k_is)
    (case fl_20 => k_is)
    (case fc_20 => k_is)
    (case fk_20 => k_is)
    (case fa_21 => k_is)
    (case fl_21 => k_is)
    (case fc_21 => k_is)
    (case fk_21 => k_is)
    (case fa_22 => k_is)
    (case fl_22 => k_is)
    (case fc_22 => k_is)
    (case fk_22 => k_is)
    (case fa_26 => k_is)
    (case fl_26 => k_is)
    (case fc_26 => k_is)
    (case fk_26 => k_is)
    (case fa_27 => k_is)
    (case fl_27 => k_is)
    (case fc_27 => k_is)
    (case fk_27 => k_is)
    (case fa_28 => k_is)
    (case fl_28 => k_is)
    (case fc_28 => k_is)
    (case fk_28 => k_is)
    (case fa_29 => k_is)
    (case fl_29 => k_is)
    (case fc_29 => k_is)
    (case fk_29 => k_is)
    (case fa_30 => k_is)
    (case fl_30 => k_is)
    (case fc_30 => k_is)
    (case fk_30 => k_is)
    (case fa_31 => k_is)
    (case fl_31 => k_is)
    (case fc_31 => k_is)
    (case fk_31 => k_is)
    (case fa_32 => k_is)
    (case fl_32 => k_is)
    (case fc_32 => k_is)
    (case fk_32 => k_is)
    (case fa_34 => k_is)
    (case fl_34 => k_is)
    (case fc_34 => k_is)
    (case fk_34 => k_is)
    (case fa_35 => k_is)
    (case fl_35 => k_is)
    (case fc_35 => k_is)
    (case fk_35 => k_is)
    (case fa_36 => k_is)
    (case fl_36 => k_is)
    (case fc_36 => k_is)
    (case fk_36 => k_is)
    (case fa_38 => k_is)
    (case fl_38 => k_is)
    (case fc_38 => k_is)
    (case fk_38 => k_is)
    (case fa_39 => k_is)
    (case fl_39 => k_is)
    (case fc_39 => k_is)
    (case fk_39 => k_is)
    (case fa_40 => k_is)
    (case fl_40 => k_is)
    (case fc_40 => k_is)
    (case fk_40 => k_is)
    (case fa_41 => k_is)
    (case fl_41 => k_is)
    (case fc_41 => k_is)
    (case fk_41 => k_is)
    (case fa_43 => k_is)
    (case fl_43 => k_is)
    (case fc_43 => k_is)
    (case fk_43 => k_is)
    (case fa_44 => k_is)
    (case fl_44 => k_is)
    (case fc_44 => k_is)
    (case fk_44 => k_is)
    (case fa_45 => k_is)
    (case fl_45 => k_is)
    (case fc_45 => k_is)
    (case fk_45 => k_is)
    (case fa_37 => k_is)
    (case fl_37 => k_is)
    (case fc_37 => k_is)
    (case fk_37 => k_is)
    (case la => k_is)
    (case ll => k_is)
    (case lc => k_is)
    (case lt => kernel_rfl)
    (case ln => first | rfl | kernel_rfl | k_is)
