import PyProof.Rows.All
import Wide.All
import OpenK.AllK
import Wide.FinOn
import HandS.ForExc
import HandS.ExcInit
import HandS.TupAny
import HandS.Conv
import KE.KIndexOf
import KE.DataFind
import HandS.ForMost
import HandS.Evl
import HandS.Lambda
import HandS.IsInst
import HandS.Style
import HandS.Flow
import HandS.More
import KE.GoesEnum
import KE.GoesMore
import HandS.Iter
import HandS.FStr
import HandS.SetKeys
import HandS.ExcIs
import HandS.ExcField
import HandS.SetFor
import HandS.MapJoin
import HandS.EndTab
import HandS.Zip
import HandS.Rev
import HandS.SortKw
import KE.DataMinMax
import HandS.Strs
import HandS.Deep
import HandS.ExcOwn
import PyProof.ExcBaseAll.ValueError
import HandS.SetBool
import KE.KNestM
import PySem.Challenge.RW_pinshelf_k09_whole_books_spared
/-! part PfX0 -/
set_option Elab.async false
set_option linter.all false
set_option maxRecDepth 100000
set_option maxHeartbeats 4000000
namespace PySem
namespace PfX
open PySem.W PySem.Calls PyProof.Rows PySem.HandSPX
section
variable {M : Model} {prog : Program} {w : World} {A : Around} {E : Value → Shared → Prop} {R : Result → Shared → Prop} {h : Heap} {g : Array GenState} {d : Drawn} {t : Nat} {os : OsState}
variable {nm q : Str} {C N : Addr} {bs bm bmB : List Value} {hdct : Bool} {sn : List Str} {sub : List Value} {ab : Bool} {col : Option Bool} {dd : Option Addr} {k0 k1 k2 k3 k5 : Option Value} {B newId initId : String} {kw : List (Str × Value)}
theorem check_newK (F : ExcBaseFacts B newId initId bmB) (hT : ∀ X : String, bm.contains (.type X) = bmB.contains (.type X)) {Q : Unit → Shared → Prop}
    (hC : h.get? C = some (excClassObj nm q C N bs bm hdct sn sub ab col dd k0 k1 k2 k3 k5 newId)) (hq : Q () ⟨h, g, d, t, os⟩) : wpAny M A (checkBuiltinCall newId ⟨[.ref C], kw⟩) Q E ⟨h, g, d, t, os⟩ := by
  have inB : (Value.ref C :: bm).contains (.type B) = true := by rw [List.contains_cons, hT, F.hasB, Bool.or_true]
  have st := F.noStar
  simp only [checkBuiltinCall, F.newKind, F.newSplit, F.newRow]
  repeat (first | refine wpAny_loadPart_at hC ?_ | (refine wpAny_isSubtype_exc hC ?_; rw [inB]) | refine wpAny_staticBase_exc hC ?_ | refine wpAny_madeBy_exc hC ?_ | simp only [bne_self_eq_false, Bool.false_eq_true, if_false] | wp_step)
  exact hq
theorem new_K (F : ExcBaseFacts B newId initId bmB) (hT : ∀ X : String, bm.contains (.type X) = bmB.contains (.type X))
    (hC : h.get? C = some (excClassObj nm q C N bs bm hdct sn sub ab col dd k0 k1 k2 k3 k5 newId))
    (hq : R (.ok (.ret (.ref (h.objs.size + 1)))) ⟨(h.push { cls := .type "tuple", data := .seq #[] }).push { cls := .ref C, data := .fields #[.ref h.objs.size, .none, .none, .none, .bool false, .none] }, g, d, t, os⟩) :
    codeAny (model prog w) A (.builtin newId ⟨[.ref C], kw⟩) R ⟨h, g, d, t, os⟩ := by
  have en := F.ends
  have inB : (Value.ref C :: bm).contains (.type B) = true := by rw [List.contains_cons, hT, F.hasB, Bool.or_true]
  have inA : (Value.ref C :: bm).contains (.type "AttributeError") = false := by rw [List.contains_cons, hT, F.noAttr]; rfl
  have inN : (Value.ref C :: bm).contains (.type "NameError") = false := by rw [List.contains_cons, hT, F.noName]; rfl
  refine codeAny_builtinAt F.entry ?_
  unfold Builtin.«BaseException.__new__»
  refine wpAt_bind (show wpAt _ _ _ (stack >>= _) _ _ _ from wpAt_bind (wpAt_stack fun p below => wpAt_of_wpAny ?_))
  wp_walk
  refine wpAt_of_wpAny ?_
  rw [F.owner]
  repeat (first | with_reducible refine wpAny_madeHere_exc F.canon hC ?_ | with_reducible refine wpAny_loadPart_at hC ?_ | (with_reducible refine wpAny_isSubtype_exc hC ?_; first | rw [inB] | rw [inA] | rw [inN]) | wp_step)
  show R _ _
  rw [Heap.size_push]
  exact hq
theorem type_callK (F : ExcBaseFacts B newId initId bmB) (hT : ∀ X : String, bm.contains (.type X) = bmB.contains (.type X)) {fI : Addr} {Q : Fin → Shared → Prop}
    (hC : h.get? C = some (excClassObj nm q C N bs bm hdct sn sub ab col dd k0 k1 k2 k3 k5 newId))
    (hi : W.Looks (model prog w) h (typeLookup (.ref C) "__init__") (some (.ref fI))) (hb : ∀ self, W.Looks (model prog w) h (bindSpecial (.ref fI) self) (.ref fI, [self]))
    (hq : codeAny (model prog w) A (.call (.ref fI) ⟨[.ref (h.objs.size + 1)], kw⟩) (fun r s' => match r with | .ok (.ret v) => v = .none ∧ Q (.done (.ret (.ref (h.objs.size + 1)))) s' | .ok _ => False | .error e => E e s')
      ⟨(h.push (W.kdv_tup [])).push (excO C h.objs.size), g, d, t, os⟩) :
    wpAny (model prog w) A (Builtin.«type.__call__» ⟨[.ref C], kw⟩) Q E ⟨h, g, d, t, os⟩ := by
  repeat (first | with_reducible refine wpAny_loadPart_at hC ?_ | with_reducible refine wpAny_madeBy_exc hC ?_ | wp_step)
  refine codeAny_call_builtin_code (Code.quiet_builtin _ F.quiet) (check_newK F hT hC (new_K F hT hC ?_))
  show wpAny _ _ _ _ _ _
  have kp : ∀ b o, h.get? b = some o → ((h.push (W.kdv_tup [])).push (excO C h.objs.size)).get? b = some o := fun b o e => Heap.get?_push_of_some _ (Heap.get?_push_of_some _ e)
  have hC₁ := kp _ _ hC
  have hnew : ((h.push (W.kdv_tup [])).push (excO C h.objs.size)).get? (h.objs.size + 1) = some (excO C h.objs.size) := by heap_get
  have inC : (Value.ref C :: bm).contains (.ref C) = true := by simp
  have i1 := hi.keeps kp
  have b1 := (hb (.ref (h.objs.size + 1))).keeps kp
  unfold isInstance
  repeat (first | with_reducible refine wpAny_loadPart_at hnew ?_ | (with_reducible refine wpAny_isSubtype_exc hC₁ ?_; rw [inC]) | wp_step)
  show wpAny _ _ (typeLookup (.ref C) _) _ _ _
  refine i1.at (wpAny_holding (wpAny_bind (b1.at (wpAny_bind (wpAny_call (codeAny_mono hq fun r s' z => ?_))))))
  rcases r with e | (v | _ | _ | _) <;> first | exact z | exact z.elim | skip
  obtain ⟨rfl, z⟩ := z
  first
    | exact wpAny_pure (wpAny_pure z)
    | (wp_walk; exact z)
theorem call_K (F : ExcBaseFacts B newId initId bmB) (hT : ∀ X : String, bm.contains (.type X) = bmB.contains (.type X)) {fI : Addr}
    (hC : h.get? C = some (excClassObj nm q C N bs bm hdct sn sub ab col dd k0 k1 k2 k3 k5 newId))
    (hi : W.Looks (model prog w) h (typeLookup (.ref C) "__init__") (some (.ref fI))) (hb : ∀ self, W.Looks (model prog w) h (bindSpecial (.ref fI) self) (.ref fI, [self]))
    (hq : codeAny (model prog w) (A.under (.builtin "type.__call__" ⟨[.ref C], kw⟩)) (.call (.ref fI) ⟨[.ref (h.objs.size + 1)], kw⟩) (W.InitBack (h.objs.size + 1) R) ⟨(h.push (W.kdv_tup [])).push (excO C h.objs.size), g, d, t, os⟩) :
    codeAny (model prog w) A (.call (.ref C) ⟨[], kw⟩) R ⟨h, g, d, t, os⟩ := by
  have f1 := tc_lookup
  have f2 := tc_bind (.ref C)
  have hTy : (⟨h, g, d, t, os⟩ : Shared).TypeIs (.ref C) "type" := ⟨_, hC, rfl⟩
  refine codeAny_of_tree (show wpAny _ _ (callAny (.ref C) _) _ _ _ from ?_)
  repeat (any_goals (first | assumption | with_reducible refine wpAny_loadPart_at hC ?_ | wp_step))
  refine ⟨rfl, codeAny_call_builtin_at (Code.quiet_builtin _ (by decide +kernel)) entry_typeCall (wpAny_check_type_call_sub hC (type_callK F hT hC hi hb (codeAny_mono hq fun r s' z => ?_)))⟩
  rcases r with e | (v | _ | _ | _) <;> exact z
end
end PfX
end PySem
/-! part Pf0 -/
set_option Elab.async false
set_option linter.all false
set_option maxRecDepth 100000
set_option maxHeartbeats 4000000
namespace Pf
open PySem PySem.Spec PyProof.Rows L2
def NewT (Q : VK) (G : Hp) (ws : List V) : Prop := ∀ (p : Addr) (ob : Obj), (ob.dict = none ∧ ob.slots = #[]) → G p = none → Q (.ref p) (upd G p (.frz ob (.tup ws)))
section
variable {X : Cx}
theorem laidT {pins : List (Addr × Obj)} {σ : L2.St} {G : Hp} {st : Shared} {Q : VK} {ws : List V} {us : List Value} (I : Inv X pins σ G st) (r : Vals ws us) (hz : ws.length ≤ sizeLine) (q : NewT Q G ws) :
    EP X pins σ Q (.ref st.heap.objs.size) { st with heap := st.heap.push { cls := .type "tuple", data := .seq us.toArray } } :=
  ⟨.ref st.heap.objs.size, upd G st.heap.objs.size (.frz { cls := .type "tuple", data := .seq us.toArray } (.tup ws)),
    I.laid (t' := st.toks) (fun _ _ z => Heap.get?_push_of_some _ z) (Nat.le_refl _) (show ObjOk X.prog X.w _ _ _ (.frz _ (.tup ws)) from ⟨Heap.get?_push_size _ rfl, hz, us, r, IsTup.new _ _⟩),
    rfl, q _ _ ⟨rfl, rfl⟩ (I.hok.fresh (Nat.le_refl _))⟩
def tTupF (t : TA) : TE := fun σ G Q => t σ G fun ws G1 => ws.length ≤ sizeLine ∧ NewT Q G1 ws
theorem pe_tupF {x1 : Nat} {es : List Expr} {t : TA} {pos : Pos} (h : PA X es t) : PE X (.Tuple es x1 pos) (tTupF t) := by
  constructor
  intro pins st σ G Q I hq
  refine wpAny_Tuple_spliced (thn (h.run pos pins st σ G _ I hq) ?_)
  rintro us st1 ⟨ws, G1, I1, r, hz, q⟩
  exact ⟨r.length ▸ hz, laidT I1 r hz q⟩
def rCatF (K : PySem.W.Frag) : R2 := fun x y G Q => ∃ a b ws vs, x = .ref a ∧ y = .ref b ∧ SqT K G a ws ∧ SqT K G b vs ∧ ws.length + vs.length ≤ sizeLine ∧
  (ws = [] → Q (.ref b) G) ∧ (ws ≠ [] → vs = [] → Q (.ref a) G) ∧ (ws ≠ [] → vs ≠ [] → NewT Q G (ws ++ vs))
theorem op_catF : OpR X (binaryOp .Add) (rCatF X.K) := by
  intro pins st σ G x y v u Q I rx ry h
  obtain ⟨a, b, ws, vs, e1, e2, ta, tb, hz, q0, q1, q2⟩ := h
  subst e1 e2
  by_cases hx : ws = []
  · exact op_catA pins st σ G _ _ v u Q I rx ry ⟨a, b, ws, vs, rfl, rfl, ta, tb, hz, q0, q1, fun n => absurd hx n⟩
  · cases rx
    cases ry
    obtain ⟨i1, r1, p1, _⟩ := I.tuple ta
    obtain ⟨i2, r2, p2, _⟩ := I.tuple tb
    have hn1 : ¬ i1 = [] := fun z => hx (r1.nil_iff.mp z)
    refine HT.cat_tup p1 p2 hn1 (fun z => ⟨.ref a, G, I, rfl, q1 hx (r2.nil_iff.mp z)⟩) (fun z => ?_) (by rw [← r1.length, ← r2.length]; exact hz)
    exact laidT I (r1.append r2) (by rw [List.length_append]; exact hz) (q2 hx fun n => z (r2.nil_iff.mpr n))
theorem op_catL : OpR X (binaryOp .Add) (fun x y G Q => ∃ a b ws vs, x = .ref a ∧ y = .ref b ∧ SqL X.K G a ws ∧ SqL X.K G b vs ∧ ws.length + vs.length ≤ sizeLine ∧ ∀ p, G p = none → Q (.ref p) (upd G p (.lst (ws ++ vs)))) := by
  intro pins st σ G x y v u Q I rx ry h
  obtain ⟨a, b, ws, vs, e1, e2, ta, tb, hz, q⟩ := h
  subst e1 e2
  cases rx
  cases ry
  obtain ⟨i1, r1, ⟨⟨cls, dd, data, sl⟩, n, ho, hc, hdn, hd⟩, _⟩ := I.list ta
  obtain ⟨i2, r2, ⟨⟨cls2, dd2, data2, sl2⟩, n2, ho2, hc2, hdn2, hd2⟩, _⟩ := I.list tb
  simp only at hc hd hc2 hd2
  subst hc hd hc2 hd2
  have l1 := r1.length
  have l2 := r2.length
  have ea : i1.toArray ++ i2.toArray = (i1 ++ i2).toArray := by simp
  refine concat_meets ⟨_, ho, rfl⟩ ⟨_, ho2, rfl⟩ noFill_list_add seq_list_add PySem.F.slot_list_add PySem.F.entry_list_add (PySem.F.args_list_add_2 _ _) (list_addW a b i1.toArray i2.toArray n n2 dd dd2 sl sl2 (by rw [List.size_toArray, List.size_toArray, ← l1, ← l2]; exact hz)) ⟨ho, ho2, ?_⟩
  rw [ea]
  exact ⟨.ref _, _, I.lnew (t' := st.toks) (r1.append r2) (by rw [List.length_append]; exact hz), rfl, q _ I.fresh⟩
def rCutF (K : PySem.W.Frag) : V → Option Int → Option Int → Hp → VK → Prop := fun x lo hi G Q => ∃ a ws, x = .ref a ∧ SqT K G a ws ∧
  (HT.sIx ws.length 0 lo = 0 ∧ HT.sIx ws.length ws.length hi = ws.length → Q (.ref a) G) ∧ (¬ (HT.sIx ws.length 0 lo = 0 ∧ HT.sIx ws.length ws.length hi = ws.length) → NewT Q G (cutV ws lo hi))
theorem sl_cutF : SlR X (rCutF X.K) := by
  intro pins st σ G x v vl vu lo hi sl Q I rx hs pl pu h
  obtain ⟨a, ws, e, ha, q1, q2⟩ := h
  subst e
  by_cases hw : HT.sIx ws.length 0 lo = 0 ∧ HT.sIx ws.length ws.length hi = ws.length
  · exact sl_tupA pins st σ G _ v vl vu lo hi sl Q I rx hs pl pu ⟨a, ws, rfl, ha, q1, fun n => absurd hw n⟩
  · cases rx
    obtain ⟨i1, r1, p1, hz⟩ := I.tuple ha
    have hl : i1.toArray.size = ws.length := by rw [List.size_toArray]; exact r1.length.symm
    refine ⟨"tuple", _, PyProof.Rows.slot_tuple_getitem.lookup, p1.typeIs, HT.getItem_tuple_cut p1 hs pl pu (by rw [hl]; exact hw) ?_ (by rw [hl]; exact hz)⟩
    rw [hl]
    exact laidT I ((r1.drop _).take _) (Nat.le_trans (cutV_length ws lo hi) hz) (q2 hw)
theorem cr_tupF : CallR X (.type "tuple") (fun vs G Q => ∃ p ws, vs = [.ref p] ∧ ((SqL X.K G p ws ∧ NewT Q G ws) ∨ (SqT X.K G p ws ∧ Q (.ref p) G))) := by
  intro pins st σ G vs us Q I r h
  obtain ⟨p, ws, e, h⟩ := h
  rcases h with ⟨hl, q⟩ | ⟨ht, q⟩
  · subst e
    obtain ⟨u, rfl, rx⟩ := vals1 r
    cases rx
    obtain ⟨i1, r1, p1, hz⟩ := I.list hl
    have hn := r1.length
    refine call_tuple_list p1.isList (fun h' kp => ?_) (by simp only [List.size_toArray] <;> omega)
    exact laidT (I.kept (t' := st.toks) kp) r1 hz q
  · exact call_tuple_of pins st σ G vs us Q I r ⟨p, ws, e, .inr ⟨ht, q⟩⟩
end
end Pf
/-! part Pf1 -/
set_option Elab.async false
set_option linter.all false
set_option maxRecDepth 100000
set_option maxHeartbeats 2000000
namespace L2
open PySem PySem.Spec
theorem DpAll.len {K : PySem.W.Frag} {H : Hp} : ∀ {vs : List V} {ds : List PyData}, DpAll K H vs ds → vs.length = ds.length
  | _, _, .nil => rfl
  | _, _, .cons _ r => by simp [DpAll.len r]
theorem DpAll.get {K : PySem.W.Frag} {H : Hp} : ∀ {vs : List V} {ds : List PyData} {i : Nat} {d : PyData}, DpAll K H vs ds → ds[i]? = some d → ∃ v, vs[i]? = some v ∧ Dp K H v d
  | _, _, _, _, .nil, h => by simp at h
  | _, _, 0, _, .cons a _, h => by simp at h; subst h; exact ⟨_, rfl, a⟩
  | _, _, i + 1, _, .cons _ r, h => by
    obtain ⟨v, e, x⟩ := DpAll.get (i := i) r (by simpa using h)
    exact ⟨v, by simpa using e, x⟩
theorem DpAll.app {K : PySem.W.Frag} {H : Hp} : ∀ {vs ws : List V} {ds es : List PyData}, DpAll K H vs ds → DpAll K H ws es → DpAll K H (vs ++ ws) (ds ++ es)
  | _, _, _, _, .nil, s => s
  | _, _, _, _, .cons a r, s => .cons a (DpAll.app r s)
theorem DpAll.take {K : PySem.W.Frag} {H : Hp} : ∀ {vs : List V} {ds : List PyData} (n : Nat), DpAll K H vs ds → DpAll K H (vs.take n) (ds.take n)
  | _, _, 0, _ => .nil
  | _, _, _ + 1, .nil => .nil
  | _, _, n + 1, .cons a r => .cons a (DpAll.take n r)
theorem DpAll.drop {K : PySem.W.Frag} {H : Hp} : ∀ {vs : List V} {ds : List PyData} (n : Nat), DpAll K H vs ds → DpAll K H (vs.drop n) (ds.drop n)
  | _, _, 0, r => r
  | _, _, _ + 1, .nil => .nil
  | _, _, n + 1, .cons _ r => DpAll.drop n r
theorem DpAll.set {K : PySem.W.Frag} {H : Hp} {v : V} {d : PyData} (h : Dp K H v d) : ∀ {vs : List V} {ds : List PyData} (n : Nat), DpAll K H vs ds → DpAll K H (vs.set n v) (ds.set n d)
  | _, _, _, .nil => .nil
  | _, _, 0, .cons _ r => .cons h r
  | _, _, n + 1, .cons a r => .cons a (DpAll.set h n r)
theorem DpAll.erase {K : PySem.W.Frag} {H : Hp} : ∀ {vs : List V} {ds : List PyData} (n : Nat), DpAll K H vs ds → DpAll K H (vs.eraseIdx n) (ds.eraseIdx n)
  | _, _, _, .nil => .nil
  | _, _, 0, .cons _ r => r
  | _, _, n + 1, .cons a r => .cons a (DpAll.erase n r)
theorem DpAll.reverse {K : PySem.W.Frag} {H : Hp} : ∀ {vs : List V} {ds : List PyData}, DpAll K H vs ds → DpAll K H vs.reverse ds.reverse
  | _, _, .nil => .nil
  | _, _, .cons a r => by simp only [List.reverse_cons]; exact DpAll.app (DpAll.reverse r) (.cons a .nil)
end L2
namespace Pf
open PySem PySem.Spec L2 Evl
mutual
theorem dp_mono {K : PySem.W.Frag} {H H' : Hp} (e : Ex H H') : ∀ {v : V} {d : PyData}, Dp K H v d → Dp K H' v d
  | _, _, .non => .non
  | _, _, .bl b => .bl b
  | _, _, .int i => .int i
  | _, _, .str x => .str x
  | _, _, .lst h r => .lst (ex_l e h) (dps_mono e r)
  | _, _, .tup h r => .tup (ex_t e h) (dps_mono e r)
theorem dps_mono {K : PySem.W.Frag} {H H' : Hp} (e : Ex H H') : ∀ {vs : List V} {ds : List PyData}, DpAll K H vs ds → DpAll K H' vs ds
  | _, _, .nil => .nil
  | _, _, .cons a r => .cons (dp_mono e a) (dps_mono e r)
end
def FsOk (K : PySem.W.Frag) (F : Hp) : List (Str × V) → List (Str × PyData) → Prop
  | [], [] => True
  | (f, v) :: r, (g, d) :: r' => f = g ∧ Dp K F v d ∧ FsOk K F r r'
  | _, _ => False
theorem fs_mono {K : PySem.W.Frag} {F F' : Hp} (e : Ex F F') : ∀ {a : List (Str × V)} {b : List (Str × PyData)}, FsOk K F a b → FsOk K F' a b
  | [], [], _ => trivial
  | [], _ :: _, h => h.elim
  | _ :: _, [], h => by simp [FsOk] at h
  | (f, v) :: a, (g, d) :: b, ⟨h1, h2, h3⟩ => ⟨h1, dp_mono e h2, fs_mono e h3⟩
inductive Sl where
  | no
  | val (d : PyData)
  | own (ds : List PyData)
  | bor (ds : List PyData)
  | obj (o : HO)
  | raw (v : V)
  | exc (a dd : Addr) (fs : List (Str × PyData))
  | tab (T : List (Addr × Str))
abbrev En := List Sl
structure Cn where
  F : Hp
  H : Hp
  B : List Addr
  T : List (Addr × Str) := []
def SlOk (K : PySem.W.Frag) (C : Cn) (F H : Hp) (x : Option (Option V)) : Sl → Prop
  | .no => True
  | .val d => ∃ v, x = some (some v) ∧ Dp K F v d
  | .own ds => ∃ p vs, x = some (some (.ref p)) ∧ F p = none ∧ C.H p = none ∧ H p = some (.lst vs) ∧ DpAll K F vs ds
  | .bor ds => ∃ p vs, x = some (some (.ref p)) ∧ F p = none ∧ p ∈ C.B ∧ H p = some (.lst vs) ∧ DpAll K F vs ds
  | .obj o => ∃ p, x = some (some (.ref p)) ∧ F p = none ∧ C.H p = none ∧ H p = some o
  | .raw v => x = some (some v)
  | .exc a dd fs => x = some (some (.ref a)) ∧ ∃ vs, F dd = some (.xd vs) ∧ FsOk K F vs fs
  | .tab T => (C.T = T ∧ ∀ b ∈ C.B, ∃ q, (b, q) ∈ T) ∧ ∀ a ps, C.H a = some (.tbl ps) → a ∈ C.B
def isOwn : Sl → Bool
  | .own _ => true
  | .bor _ => true
  | .obj _ => true
  | _ => false
def Owned (σ : St) (env : En) (i : Nat) (p : Addr) : Prop := ∃ s, env[i]? = some s ∧ isOwn s = true ∧ σ[i]? = some (some (.ref p))
theorem tabs_lst {T : List (Addr × Str)} {H H' : Hp} {p : Addr} {vs : List V} (t : LamX.Tabs T H) (h : H p = some (.lst vs)) (k : ∀ a o, a ≠ p → H a = some o → H' a = some o) : LamX.Tabs T H' := fun q hq => by
  obtain ⟨ps, h1, h2, h3⟩ := t q hq
  refine ⟨ps, k _ _ (fun e => ?_) h1, h2, fun pos cv hc => ?_⟩
  · rw [e, h] at h1; cases h1
  · obtain ⟨c, e1, e2⟩ := h3 pos cv hc
    refine ⟨c, e1, k _ _ (fun e => ?_) e2⟩
    rw [e, h] at e2
    have e2 := Option.some.inj e2
    unfold LamX.CodeO at e2
    cases e2
def looseV : V → Bool
  | .non => false
  | .int _ => false
  | _ => true
def okNew : HO → Prop
  | .tbl _ => False
  | .tup xs => xs.any looseV = true
  | .frz ob (.tup _) => ob.dict = none ∧ ob.slots = #[]
  | _ => True
def NT (F : Hp) : Prop := ∀ a o, F a = some o → okNew o
theorem NT.upd {F : Hp} (h : NT F) {p : Addr} {o : HO} (ho : okNew o) : NT (upd F p o) := fun a u e => by
  by_cases z : a = p
  · subst z; rw [upd_same] at e; cases e; exact ho
  · rw [upd_ne z] at e; exact h a u e
theorem NT.tbl {F : Hp} (h : NT F) (a : Addr) (ps : Array Value) : F a ≠ some (.tbl ps) := fun e => h a _ e
structure Rel (K : PySem.W.Frag) (C : Cn) (F : Hp) (σ : St) (H : Hp) (env : En) : Prop where
  fh : Ex F H
  cf : Ex C.F F
  new : ∀ a, C.F a = none → F a ≠ none → C.H a = none
  pres : ∀ a o, C.H a = some o → a ∉ C.B → H a = some o
  bd : ∀ b ∈ C.B, H b ≠ none ∧ C.F b = none ∧ C.H b ≠ none
  sl : ∀ (i : Nat) s, env[i]? = some s → SlOk K C F H σ[i]? s
  dis : ∀ (i j : Nat) p, Owned σ env i p → Owned σ env j p → i = j
  len : env.length = σ.length
  tb : LamX.Tabs C.T H
  nt : NT F
section
variable {K : PySem.W.Frag} {C : Cn} {F F' : Hp} {σ : St} {H H' : Hp} {env : En}
theorem Rel.grow (r : Rel K C F σ H env) (e : Ex F F') (e' : Ex F' H') (k : ∀ a o, H a = some o → H' a = some o)
    (new : ∀ a, F a = none → F' a ≠ none → H a = none) (nt : NT F') : Rel K C F' σ H' env where
  fh := e'
  cf := r.cf.trans e
  new := fun a h1 h2 => by
    by_cases h : F a = none
    · have := new a h h2
      cases q : C.H a with
      | none => rfl
      | some o =>
        by_cases hb : a ∈ C.B
        · exact absurd this (r.bd a hb).1
        · rw [r.pres a o q hb] at this; cases this
    · exact r.new a h1 h
  pres := fun a o h hb => k a o (r.pres a o h hb)
  bd := fun b hb => by
    obtain ⟨h1, h2, h3⟩ := r.bd b hb
    refine ⟨?_, h2, h3⟩
    cases q : H b with
    | none => exact absurd q h1
    | some o => rw [k b o q]; simp
  sl := fun i s h => by
    have q := r.sl i s h
    have nf : ∀ p o, F p = none → H p = some o → F' p = none := fun p vs h1 h2 => by
      cases q : F' p with
      | none => rfl
      | some o => have z := new p h1 (by rw [q]; simp); rw [h2] at z; cases z
    cases s with
    | no => trivial
    | val d => obtain ⟨v, h1, h2⟩ := q; exact ⟨v, h1, dp_mono e h2⟩
    | own ds => obtain ⟨p, vs, h1, h2, h3, h4, h5⟩ := q; exact ⟨p, vs, h1, nf p _ h2 h4, h3, k _ _ h4, dps_mono e h5⟩
    | bor ds => obtain ⟨p, vs, h1, h2, h3, h4, h5⟩ := q; exact ⟨p, vs, h1, nf p _ h2 h4, h3, k _ _ h4, dps_mono e h5⟩
    | obj ob => obtain ⟨p, h1, h2, h3, h4⟩ := q; exact ⟨p, h1, nf p _ h2 h4, h3, k _ _ h4⟩
    | raw v => exact q
    | exc a dd fs => obtain ⟨z1, z2, z3, z4⟩ := q; exact ⟨z1, z2, e _ _ z3, fs_mono e z4⟩
    | tab T => exact q
  dis := r.dis
  len := r.len
  tb := r.tb.ext k
  nt := nt
theorem Rel.fresh (r : Rel K C F σ H env) {p : Addr} (h : H p = none) : F p = none ∧ C.H p = none := by
  constructor
  · cases q : F p with
    | none => rfl
    | some o => rw [r.fh p o q] at h; cases h
  · cases q : C.H p with
    | none => rfl
    | some o =>
      by_cases hb : p ∈ C.B
      · exact absurd h (r.bd p hb).1
      · rw [r.pres p o q hb] at h; cases h
theorem Rel.newF (r : Rel K C F σ H env) {p : Addr} {o : HO} (h : H p = none) (hn : okNew o := by trivial) : Rel K C (upd F p o) σ (upd H p o) env := by
  have hf := (r.fresh h).1
  refine r.grow (Ex.new hf) (fun a u q => ?_) (fun a u q => ?_) (fun a h1 h2 => ?_) (r.nt.upd hn)
  · by_cases ha : a = p
    · subst ha; rw [upd_same] at q ⊢; exact q
    · rw [upd_ne ha] at q ⊢; exact r.fh a u q
  · rw [upd_ne (ne_of_none q h)]; exact q
  · by_cases ha : a = p
    · subst ha; exact h
    · rw [upd_ne ha] at h2; exact absurd h1 h2
theorem Rel.newH (r : Rel K C F σ H env) {p : Addr} {o : HO} (h : H p = none) : Rel K C F σ (upd H p o) env := by
  have hf := (r.fresh h).1
  refine r.grow (Ex.refl _) (fun a u q => ?_) (fun a u q => ?_) (fun a h1 h2 => absurd h1 h2) r.nt
  · rw [upd_ne (ne_of_none q hf)]; exact r.fh a u q
  · rw [upd_ne (ne_of_none q h)]; exact q
def Cn.guard (C : Cn) (p : Addr) (o : HO) : Cn := { C with H := upd C.H p o }
theorem Rel.guard (r : Rel K C F σ H env) {p : Addr} {o : HO} (h1 : F p = none) (h2 : C.H p = none) (h3 : H p = some o) (h4 : ∀ i, ¬ Owned σ env i p) (ho : ∀ ps, o ≠ .tbl ps := by intro _ z; cases z) : Rel K (C.guard p o) F σ H env where
  fh := r.fh
  cf := r.cf
  new := fun a q1 q2 => by
    have ne : a ≠ p := fun e => by subst e; exact q2 h1
    show upd C.H p o a = none
    rw [upd_ne ne]; exact r.new a q1 q2
  pres := fun a u q hb => by
    have q : upd C.H p o a = some u := q
    by_cases ne : a = p
    · subst ne; rw [upd_same] at q; rw [← q]; exact h3
    · rw [upd_ne ne] at q; exact r.pres a u q hb
  bd := fun b hb => by
    obtain ⟨a1, a2, a3⟩ := r.bd b hb
    refine ⟨a1, a2, ?_⟩
    show upd C.H p o b ≠ none
    by_cases ne : b = p
    · subst ne; rw [upd_same]; simp
    · rw [upd_ne ne]; exact a3
  sl := fun i s hs => by
    have q := r.sl i s hs
    cases s with
    | no => trivial
    | val d => exact q
    | own ds =>
      obtain ⟨p', vs, a1, a2, a3, a4, a5⟩ := q
      have ne : p' ≠ p := fun e => h4 i ⟨_, hs, rfl, by rw [← e]; exact a1⟩
      exact ⟨p', vs, a1, a2, by show upd C.H p o p' = none; rw [upd_ne ne]; exact a3, a4, a5⟩
    | obj ob =>
      obtain ⟨p', a1, a2, a3, a4⟩ := q
      have ne : p' ≠ p := fun e => h4 i ⟨_, hs, rfl, by rw [← e]; exact a1⟩
      exact ⟨p', a1, a2, by show upd C.H p o p' = none; rw [upd_ne ne]; exact a3, a4⟩
    | bor ds => exact q
    | raw v => exact q
    | exc a dd fs => exact q
    | tab T =>
      refine ⟨q.1, fun a ps z => ?_⟩
      have z : upd C.H p o a = some (.tbl ps) := z
      by_cases e : a = p
      · subst e; rw [upd_same] at z; exact absurd (Option.some.inj z) (ho ps)
      · rw [upd_ne e] at z; exact q.2 a ps z
  dis := r.dis
  len := r.len
  tb := r.tb
  nt := r.nt
theorem Rel.unguard {F0 H0 : Hp} {σ0 : St} {env0 : En} (r0 : Rel K C F0 σ0 H0 env0) {p : Addr} {o : HO} (h2 : C.H p = none) (r : Rel K (C.guard p o) F σ H env) : Rel K C F σ H env where
  fh := r.fh
  cf := r.cf
  new := fun a q1 q2 => by
    have q : upd C.H p o a = none := r.new a q1 q2
    by_cases ne : a = p
    · subst ne; exact h2
    · rw [upd_ne ne] at q; exact q
  pres := fun a u q hb => r.pres a u (by show upd C.H p o a = some u; rw [upd_ne (ne_of_none q h2)]; exact q) hb
  bd := fun b hb => ⟨(r.bd b hb).1, (r0.bd b hb).2⟩
  sl := fun i s hs => by
    have q := r.sl i s hs
    cases s with
    | own ds =>
      obtain ⟨p', vs, a1, a2, a3, a4, a5⟩ := q
      have a3 : upd C.H p o p' = none := a3
      refine ⟨p', vs, a1, a2, ?_, a4, a5⟩
      by_cases ne : p' = p
      · subst ne; exact h2
      · rw [upd_ne ne] at a3; exact a3
    | obj ob =>
      obtain ⟨p', a1, a2, a3, a4⟩ := q
      have a3 : upd C.H p o p' = none := a3
      refine ⟨p', a1, a2, ?_, a4⟩
      by_cases ne : p' = p
      · subst ne; exact h2
      · rw [upd_ne ne] at a3; exact a3
    | no => trivial
    | val d => exact q
    | bor ds => exact q
    | raw v => exact q
    | exc a dd fs => exact q
    | tab T => exact ⟨q.1, fun a ps z => q.2 a ps (by show upd C.H p o a = some (.tbl ps); rw [upd_ne (ne_of_none z h2)]; exact z)⟩
  dis := r.dis
  len := r.len
  tb := r.tb
  nt := r.nt
theorem Rel.guarded {p : Addr} {o : HO} (r0 : ∀ b ∈ C.B, C.H b ≠ none) (h2 : C.H p = none) (r : Rel K (C.guard p o) F σ H env) : H p = some o :=
  r.pres p o upd_same fun hb => r0 p hb h2
end
end Pf
/-! part Pf2 -/
set_option Elab.async false
set_option linter.all false
set_option maxRecDepth 100000
set_option maxHeartbeats 2000000
namespace Pf
open PySem PySem.Spec L2 Evl
structure Xc where
  cls : Str
  fs : Option (List (Str × PyData))
abbrev Rs (α : Type) := Option (Except (Xc × En) (α × En))
abbrev M (α : Type) := En → Rs α
def M.ok {α : Type} (a : α) : M α := fun env => some (.ok (a, env))
def M.bd {α β : Type} (m : M α) (f : α → M β) : M β := fun env => match m env with
  | none => none
  | some (.error x) => some (.error x)
  | some (.ok (a, env')) => f a env'
def M.no {α : Type} : M α := fun _ => none
def M.opt {α : Type} (o : Option α) : M α := fun env => match o with
  | none => none
  | some a => some (.ok (a, env))
section
variable (K : PySem.W.Frag) (mg : Str → Option Value)
def XOk (F H : Hp) (cls : Value) (dx : Option Addr) (x : Xc) : Prop := mg x.cls = some cls ∧ match x.fs with
  | none => dx = none
  | some gs => ∃ d fs, dx = some d ∧ F d = some (.xd fs) ∧ FsOk K F fs gs
abbrev OkR (α β : Type) := Cn → Hp → St → Hp → En → α → β → Prop
def okV : OkR PyData V := fun _ F _ _ _ d v => Dp K F v d
def okB : OkR Bool Bool := fun _ _ _ _ _ a b => b = a
def okA : OkR (List PyData) (List V) := fun _ F _ _ _ ds vs => DpAll K F vs ds
def okO : OkR (List PyData) V := fun C F σ H env ds v => ∃ p vs, v = .ref p ∧ F p = none ∧ C.H p = none ∧ H p = some (.lst vs) ∧ DpAll K F vs ds ∧ ∀ i, ¬ Owned σ env i p
def After {α β : Type} (ok : OkR α β) (W : WX) (C : Cn) (F : Hp) (σ : St) (r : Rs α) (Q : β → Hp → Prop) : Prop := match r with
  | none => False
  | some (.ok (a, env')) => ∀ b F' H', Rel K C F' σ H' env' → Ex F F' → ok C F' σ H' env' a b → Q b H'
  | some (.error (x, env')) => ∀ F' H' cls dx, Rel K C F' σ H' env' → Ex F F' → XOk K mg F' H' cls dx x → W cls dx σ H'
def tG {α β : Type} (ok : OkR α β) (W : WX) (g : M α) : St → Hp → (β → Hp → Prop) → Prop := fun σ H Q =>
  ∃ C F env, Rel K C F σ H env ∧ After K mg ok W C F σ (g env) Q
end
abbrev SG {α : Type} (X : Cx) (ok : OkR α V) (W : WX) (e : Expr) (g : M α) : Prop := PE X e (tG X.K X.mg ok W g)
abbrev SV (X : Cx) (W : WX) (e : Expr) (g : M PyData) : Prop := PE X e (tG X.K X.mg (okV X.K) W g)
abbrev SO (X : Cx) (W : WX) (e : Expr) (g : M (List PyData)) : Prop := PE X e (tG X.K X.mg (okO X.K) W g)
abbrev ST (X : Cx) (W : WX) (e : Expr) (g : M Bool) : Prop := PT X e (tG X.K X.mg okB W g)
abbrev SW (X : Cx) (W : WX) (e : Expr) (g : M Bool) : Prop := PW X e (tG X.K X.mg okB W g)
abbrev SA (X : Cx) (W : WX) (es : List Expr) (g : M (List PyData)) : Prop := PA X es (tG X.K X.mg (okA X.K) W g)
section
variable {X : Cx} {t t' : TE} {u u' : TT} {a a' : TA} {e : Expr} {es : List Expr}
theorem pe_imp (h : PE X e t) (k : ∀ σ H Q, t' σ H Q → t σ H Q) : PE X e t' := ⟨fun pins s σ H Q I q => h.run pins s σ H Q I (k σ H Q q)⟩
theorem pt_imp (h : PT X e u) (k : ∀ σ H Q, u' σ H Q → u σ H Q) : PT X e u' := ⟨fun pins s σ H Q I q => h.run pins s σ H Q I (k σ H Q q)⟩
theorem pw_imp (h : PW X e u) (k : ∀ σ H Q, u' σ H Q → u σ H Q) : PW X e u' := ⟨fun wh pins s σ H Q I q => h.run wh pins s σ H Q I (k σ H Q q)⟩
theorem pa_imp (h : PA X es a) (k : ∀ σ H Q, a' σ H Q → a σ H Q) : PA X es a' := ⟨fun pos pins s σ H Q I q => h.run pos pins s σ H Q I (k σ H Q q)⟩
end
section
variable {K : PySem.W.Frag} {mg : Str → Option Value} {W : WX} {σ : St} {H : Hp} {C : Cn} {F F' : Hp} {env : En} {α β γ δ : Type} {ok : OkR α β} {ok' : OkR γ δ}
theorem After.up {r : Rs α} {Q : β → Hp → Prop} (h : After K mg ok W C F σ r Q) (e : Ex F F') : After K mg ok W C F' σ r Q := by
  cases r with
  | none => exact h
  | some r =>
    cases r with
    | error x => obtain ⟨x, env'⟩ := x; exact fun F2 H2 cls dx R e2 => h F2 H2 cls dx R (e.trans e2)
    | ok y => obtain ⟨y, env'⟩ := y; exact fun b F2 H2 R e2 => h b F2 H2 R (e.trans e2)
theorem tG_bd' {C' : Cn} {g : M α} {f : α → M γ} {Q : δ → Hp → Prop} {Q1 : β → Hp → Prop} (R : Rel K C' F σ H env) (back : ∀ F' H' env', Rel K C' F' σ H' env' → Rel K C F' σ H' env')
    (h : After K mg ok' W C F σ (M.bd g f env) Q)
    (k : ∀ d env' b F' H', Rel K C' F' σ H' env' → Ex F F' → ok C' F' σ H' env' d b → After K mg ok' W C F' σ (f d env') Q → Q1 b H') : tG K mg ok W g σ H Q1 := by
  refine ⟨C', F, env, R, ?_⟩
  unfold M.bd at h
  cases q : g env with
  | none => rw [q] at h; exact h
  | some r =>
    rw [q] at h
    cases r with
    | error x => obtain ⟨x, env'⟩ := x; exact fun F' H' cls dx R' => h F' H' cls dx (back _ _ _ R')
    | ok y =>
      obtain ⟨d, env'⟩ := y
      exact fun b F' H' R' e o => k d env' b F' H' R' e o (After.up h e)
theorem tG_bd {g : M α} {f : α → M γ} {Q : δ → Hp → Prop} {Q1 : β → Hp → Prop} (R : Rel K C F σ H env) (h : After K mg ok' W C F σ (M.bd g f env) Q)
    (k : ∀ d env' b F' H', Rel K C F' σ H' env' → Ex F F' → ok C F' σ H' env' d b → After K mg ok' W C F' σ (f d env') Q → Q1 b H') : tG K mg ok W g σ H Q1 :=
  tG_bd' R (fun _ _ _ r => r) h k
theorem aft {a : α} {Q : β → Hp → Prop} {b : β} (h : After K mg ok W C F σ (M.ok a env) Q) (R : Rel K C F σ H env) (o : ok C F σ H env a b) : Q b H := h b F H R (Ex.refl F) o
theorem aft' {a : α} {H' : Hp} {Q : β → Hp → Prop} {b : β} (h : After K mg ok W C F σ (M.ok a env) Q) (R : Rel K C F' σ H' env) (e : Ex F F') (o : ok C F' σ H' env a b) : Q b H' := h b F' H' R e o
theorem After.of_opt {o : Option α} {Q : β → Hp → Prop} (h : After K mg ok W C F σ (M.opt o env) Q) : ∃ a, o = some a ∧ After K mg ok W C F σ (M.ok a env) Q := by
  cases o with
  | none => exact h.elim
  | some a => exact ⟨a, rfl, h⟩
end
def gC (d : PyData) : M PyData := M.ok d
def gN (i : Nat) : M PyData := fun env => match env[i]? with
  | some (.val d) => some (.ok (d, env))
  | some (.own ds) => some (.ok (.list ds, env.set i (.val (.list ds))))
  | _ => none
def gNO (i : Nat) : M (List PyData) := fun env => match env[i]? with
  | some (.own ds) => some (.ok (ds, env.set i .no))
  | _ => none
section
variable {K : PySem.W.Frag} {C : Cn} {F : Hp} {σ : St} {H : Hp} {env : En} {i : Nat} {p : Addr} {s : Sl}
theorem set_at {l : En} {i j : Nat} {s s' : Sl} (h : (l.set i s)[j]? = some s') : (j = i ∧ s' = s ∧ i < l.length) ∨ (j ≠ i ∧ l[j]? = some s') := by
  by_cases e : j = i
  · subst e
    by_cases q : j < l.length
    · rw [List.getElem?_set_self q] at h; exact .inl ⟨rfl, (Option.some.inj h).symm, q⟩
    · rw [List.getElem?_eq_none (by simpa using q)] at h; cases h
  · rw [List.getElem?_set_ne (Ne.symm e)] at h; exact .inr ⟨e, h⟩
theorem Rel.slot (r : Rel K C F σ H env) (s : Sl) (hs : isOwn s = false) (ok : SlOk K C F H σ[i]? s) : Rel K C F σ H (env.set i s) where
  fh := r.fh
  cf := r.cf
  new := r.new
  pres := r.pres
  bd := r.bd
  sl := fun j s' h => by
    rcases set_at h with ⟨rfl, rfl, _⟩ | ⟨ne, h⟩
    · exact ok
    · exact r.sl j s' h
  dis := fun j k q h1 h2 => by
    obtain ⟨s1, e1, o1, a1⟩ := h1
    obtain ⟨s2, e2, o2, a2⟩ := h2
    rcases set_at e1 with ⟨rfl, rfl, _⟩ | ⟨ne1, e1⟩
    · rw [hs] at o1; cases o1
    · rcases set_at e2 with ⟨rfl, rfl, _⟩ | ⟨ne2, e2⟩
      · rw [hs] at o2; cases o2
      · exact r.dis j k q ⟨s1, e1, o1, a1⟩ ⟨s2, e2, o2, a2⟩
  len := by rw [List.length_set]; exact r.len
  tb := r.tb
  nt := r.nt
theorem Rel.freeze {ds : List PyData} (r : Rel K C F σ H env) (h : env[i]? = some (.own ds)) :
    ∃ p vs, σ[i]? = some (some (.ref p)) ∧ Ex F (upd F p (.lst vs)) ∧ Dp K (upd F p (.lst vs)) (.ref p) (.list ds) ∧ Rel K C (upd F p (.lst vs)) σ H (env.set i (.val (.list ds))) := by
  obtain ⟨p, vs, h1, h2, h3, h4, h5⟩ := r.sl i _ h
  have ex : Ex F (upd F p (.lst vs)) := Ex.new h2
  have dp : Dp K (upd F p (.lst vs)) (.ref p) (.list ds) := .lst (SqL.of upd_same) (dps_mono ex h5)
  refine ⟨p, vs, h1, ex, dp, ?_⟩
  have nb : ∀ j, j ≠ i → ¬ Owned σ env j p := fun j ne o => ne (r.dis j i p o ⟨_, h, rfl, h1⟩)
  exact {
    fh := fun a o q => by
      by_cases ha : a = p
      · subst ha; rw [upd_same] at q; cases q; exact h4
      · rw [upd_ne ha] at q; exact r.fh a o q
    cf := r.cf.trans ex
    new := fun a q1 q2 => by
      by_cases ha : a = p
      · subst ha; exact h3
      · rw [upd_ne ha] at q2; exact r.new a q1 q2
    pres := r.pres
    bd := r.bd
    sl := fun j s hj => by
      rcases set_at hj with ⟨rfl, rfl, _⟩ | ⟨ne, hj⟩
      · exact ⟨_, h1, dp⟩
      · have q := r.sl j s hj
        cases s with
        | no => trivial
        | val d => obtain ⟨v, a1, a2⟩ := q; exact ⟨v, a1, dp_mono ex a2⟩
        | own es =>
          obtain ⟨p', ws, a1, a2, a3, a4, a5⟩ := q
          have np : p' ≠ p := fun e => nb j ne ⟨_, hj, rfl, by rw [← e]; exact a1⟩
          exact ⟨p', ws, a1, by rw [upd_ne np]; exact a2, a3, a4, dps_mono ex a5⟩
        | bor es =>
          obtain ⟨p', ws, a1, a2, a3, a4, a5⟩ := q
          have np : p' ≠ p := fun e => nb j ne ⟨_, hj, rfl, by rw [← e]; exact a1⟩
          exact ⟨p', ws, a1, by rw [upd_ne np]; exact a2, a3, a4, dps_mono ex a5⟩
        | obj ob =>
          obtain ⟨p', a1, a2, a3, a4⟩ := q
          have np : p' ≠ p := fun e => nb j ne ⟨_, hj, rfl, by rw [← e]; exact a1⟩
          exact ⟨p', a1, by rw [upd_ne np]; exact a2, a3, a4⟩
        | raw v => exact q
        | exc a dd fs => obtain ⟨z1, z2, z3, z4⟩ := q; exact ⟨z1, z2, ex _ _ z3, fs_mono ex z4⟩
        | tab T => exact q
    dis := fun j k q o1 o2 => by
      obtain ⟨s1, e1, o1, a1⟩ := o1
      obtain ⟨s2, e2, o2, a2⟩ := o2
      rcases set_at e1 with ⟨rfl, rfl, _⟩ | ⟨ne1, e1⟩
      · cases o1
      · rcases set_at e2 with ⟨rfl, rfl, _⟩ | ⟨ne2, e2⟩
        · cases o2
        · exact r.dis j k q ⟨s1, e1, o1, a1⟩ ⟨s2, e2, o2, a2⟩
    len := by rw [List.length_set]; exact r.len
    tb := r.tb
    nt := r.nt.upd (by trivial) }
end
section
variable {X : Cx} {W : WX}
theorem sv_n {x : Str} {pos : Pos} (i : Nat) (hN : X.N[i]? = some x := by rfl) (hv : Vis X.env.scope x := by first | exact Or.inl rfl | exact Or.inr (Or.inl rfl) | exact Or.inr (Or.inr rfl))
    (hd : (x == ("__debug__" : Str)) = false := by decide) (hcd : (x == ("__classdict__" : Str)) = false := by decide) : SV X W (.Name x pos) (gN i) :=
  pe_imp (pe_var hN hv hd hcd) fun σ H Q ⟨C, F, env, R, h⟩ => by
    unfold gN at h
    cases q : env[i]? with
    | none => rw [q] at h; exact h.elim
    | some s =>
      rw [q] at h
      cases s with
      | no => exact h.elim
      | val d =>
        obtain ⟨v, a1, a2⟩ := R.sl i _ q
        exact ⟨v, a1, h v F H R (Ex.refl F) a2⟩
      | own ds =>
        obtain ⟨p, vs, a1, ex, dp, R'⟩ := R.freeze q
        exact ⟨.ref p, a1, h _ _ H R' ex dp⟩
      | bor ds => exact h.elim
      | obj ob => exact h.elim
      | raw v => exact h.elim
      | exc a dd fs => exact h.elim
      | tab T => exact h.elim
theorem so_n {x : Str} {pos : Pos} (i : Nat) (hN : X.N[i]? = some x := by rfl) (hv : Vis X.env.scope x := by first | exact Or.inl rfl | exact Or.inr (Or.inl rfl) | exact Or.inr (Or.inr rfl))
    (hd : (x == ("__debug__" : Str)) = false := by decide) (hcd : (x == ("__classdict__" : Str)) = false := by decide) : SO X W (.Name x pos) (gNO i) :=
  pe_imp (pe_var hN hv hd hcd) fun σ H Q ⟨C, F, env, R, h⟩ => by
    unfold gNO at h
    cases q : env[i]? with
    | none => rw [q] at h; exact h.elim
    | some s =>
      rw [q] at h
      cases s with
      | own ds =>
        obtain ⟨p, vs, a1, a2, a3, a4, a5⟩ := R.sl i _ q
        refine ⟨.ref p, a1, h _ F H (R.slot (i := i) .no rfl trivial) (Ex.refl F) ⟨p, vs, rfl, a2, a3, a4, a5, fun j o => ?_⟩⟩
        obtain ⟨s, e1, o1, b1⟩ := o
        rcases set_at e1 with ⟨rfl, rfl, _⟩ | ⟨ne, e1⟩
        · cases o1
        · exact ne (R.dis j i p ⟨s, e1, o1, b1⟩ ⟨_, q, rfl, a1⟩)
      | _ => exact h.elim
theorem sv_int {i : Int} {j pos} : SV X W (.Constant (.int i) j pos) (gC (.int i)) := pe_imp pe_int fun _ _ _ ⟨_, _, _, R, h⟩ => h _ _ _ R (Ex.refl _) (.int i)
theorem sv_str {x : Str} {j pos} : SV X W (.Constant (.str x) j pos) (gC (.str x)) := pe_imp pe_str fun _ _ _ ⟨_, _, _, R, h⟩ => h _ _ _ R (Ex.refl _) (.str x)
theorem sv_bl {b : Bool} {j pos} : SV X W (.Constant (.bool b) j pos) (gC (.bool b)) := pe_imp pe_bl fun _ _ _ ⟨_, _, _, R, h⟩ => h _ _ _ R (Ex.refl _) (.bl b)
theorem sv_non {j pos} : SV X W (.Constant .none j pos) (gC .none) := pe_imp pe_non fun _ _ _ ⟨_, _, _, R, h⟩ => h _ _ _ R (Ex.refl _) .non
end
end Pf
/-! part Pf3 -/
set_option Elab.async false
set_option linter.all false
set_option maxRecDepth 100000
set_option maxHeartbeats 2000000
namespace Pf
open PySem PySem.Spec L2 Evl
def seqD : PyData → Option (List PyData)
  | .list ds => some ds
  | .tuple ds => some ds
  | _ => none
def addD : PyData → PyData → Option PyData
  | .int a, .int b => some (.int (a + b))
  | .str a, .str b => if a.length + b.length ≤ sizeLine then some (.str (a ++ b)) else none
  | .tuple xs, .tuple ys => if xs.length + ys.length ≤ sizeLine then some (.tuple (xs ++ ys)) else none
  | .list xs, .list ys => if xs.length + ys.length ≤ sizeLine then some (.list (xs ++ ys)) else none
  | _, _ => none
def subD : PyData → PyData → Option PyData
  | .int a, .int b => some (.int (a - b))
  | _, _ => none
def mulD : PyData → PyData → Option PyData
  | .int a, .int b => if (-(2 ^ 64) < a ∧ a < 2 ^ 64) ∨ (-(2 ^ 64) < b ∧ b < 2 ^ 64) then some (.int (a * b)) else none
  | _, _ => none
def modD : PyData → PyData → Option PyData
  | .int a, .int b => if b = 0 then none else some (.int (a.fmod b))
  | _, _ => none
def divD : PyData → PyData → Option PyData
  | .int a, .int b => if b ≠ 0 ∧ b.natAbs < 1073741824 then some (.int (a.fdiv b)) else none
  | _, _ => none
def powD : PyData → PyData → Option PyData
  | .int a, .int b => if 0 ≤ b ∧ b ≤ 1000000 ∧ a.natAbs < 2 ^ 64 then some (.int (a ^ b.toNat)) else none
  | _, _ => none
def negD : PyData → Option PyData
  | .int a => some (.int (-a))
  | _ => none
def flatD : PyData → Bool
  | .none => true
  | .bool _ => true
  | .int _ => true
  | .str _ => true
  | _ => false
def cmpD (p : Int → Int → Bool) : PyData → PyData → Option Bool
  | .int a, .int b => some (p a b)
  | _, _ => none
def eqD (a b : PyData) : Option Bool := if SeqAt.shaped a = true ∧ SeqAt.shaped b = true then some (PyData.eqv a b) else none
def neD (a b : PyData) : Option Bool := if SeqAt.shaped a = true ∧ SeqAt.shaped b = true then some (!PyData.eqv a b) else none
def inD (x ys : PyData) : Option Bool := match seqD ys with
  | some ys => if flatD x = true ∧ ys.all flatD = true then some (ys.any fun y => PyData.eqv y x) else none
  | none => none
def isNoneD : PyData → Bool
  | .none => true
  | _ => false
def tyD : PyData → String
  | .none => "NoneType"
  | .bool _ => "bool"
  | .int _ => "int"
  | .str _ => "str"
  | .list _ => "list"
  | .tuple _ => "tuple"
  | .dict _ => "dict"
def truD : PyData → Option Bool
  | .none => some false
  | .bool b => some b
  | .int i => some (i != 0)
  | .str y => if y.length ≤ sizeLine then some ((y.length : Int) != 0) else none
  | .list xs => some (!xs.isEmpty)
  | .tuple xs => some (!xs.isEmpty)
  | .dict _ => none
def atD : PyData → PyData → Option PyData
  | .list xs, .int i => atI xs i
  | .tuple xs, .int i => atI xs i
  | .str z, .int i => if z.length ≤ sizeLine then (atI z.cps.toList i).map fun c => .str ⟨#[c]⟩ else none
  | _, _ => none
def lenD : PyData → Option PyData
  | .list xs => some (.int xs.length)
  | .tuple xs => some (.int xs.length)
  | .str z => if z.length ≤ sizeLine then some (.int z.length) else none
  | _ => none
def cutD (ds : List PyData) (lo hi : Option Int) : List PyData := (ds.drop (HT.sIx ds.length 0 lo)).take (HT.sIx ds.length ds.length hi - HT.sIx ds.length 0 lo)
section
variable {K : PySem.W.Frag} {F H : Hp} {v w : V} {d e : PyData}
theorem dp_flat (h : Dp K H v d) (f : flatD d = true) : flatV v = true := by
  cases h <;> first | rfl | cases f
theorem dps_flat : ∀ {vs : List V} {ds : List PyData}, DpAll K H vs ds → ds.all flatD = true → vs.all flatV = true
  | _, _, .nil, _ => rfl
  | _, _, .cons a r, f => by
    simp only [List.all_cons, Bool.and_eq_true] at f ⊢
    exact ⟨dp_flat a f.1, dps_flat r f.2⟩
theorem eqV_of (h : Dp K H v d) (h' : Dp K H w e) (f : flatD d = true) (f' : flatD e = true) : eqV v w = PyData.eqv d e := by
  cases h <;> cases h' <;> first | rfl | cases f | cases f' | (simp only [eqV, PyData.eqv])
theorem any_of (h' : Dp K H w e) (f' : flatD e = true) : ∀ {vs : List V} {ds : List PyData}, DpAll K H vs ds → ds.all flatD = true → inV w vs = ds.any fun y => PyData.eqv y e
  | _, _, .nil, _ => rfl
  | _, _, .cons a r, f => by
    simp only [List.all_cons, Bool.and_eq_true] at f
    unfold inV
    rw [List.any_cons, List.any_cons, eqV_of a h' f.1 f']
    have := any_of h' f' r f.2
    unfold inV at this
    rw [this]
theorem dp_seq {ds : List PyData} (h : Dp K H v d) (s : seqD d = some ds) : ∃ p vs, v = .ref p ∧ (SqL K H p vs ∨ SqT K H p vs) ∧ DpAll K H vs ds := by
  cases h with
  | lst a b => cases s; exact ⟨_, _, rfl, .inl a, b⟩
  | tup a b => cases s; exact ⟨_, _, rfl, .inr a, b⟩
  | _ => cases s
theorem atI_dps {vs : List V} {ds : List PyData} {i : Int} (h : DpAll K H vs ds) (e : atI ds i = some d) : ∃ v, atI vs i = some v ∧ Dp K H v d := by
  unfold atI at e ⊢
  rw [h.len]
  cases q : ixN ds.length i with
  | none => rw [q] at e; cases e
  | some j =>
    rw [q] at e
    exact h.get e
theorem cut_dps {vs : List V} {ds : List PyData} (lo hi : Option Int) (h : DpAll K H vs ds) : DpAll K H (cutV vs lo hi) (cutD ds lo hi) := by
  unfold cutV cutD
  rw [h.len]
  exact (h.drop _).take _
end
section
variable {X : Cx} {W : WX} {a b c : Expr} {ga gb : M PyData} {pos : Pos} {α : Type}
theorem sg_op {op : Operator} {r : R2} {ok : OkR α V} {f : PyData → PyData → M α} (ho : OpR X (binaryOp op) r) (ha : SV X W a ga) (hb : SV X W b gb)
    (hr : ∀ C F σ H env v w d e Q, Rel X.K C F σ H env → Dp X.K F v d → Dp X.K F w e → After X.K X.mg ok W C F σ (f d e env) Q → r v w H Q) :
    SG X ok W (.BinOp a op b pos) (M.bd ga fun d => M.bd gb fun e => f d e) :=
  pe_imp (pe_op ho ha hb) fun σ H Q ⟨C, F, env, R, h⟩ =>
    tG_bd R h fun d env1 v F1 H1 R1 e1 o1 h1 => tG_bd R1 h1 fun e env2 w F2 H2 R2 e2 o2 h2 => hr C F2 σ H2 env2 v w d e Q R2 (dp_mono e2 o1) o2 h2
theorem sv_add (ha : SV X W a ga) (hb : SV X W b gb) : SV X W (.BinOp a .Add b pos) (M.bd ga fun d => M.bd gb fun e => M.opt (addD d e)) :=
  sg_op (op_add.or (op_add_str.or (op_catF.or op_catL))) ha hb fun C F σ H env v w d e Q R hv hw h => by
    obtain ⟨z, hz, h⟩ := h.of_opt
    unfold addD at hz
    split at hz
    · cases hv; cases hw; cases hz
      exact .inl ⟨_, _, rfl, rfl, aft h R (.int _)⟩
    · split at hz
      · rename_i hl
        cases hv; cases hw; cases hz
        exact .inr (.inl ⟨_, _, rfl, rfl, hl, aft h R (.str _)⟩)
      · cases hz
    · split at hz
      · rename_i xs ys hl
        cases hv with
        | tup s1 r1 =>
          cases hw with
          | tup s2 r2 =>
            cases hz
            have l1 := r1.len
            have l2 := r2.len
            refine .inr (.inr (.inl ⟨_, _, _, _, rfl, rfl, ex_t R.fh s1, ex_t R.fh s2, by omega, fun e1 => ?_, fun _ e2 => ?_, fun _ _ p ob hob hp => ?_⟩))
            · subst e1
              cases r1
              exact aft h R (.tup s2 r2)
            · subst e2
              cases r2
              simp only [List.append_nil] at h
              exact aft h R (.tup s1 r1)
            · have hf := (R.fresh hp).1
              exact aft' h (R.newF hp hob) (Ex.new hf) (.tup (.inl (.inr ⟨ob, upd_same⟩)) (dps_mono (Ex.new hf) (r1.app r2)))
      · cases hz
    · split at hz
      · rename_i xs ys hl
        cases hv with
        | lst s1 r1 =>
          cases hw with
          | lst s2 r2 =>
            cases hz
            have l1 := r1.len
            have l2 := r2.len
            refine .inr (.inr (.inr ⟨_, _, _, _, rfl, rfl, ex_l R.fh s1, ex_l R.fh s2, by omega, fun p hp => ?_⟩))
            have hf := (R.fresh hp).1
            exact aft' h (R.newF hp) (Ex.new hf) (.lst (SqL.of upd_same) (dps_mono (Ex.new hf) (r1.app r2)))
      · cases hz
    · cases hz
theorem sv_ints {op : Operator} {Cc : Int → Int → Prop} {g : Int → Int → Int} {f : PyData → PyData → Option PyData} (ho : OpR X (binaryOp op) (rI Cc fun i j => .int (g i j)))
    (hf : ∀ d e z, f d e = some z → ∃ i j, d = .int i ∧ e = .int j ∧ Cc i j ∧ z = .int (g i j)) (ha : SV X W a ga) (hb : SV X W b gb) :
    SV X W (.BinOp a op b pos) (M.bd ga fun d => M.bd gb fun e => M.opt (f d e)) :=
  sg_op ho ha hb fun C F σ H env v w d e Q R hv hw h => by
    obtain ⟨z, hz, h⟩ := h.of_opt
    obtain ⟨i, j, rfl, rfl, hc, rfl⟩ := hf d e z hz
    cases hv; cases hw
    exact ⟨_, _, rfl, rfl, hc, aft h R (.int _)⟩
theorem op_subC : OpR X (binaryOp .Sub) (rI (fun _ _ => True) fun i j => .int (i - j)) := fun pins s σ H x y v u Q I r1 r2 ⟨i, j, e1, e2, _, q⟩ => op_sub pins s σ H x y v u Q I r1 r2 ⟨i, j, e1, e2, q⟩
theorem sv_sub (ha : SV X W a ga) (hb : SV X W b gb) : SV X W (.BinOp a .Sub b pos) (M.bd ga fun d => M.bd gb fun e => M.opt (subD d e)) :=
  sv_ints op_subC (fun d e z h => by unfold subD at h; split at h <;> cases h; exact ⟨_, _, rfl, rfl, trivial, rfl⟩) ha hb
theorem sv_mul (ha : SV X W a ga) (hb : SV X W b gb) : SV X W (.BinOp a .Mult b pos) (M.bd ga fun d => M.bd gb fun e => M.opt (mulD d e)) :=
  sv_ints op_mul (fun d e z h => by
    unfold mulD at h
    split at h
    · split at h
      · rename_i hc; cases h; exact ⟨_, _, rfl, rfl, hc, rfl⟩
      · cases h
    · cases h) ha hb
theorem sv_mod (ha : SV X W a ga) (hb : SV X W b gb) : SV X W (.BinOp a .Mod b pos) (M.bd ga fun d => M.bd gb fun e => M.opt (modD d e)) :=
  sv_ints op_modN (fun d e z h => by
    unfold modD at h
    split at h
    · split at h
      · cases h
      · rename_i hc; cases h; exact ⟨_, _, rfl, rfl, hc, rfl⟩
    · cases h) ha hb
theorem sv_div (ha : SV X W a ga) (hb : SV X W b gb) : SV X W (.BinOp a .FloorDiv b pos) (M.bd ga fun d => M.bd gb fun e => M.opt (divD d e)) :=
  sv_ints op_fdivN (fun d e z h => by
    unfold divD at h
    split at h
    · split at h
      · rename_i hc; cases h; exact ⟨_, _, rfl, rfl, hc, rfl⟩
      · cases h
    · cases h) ha hb
theorem sv_pow (ha : SV X W a ga) (hb : SV X W b gb) : SV X W (.BinOp a .Pow b pos) (M.bd ga fun d => M.bd gb fun e => M.opt (powD d e)) :=
  sv_ints op_pow (fun d e z h => by
    unfold powD at h
    split at h
    · split at h
      · rename_i hc; cases h; exact ⟨_, _, rfl, rfl, hc, rfl⟩
      · cases h
    · cases h) ha hb
theorem sv_neg (ha : SV X W a ga) : SV X W (.UnaryOp .USub a pos) (M.bd ga fun d => M.opt (negD d)) :=
  pe_imp (pe_un un_neg ha) fun σ H Q ⟨C, F, env, R, h⟩ => tG_bd R h fun d env1 v F1 H1 R1 e1 o1 h1 => by
    obtain ⟨z, hz, h1⟩ := h1.of_opt
    unfold negD at hz
    split at hz <;> cases hz
    cases o1
    exact ⟨_, rfl, aft h1 R1 (.int _)⟩
def CmpR (X : Cx) (op : CmpOp) (f : PyData → PyData → Option Bool) : Prop := ∃ r : R2, OpR X (compareOp op) r ∧
  ∀ C F σ H env v w d e b Q, Rel X.K C F σ H env → Dp X.K F v d → Dp X.K F w e → f d e = some b → Q (.bl b) H → r v w H Q
theorem cm_ints {op : CmpOp} {p : Int → Int → Bool} (ho : OpR X (compareOp op) (rI0 fun i j => .bl (p i j))) : CmpR X op (cmpD p) :=
  ⟨_, ho, fun C F σ H env v w d e b Q R hv hw h q => by
    unfold cmpD at h
    split at h <;> cases h
    cases hv; cases hw
    exact ⟨_, _, rfl, rfl, q⟩⟩
theorem cm_lt : CmpR X .Lt (cmpD fun i j => decide (i < j)) := cm_ints op_lt
theorem cm_le : CmpR X .LtE (cmpD fun i j => decide (i ≤ j)) := cm_ints op_le
theorem cm_gt : CmpR X .Gt (cmpD fun i j => decide (j < i)) := cm_ints op_gt
theorem cm_ge : CmpR X .GtE (cmpD fun i j => decide (j ≤ i)) := cm_ints op_ge
theorem cm_eq (hu : X.A.units + 64 < cLine) : CmpR X .Eq eqD :=
  ⟨_, op_eqD hu, fun C F σ H env v w d e b Q R hv hw h q => by
    unfold eqD at h
    split at h
    · rename_i hs; cases h
      exact ⟨d, e, dp_mono R.fh hv, dp_mono R.fh hw, hs.1, hs.2, q⟩
    · cases h⟩
theorem cm_ne (hu : X.A.units + 64 < cLine) : CmpR X .NotEq neD :=
  ⟨_, op_neD hu, fun C F σ H env v w d e b Q R hv hw h q => by
    unfold neD at h
    split at h
    · rename_i hs; cases h
      exact ⟨d, e, dp_mono R.fh hv, dp_mono R.fh hw, hs.1, hs.2, q⟩
    · cases h⟩
theorem in_facts {K : PySem.W.Frag} {H : Hp} {v w : V} {d e : PyData} {b : Bool} (hv : Dp K H v d) (hw : Dp K H w e) (h : inD d e = some b) :
    ∃ p xs, w = .ref p ∧ (SqL K H p xs ∨ SqT K H p xs) ∧ flatV v = true ∧ xs.all flatV = true ∧ inV v xs = b := by
  unfold inD at h
  split at h
  · rename_i ys hs
    split at h
    · rename_i hf
      cases h
      obtain ⟨p, vs, rfl, hq, hr⟩ := dp_seq hw hs
      exact ⟨p, vs, rfl, hq, dp_flat hv hf.1, dps_flat hr hf.2, any_of hv hf.1 hr hf.2⟩
    · cases h
  · cases h
theorem cm_in : CmpR X .In inD :=
  ⟨_, op_in_seq, fun C F σ H env v w d e b Q R hv hw h q => by
    obtain ⟨p, xs, rfl, h1, h2, h3, rfl⟩ := in_facts (dp_mono R.fh hv) (dp_mono R.fh hw) h
    exact ⟨p, xs, rfl, h1, h2, h3, q⟩⟩
def isD (d e : PyData) : Option Bool := match e with
  | .none => some (isNoneD d)
  | _ => none
def isnD (d e : PyData) : Option Bool := match e with
  | .none => some (!isNoneD d)
  | _ => none
theorem dp_none {K : PySem.W.Frag} {H : Hp} {v : V} {d : PyData} (h : Dp K H v d) : decide (v = .non) = isNoneD d := by
  cases h <;> simp [isNoneD]
theorem cm_is : CmpR X .Is isD :=
  ⟨_, op_isN, fun C F σ H env v w d e b Q R hv hw h q => by
    unfold isD at h
    split at h <;> cases h
    cases hw
    exact ⟨rfl, by rw [dp_none hv]; exact q⟩⟩
theorem cm_isn : CmpR X .IsNot isnD :=
  ⟨_, op_notN, fun C F σ H env v w d e b Q R hv hw h q => by
    unfold isnD at h
    split at h <;> cases h
    cases hw
    exact ⟨rfl, by rw [dp_none hv]; exact q⟩⟩
theorem sv_cmp {op : CmpOp} {f : PyData → PyData → Option Bool} (hc : CmpR X op f) (ha : SV X W a ga) (hb : SV X W b gb) (hm : behindInMarks op b = false := by rfl) :
    SV X W (.Compare a [op] [b] pos) (M.bd ga fun d => M.bd gb fun e => M.opt ((f d e).map .bool)) := by
  obtain ⟨r, ho, hr⟩ := hc
  refine pe_imp (pe_cmpR ho ha hb hm) fun σ H Q ⟨C, F, env, R, h⟩ => ?_
  refine tG_bd R h fun d env1 v F1 H1 R1 e1 o1 h1 => tG_bd R1 h1 fun e env2 w F2 H2 R2 e2 o2 h2 => ?_
  obtain ⟨z, hz, h2⟩ := h2.of_opt
  cases hb : f d e with
  | none => rw [hb] at hz; cases hz
  | some k => rw [hb] at hz; cases hz; exact hr C F2 σ H2 env2 v w d e k Q R2 (dp_mono e2 o1) o2 hb (aft h2 R2 (.bl k))
theorem st_cmp {op : CmpOp} {f : PyData → PyData → Option Bool} (hc : CmpR X op f) (ha : SV X W a ga) (hb : SV X W b gb) (hm : behindInMarks op b = false := by rfl) :
    ST X W (.Compare a [op] [b] pos) (M.bd ga fun d => M.bd gb fun e => M.opt (f d e)) := by
  obtain ⟨r, ho, hr⟩ := hc
  refine pt_imp (pt_cmpR ho ha hb hm) fun σ H Q ⟨C, F, env, R, h⟩ => ?_
  refine tG_bd R h fun d env1 v F1 H1 R1 e1 o1 h1 => tG_bd R1 h1 fun e env2 w F2 H2 R2 e2 o2 h2 => ?_
  obtain ⟨k, hb, h2⟩ := h2.of_opt
  exact hr C F2 σ H2 env2 v w d e k _ R2 (dp_mono e2 o1) o2 hb ⟨k, rfl, aft h2 R2 rfl⟩
end
end Pf
/-! part Pf4 -/
set_option Elab.async false
set_option linter.all false
set_option maxRecDepth 100000
set_option maxHeartbeats 2000000
namespace Pf
open PySem PySem.Spec L2 Evl
section
variable {X : Cx} {W : WX} {a b c e : Expr} {es rest : List Expr} {ga gb gc : M PyData} {gt : M Bool} {gl : M (List PyData)} {pos : Pos} {α : Type}
theorem tru_of {K : PySem.W.Frag} {H : Hp} {v : V} {d : PyData} {k : Bool} (h : Dp K H v d) (e : truD d = some k) : TruV K v H k := by
  cases h with
  | non => cases e; rfl
  | bl b => cases e; rfl
  | int i => cases e; rfl
  | str x =>
    unfold truD at e
    split at e <;> first | cases e | skip
    all_goals first | (rename_i q; cases q; done) | skip
    split at e
    · rename_i z q hl
      cases e
      cases q
      exact ⟨hl, rfl⟩
    · cases e
  | lst a r => 
    have l := r.len
    cases e
    refine .inl ⟨_, a, ?_⟩
    cases r <;> rfl
  | tup a r =>
    cases e
    refine .inr (.inl ⟨_, a, ?_⟩)
    cases r <;> rfl
theorem st_val (h : SV X W a ga) (he : ∀ whole, isTrue a X.env whole = (do let v ← whole; standAt a.pos; holding [v] (truthy v)) := by intro _; rfl) :
    ST X W a (M.bd ga fun d => M.opt (truD d)) :=
  pt_imp (pt_truth h he) fun σ H Q ⟨C, F, env, R, h⟩ => tG_bd R h fun d env1 v F1 H1 R1 e1 o1 h1 => by
    obtain ⟨k, hk, h1⟩ := h1.of_opt
    exact ⟨k, tru_of (dp_mono R1.fh o1) hk, aft h1 R1 rfl⟩
theorem sv_glob {x : Str} {v : V} {u : Value} {d : PyData} (hm : X.mg x = some u) (r : RelV v u) (hd : ∀ F, Dp X.K F v d) (hg : Gl X x := by rfl) (hdb : (x == ("__debug__" : Str)) = false := by decide) : SV X W (.Name x pos) (gC d) :=
  pe_imp (pe_glob hg hm r hdb) fun σ H Q ⟨C, F, env, R, h⟩ => h _ F H R (Ex.refl F) (hd F)
theorem st_not {gt : M Bool} (h : ST X W a gt) : ST X W (.UnaryOp .Not a pos) (M.bd gt fun b => M.ok (!b)) :=
  pt_imp (pt_not h) fun σ H Q ⟨C, F, env, R, h⟩ => tG_bd R h fun d env1 v F1 H1 R1 e1 o1 h1 => by
    cases o1
    exact aft h1 R1 rfl
def gAndT (ga gb : M Bool) : M Bool := M.bd ga fun b => if b = true then gb else M.ok false
def gOrT (ga gb : M Bool) : M Bool := M.bd ga fun b => if b = true then M.ok true else gb
theorem sw_and1 {g : M Bool} (h : ST X W a g) : SW X W (.BoolOp .And [a] pos) g := pw_and1 h
theorem sw_or1 {g : M Bool} (h : ST X W a g) : SW X W (.BoolOp .Or [a] pos) g := pw_or1 h
theorem sw_and {g g' : M Bool} (h : ST X W a g) (h' : SW X W (.BoolOp .And (b :: rest) pos) g') : SW X W (.BoolOp .And (a :: b :: rest) pos) (gAndT g g') :=
  pw_imp (pw_and h h') fun σ H Q ⟨C, F, env, R, h⟩ => tG_bd R h fun d env1 v F1 H1 R1 e1 o1 h1 => by
    cases o1
    cases d with
    | true => exact ⟨C, F1, env1, R1, h1⟩
    | false => exact aft h1 R1 rfl
theorem sw_or {g g' : M Bool} (h : ST X W a g) (h' : SW X W (.BoolOp .Or (b :: rest) pos) g') : SW X W (.BoolOp .Or (a :: b :: rest) pos) (gOrT g g') :=
  pw_imp (pw_or h h') fun σ H Q ⟨C, F, env, R, h⟩ => tG_bd R h fun d env1 v F1 H1 R1 e1 o1 h1 => by
    cases o1
    cases d with
    | false => exact ⟨C, F1, env1, R1, h1⟩
    | true => exact aft h1 R1 rfl
theorem st_w {g : M Bool} (h : SW X W a g) : ST X W a g := h.pt
def gAnd (ga gb : M PyData) : M PyData := M.bd ga fun d => match truD d with
  | some true => gb
  | some false => M.ok d
  | none => M.no
def gOr (ga gb : M PyData) : M PyData := M.bd ga fun d => match truD d with
  | some true => M.ok d
  | some false => gb
  | none => M.no
theorem sv_one {op} (h : SV X W a ga) : SV X W (.BoolOp op [a] pos) ga := pe_one h
theorem sv_and (h : SV X W a ga) (h' : SV X W (.BoolOp .And (b :: rest) pos) gb) : SV X W (.BoolOp .And (a :: b :: rest) pos) (gAnd ga gb) :=
  pe_imp (pe_andT h h') fun σ H Q ⟨C, F, env, R, h⟩ => tG_bd R h fun d env1 v F1 H1 R1 e1 o1 h1 => by
    cases hd : truD d with
    | none => simp only [hd] at h1; exact h1.elim
    | some k =>
      refine ⟨k, tru_of (dp_mono R1.fh o1) hd, ?_⟩
      cases k with
      | true => simp only [hd] at h1; exact ⟨C, F1, env1, R1, h1⟩
      | false => simp only [hd] at h1; exact aft h1 R1 o1
theorem sv_or (h : SV X W a ga) (h' : SV X W (.BoolOp .Or (b :: rest) pos) gb) : SV X W (.BoolOp .Or (a :: b :: rest) pos) (gOr ga gb) :=
  pe_imp (pe_orT h h') fun σ H Q ⟨C, F, env, R, h⟩ => tG_bd R h fun d env1 v F1 H1 R1 e1 o1 h1 => by
    cases hd : truD d with
    | none => simp only [hd] at h1; exact h1.elim
    | some k =>
      refine ⟨k, tru_of (dp_mono R1.fh o1) hd, ?_⟩
      cases k with
      | false => simp only [hd] at h1; exact ⟨C, F1, env1, R1, h1⟩
      | true => simp only [hd] at h1; exact aft h1 R1 o1
theorem sv_not (h : SV X W a ga) : SV X W (.UnaryOp .Not a pos) (M.bd ga fun d => M.opt ((truD d).map fun b => .bool (!b))) :=
  pe_imp (pe_notT h) fun σ H Q ⟨C, F, env, R, h⟩ => tG_bd R h fun d env1 v F1 H1 R1 e1 o1 h1 => by
    obtain ⟨z, hz, h1⟩ := h1.of_opt
    cases hd : truD d with
    | none => rw [hd] at hz; cases hz
    | some k => rw [hd] at hz; cases hz; exact ⟨k, tru_of (dp_mono R1.fh o1) hd, aft h1 R1 (.bl _)⟩
def gIf {α : Type} (gt : M Bool) (ga gb : M α) : M α := M.bd gt fun b => if b = true then ga else gb
theorem sg_ifE {ok : OkR α V} {g1 g2 : M α} (ht : ST X W c gt) (ha : SG X ok W a g1) (hb : SG X ok W b g2) : SG X ok W (.IfExp c a b pos) (gIf gt g1 g2) :=
  pe_imp (pe_ifExp ht ha hb) fun σ H Q ⟨C, F, env, R, h⟩ => tG_bd R h fun d env1 v F1 H1 R1 e1 o1 h1 => by
    cases o1
    cases d with
    | true => exact ⟨C, F1, env1, R1, h1⟩
    | false => exact ⟨C, F1, env1, R1, h1⟩
def gChain (ga gb gc : M PyData) (f f' : PyData → PyData → Option Bool) : M PyData := M.bd ga fun d => M.bd gb fun e => M.bd (M.opt (f d e)) fun k =>
  if k = true then M.bd gc fun z => M.opt ((f' e z).map .bool) else M.ok (.bool false)
theorem bd_opt {K : PySem.W.Frag} {mg : Str → Option Value} {β γ δ : Type} {C : Cn} {F : Hp} {σ : St} {env : En} {ok : OkR γ δ} {o : Option β} {f : β → M γ} {Q : δ → Hp → Prop} (h : After K mg ok W C F σ (M.bd (M.opt o) f env) Q) : ∃ b, o = some b ∧ After K mg ok W C F σ (f b env) Q := by
  cases o with
  | none => exact h.elim
  | some b => exact ⟨b, rfl, h⟩
theorem sv_chain {op op' : CmpOp} {f f' : PyData → PyData → Option Bool} (h1 : CmpR X op f) (h2 : CmpR X op' f') (ha : SV X W a ga) (hb : SV X W b gb) (hc : SV X W c gc)
    (hm : lastMarks [op, op'] [b, c] = false := by with_unfolding_all rfl) : SV X W (.Compare a [op, op'] [b, c] pos) (gChain ga gb gc f f') := by
  obtain ⟨r, ho, hr⟩ := h1
  obtain ⟨r', ho', hr'⟩ := h2
  refine pe_imp (pe_chain ho ho' ha hb hc hm) fun σ H Q ⟨C, F, env, R, h⟩ => ?_
  refine tG_bd R h fun d env1 v F1 H1 R1 e1 o1 h1 => tG_bd R1 h1 fun e env2 w F2 H2 R2 e2 o2 h2 => ?_
  obtain ⟨k, hk, h2⟩ := bd_opt h2
  refine hr C F2 σ H2 env2 v w d e k _ R2 (dp_mono e2 o1) o2 hk ⟨k, rfl, ?_⟩
  cases k with
  | false => exact aft h2 R2 (.bl _)
  | true =>
    refine tG_bd R2 h2 fun z env3 x F3 H3 R3 e3 o3 h3 => ?_
    obtain ⟨q, hq, h3⟩ := h3.of_opt
    cases hb : f' e z with
    | none => rw [hb] at hq; cases hq
    | some k' => rw [hb] at hq; cases hq; exact hr' C F3 σ H3 env3 w x e z k' Q R3 (dp_mono e3 o2) o3 hb (aft h3 R3 (.bl _))
theorem sa_nil : SA X W [] (M.ok []) := pa_imp pa_nil fun σ H Q ⟨C, F, env, R, h⟩ => aft h R .nil
theorem sa_cons (ha : SV X W e ga) (hr : SA X W es gl) (hs : starEach (e :: es) X.env = (false, eval e X.env) :: starEach es X.env := by rfl) : SA X W (e :: es) (M.bd ga fun d => M.bd gl fun ds => M.ok (d :: ds)) :=
  pa_imp (pa_cons ha hr hs) fun σ H Q ⟨C, F, env, R, h⟩ => tG_bd R h fun d env1 v F1 H1 R1 e1 o1 h1 => tG_bd R1 h1 fun ds env2 vs F2 H2 R2 e2 o2 h2 =>
    aft h2 R2 (.cons (dp_mono e2 o1) o2)
def tupD (ds : List PyData) : Option PyData := if ds.length ≤ 1000 then some (.tuple ds) else none
def lstD (ds : List PyData) : Option (List PyData) := if ds.length ≤ 1000 then some ds else none
theorem sv_tup {x1} (h : SA X W es gl) : SV X W (.Tuple es x1 pos) (M.bd gl fun ds => M.opt (tupD ds)) :=
  pe_imp (pe_tupF h) fun σ H Q ⟨C, F, env, R, h⟩ => tG_bd R h fun ds env1 vs F1 H1 R1 e1 o1 h1 => by
    obtain ⟨z, hz, h1⟩ := h1.of_opt
    unfold tupD at hz
    split at hz
    · rename_i hl
      cases hz
      have o1 : DpAll X.K F1 vs ds := o1
      have l := o1.len
      refine ⟨Nat.le_of_lt (small1000 (by omega)), fun p ob hob hp => ?_⟩
      have hf := (R1.fresh hp).1
      exact aft' h1 (R1.newF hp hob) (Ex.new hf) (.tup (.inl (.inr ⟨ob, upd_same⟩)) (dps_mono (Ex.new hf) o1))
    · cases hz
theorem okO_new {K : PySem.W.Frag} {C : Cn} {F : Hp} {σ : St} {H : Hp} {env : En} {p : Addr} {vs : List V} {ds : List PyData} (R : Rel K C F σ H env) (hp : H p = none) (h : DpAll K F vs ds) : okO K C F σ (upd H p (.lst vs)) env ds (.ref p) :=
  ⟨p, vs, rfl, (R.fresh hp).1, (R.fresh hp).2, upd_same, h, fun i ⟨s, e1, e2, e3⟩ => by
    have q := R.sl i s e1
    cases s with
    | own es => obtain ⟨p', ws, a1, a2, a3, a4, a5⟩ := q; rw [e3] at a1; cases a1; rw [hp] at a4; cases a4
    | bor es => obtain ⟨p', ws, a1, a2, a3, a4, a5⟩ := q; rw [e3] at a1; cases a1; rw [hp] at a4; cases a4
    | obj ob => obtain ⟨p', a1, a2, a3, a4⟩ := q; rw [e3] at a1; cases a1; rw [hp] at a4; cases a4
    | _ => cases e2⟩
theorem so_lst (h : SA X W es gl) : SO X W (.List es pos) (M.bd gl fun ds => M.opt (lstD ds)) :=
  pe_imp (pe_lst h) fun σ H Q ⟨C, F, env, R, h⟩ => tG_bd R h fun ds env1 vs F1 H1 R1 e1 o1 h1 => by
    obtain ⟨z, hz, h1⟩ := h1.of_opt
    unfold lstD at hz
    split at hz
    · rename_i hl
      cases hz
      have o1 : DpAll X.K F1 vs ds := o1
      have l := o1.len
      exact ⟨Nat.le_of_lt (small1000 (by omega)), fun p hp => aft' h1 (R1.newH hp) (Ex.refl _) (okO_new R1 hp o1)⟩
    · cases hz
theorem Rel.freezeO {K : PySem.W.Frag} {C : Cn} {F : Hp} {σ : St} {H : Hp} {env : En} {ds : List PyData} {v : V} (R : Rel K C F σ H env) (o : okO K C F σ H env ds v) :
    ∃ p vs, v = .ref p ∧ Ex F (upd F p (.lst vs)) ∧ Rel K C (upd F p (.lst vs)) σ H env ∧ Dp K (upd F p (.lst vs)) v (.list ds) := by
  obtain ⟨p, vs, rfl, h1, h2, h3, h4, h5⟩ := o
  have ex : Ex F (upd F p (.lst vs)) := Ex.new h1
  refine ⟨p, vs, rfl, ex, ?_, .lst (SqL.of upd_same) (dps_mono ex h4)⟩
  exact {
    fh := fun a o q => by
      by_cases ha : a = p
      · subst ha; rw [upd_same] at q; cases q; exact h3
      · rw [upd_ne ha] at q; exact R.fh a o q
    cf := R.cf.trans ex
    new := fun a q1 q2 => by
      by_cases ha : a = p
      · subst ha; exact h2
      · rw [upd_ne ha] at q2; exact R.new a q1 q2
    pres := R.pres
    bd := R.bd
    sl := fun j s hj => by
      have q := R.sl j s hj
      cases s with
      | no => trivial
      | val d => obtain ⟨v, a1, a2⟩ := q; exact ⟨v, a1, dp_mono ex a2⟩
      | own es =>
        obtain ⟨p', ws, a1, a2, a3, a4, a5⟩ := q
        have np : p' ≠ p := fun e => h5 j ⟨_, hj, rfl, by rw [← e]; exact a1⟩
        exact ⟨p', ws, a1, by rw [upd_ne np]; exact a2, a3, a4, dps_mono ex a5⟩
      | bor es =>
        obtain ⟨p', ws, a1, a2, a3, a4, a5⟩ := q
        have np : p' ≠ p := fun e => h5 j ⟨_, hj, rfl, by rw [← e]; exact a1⟩
        exact ⟨p', ws, a1, by rw [upd_ne np]; exact a2, a3, a4, dps_mono ex a5⟩
      | obj ob =>
        obtain ⟨p', a1, a2, a3, a4⟩ := q
        have np : p' ≠ p := fun e => h5 j ⟨_, hj, rfl, by rw [← e]; exact a1⟩
        exact ⟨p', a1, by rw [upd_ne np]; exact a2, a3, a4⟩
      | raw v => exact q
      | exc a dd fs => obtain ⟨z1, z2, z3, z4⟩ := q; exact ⟨z1, z2, ex _ _ z3, fs_mono ex z4⟩
      | tab T => exact q
    dis := R.dis
    len := R.len
    tb := R.tb
    nt := R.nt.upd (by trivial) }
theorem sv_o {g : M (List PyData)} (h : SO X W a g) : SV X W a (M.bd g fun ds => M.ok (.list ds)) :=
  pe_imp h fun σ H Q ⟨C, F, env, R, h⟩ => tG_bd R h fun ds env1 v F1 H1 R1 e1 o1 h1 => by
    obtain ⟨p, vs, rfl, ex, R2, dp⟩ := R1.freezeO o1
    exact aft' h1 R2 ex dp
theorem sv_ix (ha : SV X W a ga) (hb : SV X W b gb) (hs : PlainIx b := by exact fun _ _ => rfl) : SV X W (.Subscript a b pos) (M.bd ga fun d => M.bd gb fun e => M.opt (atD d e)) :=
  pe_imp (pe_ix ix_seq ha hb hs) fun σ H Q ⟨C, F, env, R, h⟩ =>
    tG_bd R h fun d env1 v F1 H1 R1 e1 o1 h1 => tG_bd R1 h1 fun e env2 w F2 H2 R2 e2 o2 h2 => by
      obtain ⟨z, hz, h3⟩ := h2.of_opt
      clear h2
      have o1 : Dp X.K F2 v d := dp_mono e2 o1
      unfold atD at hz
      split at hz
      · cases o2
        cases o1 with
        | lst s r =>
          obtain ⟨x, hx, dx⟩ := atI_dps r hz
          exact .inl ⟨_, _, _, _, rfl, rfl, ex_l R2.fh s, hx, aft (ok := okV X.K) h3 R2 dx⟩
      · cases o2
        cases o1 with
        | tup s r =>
          obtain ⟨x, hx, dx⟩ := atI_dps r hz
          exact .inr (.inl ⟨_, _, _, _, rfl, rfl, ex_t R2.fh s, hx, aft (ok := okV X.K) h3 R2 dx⟩)
      · split at hz
        · rename_i hl
          cases o2
          cases o1
          cases hq : atI _ _ with
          | none => rw [hq] at hz; cases hz
          | some c => rw [hq] at hz; cases hz; exact .inr (.inr ⟨_, _, _, rfl, rfl, hl, hq, aft h3 R2 (.str _)⟩)
        · cases hz
      · cases hz
def gPeek (i : Nat) : M (List PyData) := fun env => match env[i]? with
  | some (.own ds) => some (.ok (ds, env))
  | some (.bor ds) => some (.ok (ds, env))
  | some (.val (.list ds)) => some (.ok (ds, env))
  | some (.val (.tuple ds)) => some (.ok (ds, env))
  | _ => none
end
end Pf
/-! part Pf5 -/
set_option Elab.async false
set_option linter.all false
set_option maxRecDepth 100000
set_option maxHeartbeats 2000000
namespace Pf
open PySem PySem.Spec L2 Evl
section
variable {K : PySem.W.Frag} {mg : Str → Option Value} {W : WX} {C : Cn} {F : Hp} {σ : St} {H : Hp} {env : En} {i : Nat} {ds ds' : List PyData}
theorem peek_of {env' : En} (R : Rel K C F σ H env) (h : gPeek i env = some (.ok (ds, env'))) : env' = env ∧ ∃ p vs, σ[i]? = some (some (.ref p)) ∧ (SqL K H p vs ∨ SqT K H p vs) ∧ DpAll K F vs ds := by
  unfold gPeek at h
  split at h
  · rename_i q; cases h; obtain ⟨p, vs, a1, _, _, a4, a5⟩ := R.sl i _ q; exact ⟨rfl, p, vs, a1, .inl (SqL.of a4), a5⟩
  · rename_i q; cases h; obtain ⟨p, vs, a1, _, _, a4, a5⟩ := R.sl i _ q; exact ⟨rfl, p, vs, a1, .inl (SqL.of a4), a5⟩
  · rename_i q; cases h; obtain ⟨v, a1, a2⟩ := R.sl i _ q
    cases a2 with
    | lst s r => exact ⟨rfl, _, _, a1, .inl (ex_l R.fh s), r⟩
  · rename_i q; cases h; obtain ⟨v, a1, a2⟩ := R.sl i _ q
    cases a2 with
    | tup s r => exact ⟨rfl, _, _, a1, .inr (ex_t R.fh s), r⟩
  · cases h
theorem bd_peek {γ δ : Type} {ok : OkR γ δ} {f : List PyData → M γ} {Q : δ → Hp → Prop} (R : Rel K C F σ H env) (h : After K mg ok W C F σ (M.bd (gPeek i) f env) Q) :
    ∃ ds p vs, gPeek i env = some (.ok (ds, env)) ∧ σ[i]? = some (some (.ref p)) ∧ (SqL K H p vs ∨ SqT K H p vs) ∧ DpAll K F vs ds ∧ After K mg ok W C F σ (f ds env) Q := by
  unfold M.bd at h
  cases q : gPeek i env with
  | none => rw [q] at h; exact h.elim
  | some r =>
    rw [q] at h
    cases r with
    | error x =>
      unfold gPeek at q
      split at q <;> cases q
    | ok y =>
      obtain ⟨ds, env'⟩ := y
      obtain ⟨rfl, p, vs, a1, a2, a3⟩ := peek_of R q
      exact ⟨ds, p, vs, rfl, a1, a2, a3, h⟩
def gHeld (i : Nat) : M (List PyData) := fun env => match env[i]? with
  | some (.own ds) => some (.ok (ds, env))
  | some (.bor ds) => some (.ok (ds, env))
  | _ => none
def putS (ds : List PyData) : Sl → Sl
  | .own _ => .own ds
  | .bor _ => .bor ds
  | .obj _ => .own ds
  | s => s
def gPut (i : Nat) (ds : List PyData) : M Unit := fun env => match env[i]? with
  | some s => some (.ok ((), env.set i (putS ds s)))
  | none => none
theorem bd_held {γ δ : Type} {ok : OkR γ δ} {f : List PyData → M γ} {Q : δ → Hp → Prop} (R : Rel K C F σ H env) (h : After K mg ok W C F σ (M.bd (gHeld i) f env) Q) :
    ∃ ds p vs s, env[i]? = some s ∧ (isOwn s = true ∧ ∀ o, s ≠ .obj o) ∧ σ[i]? = some (some (.ref p)) ∧ H p = some (.lst vs) ∧ DpAll K F vs ds ∧ After K mg ok W C F σ (f ds env) Q := by
  unfold M.bd at h
  unfold gHeld at h
  cases q : env[i]? with
  | none => rw [q] at h; exact h.elim
  | some s =>
    rw [q] at h
    cases s with
    | own ds => obtain ⟨p, vs, a1, _, _, a4, a5⟩ := R.sl i _ q; exact ⟨ds, p, vs, _, rfl, ⟨rfl, fun _ z => by cases z⟩, a1, a4, a5, h⟩
    | bor ds => obtain ⟨p, vs, a1, _, _, a4, a5⟩ := R.sl i _ q; exact ⟨ds, p, vs, _, rfl, ⟨rfl, fun _ z => by cases z⟩, a1, a4, a5, h⟩
    | _ => exact h.elim
theorem Rel.write {p : Addr} {vs : List V} {s : Sl} (R : Rel K C F σ H env) (h : env[i]? = some s) (ho : isOwn s = true) (hp : σ[i]? = some (some (.ref p))) (hd : DpAll K F vs ds) (hno : ∀ o, s ≠ .obj o) :
    Rel K C F σ (upd H p (.lst vs)) (env.set i (putS ds s)) := by
  have facts : F p = none ∧ (C.H p = none ∨ p ∈ C.B) ∧ H p ≠ none := by
    have q := R.sl i s h
    cases s with
    | own es => obtain ⟨p', ws, a1, a2, a3, a4, a5⟩ := q; rw [hp] at a1; cases a1; exact ⟨a2, .inl a3, by rw [a4]; simp⟩
    | bor es => obtain ⟨p', ws, a1, a2, a3, a4, a5⟩ := q; rw [hp] at a1; cases a1; exact ⟨a2, .inr a3, by rw [a4]; simp⟩
    | obj ob => obtain ⟨p', a1, a2, a3, a4⟩ := q; rw [hp] at a1; cases a1; exact ⟨a2, .inl a3, by rw [a4]; simp⟩
    | _ => cases ho
  have hps : isOwn (putS ds s) = true := by cases s <;> first | rfl | cases ho
  exact {
    fh := R.fh.mut facts.1
    cf := R.cf
    new := R.new
    pres := fun a o q hb => by
      have ne : a ≠ p := fun e => by
        subst e
        rcases facts.2.1 with z | z
        · rw [z] at q; cases q
        · exact hb z
      rw [upd_ne ne]; exact R.pres a o q hb
    bd := fun b hb => by
      refine ⟨?_, (R.bd b hb).2⟩
      by_cases ne : b = p
      · subst ne; rw [upd_same]; simp
      · rw [upd_ne ne]; exact (R.bd b hb).1
    sl := fun j s' hj => by
      rcases set_at hj with ⟨rfl, rfl, _⟩ | ⟨ne, hj⟩
      · have q := R.sl j s h
        cases s with
        | own es => obtain ⟨p', ws, a1, a2, a3, a4, a5⟩ := q; rw [hp] at a1; cases a1; exact ⟨p, vs, hp, a2, a3, upd_same, hd⟩
        | bor es => obtain ⟨p', ws, a1, a2, a3, a4, a5⟩ := q; rw [hp] at a1; cases a1; exact ⟨p, vs, hp, a2, a3, upd_same, hd⟩
        | obj ob => obtain ⟨p', a1, a2, a3, a4⟩ := q; rw [hp] at a1; cases a1; exact ⟨p, vs, hp, a2, a3, upd_same, hd⟩
        | _ => cases ho
      · have q := R.sl j s' hj
        have np : ∀ p', isOwn s' = true → σ[j]? = some (some (.ref p')) → p' ≠ p := fun p' o a e => ne (R.dis j i p ⟨s', hj, o, by rw [← e]; exact a⟩ ⟨s, h, ho, hp⟩)
        cases s' with
        | no => trivial
        | val d => exact q
        | own es => obtain ⟨p', ws, a1, a2, a3, a4, a5⟩ := q; exact ⟨p', ws, a1, a2, a3, by rw [upd_ne (np p' rfl a1)]; exact a4, a5⟩
        | bor es => obtain ⟨p', ws, a1, a2, a3, a4, a5⟩ := q; exact ⟨p', ws, a1, a2, a3, by rw [upd_ne (np p' rfl a1)]; exact a4, a5⟩
        | obj ob => obtain ⟨p', a1, a2, a3, a4⟩ := q; exact ⟨p', a1, a2, a3, by rw [upd_ne (np p' rfl a1)]; exact a4⟩
        | raw v => exact q
        | exc a dd fs => exact q
        | tab T => exact q
    dis := fun j k q o1 o2 => by
      have back : ∀ {j : Nat}, Owned σ (env.set i (putS ds s)) j q → Owned σ env j q := fun {j} o => by
        obtain ⟨s1, e1, b1, a1⟩ := o
        rcases set_at e1 with ⟨rfl, rfl, _⟩ | ⟨ne1, e1⟩
        · exact ⟨s, h, ho, a1⟩
        · exact ⟨s1, e1, b1, a1⟩
      exact R.dis j k q (back o1) (back o2)
    len := by rw [List.length_set]; exact R.len
    nt := R.nt
    tb := by
      have q := R.sl i s h
      cases s with
      | own es => obtain ⟨p', ws, a1, a2, a3, a4, a5⟩ := q; rw [hp] at a1; cases a1; exact tabs_lst R.tb a4 fun a o ne e => by rw [upd_ne ne]; exact e
      | bor es => obtain ⟨p', ws, a1, a2, a3, a4, a5⟩ := q; rw [hp] at a1; cases a1; exact tabs_lst R.tb a4 fun a o ne e => by rw [upd_ne ne]; exact e
      | obj ob => exact absurd rfl (hno ob)
      | _ => cases ho }
end
section
variable {X : Cx} {W : WX} {a b c e : Expr} {es : List Expr} {ga gb : M PyData} {gl : M (List PyData)} {pos p1 p2 apos : Pos} {x : Str}
def gIxP (i : Nat) (gb : M PyData) : M PyData := M.bd (gPeek i) fun _ => M.bd gb fun e => M.bd (gPeek i) fun ds => match e with
  | .int k => M.opt (atI ds k)
  | _ => M.no
theorem sv_ixP (i : Nat) (hb : SV X W b gb) (hs : PlainIx b := by exact fun _ _ => rfl) (hN : X.N[i]? = some x := by rfl) (hv : Vis X.env.scope x := by first | exact Or.inl rfl | exact Or.inr (Or.inl rfl) | exact Or.inr (Or.inr rfl))
    (hd : (x == ("__debug__" : Str)) = false := by decide) (hcd : (x == ("__classdict__" : Str)) = false := by decide) : SV X W (.Subscript (.Name x p1) b pos) (gIxP i gb) :=
  pe_imp (pe_ix ix_seq (pe_var hN hv hd hcd) hb hs) fun σ H Q ⟨C, F, env, R, h⟩ => by
    obtain ⟨_, p, vs, _, a1, a2, _, h⟩ := bd_peek R h
    refine ⟨.ref p, a1, ?_⟩
    refine tG_bd R h fun e env2 w F2 H2 R2 e2 o2 h2 => ?_
    obtain ⟨ds, p', vs', _, b1, b2, b3, h3⟩ := bd_peek R2 h2
    rw [a1] at b1
    cases b1
    cases o2 with
    | int k =>
      obtain ⟨d, hd, h4⟩ := h3.of_opt
      obtain ⟨v, hv, dv⟩ := atI_dps b3 hd
      rcases b2 with s | s
      · exact .inl ⟨_, _, _, _, rfl, rfl, s, hv, aft (ok := okV X.K) h4 R2 dv⟩
      · exact .inr (.inl ⟨_, _, _, _, rfl, rfl, s, hv, aft (ok := okV X.K) h4 R2 dv⟩)
    | _ => exact h3.elim
def gLenP (i : Nat) : M PyData := M.bd (gPeek i) fun ds => M.ok (.int ds.length)
theorem sv_lenP (i : Nat) (hg : Gl X "len") (hm : X.mg "len" = none) (hN : X.N[i]? = some x := by rfl) (hv : Vis X.env.scope x := by first | exact Or.inl rfl | exact Or.inr (Or.inl rfl) | exact Or.inr (Or.inr rfl))
    (hd : (x == ("__debug__" : Str)) = false := by decide) (hcd : (x == ("__classdict__" : Str)) = false := by decide) (hs : starEach [.Name x p1] X.env = (false, eval (.Name x p1) X.env) :: starEach [] X.env := by rfl)
    (hpl : (backTo pos (starEach [] X.env)).any (·.1) = false := by rfl) : SV X W (.Call (.Name "len" p2) [.Name x p1] [] pos) (gLenP i) :=
  pe_imp (pe_callB call_len_seq hg hm PySem.boot_len (pa_cons (pe_var hN hv hd hcd) pa_nil hs) (by decide) (by decide) hs hpl) fun σ H Q ⟨C, F, env, R, h⟩ => by
    obtain ⟨ds, p, vs, _, a1, a2, a3, h⟩ := bd_peek R h
    refine ⟨.ref p, a1, p, vs, rfl, a2, ?_⟩
    rw [a3.len]
    exact aft (ok := okV X.K) h R (.int _)
def CallD (X : Cx) (f : Value) (k : List PyData → Option PyData) : Prop := ∃ r : List V → Hp → VK → Prop, CallR X f r ∧
  ∀ C F σ H env vs ds d Q, Rel X.K C F σ H env → DpAll X.K F vs ds → k ds = some d → (∀ v F' H', Rel X.K C F' σ H' env → Ex F F' → Dp X.K F' v d → Q v H') → r vs H Q
theorem cd_len : CallD X (.builtin "len") (fun ds => match ds with
    | [d] => lenD d
    | _ => none) :=
  ⟨_, CallR.or call_len_seq call_len_str, fun C F σ H env vs ds d Q R hv hk q => by
    cases hv with
    | nil => cases hk
    | cons h1 hr =>
      cases hr with
      | cons _ _ => cases hk
      | nil =>
        cases h1 with
        | lst s r => cases hk; exact .inl ⟨_, _, rfl, .inl (ex_l R.fh s), by rw [r.len]; exact q _ _ _ R (Ex.refl _) (.int _)⟩
        | tup s r => cases hk; exact .inl ⟨_, _, rfl, .inr (ex_t R.fh s), by rw [r.len]; exact q _ _ _ R (Ex.refl _) (.int _)⟩
        | str z =>
          simp only [lenD] at hk
          split at hk
          · rename_i hl; cases hk; exact .inr ⟨z, rfl, hl, q _ _ _ R (Ex.refl _) (.int _)⟩
          · cases hk
        | _ => cases hk⟩
theorem cd_tuple : CallD X (.type "tuple") (fun ds => match ds with
    | [d] => (seqD d).map .tuple
    | _ => none) :=
  ⟨_, cr_tupF, fun C F σ H env vs ds d Q R hv hk q => by
    cases hv with
    | nil => cases hk
    | cons h1 hr =>
      cases hr with
      | cons _ _ => cases hk
      | nil =>
        cases h1 with
        | lst s r =>
          cases hk
          refine ⟨_, _, rfl, .inl ⟨ex_l R.fh s, fun l ob hob hl => ?_⟩⟩
          have hf := (R.fresh hl).1
          exact q _ _ _ (R.newF hl hob) (Ex.new hf) (.tup (.inl (.inr ⟨ob, upd_same⟩)) (dps_mono (Ex.new hf) r))
        | tup s r => cases hk; exact ⟨_, _, rfl, .inr ⟨ex_t R.fh s, q _ _ _ R (Ex.refl _) (.tup s r)⟩⟩
        | _ => cases hk⟩
theorem sv_callB {f : Str} {id : String} {k : List PyData → Option PyData} (hc : CallD X (.builtin id) k) (hg : Gl X f) (hm : X.mg f = none) (hv : bootBuiltins f = some (.builtin id)) (ha : SA X W (e :: es) gl) (hn : f ≠ "__name__" := by decide) (hdb : (f == ("__debug__" : Str)) = false := by decide)
    (he : starEach (e :: es) X.env = (false, eval e X.env) :: starEach es X.env := by rfl) (hpl : (backTo pos (starEach es X.env)).any (·.1) = false := by rfl) : SV X W (.Call (.Name f p2) (e :: es) [] pos) (M.bd gl fun ds => M.opt (k ds)) := by
  obtain ⟨r, hr, hk⟩ := hc
  refine pe_imp (pe_callB hr hg hm hv ha hn hdb he hpl) fun σ H Q ⟨C, F, env, R, h⟩ => tG_bd R h fun ds env1 vs F1 H1 R1 e1 o1 h1 => ?_
  obtain ⟨d, hd, h2⟩ := h1.of_opt
  exact hk C F1 σ H1 env1 vs ds d Q R1 o1 hd fun v F' H' R' ex dv => aft' (ok := okV X.K) h2 R' ex dv
theorem sv_callT {f : Str} {T : String} {k : List PyData → Option PyData} (hc : CallD X (.type T) k) (hg : Gl X f) (hm : X.mg f = none) (hv : bootBuiltins f = some (.type T)) (ha : SA X W (e :: es) gl) (hn : f ≠ "__name__" := by decide) (hdb : (f == ("__debug__" : Str)) = false := by decide)
    (he : starEach (e :: es) X.env = (false, eval e X.env) :: starEach es X.env := by rfl) (hpl : (backTo pos (starEach es X.env)).any (·.1) = false := by rfl) : SV X W (.Call (.Name f p2) (e :: es) [] pos) (M.bd gl fun ds => M.opt (k ds)) := by
  obtain ⟨r, hr, hk⟩ := hc
  refine pe_imp (pe_callTy hr hg hm hv ha hn hdb he hpl) fun σ H Q ⟨C, F, env, R, h⟩ => tG_bd R h fun ds env1 vs F1 H1 R1 e1 o1 h1 => ?_
  obtain ⟨d, hd, h2⟩ := h1.of_opt
  exact hk C F1 σ H1 env1 vs ds d Q R1 o1 hd fun v F' H' R' ex dv => aft' (ok := okV X.K) h2 R' ex dv
theorem so_list (hg : Gl X "list") (hm : X.mg "list" = none) (ha : SV X W e ga) (hs : starEach [e] X.env = (false, eval e X.env) :: starEach [] X.env := by rfl) (hpl : (backTo pos (starEach [] X.env)).any (·.1) = false := by rfl) :
    SO X W (.Call (.Name "list" p2) [e] [] pos) (M.bd ga fun d => M.opt (seqD d)) :=
  pe_imp (pe_callTy call_list_of hg hm (by decide +kernel) (pa_cons ha pa_nil hs) (by decide) (by decide) hs hpl) fun σ H Q ⟨C, F, env, R, h⟩ => tG_bd R h fun d env1 v F1 H1 R1 e1 o1 h1 => by
    obtain ⟨ds, hd, h2⟩ := h1.of_opt
    obtain ⟨p, vs, rfl, hq, hr⟩ := dp_seq o1 hd
    refine ⟨p, vs, rfl, ?_, fun l hl => aft' (ok := okO X.K) h2 (R1.newH hl) (Ex.refl _) (okO_new R1 hl hr)⟩
    rcases hq with s | s
    · exact .inl (ex_l R1.fh s)
    · exact .inr (ex_t R1.fh s)
end
end Pf
/-! part Pf6 -/
set_option Elab.async false
set_option linter.all false
set_option maxRecDepth 100000
set_option maxHeartbeats 2000000
namespace Pf
open PySem PySem.Spec L2 Evl
inductive Out where
  | nx (env : En)
  | rt (d : PyData) (env : En)
  | ro (ds : List PyData) (env : En)
  | bk (env : En)
  | ct (env : En)
  | er (x : Xc) (env : En)
abbrev S := En → Option Out
section
variable (K : PySem.W.Frag) (mg : Str → Option Value)
def AftS (W : WX) (C : Cn) (F : Hp) (o : Option Out) (D : Ends) : Prop := match o with
  | none => False
  | some (.nx env) => ∀ σ F' H, Rel K C F' σ H env → Ex F F' → D.nx σ H
  | some (.rt d env) => ∀ v σ F' H, Rel K C F' σ H env → Ex F F' → Dp K F' v d → D.rt v H
  | some (.ro ds env) => ∀ v σ F' H, Rel K C F' σ H env → Ex F F' → okO K C F' σ H env ds v → D.rt v H
  | some (.bk env) => ∀ σ F' H, Rel K C F' σ H env → Ex F F' → D.bk σ H
  | some (.ct env) => ∀ σ F' H, Rel K C F' σ H env → Ex F F' → D.ct σ H
  | some (.er x env) => ∀ σ F' H cls dx, Rel K C F' σ H env → Ex F F' → XOk K mg F' H cls dx x → W cls dx σ H
def tS (W : WX) (G : S) : TS := fun D σ H => ∃ C F env, Rel K C F σ H env ∧ AftS K mg W C F (G env) D
end
abbrev SS (X : Cx) (W : WX) (st : Stmt) (G : S) : Prop := PS X st (tS X.K X.mg W G)
abbrev SSs (X : Cx) (W : WX) (sts : List Stmt) (G : S) : Prop := PSs X sts (tS X.K X.mg W G)
theorem ps_imp {X : Cx} {st : Stmt} {t t' : TS} (h : PS X st t) (k : ∀ D σ H, t' D σ H → t D σ H) : PS X st t' := ⟨fun pins s σ H D I q => h.run pins s σ H D I (k D σ H q)⟩
theorem pss_imp {X : Cx} {sts : List Stmt} {t t' : TS} (h : PSs X sts t) (k : ∀ D σ H, t' D σ H → t D σ H) : PSs X sts t' := ⟨fun pins s σ H D I q => h.run pins s σ H D I (k D σ H q)⟩
def gE {α : Type} (m : M α) (k : α → S) : S := fun env => match m env with
  | none => none
  | some (.error (x, env')) => some (.er x env')
  | some (.ok (a, env')) => k a env'
def gSeq (g h : S) : S := fun env => match g env with
  | some (.nx env') => h env'
  | o => o
def gNx : S := fun env => some (.nx env)
section
variable {K : PySem.W.Frag} {mg : Str → Option Value} {W : WX} {σ : St} {H : Hp} {C : Cn} {F : Hp} {env : En} {α β : Type} {ok : OkR α β}
theorem AftS.up {F' : Hp} {o : Option Out} {D : Ends} (h : AftS K mg W C F o D) (e : Ex F F') : AftS K mg W C F' o D := by
  cases o with
  | none => exact h
  | some o =>
    cases o with
    | nx env => exact fun σ F2 H R e2 => h σ F2 H R (e.trans e2)
    | rt d env => exact fun v σ F2 H R e2 => h v σ F2 H R (e.trans e2)
    | ro d env => exact fun v σ F2 H R e2 => h v σ F2 H R (e.trans e2)
    | bk env => exact fun σ F2 H R e2 => h σ F2 H R (e.trans e2)
    | ct env => exact fun σ F2 H R e2 => h σ F2 H R (e.trans e2)
    | er x env => exact fun σ F2 H cls dx R e2 => h σ F2 H cls dx R (e.trans e2)
theorem tE_bd {g : M α} {f : α → S} {D : Ends} {Q1 : β → Hp → Prop} (R : Rel K C F σ H env) (h : AftS K mg W C F (gE g f env) D)
    (k : ∀ d env' b F' H', Rel K C F' σ H' env' → Ex F F' → ok C F' σ H' env' d b → AftS K mg W C F' (f d env') D → Q1 b H') : tG K mg ok W g σ H Q1 := by
  refine ⟨C, F, env, R, ?_⟩
  unfold gE at h
  cases q : g env with
  | none => rw [q] at h; exact h
  | some r =>
    rw [q] at h
    cases r with
    | error x => obtain ⟨x, env'⟩ := x; exact fun F' H' cls dx R' e xo => h σ F' H' cls dx R' e xo
    | ok y => obtain ⟨d, env'⟩ := y; exact fun b F' H' R' e o => k d env' b F' H' R' e o (h.up e)
theorem AftS.seq {g : S} {h : S} {D : Ends} (q : AftS K mg W C F (gSeq g h env) D) : AftS K mg W C F (g env) { D with nx := fun σ H => ∃ F' env', Rel K C F' σ H env' ∧ Ex F F' ∧ AftS K mg W C F' (h env') D } := by
  unfold gSeq at q
  cases e : g env with
  | none => rw [e] at q; exact q
  | some o =>
    rw [e] at q
    cases o with
    | nx env' => exact fun σ F' H R ex => ⟨F', env', R, ex, q.up ex⟩
    | rt d env' => exact q
    | ro d env' => exact q
    | bk env' => exact q
    | ct env' => exact q
    | er x env' => exact q
theorem AftS.imp {o : Option Out} {D D' : Ends} (h : AftS K mg W C F o D) (k1 : ∀ σ H, D.nx σ H → D'.nx σ H) (k2 : ∀ v H, D.rt v H → D'.rt v H) (k3 : ∀ σ H, D.bk σ H → D'.bk σ H) (k4 : ∀ σ H, D.ct σ H → D'.ct σ H) : AftS K mg W C F o D' := by
  cases o with
  | none => exact h
  | some o =>
    cases o with
    | nx env => exact fun σ F2 H R e2 => k1 _ _ (h σ F2 H R e2)
    | rt d env => exact fun v σ F2 H R e2 q => k2 _ _ (h v σ F2 H R e2 q)
    | ro d env => exact fun v σ F2 H R e2 q => k2 _ _ (h v σ F2 H R e2 q)
    | bk env => exact fun σ F2 H R e2 => k3 _ _ (h σ F2 H R e2)
    | ct env => exact fun σ F2 H R e2 => k4 _ _ (h σ F2 H R e2)
    | er x env => exact h
end
section
variable {X : Cx} {W : WX} {st : Stmt} {rest : List Stmt} {g g' : S} {e c a b : Expr} {ga gb gc : M PyData} {gt : M Bool} {gl : M (List PyData)} {pos pos' p1 p2 : Pos} {x y : Str}
theorem ss_nil : SSs X W [] gNx := pss_imp pss_nil fun D σ H ⟨C, F, env, R, h⟩ => h σ F H R (Ex.refl F)
theorem ss_cons (h1 : SS X W st g) (h2 : SSs X W rest g') : SSs X W (st :: rest) (gSeq g g') := pss_imp (pss_cons h1 h2) fun D σ H ⟨C, F, env, R, h⟩ => ⟨C, F, env, R, h.seq.imp (fun σ H ⟨F', env', R', _, q⟩ => ⟨C, F', env', R', q⟩) (fun _ _ z => z) (fun _ _ z => z) (fun _ _ z => z)⟩
theorem ss_one (h : SS X W st g) : SSs X W [st] g := pss_one h
theorem ss_expr {α : Type} {ok : OkR α V} {ga : M α} (h : SG X ok W e ga) (hs : swapsWith e none pos.line X.env = pure false := by rfl) : SS X W (.Expr e pos) (gE ga fun _ => gNx) :=
  ps_imp (ps_expr h hs) fun D σ H ⟨C, F, env, R, h⟩ => tE_bd R h fun d env1 v F1 H1 R1 e1 o1 h1 => h1 σ F1 H1 R1 (Ex.refl _)
def gRt (d : PyData) : S := fun env => some (.rt d env)
def gRo (ds : List PyData) : S := fun env => some (.ro ds env)
theorem ss_ret (h : SV X W e ga) : SS X W (.Return (some e) pos) (gE ga gRt) :=
  ps_imp (ps_ret h) fun D σ H ⟨C, F, env, R, h⟩ => tE_bd R h fun d env1 v F1 H1 R1 e1 o1 h1 => h1 v σ F1 H1 R1 (Ex.refl _) o1
theorem ss_retO (h : SO X W e gl) : SS X W (.Return (some e) pos) (gE gl gRo) :=
  ps_imp (ps_ret h) fun D σ H ⟨C, F, env, R, h⟩ => tE_bd R h fun d env1 v F1 H1 R1 e1 o1 h1 => h1 v σ F1 H1 R1 (Ex.refl _) o1
def gIfS (gt : M Bool) (g g' : S) : S := gE gt fun b => if b = true then g else g'
theorem ss_if {sa sb : List Stmt} (ht : ST X W c gt) (ha : SSs X W sa g) (hb : SSs X W sb g') : SS X W (.If c sa sb pos) (gIfS gt g g') :=
  ps_imp (ps_if ht ha hb) fun D σ H ⟨C, F, env, R, h⟩ => tE_bd R h fun d env1 v F1 H1 R1 e1 o1 h1 => by
    cases o1
    cases d with
    | true => exact ⟨C, F1, env1, R1, h1⟩
    | false => exact ⟨C, F1, env1, R1, h1⟩
theorem _root_.Pf.Rel.store {K : PySem.W.Frag} {C : Cn} {F : Hp} {σ : St} {H : Hp} {env : En} {v : V} {d : PyData} (R : Rel K C F σ H env) (i : Nat) (h : Dp K F v d) : Rel K C F (σ.set i (some v)) H (env.set i (.val d)) where
  fh := R.fh
  cf := R.cf
  new := R.new
  pres := R.pres
  bd := R.bd
  sl := fun j s hj => by
    rcases set_at hj with ⟨rfl, rfl, hl⟩ | ⟨ne, hj⟩
    · rw [List.getElem?_set_self (by rw [← R.len]; exact hl)]; exact ⟨v, rfl, h⟩
    · rw [List.getElem?_set_ne (Ne.symm ne)]; exact R.sl j s hj
  dis := fun j k q o1 o2 => by
    obtain ⟨s1, e1, b1, a1⟩ := o1
    obtain ⟨s2, e2, b2, a2⟩ := o2
    rcases set_at e1 with ⟨rfl, rfl, _⟩ | ⟨n1, e1⟩
    · cases b1
    · rcases set_at e2 with ⟨rfl, rfl, _⟩ | ⟨n2, e2⟩
      · cases b2
      · rw [List.getElem?_set_ne (Ne.symm n1)] at a1
        rw [List.getElem?_set_ne (Ne.symm n2)] at a2
        exact R.dis j k q ⟨s1, e1, b1, a1⟩ ⟨s2, e2, b2, a2⟩
  len := by rw [List.length_set, List.length_set]; exact R.len
  tb := R.tb
  nt := R.nt
theorem _root_.Pf.Rel.storeO {K : PySem.W.Frag} {C : Cn} {F : Hp} {σ : St} {H : Hp} {env : En} {v : V} {ds : List PyData} (R : Rel K C F σ H env) (i : Nat) (h : okO K C F σ H env ds v) : Rel K C F (σ.set i (some v)) H (env.set i (.own ds)) := by
  obtain ⟨p, vs, rfl, h1, h2, h3, h4, h5⟩ := h
  exact {
    fh := R.fh
    cf := R.cf
    new := R.new
    pres := R.pres
    bd := R.bd
    sl := fun j s hj => by
      rcases set_at hj with ⟨rfl, rfl, hl⟩ | ⟨ne, hj⟩
      · rw [List.getElem?_set_self (by rw [← R.len]; exact hl)]; exact ⟨p, vs, rfl, h1, h2, h3, h4⟩
      · rw [List.getElem?_set_ne (Ne.symm ne)]; exact R.sl j s hj
    dis := fun j k q o1 o2 => by
      obtain ⟨s1, e1, b1, a1⟩ := o1
      obtain ⟨s2, e2, b2, a2⟩ := o2
      rcases set_at e1 with ⟨rfl, rfl, l1⟩ | ⟨n1, f1⟩
      · rw [List.getElem?_set_self (by rw [← R.len]; exact l1)] at a1
        cases a1
        rcases set_at e2 with ⟨rfl, rfl, _⟩ | ⟨n2, f2⟩
        · rfl
        · rw [List.getElem?_set_ne (Ne.symm n2)] at a2
          exact absurd ⟨s2, f2, b2, a2⟩ (h5 k)
      · rw [List.getElem?_set_ne (Ne.symm n1)] at a1
        rcases set_at e2 with ⟨rfl, rfl, l2⟩ | ⟨n2, f2⟩
        · rw [List.getElem?_set_self (by rw [← R.len]; exact l2)] at a2
          cases a2
          exact absurd ⟨s1, f1, b1, a1⟩ (h5 j)
        · rw [List.getElem?_set_ne (Ne.symm n2)] at a2
          exact R.dis j k q ⟨s1, f1, b1, a1⟩ ⟨s2, f2, b2, a2⟩
    len := by rw [List.length_set, List.length_set]; exact R.len
    tb := R.tb
    nt := R.nt }
def gSt (i : Nat) (d : PyData) : S := fun env => some (.nx (env.set i (.val d)))
def gStO (i : Nat) (ds : List PyData) : S := fun env => some (.nx (env.set i (.own ds)))
theorem ss_set (i : Nat) (he : SV X W e ga) (hN : X.N.Nodup) (hi : X.N[i]? = some x := by rfl) (hx : Loc X.env.scope x := by first | exact Or.inl rfl | exact Or.inr rfl) (hs : swapsWith e (some (.Name x pos')) pos.line X.env = pure false := by rfl)
    (hf : X.fn x = true ∨ X.env.scope.names.lookup x = some .local := by first | exact .inl rfl | exact .inr rfl | assumption) : SS X W (.Assign [.Name x pos'] e pos) (gE ga (gSt i)) :=
  ps_imp (ps_set hN hi hx he hs hf) fun D σ H ⟨C, F, env, R, h⟩ => tE_bd R h fun d env1 v F1 H1 R1 e1 o1 h1 => h1 _ F1 H1 (R1.store i o1) (Ex.refl _)
theorem ss_setO (i : Nat) (he : SO X W e gl) (hN : X.N.Nodup) (hi : X.N[i]? = some x := by rfl) (hx : Loc X.env.scope x := by first | exact Or.inl rfl | exact Or.inr rfl) (hs : swapsWith e (some (.Name x pos')) pos.line X.env = pure false := by rfl)
    (hf : X.fn x = true ∨ X.env.scope.names.lookup x = some .local := by first | exact .inl rfl | exact .inr rfl | assumption) : SS X W (.Assign [.Name x pos'] e pos) (gE gl (gStO i)) :=
  ps_imp (ps_set hN hi hx he hs hf) fun D σ H ⟨C, F, env, R, h⟩ => tE_bd R h fun d env1 v F1 H1 R1 e1 o1 h1 => h1 _ F1 H1 (R1.storeO i o1) (Ex.refl _)
def SGt (X : Cx) (tg : Expr) (b : PyData → En → Option En) : Prop := ∃ t : TG, PG X tg t ∧ ∀ C F σ H env env' v d Q, Rel X.K C F σ H env → Dp X.K F v d → b d env = some env' → (∀ σ', Rel X.K C F σ' H env' → Q σ' H) → t v σ H Q
def SGts (X : Cx) (tgs : List Expr) (b : List PyData → En → Option En) : Prop := ∃ t : TGs, PGs X tgs t ∧ ∀ C F σ H env env' vs ds Q, Rel X.K C F σ H env → DpAll X.K F vs ds → b ds env = some env' → (∀ σ', Rel X.K C F σ' H env' → Q σ' H) → t vs σ H Q
def bN (i : Nat) : PyData → En → Option En := fun d env => some (env.set i (.val d))
def bNil : List PyData → En → Option En := fun ds env => match ds with
  | [] => some env
  | _ => none
def bCons (b : PyData → En → Option En) (bs : List PyData → En → Option En) : List PyData → En → Option En := fun ds env => match ds with
  | d :: r => (b d env).bind fun env' => bs r env'
  | [] => none
def bTup (n : Nat) (bs : List PyData → En → Option En) : PyData → En → Option En := fun d env => match d with
  | .tuple ds => if ds.length = n then bs ds env else none
  | _ => none
theorem sg_n (i : Nat) (hN : X.N.Nodup) (hi : X.N[i]? = some x := by rfl) (hx : Loc X.env.scope x := by first | exact Or.inl rfl | exact Or.inr rfl)
    (hf : X.fn x = true ∨ X.env.scope.names.lookup x = some .local := by first | exact .inl rfl | exact .inr rfl | assumption) : SGt X (.Name x pos) (bN i) :=
  ⟨_, pg_name hN hi hx hf, fun C F σ H env env' v d Q R hv hb q => by cases hb; exact q _ (R.store i hv)⟩
theorem sgs_nil : SGts X [] bNil :=
  ⟨_, pgs_nil, fun C F σ H env env' vs ds Q R hv hb q => by
    cases hv with
    | nil => cases hb; exact ⟨rfl, q _ R⟩
    | cons _ _ => cases hb⟩
theorem sgs_cons {tg : Expr} {tgs : List Expr} {b bs} (h1 : SGt X tg b) (h2 : SGts X tgs bs) (hs : (assignEach (tg :: tgs) X.env).map (·.2) = assign tg X.env :: (assignEach tgs X.env).map (·.2) := by rfl) : SGts X (tg :: tgs) (bCons b bs) := by
  obtain ⟨t, p, k⟩ := h1
  obtain ⟨ts, ps, ks⟩ := h2
  refine ⟨_, pgs_cons p ps hs, fun C F σ H env env' vs ds Q R hv hb q => ?_⟩
  cases hv with
  | nil => cases hb
  | cons a r =>
    unfold bCons at hb
    simp only at hb
    cases e : b _ env with
    | none => rw [e] at hb; cases hb
    | some env1 => rw [e] at hb; exact ⟨_, _, rfl, k C F σ H env env1 _ _ _ R a e fun σ' R' => ks C F σ' H env1 env' _ _ _ R' r hb q⟩
theorem sg_tup {tgs : List Expr} {k : Nat} {bs} {n : Nat} (hc : X.calm = true) (h : SGts X tgs bs) (hn : (assignEach tgs X.env).length = n := by rfl) (hst : (assignEach tgs X.env).findIdx? (·.1) = none := by rfl) : SGt X (.Tuple tgs k pos) (bTup n bs) := by
  obtain ⟨ts, ps, ks⟩ := h
  refine ⟨_, pg_tup hc ps hn hst, fun C F σ H env env' v d Q R hv hb q => ?_⟩
  unfold bTup at hb
  split at hb
  · split at hb
    · rename_i hl
      cases hv with
      | tup s r => exact ⟨_, _, rfl, ex_t R.fh s, by rw [r.len]; exact hl, ks C F σ H env env' _ _ _ R r hb q⟩
    · cases hb
  · cases hb
def gAs (b : PyData → En → Option En) (d : PyData) : S := fun env => (b d env).map .nx
theorem ss_asg {tg : Expr} {b} (he : SV X W e ga) (hg : SGt X tg b) (hs : swapsWithSole [tg] e pos.line X.env = pure false := by rfl) (hw : swappedStores [tg] e X.env = pure none := by rfl)
    (h1 : (assignEach [tg] X.env).map (·.2) = [assign tg X.env] := by rfl) : SS X W (.Assign [tg] e pos) (gE ga (gAs b)) := by
  obtain ⟨t, p, k⟩ := hg
  refine ps_imp (ps_asg he p hs hw h1) fun D σ H ⟨C, F, env, R, h⟩ => tE_bd R h fun d env1 v F1 H1 R1 e1 o1 h1 => ?_
  unfold gAs at h1
  cases q : b d env1 with
  | none => rw [q] at h1; exact h1.elim
  | some env2 => rw [q] at h1; exact k C F1 σ H1 env1 env2 v d _ R1 o1 q fun σ' R' => h1 σ' F1 H1 R' (Ex.refl _)
def gPar (i j : Nat) (ds : List PyData) : S := fun env => match ds with
  | [d, e] => some (.nx ((env.set i (.val d)).set j (.val e)))
  | _ => none
theorem ss_par {i j : Nat} {px py pt : Pos} {kt k2 pt2} (hc : X.calm = true) (hN : X.N.Nodup) (hi : X.N[i]? = some x) (hj : X.N[j]? = some y) (hij : i ≠ j)
    (hx : X.env.scope.names.lookup x = some .local) (hy : X.env.scope.names.lookup y = some .local) (ha : SA X W [a, b] gl)
    (hw : swappedStores [.Tuple [.Name x px, .Name y py] kt pt] (.Tuple [a, b] k2 pt2) X.env = pure (some [x, y]))
    (hs : swapsWithSole [.Tuple [.Name x px, .Name y py] kt pt] (.Tuple [a, b] k2 pt2) pos.line X.env = pure false := by rfl) :
    SS X W (.Assign [.Tuple [.Name x px, .Name y py] kt pt] (.Tuple [a, b] k2 pt2) pos) (gE gl (gPar i j)) :=
  ps_imp (ps_par hc hN hi hj hij hx hy ha hw hs) fun D σ H ⟨C, F, env, R, h⟩ => tE_bd R h fun ds env1 vs F1 H1 R1 e1 o1 h1 => by
    have o1 : DpAll X.K F1 vs ds := o1
    cases o1 with
    | nil => exact h1.elim
    | cons a1 r1 =>
      cases r1 with
      | nil => exact h1.elim
      | cons a2 r2 =>
        cases r2 with
        | nil => exact ⟨_, _, rfl, h1 _ F1 H1 ((R1.store i a1).store j a2) (Ex.refl _)⟩
        | cons _ _ => exact h1.elim
def gSetIx (i : Nat) (gv gi : M PyData) : S := gE gv fun d => gE (gHeld i) fun _ => gE gi fun e => gE (gHeld i) fun ds => match e with
  | .int k => fun env => match ixN ds.length k with
    | some j => gE (gPut i (ds.set j d)) (fun _ => gNx) env
    | none => none
  | _ => fun _ => none
end
end Pf
/-! part Pf7 -/
set_option Elab.async false
set_option linter.all false
set_option maxRecDepth 100000
set_option maxHeartbeats 2000000
namespace Pf
open PySem PySem.Spec L2 Evl
section
variable {K : PySem.W.Frag} {mg : Str → Option Value} {W : WX} {σ : St} {H : Hp} {C : Cn} {F : Hp} {env : En} {α β : Type} {ok : OkR α β} {i : Nat}
theorem tE_held {f : List PyData → S} {D : Ends} (R : Rel K C F σ H env) (h : AftS K mg W C F (gE (gHeld i) f env) D) :
    ∃ ds p vs s, env[i]? = some s ∧ (isOwn s = true ∧ ∀ o, s ≠ .obj o) ∧ σ[i]? = some (some (.ref p)) ∧ H p = some (.lst vs) ∧ DpAll K F vs ds ∧ AftS K mg W C F (f ds env) D := by
  unfold gE gHeld at h
  cases q : env[i]? with
  | none => rw [q] at h; exact h.elim
  | some s =>
    rw [q] at h
    cases s with
    | own ds => obtain ⟨p, vs, a1, _, _, a4, a5⟩ := R.sl i _ q; exact ⟨ds, p, vs, _, rfl, ⟨rfl, fun _ z => by cases z⟩, a1, a4, a5, h⟩
    | bor ds => obtain ⟨p, vs, a1, _, _, a4, a5⟩ := R.sl i _ q; exact ⟨ds, p, vs, _, rfl, ⟨rfl, fun _ z => by cases z⟩, a1, a4, a5, h⟩
    | _ => exact h.elim
theorem put_nx {ds : List PyData} {s : Sl} {D : Ends} (q : env[i]? = some s) (h : AftS K mg W C F (gE (gPut i ds) (fun _ => gNx) env) D) : ∀ σ F' H, Rel K C F' σ H (env.set i (putS ds s)) → Ex F F' → D.nx σ H := by
  unfold gE gPut at h
  rw [q] at h
  exact h
end
section
variable {X : Cx} {W : WX} {e e1 e2 : Expr} {ga gb gv gi : M PyData} {pos p1 p2 p3 apos : Pos} {x : Str}
theorem ss_setIx (i : Nat) (hv : SV X W e gv) (hi : SV X W e1 gi) (hN : X.N[i]? = some x := by rfl) (hvis : Vis X.env.scope x := by first | exact Or.inl rfl | exact Or.inr (Or.inl rfl) | exact Or.inr (Or.inr rfl))
    (hd : (x == ("__debug__" : Str)) = false := by decide) (hcd : (x == ("__classdict__" : Str)) = false := by decide)
    (hs : swapsWithSole [.Subscript (.Name x p1) e1 p2] e pos.line X.env = pure false := by rfl) (hw : swappedStores [.Subscript (.Name x p1) e1 p2] e X.env = pure none := by rfl)
    (h1 : (assignEach [.Subscript (.Name x p1) e1 p2] X.env).map (·.2) = [assign (.Subscript (.Name x p1) e1 p2) X.env] := by rfl)
    (ha : ∀ v, assign (.Subscript (.Name x p1) e1 p2) X.env v = (do
      let ov ← holding [v] (eval (.Name x p1) X.env)
      let iv ← holding [v, ov] (eval e1 X.env)
      standAt p2
      holding [v, ov, iv] (setItem ov iv v)
      release [v, ov, iv] []) := by intro _; rfl) :
    SS X W (.Assign [.Subscript (.Name x p1) e1 p2] e pos) (gSetIx i gv gi) :=
  ps_imp (ps_asg hv (pg_sub (pe_var hN hvis hd hcd) hi set_list ha) hs hw h1) fun D σ H ⟨C, F, env, R, h⟩ => by
    refine tE_bd R h fun d env1 v F1 H1 R1 ex1 o1 h1 => ?_
    obtain ⟨_, p, _, _, _, _, a1, _, _, h2⟩ := tE_held R1 h1
    refine ⟨.ref p, a1, tE_bd R1 h2 fun k env2 w F2 H2 R2 ex2 o2 h3 => ?_⟩
    obtain ⟨ds, p', vs, s, q, qo, b1, b2, b3, h4⟩ := tE_held R2 h3
    rw [a1] at b1
    cases b1
    cases o2 with
    | int k =>
      simp only at h4
      cases hj : ixN ds.length k with
      | none => rw [hj] at h4; exact h4.elim
      | some j =>
        rw [hj] at h4
        refine ⟨p, vs, k, j, rfl, rfl, b2, by rw [b3.len]; exact hj, ?_⟩
        exact put_nx q h4 _ F2 _ (R2.write q qo.1 a1 (DpAll.set (dp_mono ex2 o1) j b3) qo.2) (Ex.refl _)
    | _ => exact h4.elim
def gApp (i : Nat) (gb : M PyData) : S := gE (gHeld i) fun _ => gE gb fun d => gE (gHeld i) fun ds env => if ds.length < 16777216 then gE (gPut i (ds ++ [d])) (fun _ => gNx) env else none
theorem ss_app (i : Nat) (hb : SV X W e gb) (hN : X.N[i]? = some x := by rfl) (hvis : Vis X.env.scope x := by first | exact Or.inl rfl | exact Or.inr (Or.inl rfl) | exact Or.inr (Or.inr rfl))
    (hd : (x == ("__debug__" : Str)) = false := by decide) (hcd : (x == ("__classdict__" : Str)) = false := by decide)
    (hbase : attributeBase (.Name x p1) "append" X.env (eval (.Name x p1) X.env) = eval (.Name x p1) X.env := by rfl)
    (hfew : ((backTo p2 (starEach [e] X.env)).all (fun x => !x.1) && (backToKw p2 (keywordEach [] X.env)).all (fun x => x.1.isSome)
      && decide ([e].length + ([] : List Keyword).length + (if ([] : List Keyword).isEmpty then 0 else 1) < 30)) = true := by rfl)
    (hline : (apos.endLine == p2.line) = true := by rfl) (hs : starEach [e] X.env = (false, eval e X.env) :: starEach [] X.env := by rfl) (hplain : (backTo p2 (starEach [] X.env)).any (·.1) = false := by rfl)
    (hsw : swapsWith (.Call (.Attribute (.Name x p1) "append" apos) [e] [] p2) none pos.line X.env = pure false := by rfl) :
    SS X W (.Expr (.Call (.Attribute (.Name x p1) "append" apos) [e] [] p2) pos) (gApp i gb) :=
  ps_imp (ps_expr (pe_bm PySem.F.plainAttrs_list PySem.F.slot_list_append PySem.F.type_list_append mt_append (pe_var hN hvis hd hcd) (pa_cons hb pa_nil hs) hbase hfew hline hs hplain) hsw) fun D σ H ⟨C, F, env, R, h⟩ => by
    obtain ⟨_, p, vs0, _, _, _, a1, a2, _, h2⟩ := tE_held R h
    refine ⟨.ref p, a1, .inl ⟨rfl, _, SqL.of a2⟩, tE_bd R h2 fun d env2 w F2 H2 R2 ex2 o2 h3 => ?_⟩
    obtain ⟨ds, p', vs, s, q, qo, b1, b2, b3, h4⟩ := tE_held R2 h3
    rw [a1] at b1
    cases b1
    split at h4
    · rename_i hl
      refine ⟨p, vs, w, rfl, rfl, b2, by rw [b3.len, sizeLine_eq]; exact hl, ?_⟩
      exact put_nx q h4 _ F2 _ (R2.write q qo.1 a1 (b3.app (.cons o2 .nil)) qo.2) (Ex.refl _)
    · exact h4.elim
def gPopAt (i : Nat) (gb : M PyData) : M PyData := M.bd (gHeld i) fun _ => M.bd gb fun d => M.bd (gHeld i) fun ds => match d with
  | .int k => if -(2 ^ 63) ≤ k ∧ k < 2 ^ 63 then match seqIndex? k ds.length with
    | some j => match ds[j]? with
      | some y => M.bd (gPut i (ds.eraseIdx j)) fun _ => M.ok y
      | none => M.no
    | none => M.no else M.no
  | _ => M.no
theorem put_bd {K : PySem.W.Frag} {mg : Str → Option Value} {C : Cn} {F : Hp} {σ : St} {env : En} {i : Nat} {ds : List PyData} {s : Sl} {γ δ : Type} {ok : OkR γ δ} {f : Unit → M γ} {Q : δ → Hp → Prop} (q : env[i]? = some s) (h : After K mg ok W C F σ (M.bd (gPut i ds) f env) Q) :
    After K mg ok W C F σ (f () (env.set i (putS ds s))) Q := by
  unfold M.bd gPut at h
  rw [q] at h
  exact h
theorem sv_popAt (i : Nat) (hb : SV X W e gb) (hN : X.N[i]? = some x := by rfl) (hvis : Vis X.env.scope x := by first | exact Or.inl rfl | exact Or.inr (Or.inl rfl) | exact Or.inr (Or.inr rfl))
    (hd : (x == ("__debug__" : Str)) = false := by decide) (hcd : (x == ("__classdict__" : Str)) = false := by decide)
    (hbase : attributeBase (.Name x p1) "pop" X.env (eval (.Name x p1) X.env) = eval (.Name x p1) X.env := by rfl)
    (hfew : ((backTo p2 (starEach [e] X.env)).all (fun x => !x.1) && (backToKw p2 (keywordEach [] X.env)).all (fun x => x.1.isSome)
      && decide ([e].length + ([] : List Keyword).length + (if ([] : List Keyword).isEmpty then 0 else 1) < 30)) = true := by rfl)
    (hline : (apos.endLine == p2.line) = true := by rfl) (hs : starEach [e] X.env = (false, eval e X.env) :: starEach [] X.env := by rfl) (hplain : (backTo p2 (starEach [] X.env)).any (·.1) = false := by rfl) :
    SV X W (.Call (.Attribute (.Name x p1) "pop" apos) [e] [] p2) (gPopAt i gb) :=
  pe_imp (pe_bm PySem.F.plainAttrs_list PySem.F.slot_list_pop PySem.F.type_list_pop mt_popAt (pe_var hN hvis hd hcd) (pa_cons hb pa_nil hs) hbase hfew hline hs hplain) fun σ H Q ⟨C, F, env, R, h⟩ => by
    obtain ⟨_, p, vs0, _, _, _, a1, a2, _, h2⟩ := bd_held R h
    refine ⟨.ref p, a1, .inl ⟨rfl, _, SqL.of a2⟩, tG_bd R h2 fun d env2 w F2 H2 R2 ex2 o2 h3 => ?_⟩
    obtain ⟨ds, p', vs, s, q, qo, b1, b2, b3, h4⟩ := bd_held R2 h3
    rw [a1] at b1
    cases b1
    cases o2 with
    | int k =>
      by_cases hk : -(2 ^ 63) ≤ k ∧ k < 2 ^ 63
      · simp only [hk, and_self, if_true] at h4
        cases hj : seqIndex? k ds.length with
        | none => simp only [hj] at h4; exact h4.elim
        | some j =>
          simp only [hj] at h4
          cases hy : ds[j]? with
          | none => simp only [hy] at h4; exact h4.elim
          | some y =>
            simp only [hy] at h4
            obtain ⟨v, hv, dv⟩ := b3.get hy
            refine ⟨p, vs, k, j, v, rfl, rfl, b2, hk.1, hk.2, by rw [b3.len]; exact hj, hv, ?_⟩
            exact aft (ok := okV X.K) (put_bd q h4) (R2.write q qo.1 a1 (b3.erase j) qo.2) dv
      · simp only [hk, if_false] at h4
        exact h4.elim
    | _ => exact h4.elim
end
def loopL (b : PyData → En → Option En) (g : S) : List PyData → S
  | [] => gNx
  | d :: r => fun env => match b d env with
    | none => none
    | some env1 => match g env1 with
      | some (.nx env2) => loopL b g r env2
      | some (.ct env2) => loopL b g r env2
      | some (.bk env2) => some (.nx env2)
      | o => o
section
variable {K : PySem.W.Frag} {mg : Str → Option Value} {W : WX} {C : Cn} {F : Hp} {env : En} {b : PyData → En → Option En} {g : S} {D : Ends}
def Btw (K : PySem.W.Frag) (mg : Str → Option Value) (W : WX) (C : Cn) (F : Hp) (g : S) (D : Ends) : St → Hp → Prop := fun σ H => ∃ F' env', Rel K C F' σ H env' ∧ Ex F F' ∧ AftS K mg W C F' (g env') D
theorem loop_nil {σ : St} {H : Hp} (h : Btw K mg W C F (loopL b g []) D σ H) : D.nx σ H := by
  obtain ⟨F', env', R, ex, h⟩ := h
  exact h σ F' H R (Ex.refl _)
theorem loop_cons {d : PyData} {r : List PyData} (h : AftS K mg W C F (loopL b g (d :: r) env) D) :
    ∃ env1, b d env = some env1 ∧ AftS K mg W C F (g env1) { D with nx := Btw K mg W C F (loopL b g r) D, ct := Btw K mg W C F (loopL b g r) D, bk := D.nx } := by
  have e : loopL b g (d :: r) env = match b d env with
    | none => none
    | some env1 => match g env1 with
      | some (.nx env2) => loopL b g r env2
      | some (.ct env2) => loopL b g r env2
      | some (.bk env2) => some (.nx env2)
      | o => o := rfl
  rw [e] at h
  cases q : b d env with
  | none => rw [q] at h; exact h.elim
  | some env1 =>
    rw [q] at h
    refine ⟨env1, rfl, ?_⟩
    simp only at h
    cases q2 : g env1 with
    | none => rw [q2] at h; exact h
    | some o =>
      rw [q2] at h
      cases o with
      | nx env2 => exact fun σ F' H R ex => ⟨F', env2, R, ex, h.up ex⟩
      | ct env2 => exact fun σ F' H R ex => ⟨F', env2, R, ex, h.up ex⟩
      | bk env2 => exact h
      | rt d env2 => exact h
      | ro d env2 => exact h
      | er x env2 => exact h
theorem drop_at {α : Type} {l : List α} {i : Nat} {x : α} (h : l[i]? = some x) : l.drop i = x :: l.drop (i + 1) := by
  obtain ⟨hl, e⟩ := List.getElem?_eq_some_iff.mp h
  rw [List.drop_eq_getElem_cons hl, e]
theorem DpAll_at {K : PySem.W.Frag} {H : Hp} : ∀ {vs : List V} {ds : List PyData} {i : Nat} {v : V}, DpAll K H vs ds → vs[i]? = some v → ∃ d, ds[i]? = some d ∧ Dp K H v d
  | _, _, _, _, .nil, h => by simp at h
  | _, _, 0, _, .cons a _, h => by simp at h; subst h; exact ⟨_, rfl, a⟩
  | _, _, i + 1, _, .cons _ r, h => by
    obtain ⟨v, e, x⟩ := DpAll_at (i := i) r (by simpa using h)
    exact ⟨v, by simpa using e, x⟩
end
section
variable {X : Cx} {W : WX} {iter tg a1 a2 : Expr} {body : List Stmt} {ga gb : M PyData} {b : PyData → En → Option En} {g : S} {pos p1 p2 : Pos}
def gForT (ga : M PyData) (b : PyData → En → Option En) (g : S) : S := gE ga fun d => match d with
  | .tuple ds => loopL b g ds
  | _ => fun _ => none
def gForL (ga : M PyData) (b : PyData → En → Option En) (g : S) : S := gE ga fun d => match d with
  | .list ds => loopL b g ds
  | _ => fun _ => none
theorem ss_forT (hp : PassesOwn (model X.prog X.w) X.A X.env X.xe) (hc : X.calm = true) (hi : SV X W iter ga) (hg : SGt X tg b) (hb : SSs X W body g) (hs : ∀ x, foldedSetIterable iter X.env x = pure x := by intro _; rfl) :
    SS X W (.For tg iter body [] pos) (gForT ga b g) := by
  obtain ⟨t, pt, kt⟩ := hg
  refine ps_imp (ps_for hp hc (pi_tup hi) pt hb hs) fun D σ H ⟨C, F, env, R, h⟩ => tE_bd R h fun d env1 v F1 H1 R1 e1 o1 h1 => ?_
  cases o1 with
  | tup s r =>
    rename_i a xs ds
    refine ⟨a, rfl, ⟨xs, ex_t R1.fh s⟩, for_tup (xs := xs) (fun i => Btw X.K X.mg W C F1 (loopL b g (ds.drop i)) D) ⟨F1, env1, R1, Ex.refl _, h1⟩ (fun i σ H _ ⟨F', env', R', ex, _⟩ => ex_t (ex.trans R'.fh) s) (fun i x σ H hx ⟨F', env', R', ex, h2⟩ => ?_) (fun σ H hB => ?_)⟩
    · obtain ⟨d, hd, dd⟩ := DpAll_at r hx
      rw [drop_at hd] at h2
      obtain ⟨env2, hb2, h3⟩ := loop_cons h2
      refine kt C F' σ H env' env2 x d _ R' (dp_mono ex dd) hb2 fun σ2 R2 => ⟨C, F', env2, R2, ?_⟩
      exact h3.imp (fun _ _ ⟨F2, env3, R3, ex3, q⟩ => ⟨F2, env3, R3, ex.trans ex3, q⟩) (fun _ _ z => z) (fun _ _ z => z) (fun _ _ ⟨F2, env3, R3, ex3, q⟩ => ⟨F2, env3, R3, ex.trans ex3, q⟩)
    · have e : ds.drop xs.length = [] := List.drop_eq_nil_of_le (Nat.le_of_eq r.len.symm)
      rw [e] at hB
      exact loop_nil hB
  | _ => exact h1.elim
theorem ss_forL (hp : PassesOwn (model X.prog X.w) X.A X.env X.xe) (hc : X.calm = true) (hi : SV X W iter ga) (hg : SGt X tg b) (hb : SSs X W body g) (hs : ∀ x, foldedSetIterable iter X.env x = pure x := by intro _; rfl) :
    SS X W (.For tg iter body [] pos) (gForL ga b g) := by
  obtain ⟨t, pt, kt⟩ := hg
  refine ps_imp (ps_for hp hc (pi_list hi) pt hb hs) fun D σ H ⟨C, F, env, R, h⟩ => tE_bd R h fun d env1 v F1 H1 R1 e1 o1 h1 => ?_
  cases o1 with
  | lst s r =>
    rename_i a xs ds
    refine ⟨a, rfl, ⟨xs, ex_l R1.fh s⟩, for_list (xs := xs) (fun i => Btw X.K X.mg W C F1 (loopL b g (ds.drop i)) D) ⟨F1, env1, R1, Ex.refl _, h1⟩ (fun i σ H _ ⟨F', env', R', ex, _⟩ => ex_l (ex.trans R'.fh) s) (fun i x σ H hx ⟨F', env', R', ex, h2⟩ => ?_) (fun σ H hB => ?_)⟩
    · obtain ⟨d, hd, dd⟩ := DpAll_at r hx
      rw [drop_at hd] at h2
      obtain ⟨env2, hb2, h3⟩ := loop_cons h2
      refine kt C F' σ H env' env2 x d _ R' (dp_mono ex dd) hb2 fun σ2 R2 => ⟨C, F', env2, R2, ?_⟩
      exact h3.imp (fun _ _ ⟨F2, env3, R3, ex3, q⟩ => ⟨F2, env3, R3, ex.trans ex3, q⟩) (fun _ _ z => z) (fun _ _ z => z) (fun _ _ ⟨F2, env3, R3, ex3, q⟩ => ⟨F2, env3, R3, ex.trans ex3, q⟩)
    · have e : ds.drop xs.length = [] := List.drop_eq_nil_of_le (Nat.le_of_eq r.len.symm)
      rw [e] at hB
      exact loop_nil hB
  | _ => exact h1.elim
def rngD (lo : Int) (n : Nat) : List PyData := (List.range n).map fun (i : Nat) => .int (lo + (i : Int))
theorem rngD_len {lo : Int} {n : Nat} : (rngD lo n).length = n := by unfold rngD; rw [List.length_map, List.length_range]
theorem rngD_at {lo : Int} {n i : Nat} (h : i < n) : (rngD lo n)[i]? = some (.int (lo + (i : Int))) := by
  unfold rngD
  rw [List.getElem?_map, List.getElem?_range h]
  rfl
def gForR1 (ga : M PyData) (b : PyData → En → Option En) (g : S) : S := gE ga fun d => match d with
  | .int n => if -(2 ^ 62) ≤ n ∧ n < 2 ^ 62 then loopL b g (rngD 0 n.toNat) else fun _ => none
  | _ => fun _ => none
theorem ss_forR1 (hp : PassesOwn (model X.prog X.w) X.A X.env X.xe) (hc : X.calm = true) (hgl : Gl X "range") (hm : X.mg "range" = none) (hi : SV X W a1 ga) (hg : SGt X tg b) (hb : SSs X W body g)
    (h1 : starEach [a1] X.env = [(false, eval a1 X.env)] := by rfl) (h2 : starEach [a1] X.env = (false, eval a1 X.env) :: starEach [] X.env := by rfl) (hs : ∀ x, foldedSetIterable (.Call (.Name "range" p1) [a1] [] p2) X.env x = pure x := by intro _; rfl) :
    SS X W (.For tg (.Call (.Name "range" p1) [a1] [] p2) body [] pos) (gForR1 ga b g) := by
  obtain ⟨t, pt, kt⟩ := hg
  refine ps_imp (ps_for hp hc (pi_range1 hgl hm (pa_cons hi pa_nil h2) h1) pt hb hs) fun D σ H ⟨C, F, env, R, h⟩ => tE_bd R h fun d env1 v F1 H1 R1 e1 o1 h1 => ?_
  cases o1 with
  | int n =>
    simp only at h1
    split at h1
    · rename_i hn
      refine ⟨n, rfl, hn.1, hn.2, for_range (lo := 0) (n := n.toNat) (fun i => Btw X.K X.mg W C F1 (loopL b g ((rngD 0 n.toNat).drop i)) D) ⟨F1, env1, R1, Ex.refl _, h1⟩ (fun i σ H hx ⟨F', env', R', ex, h2⟩ => ?_) (fun σ H hB => ?_)⟩
      · rw [drop_at (rngD_at hx)] at h2
        obtain ⟨env2, hb2, h3⟩ := loop_cons h2
        refine kt C F' σ H env' env2 _ _ _ R' (.int _) hb2 fun σ2 R2 => ⟨C, F', env2, R2, ?_⟩
        exact h3.imp (fun _ _ ⟨F2, env3, R3, ex3, q⟩ => ⟨F2, env3, R3, ex.trans ex3, q⟩) (fun _ _ z => z) (fun _ _ z => z) (fun _ _ ⟨F2, env3, R3, ex3, q⟩ => ⟨F2, env3, R3, ex.trans ex3, q⟩)
      · have e : (rngD 0 n.toNat).drop n.toNat = [] := List.drop_eq_nil_of_le (by rw [rngD_len]; exact Nat.le_refl _)
        rw [e] at hB
        exact loop_nil hB
    · exact h1.elim
  | _ => exact h1.elim
def loopW (gt : M Bool) (g : S) : Nat → S
  | 0 => fun _ => none
  | n + 1 => gE gt fun k => if k = true then fun env => match g env with
      | some (.nx env2) => loopW gt g n env2
      | some (.ct env2) => loopW gt g n env2
      | some (.bk env2) => some (.nx env2)
      | o => o else gNx
theorem ss_while {c : Expr} {gt : M Bool} (n : Nat) (hp : PassesOwn (model X.prog X.w) X.A X.env X.xe) (hc : ST X W c gt) (hb : SSs X W body g) : SS X W (.While c body [] pos) (loopW gt g n) :=
  ps_imp (ps_while hp hc hb) fun D σ H ⟨C, F, env, R, h⟩ => by
    refine ⟨fun m => Btw X.K X.mg W C F (loopW gt g m) D, ⟨n, F, env, R, Ex.refl _, h⟩, fun m σ H ⟨F', env', R', ex, h2⟩ => ?_⟩
    cases m with
    | zero => exact h2.elim
    | succ m =>
      have h2 : AftS X.K X.mg W C F' (gE gt (fun k => if k = true then fun env => match g env with
        | some (.nx env2) => loopW gt g m env2
        | some (.ct env2) => loopW gt g m env2
        | some (.bk env2) => some (.nx env2)
        | o => o else gNx) env') D := h2
      refine tE_bd R' h2 fun k env2 k' F2 H2 R2 ex2 o2 h3 => ?_
      cases o2
      cases k with
      | false => exact h3 σ F2 H2 R2 (Ex.refl _)
      | true =>
        rw [if_pos rfl]
        refine ⟨Btw X.K X.mg W C F (loopW gt g m) D, fun σ' H' q => ⟨m, Nat.lt_succ_self m, q⟩, C, F2, env2, R2, ?_⟩
        simp only [if_true] at h3
        cases q2 : g env2 with
        | none => rw [q2] at h3; exact h3
        | some o =>
          rw [q2] at h3
          cases o with
          | nx env3 => exact fun σ F' H R ex3 => ⟨F', env3, R, (ex.trans ex2).trans ex3, h3.up ex3⟩
          | ct env3 => exact fun σ F' H R ex3 => ⟨F', env3, R, (ex.trans ex2).trans ex3, h3.up ex3⟩
          | bk env2 => exact h3
          | rt d env2 => exact h3
          | ro d env2 => exact h3
          | er x env2 => exact h3
end
end Pf
/-! part Pf8 -/
set_option Elab.async false
set_option linter.all false
set_option maxRecDepth 100000
set_option maxHeartbeats 2000000
namespace Pf
open PySem PySem.Spec L2 Evl
def wipeE : List Nat → En → En
  | [], env => env
  | v :: vs, env => (wipeE vs env).set v .no
def backE (env0 : En) : List Nat → En → En
  | [], env => env
  | v :: vs, env => (backE env0 vs env).set v (match env0[v]? with
    | some (.val d) => .val d
    | _ => .no)
theorem wipeE_at {env : En} {i : Nat} {s : Sl} : ∀ {vs : List Nat}, (wipeE vs env)[i]? = some s → (i ∈ vs ∧ s = .no) ∨ (i ∉ vs ∧ env[i]? = some s)
  | [], h => .inr ⟨by simp, h⟩
  | v :: vs, h => by
    unfold wipeE at h
    rcases set_at h with ⟨rfl, rfl, _⟩ | ⟨ne, h⟩
    · exact .inl ⟨List.mem_cons_self, rfl⟩
    · rcases wipeE_at h with ⟨a, b⟩ | ⟨a, b⟩
      · exact .inl ⟨List.mem_cons_of_mem _ a, b⟩
      · exact .inr ⟨by simp only [List.mem_cons, not_or]; exact ⟨ne, a⟩, b⟩
theorem backE_at {env0 env : En} {i : Nat} {s : Sl} : ∀ {vs : List Nat}, (backE env0 vs env)[i]? = some s → (i ∈ vs ∧ (s = .no ∨ ∃ d, s = .val d ∧ env0[i]? = some (.val d))) ∨ (i ∉ vs ∧ env[i]? = some s)
  | [], h => .inr ⟨by simp, h⟩
  | v :: vs, h => by
    unfold backE at h
    rcases set_at h with ⟨rfl, rfl, _⟩ | ⟨ne, h⟩
    · refine .inl ⟨List.mem_cons_self, ?_⟩
      split
      · rename_i d q; exact .inr ⟨d, rfl, q⟩
      · exact .inl rfl
    · rcases backE_at h with ⟨a, b⟩ | ⟨a, b⟩
      · exact .inl ⟨List.mem_cons_of_mem _ a, b⟩
      · exact .inr ⟨by simp only [List.mem_cons, not_or]; exact ⟨ne, a⟩, b⟩
theorem wipeE_len (env : En) : ∀ vs : List Nat, (wipeE vs env).length = env.length
  | [] => rfl
  | v :: vs => by unfold wipeE; rw [List.length_set, wipeE_len env vs]
theorem backE_len (env0 env : En) : ∀ vs : List Nat, (backE env0 vs env).length = env.length
  | [] => rfl
  | v :: vs => by unfold backE; rw [List.length_set, backE_len env0 env vs]
section
variable {K : PySem.W.Frag} {mg : Str → Option Value} {W : WX} {C : Cn} {F : Hp} {σ : St} {H : Hp} {env : En} {vs : List Nat}
theorem Rel.wipe (R : Rel K C F σ H env) (vs : List Nat) : Rel K C F (L2.wipe σ vs) H (wipeE vs env) where
  fh := R.fh
  cf := R.cf
  new := R.new
  pres := R.pres
  bd := R.bd
  sl := fun i s h => by
    rcases wipeE_at h with ⟨_, rfl⟩ | ⟨ne, h⟩
    · trivial
    · rw [wipe_out ne]; exact R.sl i s h
  dis := fun i j p o1 o2 => by
    have back : ∀ {i : Nat}, Owned (L2.wipe σ vs) (wipeE vs env) i p → Owned σ env i p := fun {i} ⟨s, e, b, a⟩ => by
      rcases wipeE_at e with ⟨_, rfl⟩ | ⟨ne, e⟩
      · cases b
      · exact ⟨s, e, b, by rw [wipe_out ne] at a; exact a⟩
    exact R.dis i j p (back o1) (back o2)
  len := by rw [wipeE_len, wipe_length]; exact R.len
  tb := R.tb
  nt := R.nt
theorem Rel.rewipe {σ2 : St} (R : Rel K C F σ2 H env) (e : L2.wipe σ2 vs = L2.wipe σ vs) : Rel K C F (L2.wipe σ vs) H (wipeE vs env) := by
  rw [← e]; exact R.wipe vs
theorem Rel.back {F0 H0 : Hp} {env0 : En} (R0 : Rel K C F0 σ H0 env0) (R : Rel K C F (L2.wipe σ vs) H env) (ex : Ex F0 F) : Rel K C F σ H (backE env0 vs env) where
  fh := R.fh
  cf := R.cf
  new := R.new
  pres := R.pres
  bd := R.bd
  sl := fun i s h => by
    rcases backE_at h with ⟨_, rfl | ⟨d, rfl, q⟩⟩ | ⟨ne, h⟩
    · trivial
    · obtain ⟨v, a1, a2⟩ := R0.sl i _ q
      exact ⟨v, a1, dp_mono ex a2⟩
    · have q := R.sl i s h
      rw [wipe_out ne] at q
      exact q
  dis := fun i j p o1 o2 => by
    have back : ∀ {i : Nat}, Owned σ (backE env0 vs env) i p → Owned (L2.wipe σ vs) env i p := fun {i} ⟨s, e, b, a⟩ => by
      rcases backE_at e with ⟨_, rfl | ⟨d, rfl, q⟩⟩ | ⟨ne, e⟩
      · cases b
      · cases b
      · exact ⟨s, e, b, by rw [wipe_out ne]; exact a⟩
    exact R.dis i j p (back o1) (back o2)
  len := by rw [backE_len, R.len, wipe_length]
  tb := R.tb
  nt := R.nt
theorem Rel.reguard {F0 H0 : Hp} {σ0 : St} {env0 : En} (R0 : Rel K C F0 σ0 H0 env0) {p : Addr} {xs ys : List V} (h2 : C.H p = none) (h3 : C.F p = none) (R : Rel K (C.guard p (.lst xs)) F σ H env) : F p = none ∧ Rel K (C.guard p (.lst ys)) F σ (upd H p (.lst ys)) env := by
  have hf : F p = none := by
    cases q : F p with
    | none => rfl
    | some u => have z : upd C.H p (.lst xs) p = none := R.new p h3 (by rw [q]; simp); rw [upd_same] at z; cases z
  have U := Rel.unguard R0 h2 R
  have ownne : ∀ i q, Owned σ env i q → q ≠ p := fun i q ⟨s, e, b, a⟩ z => by
    subst z
    have t := R.sl i s e
    cases s with
    | own es => obtain ⟨p', ws, a1, a2, a3, _⟩ := t; rw [a] at a1; cases a1; have a3 : upd C.H q (.lst xs) q = none := a3; rw [upd_same] at a3; cases a3
    | bor es => obtain ⟨p', ws, a1, a2, a3, _⟩ := t; rw [a] at a1; cases a1; exact (R0.bd q a3).2.2 h2
    | obj ob => obtain ⟨p', a1, a2, a3, _⟩ := t; rw [a] at a1; cases a1; have a3 : upd C.H q (.lst xs) q = none := a3; rw [upd_same] at a3; cases a3
    | _ => cases b
  refine ⟨hf, ?_⟩
  have G : Rel K C F σ (upd H p (.lst ys)) env := {
    fh := U.fh.mut hf
    cf := U.cf
    new := U.new
    pres := fun a u q hb => by rw [upd_ne (ne_of_none q h2)]; exact U.pres a u q hb
    bd := fun b hb => by
      refine ⟨?_, (U.bd b hb).2⟩
      have ne : b ≠ p := fun e => (R0.bd b hb).2.2 (by rw [e]; exact h2)
      rw [upd_ne ne]; exact (U.bd b hb).1
    sl := fun i s hs => by
      have q := U.sl i s hs
      cases s with
      | no => trivial
      | val d => exact q
      | own es => obtain ⟨p', ws, a1, a2, a3, a4, a5⟩ := q; exact ⟨p', ws, a1, a2, a3, by rw [upd_ne (ownne i p' ⟨_, hs, rfl, a1⟩)]; exact a4, a5⟩
      | bor es => obtain ⟨p', ws, a1, a2, a3, a4, a5⟩ := q; exact ⟨p', ws, a1, a2, a3, by rw [upd_ne (ownne i p' ⟨_, hs, rfl, a1⟩)]; exact a4, a5⟩
      | obj ob => obtain ⟨p', a1, a2, a3, a4⟩ := q; exact ⟨p', a1, a2, a3, by rw [upd_ne (ownne i p' ⟨_, hs, rfl, a1⟩)]; exact a4⟩
      | raw v => exact q
      | exc a dd fs => exact q
      | tab T => exact q
    dis := U.dis
    len := U.len
    nt := U.nt
    tb := tabs_lst U.tb (Rel.guarded (fun b hb => (R0.bd b hb).2.2) h2 R) fun a o ne e => by rw [upd_ne ne]; exact e }
  exact G.guard hf h2 upd_same fun i o => ownne i p o rfl
end
def loopC (vs : List Nat) (b : PyData → En → Option En) (gt : M Bool) (ge : M PyData) : List PyData → List PyData → En → Option (List PyData × En)
  | [], acc, env => some (acc, env)
  | d :: r, acc, env => match b d env with
    | none => none
    | some env1 => match gt env1 with
      | some (.ok (true, env2)) => match ge env2 with
        | some (.ok (y, env3)) => if acc.length < 16777216 then loopC vs b gt ge r (acc ++ [y]) (wipeE vs env3) else none
        | _ => none
      | some (.ok (false, env2)) => loopC vs b gt ge r acc (wipeE vs env2)
      | _ => none
def gLc (vs : List Nat) (b : PyData → En → Option En) (gt : M Bool) (ge : M PyData) (ds : List PyData) : M (List PyData) := fun env => match loopC vs b gt ge ds [] (wipeE vs env) with
  | none => none
  | some (acc, env') => some (.ok (acc, backE env vs env'))
def gYes : M Bool := M.ok true
abbrev W0 : WX := fun _ _ _ _ => False
section
variable {K : PySem.W.Frag} {mg : Str → Option Value} {W : WX} {C : Cn} {F0 F1 : Hp} {σ : St} {H1 : Hp} {env1 : En} {vs : List Nat} {b : PyData → En → Option En} {gt : M Bool} {ge : M PyData} {ds : List PyData} {Q : VK} {g : TG}
def BtwC (K : PySem.W.Frag) (C : Cn) (F1 : Hp) (σ : St) (vs : List Nat) (b : PyData → En → Option En) (gt : M Bool) (ge : M PyData) (D : Addr) (out : List PyData × En) (r : List PyData) (H : Hp) : Prop :=
  ∃ F env accV acc, Rel K (C.guard D (.lst accV)) F (wipe σ vs) H env ∧ Ex F1 F ∧ DpAll K F accV acc ∧ loopC vs b gt ge r acc env = some out
theorem btw_start {D : Addr} {out} (R : Rel K C F1 σ H1 env1) (hD : H1 D = none) (h : loopC vs b gt ge ds [] (wipeE vs env1) = some out) : BtwC K C F1 σ vs b gt ge D out ds (upd H1 D (.lst [])) := by
  have f := R.fresh hD
  refine ⟨F1, _, [], [], ?_, Ex.refl _, .nil, h⟩
  have R' := (R.newH (o := .lst []) hD).wipe vs
  exact R'.guard f.1 f.2 upd_same fun i o => by
    obtain ⟨s, e, o, a⟩ := o
    have q := R'.sl i s e
    rcases wipeE_at e with ⟨_, rfl⟩ | ⟨ne, e⟩
    · cases o
    · have q := R.sl i s e
      rw [wipe_out ne] at a
      cases s with
      | own es => obtain ⟨p', ws, a1, a2, a3, a4, a5⟩ := q; rw [a] at a1; cases a1; rw [hD] at a4; cases a4
      | bor es => obtain ⟨p', ws, a1, a2, a3, a4, a5⟩ := q; rw [a] at a1; cases a1; rw [hD] at a4; cases a4
      | obj ob => obtain ⟨p', a1, a2, a3, a4⟩ := q; rw [a] at a1; cases a1; rw [hD] at a4; cases a4
      | _ => cases o
theorem btw_turn {D : Addr} {out} {H : Hp} {x : V} {d : PyData} {r : List PyData} {j : Nat} (R0 : Rel K C F1 σ H1 env1) (hD : H1 D = none) (hj : j ∈ vs) (hb : b = bN j) (hx : Dp K F1 x d) (h : BtwC K C F1 σ vs b gt ge D out (d :: r) H) :
    wipe ((wipe σ vs).set j (some x)) vs = wipe σ vs ∧ tG K mg okB W0 gt ((wipe σ vs).set j (some x)) H fun k H3 => if k = true then tG K mg (okV K) W0 ge ((wipe σ vs).set j (some x)) H3 fun y H4 => ∃ acc, H4 D = some (.lst acc) ∧ acc.length < sizeLine ∧ BtwC K C F1 σ vs b gt ge D out r (upd H4 D (.lst (acc ++ [y])))
      else BtwC K C F1 σ vs b gt ge D out r H3 := by
  have f := R0.fresh hD
  have hw : wipe ((wipe σ vs).set j (some x)) vs = wipe σ vs := by
    have key : ∀ (τ : St) (ws : List Nat), (∀ i, i ∉ ws → τ[i]? = σ[i]?) → τ.length = σ.length → ∀ us : List Nat, us ⊆ ws → ∀ i, (i ∈ us ∨ i ∉ ws) → (wipe τ us)[i]? = (wipe σ us)[i]? := by
      intro τ ws ht hl us
      induction us with
      | nil =>
        intro _ i hi
        rcases hi with hi | hi
        · cases hi
        · exact ht i hi
      | cons u us ih =>
        intro hs i hi
        unfold wipe
        by_cases e : u = i
        · subst e
          by_cases hu : u < σ.length
          · rw [List.getElem?_set_self (by rw [wipe_length, hl]; exact hu), List.getElem?_set_self (by rw [wipe_length]; exact hu)]
          · rw [List.getElem?_eq_none (by rw [List.length_set, wipe_length, hl]; omega), List.getElem?_eq_none (by rw [List.length_set, wipe_length]; omega)]
        · rw [List.getElem?_set_ne e, List.getElem?_set_ne e]
          refine ih (fun z hz => hs (List.mem_cons_of_mem _ hz)) i ?_
          rcases hi with hi | hi
          · rcases List.mem_cons.mp hi with rfl | hi
            · exact absurd rfl e
            · exact .inl hi
          · exact .inr hi
    have same : ∀ (τ : St), (∀ i, i ∉ vs → τ[i]? = σ[i]?) → τ.length = σ.length → wipe τ vs = wipe σ vs := fun τ ht hl => by
      apply List.ext_getElem?
      intro i
      by_cases hi : i ∈ vs
      · exact key τ vs ht hl vs (fun _ z => z) i (.inl hi)
      · exact key τ vs ht hl vs (fun _ z => z) i (.inr hi)
    refine same _ (fun i hi => ?_) (by rw [List.length_set, wipe_length])
    rw [List.getElem?_set_ne (fun e => hi (by rw [← e]; exact hj)), wipe_out hi]
  refine ⟨hw, ?_⟩
  obtain ⟨F, env, accV, acc, R, ex, ha, hl⟩ := h
  subst hb
  have hl : (match gt (env.set j (.val d)) with
      | some (.ok (true, env2)) => match ge env2 with
        | some (.ok (y, env3)) => if acc.length < 16777216 then loopC vs (bN j) gt ge r (acc ++ [y]) (wipeE vs env3) else none
        | _ => none
      | some (.ok (false, env2)) => loopC vs (bN j) gt ge r acc (wipeE vs env2)
      | _ => none) = some out := hl
  refine ⟨_, F, env.set j (.val d), R.store j (dp_mono ex hx), ?_⟩
  cases q : gt (env.set j (.val d)) with
  | none => rw [q] at hl; cases hl
  | some z =>
    rw [q] at hl
    cases z with
    | error z => cases hl
    | ok z =>
      obtain ⟨k, env2⟩ := z
      intro k' F3 H3 R3 ex3 ek
      cases ek
      cases k with
      | false => exact ⟨F3, _, accV, acc, R3.rewipe hw, ex.trans ex3, dps_mono ex3 ha, hl⟩
      | true =>
        simp only [if_true] at hl ⊢
        refine ⟨_, F3, env2, R3, ?_⟩
        cases q2 : ge env2 with
        | none => rw [q2] at hl; cases hl
        | some z =>
          rw [q2] at hl
          cases z with
          | error z => cases hl
          | ok z =>
            obtain ⟨y, env3⟩ := z
            intro v F4 H4 R4 ex4 dv
            simp only at hl
            split at hl
            · rename_i hlen
              have hG : H4 D = some (.lst accV) := R4.guarded (fun b hb => (R0.bd b hb).2.2) f.2
              have hcf : C.F D = none := by
                cases z : C.F D with
                | none => rfl
                | some u => have := R0.cf D u z; rw [f.1] at this; cases this
              obtain ⟨hf4, R5⟩ := Rel.reguard (ys := (accV ++ [v])) R0 f.2 hcf R4
              have ha4 := dps_mono ex4 (dps_mono ex3 ha)
              refine ⟨accV, hG, by rw [ha4.len, sizeLine_eq]; exact hlen, F4, _, accV ++ [v], acc ++ [y], R5.rewipe hw, (ex.trans ex3).trans ex4, ha4.app (.cons dv .nil), hl⟩
            · cases hl
theorem btw_end {D : Addr} {acc : List PyData} {env' : En} {H : Hp} (R0 : Rel K C F1 σ H1 env1) (hD : H1 D = none) (h : BtwC K C F1 σ vs b gt ge D (acc, env') [] H) :
    ∃ F, Rel K C F σ H (backE env1 vs env') ∧ Ex F1 F ∧ okO K C F σ H (backE env1 vs env') acc (.ref D) := by
  have f := R0.fresh hD
  obtain ⟨F, env, accV, acc', R, ex, ha, hl⟩ := h
  have e : (acc', env) = (acc, env') := Option.some.inj hl
  cases e
  have hG : H D = some (.lst accV) := R.guarded (fun b hb => (R0.bd b hb).2.2) f.2
  have hcf : C.F D = none := by
    cases z : C.F D with
    | none => rfl
    | some u => have := R0.cf D u z; rw [f.1] at this; cases this
  have hf := (Rel.reguard (ys := accV) R0 f.2 hcf R).1
  have U := Rel.unguard R0 f.2 R
  have B := R0.back U ex
  refine ⟨F, B, ex, D, accV, rfl, hf, f.2, hG, ha, fun i ⟨s, e1, e2, e3⟩ => ?_⟩
  rcases backE_at e1 with ⟨_, rfl | ⟨d, rfl, _⟩⟩ | ⟨ne, e1⟩
  · cases e2
  · cases e2
  · have q := R.sl i s e1
    rw [wipe_out ne, e3] at q
    cases s with
    | own es => obtain ⟨p', ws, a1, a2, a3, _⟩ := q; cases a1; have a3 : upd C.H D (.lst accV) D = none := a3; rw [upd_same] at a3; cases a3
    | bor es => obtain ⟨p', ws, a1, a2, a3, _⟩ := q; cases a1; exact (R0.bd D a3).2.2 f.2
    | obj ob => obtain ⟨p', a1, a2, a3, _⟩ := q; cases a1; have a3 : upd C.H D (.lst accV) D = none := a3; rw [upd_same] at a3; cases a3
    | _ => cases e2
theorem lc_out {env : En} {ds : List PyData} (h : After K mg (okO K) W C F1 σ (gLc vs b gt ge ds env) Q) : ∃ out, loopC vs b gt ge ds [] (wipeE vs env) = some out ∧ After K mg (okO K) W C F1 σ (M.ok out.1 (backE env vs out.2)) Q := by
  unfold gLc at h
  cases q : loopC vs b gt ge ds [] (wipeE vs env) with
  | none => rw [q] at h; exact h.elim
  | some o => rw [q] at h; exact ⟨o, rfl, h⟩
end
section
variable {X : Cx} {W : WX} {elt iter a1 a2 : Expr} {ifs : List Expr} {scope : Scope} {own : List (Str × Nat)} {ga gb : M PyData} {gt : M Bool} {ge : M PyData} {pos p0 p1 p2 : Pos} {x : Str} {j : Nat}
def tupO (d : PyData) : Option (List PyData) := match d with
  | .tuple ds => some ds
  | _ => none
def lstO (d : PyData) : Option (List PyData) := match d with
  | .list ds => some ds
  | _ => none
def rngO (d : PyData) : Option (List PyData) := match d with
  | .int n => if -(2 ^ 62) ≤ n ∧ n < 2 ^ 62 then some (rngD 0 n.toNat) else none
  | _ => none
abbrev STs (X : Cx) (W : WX) (ifs : List Expr) (g : M Bool) : Prop := PTs X ifs (tG X.K X.mg okB W g)
theorem sts_nil : STs X W [] gYes := ⟨fun pins s σ H Q I ⟨C, F, env, R, h⟩ => pts_nil.run pins s σ H Q I (aft (ok := okB) h R rfl)⟩
theorem sts_one {c : Expr} {g : M Bool} (h : ST X W c g) : STs X W [c] g := pts_one h
theorem so_lcT (hc : X.calm = true) (hN : X.N.Nodup) (hi : SV X W iter ga) (ok : BlkOk X.N X.env.scope scope own) (hj : j ∈ own.map (·.2))
    (hg : ∀ (s : Shared) (H : Hp) (C : Addr) (cl : List (Str × Addr)) (fp : List Addr), PG (X.blk s H scope (compEnvC scope cl C X.env) fp) (.Name x p1) (gName j)) (ht : ∀ (s : Shared) (H : Hp) (C : Addr) (cl : List (Str × Addr)) (fp : List Addr), STs (X.blk s H scope (compEnvC scope cl C X.env) fp) W0 ifs gt)
    (he : ∀ (s : Shared) (H : Hp) (C : Addr) (cl : List (Str × Addr)) (fp : List Addr), SV (X.blk s H scope (compEnvC scope cl C X.env) fp) W0 elt ge) (hs : ∀ x, foldedSetIterable iter X.env x = pure x := by intro _; rfl) :
    SO X W (.ListComp elt [⟨.Name x p1, iter, ifs, 0⟩] scope pos) (M.bd ga fun d => M.bd (M.opt (tupO d)) fun ds => gLc (own.map (·.2)) (bN j) gt ge ds) :=
  pe_imp (pe_lc (tt := tG X.K X.mg okB W0 gt) (te := tG X.K X.mg (okV X.K) W0 ge) hc hN (pi_tup hi) ok hg ht he hs) fun σ H Q ⟨C, F, env, R, h⟩ => tG_bd R h fun d env1 v F1 H1 R1 e1 o1 h1 => by
    obtain ⟨ds, hds, h2⟩ := bd_opt h1
    obtain ⟨out, hl, h3⟩ := lc_out h2
    cases o1 with
    | tup s r =>
      cases hds
      rename_i a xs
      refine ⟨a, rfl, ⟨xs, ex_t R1.fh s⟩, fun D hD => lc_tup (xs := xs) (fun i => BtwC X.K C F1 σ (own.map (·.2)) (bN j) gt ge D out (ds.drop i)) (btw_start R1 hD hl) (fun i H _ ⟨F, env, accV, acc, R, ex, _⟩ => ex_t (ex.trans R.fh) s) (fun i x H hx hB => ?_) (fun H hB => ?_)⟩
      · obtain ⟨d, hd, dd⟩ := DpAll_at r hx
        rw [drop_at hd] at hB
        exact btw_turn (mg := X.mg) R1 hD hj rfl dd hB
      · rw [List.drop_eq_nil_of_le (Nat.le_of_eq r.len.symm)] at hB
        obtain ⟨F2, R2, ex2, o2⟩ := btw_end R1 hD hB
        exact aft' (ok := okO X.K) h3 R2 ex2 o2
    | _ => cases hds
theorem so_lcL (hc : X.calm = true) (hN : X.N.Nodup) (hi : SV X W iter ga) (ok : BlkOk X.N X.env.scope scope own) (hj : j ∈ own.map (·.2))
    (hg : ∀ (s : Shared) (H : Hp) (C : Addr) (cl : List (Str × Addr)) (fp : List Addr), PG (X.blk s H scope (compEnvC scope cl C X.env) fp) (.Name x p1) (gName j)) (ht : ∀ (s : Shared) (H : Hp) (C : Addr) (cl : List (Str × Addr)) (fp : List Addr), STs (X.blk s H scope (compEnvC scope cl C X.env) fp) W0 ifs gt)
    (he : ∀ (s : Shared) (H : Hp) (C : Addr) (cl : List (Str × Addr)) (fp : List Addr), SV (X.blk s H scope (compEnvC scope cl C X.env) fp) W0 elt ge) (hs : ∀ x, foldedSetIterable iter X.env x = pure x := by intro _; rfl) :
    SO X W (.ListComp elt [⟨.Name x p1, iter, ifs, 0⟩] scope pos) (M.bd ga fun d => M.bd (M.opt (lstO d)) fun ds => gLc (own.map (·.2)) (bN j) gt ge ds) :=
  pe_imp (pe_lc (tt := tG X.K X.mg okB W0 gt) (te := tG X.K X.mg (okV X.K) W0 ge) hc hN (pi_list hi) ok hg ht he hs) fun σ H Q ⟨C, F, env, R, h⟩ => tG_bd R h fun d env1 v F1 H1 R1 e1 o1 h1 => by
    obtain ⟨ds, hds, h2⟩ := bd_opt h1
    obtain ⟨out, hl, h3⟩ := lc_out h2
    cases o1 with
    | lst s r =>
      cases hds
      rename_i a xs
      refine ⟨a, rfl, ⟨xs, ex_l R1.fh s⟩, fun D hD => lc_list (xs := xs) (fun i => BtwC X.K C F1 σ (own.map (·.2)) (bN j) gt ge D out (ds.drop i)) (btw_start R1 hD hl) (fun i H _ ⟨F, env, accV, acc, R, ex, _⟩ => ex_l (ex.trans R.fh) s) (fun i x H hx hB => ?_) (fun H hB => ?_)⟩
      · obtain ⟨d, hd, dd⟩ := DpAll_at r hx
        rw [drop_at hd] at hB
        exact btw_turn (mg := X.mg) R1 hD hj rfl dd hB
      · rw [List.drop_eq_nil_of_le (Nat.le_of_eq r.len.symm)] at hB
        obtain ⟨F2, R2, ex2, o2⟩ := btw_end R1 hD hB
        exact aft' (ok := okO X.K) h3 R2 ex2 o2
    | _ => cases hds
theorem so_lcR1 (hc : X.calm = true) (hN : X.N.Nodup) (hgl : Gl X "range") (hm : X.mg "range" = none) (hi : SV X W a1 ga) (ok : BlkOk X.N X.env.scope scope own) (hj : j ∈ own.map (·.2))
    (hg : ∀ (s : Shared) (H : Hp) (C : Addr) (cl : List (Str × Addr)) (fp : List Addr), PG (X.blk s H scope (compEnvC scope cl C X.env) fp) (.Name x p1) (gName j)) (ht : ∀ (s : Shared) (H : Hp) (C : Addr) (cl : List (Str × Addr)) (fp : List Addr), STs (X.blk s H scope (compEnvC scope cl C X.env) fp) W0 ifs gt)
    (he : ∀ (s : Shared) (H : Hp) (C : Addr) (cl : List (Str × Addr)) (fp : List Addr), SV (X.blk s H scope (compEnvC scope cl C X.env) fp) W0 elt ge)
    (h1 : starEach [a1] X.env = [(false, eval a1 X.env)] := by rfl) (h2 : starEach [a1] X.env = (false, eval a1 X.env) :: starEach [] X.env := by rfl) (hs : ∀ x, foldedSetIterable (.Call (.Name "range" p0) [a1] [] p2) X.env x = pure x := by intro _; rfl) :
    SO X W (.ListComp elt [⟨.Name x p1, .Call (.Name "range" p0) [a1] [] p2, ifs, 0⟩] scope pos) (M.bd ga fun d => M.bd (M.opt (rngO d)) fun ds => gLc (own.map (·.2)) (bN j) gt ge ds) :=
  pe_imp (pe_lc (tt := tG X.K X.mg okB W0 gt) (te := tG X.K X.mg (okV X.K) W0 ge) hc hN (pi_range1 hgl hm (pa_cons hi pa_nil h2) h1) ok hg ht he hs) fun σ H Q ⟨C, F, env, R, h⟩ => tG_bd R h fun d env1 v F1 H1 R1 e1 o1 h1 => by
    obtain ⟨ds, hds, h2⟩ := bd_opt h1
    obtain ⟨out, hl, h3⟩ := lc_out h2
    cases o1 with
    | int n =>
      simp only [rngO] at hds
      split at hds
      · rename_i hn
        cases hds
        refine ⟨n, rfl, hn.1, hn.2, fun D hD => lc_range (lo := 0) (n := n.toNat) (fun i => BtwC X.K C F1 σ (own.map (·.2)) (bN j) gt ge D out ((rngD 0 n.toNat).drop i)) (btw_start R1 hD hl) (fun i H hx hB => ?_) (fun H hB => ?_)⟩
        · rw [drop_at (rngD_at hx)] at hB
          exact btw_turn (mg := X.mg) R1 hD hj rfl (.int _) hB
        · rw [List.drop_eq_nil_of_le (by rw [rngD_len]; exact Nat.le_refl _)] at hB
          obtain ⟨F2, R2, ex2, o2⟩ := btw_end R1 hD hB
          exact aft' (ok := okO X.K) h3 R2 ex2 o2
      · cases hds
    | _ => cases hds
end
end Pf
/-! part Pf9 -/
set_option Elab.async false
set_option linter.all false
set_option maxRecDepth 100000
set_option maxHeartbeats 2000000
namespace Pf
open PySem PySem.Spec L2 Evl
structure Exit (F H : Hp) (B : List Addr) (F' H' : Hp) : Prop where
  ff : Ex F F'
  fh : Ex F' H'
  new : ∀ a, F a = none → F' a ≠ none → H a = none
  pres : ∀ a o, H a = some o → a ∉ B → H' a = some o
  nt : NT F'
abbrev Rf (α : Type) := Option (Except Xc α)
section
variable (K : PySem.W.Frag) (mg : Str → Option Value)
def SpD (n : Nat) (f : List PyData → Rf PyData) : Sp := fun vs H Q E => ∃ F ds, (Ex F H ∧ NT F) ∧ DpAll K F vs ds ∧ ds.length = n ∧ match f ds with
  | none => False
  | some (.ok d) => ∀ v F' H', Exit F H [] F' H' → Dp K F' v d → Q v H'
  | some (.error x) => ∀ F' H' cls dx, Exit F H [] F' H' → XOk K mg F' H' cls dx x → E cls dx H'
def SpO (n : Nat) (f : List PyData → Rf (List PyData)) : Sp := fun vs H Q E => ∃ F ds, (Ex F H ∧ NT F) ∧ DpAll K F vs ds ∧ ds.length = n ∧ match f ds with
  | none => False
  | some (.ok es) => ∀ p ws F' H', Exit F H [] F' H' → F' p = none → H p = none → H' p = some (.lst ws) → DpAll K F' ws es → Q (.ref p) H'
  | some (.error x) => ∀ F' H' cls dx, Exit F H [] F' H' → XOk K mg F' H' cls dx x → E cls dx H'
def SpB (n : Nat) (f : List PyData → List PyData → Rf (PyData × List PyData)) : Sp := fun vs H Q E => ∃ F p ws st vs' ds, vs = .ref p :: vs' ∧ (Ex F H ∧ NT F) ∧ F p = none ∧ H p = some (.lst ws) ∧ DpAll K F ws st ∧ DpAll K F vs' ds ∧ ds.length = n ∧ match f st ds with
  | none => False
  | some (.ok (d, st')) => ∀ v F' H' ws', Exit F H [p] F' H' → F' p = none → H' p = some (.lst ws') → DpAll K F' ws' st' → Dp K F' v d → Q v H'
  | some (.error x) => False
def SpBO (n : Nat) (f : List PyData → List PyData → Rf (List PyData × List PyData)) : Sp := fun vs H Q E => ∃ F p ws st vs' ds, vs = .ref p :: vs' ∧ (Ex F H ∧ NT F) ∧ F p = none ∧ H p = some (.lst ws) ∧ DpAll K F ws st ∧ DpAll K F vs' ds ∧ ds.length = n ∧ match f st ds with
  | none => False
  | some (.ok (es, st')) => ∀ q us F' H' ws', Exit F H [p] F' H' → F' p = none → H' p = some (.lst ws') → DpAll K F' ws' st' → F' q = none → H q = none → H' q = some (.lst us) → DpAll K F' us es → Q (.ref q) H'
  | some (.error x) => False
end
def envD (N : Nat) (ds : List PyData) : En := ds.map .val ++ List.replicate (N - ds.length) .no
def fnD (G : S) (N : Nat) (ds : List PyData) : Rf PyData := match G (envD N ds) with
  | some (.rt d _) => some (.ok d)
  | some (.nx _) => some (.ok .none)
  | some (.ro es _) => some (.ok (.list es))
  | some (.er x _) => some (.error x)
  | _ => none
def fnO (G : S) (N : Nat) (ds : List PyData) : Rf (List PyData) := match G (envD N ds) with
  | some (.ro es _) => some (.ok es)
  | some (.er x _) => some (.error x)
  | _ => none
def envB (N : Nat) (st ds : List PyData) : En := .bor st :: (ds.map .val ++ List.replicate (N - 1 - ds.length) .no)
def fnB (G : S) (N : Nat) (st ds : List PyData) : Rf (PyData × List PyData) := match G (envB N st ds) with
  | some (.rt d (.bor st' :: _)) => some (.ok (d, st'))
  | some (.nx (.bor st' :: _)) => some (.ok (.none, st'))
  | some (.ro es (.bor st' :: _)) => some (.ok (.list es, st'))
  | _ => none
def fnBO (G : S) (N : Nat) (st ds : List PyData) : Rf (List PyData × List PyData) := match G (envB N st ds) with
  | some (.ro es (.bor st' :: _)) => some (.ok (es, st'))
  | _ => none
section
variable {K : PySem.W.Frag} {mg : Str → Option Value} {F H F' H' : Hp} {σ : St} {env : En} {B : List Addr}
theorem Rel.exit (R : Rel K ⟨F, H, B, []⟩ F' σ H' env) : Exit F H B F' H' := ⟨R.cf, R.fh, R.new, R.pres, R.nt⟩
theorem Exit.freezeO {v : V} {es : List PyData} (R : Rel K ⟨F, H, B, []⟩ F' σ H' env) (o : okO K ⟨F, H, B, []⟩ F' σ H' env es v) : ∃ F2, Exit F H B F2 H' ∧ Ex F' F2 ∧ Dp K F2 v (.list es) ∧ Rel K ⟨F, H, B, []⟩ F2 σ H' env := by
  obtain ⟨p, vs, rfl, ex, R2, dp⟩ := R.freezeO o
  exact ⟨_, R2.exit, ex, dp, R2⟩
theorem rel_start {N : List Str} {vs : List V} {ds : List PyData} (hF : Ex F H ∧ NT F) (h : DpAll K F vs ds) (hl : ds.length ≤ N.length) : Rel K ⟨F, H, [], []⟩ F (L2.start N vs) H (envD N.length ds) where
  fh := hF.1
  nt := hF.2
  cf := Ex.refl _
  new := fun a h1 h2 => absurd h1 h2
  pres := fun a o q _ => q
  bd := fun b hb => by cases hb
  sl := fun i s hs => by
    unfold envD at hs
    have hv := h.len
    by_cases hi : i < ds.length
    · rw [List.getElem?_append_left (by simpa using hi), List.getElem?_map] at hs
      cases q : ds[i]? with
      | none => rw [q] at hs; cases hs
      | some d =>
        rw [q] at hs
        cases hs
        obtain ⟨v, e, dv⟩ := h.get q
        refine ⟨v, ?_, dv⟩
        unfold L2.start
        rw [List.getElem?_append_left (by simp; omega), List.getElem?_map, e]
        rfl
    · rw [List.getElem?_append_right (by simpa using hi)] at hs
      rw [List.getElem?_replicate] at hs
      split at hs
      · cases hs; trivial
      · cases hs
  dis := fun i j p o _ => by
    obtain ⟨s, e, b, _⟩ := o
    unfold envD at e
    by_cases hi : i < ds.length
    · rw [List.getElem?_append_left (by simpa using hi), List.getElem?_map] at e
      cases q : ds[i]? with
      | none => rw [q] at e; cases e
      | some d => rw [q] at e; cases e; cases b
    · rw [List.getElem?_append_right (by simpa using hi), List.getElem?_replicate] at e
      split at e
      · cases e; cases b
      · cases e
  len := by
    unfold envD L2.start
    have hv := h.len
    simp only [List.length_append, List.length_map, List.length_replicate, hv]
  tb := fun q hq => nomatch hq
theorem rel_startB {N : List Str} {vs ws : List V} {st ds : List PyData} {p : Addr} (hF : Ex F H ∧ NT F) (hp : F p = none) (hH : H p = some (.lst ws)) (hs : DpAll K F ws st) (h : DpAll K F vs ds) (hl : ds.length + 1 ≤ N.length) :
    Rel K ⟨F, H, [p], []⟩ F (L2.start N (.ref p :: vs)) H (envB N.length st ds) where
  fh := hF.1
  nt := hF.2
  cf := Ex.refl _
  new := fun a h1 h2 => absurd h1 h2
  pres := fun a o q _ => q
  bd := fun b hb => by
    have e : b = p := by simpa using hb
    subst e
    exact ⟨by rw [hH]; simp, hp, by show H b ≠ none; rw [hH]; simp⟩
  sl := fun i s hi => by
    unfold envB at hi
    unfold L2.start
    have hv := h.len
    cases i with
    | zero =>
      have e : Sl.bor st = s := by simpa using hi
      subst e
      exact ⟨p, ws, rfl, hp, List.mem_cons_self, hH, hs⟩
    | succ i =>
      have hi : (ds.map Sl.val ++ List.replicate (N.length - 1 - ds.length) Sl.no)[i]? = some s := by simpa using hi
      by_cases hl : i < ds.length
      · rw [List.getElem?_append_left (by simpa using hl), List.getElem?_map] at hi
        cases q : ds[i]? with
        | none => rw [q] at hi; cases hi
        | some d =>
          rw [q] at hi
          cases hi
          obtain ⟨v, e, dv⟩ := h.get q
          refine ⟨v, ?_, dv⟩
          rw [List.getElem?_append_left (by simp; omega)]
          simp [e]
      · rw [List.getElem?_append_right (by simpa using hl), List.getElem?_replicate] at hi
        split at hi
        · cases hi; trivial
        · cases hi
  dis := fun i j q o1 o2 => by
    have z : ∀ {i : Nat}, Owned (L2.start N (.ref p :: vs)) (envB N.length st ds) i q → i = 0 := fun {i} o => by
      obtain ⟨s, e, b, _⟩ := o
      cases i with
      | zero => rfl
      | succ i =>
        have hi : (ds.map Sl.val ++ List.replicate (N.length - 1 - ds.length) Sl.no)[i]? = some s := by simpa [envB] using e
        by_cases hl : i < ds.length
        · rw [List.getElem?_append_left (by simpa using hl), List.getElem?_map] at hi
          cases q : ds[i]? with
          | none => rw [q] at hi; cases hi
          | some d => rw [q] at hi; cases hi; cases b
        · rw [List.getElem?_append_right (by simpa using hl), List.getElem?_replicate] at hi
          split at hi
          · cases hi; cases b
          · cases hi
    rw [z o1, z o2]
  len := by
    unfold envB L2.start
    have hv := h.len
    simp only [List.length_cons, List.length_append, List.length_map, List.length_replicate, hv]
    omega
  tb := fun q hq => nomatch hq
theorem lent {p : Addr} {st' : List PyData} {r : En} (R : Rel K ⟨F, H, [p], []⟩ F' σ H' (.bor st' :: r)) : F' p = none ∧ ∃ ws', H' p = some (.lst ws') ∧ DpAll K F' ws' st' := by
  obtain ⟨q, ws, a1, a2, a3, a4, a5⟩ := R.sl 0 (.bor st') rfl
  have e : q = p := by simpa using a3
  subst e
  exact ⟨a2, ws, a4, a5⟩
end
section
variable {P : Program} {w : World} {K : PySem.W.Frag} {mg : Str → Option Value} {base : Heap}
abbrev WE0 (E : XK) : WX := fun cls d _ H => E cls d H
theorem ok_fnD {x qual : Str} {st : Stmt} {f : Addr} {fd : FuncData} {N ps : List Str} {k : Nat} {G : S} (Fn : Fun K x qual st f fd) (Sc : FnScope N ps (defScope st)) (hl : ps.length ≤ N.length)
    (hbody : ∀ (cdv : Value) (A : Around) (outer : List PySem.Env) (s : Shared) (H : Hp) (E : XK), Room k (A.deeper (PyProof.Rows.envOfC qual (defScope st) s.heap.objs.size f cdv)) →
      SSs (cxOf (L2.CX P w) P w K mg base N qual (defScope st) f cdv A outer s H E) (WE0 E) (defBody st) G) :
    FnOk P w K mg base (L2.CX P w) (k + 1) f fd ps (SpD K mg ps.length (fnD G N.length)) := by
  refine Fn.okX Sc (fun vs H Q E ⟨F, ds, _, h, e, _⟩ => by rw [h.len]; exact e) fun cdv A outer s H vs Q E hr ⟨F, ds, hF, h, e, hm⟩ => ⟨_, hbody cdv A outer s H E hr, ⟨F, H, [], []⟩, F, _, rel_start hF h (by omega), ?_⟩
  show AftS K mg (WE0 E) _ _ _ _
  unfold fnD at hm
  cases q : G (envD N.length ds) with
  | none => rw [q] at hm; exact hm
  | some o =>
    rw [q] at hm
    cases o with
    | nx env' => exact fun σ F' H' R ex => hm .non F' H' R.exit .non
    | rt d env' => exact fun v σ F' H' R ex dv => hm v F' H' R.exit dv
    | ro es env' => exact fun v σ F' H' R ex o => by obtain ⟨F2, e1, e2, dp, _⟩ := Exit.freezeO R o; exact hm v F2 H' e1 dp
    | bk env' => exact hm.elim
    | ct env' => exact hm.elim
    | er x env' => exact fun σ F' H' cls dx R ex xo => hm F' H' cls dx R.exit xo
theorem ok_fnO {x qual : Str} {st : Stmt} {f : Addr} {fd : FuncData} {N ps : List Str} {k : Nat} {G : S} (Fn : Fun K x qual st f fd) (Sc : FnScope N ps (defScope st)) (hl : ps.length ≤ N.length)
    (hbody : ∀ (cdv : Value) (A : Around) (outer : List PySem.Env) (s : Shared) (H : Hp) (E : XK), Room k (A.deeper (PyProof.Rows.envOfC qual (defScope st) s.heap.objs.size f cdv)) →
      SSs (cxOf (L2.CX P w) P w K mg base N qual (defScope st) f cdv A outer s H E) (WE0 E) (defBody st) G) :
    FnOk P w K mg base (L2.CX P w) (k + 1) f fd ps (SpO K mg ps.length (fnO G N.length)) := by
  refine Fn.okX Sc (fun vs H Q E ⟨F, ds, _, h, e, _⟩ => by rw [h.len]; exact e) fun cdv A outer s H vs Q E hr ⟨F, ds, hF, h, e, hm⟩ => ⟨_, hbody cdv A outer s H E hr, ⟨F, H, [], []⟩, F, _, rel_start hF h (by omega), ?_⟩
  show AftS K mg (WE0 E) _ _ _ _
  unfold fnO at hm
  cases q : G (envD N.length ds) with
  | none => rw [q] at hm; exact hm
  | some o =>
    rw [q] at hm
    cases o with
    | ro es env' => exact fun v σ F' H' R ex o => by obtain ⟨p, ws, rfl, a1, a2, a3, a4, _⟩ := o; exact hm p ws F' H' R.exit a1 a2 a3 a4
    | er x env' => exact fun σ F' H' cls dx R ex xo => hm F' H' cls dx R.exit xo
    | _ => exact hm.elim
theorem ok_fnB {x qual y : Str} {st : Stmt} {f : Addr} {fd : FuncData} {N ps : List Str} {k : Nat} {G : S} (Fn : Fun K x qual st f fd) (Sc : FnScope N (y :: ps) (defScope st)) (hl : ps.length + 1 ≤ N.length)
    (hbody : ∀ (cdv : Value) (A : Around) (outer : List PySem.Env) (s : Shared) (H : Hp) (E : XK), Room k (A.deeper (PyProof.Rows.envOfC qual (defScope st) s.heap.objs.size f cdv)) →
      SSs (cxOf (L2.CX P w) P w K mg base N qual (defScope st) f cdv A outer s H E) (WE0 E) (defBody st) G) :
    FnOk P w K mg base (L2.CX P w) (k + 1) f fd (y :: ps) (SpB K ps.length (fnB G N.length)) := by
  refine Fn.okX Sc (fun vs H Q E ⟨F, p, ws, st, vs', ds, e, _, _, _, _, h, e2, _⟩ => by rw [e, List.length_cons, List.length_cons, h.len, e2]) fun cdv A outer s H vs Q E hr ⟨F, p, ws, st, vs', ds, e, hF, hp, hH, hst, h, e2, hm⟩ => ?_
  subst e
  refine ⟨_, hbody cdv A outer s H E hr, ⟨F, H, [p], []⟩, F, _, rel_startB hF hp hH hst h (by omega), ?_⟩
  show AftS K mg (WE0 E) _ _ _ _
  unfold fnB at hm
  cases q : G (envB N.length st ds) with
  | none => rw [q] at hm; exact hm
  | some o =>
    rw [q] at hm
    cases o with
    | nx env' =>
      intro σ F' H' R ex
      cases env' with
      | nil => exact hm.elim
      | cons s0 r0 =>
        cases s0 with
        | bor st' => obtain ⟨a1, ws', a2, a3⟩ := lent R; exact hm .non F' H' ws' R.exit a1 a2 a3 .non
        | _ => exact hm.elim
    | rt d env' =>
      intro v σ F' H' R ex dv
      cases env' with
      | nil => exact hm.elim
      | cons s0 r0 =>
        cases s0 with
        | bor st' => obtain ⟨a1, ws', a2, a3⟩ := lent R; exact hm v F' H' ws' R.exit a1 a2 a3 dv
        | _ => exact hm.elim
    | ro es env' =>
      intro v σ F' H' R ex o
      cases env' with
      | nil => exact hm.elim
      | cons s0 r0 =>
        cases s0 with
        | bor st' =>
          obtain ⟨F2, e1, e2, dp, R2⟩ := Exit.freezeO R o
          obtain ⟨a1, ws', a2, a3⟩ := lent R2
          exact hm v F2 H' ws' e1 a1 a2 a3 dp
        | _ => exact hm.elim
    | _ => exact hm.elim
theorem ok_fnBO {x qual y : Str} {st : Stmt} {f : Addr} {fd : FuncData} {N ps : List Str} {k : Nat} {G : S} (Fn : Fun K x qual st f fd) (Sc : FnScope N (y :: ps) (defScope st)) (hl : ps.length + 1 ≤ N.length)
    (hbody : ∀ (cdv : Value) (A : Around) (outer : List PySem.Env) (s : Shared) (H : Hp) (E : XK), Room k (A.deeper (PyProof.Rows.envOfC qual (defScope st) s.heap.objs.size f cdv)) →
      SSs (cxOf (L2.CX P w) P w K mg base N qual (defScope st) f cdv A outer s H E) (WE0 E) (defBody st) G) :
    FnOk P w K mg base (L2.CX P w) (k + 1) f fd (y :: ps) (SpBO K ps.length (fnBO G N.length)) := by
  refine Fn.okX Sc (fun vs H Q E ⟨F, p, ws, st, vs', ds, e, _, _, _, _, h, e2, _⟩ => by rw [e, List.length_cons, List.length_cons, h.len, e2]) fun cdv A outer s H vs Q E hr ⟨F, p, ws, st, vs', ds, e, hF, hp, hH, hst, h, e2, hm⟩ => ?_
  subst e
  refine ⟨_, hbody cdv A outer s H E hr, ⟨F, H, [p], []⟩, F, _, rel_startB hF hp hH hst h (by omega), ?_⟩
  show AftS K mg (WE0 E) _ _ _ _
  unfold fnBO at hm
  cases q : G (envB N.length st ds) with
  | none => rw [q] at hm; exact hm
  | some o =>
    rw [q] at hm
    cases o with
    | ro es env' =>
      intro v σ F' H' R ex o
      cases env' with
      | nil => exact hm.elim
      | cons s0 r0 =>
        cases s0 with
        | bor st' =>
          obtain ⟨a1, ws', a2, a3⟩ := lent R
          obtain ⟨q, us, rfl, b1, b2, b3, b4, _⟩ := o
          exact hm q us F' H' ws' R.exit a1 a2 a3 b1 b2 b3 b4
        | _ => exact hm.elim
    | _ => exact hm.elim
end
def gLift {α : Type} (r : Rf α) : M α := fun env => match r with
  | none => none
  | some (.ok a) => some (.ok (a, env))
  | some (.error x) => some (.error (x, env))
section
variable {K : PySem.W.Frag} {C : Cn} {F H F' H' : Hp} {σ : St} {env : En}
theorem Rel.call (R : Rel K C F σ H env) (x : Exit F H [] F' H') : Rel K C F' σ H' env := R.grow x.ff x.fh (fun a o q => x.pres a o q (by simp)) x.new x.nt
theorem Rel.callB {i : Nat} {p : Addr} {s : Sl} {ws' : List V} {st' : List PyData} (R : Rel K C F σ H env) (h : env[i]? = some s) (ho : isOwn s = true) (hno : ∀ o, s ≠ .obj o) (hp : σ[i]? = some (some (.ref p)))
    (x : Exit F H [p] F' H') (hF : F' p = none) (hH : H' p = some (.lst ws')) (hd : DpAll K F' ws' st') : Rel K C F' σ H' (env.set i (putS st' s)) := by
  have facts : (C.H p = none ∨ p ∈ C.B) ∧ H p ≠ none := by
    have q := R.sl i s h
    cases s with
    | own es => obtain ⟨p', ws, a1, a2, a3, a4, a5⟩ := q; rw [hp] at a1; cases a1; exact ⟨.inl a3, by rw [a4]; simp⟩
    | bor es => obtain ⟨p', ws, a1, a2, a3, a4, a5⟩ := q; rw [hp] at a1; cases a1; exact ⟨.inr a3, by rw [a4]; simp⟩
    | obj ob => obtain ⟨p', a1, a2, a3, a4⟩ := q; rw [hp] at a1; cases a1; exact ⟨.inl a3, by rw [a4]; simp⟩
    | _ => cases ho
  have kp : ∀ a o, a ≠ p → H a = some o → H' a = some o := fun a o ne q => x.pres a o q (by simpa using ne)
  have nf : ∀ q, H q ≠ none → F q = none → F' q = none := fun q hq hf => by
    cases z : F' q with
    | none => rfl
    | some o => exact absurd (x.new q hf (by rw [z]; simp)) hq
  have hps : isOwn (putS st' s) = true := by cases s <;> first | rfl | cases ho
  exact {
    fh := x.fh
    nt := x.nt
    cf := R.cf.trans x.ff
    new := fun a h1 h2 => by
      by_cases hf : F a = none
      · have hn := x.new a hf h2
        cases q : C.H a with
        | none => rfl
        | some o =>
          by_cases hb : a ∈ C.B
          · exact absurd hn (R.bd a hb).1
          · rw [R.pres a o q hb] at hn; cases hn
      · exact R.new a h1 hf
    pres := fun a o q hb => by
      have ne : a ≠ p := fun e => by
        subst e
        rcases facts.1 with z | z
        · rw [z] at q; cases q
        · exact hb z
      exact kp a o ne (R.pres a o q hb)
    bd := fun b hb => by
      refine ⟨?_, (R.bd b hb).2⟩
      by_cases ne : b = p
      · subst ne; rw [hH]; simp
      · cases q : H b with
        | none => exact absurd q (R.bd b hb).1
        | some o => rw [kp b o ne q]; simp
    sl := fun j s' hj => by
      rcases set_at hj with ⟨rfl, rfl, _⟩ | ⟨ne, hj⟩
      · have q := R.sl j s h
        cases s with
        | own es => obtain ⟨p', ws, a1, a2, a3, a4, a5⟩ := q; rw [hp] at a1; cases a1; exact ⟨p, ws', hp, hF, a3, hH, hd⟩
        | bor es => obtain ⟨p', ws, a1, a2, a3, a4, a5⟩ := q; rw [hp] at a1; cases a1; exact ⟨p, ws', hp, hF, a3, hH, hd⟩
        | obj ob => obtain ⟨p', a1, a2, a3, a4⟩ := q; rw [hp] at a1; cases a1; exact ⟨p, ws', hp, hF, a3, hH, hd⟩
        | _ => cases ho
      · have q := R.sl j s' hj
        have np : ∀ p', isOwn s' = true → σ[j]? = some (some (.ref p')) → p' ≠ p := fun p' o a e => ne (R.dis j i p ⟨s', hj, o, by rw [← e]; exact a⟩ ⟨s, h, ho, hp⟩)
        cases s' with
        | no => trivial
        | val d => obtain ⟨v, a1, a2⟩ := q; exact ⟨v, a1, dp_mono x.ff a2⟩
        | own es => obtain ⟨p', ws, a1, a2, a3, a4, a5⟩ := q; exact ⟨p', ws, a1, nf p' (by rw [a4]; simp) a2, a3, kp p' _ (np p' rfl a1) a4, dps_mono x.ff a5⟩
        | bor es => obtain ⟨p', ws, a1, a2, a3, a4, a5⟩ := q; exact ⟨p', ws, a1, nf p' (by rw [a4]; simp) a2, a3, kp p' _ (np p' rfl a1) a4, dps_mono x.ff a5⟩
        | obj ob => obtain ⟨p', a1, a2, a3, a4⟩ := q; exact ⟨p', a1, nf p' (by rw [a4]; simp) a2, a3, kp p' _ (np p' rfl a1) a4⟩
        | raw v => exact q
        | exc a dd fs => obtain ⟨z1, z2, z3, z4⟩ := q; exact ⟨z1, z2, x.ff _ _ z3, fs_mono x.ff z4⟩
        | tab T => exact q
    dis := fun j k q o1 o2 => by
      have back : ∀ {j : Nat}, Owned σ (env.set i (putS st' s)) j q → Owned σ env j q := fun {j} o => by
        obtain ⟨s1, e1, b1, a1⟩ := o
        rcases set_at e1 with ⟨rfl, rfl, _⟩ | ⟨ne1, e1⟩
        · exact ⟨s, h, ho, a1⟩
        · exact ⟨s1, e1, b1, a1⟩
      exact R.dis j k q (back o1) (back o2)
    len := by rw [List.length_set]; exact R.len
    tb := by
      have q := R.sl i s h
      cases s with
      | own es => obtain ⟨p', ws, a1, a2, a3, a4, a5⟩ := q; rw [hp] at a1; cases a1; exact tabs_lst R.tb a4 kp
      | bor es => obtain ⟨p', ws, a1, a2, a3, a4, a5⟩ := q; rw [hp] at a1; cases a1; exact tabs_lst R.tb a4 kp
      | obj ob => exact absurd rfl (hno ob)
      | _ => cases ho }
end
section
variable {X : Cx} {W : WX} {k : Nat} {f : Addr} {fd : FuncData} {ps : List Str} {x y : Str} {p p1 pos : Pos} {e : Expr} {es : List Expr} {gl : M (List PyData)} {i : Nat}
theorem sv_call {n : Nat} {m : List PyData → Rf PyData} (Fk : FnOk X.prog X.w X.K X.mg X.base (L2.CX X.prog X.w) k f fd ps (SpD X.K X.mg n m)) (hr : Room k X.A) (hm : X.mg x = some (.ref f)) (hk : PySem.W.keepIn X.K (.ref f) = true) (hb : Binds X.K fd ps []) (tk : Takes X W)
    (ha : SA X W (e :: es) gl) (hn : ∀ env ds env', gl env = some (.ok (ds, env')) → ds.length = n) (hg : Gl X x := by rfl) (hdb : (x == ("__debug__" : Str)) = false := by decide) (he : starEach (e :: es) X.env = (false, eval e X.env) :: starEach es X.env := by rfl) (hpl : (backTo pos (starEach es X.env)).any (·.1) = false := by rfl) :
    SV X W (.Call (.Name x p) (e :: es) [] pos) (M.bd gl fun ds => gLift (m ds)) :=
  pe_imp (pe_callS Fk hr hg hm hk hb (fun σ => passAt tk σ) ha hdb he hpl) fun σ H Q ⟨C, F, env, R, h⟩ => by
    refine ⟨C, F, env, R, ?_⟩
    unfold M.bd at h
    cases q : gl env with
    | none => rw [q] at h; exact h
    | some r =>
      rw [q] at h
      cases r with
      | error z => exact h
      | ok z =>
        obtain ⟨ds, env1⟩ := z
        intro vs F1 H1 R1 e1 o1
        refine ⟨F1, ds, ⟨R1.fh, R1.nt⟩, o1, hn _ _ _ q, ?_⟩
        unfold gLift at h
        cases q2 : m ds with
        | none => simp only [q2] at h; exact h
        | some r =>
          simp only [q2] at h
          cases r with
          | ok d => exact fun v F' H' x dv => h v F' H' (R1.call x) (e1.trans x.ff) dv
          | error z => exact fun F' H' cls dx x xo => h F' H' cls dx (R1.call x) (e1.trans x.ff) xo
end
end Pf
/-! part Pf10 -/
set_option Elab.async false
set_option linter.all false
set_option maxRecDepth 100000
set_option maxHeartbeats 2000000
namespace Pf
open PySem PySem.Spec L2 Evl
def LenA (gl : M (List PyData)) (n : Nat) : Prop := ∀ env ds env', gl env = some (.ok (ds, env')) → ds.length = n
theorem len_nil : LenA (M.ok []) 0 := fun env ds env' h => by cases h; rfl
theorem len_cons {ga : M PyData} {gl : M (List PyData)} {n : Nat} (h : LenA gl n) : LenA (M.bd ga fun d => M.bd gl fun ds => M.ok (d :: ds)) (n + 1) := fun env ds env' q => by
  unfold M.bd at q
  cases e1 : ga env with
  | none => simp only [e1] at q; cases q
  | some r =>
    simp only [e1] at q
    cases r with
    | error z => cases q
    | ok z =>
      obtain ⟨d, env1⟩ := z
      simp only at q
      cases e2 : gl env1 with
      | none => simp only [e2] at q; cases q
      | some r =>
        simp only [e2] at q
        cases r with
        | error z => cases q
        | ok z =>
          obtain ⟨ds', env2⟩ := z
          have e : M.ok (d :: ds') env2 = some (.ok (ds, env')) := q
          cases e
          rw [List.length_cons, h _ _ _ e2]
section
variable {X : Cx} {W : WX} {k : Nat} {f : Addr} {fd : FuncData} {ps : List Str} {x y : Str} {p p0 p1 p2 pos : Pos} {a b e : Expr} {es : List Expr} {ga gb : M PyData} {gl : M (List PyData)} {i : Nat}
theorem so_call {n : Nat} {m : List PyData → Rf (List PyData)} (Fk : FnOk X.prog X.w X.K X.mg X.base (L2.CX X.prog X.w) k f fd ps (SpO X.K X.mg n m)) (hr : Room k X.A) (hm : X.mg x = some (.ref f)) (hk : PySem.W.keepIn X.K (.ref f) = true) (hb : Binds X.K fd ps []) (tk : Takes X W)
    (ha : SA X W (e :: es) gl) (hn : LenA gl n) (hg : Gl X x := by rfl) (hdb : (x == ("__debug__" : Str)) = false := by decide) (he : starEach (e :: es) X.env = (false, eval e X.env) :: starEach es X.env := by rfl) (hpl : (backTo pos (starEach es X.env)).any (·.1) = false := by rfl) :
    SO X W (.Call (.Name x p) (e :: es) [] pos) (M.bd gl fun ds => gLift (m ds)) :=
  pe_imp (pe_callS Fk hr hg hm hk hb (fun σ => passAt tk σ) ha hdb he hpl) fun σ H Q ⟨C, F, env, R, h⟩ => by
    refine ⟨C, F, env, R, ?_⟩
    unfold M.bd at h
    cases q : gl env with
    | none => rw [q] at h; exact h
    | some r =>
      rw [q] at h
      cases r with
      | error z => exact h
      | ok z =>
        obtain ⟨ds, env1⟩ := z
        intro vs F1 H1 R1 e1 o1
        refine ⟨F1, ds, ⟨R1.fh, R1.nt⟩, o1, hn _ _ _ q, ?_⟩
        unfold gLift at h
        cases q2 : m ds with
        | none => simp only [q2] at h; exact h
        | some r =>
          simp only [q2] at h
          cases r with
          | ok d =>
            intro p' ws F' H' x a1 a2 a3 a4
            have R2 := R1.call x
            refine h (.ref p') F' H' R2 (e1.trans x.ff) ⟨p', ws, rfl, a1, (R1.fresh a2).2, a3, a4, fun i ⟨s, b1, b2, b3⟩ => ?_⟩
            have q := R1.sl i s b1
            cases s with
            | own es => obtain ⟨p2, ws2, c1, c2, c3, c4, c5⟩ := q; rw [b3] at c1; cases c1; rw [a2] at c4; cases c4
            | bor es => obtain ⟨p2, ws2, c1, c2, c3, c4, c5⟩ := q; rw [b3] at c1; cases c1; rw [a2] at c4; cases c4
            | obj ob => obtain ⟨p2, c1, c2, c3, c4⟩ := q; rw [b3] at c1; cases c1; rw [a2] at c4; cases c4
            | _ => cases b2
          | error z => exact fun F' H' cls dx x xo => h F' H' cls dx (R1.call x) (e1.trans x.ff) xo
def gCallB {α : Type} (i : Nat) (gl : M (List PyData)) (m : List PyData → List PyData → Rf (α × List PyData)) : M α := M.bd (gHeld i) fun _ => M.bd gl fun ds => M.bd (gHeld i) fun st => match m st ds with
  | some (.ok (d, st')) => M.bd (gPut i st') fun _ => M.ok d
  | _ => M.no
theorem sv_callB' {n : Nat} {m : List PyData → List PyData → Rf (PyData × List PyData)} (i : Nat) (Fk : FnOk X.prog X.w X.K X.mg X.base (L2.CX X.prog X.w) k f fd ps (SpB X.K n m)) (hr : Room k X.A) (hm : X.mg x = some (.ref f)) (hk : PySem.W.keepIn X.K (.ref f) = true) (hb : Binds X.K fd ps []) (tk : Takes X W)
    (ha : SA X W es gl) (hn : LenA gl n) (hg : Gl X x := by rfl) (hN : X.N[i]? = some y := by rfl) (hv : Vis X.env.scope y := by first | exact Or.inl rfl | exact Or.inr (Or.inl rfl) | exact Or.inr (Or.inr rfl))
    (hd : (y == ("__debug__" : Str)) = false := by decide) (hcd : (y == ("__classdict__" : Str)) = false := by decide) (hdb : (x == ("__debug__" : Str)) = false := by decide)
    (he : starEach (.Name y p1 :: es) X.env = (false, eval (.Name y p1) X.env) :: starEach es X.env := by rfl) (hpl : (backTo pos (starEach es X.env)).any (·.1) = false := by rfl) :
    SV X W (.Call (.Name x p) (.Name y p1 :: es) [] pos) (gCallB i gl m) :=
  pe_imp (pe_callS Fk hr hg hm hk hb (fun σ => passAt tk σ) (pa_cons (pe_var hN hv hd hcd) ha he) hdb he hpl) fun σ H Q ⟨C, F, env, R, h⟩ => by
    obtain ⟨_, p, _, _, _, _, a1, _, _, h2⟩ := bd_held R h
    refine ⟨.ref p, a1, ?_⟩
    refine ⟨C, F, env, R, ?_⟩
    unfold M.bd at h2
    cases q : gl env with
    | none => rw [q] at h2; exact h2
    | some r =>
      rw [q] at h2
      cases r with
      | error z => exact h2
      | ok z =>
        obtain ⟨ds, env1⟩ := z
        intro vs F1 H1 R1 e1 o1
        obtain ⟨st, p', ws, s, b0, bo, b1, b2, b3, h3⟩ := bd_held R1 (After.up h2 e1)
        rw [a1] at b1
        cases b1
        have hF : F1 p = none := by
          have t := R1.sl i s b0
          cases s with
          | own es => obtain ⟨p2, ws2, c1, c2, _⟩ := t; rw [a1] at c1; cases c1; exact c2
          | bor es => obtain ⟨p2, ws2, c1, c2, _⟩ := t; rw [a1] at c1; cases c1; exact c2
          | obj ob => obtain ⟨p2, c1, c2, _⟩ := t; rw [a1] at c1; cases c1; exact c2
          | _ => cases bo.1
        refine ⟨F1, p, ws, st, vs, ds, rfl, ⟨R1.fh, R1.nt⟩, hF, b2, b3, o1, hn _ _ _ q, ?_⟩
        cases q2 : m st ds with
        | none => simp only [q2] at h3; exact h3
        | some r =>
          simp only [q2] at h3
          cases r with
          | error z => exact h3
          | ok z =>
            obtain ⟨d, st'⟩ := z
            intro v F' H' ws' x c1 c2 c3 dv
            exact aft' (ok := okV X.K) (put_bd b0 h3) (R1.callB b0 bo.1 bo.2 a1 x c1 c2 c3) x.ff dv
theorem so_callB' {n : Nat} {m : List PyData → List PyData → Rf (List PyData × List PyData)} (i : Nat) (Fk : FnOk X.prog X.w X.K X.mg X.base (L2.CX X.prog X.w) k f fd ps (SpBO X.K n m)) (hr : Room k X.A) (hm : X.mg x = some (.ref f)) (hk : PySem.W.keepIn X.K (.ref f) = true) (hb : Binds X.K fd ps []) (tk : Takes X W)
    (ha : SA X W es gl) (hn : LenA gl n) (hg : Gl X x := by rfl) (hN : X.N[i]? = some y := by rfl) (hv : Vis X.env.scope y := by first | exact Or.inl rfl | exact Or.inr (Or.inl rfl) | exact Or.inr (Or.inr rfl))
    (hd : (y == ("__debug__" : Str)) = false := by decide) (hcd : (y == ("__classdict__" : Str)) = false := by decide) (hdb : (x == ("__debug__" : Str)) = false := by decide)
    (he : starEach (.Name y p1 :: es) X.env = (false, eval (.Name y p1) X.env) :: starEach es X.env := by rfl) (hpl : (backTo pos (starEach es X.env)).any (·.1) = false := by rfl) :
    SO X W (.Call (.Name x p) (.Name y p1 :: es) [] pos) (gCallB i gl m) :=
  pe_imp (pe_callS Fk hr hg hm hk hb (fun σ => passAt tk σ) (pa_cons (pe_var hN hv hd hcd) ha he) hdb he hpl) fun σ H Q ⟨C, F, env, R, h⟩ => by
    obtain ⟨_, p, _, _, _, _, a1, _, _, h2⟩ := bd_held R h
    refine ⟨.ref p, a1, ?_⟩
    refine ⟨C, F, env, R, ?_⟩
    unfold M.bd at h2
    cases q : gl env with
    | none => rw [q] at h2; exact h2
    | some r =>
      rw [q] at h2
      cases r with
      | error z => exact h2
      | ok z =>
        obtain ⟨ds, env1⟩ := z
        intro vs F1 H1 R1 e1 o1
        obtain ⟨st, p', ws, s, b0, bo, b1, b2, b3, h3⟩ := bd_held R1 (After.up h2 e1)
        rw [a1] at b1
        cases b1
        have hF : F1 p = none := by
          have t := R1.sl i s b0
          cases s with
          | own es => obtain ⟨p2, ws2, c1, c2, _⟩ := t; rw [a1] at c1; cases c1; exact c2
          | bor es => obtain ⟨p2, ws2, c1, c2, _⟩ := t; rw [a1] at c1; cases c1; exact c2
          | obj ob => obtain ⟨p2, c1, c2, _⟩ := t; rw [a1] at c1; cases c1; exact c2
          | _ => cases bo.1
        refine ⟨F1, p, ws, st, vs, ds, rfl, ⟨R1.fh, R1.nt⟩, hF, b2, b3, o1, hn _ _ _ q, ?_⟩
        cases q2 : m st ds with
        | none => simp only [q2] at h3; exact h3
        | some r =>
          simp only [q2] at h3
          cases r with
          | error z => exact h3
          | ok z =>
            obtain ⟨d, st'⟩ := z
            intro q us F' H' ws' x c1 c2 c3 d1 d2 d3 d4
            have R2 := R1.callB b0 bo.1 bo.2 a1 x c1 c2 c3
            refine aft' (ok := okO X.K) (put_bd b0 h3) R2 x.ff ⟨q, us, rfl, d1, (R1.fresh d2).2, d3, d4, fun j ⟨s', g1, g2, g3⟩ => ?_⟩
            have t : Owned σ env1 j q := by
              rcases set_at g1 with ⟨rfl, rfl, _⟩ | ⟨ne, g1⟩
              · exact ⟨s, b0, bo.1, g3⟩
              · exact ⟨s', g1, g2, g3⟩
            obtain ⟨s2, g1, g2, g3⟩ := t
            have t := R1.sl j s2 g1
            cases s2 with
            | own es => obtain ⟨p2, ws2, c1, c2, c3, c4, c5⟩ := t; rw [g3] at c1; cases c1; rw [d2] at c4; cases c4
            | bor es => obtain ⟨p2, ws2, c1, c2, c3, c4, c5⟩ := t; rw [g3] at c1; cases c1; rw [d2] at c4; cases c4
            | obj ob => obtain ⟨p2, c1, c2, c3, c4⟩ := t; rw [g3] at c1; cases c1; rw [d2] at c4; cases c4
            | _ => cases g2
def isaT (a b : String) : Bool := a == b || (a == "bool" && b == "int")
def isTy (d : PyData) (b : String) : Option Bool := match d with
  | .dict _ => none
  | d => some (isaT (tyD d) b)
theorem tyx_of {K : PySem.W.Frag} {H : Hp} {v : V} {d : PyData} (h : Dp K H v d) (hd : ∀ kvs, d ≠ .dict kvs) : TyX K H v (.type (tyD d)) := by
  cases h with
  | non => exact .base .non
  | bl b => exact .base (.bl b)
  | int i => exact .base (.int i)
  | str x => exact .base (.str x)
  | lst s r =>
    rcases s with (s | ⟨o, s⟩) | ⟨o, its, n, s, c, _⟩
    · exact .base (.lst s)
    · exact .base (.frz s)
    · exact .kList s c
  | tup s r =>
    rcases s with (s | ⟨o, s⟩) | ⟨o, its, n, s, c, _⟩
    · exact .base (.tup s)
    · exact .fTuple s
    · exact .kTuple s c
def tyNames : List String := ["int", "bool", "str", "list", "tuple"]
theorem kit_tys : ∀ a ∈ ["NoneType", "bool", "int", "str", "list", "tuple"], ∀ b ∈ tyNames, kitB a b = some (isaT a b) := by decide +kernel
theorem tyD_mem {d : PyData} (hd : ∀ kvs, d ≠ .dict kvs) : tyD d ∈ ["NoneType", "bool", "int", "str", "list", "tuple"] := by
  cases d <;> first | (simp [tyD]; done) | exact absurd rfl (hd _)
theorem is_ty {K : PySem.W.Frag} {d : PyData} {b : String} {r : Bool} (hb : b ∈ tyNames) (h : isTy d b = some r) : (∀ kvs, d ≠ .dict kvs) ∧ PySem.W.kitOne K (.type (tyD d)) (.type b) = some r := by
  have hd : ∀ kvs, d ≠ .dict kvs := fun kvs e => by subst e; cases h
  refine ⟨hd, kit_ty ?_⟩
  rw [kit_tys _ (tyD_mem hd) b hb]
  unfold isTy at h
  split at h
  · exact absurd rfl (hd _)
  · exact h
theorem sv_isa {T : Str} {b : String} (hg : Gl X "isinstance") (hm : X.mg "isinstance" = none) (hT : Gl X T) (hmT : X.mg T = none) (hv : bootBuiltins T = some (.type b)) (hb : b ∈ tyNames) (ha : SV X W a ga) (hn : T ≠ "__name__" := by decide) (hdT : (T == ("__debug__" : Str)) = false := by decide)
    (hs1 : starEach [.Name T p1] X.env = (false, eval (.Name T p1) X.env) :: starEach [] X.env := by rfl) (hs : starEach [a, .Name T p1] X.env = (false, eval a X.env) :: starEach [.Name T p1] X.env := by rfl) (hpl : (backTo pos (starEach [.Name T p1] X.env)).any (·.1) = false := by rfl) :
    SV X W (.Call (.Name "isinstance" p) [a, .Name T p1] [] pos) (M.bd ga fun d => M.opt ((isTy d b).map .bool)) :=
  pe_imp (pe_callB call_isi hg hm PyProof.Rows.boot_isinstance (pa_cons ha (pa_cons (pe_bltn (v := .ty b) hT hmT hv rfl hn hdT) pa_nil hs1) hs) (by decide) (by decide) hs hpl) fun σ H Q ⟨C, F, env, R, h⟩ => tG_bd R h fun d env1 v F1 H1 R1 e1 o1 h1 => by
    obtain ⟨z, hz, h2⟩ := h1.of_opt
    cases hi : isTy d b with
    | none => rw [hi] at hz; cases hz
    | some r =>
      rw [hi] at hz
      cases hz
      obtain ⟨hd, hk⟩ := is_ty (K := X.K) hb hi
      exact ⟨v, .ty b, _, _, r, rfl, .ty b, tyx_of (dp_mono R1.fh o1) hd, hk, aft (ok := okV X.K) h2 R1 (.bl r)⟩
theorem sv_isa2 {S T : Str} {b c : String} {x1 : Bool} {kk} (hg : Gl X "isinstance") (hm : X.mg "isinstance" = none) (hS : Gl X S) (hmS : X.mg S = none) (hvS : bootBuiltins S = some (.type b)) (hb : b ∈ tyNames) (hT : Gl X T) (hmT : X.mg T = none) (hv : bootBuiltins T = some (.type c)) (hc : c ∈ tyNames) (ha : SV X W a ga)
    (hnS : S ≠ "__name__" := by decide) (hdS : (S == ("__debug__" : Str)) = false := by decide) (hn : T ≠ "__name__" := by decide) (hdT : (T == ("__debug__" : Str)) = false := by decide)
    (hs2 : starEach [.Name T p2] X.env = (false, eval (.Name T p2) X.env) :: starEach [] X.env := by rfl) (hs1 : starEach [.Name S p1, .Name T p2] X.env = (false, eval (.Name S p1) X.env) :: starEach [.Name T p2] X.env := by rfl)
    (hs0 : starEach [.Tuple [.Name S p1, .Name T p2] kk p0] X.env = (false, eval (.Tuple [.Name S p1, .Name T p2] kk p0) X.env) :: starEach [] X.env := by rfl)
    (hs : starEach [a, .Tuple [.Name S p1, .Name T p2] kk p0] X.env = (false, eval a X.env) :: starEach [.Tuple [.Name S p1, .Name T p2] kk p0] X.env := by rfl) (hpl : (backTo pos (starEach [.Tuple [.Name S p1, .Name T p2] kk p0] X.env)).any (·.1) = false := by rfl) :
    SV X W (.Call (.Name "isinstance" p) [a, .Tuple [.Name S p1, .Name T p2] kk p0] [] pos) (M.bd ga fun d => M.opt (match isTy d b, isTy d c with
      | some r, some r' => some (.bool (r || r'))
      | _, _ => none)) :=
  pe_imp (pe_callB call_isiT hg hm PyProof.Rows.boot_isinstance (pa_cons ha (pa_cons (pe_tup (pa_cons (pe_bltn (v := .ty b) hS hmS hvS rfl hnS hdS) (pa_cons (pe_bltn (v := .ty c) hT hmT hv rfl hn hdT) pa_nil hs2) hs1)) pa_nil hs0) hs) (by decide) (by decide) hs hpl) fun σ H Q ⟨C, F, env, R, h⟩ => tG_bd R h fun d env1 v F1 H1 R1 e1 o1 h1 => by
    obtain ⟨z, hz, h2⟩ := h1.of_opt
    cases hi : isTy d b with
    | none => rw [hi] at hz; cases hz
    | some r =>
      cases hi2 : isTy d c with
      | none => rw [hi, hi2] at hz; cases hz
      | some r' =>
        rw [hi, hi2] at hz
        cases hz
        obtain ⟨hd, hk⟩ := is_ty (K := X.K) hb hi
        obtain ⟨_, hk2⟩ := is_ty (K := X.K) hc hi2
        refine ⟨by show 2 ≤ sizeLine; decide, fun t ht => ?_⟩
        have hf := (R1.fresh ht).1
        have R2 := R1.newF (o := .tup [.ty b, .ty c]) ht
        refine ⟨v, t, _, _, [.type b, .type c], r || r', rfl, upd_same, .cons (.ty b) (.cons (.ty c) .nil), tyx_of (dp_mono R2.fh (dp_mono (Ex.new hf) o1)) hd, ?_, aft' (ok := okV X.K) h2 R2 (Ex.new hf) (.bl _)⟩
        refine kitAny_cons hk (fun e => ?_) (fun e => by rw [e]; rfl)
        subst e
        exact kitAny_cons hk2 (fun e => by subst e; exact kitAny_nil) (fun e => by rw [e]; rfl)
theorem so_listR (hc : X.calm = true) (hg : Gl X "list") (hm : X.mg "list" = none) (hg2 : Gl X "range") (hm2 : X.mg "range" = none) (ha : SV X W a ga) (na : starEach [a] X.env = (false, eval a X.env) :: starEach [] X.env := by rfl)
    (nb : starEach [.Call (.Name "range" p1) [a] [] p2] X.env = (false, eval (.Call (.Name "range" p1) [a] [] p2) X.env) :: starEach [] X.env := by rfl) :
    SO X W (.Call (.Name "list" p) [.Call (.Name "range" p1) [a] [] p2] [] pos) (M.bd ga fun d => M.opt (match d with
      | .int n => if 0 ≤ n ∧ n ≤ 16777216 then some (rngD 0 n.toNat) else none
      | _ => none)) :=
  pe_imp (pe_listRg hc hg hm (prg_1 hg2 hm2 ha na) nb) fun σ H Q ⟨C, F, env, R, h⟩ => tG_bd R h fun d env1 v F1 H1 R1 e1 o1 h1 => by
    obtain ⟨z, hz, h2⟩ := h1.of_opt
    cases o1 with
    | int n =>
      simp only at hz
      split at hz
      · rename_i hn
        cases hz
        refine ⟨n, rfl, RgOk.of_le (Int.le_refl _) hn.2 (by omega) hn.1, fun q hq => aft' (ok := okO X.K) h2 (R1.newH hq) (Ex.refl _) (okO_new R1 hq ?_)⟩
        unfold rgV rngD
        rw [Int.sub_zero]
        have key : ∀ l : List Nat, DpAll X.K F1 (l.map fun i => V.int (0 + (i : Nat))) (l.map fun (i : Nat) => PyData.int (0 + (i : Int))) := fun l => by
          induction l with
          | nil => exact .nil
          | cons a r ih => exact .cons (.int _) ih
        exact key _
      · cases hz
    | _ => cases hz
theorem so_rep {gl : M (List PyData)} (ha : SO X W a gl) (hb : SV X W b gb) : SO X W (.BinOp a .Mult b pos) (M.bd gl fun ds => M.bd gb fun e => M.opt (match e with
    | .int k => if -(2 ^ 63) ≤ k ∧ k < 2 ^ 63 ∧ ds.length * k.toNat ≤ 16777216 then some (List.replicate k.toNat ds).flatten else none
    | _ => none)) :=
  pe_imp (pe_op op_rep ha hb) fun σ H Q ⟨C, F, env, R, h⟩ => tG_bd R h fun ds env1 v F1 H1 R1 e1 o1 h1 => by
    obtain ⟨p, vs, rfl, a1, a2, a3, a4, a5⟩ := o1
    refine tG_bd' (R1.guard a1 a2 a3 a5) (fun F' H' env' r => Rel.unguard R1 a2 r) h1 fun e env2 w F2 H2 R2 e2 o2 h2 => ?_
    obtain ⟨z, hz, h3⟩ := h2.of_opt
    cases o2 with
    | int k =>
      simp only at hz
      split at hz
      · rename_i hk
        cases hz
        have hH : H2 p = some (.lst vs) := R2.guarded (fun b hb => (R1.bd b hb).2.2) a2
        have R3 := Rel.unguard R1 a2 R2
        refine ⟨p, k, vs, rfl, rfl, hH, hk.1, hk.2.1, by rw [a4.len, sizeLine_eq]; exact hk.2.2, fun q hq => aft' (ok := okO X.K) h3 (R3.newH hq) (Ex.refl _) (okO_new R3 hq ?_)⟩
        have key : ∀ n : Nat, DpAll X.K F2 (List.replicate n vs).flatten (List.replicate n ds).flatten := fun n => by
          induction n with
          | zero => exact .nil
          | succ n ih =>
            rw [List.replicate_succ, List.replicate_succ, List.flatten_cons, List.flatten_cons]
            exact (dps_mono e2 a4).app ih
        exact key _
      · cases hz
    | _ => cases hz
theorem so_cat {gl gl' : M (List PyData)} (ha : SO X W a gl) (hb : SO X W b gl') : SO X W (.BinOp a .Add b pos) (M.bd gl fun ds => M.bd gl' fun es => M.opt (if ds.length + es.length ≤ 16777216 then some (ds ++ es) else none)) :=
  pe_imp (pe_op op_cat ha hb) fun σ H Q ⟨C, F, env, R, h⟩ => tG_bd R h fun ds env1 v F1 H1 R1 e1 o1 h1 => by
    obtain ⟨p, vs, rfl, a1, a2, a3, a4, a5⟩ := o1
    refine tG_bd' (R1.guard a1 a2 a3 a5) (fun F' H' env' r => Rel.unguard R1 a2 r) h1 fun e env2 w F2 H2 R2 e2 o2 h2 => ?_
    obtain ⟨z, hz, h3⟩ := h2.of_opt
    obtain ⟨q, ws, rfl, b1, b2, b3, b4, b5⟩ := o2
    split at hz
    · rename_i hl
      cases hz
      have hH : H2 p = some (.lst vs) := R2.guarded (fun b hb => (R1.bd b hb).2.2) a2
      have R3 := Rel.unguard R1 a2 R2
      have a4' := dps_mono e2 a4
      exact ⟨p, q, vs, ws, rfl, rfl, hH, b3, by rw [a4.len, b4.len, sizeLine_eq]; exact hl, fun r hr => aft' (ok := okO X.K) h3 (R3.newH hr) (Ex.refl _) (okO_new R3 hr (a4'.app b4))⟩
    · cases hz
theorem po_imp {o : Option Expr} {t t' : TO} (h : PO X o t) (k : ∀ σ H Q, t' σ H Q → t σ H Q) : PO X o t' := ⟨fun pins s σ H Q I q => h.run pins s σ H Q I (k σ H Q q)⟩
end
end Pf
/-! part Pf11 -/
set_option Elab.async false
set_option linter.all false
set_option maxRecDepth 100000
set_option maxHeartbeats 2000000
namespace Pf
open PySem PySem.Spec L2 Evl
abbrev gBin (f : PyData → PyData → Option PyData) (ga gb : M PyData) : M PyData := M.bd ga fun d => M.bd gb fun e => M.opt (f d e)
abbrev gUn (f : PyData → Option PyData) (ga : M PyData) : M PyData := M.bd ga fun d => M.opt (f d)
abbrev gCmp (f : PyData → PyData → Option Bool) (ga gb : M PyData) : M PyData := M.bd ga fun d => M.bd gb fun e => M.opt ((f d e).map .bool)
abbrev gTst (f : PyData → PyData → Option Bool) (ga gb : M PyData) : M Bool := M.bd ga fun d => M.bd gb fun e => M.opt (f d e)
abbrev gTru (ga : M PyData) : M Bool := M.bd ga fun d => M.opt (truD d)
abbrev gNotT (gt : M Bool) : M Bool := M.bd gt fun b => M.ok (!b)
abbrev gNot (ga : M PyData) : M PyData := M.bd ga fun d => M.opt ((truD d).map fun b => .bool (!b))
abbrev gNil : M (List PyData) := M.ok []
abbrev gCons (ga : M PyData) (gl : M (List PyData)) : M (List PyData) := M.bd ga fun d => M.bd gl fun ds => M.ok (d :: ds)
abbrev gTup (gl : M (List PyData)) : M PyData := M.bd gl fun ds => M.opt (tupD ds)
abbrev gLst (gl : M (List PyData)) : M (List PyData) := M.bd gl fun ds => M.opt (lstD ds)
abbrev gFz (gl : M (List PyData)) : M PyData := M.bd gl fun ds => M.ok (.list ds)
abbrev gIsa (b : String) (ga : M PyData) : M PyData := M.bd ga fun d => M.opt ((isTy d b).map .bool)
abbrev gIsa2 (b c : String) (ga : M PyData) : M PyData := M.bd ga fun d => M.opt (match isTy d b, isTy d c with
  | some r, some r' => some (.bool (r || r'))
  | _, _ => none)
abbrev gBlt (k : List PyData → Option PyData) (gl : M (List PyData)) : M PyData := M.bd gl fun ds => M.opt (k ds)
abbrev gCall {α : Type} (m : List PyData → Rf α) (gl : M (List PyData)) : M α := M.bd gl fun ds => gLift (m ds)
abbrev gList (ga : M PyData) : M (List PyData) := M.bd ga fun d => M.opt (seqD d)
def rngN (d : PyData) : Option (List PyData) := match d with
  | .int n => if 0 ≤ n ∧ n ≤ 16777216 then some (rngD 0 n.toNat) else none
  | _ => none
def repD (ds : List PyData) (e : PyData) : Option (List PyData) := match e with
  | .int k => if -(2 ^ 63) ≤ k ∧ k < 2 ^ 63 ∧ ds.length * k.toNat ≤ 16777216 then some (List.replicate k.toNat ds).flatten else none
  | _ => none
abbrev gListR (ga : M PyData) : M (List PyData) := M.bd ga fun d => M.opt (rngN d)
abbrev gRep (gl : M (List PyData)) (gb : M PyData) : M (List PyData) := M.bd gl fun ds => M.bd gb fun e => M.opt (repD ds e)
abbrev gCat (gl gl' : M (List PyData)) : M (List PyData) := M.bd gl fun ds => M.bd gl' fun es => M.opt (if ds.length + es.length ≤ 16777216 then some (ds ++ es) else none)
abbrev gLcT (vs : List Nat) (j : Nat) (gt : M Bool) (ge : M PyData) (ga : M PyData) : M (List PyData) := M.bd ga fun d => M.bd (M.opt (tupO d)) fun ds => gLc vs (bN j) gt ge ds
abbrev gLcL (vs : List Nat) (j : Nat) (gt : M Bool) (ge : M PyData) (ga : M PyData) : M (List PyData) := M.bd ga fun d => M.bd (M.opt (lstO d)) fun ds => gLc vs (bN j) gt ge ds
abbrev gLcR (vs : List Nat) (j : Nat) (gt : M Bool) (ge : M PyData) (ga : M PyData) : M (List PyData) := M.bd ga fun d => M.bd (M.opt (rngO d)) fun ds => gLc vs (bN j) gt ge ds
def lenK (ds : List PyData) : Option PyData := match ds with
  | [d] => lenD d
  | _ => none
def tupK (ds : List PyData) : Option PyData := match ds with
  | [d] => (seqD d).map .tuple
  | _ => none
abbrev gSet (i : Nat) (ga : M PyData) : S := gE ga (gSt i)
abbrev gSetO (i : Nat) (ga : M (List PyData)) : S := gE ga (gStO i)
abbrev gAsg (b : PyData → En → Option En) (ga : M PyData) : S := gE ga (gAs b)
abbrev gRet (ga : M PyData) : S := gE ga gRt
abbrev gRetO (ga : M (List PyData)) : S := gE ga gRo
abbrev gEx {α : Type} (ga : M α) : S := gE ga fun _ => gNx
section
variable {X : Cx} {W : WX} {a b c e elt iter a1 : Expr} {es rest : List Expr} {ga gb gc : M PyData} {gl : M (List PyData)} {gt : M Bool} {ge : M PyData} {pos spos p p0 p1 p2 py : Pos} {x y : Str} {i j : Nat} {ifs : List Expr} {scope : Scope} {own : List (Str × Nat)}
theorem sv_len (hg : Gl X "len") (hm : X.mg "len" = none) (ha : SA X W (e :: es) gl) (he : starEach (e :: es) X.env = (false, eval e X.env) :: starEach es X.env := by rfl) (hpl : (backTo pos (starEach es X.env)).any (·.1) = false := by rfl) :
    SV X W (.Call (.Name "len" p2) (e :: es) [] pos) (gBlt lenK gl) := sv_callB cd_len hg hm PySem.boot_len ha (by decide) (by decide) he hpl
theorem sv_tupleOf (hg : Gl X "tuple") (hm : X.mg "tuple" = none) (ha : SA X W (e :: es) gl) (he : starEach (e :: es) X.env = (false, eval e X.env) :: starEach es X.env := by rfl) (hpl : (backTo pos (starEach es X.env)).any (·.1) = false := by rfl) :
    SV X W (.Call (.Name "tuple" p2) (e :: es) [] pos) (gBlt tupK gl) := sv_callT cd_tuple hg hm (by decide +kernel) ha (by decide) (by decide) he hpl
theorem ss_setLcT (hc : X.calm = true) (hN : X.N.Nodup) (hy : X.N[i]? = some y) (hyl : X.env.scope.names.lookup y = some .local)
    (hsw : swapsWith (.ListComp elt [⟨.Name x p1, iter, ifs, 0⟩] scope pos) (some (.Name y py)) spos.line X.env = pure true) (hi : SV X W iter ga) (ok : BlkOk X.N X.env.scope scope own) (hj : j ∈ own.map (·.2))
    (hg : ∀ (s : Shared) (H : Hp) (C : Addr) (cl : List (Str × Addr)) (fp : List Addr), PG (X.blk s H scope (compEnvC scope cl C X.env) fp) (.Name x p1) (gName j)) (ht : ∀ (s : Shared) (H : Hp) (C : Addr) (cl : List (Str × Addr)) (fp : List Addr), STs (X.blk s H scope (compEnvC scope cl C X.env) fp) W0 ifs gt)
    (he : ∀ (s : Shared) (H : Hp) (C : Addr) (cl : List (Str × Addr)) (fp : List Addr), SV (X.blk s H scope (compEnvC scope cl C X.env) fp) W0 elt ge) (hs : ∀ x, foldedSetIterable iter X.env x = pure x := by intro _; rfl) :
    SS X W (.Assign [.Name y py] (.ListComp elt [⟨.Name x p1, iter, ifs, 0⟩] scope pos) spos) (gSetO i (gLcT (own.map (·.2)) j gt ge ga)) :=
  ps_imp (ps_setLc (tt := tG X.K X.mg okB W0 gt) (te := tG X.K X.mg (okV X.K) W0 ge) hc hN hy hyl hsw (pi_tup hi) ok hg ht he hs) fun D σ H ⟨C, F, env, R, h⟩ => by
    have h : AftS X.K X.mg W C F (gE ga (fun d => gE (M.bd (M.opt (tupO d)) fun ds => gLc (own.map (·.2)) (bN j) gt ge ds) (gStO i)) env) D := by
      have e : gSetO i (gLcT (own.map (·.2)) j gt ge ga) env = gE ga (fun d => gE (M.bd (M.opt (tupO d)) fun ds => gLc (own.map (·.2)) (bN j) gt ge ds) (gStO i)) env := by
        simp only [gSetO, gE, M.bd]
        cases ga env with
        | none => rfl
        | some r => cases r <;> rfl
      rw [← e]; exact h
    refine tE_bd R h fun d env1 v F1 H1 R1 e1 o1 h1 => ?_
    have h1 : AftS X.K X.mg W C F1 (gE (M.bd (M.opt (tupO d)) fun ds => gLc (own.map (·.2)) (bN j) gt ge ds) (gStO i) env1) D := h1
    cases o1 with
    | @tup a xs ds s r =>
      have h2 : AftS X.K X.mg W C F1 (gE (gLc (own.map (·.2)) (bN j) gt ge ds) (gStO i) env1) D := h1
      unfold gE gLc at h2
      cases hl : loopC (own.map (·.2)) (bN j) gt ge ds [] (wipeE (own.map (·.2)) env1) with
      | none => rw [hl] at h2; exact h2.elim
      | some out =>
        rw [hl] at h2
        refine ⟨a, rfl, ⟨xs, ex_t R1.fh s⟩, fun Da hD => lc_tup (xs := xs) (fun i => BtwC X.K C F1 σ (own.map (·.2)) (bN j) gt ge Da out (ds.drop i)) (btw_start R1 hD hl) (fun i H _ ⟨F, env, accV, acc, R, ex, _⟩ => ex_t (ex.trans R.fh) s) (fun i x H hx hB => ?_) (fun H hB => ?_)⟩
        · obtain ⟨d, hd, dd⟩ := DpAll_at r hx
          rw [drop_at hd] at hB
          exact btw_turn (mg := X.mg) R1 hD hj rfl dd hB
        · rw [List.drop_eq_nil_of_le (Nat.le_of_eq r.len.symm)] at hB
          obtain ⟨F2, R2, ex2, o2⟩ := btw_end R1 hD hB
          exact h2 _ F2 H (R2.storeO i o2) ex2
    | _ => exact h1.elim
end
end Pf
/-! part PfE -/
set_option Elab.async false
set_option linter.all false
set_option maxRecDepth 100000
set_option maxHeartbeats 2000000
namespace Pf
open PySem PySem.Spec L2 Evl
theorem meets_enum1 {v : Value} {o : Obj} {Hx : Heap → Prop} (Bg : Begins v o Hx) :
    Meets (Builtin.«enumerate.__new__» ⟨[.type "enumerate", v], []⟩) (fun _ R s => Hx s.heap ∧
      R (.ok (.ret (.ref (s.heap.push o).objs.size))) { s with heap := (s.heap.push o).push { cls := .type "enumerate", data := .fields #[.none, .bool false, .ref s.heap.objs.size, rawInt 0, .none, .none] } }) := Meets.of_wp fun prog w A R s h => by
  obtain ⟨hp, gg, dd, tk, os⟩ := s
  obtain ⟨hx, h⟩ := h
  have hsub := sub_enumerate
  have it1 : ∀ {A' : Around} {E' : Value → Shared → Prop} {Q' : Value → Shared → Prop}, Q' (.ref hp.objs.size) ⟨hp.push o, gg, dd, tk, os⟩ → wpAny (model prog w) A' (pyIter v) Q' E' ⟨hp, gg, dd, tk, os⟩ := fun q => Bg.iter prog w _ _ ⟨hp, gg, dd, tk, os⟩ _ hx q
  wp_walk using it1
  refine wpAny_stack_any fun st => wpAny_pure ?_
  split
  · rename_i cl _ _ _ _ _
    cases (cl == Value.type "enumerate") <;> (wp_walk using it1; exact ⟨_, rfl, h⟩)
  · wp_walk using it1
    exact ⟨_, rfl, h⟩
theorem enum1_begins {prog : Program} {w : World} {A : Around} {E : Value → Shared → Prop} {s : Shared} {v : Value} {o : Obj} {Hx : Heap → Prop} {Q : Value → Shared → Prop} (Bg : Begins v o Hx) (hx : Hx s.heap)
    (h : ∀ h', IsEnum h' (s.heap.objs.size + 1) s.heap.objs.size 0 .none → h'.get? s.heap.objs.size = some o → (∀ b u, s.heap.get? b = some u → h'.get? b = some u) → Q (.ref (s.heap.objs.size + 1)) { s with heap := h' }) :
    wpAny (model prog w) A (call (.type "enumerate") [v]) Q E s := by
  refine callType_new F.called_enumerate (by decide) (F.typeCall_enumerate_1 _) (F.newCall_enumerate_1 _) (fun ob => F.args_object_init_2 ob _) F.entry_enumerate_new (meets_enum1 Bg) ⟨hx, ?_⟩
  have hz : (s.heap.push o).objs.size = s.heap.objs.size + 1 := Heap.size_push ..
  show _ ∧ _
  rw [hz]
  have he : IsEnum ((s.heap.push o).push { cls := .type "enumerate", data := .fields #[.none, .bool false, .ref s.heap.objs.size, rawInt 0, .none, .none] }) (s.heap.objs.size + 1) s.heap.objs.size 0 .none := by
    have q := Heap.get?_push_size (s.heap.push o) (o := { cls := .type "enumerate", data := .fields #[.none, .bool false, .ref s.heap.objs.size, rawInt 0, .none, .none] }) rfl
    rw [hz] at q
    exact q
  exact ⟨⟨_, he, rfl⟩, h _ he (Heap.get?_push_of_some _ (Heap.get?_push_size _ Bg.free)) fun b u x => Heap.get?_push_of_some _ (Heap.get?_push_of_some _ x)⟩
def Itet (K : PySem.W.Frag) (a : Addr) : It :=
  ⟨fun i H => ∃ xs x, SqT K H a xs ∧ xs[i]? = some x, fun i H v H' => ∃ T x ob, (ob.dict = none ∧ ob.slots = #[]) ∧ v = .ref T ∧ H T = none ∧ H' = upd H T (.frz ob (.tup [.int (i : Nat), x])) ∧ ∀ xs, SqT K H a xs → xs[i]? = some x, fun i H => ∃ xs, SqT K H a xs ∧ xs.length = i⟩
theorem turn_enumT {P : Program} {w : World} {K : PySem.W.Frag} {elts : List Expr} {kk : Nat} {tpos : Pos} (a e it : Addr) :
    Turn P w K (.Tuple elts kk tpos) (Itet K a) [e, it] e (fun i h => (∃ old, IsEnum h e it ((i : Nat) : Int) old) ∧ h.IsTupleIter it a i ∧ e ≠ it ∧ e ≠ a ∧ a ≠ it) where
  mem := List.mem_cons_self
  obj := fun i h st b hb => by
    obtain ⟨⟨old, he⟩, ⟨o, ho, _, hd⟩, _⟩ := st
    rcases List.mem_cons.mp hb with z | z
    · rw [z]; exact ⟨_, he, fun v q => nomatch q⟩
    · rw [List.mem_singleton.mp z]; exact ⟨o, ho, fun v q => by rw [hd] at q; cases q⟩
  keep := fun i h h' ⟨⟨old, he⟩, hi, n⟩ k => ⟨⟨old, k e List.mem_cons_self _ he⟩, hi.at fun o q => k it (by simp) o q, n⟩
  item := by
    intro X hP hw hK hc i pins s σ H E I hf st hg
    subst hP hw hK
    obtain ⟨⟨old, he⟩, hit, n1, n2, n3⟩ := st
    obtain ⟨xs, x, hq, hx⟩ := hg
    obtain ⟨its, rv, p, hz⟩ := I.tuple hq
    obtain ⟨u, hu, ru⟩ := rv.get hx
    have hilt : i < its.toArray.size := by
      have := (List.getElem?_eq_some_iff.mp hu).1
      simpa using this
    have hel : e < s.heap.objs.size := Heap.lt_size he
    have hil : it < s.heap.objs.size := by obtain ⟨_, q, _⟩ := hit; exact Heap.lt_size q
    refine wpAny_pyNext_enum_itemD (Draws.tuple (prog := X.prog) (w := X.w) (A := X.A.in1) (I.ok.hd hc) it a n3 its.toArray) he ⟨hit, p⟩ hilt n1 (by simp [n1, n2]) fun y h' tk hy ho hst hT hsz hk => ?_
    have ey : y = u := by
      have h1 : its.toArray[i]? = some y := hy
      have h2 : its.toArray[i]? = some u := by simpa using hu
      rw [h1] at h2
      exact Option.some.inj h2
    subst ey
    refine ⟨_, rfl, wpAny_letOwnedTupleGo_enum (s := { s with heap := h', toks := tk + 1 }) ho fun h'' he' sb => ?_⟩
    have hT2 : h''.get? s.heap.objs.size = some { cls := .type "tuple", data := .seq #[.int i tk, y] } := (sb.2 _ (Nat.ne_of_gt hel)).trans hT
    have new : ObjOk X.prog X.w (upd H s.heap.objs.size (.frz { cls := .type "tuple", data := .seq #[.int i tk, y] } (.tup [.int (i : Nat), x]))) h'' s.heap.objs.size (.frz { cls := .type "tuple", data := .seq #[.int i tk, y] } (.tup [.int (i : Nat), x])) :=
      ⟨hT2, by show 2 ≤ sizeLine; decide, [.int i tk, y], .cons ⟨_, rfl⟩ (.cons ru .nil), ⟨_, hT2, rfl, _, rfl⟩⟩
    have kk : ∀ b ob, b ∉ [e, it] → s.heap.get? b = some ob → h''.get? b = some ob := fun b ob hb q => by
      have b1 : b ≠ e := fun z => hb (by simp [z])
      have b2 : b ≠ it := fun z => hb (by simp [z])
      exact (sb.2 b b1).trans (hk b ob b1 b2 q)
    have I1 : Inv X pins σ (upd H s.heap.objs.size (.frz { cls := .type "tuple", data := .seq #[.int i tk, y] } (.tup [.int (i : Nat), x]))) { s with heap := h'', toks := tk + 1 } := I.turnedNew (t' := tk + 1) kk hf (Nat.le_refl _) new
    refine ⟨.ref s.heap.objs.size, _, I1, rfl, ⟨_, x, _, ⟨rfl, rfl⟩, rfl, I.hok.fresh (Nat.le_refl _), rfl, fun ys hy => by rw [I.tuple_inj hy hq]; exact hx⟩, ⟨⟨y, ?_⟩, hst.1.at fun o q => (sb.2 it (Ne.symm n1)).trans q, n1, n2, n3⟩, fun b hb => ?_⟩
    · have e1 : ((i + 1 : Nat) : Int) = (i : Int) + 1 := by omega
      rw [e1]
      exact he'
    · have hb' : b < s.heap.objs.size := by
        rcases List.mem_cons.mp hb with z | z
        · rw [z]; exact hel
        · rw [List.mem_singleton.mp z]; exact hil
      rw [upd_ne (Nat.ne_of_lt hb')]
      exact (hf b hb).1
  done := by
    intro X hP hw hK hc i pins s σ H E I hf st hg
    subst hP hw hK
    obtain ⟨⟨old, he⟩, hit, n1, n2, n3⟩ := st
    obtain ⟨xs, hq, hx⟩ := hg
    obtain ⟨its, rv, p, hz⟩ := I.tuple hq
    obtain ⟨f0, f1, f2, f3, f4, f5⟩ := hf it (by simp)
    have hl : its.toArray.size = i := by
      have := rv.length
      simp only [List.size_toArray]
      omega
    subst hl
    exact wpAny_pyNext_enum_endD (Draws.tuple (prog := X.prog) (w := X.w) (A := X.A.in1) (I.ok.hd hc) it a n3 its.toArray) he ⟨hit, p⟩ fun h' eb => ⟨rfl, I.turned (t' := s.toks) (fun b o hb q => eb b o hb q) f0 f1 f3 f4 f5⟩
  self := fun A i s Q E ⟨⟨_, he⟩, _⟩ h => wpAny_pyIter_enum he h
def iEnumT (K : PySem.W.Frag) (ta : TA) : TI := fun σ H R => ta σ H fun vs H1 => ∃ a xs, vs = [.ref a] ∧ SqT K H1 a xs ∧ R (Itet K a) H1
theorem pi_enumT {X : Cx} {e : Expr} {ta : TA} {p pos tpos : Pos} {elts : List Expr} {kk : Nat} (hg : Gl X "enumerate") (hm : X.mg "enumerate" = none) (ha : PA X [e] ta) (hs : starEach [e] X.env = [(false, eval e X.env)] := by rfl) :
    PI X (.Tuple elts kk tpos) (.Call (.Name "enumerate" p) [e] [] pos) (iEnumT X.K ta) := by
  refine ⟨fun pins s σ H R I h => PyProof.Rows.Call_ (ld_blt I hg hm PyProof.Rows.boot_enumerate (PyProof.Rows.callWith_type1 (thn (ha.run pos pins s σ H _ I h) fun us s1 ⟨vs, H1, I1, r1, a, xs, ex, hq, q⟩ => ?_) hs rfl))⟩
  subst ex
  cases r1 with
  | cons r rr =>
    cases rr
    cases r
    obtain ⟨its, rv, p', hz⟩ := I1.tuple hq
    have ha' : a < s1.heap.objs.size := by obtain ⟨_, q, _⟩ := p'; exact Heap.lt_size q
    refine enum1_begins (begins_tuple a its.toArray) p' fun h' he hit hk => wpAny_pyIter_enum he ?_
    have I2 : Inv X pins σ H1 { s1 with heap := h' } := I1.kept (t' := s1.toks) hk
    refine ⟨s1.heap.objs.size + 1, [s1.heap.objs.size + 1, s1.heap.objs.size], _, _, H1, rfl, I2, turn_enumT a (s1.heap.objs.size + 1) s1.heap.objs.size, ⟨⟨.none, he⟩, ⟨_, hit, rfl, rfl⟩, Nat.succ_ne_self _, Nat.ne_of_gt (Nat.lt_succ_of_lt ha'), Nat.ne_of_lt ha'⟩, fun b hb => ?_, q⟩
    have hle : s1.heap.objs.size ≤ b := by
      rcases List.mem_cons.mp hb with z | z
      · rw [z]; exact Nat.le_succ _
      · rw [List.mem_singleton.mp z]; exact Nat.le_refl _
    exact I1.fpOk hle (I1.hok.fresh hle)
def enumD (ds : List PyData) : List PyData := (List.range ds.length).zipWith (fun (i : Nat) d => .tuple [.int (i : Int), d]) ds
theorem enumD_len (ds : List PyData) : (enumD ds).length = ds.length := by unfold enumD; rw [List.length_zipWith, List.length_range, Nat.min_self]
theorem enumD_at {ds : List PyData} {i : Nat} {d : PyData} (h : ds[i]? = some d) : (enumD ds)[i]? = some (.tuple [.int (i : Int), d]) := by
  have hl := (List.getElem?_eq_some_iff.mp h).1
  unfold enumD
  rw [List.getElem?_zipWith, List.getElem?_range hl, h]
def gForET (ga : M PyData) (b : PyData → En → Option En) (g : S) : S := gE ga fun d => match d with
  | .tuple ds => loopL b g (enumD ds)
  | _ => fun _ => none
def looseP : PyData → Bool
  | .none => false
  | .int _ => false
  | _ => true
theorem dp_loose {K : PySem.W.Frag} {H : Hp} {v : V} {d : PyData} (h : Dp K H v d) (l : looseP d = true) : looseV v = true := by
  cases h <;> first | rfl | cases l
def gForEL (ga : M PyData) (b : PyData → En → Option En) (g : S) : S := gE ga fun d => match d with
  | .list ds => if ds.all looseP = true then loopL b g (enumD ds) else fun _ => none
  | _ => fun _ => none
section
variable {X : Cx} {W : WX} {e : Expr} {tgs : List Expr} {kk : Nat} {body : List Stmt} {ga : M PyData} {b : PyData → En → Option En} {g : S} {pos p1 p2 tpos : Pos}
theorem enum_turn {K : PySem.W.Frag} {mg : Str → Option Value} {C : Cn} {F1 : Hp} {ds : List PyData} {D : Ends} {i : Nat} {d : PyData} {x : V} {T : Addr} {σ : St} {H : Hp} {t : TG}
    (kt : ∀ C F σ H env env' v d Q, Rel K C F σ H env → Dp K F v d → b d env = some env' → (∀ σ', Rel K C F σ' H env' → Q σ' H) → t v σ H Q) (hd : ds[i]? = some d) (dd : Dp K F1 x d) {u : HO} (hu : okNew u) (hr : ∀ H, H T = some u → Rd H T (.tup [.int (i : Nat), x])) (hT : H T = none)
    (hB : Btw K mg W C F1 (loopL b g ((enumD ds).drop i)) D σ H) :
    t (.ref T) σ (upd H T u) fun σ2 H2 => tS K mg W g { D with nx := Btw K mg W C F1 (loopL b g ((enumD ds).drop (i + 1))) D, ct := Btw K mg W C F1 (loopL b g ((enumD ds).drop (i + 1))) D, bk := D.nx } σ2 H2 := by
  obtain ⟨F', env', R', ex, h2⟩ := hB
  rw [drop_at (enumD_at hd)] at h2
  obtain ⟨env2, hb2, h3⟩ := loop_cons h2
  have hf := (R'.fresh hT).1
  have exn : Ex F' (upd F' T u) := Ex.new hf
  refine kt C _ σ _ env' env2 _ _ _ (R'.newF hT hu) (.tup (.inl (hr _ upd_same)) (.cons (.int _) (.cons (dp_mono exn (dp_mono ex dd)) .nil))) hb2 fun σ2 R2 => ⟨C, _, env2, R2, ?_⟩
  exact (h3.up exn).imp (fun _ _ ⟨F2, env3, R3, ex3, q⟩ => ⟨F2, env3, R3, ex.trans ex3, q⟩) (fun _ _ z => z) (fun _ _ z => z) (fun _ _ ⟨F2, env3, R3, ex3, q⟩ => ⟨F2, env3, R3, ex.trans ex3, q⟩)
theorem ss_forET (hp : PassesOwn (model X.prog X.w) X.A X.env X.xe) (hc : X.calm = true) (hgl : Gl X "enumerate") (hm : X.mg "enumerate" = none) (hi : SV X W e ga) (hg : SGt X (.Tuple tgs kk tpos) b) (hb : SSs X W body g)
    (h1 : starEach [e] X.env = [(false, eval e X.env)] := by rfl) (h2 : starEach [e] X.env = (false, eval e X.env) :: starEach [] X.env := by rfl) (hs : ∀ x, foldedSetIterable (.Call (.Name "enumerate" p1) [e] [] p2) X.env x = pure x := by intro _; rfl) :
    SS X W (.For (.Tuple tgs kk tpos) (.Call (.Name "enumerate" p1) [e] [] p2) body [] pos) (gForET ga b g) := by
  obtain ⟨t, pt, kt⟩ := hg
  refine ps_imp (ps_for hp hc (pi_enumT hgl hm (pa_cons hi pa_nil h2) h1) pt hb hs) fun D σ H ⟨C, F, env, R, h⟩ => tE_bd R h fun d env1 v F1 H1 R1 e1 o1 h1 => ?_
  cases o1 with
  | @tup a xs ds s r =>
    refine ⟨a, xs, rfl, ex_t R1.fh s, fun i m σ H => m = ds.length - i ∧ i ≤ ds.length ∧ Btw X.K X.mg W C F1 (loopL b g ((enumD ds).drop i)) D σ H, ⟨ds.length, rfl, Nat.zero_le _, F1, env1, R1, Ex.refl _, h1⟩, ?_⟩
    rintro i m σ H ⟨rfl, hi, hB⟩
    have hq : SqT X.K H a xs := by obtain ⟨F', env', R', ex, _⟩ := hB; exact ex_t (ex.trans R'.fh) s
    by_cases hlt : i < ds.length
    · have hx : xs[i]? = some (xs[i]'(by rw [r.len]; exact hlt)) := List.getElem?_eq_getElem _
      obtain ⟨d, hd, dd⟩ := DpAll_at r hx
      refine .inr ⟨⟨xs, _, hq, hx⟩, _, fun σ' H' p' => ⟨ds.length - (i + 1), by omega, rfl, hlt, p'⟩, fun v H' ⟨T, x, ob, hob, ev, hT, eH, hy⟩ => ?_⟩
      have ex' : x = xs[i]'(by rw [r.len]; exact hlt) := by
        have := hy xs hq
        rw [hx] at this
        exact (Option.some.inj this).symm
      subst ev eH ex'
      exact enum_turn kt hd dd (u := .frz ob (.tup [.int (i : Nat), xs[i]'(by rw [r.len]; exact hlt)])) hob (fun _ q => .inr ⟨ob, q⟩) hT hB
    · have e' : i = ds.length := by omega
      subst e'
      refine .inl ⟨⟨xs, hq, r.len⟩, ?_⟩
      rw [List.drop_eq_nil_of_le (by rw [enumD_len]; exact Nat.le_refl _)] at hB
      exact loop_nil hB
  | _ => exact h1.elim
theorem ss_forEL (hp : PassesOwn (model X.prog X.w) X.A X.env X.xe) (hc : X.calm = true) (hgl : Gl X "enumerate") (hm : X.mg "enumerate" = none) (hi : SV X W e ga) (hg : SGt X (.Tuple tgs kk tpos) b) (hb : SSs X W body g)
    (h1 : starEach [e] X.env = [(false, eval e X.env)] := by rfl) (h2 : starEach [e] X.env = (false, eval e X.env) :: starEach [] X.env := by rfl) (hs : ∀ x, foldedSetIterable (.Call (.Name "enumerate" p1) [e] [] p2) X.env x = pure x := by intro _; rfl) :
    SS X W (.For (.Tuple tgs kk tpos) (.Call (.Name "enumerate" p1) [e] [] p2) body [] pos) (gForEL ga b g) := by
  obtain ⟨t, pt, kt⟩ := hg
  refine ps_imp (ps_for hp hc (pi_enum hgl hm (pa_cons hi pa_nil h2) h1) pt hb hs) fun D σ H ⟨C, F, env, R, h⟩ => tE_bd R h fun d env1 v F1 H1 R1 e1 o1 h1 => ?_
  cases o1 with
  | @lst a xs ds s r =>
    by_cases hall : ds.all looseP = true
    case neg =>
      simp only [if_neg hall] at h1
      exact h1.elim
    simp only [if_pos hall] at h1
    refine ⟨a, xs, rfl, ex_l R1.fh s, fun i m σ H => m = ds.length - i ∧ i ≤ ds.length ∧ Btw X.K X.mg W C F1 (loopL b g ((enumD ds).drop i)) D σ H, ⟨ds.length, rfl, Nat.zero_le _, F1, env1, R1, Ex.refl _, h1⟩, ?_⟩
    rintro i m σ H ⟨rfl, hi, hB⟩
    have hq : SqL X.K H a xs := by obtain ⟨F', env', R', ex, _⟩ := hB; exact ex_l (ex.trans R'.fh) s
    by_cases hlt : i < ds.length
    · have hx : xs[i]? = some (xs[i]'(by rw [r.len]; exact hlt)) := List.getElem?_eq_getElem _
      obtain ⟨d, hd, dd⟩ := DpAll_at r hx
      refine .inr ⟨⟨xs, _, hq, hx⟩, _, fun σ' H' p' => ⟨ds.length - (i + 1), by omega, rfl, hlt, p'⟩, fun v H' ⟨T, x, ev, hT, eH, hy⟩ => ?_⟩
      have ex' : x = xs[i]'(by rw [r.len]; exact hlt) := by
        have := hy xs hq
        rw [hx] at this
        exact (Option.some.inj this).symm
      subst ev eH ex'
      exact enum_turn kt hd dd (u := .tup [.int (i : Nat), xs[i]'(by rw [r.len]; exact hlt)]) (by
        have z := dp_loose dd (List.all_eq_true.mp hall d (List.mem_of_getElem? hd))
        show ([.int (i : Nat), xs[i]'(by rw [r.len]; exact hlt)] : List V).any looseV = true
        simp [z]) (fun _ q => .inl q) hT hB
    · have e' : i = ds.length := by omega
      subst e'
      refine .inl ⟨⟨xs, hq, Nat.le_of_eq r.len⟩, ?_⟩
      rw [List.drop_eq_nil_of_le (by rw [enumD_len]; exact Nat.le_refl _)] at hB
      exact loop_nil hB
  | _ => exact h1.elim
end
end Pf
/-! part PfX1 -/
set_option Elab.async false
set_option linter.all false
set_option maxRecDepth 100000
set_option maxHeartbeats 4000000
namespace Pf
open PySem PySem.Spec L2 Evl
structure BaseI (K : PySem.W.Frag) (mg : Str → Option Value) (b : Str) (CS : Addr) : Prop where
  g : mg b = some (.ref CS)
  ga : PySem.W.specialIn K (.ref CS) "__getattribute__" = some (some (.builtin "type.__getattribute__"))
  rd : PySem.W.readsIn K CS (.type "type") = true
  at_ : PySem.W.findCls K (.ref CS) (.type "type") "__init__" = some (.val (.builtin "ValueError.__init__"))
section
variable {X : Cx} {b x : Str} {CS C fI : Addr} {e : Expr} {es : List Expr} {ta : TA} {p p1 p2 pos pos2 : Pos}
theorem pe_binit {pl : Sem Bool} (Bi : BaseI X.K X.mg b CS) (ha : PA X (e :: es) ta) (hg : Gl X b := by rfl) (hdb : (b == ("__debug__" : Str)) = false := by decide)
    (hc : eval (.Call (.Attribute (.Name b p1) "__init__" p2) (e :: es) [] pos) X.env = (do
      let ov ← eval (.Name b p1) X.env
      standAt p2.atName
      let (f, first) ← holding [ov] (getMethod ov "__init__" pl)
      callWith pos f first (backTo pos (starEach (e :: es) X.env)) (backToKw pos (keywordEach [] X.env))) := by rfl)
    (he : starEach (e :: es) X.env = (false, eval e X.env) :: starEach es X.env := by rfl) (hpl : (backTo pos (starEach es X.env)).any (·.1) = false := by rfl) :
    PE X (.Call (.Attribute (.Name b p1) "__init__" p2) (e :: es) [] pos) (tVeI X.K ta) := by
  refine ⟨fun pins s σ H Q I h => PySem.W.methodCall_KW (ld_glob I hg Bi.g ?_ hdb) hc⟩
  refine PySem.W.method_cls I.kIn Bi.ga (PySem.W.cls_value I.kIn Bi.rd Bi.at_ (by decide +kernel) ?_)
  show wpAny _ _ (callWith pos (Value.builtin "ValueError.__init__") [] (backTo pos (starEach (e :: es) X.env)) []) _ _ _
  refine PyProof.Rows.callWith_method1 (thn (ha.run pos pins _ σ H _ (I.tok _) h) fun us s1 ⟨vs, H1, I1, r1, a, C, ws, ev, hl, T, ea, q⟩ => ?_) he hpl
  subst ev
  cases r1 with
  | @cons _ u0 _ ur ra rw' =>
    obtain rfl : u0 = Value.ref a := ra
    have hlen : ur.length ≤ sizeLine := by
      rw [← Paired.length rw', sizeLine_eq]
      omega
    exact oinit_ok T I1 ea hlen fun s' J => ⟨.non, H1, J, rfl, q⟩
def tMkK (C : Addr) (n : Nat) (sp : Sp) (tk : TA) : St → Hp → XK → Prop := fun σ H Q => tk σ H fun zs H1 => zs.length = n ∧ ∀ a, H1 a = none → sp (.ref a :: zs) (upd H1 a (exo a C none))
  (fun v H2 => v = .non ∧ ∃ (d : Addr) (fs : List (Str × V)), H2 a = some (exo a C (some d)) ∧ H2 d = some (exd d fs) ∧ H1 d = none ∧ Q (.ref C) (some d) (upd (del H2 a) d (.xd fs))) (fun _ _ _ => False)
theorem pmk_oexK {CX : CXT} {k : Nat} {fd : FuncData} {ps ks : List Str} {sp : Sp} {kws : List Keyword} {tk : TA} (T : OexC X.K C) (iC : PySem.W.findIn X.K (.ref C) "__init__" = some (some (.ref fI))) (tI : PySem.W.typeIn X.K (.ref fI) = some (.type "function"))
    (F1 : FnOk X.prog X.w X.K X.mg X.base CX k fI fd ps sp) (hr : Room (k + 1) X.A) (hb : ∀ (s : Shared) (u : Value) (ws : List Value), ws.length = ks.length → BindsTo s fd ⟨[u], ks.zip ws⟩ (ps.zip (u :: ws))) (hx : Passes CX X (fun _ _ _ => False)) (hm : X.mg x = some (.ref C)) (hkw : PK X kws tk)
    (hg : Gl X x := by rfl) (hdb : (x == ("__debug__" : Str)) = false := by decide) (hall : (backToKw pos (keywordEach kws X.env)).all (·.1.isSome) = true := by rfl) (hks : (backToKw pos (keywordEach kws X.env)).filterMap (·.1) = ks := by rfl)
    (hpl : ((backTo pos (starEach [] X.env)).any (·.1) || (backToKw pos (keywordEach kws X.env)).any (·.1.isNone)) = false := by rfl) :
    PMk X (.Call (.Name x p) [] kws pos) (tMkK C ks.length sp tk) := by
  intro pins s σ H Q I h
  obtain ⟨nm, q, N, bs, bm, sn, sub, ab, col, dd, k0, k1, k2, k3, k5, hC, hbm⟩ := T.cls
  refine wpAny_Call_Name_kw (ld_glob I hg hm (PySem.W.callWith_KW0 (h₀ := X.base) I.ok.mod.kin T.kC hall ?_ hpl) hdb)
  refine thn (hkw.run pos pins s σ H _ I h) fun ws s1 ⟨zs, H1, I1, rz, hzl, q1⟩ => ⟨I1.kIn, ?_⟩
  rw [hks]
  show wpAny _ _ (call (.ref C) [] (ks.zip ws)) _ _ _
  obtain ⟨hp, g, dr, tk', os⟩ := s1
  have hsz : hp.objs.size ≤ hp.objs.size + 1 := Nat.le_succ _
  have hn : H1 (hp.objs.size + 1) = none := I1.hok.fresh hsz
  have hq := q1 (hp.objs.size + 1) hn
  have kk : ∀ b o, hp.get? b = some o → ((hp.push (PySem.W.kdv_tup [])).push (PySem.HandSPX.excO C hp.objs.size)).get? b = some o := fun b o e => Heap.get?_push_of_some _ (Heap.get?_push_of_some _ e)
  have hget : ((hp.push (PySem.W.kdv_tup [])).push (PySem.HandSPX.excO C hp.objs.size)).get? (hp.objs.size + 1) = some (PySem.HandSPX.excO C hp.objs.size) := by heap_get
  have I2 : Inv X pins σ (upd H1 (hp.objs.size + 1) (exo (hp.objs.size + 1) C none)) ⟨(hp.push (PySem.W.kdv_tup [])).push (PySem.HandSPX.excO C hp.objs.size), g, dr, tk', os⟩ :=
    I1.laid (t' := tk') (a := hp.objs.size + 1) (o := exo (hp.objs.size + 1) C none) (h' := (hp.push (PySem.W.kdv_tup [])).push (PySem.HandSPX.excO C hp.objs.size)) kk hsz (exo_ok hget)
  have r2 : Vals (V.ref (hp.objs.size + 1) :: zs) (Value.ref (hp.objs.size + 1) :: ws) := .cons rfl rz
  have hwl : ws.length = ks.length := by rw [← Paired.length rz]; exact hzl
  refine wpAny_call (PySem.PfX.call_K F.excBase_ValueError (fun Y => PySem.HandSPX.refsVE_contains Y bm hbm) (I1.kIn _ _ hC) (PySem.W.looks_findIn I1.kIn iC) (fun self => PySem.W.bind_fn I1.kIn self tI)
    (codeAny_mono (F1.run _ X.stack _ _ ⟨[Value.ref (hp.objs.size + 1)], ks.zip ws⟩ (Value.ref (hp.objs.size + 1) :: ws) _ _ (fun _ _ _ => False) (hr.make C [] (ks.zip ws)) (I2.env0.make C [] (ks.zip ws)) (hb _ _ ws hwl) r2 hq) fun r s' hq' => ?_))
  cases r with
  | error er => exact hx pins σ _ _ er s' I2 hq'
  | ok fl =>
    cases fl with
    | ret u =>
      obtain ⟨v, H2, os2, bare2, un2, hok2, rv, ev, d, fs, ea, ed, hd1, q2⟩ := hq'
      subst ev
      obtain ⟨h2, g2, d2, t2, os'⟩ := s'
      exact ⟨rv, mk_end (raises_own T.exC T.tyC) I1 hsz kk un2 hok2 os2 bare2 ea ed hd1 q2⟩
    | next => exact hq'.elim
    | brk => exact hq'.elim
    | cont => exact hq'.elim
end
def printable : PyData → Bool
  | .int i => decide (i.natAbs.log2 < 1920)
  | .str x => decide (x.length ≤ 1000)
  | _ => false
def spInit (K : PySem.W.Frag) (C : Addr) (fs : List Str) : Sp := fun vs H Q _ => ∃ (a : Addr) (ws : List V) (F : Hp) (ds : List PyData), vs = .ref a :: ws ∧ OexC K C ∧ H a = some (exo a C none) ∧ F a = none ∧ Ex F H ∧ DpAll K F ws ds ∧ ds.length = fs.length ∧ ds.all printable = true ∧
  ∀ d, H d = none → d ≠ a → Q .non (upd (upd H d (exd d (fs.zip ws).reverse)) a (exo a C (some d)))
end Pf
/-! part PfX2 -/
set_option Elab.async false
set_option linter.all false
set_option maxRecDepth 100000
set_option maxHeartbeats 4000000
namespace Pf
open PySem PySem.Spec L2 Evl
theorem str_app_len (a b : Str) : (a ++ b).length = a.length + b.length := by
  first
    | exact PySem.Str.length_append a b
    | (show (a ++ b).cps.size = a.cps.size + b.cps.size; simp [HAppend.hAppend, Append.append, Array.size_append])
theorem tJs_run : ∀ (ts : List TE) {σ : St} {H : Hp} {Q : Str → Hp → Prop}, (∀ t ∈ ts, ∀ Q : VK, (∀ y : Str, y.length ≤ 2000 → Q (.str y) H) → t σ H Q) → ∀ acc : Str, acc.length + 2000 * ts.length ≤ 16777216 → (∀ out, Q out H) → tJs ts acc σ H Q
  | [], _, _, _, _, acc, _, q => q acc
  | t :: ts, σ, H, Q, h, acc, hl, q => by
    show t σ H fun x H1 => ∃ y : Str, x = .str y ∧ (acc ++ y).length ≤ sizeLine ∧ tJs ts (acc ++ y) σ H1 Q
    refine h t List.mem_cons_self _ fun y hy => ⟨y, rfl, ?_, tJs_run ts (fun t' ht => h t' (List.mem_cons_of_mem _ ht)) _ ?_ q⟩
    · rw [str_app_len, sizeLine_eq]
      rw [List.length_cons] at hl
      omega
    · rw [str_app_len]
      rw [List.length_cons] at hl
      omega
theorem j_const {x : Str} {σ : St} {H : Hp} (hx : x.length ≤ 2000) : ∀ Q : VK, (∀ y : Str, y.length ≤ 2000 → Q (.str y) H) → tC (.str x) σ H Q := fun Q q => q x hx
theorem j_slot {K : PySem.W.Frag} {F : Hp} {i : Nat} {v : V} {d : PyData} {σ : St} {H : Hp} (hs : σ[i]? = some (some v)) (hd : Dp K F v d) (hp : printable d = true) : ∀ Q : VK, (∀ y : Str, y.length ≤ 2000 → Q (.str y) H) → tFmt (tVar i) σ H Q := fun Q q => by
  refine ⟨v, hs, ?_⟩
  cases hd with
  | int k =>
    have hk : k.natAbs.log2 < 1920 := of_decide_eq_true hp
    refine .inr ⟨k, rfl, hk, q _ ?_⟩
    have e := int_text_length_le (k := 1920) (by decide) hk
    show (PySem.Str.ofString (toString k)).length ≤ 2000
    rw [ofString_length]
    omega
  | str x =>
    have hx : x.length ≤ 1000 := of_decide_eq_true hp
    exact .inl ⟨x, rfl, by rw [sizeLine_eq]; omega, q x (by omega)⟩
  | _ => cases hp
section
variable {P : Program} {w : World} {K : PySem.W.Frag} {mg : Str → Option Value} {base : Heap} {C CS : Addr} {b : Str}
theorem init2 {σ : St} {H F : Hp} {a : Addr} {v1 v2 : V} {d1 d2 : PyData} {f1 f2 : Str} {ts : List TE} {D : Ends} {Q : VK} (T : OexC K C) (n1 : PySem.W.findIn K (.ref C) f1 = some none) (n2 : PySem.W.findIn K (.ref C) f2 = some none)
    (s0 : σ[0]? = some (some (.ref a))) (s1 : σ[1]? = some (some v1)) (s2 : σ[2]? = some (some v2)) (ea : H a = some (exo a C none)) (hts : ∀ t ∈ ts, ∀ Q : VK, (∀ y : Str, y.length ≤ 2000 → Q (.str y) H) → t σ H Q) (hl : ts.length ≤ 20)
    (hq : ∀ d, H d = none → d ≠ a → D.nx σ (upd (upd H d (exd d [(f2, v2), (f1, v1)])) a (exo a C (some d)))) :
    tSeq (tDrop (tVeI K (tCons (tVar 0) (tCons (fun σ H Q => tJs ts Str.empty σ H fun out H1 => Q (.str out) H1) tNil)))) (tSeq (tOst K f1 (tVar 0) (tVar 1)) (tOst K f2 (tVar 0) (tVar 2))) D σ H := by
  refine ⟨.ref a, s0, tJs_run ts hts _ (by show 0 + _ ≤ _; omega) fun out => ⟨a, C, [.str out], rfl, by show 1 ≤ 1000; decide, T, ea, v1, s1, .ref a, s0, a, C, rfl, T, n1, .inl ⟨ea, fun d hd hda => ?_⟩⟩⟩
  refine ⟨v2, s2, .ref a, s0, a, C, rfl, T, n2, .inr ⟨d, [(f1, v1)], upd_same, by rw [upd_ne hda, upd_same], by show 1 ≤ 900; decide, ?_⟩⟩
  have e : upd (upd (upd H d (exd d [(f1, v1)])) a (exo a C (some d))) d (exd d [(f2, v2), (f1, v1)]) = upd (upd H d (exd d [(f2, v2), (f1, v1)])) a (exo a C (some d)) := by
    funext x
    by_cases h1 : x = d
    · subst h1; rw [upd_same, upd_ne hda, upd_same]
    · rw [upd_ne h1]
      by_cases h2 : x = a
      · subst h2; rw [upd_same, upd_same]
      · rw [upd_ne h2, upd_ne h2, upd_ne h1, upd_ne h1]
  rw [e]
  exact hq d hd hda
theorem init1 {σ : St} {H F : Hp} {a : Addr} {v1 : V} {f1 : Str} {ts : List TE} {D : Ends} {Q : VK} (T : OexC K C) (n1 : PySem.W.findIn K (.ref C) f1 = some none)
    (s0 : σ[0]? = some (some (.ref a))) (s1 : σ[1]? = some (some v1)) (ea : H a = some (exo a C none)) (hts : ∀ t ∈ ts, ∀ Q : VK, (∀ y : Str, y.length ≤ 2000 → Q (.str y) H) → t σ H Q) (hl : ts.length ≤ 20)
    (hq : ∀ d, H d = none → d ≠ a → D.nx σ (upd (upd H d (exd d [(f1, v1)])) a (exo a C (some d)))) :
    tSeq (tDrop (tVeI K (tCons (tVar 0) (tCons (fun σ H Q => tJs ts Str.empty σ H fun out H1 => Q (.str out) H1) tNil)))) (tOst K f1 (tVar 0) (tVar 1)) D σ H := by
  refine ⟨.ref a, s0, tJs_run ts hts _ (by show 0 + _ ≤ _; omega) fun out => ⟨a, C, [.str out], rfl, by show 1 ≤ 1000; decide, T, ea, v1, s1, .ref a, s0, a, C, rfl, T, n1, .inl ⟨ea, fun d hd hda => hq d hd hda⟩⟩⟩
end
structure XCls (K : PySem.W.Frag) (mg : Str → Option Value) (x : Str) (C fI : Addr) : Prop where
  g : mg x = some (.ref C)
  oex : OexC K C
  iC : PySem.W.findIn K (.ref C) "__init__" = some (some (.ref fI))
  tI : PySem.W.typeIn K (.ref fI) = some (.type "function")
def gRaise (cls : Str) (fs : List Str) (gl : M (List PyData)) : S := gE gl fun ds env => if ds.length = fs.length ∧ ds.all printable = true then some (.er ⟨cls, some ((fs.zip ds).reverse)⟩ env) else none
abbrev SK (X : Cx) (W : WX) (kws : List Keyword) (g : M (List PyData)) : Prop := PK X kws (tG X.K X.mg (okA X.K) W g)
theorem pk_imp {X : Cx} {kws : List Keyword} {t t' : TA} (h : PK X kws t) (k : ∀ σ H Q, t' σ H Q → t σ H Q) : PK X kws t' := ⟨fun pos pins s σ H Q I q => h.run pos pins s σ H Q I (k σ H Q q)⟩
theorem fs_ok {K : PySem.W.Frag} {F : Hp} : ∀ {fs : List Str} {vs : List V} {ds : List PyData}, DpAll K F vs ds → FsOk K F (fs.zip vs) (fs.zip ds)
  | [], _, _, _ => by simp [FsOk]
  | _ :: _, _, _, .nil => by simp [FsOk]
  | f :: fs, _, _, .cons a r => ⟨rfl, a, fs_ok r⟩
theorem fs_app {K : PySem.W.Frag} {F : Hp} : ∀ {a a' : List (Str × V)} {b b' : List (Str × PyData)}, FsOk K F a b → FsOk K F a' b' → FsOk K F (a ++ a') (b ++ b')
  | [], _, [], _, _, h => h
  | [], _, _ :: _, _, h, _ => h.elim
  | _ :: _, _, [], _, h, _ => by simp [FsOk] at h
  | (f, v) :: a, _, (g, d) :: b, _, ⟨h1, h2, h3⟩, h => ⟨h1, h2, fs_app h3 h⟩
theorem fs_rev {K : PySem.W.Frag} {F : Hp} : ∀ {a : List (Str × V)} {b : List (Str × PyData)}, FsOk K F a b → FsOk K F a.reverse b.reverse
  | [], [], _ => trivial
  | [], _ :: _, h => h.elim
  | _ :: _, [], h => by simp [FsOk] at h
  | (f, v) :: a, (g, d) :: b, ⟨h1, h2, h3⟩ => by
    rw [List.reverse_cons, List.reverse_cons]
    exact fs_app (fs_rev h3) ⟨h1, h2, trivial⟩
section
variable {X : Cx} {W : WX} {e : Expr} {kws : List Keyword} {ga : M PyData} {gl : M (List PyData)} {nm : Option Str} {p kpos pos pos2 : Pos} {x : Str} {C fI : Addr}
theorem sk_nil : SK X W [] (M.ok []) := pk_imp pk_nil fun σ H Q ⟨C, F, env, R, h⟩ => aft (ok := okA X.K) h R .nil
theorem sk_cons (ha : SV X W e ga) (hr : SK X W kws gl) : SK X W (⟨nm, e, kpos⟩ :: kws) (M.bd ga fun d => M.bd gl fun ds => M.ok (d :: ds)) :=
  pk_imp (pk_cons ha hr) fun σ H Q ⟨C, F, env, R, h⟩ => tG_bd R h fun d env1 v F1 H1 R1 e1 o1 h1 => tG_bd R1 h1 fun ds env2 vs F2 H2 R2 e2 o2 h2 => aft (ok := okA X.K) h2 R2 (.cons (dp_mono e2 o1) o2)
theorem ss_raise {k : Nat} {fd : FuncData} {ps fs : List Str} (hc : X.calm = true) (tk : Takes X W) (Cl : XCls X.K X.mg x C fI) (F1 : FnOk X.prog X.w X.K X.mg X.base (L2.CX X.prog X.w) k fI fd ps (spInit X.K C fs)) (hr : Room (k + 1) X.A)
    (hb : ∀ (s : Shared) (u : Value) (ws : List Value), ws.length = fs.length → BindsTo s fd ⟨[u], fs.zip ws⟩ (ps.zip (u :: ws))) (hkw : SK X W kws gl)
    (hg : Gl X x := by rfl) (hdb : (x == ("__debug__" : Str)) = false := by decide) (hall : (backToKw pos (keywordEach kws X.env)).all (·.1.isSome) = true := by rfl) (hks : (backToKw pos (keywordEach kws X.env)).filterMap (·.1) = fs := by rfl)
    (hpl : ((backTo pos (starEach [] X.env)).any (·.1) || (backToKw pos (keywordEach kws X.env)).any (·.1.isNone)) = false := by rfl) :
    SS X W (.Raise (some (.Call (.Name x p) [] kws pos)) none pos2) (gRaise x fs gl) :=
  ps_imp (ps_raise hc tk (pmk_oexK Cl.oex Cl.iC Cl.tI F1 hr hb (fun _ _ _ _ _ _ _ c => by
      obtain ⟨_, _, _, _, _, _, _, _, _, _, _, _, z⟩ := c
      exact z.elim) Cl.g hkw hg hdb hall hks hpl)) fun D σ H ⟨Cn, F, env, R, h⟩ => tE_bd R h fun ds env1 vs F1 H1 R1 e1 o1 h1 => by
    have o1 : DpAll X.K F1 vs ds := o1
    split at h1
    · rename_i hd
      refine ⟨by rw [o1.len]; exact hd.1, fun a ha => ⟨a, vs, F1, ds, rfl, Cl.oex, upd_same, (R1.fresh ha).1, fun b o q => by rw [upd_ne (ne_of_none (R1.fh b o q) ha)]; exact R1.fh b o q, o1, hd.1, hd.2, fun d hdn hda => ⟨rfl, d, _, upd_same, by rw [upd_ne hda, upd_same], ?_, ?_⟩⟩⟩
      · have q : upd H1 a (exo a C none) d = none := hdn
        rw [upd_ne hda] at q
        exact q
      · have hd1 : H1 d = none := by
          have q : upd H1 a (exo a C none) d = none := hdn
          rw [upd_ne hda] at q
          exact q
        have e : upd (del (upd (upd (upd H1 a (exo a C none)) d (exd d (fs.zip vs).reverse)) a (exo a C (some d))) a) d (.xd (fs.zip vs).reverse) = upd H1 d (.xd (fs.zip vs).reverse) := by
          funext z
          by_cases h1 : z = d
          · subst h1; rw [upd_same, upd_same]
          · rw [upd_ne h1, upd_ne h1]
            by_cases h2 : z = a
            · subst h2; rw [del_same]; exact ha.symm
            · rw [del_ne h2, upd_ne h2, upd_ne h1, upd_ne h2]
        rw [e]
        have R2 := R1.newF (o := .xd (fs.zip vs).reverse) hd1
        have exd := Ex.new (o := .xd (fs.zip vs).reverse) (R1.fresh hd1).1
        exact h1 σ _ _ (.ref C) (some d) R2 exd ⟨Cl.g, d, _, rfl, upd_same, fs_rev (fs_ok (dps_mono exd o1))⟩
    · exact h1.elim
end
end Pf
/-! part PfP -/
set_option Elab.async false
set_option linter.all false
set_option maxRecDepth 100000
set_option maxHeartbeats 2000000
namespace Pf
open PySem PySem.Spec L2 Evl
theorem tE_bg {K : PySem.W.Frag} {mg : Str → Option Value} {W : WX} {C C' : Cn} {F : Hp} {σ : St} {H : Hp} {env : En} {α β : Type} {ok : OkR α β} {g : M α} {f : α → S} {D : Ends} {Q1 : β → Hp → Prop} (R : Rel K C' F σ H env) (back : ∀ F' H' env', Rel K C' F' σ H' env' → Rel K C F' σ H' env') (h : AftS K mg W C F (gE g f env) D)
    (k : ∀ d env' b F' H', Rel K C' F' σ H' env' → Ex F F' → ok C' F' σ H' env' d b → AftS K mg W C F' (f d env') D → Q1 b H') : tG K mg ok W g σ H Q1 := by
  refine ⟨C', F, env, R, ?_⟩
  unfold gE at h
  cases q : g env with
  | none => rw [q] at h; exact h
  | some r =>
    rw [q] at h
    cases r with
    | error x => obtain ⟨x, env'⟩ := x; exact fun F' H' cls dx R' => h σ F' H' cls dx (back _ _ _ R')
    | ok y =>
      obtain ⟨d, env'⟩ := y
      exact fun b F' H' R' e o => k d env' b F' H' R' e o (AftS.up h e)
section
variable {X : Cx} {W : WX} {a b c : Expr} {x y z : Str} {g1 g2 gl : M (List PyData)} {pos : Pos}
def gParOO (i j : Nat) (g1 g2 : M (List PyData)) : S := gE g1 fun ds => gE g2 fun es env => some (.nx ((env.set i (.own ds)).set j (.own es)))
theorem ss_parOO {i j : Nat} {px py pt : Pos} {kt k2 pt2} (hc : X.calm = true) (hN : X.N.Nodup) (hi : X.N[i]? = some x) (hj : X.N[j]? = some y) (hij : i ≠ j)
    (hx : X.env.scope.names.lookup x = some .local) (hy : X.env.scope.names.lookup y = some .local) (ha : SO X W a g1) (hb : SO X W b g2)
    (hw : swappedStores [.Tuple [.Name x px, .Name y py] kt pt] (.Tuple [a, b] k2 pt2) X.env = pure (some [x, y]))
    (hs : swapsWithSole [.Tuple [.Name x px, .Name y py] kt pt] (.Tuple [a, b] k2 pt2) pos.line X.env = pure false := by rfl)
    (h1 : starEach [a, b] X.env = (false, eval a X.env) :: starEach [b] X.env := by rfl) (h2 : starEach [b] X.env = (false, eval b X.env) :: starEach [] X.env := by rfl) :
    SS X W (.Assign [.Tuple [.Name x px, .Name y py] kt pt] (.Tuple [a, b] k2 pt2) pos) (gParOO i j g1 g2) :=
  ps_imp (ps_par hc hN hi hj hij hx hy (pa_cons ha (pa_cons hb pa_nil h2) h1) hw hs) fun D σ H ⟨C, F, env, R, h⟩ => tE_bd R h fun ds env1 v F1 H1 R1 e1 o1 h1 => by
    obtain ⟨p, vs, rfl, a1, a2, a3, a4, a5⟩ := o1
    refine tE_bg (R1.guard a1 a2 a3 a5) (fun F' H' env' r => Rel.unguard R1 a2 r) h1 fun es env2 w F2 H2 R2 e2 o2 h2 => ?_
    obtain ⟨q, ws, rfl, b1, b2, b3, b4, b5⟩ := o2
    have hH : H2 p = some (.lst vs) := R2.guarded (fun b hb => (R1.bd b hb).2.2) a2
    have R3 := Rel.unguard R1 a2 R2
    have b2' : upd C.H p (.lst vs) q = none := b2
    have npq : q ≠ p := fun e => by subst e; rw [upd_same] at b2'; cases b2'
    rw [upd_ne npq] at b2'
    have hf : F2 p = none := by
      cases z : F2 p with
      | none => rfl
      | some u =>
        have hcf : C.F p = none := by
          cases z : C.F p with
          | none => rfl
          | some u => have := R1.cf p u z; rw [a1] at this; cases this
        exact (by have := (Rel.reguard (ys := vs) R1 a2 hcf R2).1; exact this ▸ z ▸ rfl : some u = none).symm ▸ rfl
    have hno : ∀ k, ¬ Owned σ env2 k p := fun k ⟨s, e1, e2, e3⟩ => by
      have t := R2.sl k s e1
      cases s with
      | own es => obtain ⟨p', us, c1, c2, c3, _⟩ := t; rw [e3] at c1; cases c1; have c3 : upd C.H p (.lst vs) p = none := c3; rw [upd_same] at c3; cases c3
      | bor es => obtain ⟨p', us, c1, c2, c3, _⟩ := t; rw [e3] at c1; cases c1; exact (R1.bd p c3).2.2 a2
      | obj ob => obtain ⟨p', c1, c2, c3, _⟩ := t; rw [e3] at c1; cases c1; have c3 : upd C.H p (.lst vs) p = none := c3; rw [upd_same] at c3; cases c3
      | _ => cases e2
    have R4 := R3.storeO i (v := .ref p) (ds := ds) ⟨p, vs, rfl, hf, a2, hH, dps_mono e2 a4, hno⟩
    have hno2 : ∀ k, ¬ Owned (σ.set i (some (.ref p))) (env2.set i (.own ds)) k q := fun k ⟨s, e1, e2, e3⟩ => by
      rcases set_at e1 with ⟨rfl, rfl, _⟩ | ⟨ne, e1⟩
      · have hl : k < σ.length := by
          by_cases h : k < σ.length
          · exact h
          · rw [List.getElem?_eq_none (by rw [List.length_set]; omega)] at e3; cases e3
        rw [List.getElem?_set_self hl] at e3
        exact npq (by cases e3; rfl)
      · rw [List.getElem?_set_ne (fun h => ne h.symm)] at e3
        exact b5 k ⟨s, e1, e2, e3⟩
    have R5 := R4.storeO j (v := .ref q) (ds := es) ⟨q, ws, rfl, b1, b2', b3, b4, hno2⟩
    exact ⟨_, _, rfl, h2 _ F2 H2 R5 (Ex.refl _)⟩
end
end Pf
/-! part PfS -/
set_option Elab.async false
set_option linter.all false
set_option maxRecDepth 100000
set_option maxHeartbeats 2000000
namespace Pf
open PySem PySem.Spec L2 Evl
section
variable {X : Cx}
theorem seto_get {pins : List (Addr × Obj)} {σ : L2.St} {H : Hp} {s : Shared} {a : Addr} {S : Int → Bool} {n : Nat} (I : Inv X pins σ H s) (ha : H a = some (.set S n)) : s.heap.SetOf (intKind X.prog X.w) a S n := I.hok a _ ha
def rMkS : List V → Hp → VK → Prop := fun xs H Q => xs = [] ∧ ∀ p, H p = none → Q (.ref p) (upd H p (.set (fun _ => false) 0))
theorem cr_mkS : CallR X (.type "set") rMkS := by
  intro pins s σ H xs us Q I r h
  obtain ⟨rfl, q⟩ := h
  cases r
  refine L2.setR_new fun _ => ?_
  have new : (s.heap.push { cls := .type "set", dict := none, data := .set #[] 0 (.fresh 0 0 (!X.w.params.followText "set-order")) }).SetOf (intKind X.prog X.w) s.heap.objs.size (fun _ => false) 0 :=
    ⟨_, #[], 0, _, Heap.get?_push_size _ rfl, ⟨rfl, rfl, rfl⟩, rfl, (fun e he => by simp at he), (fun k => by simp), (by decide), (by rfl), rfl⟩
  exact ⟨.ref _, upd H s.heap.objs.size (.set (fun _ => false) 0), I.laid (t' := s.toks) (fun b u e => Heap.get?_push_of_some _ e) (Nat.le_refl _) new, rfl, q _ (I.hok.fresh (Nat.le_refl _))⟩
def addS (S : Int → Bool) (k : Int) : Int → Bool := fun j => S j || decide (j = k)
def cntS (S : Int → Bool) (n : Nat) (k : Int) : Nat := if S k = true then n else n + 1
def rPutS : V → List V → Hp → VK → Prop := fun x xs H Q => ∃ (a : Addr) (k : Int) (S : Int → Bool) (n : Nat), x = V.ref a ∧ xs = [V.int k] ∧ H a = some (.set S n) ∧ n + 1 < 4096 ∧ Q .non (upd H a (.set (addS S k) (cntS S n k)))
theorem mt_putS : MtR X "set.add" rPutS := by
  intro pins s σ H x xs v us Q I rx rxs h
  obtain ⟨a, k, S, n, rfl, rfl, ha, room, q⟩ := h
  cases rx
  cases rxs with
  | cons ry rt =>
    cases rt
    obtain ⟨tk, rfl⟩ := ry
    refine call_set_add (intKind_is _ _ _ _) rfl (seto_get I ha) room fun h' sb new => ?_
    have he : ∃ u, h'.get? a = some u := by
      have ⟨o, _, _, _, ho, _⟩ := new
      exact ⟨o, ho⟩
    exact ⟨.non, upd H a (.set (addS S k) (cntS S n k)), I.write (e := a) (t' := s.toks + 1) (by rw [ha]; trivial) (.inl rfl) (fun b u hb hu => (sb.2 b hb).trans hu) he new, rfl, q⟩
def tPutS (to : TE) (t : TA) : TE := fun σ H Q => to σ H fun x H1 => (∃ a S n, x = V.ref a ∧ H1 a = some (.set S n)) ∧ t σ H1 fun xs H2 => rPutS x xs H2 Q
variable {o e : Expr} {es : List Expr} {to : TE} {t : TA} {apos cpos : Pos}
theorem pe_putS (ho : PE X o to) (ha : PA X (e :: es) t)
    (hbase : attributeBase o "add" X.env (eval o X.env) = eval o X.env := by rfl)
    (hfew : ((backTo cpos (starEach (e :: es) X.env)).all (fun x => !x.1) && (backToKw cpos (keywordEach [] X.env)).all (fun x => x.1.isSome)
      && decide ((e :: es).length + ([] : List Keyword).length + (if ([] : List Keyword).isEmpty then 0 else 1) < 30)) = true := by rfl)
    (hline : (apos.endLine == cpos.line) = true := by rfl) (hs : starEach (e :: es) X.env = (false, eval e X.env) :: starEach es X.env := by rfl) (hplain : (backTo cpos (starEach es X.env)).any (·.1) = false := by rfl) :
    PE X (.Call (.Attribute o "add" apos) (e :: es) [] cpos) (tPutS to t) := by
  refine ⟨fun pins s σ H Q I h => ?_⟩
  refine wpAny_Call_method_late hbase hfew hline rfl (thn (ho.run pins s σ H _ I h) fun v s1 ⟨x, H1, I1, r1, ty, q1⟩ => ?_)
  obtain ⟨a, S, n, rfl, hka⟩ := ty
  have hS := seto_get I1 hka
  cases r1
  refine ⟨"set", "set.add", PySem.F.plainAttrs_set, PySem.F.slot_set_add, PySem.F.type_set_add, hS.typeIs, hS.noDict, ?_⟩
  have hA := ha.run cpos pins s1 σ H1 _ I1 q1
  rw [hs] at hA ⊢
  refine Calls.callWith_builtin (by show (false || (backTo cpos (starEach es X.env)).any (·.1)) = false; rw [hplain] <;> rfl) (Calls.evalArgs_plain ?_)
  exact thn hA fun us s2 ⟨vs, H2, I2, r2, q2⟩ => mt_putS pins s2 σ H2 (.ref a) vs (.ref a) us Q I2 rfl r2 q2
def rHasS (neg : Bool) : V → V → Hp → VK → Prop := fun x y H Q => ∃ (k : Int) (a : Addr) (S : Int → Bool) (n : Nat), x = V.int k ∧ y = V.ref a ∧ H a = some (.set S n) ∧ Q (.bl (if neg then !S k else S k)) H
theorem or_hasS : OpR X (compareOp .In) (rHasS false) := by
  intro pins s σ H x y v u Q I rx ry h
  obtain ⟨k, a, S, n, rfl, rfl, ha, q⟩ := h
  obtain ⟨tk, rfl⟩ := rx
  cases ry
  exact wpAny_inSet_of (intKind_is _ _ _ _) rfl (seto_get I ha) ⟨.bl (S k), H, I.tok _, rfl, q⟩
end
section
variable {K : PySem.W.Frag} {mg : Str → Option Value} {W : WX} {C : Cn} {F : Hp} {σ : L2.St} {H : Hp} {env : En} {i : Nat}
theorem Rel.storeB (R : Rel K C F σ H env) (i : Nat) {p : Addr} {o : HO} (h1 : F p = none) (h2 : C.H p = none) (h3 : H p = some o) (h5 : ∀ k, ¬ Owned σ env k p) : Rel K C F (σ.set i (some (.ref p))) H (env.set i (.obj o)) where
  fh := R.fh
  cf := R.cf
  new := R.new
  pres := R.pres
  bd := R.bd
  sl := fun j s hj => by
    rcases set_at hj with ⟨rfl, rfl, hl⟩ | ⟨ne, hj⟩
    · rw [List.getElem?_set_self (by rw [← R.len]; exact hl)]; exact ⟨p, rfl, h1, h2, h3⟩
    · rw [List.getElem?_set_ne (Ne.symm ne)]; exact R.sl j s hj
  dis := fun j k q o1 o2 => by
    obtain ⟨s1, e1, b1, a1⟩ := o1
    obtain ⟨s2, e2, b2, a2⟩ := o2
    rcases set_at e1 with ⟨rfl, rfl, l1⟩ | ⟨n1, f1⟩
    · rw [List.getElem?_set_self (by rw [← R.len]; exact l1)] at a1
      cases a1
      rcases set_at e2 with ⟨rfl, rfl, _⟩ | ⟨n2, f2⟩
      · rfl
      · rw [List.getElem?_set_ne (Ne.symm n2)] at a2
        exact absurd ⟨s2, f2, b2, a2⟩ (h5 k)
    · rw [List.getElem?_set_ne (Ne.symm n1)] at a1
      rcases set_at e2 with ⟨rfl, rfl, l2⟩ | ⟨n2, f2⟩
      · rw [List.getElem?_set_self (by rw [← R.len]; exact l2)] at a2
        cases a2
        exact absurd ⟨s1, f1, b1, a1⟩ (h5 j)
      · rw [List.getElem?_set_ne (Ne.symm n2)] at a2
        exact R.dis j k q ⟨s1, f1, b1, a1⟩ ⟨s2, f2, b2, a2⟩
  len := by rw [List.length_set, List.length_set]; exact R.len
  tb := R.tb
  nt := R.nt
theorem Rel.noOwn (R : Rel K C F σ H env) {p : Addr} (hp : H p = none) (k : Nat) : ¬ Owned σ env k p := fun ⟨s, e1, e2, e3⟩ => by
  have q := R.sl k s e1
  cases s with
  | own es => obtain ⟨p', ws, a1, a2, a3, a4, a5⟩ := q; rw [e3] at a1; cases a1; rw [hp] at a4; cases a4
  | bor es => obtain ⟨p', ws, a1, a2, a3, a4, a5⟩ := q; rw [e3] at a1; cases a1; rw [hp] at a4; cases a4
  | obj ob => obtain ⟨p', a1, a2, a3, a4⟩ := q; rw [e3] at a1; cases a1; rw [hp] at a4; cases a4
  | _ => cases e2
theorem Rel.storeNew (R : Rel K C F σ H env) (i : Nat) {p : Addr} {o : HO} (hp : H p = none) : Rel K C F (σ.set i (some (.ref p))) (upd H p o) (env.set i (.obj o)) := by
  have f := R.fresh hp
  exact (R.newH (o := o) hp).storeB i f.1 f.2 upd_same (R.noOwn hp)
theorem Rel.writeB {p : Addr} {o o' : HO} (R : Rel K C F σ H env) (h : env[i]? = some (.obj o)) (hp : σ[i]? = some (some (.ref p))) (hno : (∀ ps, o ≠ .tbl ps) ∧ ∀ c q, o ≠ LamX.CodeO c q) : Rel K C F σ (upd H p o') (env.set i (.obj o')) := by
  obtain ⟨p', b1, b2, b3, b4⟩ := R.sl i _ h
  rw [hp] at b1
  cases b1
  exact {
    fh := R.fh.mut b2
    cf := R.cf
    new := R.new
    pres := fun a u q hb => by
      have ne : a ≠ p := fun e => by subst e; rw [b3] at q; cases q
      rw [upd_ne ne]; exact R.pres a u q hb
    bd := fun b hb => by
      refine ⟨?_, (R.bd b hb).2⟩
      by_cases ne : b = p
      · subst ne; rw [upd_same]; simp
      · rw [upd_ne ne]; exact (R.bd b hb).1
    sl := fun j s' hj => by
      rcases set_at hj with ⟨rfl, rfl, _⟩ | ⟨ne, hj⟩
      · exact ⟨p, hp, b2, b3, upd_same⟩
      · have q := R.sl j s' hj
        have np : ∀ p', isOwn s' = true → σ[j]? = some (some (.ref p')) → p' ≠ p := fun p' o a e => ne (R.dis j i p ⟨s', hj, o, by rw [← e]; exact a⟩ ⟨_, h, rfl, hp⟩)
        cases s' with
        | no => trivial
        | val d => exact q
        | own es => obtain ⟨p', ws, a1, a2, a3, a4, a5⟩ := q; exact ⟨p', ws, a1, a2, a3, by rw [upd_ne (np p' rfl a1)]; exact a4, a5⟩
        | bor es => obtain ⟨p', ws, a1, a2, a3, a4, a5⟩ := q; exact ⟨p', ws, a1, a2, a3, by rw [upd_ne (np p' rfl a1)]; exact a4, a5⟩
        | obj ob => obtain ⟨p', a1, a2, a3, a4⟩ := q; exact ⟨p', a1, a2, a3, by rw [upd_ne (np p' rfl a1)]; exact a4⟩
        | raw v => exact q
        | exc a dd fs => exact q
        | tab T => exact q
    dis := fun j k q o1 o2 => by
      have back : ∀ {j : Nat}, Owned σ (env.set i (.obj o')) j q → Owned σ env j q := fun {j} o => by
        obtain ⟨s1, e1, b1, a1⟩ := o
        rcases set_at e1 with ⟨rfl, rfl, _⟩ | ⟨ne1, e1⟩
        · exact ⟨_, h, rfl, a1⟩
        · exact ⟨s1, e1, b1, a1⟩
      exact R.dis j k q (back o1) (back o2)
    len := by rw [List.length_set]; exact R.len
    nt := R.nt
    tb := fun q hq => by
      obtain ⟨ps, t1, t2, t3⟩ := R.tb q hq
      have ne : ∀ a u, H a = some u → u ≠ o → a ≠ p := fun a u e n z => by subst z; rw [b4] at e; cases e; exact n rfl
      refine ⟨ps, by rw [upd_ne (ne _ _ t1 (fun z => hno.1 _ z.symm))]; exact t1, t2, fun pos cv hc => ?_⟩
      obtain ⟨c, e1, e2⟩ := t3 pos cv hc
      exact ⟨c, e1, by rw [upd_ne (ne _ _ e2 (fun z => hno.2 _ _ z.symm))]; exact e2⟩ }
end
theorem set_plain (S : Int → Bool) (n : Nat) : (∀ ps, HO.set S n ≠ .tbl ps) ∧ ∀ c q, HO.set S n ≠ LamX.CodeO c q := ⟨(fun _ z => by cases z), fun _ _ z => by unfold LamX.CodeO at z; cases z⟩
def setAt (env : En) (i : Nat) : Option ((Int → Bool) × Nat) := match env[i]? with
  | some (.obj (.set S n)) => some (S, n)
  | _ => none
theorem setAt_some {env : En} {i : Nat} {S : Int → Bool} {n : Nat} (h : setAt env i = some (S, n)) : env[i]? = some (.obj (.set S n)) := by
  unfold setAt at h
  split at h
  · cases h; assumption
  · cases h
def gMkS (i : Nat) : S := fun env => some (.nx (env.set i (.obj (.set (fun _ => false) 0))))
def gHasS (i : Nat) (ga : M PyData) : M Bool := M.bd ga fun d env => match d, setAt env i with
  | .int k, some (S, _) => some (.ok (S k, env))
  | _, _ => none
def gAddS (i : Nat) (ga : M PyData) : S := fun env => match setAt env i with
  | none => none
  | some _ => gE ga (fun d env => match d, setAt env i with
    | .int k, some (S, n) => if n + 1 < 4096 then some (.nx (env.set i (.obj (.set (addS S k) (cntS S n k))))) else none
    | _, _ => none) env
section
variable {X : Cx} {W : WX} {e a : Expr} {ga : M PyData} {pos pos' p p1 p2 apos : Pos} {x : Str}
theorem ss_mkS (i : Nat) (hg : Gl X "set") (hm : X.mg "set" = none) (hN : X.N.Nodup) (hi : X.N[i]? = some x := by rfl) (hx : Loc X.env.scope x := by first | exact Or.inl rfl | exact Or.inr rfl) (hs : swapsWith (.Call (.Name "set" p) [] [] p1) (some (.Name x pos')) pos.line X.env = pure false := by rfl)
    (hf : X.fn x = true ∨ X.env.scope.names.lookup x = some .local := by first | exact .inl rfl | exact .inr rfl | assumption) : SS X W (.Assign [.Name x pos'] (.Call (.Name "set" p) [] [] p1) pos) (gMkS i) :=
  ps_imp (ps_set hN hi hx (pe_callTy0 cr_mkS hg hm (by decide +kernel)) hs hf) fun D σ H ⟨C, F, env, R, h⟩ => ⟨rfl, fun q hq => h _ F _ (R.storeNew i hq) (Ex.refl _)⟩
theorem st_hasS (i : Nat) (ha : SV X W a ga) (hN : X.N[i]? = some x := by rfl) (hv : Vis X.env.scope x := by first | exact Or.inl rfl | exact Or.inr (Or.inl rfl) | exact Or.inr (Or.inr rfl))
    (hd : (x == ("__debug__" : Str)) = false := by decide) (hcd : (x == ("__classdict__" : Str)) = false := by decide) (hm : behindInMarks .In (.Name x p) = false := by rfl) : ST X W (.Compare a [.In] [.Name x p] pos) (gHasS i ga) :=
  pt_imp (pt_cmpR or_hasS ha (pe_var hN hv hd hcd) hm) fun σ H Q ⟨C, F, env, R, h⟩ => tG_bd R h fun d env1 v F1 H1 R1 e1 o1 h1 => by
    cases o1 with
    | int k =>
      cases q : setAt env1 i with
      | none => rw [q] at h1; exact h1.elim
      | some z =>
        obtain ⟨S, n⟩ := z
        rw [q] at h1
        obtain ⟨r, a1, a2, a3, a4⟩ := R1.sl i _ (setAt_some q)
        exact ⟨.ref r, a1, k, r, S, n, rfl, rfl, a4, S k, rfl, aft (ok := okB) h1 R1 rfl⟩
    | _ => exact h1.elim
theorem ss_addS (i : Nat) (he : SV X W e ga) (hN : X.N[i]? = some x := by rfl) (hvis : Vis X.env.scope x := by first | exact Or.inl rfl | exact Or.inr (Or.inl rfl) | exact Or.inr (Or.inr rfl))
    (hd : (x == ("__debug__" : Str)) = false := by decide) (hcd : (x == ("__classdict__" : Str)) = false := by decide)
    (hbase : attributeBase (.Name x p1) "add" X.env (eval (.Name x p1) X.env) = eval (.Name x p1) X.env := by rfl)
    (hfew : ((backTo p2 (starEach [e] X.env)).all (fun x => !x.1) && (backToKw p2 (keywordEach [] X.env)).all (fun x => x.1.isSome)
      && decide ([e].length + ([] : List Keyword).length + (if ([] : List Keyword).isEmpty then 0 else 1) < 30)) = true := by rfl)
    (hline : (apos.endLine == p2.line) = true := by rfl) (hs : starEach [e] X.env = (false, eval e X.env) :: starEach [] X.env := by rfl) (hplain : (backTo p2 (starEach [] X.env)).any (·.1) = false := by rfl)
    (hsw : swapsWith (.Call (.Attribute (.Name x p1) "add" apos) [e] [] p2) none pos.line X.env = pure false := by rfl) :
    SS X W (.Expr (.Call (.Attribute (.Name x p1) "add" apos) [e] [] p2) pos) (gAddS i ga) :=
  ps_imp (ps_expr (pe_putS (pe_var hN hvis hd hcd) (pa_cons he pa_nil hs) hbase hfew hline hs hplain) hsw) fun D σ H ⟨C, F, env, R, h⟩ => by
    unfold gAddS at h
    cases q : setAt env i with
    | none => rw [q] at h; exact h.elim
    | some z =>
      obtain ⟨S, n⟩ := z
      rw [q] at h
      obtain ⟨r, a1, a2, a3, a4⟩ := R.sl i _ (setAt_some q)
      refine ⟨.ref r, a1, ⟨r, S, n, rfl, a4⟩, tE_bd R h fun d env1 v F1 H1 R1 e1 o1 h1 => ?_⟩
      cases o1 with
      | int k =>
        cases q1 : setAt env1 i with
        | none => rw [q1] at h1; exact h1.elim
        | some z =>
          obtain ⟨S1, n1⟩ := z
          rw [q1] at h1
          obtain ⟨r1, b1, b2, b3, b4⟩ := R1.sl i _ (setAt_some q1)
          rw [a1] at b1
          cases b1
          have h1 : AftS X.K X.mg W C F1 (if n1 + 1 < 4096 then some (.nx (env1.set i (.obj (.set (addS S1 k) (cntS S1 n1 k))))) else none) D := h1
          by_cases hl : n1 + 1 < 4096
          · rw [if_pos hl] at h1
            exact ⟨r, k, S1, n1, rfl, rfl, b4, hl, h1 _ F1 _ (R1.writeB (setAt_some q1) a1 (set_plain _ _)) (Ex.refl _)⟩
          · rw [if_neg hl] at h1
            exact h1.elim
      | _ => exact h1.elim
end
end Pf
/-! part PfR -/
set_option Elab.async false
set_option linter.all false
set_option maxRecDepth 100000
set_option maxHeartbeats 2000000
namespace Pf
open PySem PySem.Spec L2 Evl
def ovr (G H : Hp) : Hp := fun a => match G a with
  | some o => some o
  | none => H a
theorem ovr_some {G H : Hp} {a : Addr} {o : HO} (h : G a = some o) : ovr G H a = some o := by unfold ovr; rw [h]
theorem ovr_none {G H : Hp} {a : Addr} (h : G a = none) : ovr G H a = H a := by unfold ovr; rw [h]
def Cn.over (C : Cn) (G : Hp) : Cn := { C with H := ovr G C.H }
def GI (C : Cn) (G : Hp) : Prop := ∀ a o, G a = some o → C.H a = none ∧ C.F a = none
def CB (C : Cn) : Prop := ∀ b ∈ C.B, C.H b ≠ none
section
variable {K : PySem.W.Frag} {C : Cn} {F : Hp} {σ : L2.St} {H G : Hp} {env : En}
theorem Rel.over (hL : ∀ a o, G a = some o → ∃ xs, o = HO.lst xs) (R : Rel K C F σ H env) (hG : ∀ a o, G a = some o → F a = none ∧ C.H a = none ∧ H a = some o ∧ ∀ i, ¬ Owned σ env i a) : Rel K (C.over G) F σ H env where
  fh := R.fh
  cf := R.cf
  new := fun a h1 h2 => by
    cases q : G a with
    | some o => exact absurd (hG a o q).1 h2
    | none => show ovr G C.H a = none; rw [ovr_none q]; exact R.new a h1 h2
  pres := fun a o h hb => by
    have h : ovr G C.H a = some o := h
    cases q : G a with
    | some o' => rw [ovr_some q] at h; cases h; exact (hG a _ q).2.2.1
    | none => rw [ovr_none q] at h; exact R.pres a o h hb
  bd := fun b hb => by
    obtain ⟨a1, a2, a3⟩ := R.bd b hb
    refine ⟨a1, a2, ?_⟩
    show ovr G C.H b ≠ none
    cases q : G b with
    | some o => rw [ovr_some q]; simp
    | none => rw [ovr_none q]; exact a3
  sl := fun i s hs => by
    have q := R.sl i s hs
    have key : ∀ p, isOwn s = true → σ[i]? = some (some (.ref p)) → C.H p = none → ovr G C.H p = none := fun p ho hp hc => by
      cases g : G p with
      | some o => exact absurd ⟨s, hs, ho, hp⟩ ((hG p o g).2.2.2 i)
      | none => rw [ovr_none g]; exact hc
    cases s with
    | no => trivial
    | val d => exact q
    | own ds => obtain ⟨p', vs, a1, a2, a3, a4, a5⟩ := q; exact ⟨p', vs, a1, a2, key p' rfl a1 a3, a4, a5⟩
    | bor ds => exact q
    | obj ob => obtain ⟨p', a1, a2, a3, a4⟩ := q; exact ⟨p', a1, a2, key p' rfl a1 a3, a4⟩
    | raw v => exact q
    | exc a dd fs => exact q
    | tab T =>
      refine ⟨q.1, fun a ps z => ?_⟩
      have z : ovr G C.H a = some (.tbl ps) := z
      cases e : G a with
      | some u => rw [ovr_some e] at z; obtain ⟨xs, e2⟩ := hL a u e; rw [e2] at z; cases z
      | none => rw [ovr_none e] at z; exact q.2 a ps z
  dis := R.dis
  len := R.len
  tb := R.tb
  nt := R.nt
theorem Rel.under (hb : CB C) (g : GI C G) (R : Rel K (C.over G) F σ H env) : Rel K C F σ H env where
  fh := R.fh
  cf := R.cf
  new := fun a h1 h2 => by
    have h : ovr G C.H a = none := R.new a h1 h2
    cases q : G a with
    | some o => exact (g a o q).1
    | none => rw [ovr_none q] at h; exact h
  pres := fun a o h hB => by
    have ng : G a = none := by
      cases q : G a with
      | some o' => have := (g a o' q).1; rw [this] at h; cases h
      | none => rfl
    exact R.pres a o (by show ovr G C.H a = some o; rw [ovr_none ng]; exact h) hB
  bd := fun b hB => ⟨(R.bd b hB).1, (R.bd b hB).2.1, hb b hB⟩
  sl := fun i s hs => by
    have q := R.sl i s hs
    have key : ∀ p, ovr G C.H p = none → C.H p = none := fun p hc => by
      cases g' : G p with
      | some o => rw [ovr_some g'] at hc; cases hc
      | none => rw [ovr_none g'] at hc; exact hc
    cases s with
    | no => trivial
    | val d => exact q
    | own ds => obtain ⟨p', vs, a1, a2, a3, a4, a5⟩ := q; exact ⟨p', vs, a1, a2, key p' a3, a4, a5⟩
    | bor ds => exact q
    | obj ob => obtain ⟨p', a1, a2, a3, a4⟩ := q; exact ⟨p', a1, a2, key p' a3, a4⟩
    | raw v => exact q
    | exc a dd fs => exact q
    | tab T =>
      refine ⟨q.1, fun a ps z => q.2 a ps ?_⟩
      show ovr G C.H a = some (.tbl ps)
      cases e : G a with
      | some w => rw [(g a w e).1] at z; cases z
      | none => rw [ovr_none e]; exact z
  dis := R.dis
  len := R.len
  tb := R.tb
  nt := R.nt
theorem Rel.mut {p : Addr} {o : HO} {xs : List V} (R : Rel K C F σ H env) (hT : H p = some (.lst xs)) (hF : F p = none) (hC : C.H p = none) (hno : ∀ i, ¬ Owned σ env i p) : Rel K C F σ (upd H p o) env where
  fh := R.fh.mut hF
  cf := R.cf
  new := R.new
  pres := fun a u q hb => by rw [upd_ne (ne_of_none q hC)]; exact R.pres a u q hb
  bd := fun b hb => by
    refine ⟨?_, (R.bd b hb).2⟩
    have ne : b ≠ p := fun e => (R.bd b hb).2.2 (by rw [e]; exact hC)
    rw [upd_ne ne]; exact (R.bd b hb).1
  sl := fun i s hs => by
    have q := R.sl i s hs
    have np : ∀ p', isOwn s = true → σ[i]? = some (some (.ref p')) → p' ≠ p := fun p' ho a e => hno i ⟨s, hs, ho, by rw [← e]; exact a⟩
    cases s with
    | no => trivial
    | val d => exact q
    | own es => obtain ⟨p', ws, a1, a2, a3, a4, a5⟩ := q; exact ⟨p', ws, a1, a2, a3, by rw [upd_ne (np p' rfl a1)]; exact a4, a5⟩
    | bor es => obtain ⟨p', ws, a1, a2, a3, a4, a5⟩ := q; exact ⟨p', ws, a1, a2, a3, by rw [upd_ne (np p' rfl a1)]; exact a4, a5⟩
    | obj ob => obtain ⟨p', a1, a2, a3, a4⟩ := q; exact ⟨p', a1, a2, a3, by rw [upd_ne (np p' rfl a1)]; exact a4⟩
    | raw v => exact q
    | exc a dd fs => exact q
    | tab T => exact q
  dis := R.dis
  len := R.len
  nt := R.nt
  tb := tabs_lst R.tb hT fun a u ne e => by rw [upd_ne ne]; exact e
theorem GI.upd {p : Addr} {o o' : HO} (g : GI C G) (h : G p = some o) : GI C (upd G p o') := fun a u q => by
  by_cases e : a = p
  · subst e; exact g a o h
  · rw [upd_ne e] at q; exact g a u q
inductive Rws (K : PySem.W.Frag) (F G : Hp) : List Addr → List (List PyData) → Prop where
  | nil : Rws K F G [] []
  | cons {p : Addr} {vs : List V} {ds : List PyData} {ps : List Addr} {dss : List (List PyData)} (h : G p = some (.lst vs)) (d : DpAll K F vs ds) (r : Rws K F G ps dss) : Rws K F G (p :: ps) (ds :: dss)
theorem Rws.mono {F' G' : Hp} (ex : Ex F F') : ∀ {ps : List Addr} {dss : List (List PyData)}, (∀ p ∈ ps, ∀ o, G p = some o → G' p = some o) → Rws K F G ps dss → Rws K F' G' ps dss
  | _, _, _, .nil => .nil
  | _, _, k, .cons h d r => .cons (k _ List.mem_cons_self _ h) (dps_mono ex d) (r.mono ex fun p hp => k p (List.mem_cons_of_mem _ hp))
theorem Rws.mem : ∀ {ps : List Addr} {dss : List (List PyData)} {p : Addr}, Rws K F G ps dss → p ∈ ps → ∃ o, G p = some o
  | _, _, _, .nil, h => by cases h
  | _, _, _, .cons h _ r, hp => by
    rcases List.mem_cons.mp hp with rfl | hp
    · exact ⟨_, h⟩
    · exact r.mem hp
theorem Rws.len : ∀ {ps : List Addr} {dss : List (List PyData)}, Rws K F G ps dss → ps.length = dss.length
  | _, _, .nil => rfl
  | _, _, .cons _ _ r => by rw [List.length_cons, List.length_cons, r.len]
theorem Rws.get : ∀ {ps : List Addr} {dss : List (List PyData)} {j : Nat} {ds : List PyData}, Rws K F G ps dss → dss[j]? = some ds → ∃ p vs, ps[j]? = some p ∧ G p = some (.lst vs) ∧ DpAll K F vs ds
  | _, _, _, _, .nil, h => by simp at h
  | _, _, 0, _, .cons h d _, e => by simp at e; subst e; exact ⟨_, _, rfl, h, d⟩
  | _, _, j + 1, _, .cons _ _ r, e => by
    obtain ⟨p, vs, a, b⟩ := r.get (j := j) (by simpa using e)
    exact ⟨p, vs, by simpa using a, b⟩
theorem Rws.set {vs : List V} {ds : List PyData} (d : DpAll K F vs ds) : ∀ {ps : List Addr} {dss : List (List PyData)} {j : Nat} {p : Addr}, ps.Nodup → ps[j]? = some p → Rws K F G ps dss → Rws K F (upd G p (.lst vs)) ps (dss.set j ds)
  | _, _, _, _, _, h, .nil => by simp at h
  | _, _, 0, _, nd, h, .cons h1 d1 r => by
    simp at h; subst h
    obtain ⟨n1, n2⟩ := List.nodup_cons.mp nd
    exact .cons upd_same d (r.mono (Ex.refl _) fun q hq o z => by rw [upd_ne (fun e => n1 (by rw [← e]; exact hq))]; exact z)
  | _, _, j + 1, p, nd, h, .cons h1 d1 r => by
    obtain ⟨n1, n2⟩ := List.nodup_cons.mp nd
    have h : _ := (by simpa using h : _)
    have hp := List.mem_of_getElem? h
    exact .cons (by rw [upd_ne (fun e => n1 (by rw [e]; exact hp))]; exact h1) d1 (r.set d n2 h)
theorem Rws.data {F' : Hp} (ex : Ex F F') (k : ∀ a o, G a = some o → F' a = some o) : ∀ {ps : List Addr} {dss : List (List PyData)}, Rws K F G ps dss → DpAll K F' (ps.map V.ref) (dss.map PyData.list)
  | _, _, .nil => .nil
  | _, _, .cons h d r => .cons (.lst (SqL.of (k _ _ h)) (dps_mono ex d)) (r.data ex k)
end
section
variable {K : PySem.W.Frag} {mg : Str → Option Value} {C : Cn} {F1 : Hp} {σ : L2.St} {H1 : Hp} {env1 : En} {vs : List Nat} {b : PyData → En → Option En} {gt : M Bool} {ge : M (List PyData)} {ds : List PyData}
structure RwG (K : PySem.W.Frag) (C : Cn) (F G : Hp) (D : Addr) (ps : List Addr) (dss : List (List PyData)) : Prop where
  g : GI C G
  d : G D = some (.lst (ps.map V.ref))
  r : Rws K F G ps dss
  nd : (D :: ps).Nodup
  l : ∀ a o, G a = some o → ∃ xs, o = .lst xs
end
end Pf
/-! part PfR2 -/
set_option Elab.async false
set_option linter.all false
set_option maxRecDepth 100000
set_option maxHeartbeats 2000000
namespace Pf
open PySem PySem.Spec L2 Evl
end Pf
/-! part PfR3 -/
set_option Elab.async false
set_option linter.all false
set_option maxRecDepth 100000
set_option maxHeartbeats 2000000
namespace Pf
open PySem PySem.Spec L2 Evl
end Pf
/-! part PfK -/
set_option Elab.async false
set_option linter.all false
set_option maxRecDepth 100000
set_option maxHeartbeats 4000000
namespace PySem.W
open PySem PySem.Spec PySem.Calls PyProof.Rows
end PySem.W
namespace Pf
open PySem PySem.Spec L2 Evl
def rCnt (K : PySem.W.Frag) : V → List V → Hp → VK → Prop := fun x xs H Q => ∃ (p : Addr) (ys : List V) (y : V), x = V.ref p ∧ xs = [y] ∧ SqL K H p ys ∧ flatV y = true ∧ ys.all flatV = true ∧ Q (.int ((ys.countP fun z => eqV z y : Nat) : Int)) H
theorem mt_cnt {X : Cx} : MtR X "list.count" (rCnt X.K) := by
  intro pins s σ H x xs v us Q I rx rxs h
  obtain ⟨p, ys, y, rfl, rfl, hs, fy, fys, q⟩ := h
  cases rx
  obtain ⟨u, rfl, ru⟩ := rxs.one
  obtain ⟨its, rv, ⟨⟨cls, dd, data, sl⟩, n, ho, hc, hdn, hd⟩, hlen⟩ := I.list hs
  simp only at hc hd
  subst hc hd
  refine call_meets PySem.F.slot_list_count ⟨_, ho, rfl⟩ PySem.F.entry_list_count (PySem.F.args_list_count_2 _ _)
    (SeqAt.list_countAt p its.toArray n dd sl u (eqU y)) ⟨ho, fun z hz => mem_eqAt ru fy rv fys z (by simpa using hz), ?_⟩
  have key : ∀ {ys : List V} {us : List Value}, Vals ys us → ys.all flatV = true → us.countP (eqU y) = ys.countP fun z => eqV z y := fun {ys us} r => by
    induction r with
    | nil => intro _; rfl
    | cons r0 rr ih =>
      intro f
      simp only [List.all_cons, Bool.and_eq_true] at f
      rw [List.countP_cons, List.countP_cons, ih f.2, eqU_of r0 f.1]
  have ec : its.toArray.toList.countP (eqU y) = ys.countP fun z => eqV z y := key rv fys
  refine ⟨.int ((ys.countP fun z => eqV z y : Nat) : Int), H, I.tok _, ⟨s.toks, ?_⟩, q⟩
  show Value.int ((its.toArray.toList.countP (eqU y) : Nat) : Int) s.toks = _
  rw [ec]
def cntD (ds : List PyData) (d : PyData) : Option PyData := if flatD d = true ∧ ds.all flatD = true then some (.int ((ds.countP fun z => PyData.eqv z d : Nat) : Int)) else none
def idxD (ds : List PyData) (d : PyData) : Option PyData := if flatD d = true ∧ ds.all flatD = true then match ds.findIdx? (fun z => PyData.eqv z d) with
  | some j => some (.int (j : Nat))
  | none => none else none
theorem cnt_of {K : PySem.W.Frag} {H : Hp} {w : V} {e : PyData} (h' : Dp K H w e) (f' : flatD e = true) : ∀ {vs : List V} {ds : List PyData}, DpAll K H vs ds → ds.all flatD = true → (vs.countP fun z => eqV z w) = ds.countP fun z => PyData.eqv z e
  | _, _, .nil, _ => rfl
  | _, _, .cons a r, f => by
    simp only [List.all_cons, Bool.and_eq_true] at f
    rw [List.countP_cons, List.countP_cons, cnt_of h' f' r f.2, eqV_of a h' f.1 f']
def gCount (i : Nat) (gb : M PyData) : M PyData := M.bd (gHeld i) fun _ => M.bd gb fun d => M.bd (gHeld i) fun ds => M.opt (cntD ds d)
def gIndex (i : Nat) (gb : M PyData) : M PyData := M.bd (gHeld i) fun _ => M.bd gb fun d => M.bd (gHeld i) fun ds => M.opt (idxD ds d)
def splitD : PyData → PyData → Option (List PyData)
  | .str a, .str b => if (b.length == 0) = false ∧ a.length ≤ 1000000 then some ((Txt.split a b).map .str) else none
  | _, _ => none
def gSplit (ga gb : M PyData) : M (List PyData) := M.bd ga fun d => match d with
  | .str a => M.bd gb fun e => M.opt (splitD (.str a) e)
  | _ => M.no
section
variable {X : Cx} {W : WX} {a b e : Expr} {ga gb : M PyData} {x : Str} {p p1 p2 pos apos : Pos}
theorem sv_count (i : Nat) (hb : SV X W e gb) (hN : X.N[i]? = some x := by rfl) (hvis : Vis X.env.scope x := by first | exact Or.inl rfl | exact Or.inr (Or.inl rfl) | exact Or.inr (Or.inr rfl))
    (hd : (x == ("__debug__" : Str)) = false := by decide) (hcd : (x == ("__classdict__" : Str)) = false := by decide)
    (hbase : attributeBase (.Name x p1) "count" X.env (eval (.Name x p1) X.env) = eval (.Name x p1) X.env := by rfl)
    (hfew : ((backTo p2 (starEach [e] X.env)).all (fun x => !x.1) && (backToKw p2 (keywordEach [] X.env)).all (fun x => x.1.isSome)
      && decide ([e].length + ([] : List Keyword).length + (if ([] : List Keyword).isEmpty then 0 else 1) < 30)) = true := by rfl)
    (hline : (apos.endLine == p2.line) = true := by rfl) (hs : starEach [e] X.env = (false, eval e X.env) :: starEach [] X.env := by rfl) (hplain : (backTo p2 (starEach [] X.env)).any (·.1) = false := by rfl) :
    SV X W (.Call (.Attribute (.Name x p1) "count" apos) [e] [] p2) (gCount i gb) :=
  pe_imp (pe_bm PySem.F.plainAttrs_list PySem.F.slot_list_count PySem.F.type_list_count mt_cnt (pe_var hN hvis hd hcd) (pa_cons hb pa_nil hs) hbase hfew hline hs hplain) fun σ H Q ⟨C, F, env, R, h⟩ => by
    obtain ⟨_, p, vs0, _, _, _, a1, a2, _, h2⟩ := bd_held R h
    refine ⟨.ref p, a1, .inl ⟨rfl, _, SqL.of a2⟩, tG_bd R h2 fun d env2 w F2 H2 R2 ex2 o2 h3 => ?_⟩
    obtain ⟨ds, p', vs, s, q, qo, b1, b2, b3, h4⟩ := bd_held R2 h3
    rw [a1] at b1
    cases b1
    obtain ⟨z, hz, h5⟩ := h4.of_opt
    unfold cntD at hz
    split at hz
    · rename_i hf
      cases hz
      refine ⟨p, vs, w, rfl, rfl, SqL.of b2, dp_flat o2 hf.1, dps_flat b3 hf.2, ?_⟩
      rw [cnt_of o2 hf.1 b3 hf.2]
      exact aft (ok := okV X.K) h5 R2 (.int _)
    · cases hz
theorem sv_index (i : Nat) (hb : SV X W e gb) (hN : X.N[i]? = some x := by rfl) (hvis : Vis X.env.scope x := by first | exact Or.inl rfl | exact Or.inr (Or.inl rfl) | exact Or.inr (Or.inr rfl))
    (hd : (x == ("__debug__" : Str)) = false := by decide) (hcd : (x == ("__classdict__" : Str)) = false := by decide)
    (hbase : attributeBase (.Name x p1) "index" X.env (eval (.Name x p1) X.env) = eval (.Name x p1) X.env := by rfl)
    (hfew : ((backTo p2 (starEach [e] X.env)).all (fun x => !x.1) && (backToKw p2 (keywordEach [] X.env)).all (fun x => x.1.isSome)
      && decide ([e].length + ([] : List Keyword).length + (if ([] : List Keyword).isEmpty then 0 else 1) < 30)) = true := by rfl)
    (hline : (apos.endLine == p2.line) = true := by rfl) (hs : starEach [e] X.env = (false, eval e X.env) :: starEach [] X.env := by rfl) (hplain : (backTo p2 (starEach [] X.env)).any (·.1) = false := by rfl) :
    SV X W (.Call (.Attribute (.Name x p1) "index" apos) [e] [] p2) (gIndex i gb) :=
  pe_imp (pe_bm PySem.F.plainAttrs_list PySem.F.slot_list_index PySem.F.type_list_index mt_index (pe_var hN hvis hd hcd) (pa_cons hb pa_nil hs) hbase hfew hline hs hplain) fun σ H Q ⟨C, F, env, R, h⟩ => by
    obtain ⟨_, p, vs0, _, _, _, a1, a2, _, h2⟩ := bd_held R h
    refine ⟨.ref p, a1, .inl ⟨rfl, _, SqL.of a2⟩, tG_bd R h2 fun d env2 w F2 H2 R2 ex2 o2 h3 => ?_⟩
    obtain ⟨ds, p', vs, s, q, qo, b1, b2, b3, h4⟩ := bd_held R2 h3
    rw [a1] at b1
    cases b1
    obtain ⟨z, hz, h5⟩ := h4.of_opt
    unfold idxD at hz
    split at hz
    · rename_i hf
      cases hj : ds.findIdx? (fun z => PyData.eqv z d) with
      | none => rw [hj] at hz; cases hz
      | some j =>
        rw [hj] at hz
        cases hz
        obtain ⟨hlt, hy, hno⟩ := List.findIdx?_eq_some_iff_getElem.mp hj
        have fa := List.all_eq_true.mp hf.2
        obtain ⟨v, hv, dv⟩ := b3.get (List.getElem?_eq_getElem hlt)
        refine ⟨p, vs, w, j, v, rfl, rfl, SqL.of b2, dp_flat o2 hf.1, dps_flat b3 hf.2, hv, ?_, fun m z' hm hz' => ?_, ?_⟩
        · rw [eqV_of dv o2 (fa _ (List.getElem_mem hlt)) hf.1]; exact hy
        · have hml : m < ds.length := by omega
          obtain ⟨v', hv', dv'⟩ := b3.get (List.getElem?_eq_getElem hml)
          rw [hv'] at hz'
          cases hz'
          rw [eqV_of dv' o2 (fa _ (List.getElem_mem hml)) hf.1]
          have := hno m hm
          simpa using this
        · exact aft (ok := okV X.K) h5 R2 (.int _)
    · cases hz
theorem so_split (ha : SV X W a ga) (hb : SV X W b gb) (hs : starEach [b] X.env = [(false, eval b X.env)] := by rfl) (hbase : attributeBase a "split" X.env (eval a X.env) = eval a X.env := by rfl) (hline : (apos.endLine == pos.line) = true := by rfl) :
    SO X W (.Call (.Attribute a "split" apos) [b] [] pos) (gSplit ga gb) :=
  pe_imp (pe_split ha hb hs hbase hline) fun σ H Q ⟨C, F, env, R, h⟩ => tG_bd R h fun d env1 v F1 H1 R1 e1 o1 h1 => by
    cases o1 with
    | str x =>
      refine ⟨⟨x, rfl⟩, tG_bd R1 h1 fun e env2 w F2 H2 R2 e2 o2 h2 => ?_⟩
      obtain ⟨z, hz, h3⟩ := h2.of_opt
      unfold splitD at hz
      split at hz
      · rename_i x' y hd
        cases hd
        split at hz
        · rename_i hc
          cases hz
          cases o2
          have sl := sizeLine_eq
          have key : ∀ l : List Str, DpAll X.K F2 (l.map V.str) (l.map PyData.str) := fun l => by
            induction l with
            | nil => exact .nil
            | cons a r ih => exact .cons (.str a) ih
          exact ⟨x, y, rfl, rfl, hc.1, by omega, fun q hq => aft' (ok := okO X.K) h3 (R2.newH hq) (Ex.refl _) (okO_new R2 hq (key _))⟩
        · cases hz
      · cases hz
    | _ => exact h1.elim
end
end Pf
/-! part PfL -/
set_option Elab.async false
set_option linter.all false
set_option maxRecDepth 100000
set_option maxHeartbeats 4000000
namespace Pf
open PySem PySem.Spec L2 Evl LamX
def EK (K : PySem.W.Frag) (mg : Str → Option Value) (kind : Xc → Option PyData) (Q : VK) : XK := fun cls d H' => ∃ F' x dres, (Ex F' H' ∧ NT F') ∧ XOk K mg F' H' cls d x ∧ kind x = some dres ∧ ∀ F2 H2 v, Exit F' H' [] F2 H2 → Dp K F2 v dres → Q v H2
def TTk (K : PySem.W.Frag) (mg : Str → Option Value) (kind : Xc → Option PyData) : (XK → Hp → VK → Prop) → Hp → VK → Prop := fun tl H Q => tl (EK K mg kind Q) H Q
theorem takes_len {X : Cx} {W : WX} (tk : Takes X W) : Takes X (fun cls d σ H => σ.length = X.N.length → W cls d σ H) := fun u s' ⟨a, B, sI, pins, σ, H, cls, d, e, I, nb, up, sky, na, os, ag, w⟩ =>
  tk u s' ⟨a, B, sI, pins, σ, H, cls, d, e, I, nb, up, sky, na, os, ag, w I.len⟩
end Pf
/-! part PfM -/
set_option Elab.async false
set_option linter.all false
set_option maxRecDepth 100000
set_option maxHeartbeats 4000000
namespace Pf
open PySem PySem.Spec L2 Evl LamX
def noObj (env : En) : Bool := env.all fun s => match s with
  | .obj _ => false
  | _ => true
theorem Rel.extN {K : PySem.W.Frag} {C : Cn} {F : Hp} {σ : L2.St} {H H1 : Hp} {env : En} {i : Nat} {T : List (Addr × Str)} (R : Rel K C F σ H env) (ht : env[i]? = some (.tab T)) (hn : noObj env = true) (e : ExtN H H1) (t1 : Tabs T H1) : Rel K C F σ H1 env := by
  obtain ⟨⟨eT, eB⟩, eH⟩ := R.sl i _ ht
  exact {
    fh := fun a o q => e a o (R.fh a o q) fun ps z => R.nt.tbl a ps (by rw [q, z])
    cf := R.cf
    new := R.new
    pres := fun a o q hb => e a o (R.pres a o q hb) fun ps z => hb (eH a ps (by rw [q, z]))
    bd := fun b hb => by
      refine ⟨?_, (R.bd b hb).2⟩
      obtain ⟨q, hq⟩ := eB b hb
      obtain ⟨ps, h1, _⟩ := t1 _ hq
      rw [h1]; simp
    sl := fun j s hs => by
      have q := R.sl j s hs
      cases s with
      | no => trivial
      | val d => exact q
      | own es => obtain ⟨p', ws, a1, a2, a3, a4, a5⟩ := q; exact ⟨p', ws, a1, a2, a3, e _ _ a4 (fun ps z => by cases z), a5⟩
      | bor es => obtain ⟨p', ws, a1, a2, a3, a4, a5⟩ := q; exact ⟨p', ws, a1, a2, a3, e _ _ a4 (fun ps z => by cases z), a5⟩
      | obj ob =>
        have := List.all_eq_true.mp hn _ (List.mem_of_getElem? hs)
        cases this
      | raw v => exact q
      | exc a dd fs => exact q
      | tab T => exact q
    dis := R.dis
    len := R.len
    tb := by rw [eT]; exact t1
    nt := R.nt }
theorem takes_lam {X : Cx} {A : Around} {outer : List PySem.Env} {s : Shared} {H : Hp} {E : XK} {scope : Scope} {f c' : Addr} : Takes (lamCx X A outer s H E scope f c') (WE0 E) :=
  takes_of (X := lamCx X A outer s H E scope f c') (E := E) (E₁ := fun e' s'' => L2.CX X.prog X.w outer H s E e' s'') rfl rfl rfl rfl
def gKind (i : Nat) (T : List (Addr × Str)) (kind : Xc → Option PyData) (gB : M PyData) : M PyData := fun env => match env[i]? with
  | some (.tab T') => if T' = T ∧ noObj env = true then (match gB env with
    | some (.ok r) => some (.ok r)
    | some (.error (x, env')) => (match kind x with
      | some d => some (.ok (d, env'))
      | none => none)
    | none => none) else none
  | _ => none
section
variable {X : Cx} {W : WX}
theorem sv_lam {T : List (Addr × Str)} {kind : Xc → Option PyData} {gB : M PyData} {x a : Str} {g c P : Addr} {k : Nat} {pg : Arguments} {bg : List Stmt} {sg : Scope} {dV kV doc pm cdv ct oc : Value} {an od : Option Addr} {osl : Array (Option Value)} {Ng : List Str}
    {params : Arguments} {body : Expr} {scope : Scope} {p lpos pos : Pos} (i : Nat) (hg : Gl X x) (hm : X.mg x = some (.ref g)) (hk : PySem.W.keepIn X.K (.ref g) = true)
    (lk : X.K.lookup g = some ⟨oc, od, .func (PySem.W.fnOf x x pg bg sg dV kV doc pm an cdv ct), osl⟩) (hcg : PySem.W.codeIn X.K cdv x = true) (hb : L2.Binds X.K (PySem.W.fnOf x x pg bg sg dV kV doc pm an cdv ct) [a] []) (Sg : FnScope Ng [a] sg) (hNg : Ng[0]? = some a) (hva : Vis sg a)
    (hG : GivesTo X Ng x sg g cdv bg a (X.env.qual ++ "<lambda>") (TTk X.K X.mg kind))
    (TB : TabB X.base X.mg c P) (hcode : X.env.code = .ref c) (hmT : (P, X.env.qual ++ "<lambda>") ∈ T) (hu : ∀ p ∈ T, p.1 = P → p.2 = X.env.qual ++ "<lambda>") (hr : Room (k + 2) X.A) (L : LamS X.env.scope scope) (hdef : defaultsOf params X.env = ([], []))
    (hbind : ∀ (q : Str) (cl : List (Str × Addr)) (pm cv ctv : Value), bindArgs (PySem.W.kla_fn "<lambda>" q params body scope cl pm cv ctv) ⟨[], []⟩ = pure [])
    (hbody : ∀ (A : Around) (outer : List PySem.Env) (s : Shared) (H : Hp) (E : XK) (f c' : Addr), Room k (A.deeper (lamEnv X scope s.heap.objs.size f c')) → SV (lamCx X A outer s H E scope f c') (WE0 E) body gB)
    (hdb : (x == ("__debug__" : Str)) = false := by decide) (hd : (a == ("__debug__" : Str)) = false := by decide) (hcd : (a == ("__classdict__" : Str)) = false := by decide) :
    SV X W (.Call (.Name x p) [.Lambda params body scope lpos] [] pos) (gKind i T kind gB) :=
  pe_imp (pe_lamcall (T := T) (TT := TTk X.K X.mg kind) (t := fun E => tG X.K X.mg (okV X.K) (WE0 E) gB) hg hm hk lk hcg hb Sg hNg hva hG TB hcode hmT hu hr L hdef hbind (fun A outer s H E f c' hr' => hbody A outer s H E f c' hr') hdb hd hcd) fun σ H Q ⟨C, F, env, R, h⟩ => by
    unfold gKind at h
    split at h
    · rename_i T' q
      split at h
      · rename_i hc
        obtain ⟨rfl, hn⟩ := hc
        obtain ⟨⟨eT, eB⟩, eH⟩ := R.sl i _ q
        refine ⟨by rw [← eT]; exact R.tb, fun H1 ex t1 => ?_⟩
        refine ⟨C, F, env, R.extN q hn ex t1, ?_⟩
        cases hq : gB env with
        | none => rw [hq] at h; exact h.elim
        | some r =>
          rw [hq] at h
          cases r with
          | ok z => exact h
          | error z =>
            obtain ⟨xc, env'⟩ := z
            simp only at h
            cases hkx : kind xc with
            | none => rw [hkx] at h; exact h.elim
            | some d =>
              rw [hkx] at h
              exact fun F' H' cls dx R' e xo => ⟨F', xc, d, ⟨R'.fh, R'.nt⟩, xo, hkx, fun F2 H2 v x dv => h v F2 H2 (R'.call x) (e.trans x.ff) dv⟩
      · exact h.elim
    · exact h.elim
end
end Pf
/-! part PfN -/
set_option Elab.async false
set_option linter.all false
set_option maxRecDepth 100000
set_option maxHeartbeats 2000000
namespace Pf
open PySem PySem.Spec L2 Evl
def gLk (i : Nat) : M PyData := fun env => match env[i]? with
  | some (.own ds) => some (.ok (.list ds, env))
  | some (.bor ds) => some (.ok (.list ds, env))
  | some (.val d) => some (.ok (d, env))
  | _ => none
theorem bd_lk {K : PySem.W.Frag} {mg : Str → Option Value} {W : WX} {C : Cn} {F : Hp} {σ : L2.St} {H : Hp} {env : En} {i : Nat} {γ δ : Type} {ok : OkR γ δ} {f : PyData → M γ} {Q : δ → Hp → Prop} (R : Rel K C F σ H env) (h : After K mg ok W C F σ (M.bd (gLk i) f env) Q) :
    ∃ v d, σ[i]? = some (some v) ∧ Dp K H v d ∧ After K mg ok W C F σ (f d env) Q := by
  unfold M.bd gLk at h
  cases q : env[i]? with
  | none => rw [q] at h; exact h.elim
  | some s =>
    rw [q] at h
    cases s with
    | own ds => obtain ⟨p, vs, a1, _, _, a4, a5⟩ := R.sl i _ q; exact ⟨.ref p, .list ds, a1, .lst (SqL.of a4) (dps_mono R.fh a5), h⟩
    | bor ds => obtain ⟨p, vs, a1, _, _, a4, a5⟩ := R.sl i _ q; exact ⟨.ref p, .list ds, a1, .lst (SqL.of a4) (dps_mono R.fh a5), h⟩
    | val d => obtain ⟨v, a1, a2⟩ := R.sl i _ q; exact ⟨v, d, a1, dp_mono R.fh a2, h⟩
    | _ => exact h.elim
def gTstL (f : PyData → PyData → Option Bool) (i : Nat) (gb : M PyData) : M Bool := M.bd (gLk i) fun _ => M.bd gb fun e => M.bd (gLk i) fun d => M.opt (f d e)
section
variable {X : Cx} {W : WX} {b : Expr} {gb : M PyData} {pos p : Pos} {x : Str}
theorem st_neL (i : Nat) (hu : X.A.units + 64 < cLine) (hb : SV X W b gb) (hN : X.N[i]? = some x := by rfl) (hv : Vis X.env.scope x := by first | exact Or.inl rfl | exact Or.inr (Or.inl rfl) | exact Or.inr (Or.inr rfl))
    (hd : (x == ("__debug__" : Str)) = false := by decide) (hcd : (x == ("__classdict__" : Str)) = false := by decide) (hm : behindInMarks .NotEq b = false := by rfl) : ST X W (.Compare (.Name x p) [.NotEq] [b] pos) (gTstL neD i gb) :=
  pt_imp (pt_cmpR (op_neD hu) (pe_var hN hv hd hcd) hb hm) fun σ H Q ⟨C, F, env, R, h⟩ => by
    obtain ⟨v, d0, a1, _, h1⟩ := bd_lk R h
    refine ⟨v, a1, tG_bd R h1 fun e env2 w F2 H2 R2 e2 o2 h2 => ?_⟩
    obtain ⟨v', d, b1, b2, h3⟩ := bd_lk R2 h2
    rw [a1] at b1
    cases b1
    obtain ⟨k, hk, h4⟩ := h3.of_opt
    unfold neD at hk
    split at hk
    · rename_i hs; cases hk
      exact ⟨d, e, b2, dp_mono R2.fh o2, hs.1, hs.2, _, rfl, aft (ok := okB) h4 R2 rfl⟩
    · cases hk
end
end Pf
/-! part PfV -/
set_option Elab.async false
set_option linter.all false
set_option maxRecDepth 100000
set_option maxHeartbeats 1000000
namespace Pf
open PySem PySem.Spec L2 Evl
section
variable {env env1 env2 : En} {i : Nat} {ds ds1 st st' : List PyData} {d x : PyData}
theorem held_own (h : env[i]? = some (.own ds)) : gHeld i env = some (.ok (ds, env)) := by unfold gHeld; rw [h]
theorem held_bor (h : env[i]? = some (.bor ds)) : gHeld i env = some (.ok (ds, env)) := by unfold gHeld; rw [h]
theorem peek_own (h : env[i]? = some (.own ds)) : gPeek i env = some (.ok (ds, env)) := by unfold gPeek; rw [h]
theorem peek_lst (h : env[i]? = some (.val (.list ds))) : gPeek i env = some (.ok (ds, env)) := by unfold gPeek; rw [h]
theorem peek_tup (h : env[i]? = some (.val (.tuple ds))) : gPeek i env = some (.ok (ds, env)) := by unfold gPeek; rw [h]
theorem put_own (h : env[i]? = some (.own ds)) (es : List PyData) : gPut i es env = some (.ok ((), env.set i (.own es))) := by unfold gPut; rw [h]; rfl
theorem put_bor (h : env[i]? = some (.bor ds)) (es : List PyData) : gPut i es env = some (.ok ((), env.set i (.bor es))) := by unfold gPut; rw [h]; rfl
theorem bd_ok {α β : Type} {m : M α} {f : α → M β} {a : α} (h : m env = some (.ok (a, env1))) : M.bd m f env = f a env1 := by unfold M.bd; rw [h]
theorem gE_ok {α : Type} {m : M α} {f : α → S} {a : α} (h : m env = some (.ok (a, env1))) : gE m f env = f a env1 := by unfold gE; rw [h]
theorem seq_nx {g h : S} (e : g env = some (.nx env1)) : gSeq g h env = h env1 := by unfold gSeq; rw [e]
theorem opt_ok {α : Type} {o : Option α} {a : α} (h : o = some a) : M.opt o env = some (.ok (a, env)) := by unfold M.opt; rw [h]
theorem lenP_own (h : env[i]? = some (.own ds)) : gLenP i env = some (.ok (.int ds.length, env)) := by unfold gLenP; rw [bd_ok (peek_own h)]; rfl
theorem n_val (h : env[i]? = some (.val d)) : gN i env = some (.ok (d, env)) := by unfold gN; rw [h]
theorem n_own (h : env[i]? = some (.own ds)) : gN i env = some (.ok (.list ds, env.set i (.val (.list ds)))) := by unfold gN; rw [h]
theorem callB_bor {α : Type} {gl : M (List PyData)} {m : List PyData → List PyData → Rf (α × List PyData)} {as : List PyData} {a : α} (h0 : env[i]? = some (.bor st)) (h1 : gl env = some (.ok (as, env1))) (h2 : env1[i]? = some (.bor ds)) (h3 : m ds as = some (.ok (a, st'))) : gCallB i gl m env = some (.ok (a, env1.set i (.bor st'))) := by
  unfold gCallB
  rw [bd_ok (held_bor h0), bd_ok h1, bd_ok (held_bor h2)]
  simp only [h3]
  rw [bd_ok (put_bor h2 st')]
  rfl
theorem callB_own {α : Type} {gl : M (List PyData)} {m : List PyData → List PyData → Rf (α × List PyData)} {as : List PyData} {a : α} (h0 : env[i]? = some (.own st)) (h1 : gl env = some (.ok (as, env1))) (h2 : env1[i]? = some (.own ds)) (h3 : m ds as = some (.ok (a, st'))) : gCallB i gl m env = some (.ok (a, env1.set i (.own st'))) := by
  unfold gCallB
  rw [bd_ok (held_own h0), bd_ok h1, bd_ok (held_own h2)]
  simp only [h3]
  rw [bd_ok (put_own h2 st')]
  rfl
theorem popAt_own {gb : M PyData} {k : Nat} (h0 : env[i]? = some (.own ds)) (h1 : gb env = some (.ok (.int k, env1))) (h2 : env1[i]? = some (.own ds1)) (hk : k < ds1.length) (hl : ds1.length ≤ 16777216) (hx : ds1[k]? = some x) : gPopAt i gb env = some (.ok (x, env1.set i (.own (ds1.eraseIdx k)))) := by
  have hb : -(2 ^ 63) ≤ (k : Int) ∧ (k : Int) < 2 ^ 63 := by omega
  have hs : seqIndex? (k : Int) ds1.length = some k := (ixN_seq (ixN_nat hk)).1
  unfold gPopAt
  rw [bd_ok (held_own h0), bd_ok h1, bd_ok (held_own h2)]
  simp only
  rw [if_pos hb]
  simp only [hs, hx]
  rw [bd_ok (put_own h2 _)]
  rfl
theorem app_own {gb : M PyData} (h0 : env[i]? = some (.own ds)) (h1 : gb env = some (.ok (x, env1))) (h2 : env1[i]? = some (.own ds1)) (hl : ds1.length < 16777216) : gApp i gb env = some (.nx (env1.set i (.own (ds1 ++ [x])))) := by
  unfold gApp
  rw [gE_ok (held_own h0), gE_ok h1, gE_ok (held_own h2), if_pos hl, gE_ok (put_own h2 _)]
  rfl
theorem setIx_own {gv gi : M PyData} {k : Nat} (h0 : gv env = some (.ok (x, env1))) (h1 : env1[i]? = some (.own ds)) (h2 : gi env1 = some (.ok (.int k, env2))) (h3 : env2[i]? = some (.own ds1)) (hk : k < ds1.length) : gSetIx i gv gi env = some (.nx (env2.set i (.own (ds1.set k x)))) := by
  unfold gSetIx
  rw [gE_ok h0, gE_ok (held_own h1), gE_ok h2, gE_ok (held_own h3)]
  simp only [ixN_nat hk]
  rw [gE_ok (put_own h3 _)]
  rfl
theorem ixP_own {gb : M PyData} {k : Nat} (h0 : env[i]? = some (.own ds)) (h1 : gb env = some (.ok (.int k, env1))) (h2 : env1[i]? = some (.own ds1)) (hx : ds1[k]? = some x) : gIxP i gb env = some (.ok (x, env1)) := by
  unfold gIxP
  rw [bd_ok (peek_own h0), bd_ok h1, bd_ok (peek_own h2)]
  exact opt_ok (atI_nat hx)
theorem ixP_tup {gb : M PyData} {k : Nat} (h0 : env[i]? = some (.val (.tuple ds))) (h1 : gb env = some (.ok (.int k, env1))) (h2 : env1[i]? = some (.val (.tuple ds1))) (hx : ds1[k]? = some x) : gIxP i gb env = some (.ok (x, env1)) := by
  unfold gIxP
  rw [bd_ok (peek_tup h0), bd_ok h1, bd_ok (peek_tup h2)]
  exact opt_ok (atI_nat hx)
end
theorem repD_nat {ds : List PyData} {c : Nat} (h : ds.length * c ≤ 16777216) (h2 : c < 1000000) : repD ds (.int c) = some (List.replicate c ds).flatten := by
  unfold repD
  simp only
  rw [if_pos ⟨by omega, by omega, by rw [Int.toNat_natCast]; exact h⟩, Int.toNat_natCast]
theorem fnB_rt {G : S} {N : Nat} {st ds st' : List PyData} {d : PyData} {r : En} (h : G (envB N st ds) = some (.rt d (.bor st' :: r))) : fnB G N st ds = some (.ok (d, st')) := by unfold fnB; rw [h]
theorem fnD_rt {G : S} {N : Nat} {ds : List PyData} {d : PyData} {r : En} (h : G (envD N ds) = some (.rt d r)) : fnD G N ds = some (.ok d) := by unfold fnD; rw [h]
theorem fnD_nx {G : S} {N : Nat} {ds : List PyData} {r : En} (h : G (envD N ds) = some (.nx r)) : fnD G N ds = some (.ok .none) := by unfold fnD; rw [h]
end Pf
/-! part PfQ1 -/
set_option Elab.async false
set_option linter.all false
set_option maxRecDepth 100000
set_option maxHeartbeats 2000000
namespace Pf
open PySem PySem.Spec L2 Evl
def Yields (K : PySem.W.Frag) (J : It) (F1 : Hp) (ds : List PyData) : Prop := ∀ (C : Cn) (F H : Hp) (σ : L2.St) (env : En) (i : Nat), Rel K C F σ H env → Ex F1 F →
  (i = ds.length → J.stop i H) ∧ ∀ d, ds[i]? = some d → J.go i H ∧ ∀ v H', J.yld i H v H' → ∃ F', Rel K C F' σ H' env ∧ Ex F F' ∧ Dp K F' v d
abbrev okY (K : PySem.W.Frag) : OkR (List PyData) It := fun _ F _ _ _ ds J => Yields K J F ds
abbrev SI (X : Cx) (W : WX) (tg iter : Expr) (g : M (List PyData)) : Prop := PI X tg iter (tG X.K X.mg (okY X.K) W g)
section
variable {X : Cx} {W : WX}
theorem pi_imp {tg e : Expr} {w w' : TI} (h : PI X tg e w) (k : ∀ σ H R, w' σ H R → w σ H R) : PI X tg e w' := ⟨fun pins s σ H R I q => h.run pins s σ H R I (k σ H R q)⟩
end
section
variable {K : PySem.W.Frag} {F1 : Hp}
theorem y_list {a : Addr} {xs : List V} {ds : List PyData} (s : SqL K F1 a xs) (r : DpAll K F1 xs ds) : Yields K (Itl K a) F1 ds := fun C F H σ env i R ex => by
  have s' := ex_l (ex.trans R.fh) s
  refine ⟨fun e => ⟨xs, s', by rw [r.len]; omega⟩, fun d hd => ?_⟩
  obtain ⟨v, hv, dv⟩ := r.get hd
  refine ⟨⟨xs, v, s', hv⟩, fun v' H' ⟨e, h⟩ => ?_⟩
  subst e
  have := h xs s'
  rw [hv] at this
  cases this
  exact ⟨F, R, Ex.refl _, dp_mono ex dv⟩
theorem y_rng {lo : Int} {n : Nat} : Yields K (Itr lo n) F1 (rngD lo n) := fun C F H σ env i R ex => by
  refine ⟨fun e => by rw [rngD_len] at e; exact Nat.le_of_eq e.symm, fun d hd => ?_⟩
  have hi : i < n := by
    have := (List.getElem?_eq_some_iff.mp hd).1
    rwa [rngD_len] at this
  rw [rngD_at hi] at hd
  cases hd
  refine ⟨hi, fun v' H' ⟨e, h⟩ => ?_⟩
  subst e h
  exact ⟨F, R, Ex.refl _, .int _⟩
theorem y_revL {a : Addr} {xs : List V} {ds : List PyData} (s : SqL K F1 a xs) (r : DpAll K F1 xs ds) : Yields K (Itv K a xs.length) F1 ds.reverse := fun C F H σ env i R ex => by
  have s' := ex_l (ex.trans R.fh) s
  have hl := r.len
  refine ⟨fun e => by rw [List.length_reverse] at e; show xs.length ≤ i; omega, fun d hd => ?_⟩
  have hi : i < ds.length := by
    have := (List.getElem?_eq_some_iff.mp hd).1
    rwa [List.length_reverse] at this
  rw [List.getElem?_reverse hi] at hd
  obtain ⟨v, hv, dv⟩ := r.get hd
  rw [← hl] at hv
  refine ⟨⟨by omega, xs, v, s', hv⟩, fun v' H' ⟨e, h⟩ => ?_⟩
  subst e
  have := h xs s'
  rw [hv] at this
  cases this
  exact ⟨F, R, Ex.refl _, dp_mono ex dv⟩
theorem y_revT {a : Addr} {xs : List V} {ds : List PyData} (s : SqT K F1 a xs) (r : DpAll K F1 xs ds) : Yields K (RT.ItvT K a xs.length) F1 ds.reverse := fun C F H σ env i R ex => by
  have s' := ex_t (ex.trans R.fh) s
  have hl := r.len
  refine ⟨fun e => by rw [List.length_reverse] at e; show xs.length ≤ i; omega, fun d hd => ?_⟩
  have hi : i < ds.length := by
    have := (List.getElem?_eq_some_iff.mp hd).1
    rwa [List.length_reverse] at this
  rw [List.getElem?_reverse hi] at hd
  obtain ⟨v, hv, dv⟩ := r.get hd
  rw [← hl] at hv
  refine ⟨⟨by omega, xs, v, s', hv⟩, fun v' H' ⟨e, h⟩ => ?_⟩
  subst e
  have := h xs s'
  rw [hv] at this
  cases this
  exact ⟨F, R, Ex.refl _, dp_mono ex dv⟩
def zipD (ds es : List PyData) : List PyData := ds.zipWith (fun d e => .tuple [d, e]) es
theorem zipD_at {ds es : List PyData} {i : Nat} {z : PyData} (h : (zipD ds es)[i]? = some z) : ∃ d e, ds[i]? = some d ∧ es[i]? = some e ∧ z = .tuple [d, e] := by
  unfold zipD at h
  rw [List.getElem?_zipWith] at h
  cases h1 : ds[i]? with
  | none => rw [h1] at h; cases h
  | some d =>
    cases h2 : es[i]? with
    | none => rw [h1, h2] at h; cases h
    | some e => rw [h1, h2] at h; cases h; exact ⟨d, e, rfl, rfl, rfl⟩
theorem zip_new {C : Cn} {F H : Hp} {σ : L2.St} {env : En} {T : Addr} {x y : V} {d e : PyData} (R : Rel K C F σ H env) (hT : H T = none) (dx : Dp K F x d) (dy : Dp K F y e) (lx : looseV x = true) :
    ∃ F', Rel K C F' σ (upd H T (.tup [x, y])) env ∧ Ex F F' ∧ Dp K F' (.ref T) (.tuple [d, e]) := by
  have hf := (R.fresh hT).1
  have exn : Ex F (upd F T (.tup [x, y])) := Ex.new hf
  exact ⟨_, R.newF hT (show ([x, y] : List V).any looseV = true by simp [lx]), exn, .tup (SqT.of upd_same) (.cons (dp_mono exn dx) (.cons (dp_mono exn dy) .nil))⟩
theorem y_zipL {a b : Addr} {xs ys : List V} {ds es : List PyData} (s : SqL K F1 a xs) (r : DpAll K F1 xs ds) (s2 : SqL K F1 b ys) (r2 : DpAll K F1 ys es) (hl : ds.all looseP = true) : Yields K (Itz K a b) F1 (zipD ds es) := fun C F H σ env i R ex => by
  have t1 := ex_l (ex.trans R.fh) s
  have t2 := ex_l (ex.trans R.fh) s2
  refine ⟨fun e => ⟨xs, ys, t1, t2, by unfold zipD at e; rw [List.length_zipWith] at e; rw [r.len, r2.len]; omega⟩, fun z hz => ?_⟩
  obtain ⟨d, e, h1, h2, rfl⟩ := zipD_at hz
  obtain ⟨x, hx, dx⟩ := r.get h1
  obtain ⟨y, hy, dy⟩ := r2.get h2
  refine ⟨⟨xs, ys, x, y, t1, t2, hx, hy⟩, fun v' H' ⟨T, x', y', ev, hT, eH, k1, k2⟩ => ?_⟩
  subst ev eH
  have e1 := k1 xs t1
  have e2 := k2 ys t2
  rw [hx] at e1
  rw [hy] at e2
  cases e1
  cases e2
  exact zip_new R hT (dp_mono ex dx) (dp_mono ex dy) (dp_loose dx (List.all_eq_true.mp hl d (List.mem_of_getElem? h1)))
theorem y_zipT {a b : Addr} {xs ys : List V} {ds es : List PyData} (s : SqT K F1 a xs) (r : DpAll K F1 xs ds) (s2 : SqT K F1 b ys) (r2 : DpAll K F1 ys es) (hl : ds.all looseP = true) : Yields K (RZ.ItzT K a b) F1 (zipD ds es) := fun C F H σ env i R ex => by
  have t1 := ex_t (ex.trans R.fh) s
  have t2 := ex_t (ex.trans R.fh) s2
  refine ⟨fun e => ⟨xs, ys, t1, t2, by unfold zipD at e; rw [List.length_zipWith] at e; rw [r.len, r2.len]; omega⟩, fun z hz => ?_⟩
  obtain ⟨d, e, h1, h2, rfl⟩ := zipD_at hz
  obtain ⟨x, hx, dx⟩ := r.get h1
  obtain ⟨y, hy, dy⟩ := r2.get h2
  refine ⟨⟨xs, ys, x, y, t1, t2, hx, hy⟩, fun v' H' ⟨T, x', y', ev, hT, eH, k1, k2⟩ => ?_⟩
  subst ev eH
  have e1 := k1 xs t1
  have e2 := k2 ys t2
  rw [hx] at e1
  rw [hy] at e2
  cases e1
  cases e2
  exact zip_new R hT (dp_mono ex dx) (dp_mono ex dy) (dp_loose dx (List.all_eq_true.mp hl d (List.mem_of_getElem? h1)))
end
section
variable {X : Cx} {W : WX} {tg iter a1 a2 e e2 : Expr} {ga gb : M PyData} {pos p p0 p1 p2 tpos : Pos} {elts : List Expr} {kk : Nat}
theorem si_lst (hi : SV X W iter ga) : SI X W tg iter (M.bd ga fun d => M.opt (lstO d)) :=
  pi_imp (pi_list hi) fun σ H R ⟨C, F, env, R0, h⟩ => tG_bd R0 h fun d env1 v F1 H1 R1 e1 o1 h1 => by
    cases o1 with
    | lst s r => exact ⟨_, rfl, ⟨_, ex_l R1.fh s⟩, aft (ok := okY X.K) h1 R1 (y_list s r)⟩
    | _ => exact h1.elim
def rng2O (d e : PyData) : Option (List PyData) := match d, e with
  | .int i, .int j => if (-(2 ^ 62) ≤ i ∧ i < 2 ^ 62) ∧ -(2 ^ 62) ≤ j ∧ j < 2 ^ 62 then some (rngD i (j - i).toNat) else none
  | _, _ => none
theorem si_rng2 (hgl : Gl X "range") (hm : X.mg "range" = none) (ha : SV X W a1 ga) (hb : SV X W a2 gb)
    (h1 : starEach [a1, a2] X.env = [(false, eval a1 X.env), (false, eval a2 X.env)] := by rfl) (h2 : starEach [a2] X.env = [(false, eval a2 X.env)] := by rfl) (h3 : starEach [a1, a2] X.env = (false, eval a1 X.env) :: starEach [a2] X.env := by rfl) (h4 : starEach [a2] X.env = (false, eval a2 X.env) :: starEach [] X.env := by rfl) :
    SI X W tg (.Call (.Name "range" p0) [a1, a2] [] p2) (M.bd ga fun d => M.bd gb fun e => M.opt (rng2O d e)) :=
  pi_imp (pi_range2 hgl hm (pa_cons ha (pa_cons hb pa_nil h4) h3) h1 h2) fun σ H R ⟨C, F, env, R0, h⟩ => tG_bd R0 h fun d env1 v F1 H1 R1 e1 o1 h1 => by
    refine tG_bd R1 h1 fun e env2 u F2 H2 R2 e2 o2 h2 => ?_
    obtain ⟨ds, hds, h3⟩ := After.of_opt h2
    cases o1 with
    | int i =>
      cases o2 with
      | int j =>
        simp only [rng2O] at hds
        split at hds
        · rename_i hn
          cases hds
          exact ⟨i, j, rfl, ⟨hn.1.1, hn.1.2, hn.2.1, hn.2.2⟩, aft (ok := okY X.K) h3 R2 y_rng⟩
        · cases hds
      | _ => cases hds
    | _ => cases hds
def revD (d : PyData) : Option (List PyData) := match d with
  | .list ds => some ds.reverse
  | .tuple ds => some ds.reverse
  | _ => none
theorem si_rev (hgl : Gl X "reversed") (hm : X.mg "reversed" = none) (hi : SV X W e ga) (hs : starEach [e] X.env = (false, eval e X.env) :: starEach [] X.env := by rfl) :
    SI X W tg (.Call (.Name "reversed" p) [e] [] pos) (M.bd ga fun d => M.opt (revD d)) :=
  pi_imp (RT.pi_revA hgl hm hi hs) fun σ H R ⟨C, F, env, R0, h⟩ => tG_bd R0 h fun d env1 v F1 H1 R1 e1 o1 h1 => by
    cases o1 with
    | lst s r => exact ⟨_, _, rfl, .inl ⟨ex_l R1.fh s, aft (ok := okY X.K) h1 R1 (y_revL s r)⟩⟩
    | tup s r => exact ⟨_, _, rfl, .inr ⟨ex_t R1.fh s, aft (ok := okY X.K) h1 R1 (y_revT s r)⟩⟩
    | _ => exact h1.elim
def zipO (d e : PyData) : Option (List PyData) := match d, e with
  | .list ds, .list es => if ds.all looseP = true then some (zipD ds es) else none
  | .tuple ds, .tuple es => if ds.all looseP = true then some (zipD ds es) else none
  | _, _ => none
theorem si_zip (hgl : Gl X "zip") (hm : X.mg "zip" = none) (ha : SV X W e ga) (hb : SV X W e2 gb)
    (hs : starEach [e, e2] X.env = (false, eval e X.env) :: starEach [e2] X.env := by rfl) (hpl : (backTo pos (starEach [e2] X.env)).any (·.1) = false := by rfl) (h4 : starEach [e2] X.env = (false, eval e2 X.env) :: starEach [] X.env := by rfl) :
    SI X W (.Tuple elts kk tpos) (.Call (.Name "zip" p) [e, e2] [] pos) (M.bd ga fun d => M.bd gb fun e => M.opt (zipO d e)) :=
  pi_imp (RZ.pi_zipA hgl hm (pa_cons ha (pa_cons hb pa_nil h4) hs) hs hpl) fun σ H R ⟨C, F, env, R0, h⟩ => tG_bd R0 h fun d env1 v F1 H1 R1 e1 o1 h1 => by
    refine tG_bd R1 h1 fun e env2 u F2 H2 R2 e2 o2 h2 => ?_
    obtain ⟨ds, hds, h3⟩ := After.of_opt h2
    cases o1 with
    | lst s r =>
      cases o2 with
      | lst s2 r2 =>
        simp only [zipO] at hds
        split at hds
        · rename_i hall
          cases hds; exact ⟨_, _, _, _, rfl, .inl ⟨ex_l (e2.trans R2.fh) s, ex_l R2.fh s2, aft (ok := okY X.K) h3 R2 (y_zipL (ex_l e2 s) (dps_mono e2 r) s2 r2 hall)⟩⟩
        · cases hds
      | _ => cases hds
    | tup s r =>
      cases o2 with
      | tup s2 r2 =>
        simp only [zipO] at hds
        split at hds
        · rename_i hall
          cases hds; exact ⟨_, _, _, _, rfl, .inr ⟨ex_t (e2.trans R2.fh) s, ex_t R2.fh s2, aft (ok := okY X.K) h3 R2 (y_zipT (ex_t e2 s) (dps_mono e2 r) s2 r2 hall)⟩⟩
        · cases hds
      | _ => cases hds
    | _ => cases hds
end
section
variable {X : Cx} {W : WX} {tg iter elt : Expr} {body : List Stmt} {gi : M (List PyData)} {b : PyData → En → Option En} {g : S} {pos : Pos}
abbrev gForG (gi : M (List PyData)) (b : PyData → En → Option En) (g : S) : S := gE gi fun ds => loopL b g ds
theorem ss_forG (hp : PassesOwn (model X.prog X.w) X.A X.env X.xe) (hc : X.calm = true) (hi : SI X W tg iter gi) (hg : SGt X tg b) (hb : SSs X W body g) (hs : ∀ x, foldedSetIterable iter X.env x = pure x := by intro _; rfl) :
    SS X W (.For tg iter body [] pos) (gForG gi b g) := by
  obtain ⟨t, pt, kt⟩ := hg
  refine ps_imp (ps_for hp hc hi pt hb hs) fun D σ H ⟨C, F, env, R, h⟩ => tE_bd R h fun ds env1 J F1 H1 R1 e1 o1 h1 => ?_
  have o1 : Yields X.K J F1 ds := o1
  refine ⟨fun i m σ H => m = ds.length - i ∧ i ≤ ds.length ∧ Btw X.K X.mg W C F1 (loopL b g (ds.drop i)) D σ H, ⟨ds.length, rfl, Nat.zero_le _, F1, env1, R1, Ex.refl _, h1⟩, ?_⟩
  rintro i m σ H ⟨rfl, hi, hB⟩
  have hB0 := hB
  obtain ⟨F', env', R', ex, h2⟩ := hB
  obtain ⟨y1, y2⟩ := o1 C F' H σ env' i R' ex
  by_cases hlt : i < ds.length
  · have hd : ds[i]? = some ds[i] := List.getElem?_eq_getElem hlt
    obtain ⟨hgo, hy⟩ := y2 _ hd
    refine .inr ⟨hgo, _, fun σ' H' p' => ⟨ds.length - (i + 1), by omega, rfl, hlt, p'⟩, fun v H' hv => ?_⟩
    obtain ⟨F2, R2, ex2, dv⟩ := hy v H' hv
    rw [drop_at hd] at h2
    obtain ⟨env2, hb2, h3⟩ := loop_cons h2
    refine kt C F2 σ H' env' env2 v _ _ R2 dv hb2 fun σ2 R3 => ⟨C, F2, env2, R3, ?_⟩
    exact (h3.up ex2).imp (fun _ _ ⟨F4, env3, R4, ex3, q⟩ => ⟨F4, env3, R4, ex.trans ex3, q⟩) (fun _ _ z => z) (fun _ _ z => z) (fun _ _ ⟨F4, env3, R4, ex3, q⟩ => ⟨F4, env3, R4, ex.trans ex3, q⟩)
  · have e' : i = ds.length := by omega
    subst e'
    refine .inl ⟨y1 rfl, ?_⟩
    rw [List.drop_eq_nil_of_le (Nat.le_refl _)] at hB0
    exact loop_nil hB0
end
end Pf
/-! part PfQ2 -/
set_option Elab.async false
set_option linter.all false
set_option maxRecDepth 100000
set_option maxHeartbeats 2000000
namespace Pf
open PySem PySem.Spec L2 Evl
theorem wipe_eq {σ τ : L2.St} {vs : List Nat} (ht : ∀ i, i ∉ vs → τ[i]? = σ[i]?) (hl : τ.length = σ.length) : wipe τ vs = wipe σ vs := by
  have key : ∀ us : List Nat, us ⊆ vs → ∀ i, (i ∈ us ∨ i ∉ vs) → (wipe τ us)[i]? = (wipe σ us)[i]? := by
    intro us
    induction us with
    | nil =>
      intro _ i hi
      rcases hi with hi | hi
      · cases hi
      · exact ht i hi
    | cons u us ih =>
      intro hs i hi
      unfold wipe
      by_cases e : u = i
      · subst e
        by_cases hu : u < σ.length
        · rw [List.getElem?_set_self (by rw [wipe_length, hl]; exact hu), List.getElem?_set_self (by rw [wipe_length]; exact hu)]
        · rw [List.getElem?_eq_none (by rw [List.length_set, wipe_length, hl]; omega), List.getElem?_eq_none (by rw [List.length_set, wipe_length]; omega)]
      · rw [List.getElem?_set_ne e, List.getElem?_set_ne e]
        refine ih (fun z hz => hs (List.mem_cons_of_mem _ hz)) i ?_
        rcases hi with hi | hi
        · rcases List.mem_cons.mp hi with rfl | hi
          · exact absurd rfl e
          · exact .inl hi
        · exact .inr hi
  apply List.ext_getElem?
  intro i
  by_cases hi : i ∈ vs
  · exact key vs (fun _ z => z) i (.inl hi)
  · exact key vs (fun _ z => z) i (.inr hi)
theorem wipe_set {σ : L2.St} {vs : List Nat} {j : Nat} {x : Option V} (hj : j ∈ vs) : wipe (σ.set j x) vs = wipe σ vs :=
  wipe_eq (fun i hi => List.getElem?_set_ne fun e => hi (by rw [← e]; exact hj)) (by rw [List.length_set])
theorem wipe_wipe {σ : L2.St} {vs : List Nat} : wipe (wipe σ vs) vs = wipe σ vs :=
  wipe_eq (fun i hi => wipe_out hi) (by rw [wipe_length])
def TgK (K : PySem.W.Frag) (vs : List Nat) (b : PyData → En → Option En) (t : TG) : Prop := ∀ C F σ H env env' v d Q, Rel K C F σ H env → Dp K F v d → b d env = some env' → (∀ σ', Rel K C F σ' H env' → wipe σ' vs = wipe σ vs → Q σ' H) → t v σ H Q
def TgsK (K : PySem.W.Frag) (vs : List Nat) (b : List PyData → En → Option En) (t : TGs) : Prop := ∀ C F σ H env env' us ds Q, Rel K C F σ H env → DpAll K F us ds → b ds env = some env' → (∀ σ', Rel K C F σ' H env' → wipe σ' vs = wipe σ vs → Q σ' H) → t us σ H Q
section
variable {K : PySem.W.Frag} {vs : List Nat}
theorem tk_n {j : Nat} (hj : j ∈ vs) : TgK K vs (bN j) (gName j) := fun C F σ H env env' v d Q R hv hb q => by
  cases hb
  exact q _ (R.store j hv) (wipe_set hj)
theorem tks_nil : TgsK K vs bNil L2.gNil := fun C F σ H env env' us ds Q R hv hb q => by
  cases hv with
  | nil => cases hb; exact ⟨rfl, q _ R rfl⟩
  | cons _ _ => cases hb
theorem tks_cons {b bs} {t : TG} {ts : TGs} (h : TgK K vs b t) (hs : TgsK K vs bs ts) : TgsK K vs (bCons b bs) (L2.gCons t ts) := fun C F σ H env env' us ds Q R hv hb q => by
  cases hv with
  | nil => cases hb
  | cons a r =>
    unfold bCons at hb
    simp only at hb
    cases e : b _ env with
    | none => rw [e] at hb; cases hb
    | some env1 =>
      rw [e] at hb
      exact ⟨_, _, rfl, h C F σ H env env1 _ _ _ R a e fun σ' R' w => hs C F σ' H env1 env' _ _ _ R' r hb fun σ2 R2 w2 => q σ2 R2 (w2.trans w)⟩
theorem tk_tup {bs} {ts : TGs} {n : Nat} (h : TgsK K vs bs ts) : TgK K vs (bTup n bs) (L2.gTup K n ts) := fun C F σ H env env' v d Q R hv hb q => by
  unfold bTup at hb
  split at hb
  · split at hb
    · rename_i hl
      cases hv with
      | tup s r => exact ⟨_, _, rfl, ex_t R.fh s, by rw [r.len]; exact hl, h C F σ H env env' _ _ _ R r hb q⟩
    · cases hb
  · cases hb
end
section
variable {K : PySem.W.Frag} {mg : Str → Option Value} {W : WX} {C : Cn} {F0 F1 : Hp} {σ : L2.St} {H1 : Hp} {env1 : En} {vs : List Nat} {b : PyData → En → Option En} {gt : M Bool} {ge : M PyData} {ds : List PyData} {Q : VK} {g : TG}
theorem btw_turnG {D : Addr} {out} {H H' : Hp} {v : V} {d : PyData} {r : List PyData} (R0 : Rel K C F1 σ H1 env1) (hD : H1 D = none) (hk : TgK K vs b g) (h : BtwC K C F1 σ vs b gt ge D out (d :: r) H)
    (hy : ∀ C' F env, Rel K C' F (wipe σ vs) H env → Ex F1 F → ∃ F', Rel K C' F' (wipe σ vs) H' env ∧ Ex F F' ∧ Dp K F' v d) :
    g v (wipe σ vs) H' fun σ2 H2 => wipe σ2 vs = wipe σ vs ∧ tG K mg okB W0 gt σ2 H2 fun k H3 => if k = true then tG K mg (okV K) W0 ge σ2 H3 fun y H4 => ∃ acc, H4 D = some (.lst acc) ∧ acc.length < sizeLine ∧ BtwC K C F1 σ vs b gt ge D out r (upd H4 D (.lst (acc ++ [y])))
      else BtwC K C F1 σ vs b gt ge D out r H3 := by
  have f := R0.fresh hD
  obtain ⟨F0, env, accV, acc, R, ex0, ha0, hl⟩ := h
  obtain ⟨F, R, ex1, hx⟩ := hy _ F0 env R ex0
  have ex := ex0.trans ex1
  have ha := dps_mono ex1 ha0
  cases hb : b d env with
  | none =>
    have : loopC vs b gt ge (d :: r) acc env = none := by unfold loopC; rw [hb]
    rw [this] at hl
    cases hl
  | some envb =>
  have hl : (match gt envb with
      | some (.ok (true, env2)) => match ge env2 with
        | some (.ok (y, env3)) => if acc.length < 16777216 then loopC vs b gt ge r (acc ++ [y]) (wipeE vs env3) else none
        | _ => none
      | some (.ok (false, env2)) => loopC vs b gt ge r acc (wipeE vs env2)
      | _ => none) = some out := by
    unfold loopC at hl
    rw [hb] at hl
    exact hl
  refine hk _ F _ H' env envb v d _ R hx hb fun σ2 R2 hw => ⟨hw.trans wipe_wipe, _, F, envb, R2, ?_⟩
  have hw2 : wipe σ2 vs = wipe σ vs := hw.trans wipe_wipe
  cases q : gt envb with
  | none => rw [q] at hl; cases hl
  | some z =>
    rw [q] at hl
    cases z with
    | error z => cases hl
    | ok z =>
      obtain ⟨k, env2⟩ := z
      intro k' F3 H3 R3 ex3 ek
      cases ek
      cases k with
      | false => exact ⟨F3, _, accV, acc, R3.rewipe hw2, ex.trans ex3, dps_mono ex3 ha, hl⟩
      | true =>
        simp only [if_true] at hl ⊢
        refine ⟨_, F3, env2, R3, ?_⟩
        cases q2 : ge env2 with
        | none => rw [q2] at hl; cases hl
        | some z =>
          rw [q2] at hl
          cases z with
          | error z => cases hl
          | ok z =>
            obtain ⟨y, env3⟩ := z
            intro v F4 H4 R4 ex4 dv
            simp only at hl
            split at hl
            · rename_i hlen
              have hG : H4 D = some (.lst accV) := R4.guarded (fun b hb => (R0.bd b hb).2.2) f.2
              have hcf : C.F D = none := by
                cases z : C.F D with
                | none => rfl
                | some u => have := R0.cf D u z; rw [f.1] at this; cases this
              obtain ⟨hf4, R5⟩ := Rel.reguard (ys := (accV ++ [v])) R0 f.2 hcf R4
              have ha4 := dps_mono ex4 (dps_mono ex3 ha)
              refine ⟨accV, hG, by rw [ha4.len, sizeLine_eq]; exact hlen, F4, _, accV ++ [v], acc ++ [y], R5.rewipe hw2, (ex.trans ex3).trans ex4, ha4.app (.cons dv .nil), hl⟩
            · cases hl
end
section
variable {X : Cx} {W : WX} {elt tg iter : Expr} {ifs : List Expr} {scope : Scope} {own : List (Str × Nat)} {gi : M (List PyData)} {b : PyData → En → Option En} {gt : M Bool} {ge : M PyData} {pos spos py : Pos} {t : TG} {i : Nat} {y : Str}
abbrev gLcG (vs : List Nat) (b : PyData → En → Option En) (gt : M Bool) (ge : M PyData) (gi : M (List PyData)) : M (List PyData) := M.bd gi fun ds => gLc vs b gt ge ds
theorem lcG_read {W : WX} {mg : Str → Option Value} {K : PySem.W.Frag} {vs : List Nat} (hk : TgK K vs b t) {σ : L2.St} {H : Hp} {Q : VK} (h : tG K mg (okO K) W (gLcG vs b gt ge gi) σ H Q) :
    tLc (tG K mg (okY K) W gi) t (tG K mg okB W0 gt) (tG K mg (okV K) W0 ge) vs σ H Q := by
  obtain ⟨C, F, env, R, h⟩ := h
  refine tG_bd R h fun ds env1 J F1 H1 R1 e1 o1 h1 D hD => ?_
  have o1 : Yields K J F1 ds := o1
  obtain ⟨out, hl, h3⟩ := lc_out h1
  refine ⟨fun i m H => m = ds.length - i ∧ i ≤ ds.length ∧ BtwC K C F1 σ vs b gt ge D out (ds.drop i) H, ⟨ds.length, rfl, Nat.zero_le _, btw_start R1 hD hl⟩, ?_⟩
  rintro i m H ⟨rfl, hi, hB⟩
  have hB0 := hB
  obtain ⟨F', env', accV, acc, R', ex, _, _⟩ := hB0
  obtain ⟨y1, y2⟩ := o1 _ F' H _ env' i R' ex
  by_cases hlt : i < ds.length
  · have hd : ds[i]? = some ds[i] := List.getElem?_eq_getElem hlt
    obtain ⟨hgo, _⟩ := y2 _ hd
    refine .inr ⟨hgo, BtwC K C F1 σ vs b gt ge D out (ds.drop (i + 1)), fun H' p' => ⟨ds.length - (i + 1), by omega, rfl, hlt, p'⟩, fun v H' hv => ?_⟩
    rw [drop_at hd] at hB
    exact btw_turnG (mg := mg) R1 hD hk hB fun C2 F2 env2 R2 ex2 => ((o1 C2 F2 H _ env2 i R2 ex2).2 _ hd).2 v H' hv
  · have e' : i = ds.length := by omega
    subst e'
    refine .inl ⟨y1 rfl, ?_⟩
    rw [List.drop_eq_nil_of_le (Nat.le_refl _)] at hB
    obtain ⟨F2, R2, ex2, o2⟩ := btw_end R1 hD hB
    exact aft' (ok := okO K) h3 R2 ex2 o2
theorem so_lcG (hc : X.calm = true) (hN : X.N.Nodup) (hi : SI X W tg iter gi) (ok : BlkOk X.N X.env.scope scope own) (hk : TgK X.K (own.map (·.2)) b t)
    (hg : ∀ (s : Shared) (H : Hp) (C : Addr) (cl : List (Str × Addr)) (fp : List Addr), PG (X.blk s H scope (compEnvC scope cl C X.env) fp) tg t) (ht : ∀ (s : Shared) (H : Hp) (C : Addr) (cl : List (Str × Addr)) (fp : List Addr), STs (X.blk s H scope (compEnvC scope cl C X.env) fp) W0 ifs gt)
    (he : ∀ (s : Shared) (H : Hp) (C : Addr) (cl : List (Str × Addr)) (fp : List Addr), SV (X.blk s H scope (compEnvC scope cl C X.env) fp) W0 elt ge) (hs : ∀ x, foldedSetIterable iter X.env x = pure x := by intro _; rfl) :
    SO X W (.ListComp elt [⟨tg, iter, ifs, 0⟩] scope pos) (gLcG (own.map (·.2)) b gt ge gi) :=
  pe_imp (pe_lc (tt := tG X.K X.mg okB W0 gt) (te := tG X.K X.mg (okV X.K) W0 ge) hc hN hi ok hg ht he hs) fun σ H Q h => lcG_read hk h
theorem ss_setLcG (hc : X.calm = true) (hN : X.N.Nodup) (hy : X.N[i]? = some y) (hyl : X.env.scope.names.lookup y = some .local)
    (hsw : swapsWith (.ListComp elt [⟨tg, iter, ifs, 0⟩] scope pos) (some (.Name y py)) spos.line X.env = pure true) (hi : SI X W tg iter gi) (ok : BlkOk X.N X.env.scope scope own) (hk : TgK X.K (own.map (·.2)) b t)
    (hg : ∀ (s : Shared) (H : Hp) (C : Addr) (cl : List (Str × Addr)) (fp : List Addr), PG (X.blk s H scope (compEnvC scope cl C X.env) fp) tg t) (ht : ∀ (s : Shared) (H : Hp) (C : Addr) (cl : List (Str × Addr)) (fp : List Addr), STs (X.blk s H scope (compEnvC scope cl C X.env) fp) W0 ifs gt)
    (he : ∀ (s : Shared) (H : Hp) (C : Addr) (cl : List (Str × Addr)) (fp : List Addr), SV (X.blk s H scope (compEnvC scope cl C X.env) fp) W0 elt ge) (hs : ∀ x, foldedSetIterable iter X.env x = pure x := by intro _; rfl) :
    SS X W (.Assign [.Name y py] (.ListComp elt [⟨tg, iter, ifs, 0⟩] scope pos) spos) (gE (gLcG (own.map (·.2)) b gt ge gi) (gStO i)) :=
  ps_imp (ps_setLc (tt := tG X.K X.mg okB W0 gt) (te := tG X.K X.mg (okV X.K) W0 ge) hc hN hy hyl hsw hi ok hg ht he hs) fun D σ H ⟨C, F, env, R, h⟩ =>
    lcG_read (Q := fun v H1 => gName i v σ H1 D.nx) hk (tE_bd R h fun d env1 v F1 H1 R1 e1 o1 h1 => h1 _ F1 H1 (R1.storeO i o1) (Ex.refl _))
end
end Pf
/-! part PfQ3 -/
set_option Elab.async false
set_option linter.all false
set_option maxRecDepth 100000
set_option maxHeartbeats 2000000
namespace Pf
open PySem PySem.Spec L2 Evl
theorem reads_ints {h : Heap} : ∀ {ns : List Int} {us : List Value}, Vals (ns.map V.int) us → ReadsAll h us (ns.map PyData.int) (ns.flatMap fun _ => [])
  | [], us, r => by cases r; exact .nil
  | n :: ns, us, r => by
    cases r with
    | cons r rr =>
      obtain ⟨t, rfl⟩ := r
      exact .cons (.int n t) (reads_ints rr)
theorem depth_ints : ∀ ns : List Int, PyData.depthAll (ns.map PyData.int) = 0
  | [] => by simp [PyData.depthAll]
  | n :: ns => by simp [PyData.depthAll, PyData.depth, depth_ints ns]
theorem alike_ints (ns : List Int) : PySem.W.AlikeAll (ns.map PyData.int) := by
  refine ⟨fun x hx y hy => ?_, fun x hx => ?_⟩
  · obtain ⟨a, _, rfl⟩ := List.mem_map.mp hx
    obtain ⟨b, _, rfl⟩ := List.mem_map.mp hy
    rfl
  · obtain ⟨a, _, rfl⟩ := List.mem_map.mp hx
    intro z; cases z
def maxOr (d : Int) : List Int → Int
  | [] => d
  | n :: r => r.foldl max n
def rMaxDef (K : PySem.W.Frag) : List V → List V → Hp → VK → Prop := fun xs zs H Q => ∃ (a : Addr) (ns : List Int) (d : Int), xs = [.ref a] ∧ zs = [.int d] ∧ SqL K H a (ns.map V.int) ∧ Q (.int (maxOr d ns)) H
section
variable {X : Cx}
theorem cr_maxDef (hc : X.calm = true) (hu : X.A.units + 64 < cLine) : CallRK X (.builtin "max") [Str.ofString "default"] (rMaxDef X.K) := by
  intro pins s σ H vs zs us ws Q I r rz h
  obtain ⟨a, ns, d, rfl, rfl, hs, q⟩ := h
  obtain ⟨its, rv, hl, _⟩ := I.list hs
  rw [Vals.ref1 r]
  cases rz with
  | cons rd rr =>
    cases rr
    obtain ⟨t, rfl⟩ := rd
    refine PySem.W.max_list_default (vs := its.toArray) (I.ok.hd hc) hl.isList (reads_ints rv) (alike_ints ns) (by rw [depth_ints]; omega) (fun e h' tk hk => ?_) fun y ys i v h' tk bs e hv rd hk => ?_
    · have : ns = [] := List.map_eq_nil_iff.mp e
      subst this
      exact ⟨.int d, H, I.kept hk, ⟨t, rfl⟩, q⟩
    · cases ns with
      | nil => cases e
      | cons n r =>
        obtain ⟨e1, e2⟩ := List.cons.inj e
        subst e1 e2
        rw [PySem.W.maxD_ints] at rd
        cases rd
        exact ⟨.int _, H, I.kept hk, ⟨_, rfl⟩, q⟩
end
def intsO : List PyData → Option (List Int)
  | [] => some []
  | .int i :: r => (intsO r).map (i :: ·)
  | _ => none
theorem intsO_dps {K : PySem.W.Frag} {F : Hp} : ∀ {vs : List V} {ds : List PyData} {ns : List Int}, DpAll K F vs ds → intsO ds = some ns → vs = ns.map V.int
  | _, _, ns, .nil, h => by cases h; rfl
  | _, _, ns, .cons a r, h => by
    cases a with
    | int i =>
      simp only [intsO, Option.map_eq_some_iff] at h
      obtain ⟨ms, hm, rfl⟩ := h
      rw [intsO_dps r hm]
      rfl
    | _ => cases h
def sumK (ds : List PyData) : Option PyData := match ds with
  | [.list xs] => (intsO xs).map fun ns => .int ns.sum
  | _ => none
theorem cd_sum {X : Cx} (hc : X.calm = true) : CallD X (.builtin "sum") sumK :=
  ⟨_, cr_sum hc, fun C F σ H env vs ds d Q R hv hk q => by
    cases hv with
    | nil => cases hk
    | cons h1 hr =>
      cases hr with
      | cons _ _ => cases h1 <;> cases hk
      | nil =>
        cases h1 with
        | lst s r =>
          simp only [sumK, Option.map_eq_some_iff] at hk
          obtain ⟨ns, hn, rfl⟩ := hk
          exact ⟨_, ns, rfl, by rw [← intsO_dps r hn]; exact ex_l R.fh s, q _ _ _ R (Ex.refl _) (.int _)⟩
        | _ => cases hk⟩
section
variable {X : Cx} {W : WX} {a e : Expr} {es : List Expr} {lo hi : Option Expr} {ga gd : M PyData} {gl gh : M (Option Int)} {gs : M (List PyData)} {pos p1 p2 p3 apos kpos : Pos} {x : Str}
theorem sv_sum (hc : X.calm = true) (hg : Gl X "sum") (hm : X.mg "sum" = none) (ha : SA X W (e :: es) gs) (he : starEach (e :: es) X.env = (false, eval e X.env) :: starEach es X.env := by rfl) (hpl : (backTo pos (starEach es X.env)).any (·.1) = false := by rfl) :
    SV X W (.Call (.Name "sum" p2) (e :: es) [] pos) (gBlt sumK gs) := sv_callB (cd_sum hc) hg hm (by decide +kernel) ha (by decide) (by decide) he hpl
def maxDefO (d e : PyData) : Option PyData := match d, e with
  | .list xs, .int k => (intsO xs).map fun ns => .int (maxOr k ns)
  | _, _ => none
theorem sv_maxDef (hc : X.calm = true) (hu : X.A.units + 64 < cLine) (hg : Gl X "max") (hm : X.mg "max" = none) (ha : SV X W e ga) (hd : SV X W a gd)
    (h2 : starEach [e] X.env = (false, eval e X.env) :: starEach [] X.env := by rfl)
    (he : backTo pos (starEach [e] X.env) = (false, eval e X.env) :: backTo pos (starEach [] X.env) := by rfl) (hpl : (backTo pos (starEach [e] X.env)).any (·.1) = false := by rfl)
    (hall : (backToKw pos (keywordEach [⟨some "default", a, kpos⟩] X.env)).all (·.1.isSome) = true := by rfl) (hnone : (backToKw pos (keywordEach [⟨some "default", a, kpos⟩] X.env)).any (·.1.isNone) = false := by rfl) (hks : (backToKw pos (keywordEach [⟨some "default", a, kpos⟩] X.env)).filterMap (·.1) = [Str.ofString "default"] := by rfl) :
    SV X W (.Call (.Name "max" p2) [e] [⟨some "default", a, kpos⟩] pos) (M.bd ga fun d => M.bd gd fun e => M.opt (maxDefO d e)) :=
  pe_imp (pe_callBK (cr_maxDef hc hu) hg hm (by decide +kernel) (pa_cons ha pa_nil h2) (pk_cons hd pk_nil) (by decide) (by decide) he hpl hall hnone hks) fun σ H Q ⟨C, F, env, R, h⟩ => tG_bd R h fun d env1 v F1 H1 R1 e1 o1 h1 => by
    refine tG_bd R1 h1 fun k env2 w F2 H2 R2 e2 o2 h2 => ?_
    obtain ⟨r, hr, h3⟩ := After.of_opt h2
    cases o1 with
    | lst s r1 =>
      cases o2 with
      | int k =>
        simp only [maxDefO, Option.map_eq_some_iff] at hr
        obtain ⟨ns, hn, rfl⟩ := hr
        exact ⟨_, ns, k, rfl, rfl, by rw [← intsO_dps r1 hn]; exact ex_l (e2.trans R2.fh) s, aft (ok := okV X.K) h3 R2 (.int _)⟩
      | _ => cases hr
    | _ => cases hr
def okP : OkR (Option Int) (Option Int) := fun _ _ _ _ _ a b => b = a
abbrev SPt (X : Cx) (W : WX) (e : Option Expr) (g : M (Option Int)) : Prop := PO X e (tG X.K X.mg okP W g)
def gPt (ga : M PyData) : M (Option Int) := M.bd ga fun d => match d with
  | .int i => M.ok (some i)
  | _ => M.no
def gNoPt : M (Option Int) := M.ok none
theorem spt_no : SPt X W none gNoPt := po_imp po_none fun σ H Q ⟨C, F, env, R, h⟩ => h none F H R (Ex.refl _) rfl
theorem spt_is (h : SV X W e ga) : SPt X W (some e) (gPt ga) := po_imp (po_some h) fun σ H Q ⟨C, F, env, R, h⟩ => tG_bd R h fun d env1 v F1 H1 R1 e1 o1 h1 => by
  cases o1 with
  | int i => exact ⟨i, rfl, h1 (some i) F1 H1 R1 (Ex.refl _) rfl⟩
  | _ => exact h1.elim
def slT (d : PyData) (lo hi : Option Int) : Option PyData := match d with
  | .tuple ds => some (.tuple (cutD ds lo hi))
  | _ => none
abbrev gSlT (ga : M PyData) (gl gh : M (Option Int)) : M PyData := M.bd ga fun d => M.bd gl fun lo => M.bd gh fun hi => M.opt (slT d lo hi)
theorem cutD_whole {ds : List PyData} {lo hi : Option Int} (h : HT.sIx ds.length 0 lo = 0 ∧ HT.sIx ds.length ds.length hi = ds.length) : cutD ds lo hi = ds := by
  unfold cutD
  rw [h.1, h.2, List.drop_zero, Nat.sub_zero, List.take_length]
theorem sv_slT (ha : SV X W a ga) (hl : SPt X W lo gl) (hh : SPt X W hi gh) : SV X W (.Subscript a (.Slice lo hi none p2) pos) (gSlT ga gl gh) :=
  pe_imp (pe_slice sl_cutF ha hl hh) fun σ H Q ⟨C, F, env, R, h⟩ => tG_bd R h fun d env1 v F1 H1 R1 e1 o1 h1 => by
    refine tG_bd R1 h1 fun lo env2 lo' F2 H2 R2 e2 o2 h2 => ?_
    cases o2
    refine tG_bd R2 h2 fun hi env3 hi' F3 H3 R3 e3 o3 h3 => ?_
    cases o3
    obtain ⟨r, hr, h4⟩ := After.of_opt h3
    cases o1 with
    | @tup p vs ds s r1 =>
      cases hr
      have s3 := ex_t (e2.trans e3) s
      have r3 := dps_mono (e2.trans e3) r1
      refine ⟨_, vs, rfl, ex_t R3.fh s3, fun hw => ?_, fun hw p ob hob hp => ?_⟩
      · rw [r1.len] at hw
        rw [cutD_whole hw] at h4
        exact aft (ok := okV X.K) h4 R3 (.tup s3 r3)
      · have hf := (R3.fresh hp).1
        have exn : Ex F3 (upd F3 p (.frz ob (.tup (cutV vs lo hi)))) := Ex.new hf
        exact aft' (ok := okV X.K) h4 (R3.newF hp hob) exn (.tup (.inl (.inr ⟨ob, upd_same⟩)) (cut_dps lo hi (dps_mono exn r3)))
    | _ => cases hr
def gExt (i : Nat) (go : M (List PyData)) : S := gE (gHeld i) fun _ => gE go fun es => gE (gHeld i) fun ds env => if ds.length + es.length ≤ 16777216 then gE (gPut i (ds ++ es)) (fun _ => gNx) env else none
theorem ss_ext (i : Nat) (hb : SO X W e gs) (hN : X.N[i]? = some x := by rfl) (hvis : Vis X.env.scope x := by first | exact Or.inl rfl | exact Or.inr (Or.inl rfl) | exact Or.inr (Or.inr rfl))
    (hd : (x == ("__debug__" : Str)) = false := by decide) (hcd : (x == ("__classdict__" : Str)) = false := by decide)
    (hbase : attributeBase (.Name x p1) "extend" X.env (eval (.Name x p1) X.env) = eval (.Name x p1) X.env := by rfl)
    (hfew : ((backTo p2 (starEach [e] X.env)).all (fun x => !x.1) && (backToKw p2 (keywordEach [] X.env)).all (fun x => x.1.isSome)
      && decide ([e].length + ([] : List Keyword).length + (if ([] : List Keyword).isEmpty then 0 else 1) < 30)) = true := by rfl)
    (hline : (apos.endLine == p2.line) = true := by rfl) (hs : starEach [e] X.env = (false, eval e X.env) :: starEach [] X.env := by rfl) (hplain : (backTo p2 (starEach [] X.env)).any (·.1) = false := by rfl)
    (hsw : swapsWith (.Call (.Attribute (.Name x p1) "extend" apos) [e] [] p2) none pos.line X.env = pure false := by rfl) :
    SS X W (.Expr (.Call (.Attribute (.Name x p1) "extend" apos) [e] [] p2) pos) (gExt i gs) :=
  ps_imp (ps_expr (pe_bm PySem.F.plainAttrs_list PySem.F.slot_list_extend PySem.F.type_list_extend mt_extend (pe_var hN hvis hd hcd) (pa_cons hb pa_nil hs) hbase hfew hline hs hplain) hsw) fun D σ H ⟨C, F, env, R, h⟩ => by
    obtain ⟨_, p, vs0, _, _, _, a1, a2, _, h2⟩ := tE_held R h
    refine ⟨.ref p, a1, .inl ⟨rfl, _, SqL.of a2⟩, tE_bd R h2 fun es env2 w F2 H2 R2 ex2 o2 h3 => ?_⟩
    obtain ⟨q0, zs, ew, f1, f2, f3, f4, f5⟩ := o2
    obtain ⟨ds, p', vs, s, q, qo, b1, b2, b3, h4⟩ := tE_held R2 h3
    rw [a1] at b1
    cases b1
    subst ew
    split at h4
    · rename_i hl
      refine ⟨p, q0, vs, zs, rfl, rfl, b2, f3, by rw [b3.len, f4.len, sizeLine_eq]; exact hl, ?_⟩
      exact put_nx q h4 _ F2 _ (R2.write q qo.1 a1 (b3.app f4) qo.2) (Ex.refl _)
    · exact h4.elim
end
end Pf
namespace Pf
open PySem PySem.Spec L2 Evl
abbrev gLl (ga : M PyData) : M (List PyData) := M.bd ga fun d => M.opt (lstO d)
abbrev gR2 (ga gb : M PyData) : M (List PyData) := M.bd ga fun d => M.bd gb fun e => M.opt (rng2O d e)
abbrev gRv (ga : M PyData) : M (List PyData) := M.bd ga fun d => M.opt (revD d)
abbrev gZp (ga gb : M PyData) : M (List PyData) := M.bd ga fun d => M.bd gb fun e => M.opt (zipO d e)
abbrev gMxD (ga gd : M PyData) : M PyData := M.bd ga fun d => M.bd gd fun e => M.opt (maxDefO d e)
end Pf
/-! part PfQ4 -/
set_option Elab.async false
set_option linter.all false
set_option maxRecDepth 100000
set_option maxHeartbeats 2000000
namespace Pf
open PySem PySem.Spec L2 Evl
section
variable {K : PySem.W.Frag} {C : Cn} {F F1 F2 : Hp} {σ : L2.St} {H H1 H2 : Hp} {env env1 env2 : En} {p : Addr} {vs : List V} {ds : List PyData} {v w : V} {d : PyData} {i j : Nat}
theorem okO_store (o : okO K C F σ H env ds w) : okO K C F (σ.set i (some v)) H (env.set i (.val d)) ds w := by
  obtain ⟨p, vs, rfl, a1, a2, a3, a4, a5⟩ := o
  refine ⟨p, vs, rfl, a1, a2, a3, a4, fun k ⟨s, e1, e2, e3⟩ => ?_⟩
  rcases set_at e1 with ⟨rfl, rfl, _⟩ | ⟨ne, e1⟩
  · cases e2
  · rw [List.getElem?_set_ne (fun h => ne h.symm)] at e3
    exact a5 k ⟨s, e1, e2, e3⟩
end
section
variable {X : Cx} {W : WX} {a b c : Expr} {x y z : Str} {ga gb : M PyData} {gl : M (List PyData)} {pos : Pos} {i j l : Nat} {px py pz pt : Pos} {kt k2 : Nat} {pt2 : Pos}
def gParVO (i j : Nat) (ga : M PyData) (gl : M (List PyData)) : S := gE ga fun d => gE gl fun es env => some (.nx ((env.set i (.val d)).set j (.own es)))
theorem ss_parVO (hc : X.calm = true) (hN : X.N.Nodup) (hi : X.N[i]? = some x) (hj : X.N[j]? = some y) (hij : i ≠ j)
    (hx : X.env.scope.names.lookup x = some .local) (hy : X.env.scope.names.lookup y = some .local) (ha : SV X W a ga) (hb : SO X W b gl)
    (hw : swappedStores [.Tuple [.Name x px, .Name y py] kt pt] (.Tuple [a, b] k2 pt2) X.env = pure (some [x, y]))
    (hs : swapsWithSole [.Tuple [.Name x px, .Name y py] kt pt] (.Tuple [a, b] k2 pt2) pos.line X.env = pure false := by rfl)
    (h1 : starEach [a, b] X.env = (false, eval a X.env) :: starEach [b] X.env := by rfl) (h2 : starEach [b] X.env = (false, eval b X.env) :: starEach [] X.env := by rfl) :
    SS X W (.Assign [.Tuple [.Name x px, .Name y py] kt pt] (.Tuple [a, b] k2 pt2) pos) (gParVO i j ga gl) :=
  ps_imp (ps_par hc hN hi hj hij hx hy (pa_cons ha (pa_cons hb pa_nil h2) h1) hw hs) fun D σ H ⟨C, F, env, R, h⟩ => tE_bd R h fun d env1 v F1 H1 R1 e1 o1 h1 => by
    refine tE_bd R1 h1 fun es env2 w F2 H2 R2 e2 o2 h2 => ?_
    exact ⟨_, _, rfl, h2 _ F2 H2 ((R2.store i (dp_mono e2 o1)).storeO j (okO_store o2)) (Ex.refl _)⟩
end
end Pf
/-! part PfQ5 -/
set_option Elab.async false
set_option linter.all false
set_option maxRecDepth 100000
set_option maxHeartbeats 2000000
namespace Pf
open PySem PySem.Spec L2 Evl
end Pf
/-! part PfQ6 -/
set_option Elab.async false
set_option linter.all false
set_option maxRecDepth 100000
set_option maxHeartbeats 4000000
namespace Pf
open PySem PySem.Spec PyProof.Rows L2 Evl
def KT (K : PySem.W.Frag) : Prop := ∀ p o, K.lookup p = some o → o.cls = .type "tuple" → o.dict = none ∧ o.slots = #[]
def numT (d : PyData) : Option PyData := match d with
  | .tuple ds => if ds.all (fun d => !looseP d) = true then some d else none
  | _ => none
end Pf
/-! part PfQ7 -/
set_option Elab.async false
set_option linter.all false
set_option maxRecDepth 100000
set_option maxHeartbeats 4000000
namespace Pf
open PySem PySem.Spec PyProof.Rows L2 Evl
def inE (x ys : PyData) : Option Bool := match ys with
  | .list ds => if SeqAt.shaped x = true ∧ SeqAt.shaped (.list ds) = true then some (ds.any fun z => PyData.eqv z x) else none
  | _ => none
theorem cm_inE {X : Cx} (hu : X.A.units + 65 < cLine) : CmpR X .In inE :=
  ⟨_, op_inD hu, fun C F σ H env v w d e b Q R hv hw h q => by
    unfold inE at h
    split at h
    · split at h
      · rename_i hc
        cases h
        exact ⟨d, _, dp_mono R.fh hv, dp_mono R.fh hw, hc.1, hc.2, q⟩
      · cases h
    · cases h⟩
def rExtT (K : PySem.W.Frag) : V → List V → Hp → VK → Prop := fun x vs G Q => ∃ l b ob xs zs, x = .ref l ∧ vs = [.ref b] ∧ G l = some (.lst xs) ∧ (G b = some (.frz ob (.tup zs)) ∨ (K.lookup b = some ob ∧ SqT K G b zs)) ∧ ob.dict = none ∧ ob.slots = #[] ∧ xs.length + zs.length ≤ sizeLine ∧ Q .non (upd G l (.lst (xs ++ zs)))
theorem mt_extT {X : Cx} : MtM X "list.extend" (rExtT X.K) := by
  intro pins st σ G x vs v us Q I rx rv h
  obtain ⟨l, b, ob, xs, zs, e1, e2, hH, hB, hd1, hd2, hz, q⟩ := h
  subst e1 e2
  cases rx
  obtain ⟨u, rfl, ru⟩ := rv.one
  cases ru
  obtain ⟨z, its, n, r, hl, e⟩ := I.lstM hH
  have hB : st.heap.get? b = some ob ∧ ∃ its2 : List Value, Vals zs its2 ∧ IsTup st.heap b its2.toArray := by
    rcases hB with hB | ⟨hB, hs⟩
    · obtain ⟨eb, _, its2, r2, t⟩ := (show ObjOk X.prog X.w G st.heap b (.frz ob (.tup zs)) from I.hok b _ hB)
      exact ⟨eb, its2, r2, t⟩
    · obtain ⟨its2, r2, t, _⟩ := I.tuple hs
      exact ⟨I.kIn b ob hB, its2, r2, t⟩
  obtain ⟨eb, its2, r2, o2, eo, hc, n2, hdt⟩ := hB
  rw [eb] at eo
  cases eo
  obtain ⟨cls, dd, data, sl⟩ := ob
  simp only at hc hdt hd1 hd2
  subst hc hdt hd1 hd2
  have hl2 := r2.length
  have hsz : its.toArray.size + its2.toArray.size ≤ sizeLine := by rw [List.size_toArray, List.size_toArray]; omega
  have hlong : ¬ (!its.toArray.isEmpty && Builtin.List.listTooLong (its.toArray.size + its2.toArray.size)) = true := by
    rw [notLongL hsz, Bool.and_false]
    decide
  refine call_meets PySem.F.slot_list_extend ⟨_, e, rfl⟩ PySem.F.entry_list_extend (PySem.F.args_list_extend_2 _ _) (AutoSeq1.list_extend_list_tuple_0 l its.toArray n b its2.toArray n2 hlong (by rw [List.size_toArray]; omega) (by omega)) ⟨e, eb, ?_⟩
  refine ⟨.non, _, I.lset (its' := its ++ its2) hH e (by simp) (r.append r2) (by rw [List.length_append]; omega), rfl, q⟩
def gExtT (i : Nat) (ga : M PyData) : S := gE (gHeld i) fun _ => gE ga fun d => gE (gHeld i) fun ds env => match numT d with
  | some (.tuple es) => if ds.length + es.length ≤ 16777216 then gE (gPut i (ds ++ es)) (fun _ => gNx) env else none
  | _ => none
section
variable {X : Cx} {W : WX} {e : Expr} {ga : M PyData} {x : Str} {p1 p2 pos apos : Pos}
theorem tup_at {K : PySem.W.Frag} {C : Cn} {F G : Hp} {σ : L2.St} {env : En} {p : Addr} {ws : List V} {ds : List PyData} (kt : KT K) (R : Rel K C F σ G env) (s : SqT K F p ws) (r : DpAll K F ws ds) (hn : ds.all (fun d => !looseP d) = true) :
    ∃ ob, (G p = some (.frz ob (.tup ws)) ∨ (K.lookup p = some ob ∧ SqT K G p ws)) ∧ ob.dict = none ∧ ob.slots = #[] := by
  have s0 := ex_t R.fh s
  rcases s with (h | ⟨ob, h⟩) | ⟨ob, its, n, h, hc, _⟩
  · have z : ws.any looseV = true := R.nt p _ h
    obtain ⟨w, hw, hl⟩ := List.any_eq_true.mp z
    obtain ⟨i, hi, e⟩ := List.mem_iff_getElem.mp hw
    have hi' : i < ds.length := by rw [← r.len]; exact hi
    obtain ⟨w', hw', dw⟩ := r.get (List.getElem?_eq_getElem hi')
    rw [List.getElem?_eq_getElem hi] at hw'
    cases hw'
    have hd := List.all_eq_true.mp hn _ (List.getElem_mem hi')
    rw [e] at dw
    generalize ds[i] = d at dw hd
    cases dw <;> first | (simp [looseP] at hd; done) | (simp [looseV] at hl; done)
  · exact ⟨ob, .inl (R.fh p _ h), (R.nt p _ h).1, (R.nt p _ h).2⟩
  · exact ⟨ob, .inr ⟨h, s0⟩, (kt p ob h hc).1, (kt p ob h hc).2⟩
theorem ss_extT (kt : KT X.K) (i : Nat) (hb : SV X W e ga) (hN : X.N[i]? = some x := by rfl) (hvis : Vis X.env.scope x := by first | exact Or.inl rfl | exact Or.inr (Or.inl rfl) | exact Or.inr (Or.inr rfl))
    (hd : (x == ("__debug__" : Str)) = false := by decide) (hcd : (x == ("__classdict__" : Str)) = false := by decide)
    (hbase : attributeBase (.Name x p1) "extend" X.env (eval (.Name x p1) X.env) = eval (.Name x p1) X.env := by rfl)
    (hfew : ((backTo p2 (starEach [e] X.env)).all (fun x => !x.1) && (backToKw p2 (keywordEach [] X.env)).all (fun x => x.1.isSome)
      && decide ([e].length + ([] : List Keyword).length + (if ([] : List Keyword).isEmpty then 0 else 1) < 30)) = true := by rfl)
    (hline : (apos.endLine == p2.line) = true := by rfl) (hs : starEach [e] X.env = (false, eval e X.env) :: starEach [] X.env := by rfl) (hplain : (backTo p2 (starEach [] X.env)).any (·.1) = false := by rfl)
    (hsw : swapsWith (.Call (.Attribute (.Name x p1) "extend" apos) [e] [] p2) none pos.line X.env = pure false := by rfl) :
    SS X W (.Expr (.Call (.Attribute (.Name x p1) "extend" apos) [e] [] p2) pos) (gExtT i ga) :=
  ps_imp (ps_expr (pe_bm PySem.F.plainAttrs_list PySem.F.slot_list_extend PySem.F.type_list_extend mt_extT (pe_var hN hvis hd hcd) (pa_cons hb pa_nil hs) hbase hfew hline hs hplain) hsw) fun D σ H ⟨C, F, env, R, h⟩ => by
    obtain ⟨_, p, vs0, _, _, _, a1, a2, _, h2⟩ := tE_held R h
    refine ⟨.ref p, a1, .inl ⟨rfl, _, SqL.of a2⟩, tE_bd R h2 fun d env2 w F2 H2 R2 ex2 o2 h3 => ?_⟩
    obtain ⟨ds, p', vs, s, q, qo, b1, b2, b3, h4⟩ := tE_held R2 h3
    rw [a1] at b1
    cases b1
    split at h4
    · rename_i es hnum
      unfold numT at hnum
      split at hnum
      · split at hnum
        · rename_i hn
          cases hnum
          cases o2 with
          | @tup q0 ws _ s2 r2 =>
            split at h4
            · rename_i hl
              obtain ⟨ob, hk, k1, k2⟩ := tup_at kt R2 s2 r2 hn
              refine ⟨p, q0, ob, vs, ws, rfl, rfl, b2, hk, k1, k2, by rw [b3.len, r2.len, sizeLine_eq]; exact hl, ?_⟩
              exact put_nx q h4 _ F2 _ (R2.write q qo.1 a1 (b3.app r2) qo.2) (Ex.refl _)
            · exact h4.elim
        · cases hnum
      · cases hnum
    · exact h4.elim
end
end Pf
/-! part PfX3 -/
set_option Elab.async false
set_option linter.all false
set_option maxRecDepth 100000
set_option maxHeartbeats 4000000
namespace Pf
open PySem PySem.Spec PyProof.Rows L2 Evl
structure XNo (K : PySem.W.Frag) (mg : Str → Option Value) (x : Str) (C : Addr) : Prop where
  g : mg x = some (.ref C)
  ex : PySem.W.excIn K C [.type "ValueError", .type "Exception", .type "BaseException", .type "object"] "ValueError.__new__" = true
  kC : PySem.W.keepIn K (.ref C) = true
  sub : PySem.W.subIn K (.ref C) (.type "BaseException") = some true
  ty : PySem.W.typeIn K (.ref C) = some (.type "type")
section
variable {X : Cx} {W : WX} {x : Str} {C : Addr} {p pos pos2 : Pos}
theorem pmk_no (N : XNo X.K X.mg x C) (hg : Gl X x) (hdb : (x == ("__debug__" : Str)) = false) : PMk X (.Call (.Name x p) [] [] pos) (fun _ G Q => Q (.ref C) none G) := by
  intro pins st σ G Q I h
  refine wpAny_Call_Name_kw (ld_glob I hg N.g ?_ hdb)
  refine PySem.W.callWith_K0 I.kIn N.kC ?_
  obtain ⟨bm, Na, nm, qn, bs, hdct, sn, sub, ab, col, dd, k0, k1, k2, k3, k5, mN, hC, hN, hni, T⟩ := exc_obj I.kIn N.ex
  obtain ⟨hp1, g1, d1, tk1, os1⟩ := st
  exact wpAny_call_exc_subT PySem.F.excBase_ValueError T hC hN hni (fun h' e hm => mk_of I hm (raises_own N.sub N.ty) h (I.hok.gone hm.new)) (Nat.zero_le _)
def gRaise0 (cls : Str) : S := fun env => some (.er ⟨cls, none⟩ env)
theorem ss_raise0 (hc : X.calm = true) (tk : Takes X W) (N : XNo X.K X.mg x C) (hg : Gl X x := by rfl) (hdb : (x == ("__debug__" : Str)) = false := by decide) :
    SS X W (.Raise (some (.Call (.Name x p) [] [] pos)) none pos2) (gRaise0 x) :=
  ps_imp (ps_raise hc tk (pmk_no N hg hdb)) fun D σ G ⟨Cn, F, env, R, h⟩ => h σ F G (.ref C) none R (Ex.refl _) ⟨N.g, rfl⟩
end
end Pf
/-! part PfQ8 -/
set_option Elab.async false
set_option linter.all false
set_option maxRecDepth 100000
set_option maxHeartbeats 4000000
namespace Pf
open PySem PySem.Spec L2 Evl
def pkS : Option Sl → Option PyData
  | some (.val d) => some d
  | some (.own ds) => some (.list ds)
  | _ => none
def gCallPk (m : List PyData → Rf PyData) (i j : Nat) : M PyData := fun env => match pkS env[i]?, pkS env[j]? with
  | some d, some e => (match m [d, e] with
    | some (.ok r) => if flatD r = true then some (.ok (r, env)) else none
    | _ => none)
  | _, _ => none
section
variable {K : PySem.W.Frag} {C : Cn} {F F2 F' H H' : Hp} {σ : L2.St} {env : En}
theorem Rel.asWas (R : Rel K C F σ H env) (x : Exit F2 H [] F' H') : Rel K C F σ H' env :=
  R.grow (Ex.refl _) (fun a o q => x.pres a o (R.fh a o q) (by simp)) (fun a o q => x.pres a o q (by simp)) (fun a h1 h2 => absurd h1 h2) R.nt
theorem pk_at {i : Nat} {d : PyData} (R : Rel K C F σ H env) (h : pkS env[i]? = some d) (e : Ex F F2) (e2 : Ex F2 H) (n : NT F2) : ∃ v F3, σ[i]? = some (some v) ∧ Ex F2 F3 ∧ Ex F3 H ∧ NT F3 ∧ Dp K F3 v d := by
  unfold pkS at h
  split at h
  · rename_i d' q
    cases h
    obtain ⟨v, h1, h2⟩ := R.sl i _ q
    exact ⟨v, F2, h1, Ex.refl _, e2, n, dp_mono e h2⟩
  · rename_i ds q
    cases h
    obtain ⟨p, vs, h1, h2, h3, h4, h5⟩ := R.sl i _ q
    have ex : Ex F2 (upd F2 p (.lst vs)) := fun a o z => by
      by_cases ha : a = p
      · subst ha
        have := e2 _ _ z
        rw [h4] at this
        cases this
        exact upd_same
      · rw [upd_ne ha]; exact z
    refine ⟨.ref p, upd F2 p (.lst vs), h1, ex, fun a o z => ?_, n.upd (by trivial), .lst (SqL.of upd_same) (dps_mono (e.trans ex) h5)⟩
    by_cases ha : a = p
    · subst ha; rw [upd_same] at z; cases z; exact h4
    · rw [upd_ne ha] at z; exact e2 a o z
  · cases h
end
theorem dp_flat_any {K : PySem.W.Frag} {F G : Hp} {v : V} {d : PyData} (h : Dp K F v d) (f : flatD d = true) : Dp K G v d := by
  cases h with
  | non => exact .non
  | bl b => exact .bl b
  | int i => exact .int i
  | str x => exact .str x
  | _ => cases f
section
variable {X : Cx} {W : WX} {k : Nat} {f : Addr} {fd : FuncData} {ps : List Str} {x a b : Str} {p pa pb pos : Pos}
theorem sv_callPk {m : List PyData → Rf PyData} (i j : Nat) (Fk : FnOk X.prog X.w X.K X.mg X.base (L2.CX X.prog X.w) k f fd ps (SpD X.K X.mg 2 m)) (hr : Room k X.A) (hm : X.mg x = some (.ref f)) (hk : PySem.W.keepIn X.K (.ref f) = true) (hb : Binds X.K fd ps []) (tk : Takes X W)
    (hNi : X.N[i]? = some a := by rfl) (hNj : X.N[j]? = some b := by rfl) (hvi : Vis X.env.scope a := by first | exact Or.inl rfl | exact Or.inr (Or.inl rfl) | exact Or.inr (Or.inr rfl)) (hvj : Vis X.env.scope b := by first | exact Or.inl rfl | exact Or.inr (Or.inl rfl) | exact Or.inr (Or.inr rfl))
    (hda : (a == ("__debug__" : Str)) = false := by decide) (hca : (a == ("__classdict__" : Str)) = false := by decide) (hdb' : (b == ("__debug__" : Str)) = false := by decide) (hcb : (b == ("__classdict__" : Str)) = false := by decide)
    (hg : Gl X x := by rfl) (hdb : (x == ("__debug__" : Str)) = false := by decide) (hs2 : starEach [.Name b pb] X.env = (false, eval (.Name b pb) X.env) :: starEach [] X.env := by rfl) (he : starEach [.Name a pa, .Name b pb] X.env = (false, eval (.Name a pa) X.env) :: starEach [.Name b pb] X.env := by rfl) (hpl : (backTo pos (starEach [.Name b pb] X.env)).any (·.1) = false := by rfl) :
    SV X W (.Call (.Name x p) [.Name a pa, .Name b pb] [] pos) (gCallPk m i j) :=
  pe_imp (pe_callS Fk hr hg hm hk hb (fun σ => passAt tk σ) (pa_cons (pe_var hNi hvi hda hca) (pa_cons (pe_var hNj hvj hdb' hcb) pa_nil hs2) he) hdb he hpl) fun σ H Q ⟨C, F, env, R, h⟩ => by
    unfold gCallPk at h
    split at h
    · rename_i d e q1 q2
      obtain ⟨v, F1, a1, a2, a3, a4, a5⟩ := pk_at R q1 (Ex.refl _) R.fh R.nt
      obtain ⟨w, F2, b1, b2, b3, b4, b5⟩ := pk_at R q2 a2 a3 a4
      refine ⟨v, a1, w, b1, F2, [d, e], ⟨b3, b4⟩, .cons (dp_mono b2 a5) (.cons b5 .nil), rfl, ?_⟩
      split at h
      · rename_i r hr
        rw [hr]
        split at h
        · rename_i hf
          exact fun u F' H' x dv => h u F H' (R.asWas x) (Ex.refl _) (dp_flat_any dv hf)
        · exact h.elim
      · exact h.elim
    · exact h.elim
end
end Pf
/-! part PfL0 -/
set_option Elab.async false
set_option linter.all false
set_option maxRecDepth 100000
set_option maxHeartbeats 4000000
namespace Pf
open PySem PySem.Spec L2 Evl LamX
def gIs0 (a : Addr) (i : Nat) (b : Bool) : M PyData := fun env => match env[i]? with
  | some (.raw (.ref a')) => if a' = a then some (.ok (.bool b, env)) else none
  | _ => none
theorem raw_at {K : PySem.W.Frag} {C : Cn} {F : Hp} {σ : L2.St} {H : Hp} {env : En} {i : Nat} {v : V} (R : Rel K C F σ H env) (h : env[i]? = some (.raw v)) : σ[i]? = some (some v) := R.sl i _ h
section
variable {X : Cx} {W : WX} {a D CS : Addr} {oe : Obj} {pn : List (Addr × Obj)} {x c : Str} {p p1 p2 pos : Pos} {b : Bool} {T : String}
theorem sv_is0 (i : Nat) (C : ExcC X.K D) (hz : Zc (.ref D) none oe) (hf : ∃ vs, oe.data = .fields vs) (hgI : Gl X "isinstance") (hmI : X.mg "isinstance" = none) (hg : Gl X c) (hm : X.mg c = some (.ref CS)) (hk : PySem.W.kitOne X.K (.ref D) (.ref CS) = some b)
    (hN : X.N[i]? = some x := by rfl) (hv : Vis X.env.scope x := by first | exact Or.inl rfl | exact Or.inr (Or.inl rfl) | exact Or.inr (Or.inr rfl)) (hd : (x == ("__debug__" : Str)) = false := by decide) (hcd : (x == ("__classdict__" : Str)) = false := by decide) (hdc : (c == ("__debug__" : Str)) = false := by decide)
    (h1 : starEach [.Name c p2] X.env = (false, eval (.Name c p2) X.env) :: starEach [] X.env := by rfl) (h2 : starEach [.Name x p1, .Name c p2] X.env = (false, eval (.Name x p1) X.env) :: starEach [.Name c p2] X.env := by rfl) (hpl : (backTo pos (starEach [.Name c p2] X.env)).any (·.1) = false := by rfl) :
    SV (X.suite a ((a, oe) :: pn)) W (.Call (.Name "isinstance" p) [.Name x p1, .Name c p2] [] pos) (gIs0 a i b) :=
  pe_imp (pe_callB (X := X.suite a ((a, oe) :: pn)) (call_isE C hz hf) hgI hmI PyProof.Rows.boot_isinstance (pa_cons (pe_var hN hv hd hcd) (pa_cons (pe_glob (v := .ref CS) hg hm rfl hdc) pa_nil h1) h2) (by decide) (by decide) h2 hpl) fun σ H Q ⟨C, F, env, R, h⟩ => by
    unfold gIs0 at h
    split at h
    · rename_i a' q
      split at h
      · rename_i e
        subst e
        exact ⟨.ref a', raw_at R q, .ref CS, .ref CS, b, rfl, fun u hu => hu, hk, aft (ok := okV X.K) h R (.bl b)⟩
      · exact h.elim
    · exact h.elim
theorem sv_isT0 (i : Nat) (C : ExcC X.K D) (hz : Zc (.ref D) none oe) (hf : ∃ vs, oe.data = .fields vs) (hgI : Gl X "isinstance") (hmI : X.mg "isinstance" = none) (hg : Gl X c) (hm : X.mg c = none) (hb : bootBuiltins c = some (.type T)) (hn : c ≠ "__name__") (hk : PySem.W.kitOne X.K (.ref D) (.type T) = some b)
    (hN : X.N[i]? = some x := by rfl) (hv : Vis X.env.scope x := by first | exact Or.inl rfl | exact Or.inr (Or.inl rfl) | exact Or.inr (Or.inr rfl)) (hd : (x == ("__debug__" : Str)) = false := by decide) (hcd : (x == ("__classdict__" : Str)) = false := by decide) (hdc : (c == ("__debug__" : Str)) = false := by decide)
    (h1 : starEach [.Name c p2] X.env = (false, eval (.Name c p2) X.env) :: starEach [] X.env := by rfl) (h2 : starEach [.Name x p1, .Name c p2] X.env = (false, eval (.Name x p1) X.env) :: starEach [.Name c p2] X.env := by rfl) (hpl : (backTo pos (starEach [.Name c p2] X.env)).any (·.1) = false := by rfl) :
    SV (X.suite a ((a, oe) :: pn)) W (.Call (.Name "isinstance" p) [.Name x p1, .Name c p2] [] pos) (gIs0 a i b) :=
  pe_imp (pe_callB (X := X.suite a ((a, oe) :: pn)) (call_isE C hz hf) hgI hmI PyProof.Rows.boot_isinstance (pa_cons (pe_var hN hv hd hcd) (pa_cons (pe_bltn (v := .ty T) hg hm hb rfl hn hdc) pa_nil h1) h2) (by decide) (by decide) h2 hpl) fun σ H Q ⟨C, F, env, R, h⟩ => by
    unfold gIs0 at h
    split at h
    · rename_i a' q
      split at h
      · rename_i e
        subst e
        exact ⟨.ref a', raw_at R q, .ty T, .type T, b, rfl, fun u hu => hu, hk, aft (ok := okV X.K) h R (.bl b)⟩
      · exact h.elim
    · exact h.elim
theorem sv_never {e : Expr} : SV X W e M.no := ⟨fun pins s σ H Q I ⟨C, F, env, R, h⟩ => h.elim⟩
end
def envX0 (n i : Nat) (a : Addr) : En := (List.replicate n .no).set i (.raw (.ref a))
theorem rel_exc0 {K : PySem.W.Frag} {F H : Hp} {σ : L2.St} {n i : Nat} {a : Addr} (hF : Ex F H ∧ NT F) (hl : σ.length = n) (hi : i < n) : Rel K ⟨F, H, [], []⟩ F (σ.set i (some (.ref a))) H (envX0 n i a) where
  fh := hF.1
  nt := hF.2
  cf := Ex.refl _
  new := fun a h1 h2 => absurd h1 h2
  pres := fun a o q _ => q
  bd := fun b hb => by cases hb
  sl := fun j s hs => by
    rcases set_at hs with ⟨rfl, rfl, _⟩ | ⟨ne, hs⟩
    · exact List.getElem?_set_self (by omega)
    · rw [List.getElem?_replicate] at hs
      split at hs
      · cases hs; trivial
      · cases hs
  dis := fun j k p ⟨s, e, b, _⟩ _ => by
    rcases set_at e with ⟨rfl, rfl, _⟩ | ⟨ne, e⟩
    · cases b
    · rw [List.getElem?_replicate] at e
      split at e
      · cases e; cases b
      · cases e
  len := by unfold envX0; rw [List.length_set, List.length_set, List.length_replicate, hl]
  tb := fun q hq => nomatch hq
theorem kind_gives0 {X : Cx} {Ng : List Str} {x a en n q : Str} {sg : Scope} {g CS : Addr} {cdg : Value} {i : Nat} {b₀ : Stmt} {suite : List Stmt} {p1 p2 p3 p4 p6 p8 : Pos} (kind : Xc → Option PyData) (hN : Ng.Nodup) (hi : Ng[i]? = some n) (hln : sg.names.lookup n = some .local)
    (hge : sg.names.lookup en = some .globalImplicit) (hme : X.mg en = some (.ref CS)) (hde : (en == ("__debug__" : Str)) = false) (h0 : ∀ f : Addr, (L2.start Ng [V.ref f])[0]? = some (some (V.ref f)))
    (hsu : ∀ (s : Shared) (H : Hp) (xc : Xc) (dres : PyData) (cls : Value), kind xc = some dres → X.mg xc.cls = some cls → PySem.W.exmOne X.K cls (.ref CS) = some true ∧
      ∀ (a : Addr) (oe : Obj) (pn : List (Addr × Obj)), Zc cls none oe → (∃ vs, oe.data = .fields vs) → ∃ G : S, SSs ((cxOf C8.CX0 X.prog X.w X.K X.mg X.base Ng x sg g cdg X.A X.stack s H C8.E0).nox.suite a ((a, oe) :: pn)) W0 (b₀ :: suite) G ∧ ∃ env', G (envX0 Ng.length i a) = some (.rt dres env'))
    (hxc : ∀ xc dres, kind xc = some dres → xc.fs = none) :
    GivesTo X Ng x sg g cdg [.Try [.Return (some (.Call (.Name a p1) [] [] p2)) p3] [.ExceptHandler (some (.Name en p4)) (some n) (b₀ :: suite) p6] [] [] p8] a q (TTk X.K X.mg kind) := by
  intro f c' s H Q tl act hc h
  have hgl : Gl (cxOf C8.CX0 X.prog X.w X.K X.mg X.base Ng x sg g cdg X.A X.stack s H C8.E0).nox en := hge
  have hil : i < Ng.length := (List.getElem?_eq_some_iff.mp hi).1
  refine ⟨_, pss_one (ps_try_as (X := (cxOf C8.CX0 X.prog X.w X.K X.mg X.base Ng x sg g cdg X.A X.stack s H C8.E0).nox) (c := .ref CS) (i := i)
      (tb := fun W D σ H => ∃ Ech : XK, (∀ cls d σ' H', σ'.length = Ng.length → Ech cls d H' → W cls d σ' H') ∧ σ[0]? = some (some (.ref f)) ∧ H c' = some (CodeO c' q) ∧ tl Ech H D.rt)
      (ts := fun a cls d D σ H => ∃ xc dres F', d = none ∧ X.mg xc.cls = some cls ∧ kind xc = some dres ∧ Rel X.K ⟨F', H, [], []⟩ F' σ H (envX0 Ng.length i a) ∧ ∀ F2 H2 v, Exit F' H [] F2 H2 → Dp X.K F2 v dres → D.rt v H2)
      rfl rfl hN hi hln ⟨hgl, hde, .inl hme⟩ L2.takes0 (fun W pn xe tk _ => ?_) (fun a oe cls d pn hz hf => ?_)), ?_⟩
  · refine ⟨fun pins s' σ H' D I h' => ?_⟩
    obtain ⟨Ech, hW, h1, h2, h3⟩ := h'
    have hp := act _ pn xe Ech p1 p2 (takes_len tk) (fun cls d σ' H' e l => hW cls d σ' H' l e)
    exact (pss_one (ps_ret (pos := p3) hp)).run pins s' σ H' D I ⟨h1, h2, h3⟩
  · refine ⟨fun pins s' σ H' D I h' => ?_⟩
    obtain ⟨xc, dres, F', rfl, e2, e3, R, hq⟩ := h'
    obtain ⟨_, hs⟩ := hsu s H xc dres cls e3 e2
    obtain ⟨G, hG, env', eG⟩ := hs a oe pn hz hf
    exact hG.run pins s' σ H' D I ⟨_, F', _, R, by rw [eG]; exact fun v σ2 F2 H2 R2 ex dv => hq F2 H2 v R2.exit dv⟩
  · refine ⟨EK X.K X.mg kind Q, fun cls d σ' H' hl ⟨F', xc, dres, hF, ⟨c1, c2⟩, hk, hq⟩ => ?_, h0 f, hc, h⟩
    rw [hxc xc dres hk] at c2
    have c2 : d = none := c2
    subst c2
    obtain ⟨he, _⟩ := hsu s H xc dres cls hk c1
    exact ⟨true, he, fun _ a ha => ⟨xc, dres, F', rfl, c1, hk, rel_exc0 hF hl hil, hq⟩, fun z => by cases z⟩
end Pf
/-! part PfSC -/
set_option Elab.async false
set_option linter.all false
set_option maxRecDepth 100000
set_option maxHeartbeats 4000000
namespace Pf
open PySem PySem.Spec PyProof.Rows L2 Evl
theorem setO_code {w : World} {D c : Addr} {S : Int → Bool} {n : Nat} {q : Str} : SetO w D S n ≠ LamX.CodeO c q := fun e => by
  have e1 : (fun h => SetR w h D S n) = _ := HO.ext.inj e
  let ob : Obj := { cls := .none, data := .fields #[.none, .str q 0] }
  let h0 : Heap := { objs := (List.replicate (c + 1) ob).toArray }
  have at0 : ∀ a o, h0.get? a = some o → o = ob := fun a o ha => by
    have e : h0.objs[a]? = some ob ∨ h0.objs[a]? = none := by
      show (List.replicate (c + 1) ob).toArray[a]? = some ob ∨ _ = none
      rw [List.getElem?_toArray, List.getElem?_replicate]
      split
      · exact .inl rfl
      · exact .inr rfl
    unfold Heap.get? at ha
    rcases e with e | e
    · rw [e] at ha; exact (Option.some.inj ha).symm
    · rw [e] at ha; cases ha
  have hc : h0.get? c = some ob := by
    have e : h0.objs[c]? = some ob := by
      show (List.replicate (c + 1) ob).toArray[c]? = some ob
      rw [List.getElem?_toArray, List.getElem?_replicate, if_pos (Nat.lt_succ_self c)]
    unfold Heap.get?
    rw [e]
  have z : SetR w h0 D S n := by
    have z : SetR w h0 D S n = _ := congrFun e1 h0
    rw [z]
    exact ⟨ob, _, 0, hc, rfl, rfl⟩
  obtain ⟨o, es, ep, t, ho, _, hd, _⟩ := z
  rw [at0 _ _ ho] at hd
  cases hd
theorem tabs_set {T : List (Addr × Str)} {H G : Hp} {w : World} {p : Addr} {S : Int → Bool} {n : Nat} (t : LamX.Tabs T H) (h : H p = some (SetO w p S n)) (k : ∀ a o, a ≠ p → H a = some o → G a = some o) : LamX.Tabs T G := fun q hq => by
  obtain ⟨ps, t1, t2, t3⟩ := t q hq
  have n1 : ∀ a, H a = some (.tbl ps) → a ≠ p := fun a ha z => by subst z; rw [h] at ha; cases ha
  refine ⟨ps, k _ _ (n1 _ t1) t1, t2, fun i v hv => ?_⟩
  obtain ⟨c, c1, c2⟩ := t3 i v hv
  refine ⟨c, c1, k _ _ (fun z => ?_) c2⟩
  subst z
  rw [h] at c2
  exact setO_code (Option.some.inj c2)
section
variable {K : PySem.W.Frag} {mg : Str → Option Value} {w : World} {W : WX} {C : Cn} {F F0 F1 H H0 H1 : Hp} {σ σ0 : L2.St} {env env0 env1 : En} {vs : List Nat}
theorem Rel.reset (R0 : Rel K C F0 σ0 H0 env0) {p : Addr} {S S2 : Int → Bool} {n n2 : Nat} (h2 : C.H p = none) (h3 : C.F p = none) (R : Rel K (C.guard p (SetO w p S n)) F σ H env) : F p = none ∧ Rel K (C.guard p (SetO w p S2 n2)) F σ (upd H p (SetO w p S2 n2)) env := by
  have hf : F p = none := by
    cases q : F p with
    | none => rfl
    | some u => have z : upd C.H p (SetO w p S n) p = none := R.new p h3 (by rw [q]; simp); rw [upd_same] at z; cases z
  have U := Rel.unguard R0 h2 R
  have far : ∀ i q, Owned σ env i q → q ≠ p := fun i q ⟨s, e, b, a⟩ z => by
    subst z
    have t := R.sl i s e
    cases s with
    | own es => obtain ⟨p', ws, a1, a2, a3, _⟩ := t; rw [a] at a1; cases a1; have b3 : upd C.H q (SetO w q S n) q = none := a3; rw [upd_same] at b3; cases b3
    | bor es => obtain ⟨p', ws, a1, a2, a3, _⟩ := t; rw [a] at a1; cases a1; exact (R0.bd q a3).2.2 h2
    | obj ob => obtain ⟨p', a1, a2, a3, _⟩ := t; rw [a] at a1; cases a1; have b3 : upd C.H q (SetO w q S n) q = none := a3; rw [upd_same] at b3; cases b3
    | _ => cases b
  have G : Rel K C F σ (upd H p (SetO w p S2 n2)) env := {
    fh := U.fh.mut hf
    cf := U.cf
    new := U.new
    pres := fun a u q hb => by rw [upd_ne (ne_of_none q h2)]; exact U.pres a u q hb
    bd := fun b hb => by
      have ne : b ≠ p := fun e => (R0.bd b hb).2.2 (by rw [e]; exact h2)
      exact ⟨by rw [upd_ne ne]; exact (U.bd b hb).1, (U.bd b hb).2⟩
    sl := fun i s hs => by
      have q := U.sl i s hs
      cases s with
      | no => trivial
      | val d => exact q
      | own es => obtain ⟨p', ws, a1, a2, a3, a4, a5⟩ := q; exact ⟨p', ws, a1, a2, a3, by rw [upd_ne (far i p' ⟨_, hs, rfl, a1⟩)]; exact a4, a5⟩
      | bor es => obtain ⟨p', ws, a1, a2, a3, a4, a5⟩ := q; exact ⟨p', ws, a1, a2, a3, by rw [upd_ne (far i p' ⟨_, hs, rfl, a1⟩)]; exact a4, a5⟩
      | obj ob => obtain ⟨p', a1, a2, a3, a4⟩ := q; exact ⟨p', a1, a2, a3, by rw [upd_ne (far i p' ⟨_, hs, rfl, a1⟩)]; exact a4⟩
      | raw v => exact q
      | exc a dd fs => exact q
      | tab T => exact q
    dis := U.dis
    len := U.len
    nt := U.nt
    tb := tabs_set U.tb (Rel.guarded (fun b hb => (R0.bd b hb).2.2) h2 R) fun a o ne e => by rw [upd_ne ne]; exact e }
  exact ⟨hf, G.guard hf h2 upd_same fun i o => far i p o rfl⟩
def intsOf : List PyData → Option (List Int)
  | [] => some []
  | .int k :: r => (intsOf r).map (k :: ·)
  | _ :: _ => none
theorem intsOf_eq : ∀ {ds : List PyData} {ks : List Int}, intsOf ds = some ks → ds = ks.map PyData.int := by
  intro ds
  induction ds with
  | nil => intro ks h; cases h; rfl
  | cons d r ih =>
    intro ks h
    cases d with
    | int k =>
      cases q : intsOf r with
      | none => simp [intsOf, q] at h
      | some z => simp [intsOf, q] at h; subst h; rw [ih q]; rfl
    | _ => cases h
theorem intsOf_map (ks : List Int) : intsOf (ks.map PyData.int) = some ks := by
  induction ks with
  | nil => rfl
  | cons k r ih => simp [intsOf, ih]
theorem loopC_pre {b : PyData → En → Option En} {gt : M Bool} {ge : M PyData} : ∀ {ds acc : List PyData} {env : En} {out}, loopC vs b gt ge ds acc env = some out → ∃ t, out.1 = acc ++ t := by
  intro ds
  induction ds with
  | nil => intro acc env out h; cases h; exact ⟨[], by simp⟩
  | cons d r ih =>
    intro acc env out h
    unfold loopC at h
    split at h
    · cases h
    · split at h
      · split at h
        · split at h
          · obtain ⟨t, e⟩ := ih h; exact ⟨_ :: t, by rw [e, List.append_assoc]; rfl⟩
          · cases h
        · cases h
      · exact ih h
      · cases h
def memS (ks : List Int) : Int → Bool := fun j => decide (j ∈ ks)
def allN : List Int := (List.range 63).map Int.ofNat
def inN (k : Int) : Prop := 0 ≤ k ∧ k < 63
instance (k : Int) : Decidable (inN k) := inferInstanceAs (Decidable (0 ≤ k ∧ k < 63))
def srtI (ks : List Int) : List Int := allN.filter (memS ks)
theorem mem_allN {k : Int} (h : inN k) : k ∈ allN := List.mem_map.mpr ⟨k.toNat, List.mem_range.mpr (by have := h.2; omega), by have := h.1; show ((k.toNat : Nat) : Int) = k; omega⟩
theorem allN_sorted : allN.Pairwise (· < ·) := by decide +kernel
theorem allN_nodup : allN.Nodup := allN_sorted.imp (fun h => by omega)
theorem mem_srtI {ks : List Int} (h : ∀ k ∈ ks, inN k) (k : Int) : k ∈ srtI ks ↔ k ∈ ks := by
  unfold srtI
  rw [List.mem_filter]
  exact ⟨fun z => of_decide_eq_true z.2, fun z => ⟨mem_allN (h k z), decide_eq_true z⟩⟩
theorem srtI_sorted (ks : List Int) : (srtI ks).Pairwise (· < ·) := allN_sorted.filter _
theorem srtI_le (ks : List Int) : (srtI ks).length ≤ 63 := Nat.le_trans (List.length_filter_le _ _) (by decide)
theorem one_more {p : Int → Bool} {z : Int} : ∀ {L : List Int}, L.Nodup → z ∈ L → (L.filter fun j => p j || decide (j = z)).length = if p z = true then (L.filter p).length else (L.filter p).length + 1 := by
  have none : ∀ {L : List Int}, z ∉ L → (L.filter fun j => p j || decide (j = z)) = L.filter p := by
    intro L hz
    apply List.filter_congr
    intro j hj
    have : j ≠ z := fun e => hz (e ▸ hj)
    simp [this]
  intro L
  induction L with
  | nil => intro _ h; cases h
  | cons y r ih =>
    intro nd hz
    obtain ⟨h1, h2⟩ := List.nodup_cons.mp nd
    by_cases e : y = z
    · subst e
      cases q : p y with
      | true => simp [q, none h1]
      | false => simp [q, none h1]
    · have hr : z ∈ r := by rcases List.mem_cons.mp hz with h | h; exact absurd h.symm e; exact h
      have i := ih h2 hr
      cases q : p y with
      | true =>
        simp only [List.filter_cons, q, Bool.true_or, if_true, List.length_cons, i]
        split <;> rfl
      | false =>
        simp only [List.filter_cons, q, e, decide_false, Bool.or_false, Bool.false_eq_true, if_false, i]
theorem srt_add {ks : List Int} {z : Int} (hz : inN z) : (srtI (ks ++ [z])).length = if memS ks z = true then (srtI ks).length else (srtI ks).length + 1 := by
  have e : memS (ks ++ [z]) = fun j => memS ks j || decide (j = z) := by
    funext j
    simp only [memS, List.mem_append, List.mem_singleton, Bool.decide_or]
  unfold srtI
  rw [e]
  exact one_more allN_nodup (mem_allN hz)
def BtwS (w : World) (K : PySem.W.Frag) (C : Cn) (F1 : Hp) (σ : L2.St) (vs : List Nat) (b : PyData → En → Option En) (gt : M Bool) (ge : M PyData) (D : Addr) (out : List PyData × En) (r : List PyData) (H : Hp) : Prop :=
  ∃ F env ks n, Rel K (C.guard D (SetO w D (memS ks) n)) F (wipe σ vs) H env ∧ Ex F1 F ∧ n = (srtI ks).length ∧ loopC vs b gt ge r (ks.map PyData.int) env = some out
variable {b : PyData → En → Option En} {gt : M Bool} {ge : M PyData} {ds : List PyData}
theorem bts_start {D : Addr} {out} (R : Rel K C F1 σ H1 env1) (hD : H1 D = none) (h : loopC vs b gt ge ds [] (wipeE vs env1) = some out) : BtwS w K C F1 σ vs b gt ge D out ds (upd H1 D (SetO w D (fun _ => false) 0)) := by
  have f := R.fresh hD
  have e0 : (fun _ => false) = memS [] := by funext j; simp [memS]
  rw [e0]
  refine ⟨F1, _, [], 0, ?_, Ex.refl _, by decide +kernel, h⟩
  have R' := (R.newH (o := SetO w D (memS []) 0) hD).wipe vs
  exact R'.guard f.1 f.2 upd_same fun i o => by
    obtain ⟨s, e, o, a⟩ := o
    rcases wipeE_at e with ⟨_, rfl⟩ | ⟨ne, e⟩
    · cases o
    · have q := R.sl i s e
      rw [wipe_out ne] at a
      cases s with
      | own es => obtain ⟨p', ws, a1, a2, a3, a4, a5⟩ := q; rw [a] at a1; cases a1; rw [hD] at a4; cases a4
      | bor es => obtain ⟨p', ws, a1, a2, a3, a4, a5⟩ := q; rw [a] at a1; cases a1; rw [hD] at a4; cases a4
      | obj ob => obtain ⟨p', a1, a2, a3, a4⟩ := q; rw [a] at a1; cases a1; rw [hD] at a4; cases a4
      | _ => cases o
theorem wipe_at {j : Nat} {x : V} (hj : j ∈ vs) : wipe ((wipe σ vs).set j (some x)) vs = wipe σ vs := by
  apply List.ext_getElem?
  intro i
  by_cases hi : i ∈ vs
  · have key : ∀ (us : List Nat) (τ : L2.St), τ.length = σ.length → i ∈ us → (wipe τ us)[i]? = (wipe σ us)[i]? := by
      intro us
      induction us with
      | nil => intro τ _ h; cases h
      | cons u us ih =>
        intro τ hl h
        unfold wipe
        by_cases e : u = i
        · subst e
          by_cases hu : u < σ.length
          · rw [List.getElem?_set_self (by rw [wipe_length, hl]; exact hu), List.getElem?_set_self (by rw [wipe_length]; exact hu)]
          · rw [List.getElem?_eq_none (by rw [List.length_set, wipe_length, hl]; omega), List.getElem?_eq_none (by rw [List.length_set, wipe_length]; omega)]
        · rw [List.getElem?_set_ne e, List.getElem?_set_ne e]
          rcases List.mem_cons.mp h with rfl | h
          · exact absurd rfl e
          · exact ih τ hl h
    exact key vs _ (by rw [List.length_set, wipe_length]) hi
  · rw [wipe_out hi, wipe_out hi, List.getElem?_set_ne (fun e => hi (by rw [← e]; exact hj)), wipe_out hi]
theorem bts_turn {D : Addr} {out} {x : V} {d : PyData} {r : List PyData} {j : Nat} (R0 : Rel K C F1 σ H1 env1) (hD : H1 D = none) (hj : j ∈ vs) (hb : b = bN j) (hx : Dp K F1 x d) (ho : ∃ ks, intsOf out.1 = some ks ∧ ∀ k ∈ ks, inN k) (h : BtwS w K C F1 σ vs b gt ge D out (d :: r) H) :
    wipe ((wipe σ vs).set j (some x)) vs = wipe σ vs ∧ tG K mg okB W0 gt ((wipe σ vs).set j (some x)) H fun k H3 => if k = true then tG K mg (okV K) W0 ge ((wipe σ vs).set j (some x)) H3 fun y H4 => ∃ (z : Int) (S : Int → Bool) (n : Nat), y = .int z ∧ H4 D = some (SetO w D S n) ∧ n + 1 < scanBound ∧ BtwS w K C F1 σ vs b gt ge D out r (upd H4 D (SetO w D (addS S z) (cntS S n z)))
      else BtwS w K C F1 σ vs b gt ge D out r H3 := by
  have f := R0.fresh hD
  have hw : wipe ((wipe σ vs).set j (some x)) vs = wipe σ vs := wipe_at hj
  refine ⟨hw, ?_⟩
  obtain ⟨F, env, ks, n, R, ex, hn, hl⟩ := h
  subst hb
  have hl : (match gt (env.set j (.val d)) with
      | some (.ok (true, env2)) => match ge env2 with
        | some (.ok (y, env3)) => if (ks.map PyData.int).length < 16777216 then loopC vs (bN j) gt ge r (ks.map PyData.int ++ [y]) (wipeE vs env3) else none
        | _ => none
      | some (.ok (false, env2)) => loopC vs (bN j) gt ge r (ks.map PyData.int) (wipeE vs env2)
      | _ => none) = some out := hl
  refine ⟨_, F, env.set j (.val d), R.store j (dp_mono ex hx), ?_⟩
  cases q : gt (env.set j (.val d)) with
  | none => rw [q] at hl; cases hl
  | some z =>
    rw [q] at hl
    cases z with
    | error z => cases hl
    | ok z =>
      obtain ⟨k, env2⟩ := z
      intro k' F3 H3 R3 ex3 ek
      cases ek
      cases k with
      | false => exact ⟨F3, _, ks, n, R3.rewipe hw, ex.trans ex3, hn, hl⟩
      | true =>
        simp only [if_true] at hl ⊢
        refine ⟨_, F3, env2, R3, ?_⟩
        cases q2 : ge env2 with
        | none => rw [q2] at hl; cases hl
        | some z =>
          rw [q2] at hl
          cases z with
          | error z => cases hl
          | ok z =>
            obtain ⟨y, env3⟩ := z
            intro v F4 H4 R4 ex4 dv
            simp only at hl
            split at hl
            · have hG : H4 D = some (SetO w D (memS ks) n) := R4.guarded (fun b hb => (R0.bd b hb).2.2) f.2
              obtain ⟨t, ht⟩ := loopC_pre hl
              obtain ⟨ks', hk, hin⟩ := ho
              have e := intsOf_eq hk
              rw [ht, List.append_assoc] at e
              have ey : ∃ z, y = .int z ∧ inN z := by
                have hm : y ∈ ks'.map PyData.int := by rw [← e]; simp
                obtain ⟨z, hz, rfl⟩ := List.mem_map.mp hm
                exact ⟨z, rfl, hin z hz⟩
              obtain ⟨z, rfl, hz⟩ := ey
              cases (show Dp K F4 v (.int z) from dv)
              have hcf : C.F D = none := by
                cases z : C.F D with
                | none => rfl
                | some u => have := R0.cf D u z; rw [f.1] at this; cases this
              have es : addS (memS ks) z = memS (ks ++ [z]) := by
                funext i
                simp only [addS, memS, List.mem_append, List.mem_singleton, Bool.decide_or]
              have en : cntS (memS ks) n z = (srtI (ks ++ [z])).length := by rw [srt_add hz, hn]; rfl
              have le := srtI_le ks
              obtain ⟨hf4, R5⟩ := Rel.reset (S2 := memS (ks ++ [z])) (n2 := cntS (memS ks) n z) R0 f.2 hcf R4
              refine ⟨z, memS ks, n, rfl, hG, ?_, F4, wipeE vs env3, ks ++ [z], cntS (memS ks) n z, ?_, (ex.trans ex3).trans ex4, en, ?_⟩
              · show n + 1 < 4096
                omega
              · rw [es]
                exact R5.rewipe hw
              · rw [List.map_append]; exact hl
            · cases hl
theorem bts_end {D : Addr} {out : List PyData × En} (R0 : Rel K C F1 σ H1 env1) (hD : H1 D = none) (h : BtwS w K C F1 σ vs b gt ge D out [] H) :
    ∃ F ks, Rel K C F σ H (backE env1 vs out.2) ∧ Ex F1 F ∧ out.1 = ks.map PyData.int ∧ H D = some (SetO w D (memS ks) (srtI ks).length) := by
  have f := R0.fresh hD
  obtain ⟨F, env, ks, n, R, ex, rfl, hl⟩ := h
  have e : (ks.map PyData.int, env) = out := Option.some.inj hl
  subst e
  exact ⟨F, ks, R0.back (Rel.unguard R0 f.2 R) ex, ex, rfl, R.guarded (fun b hb => (R0.bd b hb).2.2) f.2⟩
end
end Pf
/-! part PfSD -/
set_option Elab.async false
set_option linter.all false
set_option maxRecDepth 100000
set_option maxHeartbeats 4000000
namespace Pf
open PySem PySem.Spec PyProof.Rows L2 Evl
section
variable {X : Cx}
def PutI (w : World) (D : Addr) (Nx : Hp → Prop) : V → Hp → Prop := fun y G => ∃ (z : Int) (S : Int → Bool) (n : Nat), y = .int z ∧ G D = some (SetO w D S n) ∧ n + 1 < scanBound ∧ Nx (upd G D (SetO w D (addS S z) (cntS S n z)))
def TurnI (w : World) (D : Addr) (g : TG) (tt : TT) (te : TE) (vs : List Nat) (σ : L2.St) (Nx : Hp → Prop) : V → Hp → Prop := fun x G => g x (wipe σ vs) G fun τ G2 => wipe τ vs = wipe σ vs ∧ tt τ G2 fun b G3 => if b = true then te τ G3 (PutI w D Nx) else Nx G3
def tSetI (w : World) (wi : TI) (g : TG) (tt : TT) (te : TE) (vs : List Nat) : TE := fun σ H Q => wi σ H fun J H1 => ∀ D, H1 D = none →
  ∃ Wh : Nat → Nat → Hp → Prop, (∃ m, Wh 0 m (upd H1 D (SetO w D (fun _ => false) 0))) ∧
    ∀ i m G, Wh i m G → (J.stop i G ∧ Q (.ref D) G) ∨ (J.go i G ∧ ∃ Nx : Hp → Prop, (∀ G', Nx G' → ∃ m', m' < m ∧ Wh (i + 1) m' G') ∧ ∀ x G', J.yld i G x G' → TurnI w D g tt te vs σ Nx x G')
theorem addI_ok {pins : List (Addr × Obj)} {τ : L2.St} {G : Hp} {s : Shared} {E : Value → Shared → Prop} {D : Addr} {Nx : Hp → Prop} {y : V} {u : Value} {R : Value → Shared → Prop} (I : Inv X pins τ G s) (hy : RelV y u) (hp : PutI X.w D Nx y G)
    (h : ∀ s' G', Inv X pins τ G' s' → Nx G' → R .none s') : wpAny (model X.prog X.w) X.A (call (.builtin "set.add") [.ref D, u]) R E s := by
  obtain ⟨z, S, n, rfl, hD, room, nx⟩ := hp
  obtain ⟨tk, rfl⟩ := hy
  refine setR_add (setO_get I hD) room fun h' sb new => ?_
  have ⟨o, _, _, _, ho, _⟩ := new
  have J : Inv X pins τ (upd G D (SetO X.w D (addS S z) (cntS S n z))) { s with heap := h', toks := s.toks + 1 } :=
    I.write (t' := s.toks + 1) (e := D) (by rw [hD]; trivial) (.inl rfl) (fun c u hc hu => (sb.2 c hc).trans hu) ⟨o, ho⟩ (setO_new new)
  exact h _ _ J nx
theorem pe_setI {elt tg iter : Expr} {ifs : List Expr} {sc : Scope} {own : List (Str × Nat)} {pos : Pos} {wi : TI} {g : TG} {tt : TT} {te : TE} (calm : X.calm = true) (nd : X.N.Nodup) (pi : PI X tg iter wi) (bok : BlkOk X.N X.env.scope sc own)
    (kg : ∀ (s : Shared) (H : Hp) (c : Addr) (cl : List (Str × Addr)) (fp : List Addr), PG (X.blk s H sc (compEnvC sc cl c X.env) fp) tg g)
    (kt : ∀ (s : Shared) (H : Hp) (c : Addr) (cl : List (Str × Addr)) (fp : List Addr), PTs (X.blk s H sc (compEnvC sc cl c X.env) fp) ifs tt)
    (ke : ∀ (s : Shared) (H : Hp) (c : Addr) (cl : List (Str × Addr)) (fp : List Addr), PE (X.blk s H sc (compEnvC sc cl c X.env) fp) elt te)
    (plain : ∀ x, foldedSetIterable iter X.env x = pure x) :
    PE X (.SetComp elt [⟨tg, iter, ifs, 0⟩] sc pos) (tSetI X.w wi g tt te (own.map (·.2))) := by
  refine ⟨fun pins st0 σ G0 Q inv want => ?_⟩
  rw [PpSet.eval_SetComp]
  have cells : ∀ y ∈ sc.names, y.2 = .free → ∃ c, X.env.cells.lookup y.1 = some c := fun y my ey => (bok.free y my ey).elim (fun k => inv.ok.has _ (.inl k)) fun k => inv.ok.has _ (.inr k)
  refine wpAny_comprehension_free (use := none) rfl plain (closure_ok cells) bok.kind (fun y my ey => by rw [bok.uniq y my, ey])
    (thn (pi.run pins st0 σ G0 _ inv want) fun src st1 k1 => thn k1 fun itr st2 k2 => ?_)
  obtain ⟨it, fp, tn, J, G2, eit, inv2, T, at2, fp2, rest⟩ := k2
  subst eit
  refine PpSet.newSet_ok (newEnv_comp ?_)
  -- the new set stands at D
  obtain ⟨D, eD⟩ : ∃ D, st2.heap.objs.size = D := ⟨_, rfl⟩
  rw [eD]
  have freeD : G2 D = none := inv2.hok.fresh (Nat.le_of_eq eD)
  obtain ⟨Wh, ⟨m0, begun⟩, turns⟩ := rest D freeD
  let obj0 : Obj := { cls := .type "set", dict := none, data := .set #[] 0 (.fresh 0 0 (!X.w.params.followText "set-order")) }
  obtain ⟨st3, e3⟩ : ∃ st3 : Shared, { st2 with heap := st2.heap.push obj0 } = st3 := ⟨_, rfl⟩
  have hp3 : st3.heap = st2.heap.push obj0 := by rw [← e3]
  obtain ⟨G3, eG3⟩ : ∃ G3, upd G2 D (SetO X.w D (fun _ => false) 0) = G3 := ⟨_, rfl⟩
  have inv3 : Inv X pins σ G3 st3 := by
    rw [← e3, ← eG3]
    refine inv2.laid (t' := st2.toks) (fun b o hb => Heap.get?_push_of_some _ hb) (Nat.le_of_eq eD) ?_
    rw [← eD]
    exact setO_new (setR_fresh X.w)
  have old2 : ∀ b ∈ fp, b < st2.heap.objs.size := fun b hb => by
    obtain ⟨o, ho, _⟩ := T.obj _ _ at2 b hb
    exact Heap.lt_size ho
  have fp3 : ∀ b ∈ fp, FpOk X pins G3 b ∧ b < st3.heap.objs.size := fun b hb => by
    have lt := old2 b hb
    have ne : b ≠ D := by rw [← eD]; exact Nat.ne_of_lt lt
    exact ⟨⟨by rw [← eG3, upd_ne ne]; exact (fp2 b hb).1, (fp2 b hb).2⟩, by rw [hp3, Heap.size_push]; exact Nat.lt_succ_of_lt lt⟩
  have at3 : tn 0 st3.heap := T.keep _ _ _ at2 fun b _ o hb => by rw [hp3]; exact Heap.get?_push_of_some _ hb
  rw [← eG3] at inv3 fp3
  have inv4 := block_start inv3 bok nd fp3
  rw [eG3] at inv3 fp3 inv4 begun
  obtain ⟨cl, ecl⟩ : ∃ cl, cellsFrom (st3.heap.objs.size + 1) sc.names (cloFrom X.env.cells sc.names []) = cl := ⟨_, rfl⟩
  obtain ⟨C, eC⟩ : ∃ C, st3.heap.objs.size = C := ⟨_, rfl⟩
  obtain ⟨cenv, ece⟩ : ∃ cenv, compEnvC sc cl C X.env = cenv := ⟨_, rfl⟩
  have locC : cenv.locals = C := by rw [← ece]; rfl
  rw [ecl, eC, ece] at inv4
  obtain ⟨st4, e4⟩ : ∃ st4 : Shared, { st3 with heap := pushCells (st3.heap.push { cls := .type "dict", data := .dict #[] }) sc.names } = st4 := ⟨_, rfl⟩
  rw [e4] at inv4
  have bg : PG (X.blk st3 G3 sc cenv fp) tg g := by rw [← ece]; exact kg st3 G3 C cl fp
  have bt : PTs (X.blk st3 G3 sc cenv fp) ifs tt := by rw [← ece]; exact kt st3 G3 C cl fp
  have be : PE (X.blk st3 G3 sc cenv fp) elt te := by rw [← ece]; exact ke st3 G3 C cl fp
  have at4 : tn 0 st4.heap := T.keep _ _ _ at3 fun b _ o hb => by rw [← e4]; exact pushCells_keeps _ _ _ _ (Heap.get?_push_of_some _ hb)
  have unseen : ∀ {σ' : L2.St} {G : Hp} {s : Shared}, Inv (X.blk st3 G3 sc cenv fp) [] σ' G s → (∀ b ∈ fp, G b = none) → ∀ b ∈ fp, FpOk (X.blk st3 G3 sc cenv fp) [] G b := by
    intro σ' G s i none b hb
    have x1 := i.ok.exf b hb
    exact ⟨none b hb, x1.1, i.ok.exfs b hb, .inl hb, fun y c z => x1.2 y c z, fun p hp => by cases hp⟩
  -- the loop
  have loop : codeAny (model X.prog X.w) X.A (.compLoop (.SetComp elt [⟨tg, iter, ifs, 0⟩] sc pos) 0 (.ref it) (.ref D) cenv) (compPost (model X.prog X.w) X.A X.xe none (EP X pins σ Q) (.ref D) C) st4 := by
    refine PpSet.compLoopS_any (fun k s => ∃ i G, Inv (X.blk st3 G3 sc cenv fp) [] (wipe σ (own.map (·.2))) G s ∧ (∀ b ∈ fp, G b = none) ∧ tn i s.heap ∧ Wh i k G) ?_ m0 ⟨0, G3, inv4, fun b hb => (fp3 b hb).1.1, at4, begun⟩
    rintro k s5 ⟨i, G5, inv5, no5, at5, w5⟩
    rcases turns i k G5 w5 with ⟨halt, out⟩ | ⟨goes, Nx, dec, step⟩
    · refine thnF (T.done (X.blk st3 G3 sc cenv fp) rfl rfl rfl calm i [] s5 _ G5 (fun _ _ => False) inv5 (unseen inv5 no5) at5 halt) fun r s6 ⟨er, inv6⟩ => ?_
      subst er
      have free6 : G5 C = none := by
        have z : G5 cenv.locals = none := inv6.free
        rwa [locC] at z
      obtain ⟨m, ns, _⟩ := inv6.loc
      have ns : s6.heap.Ns cenv.locals m := ns
      rw [locC] at ns
      have inv7 : Inv X pins σ G5 s6 := inv3.call' (ch := fp) inv6.os inv6.base inv6.hok inv6.bare fun b hb => by
        obtain ⟨⟨_, a2, _, a4, a5, a6⟩, _⟩ := fp3 b hb
        exact ⟨a4, a2, a5, a6⟩
      refine ⟨m, ns, fun h'' sb => ?_⟩
      obtain ⟨f0, f1, f2, f3, f4, f5⟩ := inv3.fpOk (b := C) (H' := G5) (Nat.le_of_eq eC) free6
      exact ⟨.ref D, G5, inv7.turned (t' := s6.toks) (fun b o hb z => (sb.2 b hb).trans z) f0 f1 f3 f4 f5, rfl, out⟩
    · refine thnF (T.item (X.blk st3 G3 sc cenv fp) rfl rfl rfl calm i [] s5 _ G5 (fun _ _ => False) inv5 (unseen inv5 no5) at5 goes) fun r s6 ⟨u, er, k6⟩ => ?_
      subst er
      refine thnF k6 fun _ s7 ⟨x, G7, inv7, rel7, y7, at7, no7⟩ => ?_
      have seen7 := inv7.pinned (unseen inv7 no7) (T.obj _ _ at7)
      refine thnF (bg.run _ s7 _ G7 x u _ seen7 rel7 (step x G7 y7)) fun _ s8 ⟨τ, G8, inv8, ew, k8⟩ => ?_
      refine thnF (bt.run _ s8 τ G8 _ inv8 k8) fun b s9 ⟨G9, inv9, k9⟩ => ?_
      have turned : ∀ {s' : Shared} {G' : Hp}, Inv (X.blk st3 G3 sc cenv fp) ([] ++ pinsAt fp s7.heap) τ G' s' → Nx G' → ∃ m, m < k ∧ ∃ i G, Inv (X.blk st3 G3 sc cenv fp) [] (wipe σ (own.map (·.2))) G s' ∧ (∀ b ∈ fp, G b = none) ∧ tn i s'.heap ∧ Wh i m G := by
        intro s' G' inv' nx
        obtain ⟨m', lt, wh⟩ := dec G' nx
        have kept : ∀ b ∈ fp, ∀ o, s7.heap.get? b = some o → s'.heap.get? b = some o ∧ G' b = none := fun b hb o ho => by
          have z := inv'.pin (b, o) (List.mem_append_right _ (List.mem_append_right _ (mem_pinsAt hb ho)))
          exact ⟨z.1, z.2.1⟩
        have same : (wipe σ (own.map (·.2))).length = τ.length := by rw [← ew, wipe_length]
        refine ⟨m', lt, i + 1, G', (inv'.unpinned (pins := [])).weak same (fun j v hj => ?_), fun b hb => ?_, T.keep _ _ _ at7 fun b hb o ho => (kept b hb o ho).1, wh⟩
        · rw [← ew] at hj
          exact (wipe_some hj).1
        · obtain ⟨o, ho, _⟩ := T.obj _ _ at7 b hb
          exact (kept b hb o ho).2
      cases b with
      | false =>
        simp only [Bool.false_eq_true, if_false] at k9 ⊢
        exact turned inv9 k9
      | true =>
        simp only [if_true] at k9 ⊢
        exact thnF (be.run _ s9 τ G9 _ inv9 k9) fun z s10 ⟨y, G10, inv10, rel10, put⟩ => addI_ok (X := X.blk st3 G3 sc cenv fp) inv10 rel10 put fun s11 G11 inv11 nx => turned inv11 nx
  have go := PpSet.codeAny_compStart_set loop (T.self X.A 0 _ _ _ at4 loop)
  show codeAny _ _ (.compStart (.SetComp elt [⟨tg, iter, ifs, 0⟩] sc pos) 0 (.ref it) (.ref D) (compEnvC sc (cellsFrom ((st2.heap.push obj0).objs.size + 1) sc.names (cloFrom X.env.cells sc.names [])) (st2.heap.push obj0).objs.size X.env)) (compPost (model X.prog X.w) X.A X.xe none _ (.ref D) (st2.heap.push obj0).objs.size) { st2 with heap := pushCells ((st2.heap.push obj0).push { cls := .type "dict", data := .dict #[] }) sc.names }
  rw [← hp3, ecl, eC, ece]
  have est : ({ st2 with heap := pushCells (st3.heap.push { cls := .type "dict", data := .dict #[] }) sc.names } : Shared) = st4 := by subst e3; exact e4
  rw [est]
  exact go
end
end Pf
/-! part PfZ -/
set_option Elab.async false
set_option linter.all false
set_option maxRecDepth 100000
set_option maxHeartbeats 4000000
namespace Pf
open PySem PySem.Spec PyProof.Rows L2 Evl
structure Src (P : Program) (w : World) (i l : Addr) (At : Nat → Heap → Prop) (Is : Heap → Prop) (xs : Array Value) : Prop where
  keepAt : ∀ {k : Nat} {h h' : Heap}, At k h → (∀ o, h.get? i = some o → h'.get? i = some o) → At k h'
  keepIs : ∀ {h h' : Heap}, Is h → (∀ o, h.get? l = some o → h'.get? l = some o) → Is h'
  item : ∀ {A : Around} {E Q : Value → Shared → Prop} {s : Shared} {k : Nat} {x : Value}, At k s.heap → Is s.heap → xs[k]? = some x → (∀ h', At (k + 1) h' → Heap.SameBut i s.heap h' → Q x { s with heap := h' }) →
    wpAny (model P w) A (Builtin.SmallTypes.nextOf (.ref i)) Q E s
  stop : ∀ {A : Around} {E Q : Value → Shared → Prop} {s : Shared} {k : Nat}, A.handled = none → At k s.heap → Is s.heap → xs[k]? = none →
    (∀ h' e, Heap.ExtBut i s.heap h' → (∃ o, h'.get? e = some o ∧ o.cls = .type "StopIteration") → E (.ref e) { s with heap := h' }) → wpAny (model P w) A (Builtin.SmallTypes.nextOf (.ref i)) Q E s
section
variable {P : Program} {w : World} {A : Around} {E : Value → Shared → Prop} {s : Shared}
theorem src_tup {i l : Addr} {xs : Array Value} : Src P w i l (fun k h => h.IsTupleIter i l k) (fun h => h.IsTuple l xs) xs where
  keepAt := fun h k => h.at k
  keepIs := fun h k => by obtain ⟨o, ho, r⟩ := h; exact ⟨o, k o ho, r⟩
  item := fun a b c q => RZ.nextOf_tuple_item a b c q
  stop := fun hh a b c q => RZ.nextOf_tuple_end hh a b c q
theorem src_lst {i l : Addr} {xs : Array Value} : Src P w i l (fun k h => h.IsListIter i l k) (fun h => h.IsList l xs) xs where
  keepAt := fun h k => h.at k
  keepIs := fun h k => h.at k
  item := fun a b c q => wpAny_nextOf_list_item a b c q
  stop := fun hh a b c q => wpAny_nextOf_list_end hh a b c q
variable {z TI TO i1 i2 l1 l2 : Addr} {k1 k2 : Nat} {xs ys : Array Value} {At1 At2 : Nat → Heap → Prop} {Is1 Is2 : Heap → Prop} {x y a b : Value}
theorem zip_item_raw {Q : Value → Shared → Prop} (D : ZipApart z TI TO i1 i2 l1 l2) (S1 : Src P w i1 l1 At1 Is1 xs) (S2 : Src P w i2 l2 At2 Is2 ys)
    (hz : IsZip s.heap z TI TO .none) (hTI : IsPair s.heap TI (.ref i1) (.ref i2)) (hTO : IsPair s.heap TO a b) (a1 : At1 k1 s.heap) (a2 : At2 k2 s.heap) (b1 : Is1 s.heap) (b2 : Is2 s.heap) (hx : xs[k1]? = some x) (hy : ys[k2]? = some y)
    (hQ : ∀ h', IsZip h' z TI TO (rawInt s.heap.objs.size) → IsPair h' TO x y → At1 (k1 + 1) h' → At2 (k2 + 1) h' → IsPair h' s.heap.objs.size x y → h'.objs.size = s.heap.objs.size + 1 →
      (∀ c o, c ≠ z ∧ c ≠ TO ∧ c ≠ i1 ∧ c ≠ i2 → s.heap.get? c = some o → h'.get? c = some o) → Q (.ref s.heap.objs.size) { s with heap := h' }) :
    wpAny (model P w) A (Builtin.«zip.__next__» ⟨[.ref z], []⟩) (fun fin t => ∃ v, fin = .done (.ret v) ∧ Q v t) E s := by
  show wpAny _ _ (field (.ref z) 2 >>= _) _ _ _
  refine wpAny_bind (wpAny_field (x := .bool false) hz rfl rfl ?_); show wpAny _ _ (field (.ref z) 3 >>= _) _ _ _
  refine wpAny_bind (wpAny_field (x := .ref TI) hz rfl rfl ?_); refine wpAny_bind (wpAny_seqItems hTI rfl ?_)
  show wpAny _ _ (Builtin.SmallTypes.ownedTupleIsFree (.ref z) >>= _) _ _ _; refine wpAny_bind ?_
  unfold Builtin.SmallTypes.ownedTupleIsFree
  refine wpAny_bind (wpAny_field (x := .none) hz rfl rfl (wpAny_pure ?_)); simp only [if_true]
  refine wpAny_bind (wpAny_rule ?_); refine wpAny_bind (wpAny_field (x := .ref TO) hz rfl rfl ?_)
  refine wpAny_bind (wpAny_setField_rec hz (by simp) fun g1 z1 c1 => ?_)
  have z1 : IsZip g1 z TI TO .ellipsis := z1
  refine wpAny_bind ?_; simp only [List.zipIdx_cons, List.zipIdx_nil, List.forIn_cons, List.forIn_nil]
  -- the first one
  refine wpAny_bind (wpAny_bind (wpAny_onRaise ?_)); show wpAny _ _ (Builtin.SmallTypes.nextOf (.ref i1) >>= _) _ _ _
  refine wpAny_bind (S1.item (S1.keepAt a1 fun o e => c1.extBut _ _ D.i1z e) (S1.keepIs b1 fun o e => c1.extBut _ _ D.l1z e) hx fun g2 p2 c2 => wpAny_pure ?_)
  have t2 : IsPair g2 TO a b := c2.extBut _ _ D.TOi1 (c1.extBut _ _ D.TOz hTO)
  refine wpAny_bind (wpAny_seqItems t2 rfl ?_); refine wpAny_bind (wpAny_updateSeq_pair t2 fun g3 t3 c3 => ?_)
  have t3 : IsPair g3 TO x b := t3
  refine wpAny_bind (wpAny_letGo (wpAny_pure ?_))
  have up3 : ∀ c o, c ≠ z → c ≠ TO → c ≠ i1 → s.heap.get? c = some o → g3.get? c = some o := fun c o n1 n2 n3 e => c3.extBut _ _ n2 (c2.extBut _ _ n3 (c1.extBut _ _ n1 e))
  -- the second one
  refine wpAny_bind (wpAny_bind (wpAny_onRaise ?_)); show wpAny _ _ (Builtin.SmallTypes.nextOf (.ref i2) >>= _) _ _ _
  refine wpAny_bind (S2.item (S2.keepAt a2 fun o e => up3 _ _ D.i2z D.TOi2.symm D.i12.symm e) (S2.keepIs b2 fun o e => up3 _ _ D.l2z D.l2TO D.l2i1 e) hy fun g4 p4 c4 => wpAny_pure ?_)
  have t4 : IsPair g4 TO x b := c4.extBut _ _ D.TOi2 t3
  refine wpAny_bind (wpAny_seqItems t4 rfl ?_); refine wpAny_bind (wpAny_updateSeq_pair t4 fun g5 t5 c5 => ?_)
  have t5 : IsPair g5 TO x y := t5
  refine wpAny_bind (wpAny_letGo (wpAny_pure (wpAny_pure ?_))); refine wpAny_bind (wpAny_seqItems t5 rfl ?_); refine wpAny_bind (wpAny_newTuple ?_)
  have size5 : g5.objs.size = s.heap.objs.size := by rw [c5.1, c4.1, c3.1, c2.1, c1.1]
  have z5 : IsZip g5 z TI TO .ellipsis := c5.extBut _ _ D.TOz.symm (c4.extBut _ _ D.i2z.symm (c3.extBut _ _ D.TOz.symm (c2.extBut _ _ D.i1z.symm z1)))
  have up5 : ∀ c o, c ≠ z ∧ c ≠ TO ∧ c ≠ i1 ∧ c ≠ i2 → s.heap.get? c = some o → g5.get? c = some o := fun c o ⟨n1, n2, n3, n4⟩ e => c5.extBut _ _ n2 (c4.extBut _ _ n4 (up3 c o n1 n2 n3 e))
  have p5 : At1 (k1 + 1) g5 := S1.keepAt p2 fun o e => c5.extBut _ _ D.TOi1.symm (c4.extBut _ _ D.i12 (c3.extBut _ _ D.TOi1.symm e))
  have q5 : At2 (k2 + 1) g5 := S2.keepAt p4 fun o e => c5.extBut _ _ D.TOi2.symm e
  have zlt : z < g5.objs.size := Heap.lt_size z5
  show wpAny _ _ (Builtin.SmallTypes.ownedTupleHandOut (.ref z) (.ref g5.objs.size) >>= _) _ _ _; refine wpAny_bind ?_
  unfold Builtin.SmallTypes.ownedTupleHandOut
  have z6 : IsZip (g5.push { cls := .type "tuple", data := .seq #[x, y] }) z TI TO .ellipsis := Heap.get?_push_of_some _ z5
  refine wpAny_bind (wpAny_setField_rec z6 (by simp) fun g7 z7 c7 => ?_)
  have z7 : IsZip g7 z TI TO (rawInt g5.objs.size) := z7
  refine wpAny_setField_rec z7 (by simp) fun g8 z8 c8 => ?_
  have z8 : IsZip g8 z TI TO (rawInt g5.objs.size) := z8
  have last : ∀ c o, c ≠ z → g5.get? c = some o → g8.get? c = some o := fun c o n e => c8.extBut _ _ n (c7.extBut _ _ n (Heap.get?_push_of_some _ e))
  have t8 : IsPair g8 g5.objs.size x y := c8.extBut _ _ (Nat.ne_of_gt zlt) (c7.extBut _ _ (Nat.ne_of_gt zlt) (Heap.get?_push_size _ rfl))
  have size8 : g8.objs.size = g5.objs.size + 1 := by rw [c8.1, c7.1, Heap.size_push]
  rw [size5] at z8 t8 size8
  refine wpAny_pure ⟨_, rfl, ?_⟩
  show Q (.ref g5.objs.size) _
  rw [size5]
  exact hQ g8 z8 (last _ _ D.TOz t5) (S1.keepAt p5 fun o e => last _ o D.i1z e) (S2.keepAt q5 fun o e => last _ o D.i2z e) t8 size8 fun c o n e => last c o n.1 (up5 c o n e)
theorem zip_stop_raw {Q : Fin → Shared → Prop} (hh : A.handled = none) (D : ZipApart z TI TO i1 i2 l1 l2) (S1 : Src P w i1 l1 At1 Is1 xs) (S2 : Src P w i2 l2 At2 Is2 ys)
    (hz : IsZip s.heap z TI TO .none) (hTI : IsPair s.heap TI (.ref i1) (.ref i2)) (hTO : IsPair s.heap TO a b) (a1 : At1 k1 s.heap) (a2 : At2 k2 s.heap) (b1 : Is1 s.heap) (b2 : Is2 s.heap) (hend : xs[k1]? = none ∨ ys[k2]? = none)
    (hE : ∀ h' e, (∀ c o, c ≠ z ∧ c ≠ TO ∧ c ≠ i1 ∧ c ≠ i2 → s.heap.get? c = some o → h'.get? c = some o) → (∃ o, h'.get? e = some o ∧ o.cls = .type "StopIteration") → E (.ref e) { s with heap := h' }) :
    wpAny (model P w) A (Builtin.«zip.__next__» ⟨[.ref z], []⟩) Q E s := by
  show wpAny _ _ (field (.ref z) 2 >>= _) _ _ _
  refine wpAny_bind (wpAny_field (x := .bool false) hz rfl rfl ?_); show wpAny _ _ (field (.ref z) 3 >>= _) _ _ _
  refine wpAny_bind (wpAny_field (x := .ref TI) hz rfl rfl ?_); refine wpAny_bind (wpAny_seqItems hTI rfl ?_)
  show wpAny _ _ (Builtin.SmallTypes.ownedTupleIsFree (.ref z) >>= _) _ _ _; refine wpAny_bind ?_
  unfold Builtin.SmallTypes.ownedTupleIsFree
  refine wpAny_bind (wpAny_field (x := .none) hz rfl rfl (wpAny_pure ?_)); simp only [if_true]
  refine wpAny_bind (wpAny_rule ?_); refine wpAny_bind (wpAny_field (x := .ref TO) hz rfl rfl ?_)
  refine wpAny_bind (wpAny_setField_rec hz (by simp) fun g1 z1 c1 => ?_)
  have z1 : IsZip g1 z TI TO .ellipsis := z1
  refine wpAny_bind ?_; simp only [List.zipIdx_cons, List.zipIdx_nil, List.forIn_cons, List.forIn_nil]
  refine wpAny_bind (wpAny_bind (wpAny_onRaise ?_)); show wpAny _ _ (Builtin.SmallTypes.nextOf (.ref i1) >>= _) _ _ _
  have p1 := S1.keepAt a1 fun o e => c1.extBut _ _ D.i1z e
  have q1 := S1.keepIs b1 fun o e => c1.extBut _ _ D.l1z e
  cases hx : xs[k1]? with
  | none =>
    refine wpAny_bind (S1.stop hh p1 q1 hx fun g2 e c2 he => ?_)
    obtain ⟨oe, ho, hc⟩ := he
    have z2 : IsZip g2 z TI TO .ellipsis := c2 _ _ D.i1z.symm z1
    have ne : e ≠ z := fun q => by subst q; rw [z2] at ho; cases ho; simp at hc
    exact wpAny_setField_rec z2 (by simp) fun g3 _ c3 => hE g3 e (fun c o n q => c3.extBut _ _ n.1 (c2 _ _ n.2.2.1 (c1.extBut _ _ n.1 q))) ⟨oe, c3.extBut _ _ ne ho, hc⟩
  | some x =>
    have hy : ys[k2]? = none := hend.elim (fun q => by rw [hx] at q; cases q) id
    refine wpAny_bind (S1.item p1 q1 hx fun g2 p2 c2 => wpAny_pure ?_)
    have t2 : IsPair g2 TO a b := c2.extBut _ _ D.TOi1 (c1.extBut _ _ D.TOz hTO)
    refine wpAny_bind (wpAny_seqItems t2 rfl ?_); refine wpAny_bind (wpAny_updateSeq_pair t2 fun g3 t3 c3 => ?_)
    refine wpAny_bind (wpAny_letGo (wpAny_pure ?_))
    have up3 : ∀ c o, c ≠ z → c ≠ TO → c ≠ i1 → s.heap.get? c = some o → g3.get? c = some o := fun c o n1 n2 n3 e => c3.extBut _ _ n2 (c2.extBut _ _ n3 (c1.extBut _ _ n1 e))
    refine wpAny_bind (wpAny_bind (wpAny_onRaise ?_)); show wpAny _ _ (Builtin.SmallTypes.nextOf (.ref i2) >>= _) _ _ _
    refine wpAny_bind (S2.stop hh (S2.keepAt a2 fun o e => up3 _ _ D.i2z D.TOi2.symm D.i12.symm e) (S2.keepIs b2 fun o e => up3 _ _ D.l2z D.l2TO D.l2i1 e) hy fun g4 e c4 he => ?_)
    obtain ⟨oe, ho, hc⟩ := he
    have z4 : IsZip g4 z TI TO .ellipsis := c4 _ _ D.i2z.symm (c3.extBut _ _ D.TOz.symm (c2.extBut _ _ D.i1z.symm z1))
    have ne : e ≠ z := fun q => by subst q; rw [z4] at ho; cases ho; simp at hc
    exact wpAny_setField_rec z4 (by simp) fun g5 _ c5 => hE g5 e (fun c o n q => c5.extBut _ _ n.1 (c4 _ _ n.2.2.2 (up3 c o n.1 n.2.1 n.2.2.1 q))) ⟨oe, c5.extBut _ _ ne ho, hc⟩
theorem zip_item {Q : Option Value → Shared → Prop} (D : ZipApart z TI TO i1 i2 l1 l2) (S1 : Src P w i1 l1 At1 Is1 xs) (S2 : Src P w i2 l2 At2 Is2 ys)
    (hz : IsZip s.heap z TI TO .none) (hTI : IsPair s.heap TI (.ref i1) (.ref i2)) (hTO : IsPair s.heap TO a b) (a1 : At1 k1 s.heap) (a2 : At2 k2 s.heap) (b1 : Is1 s.heap) (b2 : Is2 s.heap) (hx : xs[k1]? = some x) (hy : ys[k2]? = some y)
    (hQ : ∀ h', IsZip h' z TI TO (rawInt s.heap.objs.size) → IsPair h' TO x y → At1 (k1 + 1) h' → At2 (k2 + 1) h' → IsPair h' s.heap.objs.size x y → h'.objs.size = s.heap.objs.size + 1 →
      (∀ c o, c ≠ z ∧ c ≠ TO ∧ c ≠ i1 ∧ c ≠ i2 → s.heap.get? c = some o → h'.get? c = some o) → Q (some (.ref s.heap.objs.size)) { s with heap := h' }) : wpAny (model P w) A (pyNext (.ref z)) Q E s := by
  have ty : s.TypeIs (.ref z) "zip" := ⟨_, hz, rfl⟩
  unfold pyNext
  exact wpAny_bind (wpAny_attempt (wpAny_callSpecial?_slot (name := Str.ofString "__next__") ty F.slot_zip_next (wpAny_call_entry F.slot_zip_next ty F.entry_zip_next
    (zip_item_raw D S1 S2 hz hTI hTO a1 a2 b1 b2 hx hy fun h' u1 u2 u3 u4 u5 u6 u7 => wpAny_pure (hQ h' u1 u2 u3 u4 u5 u6 u7)) (F.args_zip_next_1 _))))
theorem zip_stop {Q : Option Value → Shared → Prop} (hh : A.handled = none) (D : ZipApart z TI TO i1 i2 l1 l2) (S1 : Src P w i1 l1 At1 Is1 xs) (S2 : Src P w i2 l2 At2 Is2 ys)
    (hz : IsZip s.heap z TI TO .none) (hTI : IsPair s.heap TI (.ref i1) (.ref i2)) (hTO : IsPair s.heap TO a b) (a1 : At1 k1 s.heap) (a2 : At2 k2 s.heap) (b1 : Is1 s.heap) (b2 : Is2 s.heap) (hend : xs[k1]? = none ∨ ys[k2]? = none)
    (hQ : ∀ h', (∀ c o, c ≠ z ∧ c ≠ TO ∧ c ≠ i1 ∧ c ≠ i2 → s.heap.get? c = some o → h'.get? c = some o) → Q none { s with heap := h' }) : wpAny (model P w) A (pyNext (.ref z)) Q E s := by
  have ty : s.TypeIs (.ref z) "zip" := ⟨_, hz, rfl⟩
  unfold pyNext
  refine wpAny_bind (wpAny_attempt (wpAny_callSpecial?_slot (name := Str.ofString "__next__") ty F.slot_zip_next (wpAny_call_entry F.slot_zip_next ty F.entry_zip_next
    (zip_stop_raw hh D S1 S2 hz hTI hTO a1 a2 b1 b2 hend fun h' e kk he => ?_) (F.args_zip_next_1 _))))
  obtain ⟨o, ho, hc⟩ := he
  exact wpAny_bind (wpAny_isInstance (T := "StopIteration") (b := true) ⟨o, ho, hc⟩ isSubtype_stop (wpAny_pure (hQ _ kk)))
end
section
variable (h : Heap) (l1 l2 : Addr)
abbrev zA1 : Heap := h.push { cls := .type "tuple_iterator", data := .fields #[.ref l1, .int 0 0] }
abbrev zA2 : Heap := (zA1 h l1).push { cls := .type "list_iterator", data := .fields #[.ref l2, .int 0 0] }
abbrev zA3 : Heap := (zA2 h l1 l2).push { data := .seq #[.ref h.objs.size, .ref (zA1 h l1).objs.size], cls := .type "tuple" }
abbrev zA4 : Heap := (zA3 h l1 l2).push { data := .seq #[.none, .none], cls := .type "tuple" }
abbrev zA5 : Heap := (zA4 h l1 l2).push { data := .fields #[.none, .bool false, .bool false, .ref (zA2 h l1 l2).objs.size, .ref (zA3 h l1 l2).objs.size], cls := .type "zip" }
end
theorem meets_zipA (l1 l2 : Addr) (xs ys : Array Value) : Meets (Builtin.«zip.__new__» ⟨[.type "zip", .ref l1, .ref l2], []⟩) (fun _ R s => s.heap.IsTuple l1 xs ∧ s.heap.IsList l2 ys ∧ R (.ok (.ret (.ref (zA4 s.heap l1 l2).objs.size))) { s with heap := zA5 s.heap l1 l2 }) :=
  .of_wp fun P w A R s k => by
    obtain ⟨hp, g, d, tk, os⟩ := s; obtain ⟨k1, k2, k⟩ := k; have hsub := sub_zip
    have K1 : Heap.IsTuple (Shared.heap ⟨hp, g, d, tk, os⟩) l1 xs := k1
    have K2 : Heap.IsList (Shared.heap ⟨hp.push { cls := .type "tuple_iterator", data := .fields #[.ref l1, .int 0 0] }, g, d, tk, os⟩) l2 ys := Heap.IsList.push k2 _
    wp_walk using wpAny_pyIter_tuple K1, wpAny_pyIter_list K2
    exact ⟨_, rfl, k⟩
theorem call_zipA {P : Program} {w : World} {A : Around} {E Q : Value → Shared → Prop} {s : Shared} {l1 l2 : Addr} {xs ys : Array Value} (k1 : s.heap.IsTuple l1 xs) (k2 : s.heap.IsList l2 ys)
    (h : ∀ h', IsZip h' (s.heap.objs.size + 4) (s.heap.objs.size + 2) (s.heap.objs.size + 3) .none ∧ IsPair h' (s.heap.objs.size + 2) (.ref s.heap.objs.size) (.ref (s.heap.objs.size + 1)) ∧
      IsPair h' (s.heap.objs.size + 3) .none .none ∧ h'.IsTupleIter s.heap.objs.size l1 0 ∧ h'.IsListIter (s.heap.objs.size + 1) l2 0 ∧ (∀ c o, s.heap.get? c = some o → h'.get? c = some o) → Q (.ref (s.heap.objs.size + 4)) { s with heap := h' }) :
    wpAny (model P w) A (call (.type "zip") [.ref l1, .ref l2]) Q E s := by
  refine callType_new F.called_zip (by decide) (F.typeCall_zip_2 _ _) (F.newCall_zip_2 _ _) (fun obj => F.args_object_init_3 obj _ _) F.entry_zip_new (meets_zipA l1 l2 xs ys) ⟨k1, k2, ?_⟩
  have n1 : (zA1 s.heap l1).objs.size = s.heap.objs.size + 1 := Heap.size_push ..
  have n2 : (zA2 s.heap l1 l2).objs.size = s.heap.objs.size + 2 := by rw [Heap.size_push, n1]
  have n3 : (zA3 s.heap l1 l2).objs.size = s.heap.objs.size + 3 := by rw [Heap.size_push, n2]
  have n4 : (zA4 s.heap l1 l2).objs.size = s.heap.objs.size + 4 := by rw [Heap.size_push, n3]
  have g5 : (zA5 s.heap l1 l2).get? (zA4 s.heap l1 l2).objs.size = some _ := Heap.get?_push_size _ rfl
  have g4 : (zA5 s.heap l1 l2).get? (zA3 s.heap l1 l2).objs.size = some _ := Heap.get?_push_of_some _ (Heap.get?_push_size _ rfl)
  have g3 : (zA5 s.heap l1 l2).get? (zA2 s.heap l1 l2).objs.size = some _ := Heap.get?_push_of_some _ (Heap.get?_push_of_some _ (Heap.get?_push_size _ rfl))
  have g2 : (zA5 s.heap l1 l2).get? (zA1 s.heap l1).objs.size = some _ := Heap.get?_push_of_some _ (Heap.get?_push_of_some _ (Heap.get?_push_of_some _ (Heap.get?_push_size _ rfl)))
  have g1 : (zA5 s.heap l1 l2).get? s.heap.objs.size = some _ := Heap.get?_push_of_some _ (Heap.get?_push_of_some _ (Heap.get?_push_of_some _ (Heap.get?_push_of_some _ (Heap.get?_push_size _ rfl))))
  have all : ∀ c o, s.heap.get? c = some o → (zA5 s.heap l1 l2).get? c = some o := fun c o e => Heap.get?_push_of_some _ (Heap.get?_push_of_some _ (Heap.get?_push_of_some _ (Heap.get?_push_of_some _ (Heap.get?_push_of_some _ e))))
  rw [n2, n3, n4] at g5; rw [n3] at g4; rw [n1, n2] at g3; rw [n1] at g2
  show _ ∧ _
  rw [n4]
  exact ⟨⟨_, g5, rfl⟩, h _ ⟨g5, g3, g4, ⟨_, g1, rfl, rfl⟩, ⟨_, g2, rfl, rfl⟩, all⟩⟩
def ItzA (K : PySem.W.Frag) (a b : Addr) : It :=
  ⟨fun i H => ∃ (xs ys : List V) (x y : V), SqT K H a xs ∧ SqL K H b ys ∧ xs[i]? = some x ∧ ys[i]? = some y,
    fun i H v G => ∃ t x y, v = .ref t ∧ H t = none ∧ G = upd H t (.tup [x, y]) ∧ (∀ xs, SqT K H a xs → xs[i]? = some x) ∧ ∀ ys, SqL K H b ys → ys[i]? = some y,
    fun i H => ∃ xs ys : List V, SqT K H a xs ∧ SqL K H b ys ∧ (xs.length ≤ i ∨ ys.length ≤ i)⟩
theorem five {c z TI TO i1 i2 : Addr} {p : Addr → Prop} (h : c ∈ [z, TI, TO, i1, i2]) (h1 : p z) (h2 : p TI) (h3 : p TO) (h4 : p i1) (h5 : p i2) : p c := by
  simp only [List.mem_cons, List.not_mem_nil, or_false] at h
  rcases h with q | q | q | q | q <;> (subst q; assumption)
theorem turn_zipA {P : Program} {w : World} {K : PySem.W.Frag} {elts : List Expr} {kk : Nat} {tpos : Pos} {a b z TI TO i1 i2 : Addr} (D : ZipApart z TI TO i1 i2 a b) :
    Turn P w K (.Tuple elts kk tpos) (ItzA K a b) [z, TI, TO, i1, i2] z (fun i h => IsZip h z TI TO .none ∧ IsPair h TI (.ref i1) (.ref i2) ∧ (∃ x y, IsPair h TO x y) ∧ h.IsTupleIter i1 a i ∧ h.IsListIter i2 b i) where
  mem := List.mem_cons_self
  obj := fun i h st c hc => by
    obtain ⟨k1, k2, ⟨x, y, k3⟩, ⟨o4, k4, _, d4⟩, ⟨o5, k5, _, d5⟩⟩ := st
    exact five (p := fun c => ∃ o, h.get? c = some o ∧ ∀ v, o.data ≠ .cell v) hc ⟨_, k1, fun v q => nomatch q⟩ ⟨_, k2, fun v q => nomatch q⟩ ⟨_, k3, fun v q => nomatch q⟩ ⟨o4, k4, fun v q => by rw [d4] at q; cases q⟩ ⟨o5, k5, fun v q => by rw [d5] at q; cases q⟩
  keep := fun i h h' ⟨k1, k2, ⟨x, y, k3⟩, k4, k5⟩ k => ⟨k _ (by simp) _ k1, k _ (by simp) _ k2, ⟨x, y, k _ (by simp) _ k3⟩, k4.at fun o q => k _ (by simp) o q, k5.at fun o q => k _ (by simp) o q⟩
  item := by
    intro X hP hw hK hc i pins s σ H E I hf st hg
    subst hP hw hK
    obtain ⟨k1, k2, ⟨x0, y0, k3⟩, k4, k5⟩ := st
    obtain ⟨xs, ys, x, y, sx, sy, hx, hy⟩ := hg
    obtain ⟨us, rx, px, _⟩ := I.tuple sx
    obtain ⟨vs, ry, py, _⟩ := I.list sy
    obtain ⟨u, hu, ru⟩ := rx.get hx
    obtain ⟨v, hv, rv⟩ := ry.get hy
    have zl : z < s.heap.objs.size := Heap.lt_size k1
    refine zip_item D src_tup src_lst k1 k2 k3 k4 k5 (show s.heap.IsTuple a us.toArray from px) py.isList (x := u) (y := v) (by simpa using hu) (by simpa using hv) fun h1 m1 m2 m3 m4 m5 m6 m7 => ?_
    refine ⟨_, rfl, wpAny_letOwnedTupleGo_zip (s := { s with heap := h1 }) m1 fun h2 n1 sb => ?_⟩
    have t2 : h2.get? s.heap.objs.size = some { cls := .type "tuple", data := .seq #[u, v] } := (sb.2 _ (Nat.ne_of_gt zl)).trans m5
    have new : ObjOk X.prog X.w (upd H s.heap.objs.size (.tup [x, y])) h2 s.heap.objs.size (.tup [x, y]) := ⟨(by decide : 2 ≤ sizeLine), [u, v], .cons ru (.cons rv .nil), ⟨_, t2, rfl, _, rfl⟩⟩
    have far : ∀ c o, c ∉ [z, TI, TO, i1, i2] → s.heap.get? c = some o → h2.get? c = some o := fun c o n q => by
      simp only [List.mem_cons, List.not_mem_nil, or_false, not_or] at n
      exact (sb.2 c n.1).trans (m7 c o ⟨n.1, n.2.2.1, n.2.2.2.1, n.2.2.2.2⟩ q)
    have J : Inv X pins σ (upd H s.heap.objs.size (.tup [x, y])) { s with heap := h2 } := I.turnedNew (t' := s.toks) (ch := [z, TI, TO, i1, i2]) far hf (Nat.le_refl _) new
    refine ⟨.ref s.heap.objs.size, _, J, rfl, ⟨_, x, y, rfl, I.hok.fresh (Nat.le_refl _), rfl, fun l hl => by rw [I.tuple_inj hl sx]; exact hx, fun l hl => by rw [I.list_inj hl sy]; exact hy⟩, ⟨n1, ?_, ⟨u, v, ?_⟩, ?_, ?_⟩, fun c hcm => ?_⟩
    · exact (sb.2 _ D.TIz).trans (m7 _ _ ⟨D.TIz, D.TITO, D.TIi1, D.TIi2⟩ k2)
    · exact (sb.2 _ D.TOz).trans m2
    · exact m3.at fun o q => (sb.2 _ D.i1z).trans q
    · exact m4.at fun o q => (sb.2 _ D.i2z).trans q
    · have lt : c < s.heap.objs.size := by
        obtain ⟨_, e4, _⟩ := k4
        obtain ⟨_, e5, _⟩ := k5
        exact five (p := fun c => c < s.heap.objs.size) hcm zl (Heap.lt_size k2) (Heap.lt_size k3) (Heap.lt_size e4) (Heap.lt_size e5)
      rw [upd_ne (Nat.ne_of_lt lt)]
      exact (hf c hcm).1
  done := by
    intro X hP hw hK hc i pins s σ H E I hf st hg
    subst hP hw hK
    obtain ⟨k1, k2, ⟨x0, y0, k3⟩, k4, k5⟩ := st
    obtain ⟨xs, ys, sx, sy, hend⟩ := hg
    obtain ⟨us, rx, px, _⟩ := I.tuple sx
    obtain ⟨vs, ry, py, _⟩ := I.list sy
    have e1 := rx.length
    have e2 := ry.length
    refine zip_stop (I.ok.hd hc) D src_tup src_lst k1 k2 k3 k4 k5 (show s.heap.IsTuple a us.toArray from px) py.isList (hend.imp (fun q => by simp; omega) (fun q => by simp; omega)) fun h' kk => ⟨rfl, I.turnedL (t' := s.toks) (ch := [z, TI, TO, i1, i2]) (fun c o n q => ?_) hf⟩
    simp only [List.mem_cons, List.not_mem_nil, or_false, not_or] at n
    exact kk c o ⟨n.1, n.2.2.1, n.2.2.2.1, n.2.2.2.2⟩ q
  self := fun A i s Q E st h => wpAny_pyIter_zip st.1 h
def iZipTL (K : PySem.W.Frag) (ta : TA) : TI := fun σ H R => ta σ H fun vs G => ∃ a b xs ys, vs = [.ref a, .ref b] ∧ SqT K G a xs ∧ SqL K G b ys ∧ R (ItzA K a b) G
theorem pi_zipTL {X : Cx} {e e2 : Expr} {ta : TA} {p pos tpos : Pos} {elts : List Expr} {kk : Nat} (hg : Gl X "zip") (hm : X.mg "zip" = none) (ha : PA X [e, e2] ta)
    (hs : starEach [e, e2] X.env = (false, eval e X.env) :: starEach [e2] X.env) (hpl : (backTo pos (starEach [e2] X.env)).any (·.1) = false) :
    PI X (.Tuple elts kk tpos) (.Call (.Name "zip" p) [e, e2] [] pos) (iZipTL X.K ta) := by
  refine ⟨fun pins s σ H R I h => Call_ (ld_blt I hg hm PyProof.Rows.boot_zip (PyProof.Rows.callWith_type1 (thn (ha.run pos pins s σ H _ I h) fun us s1 ⟨vs, H1, I1, r1, a, b, xs, ys, ev, sx, sy, q⟩ => ?_) hs hpl))⟩
  subst ev
  cases r1 with
  | cons r rr => cases rr with
    | cons r' rr =>
      cases rr; cases r; cases r'
      obtain ⟨us, rx, px, _⟩ := I1.tuple sx
      obtain ⟨vs, ry, py, _⟩ := I1.list sy
      obtain ⟨o1, ho1, _⟩ := id px
      refine call_zipA (show s1.heap.IsTuple a us.toArray from px) py.isList fun h' ⟨k1, k2, k3, k4, k5, kk⟩ => wpAny_pyIter_zip k1 ?_
      have new : ∀ c, s1.heap.objs.size ≤ c → FpOk X pins H1 c := fun c le => I1.fpOk le (I1.hok.fresh le)
      refine ⟨s1.heap.objs.size + 4, [s1.heap.objs.size + 4, s1.heap.objs.size + 2, s1.heap.objs.size + 3, s1.heap.objs.size, s1.heap.objs.size + 1], _, _, H1, rfl, I1.kept (t' := s1.toks) kk, turn_zipA (PySem.W.ktu_apart s1.heap.objs.size a b (Heap.lt_size ho1) py.lt), ⟨k1, k2, ⟨_, _, k3⟩, k4, k5⟩, fun c hc => ?_, q⟩
      exact five hc (new _ (Nat.le_add_right _ _)) (new _ (Nat.le_add_right _ _)) (new _ (Nat.le_add_right _ _)) (new _ (Nat.le_refl _)) (new _ (Nat.le_add_right _ _))
section
variable {K : PySem.W.Frag} {F1 : Hp}
theorem y_zipTL {a b : Addr} {xs ys : List V} {ds es : List PyData} (s : SqT K F1 a xs) (r : DpAll K F1 xs ds) (s2 : SqL K F1 b ys) (r2 : DpAll K F1 ys es) (hl : ds.all looseP = true) : Yields K (ItzA K a b) F1 (zipD ds es) := fun C F H σ env i R ex => by
  have t1 := ex_t (ex.trans R.fh) s
  have t2 := ex_l (ex.trans R.fh) s2
  refine ⟨fun e => ⟨xs, ys, t1, t2, by unfold zipD at e; rw [List.length_zipWith] at e; rw [r.len, r2.len]; omega⟩, fun z hz => ?_⟩
  obtain ⟨d, e, h1, h2, rfl⟩ := zipD_at hz
  obtain ⟨x, hx, dx⟩ := r.get h1
  obtain ⟨y, hy, dy⟩ := r2.get h2
  refine ⟨⟨xs, ys, x, y, t1, t2, hx, hy⟩, fun v' H' ⟨T, x', y', ev, hT, eH, k1, k2⟩ => ?_⟩
  subst ev eH
  have e1 := k1 xs t1
  have e2 := k2 ys t2
  rw [hx] at e1
  rw [hy] at e2
  cases e1
  cases e2
  exact zip_new R hT (dp_mono ex dx) (dp_mono ex dy) (dp_loose dx (List.all_eq_true.mp hl d (List.mem_of_getElem? h1)))
end
def zipTL (d e : PyData) : Option (List PyData) := match d, e with
  | .tuple ds, .list es => if ds.all looseP = true then some (zipD ds es) else none
  | _, _ => none
section
variable {X : Cx} {W : WX} {e e2 : Expr} {ga gb : M PyData} {pos p tpos : Pos} {elts : List Expr} {kk : Nat}
theorem si_zipTL (hgl : Gl X "zip") (hm : X.mg "zip" = none) (ha : SV X W e ga) (hb : SV X W e2 gb)
    (hs : starEach [e, e2] X.env = (false, eval e X.env) :: starEach [e2] X.env := by rfl) (hpl : (backTo pos (starEach [e2] X.env)).any (·.1) = false := by rfl) (h4 : starEach [e2] X.env = (false, eval e2 X.env) :: starEach [] X.env := by rfl) :
    SI X W (.Tuple elts kk tpos) (.Call (.Name "zip" p) [e, e2] [] pos) (M.bd ga fun d => M.bd gb fun e => M.opt (zipTL d e)) :=
  pi_imp (pi_zipTL hgl hm (pa_cons ha (pa_cons hb pa_nil h4) hs) hs hpl) fun σ H R ⟨C, F, env, R0, h⟩ => tG_bd R0 h fun d env1 v F1 H1 R1 e1 o1 h1 => by
    refine tG_bd R1 h1 fun e env2 u F2 H2 R2 e2 o2 h2 => ?_
    obtain ⟨ds, hds, h3⟩ := After.of_opt h2
    cases o1 with
    | tup s r =>
      cases o2 with
      | lst s2 r2 =>
        simp only [zipTL] at hds
        split at hds
        · rename_i hall
          cases hds; exact ⟨_, _, _, _, rfl, ex_t (e2.trans R2.fh) s, ex_l R2.fh s2, aft (ok := okY X.K) h3 R2 (y_zipTL (ex_t e2 s) (dps_mono e2 r) s2 r2 hall)⟩
        · cases hds
      | _ => cases hds
    | _ => cases hds
end
abbrev gZpA (ga gb : M PyData) : M (List PyData) := M.bd ga fun d => M.bd gb fun e => M.opt (zipTL d e)
end Pf
/-! part PfSE -/
set_option Elab.async false
set_option linter.all false
set_option maxRecDepth 100000
set_option maxHeartbeats 4000000
theorem L2.Room.units65 {k : Nat} {A : PySem.Around} (r : L2.Room k A) : A.units + 65 < PySem.cLine := by have := r.un; omega
namespace Pf
open PySem PySem.Spec PyProof.Rows L2 Evl
def gSortS (vs : List Nat) (j : Nat) (gt : M Bool) (ge : M PyData) (ga : M PyData) : M (List PyData) := M.bd ga fun d => M.bd (M.opt (lstO d)) fun ds env => match loopC vs (bN j) gt ge ds [] (wipeE vs env) with
  | none => none
  | some out => match intsOf out.1 with
    | some ks => if ∀ k ∈ ks, inN k then some (.ok ((srtI ks).map PyData.int, backE env vs out.2)) else none
    | none => none
section
variable {K : PySem.W.Frag} {w : World} {a D : Addr} {xs : List V} {g : TG} {tt : TT} {te : TE} {vs : List Nat} {σ : L2.St} {H1 : Hp} {Q : VK}
theorem setI_list (Pv : Nat → Hp → Prop) (h0 : Pv 0 (upd H1 D (SetO w D (fun _ => false) 0))) (hl : ∀ i G, Pv i G → SqL K G a xs)
    (hs : ∀ i x G, xs[i]? = some x → Pv i G → TurnI w D g tt te vs σ (Pv (i + 1)) x G) (hd : ∀ G, Pv xs.length G → Q (.ref D) G) :
    ∃ Wh : Nat → Nat → Hp → Prop, (∃ m, Wh 0 m (upd H1 D (SetO w D (fun _ => false) 0))) ∧
      ∀ i m G, Wh i m G → ((Itl K a).stop i G ∧ Q (.ref D) G) ∨ ((Itl K a).go i G ∧ ∃ Nx : Hp → Prop, (∀ G', Nx G' → ∃ m', m' < m ∧ Wh (i + 1) m' G') ∧ ∀ x G', (Itl K a).yld i G x G' → TurnI w D g tt te vs σ Nx x G') := by
  refine ⟨fun i m G => m + i = xs.length ∧ Pv i G, ⟨xs.length, rfl, h0⟩, ?_⟩
  rintro i m G ⟨e, p⟩
  have q := hl i G p
  cases m with
  | zero =>
    have e : i = xs.length := by omega
    subst e
    exact .inl ⟨⟨xs, q, Nat.le_refl _⟩, hd G p⟩
  | succ m =>
    have lt : i < xs.length := by omega
    refine .inr ⟨⟨xs, xs[i], q, by simp [lt]⟩, Pv (i + 1), fun G' p' => ⟨m, by omega, by omega, p'⟩, fun x G' y => ?_⟩
    obtain ⟨e, y⟩ := y
    subst e
    exact hs i x _ (y xs q) p
end
theorem sorted_same : ∀ {as bs : List Int}, as.Pairwise (· < ·) → bs.Pairwise (· < ·) → (∀ k, k ∈ as ↔ k ∈ bs) → as = bs := by
  intro as
  induction as with
  | nil =>
    intro bs _ _ h
    cases bs with
    | nil => rfl
    | cons b r => exact absurd ((h b).mpr (by simp)) (by simp)
  | cons a r ih =>
    intro bs h1 h2 h
    cases bs with
    | nil => exact absurd ((h a).mp (by simp)) (by simp)
    | cons b t =>
      obtain ⟨a1, a2⟩ := List.pairwise_cons.mp h1
      obtain ⟨b1, b2⟩ := List.pairwise_cons.mp h2
      have e : a = b := by
        have x := (h a).mp (by simp)
        have y := (h b).mpr (by simp)
        rcases List.mem_cons.mp x with x | x
        · exact x
        · rcases List.mem_cons.mp y with y | y
          · exact y.symm
          · have := b1 a x; have := a1 b y; omega
      subst e
      rw [ih a2 b2 fun k => ?_]
      constructor
      · intro hk
        rcases List.mem_cons.mp ((h k).mp (List.mem_cons_of_mem _ hk)) with z | z
        · subst z; exact absurd (a1 k hk) (by omega)
        · exact z
      · intro hk
        rcases List.mem_cons.mp ((h k).mpr (List.mem_cons_of_mem _ hk)) with z | z
        · subst z; exact absurd (b1 k hk) (by omega)
        · exact z
section
variable {X : Cx} {W : WX} {elt iter : Expr} {ifs : List Expr} {scope : Scope} {own : List (Str × Nat)} {ga : M PyData} {gt : M Bool} {ge : M PyData} {pos p0 p1 p2 : Pos} {x : Str} {j : Nat}
theorem so_sortedI (hc : X.calm = true) (hN : X.N.Nodup) (hgs : Gl X "sorted") (hms : X.mg "sorted" = none) (hi : SV X W iter ga) (ok : BlkOk X.N X.env.scope scope own) (hj : j ∈ own.map (·.2))
    (hg : ∀ (s : Shared) (H : Hp) (C : Addr) (cl : List (Str × Addr)) (fp : List Addr), PG (X.blk s H scope (compEnvC scope cl C X.env) fp) (.Name x p1) (gName j)) (ht : ∀ (s : Shared) (H : Hp) (C : Addr) (cl : List (Str × Addr)) (fp : List Addr), STs (X.blk s H scope (compEnvC scope cl C X.env) fp) W0 ifs gt)
    (he : ∀ (s : Shared) (H : Hp) (C : Addr) (cl : List (Str × Addr)) (fp : List Addr), SV (X.blk s H scope (compEnvC scope cl C X.env) fp) W0 elt ge) (hs : ∀ x, foldedSetIterable iter X.env x = pure x := by intro _; rfl)
    (h2 : starEach [.SetComp elt [⟨.Name x p1, iter, ifs, 0⟩] scope pos] X.env = (false, eval (.SetComp elt [⟨.Name x p1, iter, ifs, 0⟩] scope pos) X.env) :: starEach [] X.env := by rfl) (hpl : (backTo p2 (starEach [] X.env)).any (·.1) = false := by rfl) :
    SO X W (.Call (.Name "sorted" p0) [.SetComp elt [⟨.Name x p1, iter, ifs, 0⟩] scope pos] [] p2) (gSortS (own.map (·.2)) j gt ge ga) :=
  pe_imp (pe_callB (cr_sortedSet hc) hgs hms (by decide +kernel) (pa_cons (pe_setI (tt := tG X.K X.mg okB W0 gt) (te := tG X.K X.mg (okV X.K) W0 ge) hc hN (pi_list hi) ok hg ht he hs) pa_nil h2) (by decide) (by decide) h2 hpl) fun σ H Q ⟨C, F, env, R, h⟩ => tG_bd R h fun d env1 v F1 H1 R1 e1 o1 h1 => by
    obtain ⟨ds, hds, h2⟩ := bd_opt h1
    cases q : loopC (own.map (·.2)) (bN j) gt ge ds [] (wipeE (own.map (·.2)) env1) with
    | none => simp only [q] at h2; exact h2.elim
    | some out =>
      simp only [q] at h2
      cases q2 : intsOf out.1 with
      | none => simp only [q2] at h2; exact h2.elim
      | some ks =>
        simp only [q2] at h2
        by_cases hin : ∀ k ∈ ks, inN k
        · rw [if_pos hin] at h2
          have h2 : After X.K X.mg (okO X.K) W C F1 σ (M.ok ((srtI ks).map PyData.int) (backE env1 (own.map (·.2)) out.2)) Q := h2
          cases o1 with
          | lst s r =>
            cases hds
            rename_i a xs
            refine ⟨a, rfl, ⟨xs, ex_l R1.fh s⟩, fun D hD => setI_list (g := gName j) (tt := tG X.K X.mg okB W0 gt) (te := tG X.K X.mg (okV X.K) W0 ge) (vs := own.map (·.2)) (σ := σ) (Q := fun x H1 => tNil σ H1 fun xs H2 => rSortedSet X.w (x :: xs) H2 Q) (xs := xs) (fun i => BtwS X.w X.K C F1 σ (own.map (·.2)) (bN j) gt ge D out (ds.drop i)) (bts_start R1 hD q) (fun i H ⟨F, env, ks, n, R, ex, _⟩ => ex_l (ex.trans R.fh) s) (fun i x H hx hB => ?_) (fun H hB => ?_)⟩
            · obtain ⟨d, hd, dd⟩ := DpAll_at r hx
              rw [drop_at hd] at hB
              exact bts_turn (mg := X.mg) R1 hD hj rfl dd ⟨ks, q2, hin⟩ hB
            · rw [List.drop_eq_nil_of_le (Nat.le_of_eq r.len.symm)] at hB
              obtain ⟨F2, ks2, R2, ex2, eo, hS⟩ := bts_end R1 hD hB
              have ek : ks2 = ks := by rw [eo, intsOf_map] at q2; exact Option.some.inj q2
              subst ek
              refine ⟨D, memS ks2, (srtI ks2).length, rfl, hS, Nat.lt_succ_of_le (srtI_le ks2), fun ns p h1 h2' h3 hp => ?_⟩
              have en : ns = srtI ks2 := by
                refine sorted_same h1 (srtI_sorted ks2) fun k => ?_
                rw [h2' k, mem_srtI hin]
                exact decide_eq_true_iff
              subst en
              refine aft' (ok := okO X.K) h2 (R2.newH hp) (ex2.trans (Ex.refl _)) (okO_new R2 hp ?_)
              clear h1 h2' h3
              induction srtI ks2 with
              | nil => exact .nil
              | cons k r ih => exact .cons (.int k) ih
          | _ => cases hds
        · rw [if_neg hin] at h2
          exact h2.elim
end
end Pf
/-! part RdC -/
set_option Elab.async false
set_option linter.all false
set_option maxRecDepth 100000
set_option maxHeartbeats 4000000
namespace Q
open PySem PySem.Spec L2 Evl Pf
def G_is_number : S :=
  (gRet (gAnd (gIsa "int" (gN 0)) (gNot (gIsa "bool" (gN 0)))))
def m_is_number : List PyData → Rf PyData := fnD G_is_number 1
def G_is_place : S :=
  (gRet (gAnd (gCall m_is_number (gCons (gN 0) gNil)) (gChain (gC (.int 0)) (gN 0) (gN 1) (cmpD fun i j => decide (i ≤ j)) (cmpD fun i j => decide (i < j)))))
def m_is_place : List PyData → Rf PyData := fnD G_is_place 2
def G_is_price : S :=
  (gRet (gOr (gCmp isD (gN 0) (gC .none)) (gAnd (gCall m_is_number (gCons (gN 0) gNil)) (gChain (gC (.int 1)) (gN 0) (gC (.int 99)) (cmpD fun i j => decide (i ≤ j)) (cmpD fun i j => decide (i ≤ j))))))
def m_is_price : List PyData → Rf PyData := fnD G_is_price 1
def b1_lot_of : S :=
  (gIfS (gTst inD (gN 1) (gN 3)) (gRet (gN 2)) gNx)
def G_lot_of : S :=
  (gSeq (gForET (gN 0) (bTup 2 (bCons (bN 2) (bCons (bN 3) bNil))) b1_lot_of)
  (gRet (gC .none)))
def m_lot_of : List PyData → Rf PyData := fnD G_lot_of 4
def b1_wrong_price : S :=
  (gIfS (gOrT (gTst eqD (gN 1) (gC (.int 12))) (gNotT (gTru (gCall m_is_price (gCons (gN 2) gNil))))) (gRet (gN 1)) gNx)
def G_wrong_price : S :=
  (gSeq (gIfS (gOrT (gNotT (gTru (gIsa "tuple" (gN 0)))) (gTst eqD (gLenP 0) (gC (.int 0)))) (gRet (gC (.int 0))) gNx)
  (gSeq (gForET (gN 0) (bTup 2 (bCons (bN 1) (bCons (bN 2) bNil))) b1_wrong_price)
  (gRet (gC .none))))
def m_wrong_price : List PyData → Rf PyData := fnD G_wrong_price 3
def b1_wrong_lot : S :=
  (gSeq (gIfS (gOrT (gNotT (gTru (gCall m_is_place (gCons (gN 7) (gCons (gN 1) gNil))))) (gHasS 4 (gN 7))) (gRet (gN 5)) gNx)
  (gAddS 4 (gN 7)))
def b2_wrong_lot : S :=
  (gSeq (gIfS (gOrT (gTst eqD (gN 5) (gN 3)) (gNotT (gTru (gIsa "tuple" (gN 6))))) (gRet (gN 5)) gNx)
  (gForT (gN 6) (bN 7) b1_wrong_lot))
def G_wrong_lot : S :=
  (gSeq (gIfS (gNotT (gTru (gIsa "tuple" (gN 0)))) (gRet (gC (.int 0))) gNx)
  (gSeq (gMkS 4)
  (gSeq (gForET (gN 0) (bTup 2 (bCons (bN 5) (bCons (bN 6) bNil))) b2_wrong_lot)
  (gSeq (gIfS (gTst (cmpD fun i j => decide (i < j)) (gLenP 0) (gN 2)) (gRet (gLenP 0)) gNx)
  (gRet (gC .none))))))
def m_wrong_lot : List PyData → Rf PyData := fnD G_wrong_lot 8
def b1_missing_book : S :=
  (gIfS (gTst isD (gCall m_lot_of (gCons (gN 0) (gCons (gN 2) gNil))) (gC .none)) (gRet (gN 2)) gNx)
def G_missing_book : S :=
  (gSeq (gForR1 (gN 1) (bN 2) b1_missing_book)
  (gRet (gC .none)))
def m_missing_book : List PyData → Rf PyData := fnD G_missing_book 3
def G_check_shelf : S :=
  (gSeq (gIfS (gOrT (gNotT (gTru (gIsa "tuple" (gN 0)))) (gTst neD (gLenP 0) (gC (.int 2)))) (gRaise "BadShelf" ["part", "number"] (gCons (gUn negD (gC (.int 1))) (gCons (gC (.int 0)) gNil))) gNx)
  (gSeq (gAsg (bTup 2 (bCons (bN 1) (bCons (bN 2) bNil))) (gN 0))
  (gSeq (gSet 3 (gCall m_wrong_price (gCons (gN 1) gNil)))
  (gSeq (gIfS (gTst isnD (gN 3) (gC .none)) (gRaise "BadShelf" ["part", "number"] (gCons (gC (.int 0)) (gCons (gN 3) gNil))) gNx)
  (gSeq (gSet 3 (gCall m_wrong_lot (gCons (gN 2) (gCons (gLenP 1) (gCons (gC (.int 1)) (gCons (gC (.int 5)) gNil))))))
  (gSeq (gIfS (gTst isnD (gN 3) (gC .none)) (gRaise "BadShelf" ["part", "number"] (gCons (gC (.int 1)) (gCons (gN 3) gNil))) gNx)
  (gSeq (gSet 3 (gCall m_missing_book (gCons (gN 2) (gCons (gLenP 1) gNil))))
  (gIfS (gTst isnD (gN 3) (gC .none)) (gRaise "BadShelf" ["part", "number"] (gCons (gC (.int 2)) (gCons (gN 3) gNil))) gNx))))))))
def m_check_shelf : List PyData → Rf PyData := fnD G_check_shelf 4
def G_check_goal : S :=
  (gSeq (gAsg (bTup 2 (bCons (bN 2) (bCons (bN 3) bNil))) (gN 0))
  (gSeq (gSet 4 (gLenP 3))
  (gSeq (gSet 5 (gCall m_wrong_lot (gCons (gN 1) (gCons (gLenP 2) (gCons (gN 4) (gCons (gN 4) gNil))))))
  (gSeq (gIfS (gTst isnD (gN 5) (gC .none)) (gRaise "BadGoal" ["number"] (gCons (gN 5) gNil)) gNx)
  (gIfS (gTst isnD (gCall m_missing_book (gCons (gN 1) (gCons (gLenP 2) gNil))) (gC .none)) (gRaise "BadGoal" ["number"] (gCons (gN 4) gNil)) gNx)))))
def m_check_goal : List PyData → Rf PyData := fnD G_check_goal 6
def t1_fixed_books : M Bool :=
  (gTst isD (gIxP 0 (gN 2)) (gC .none))
def e2_fixed_books : M PyData :=
  (gN 2)
def G_fixed_books : S :=
  (gRetO (gLcT [2] 2 t1_fixed_books e2_fixed_books (gN 1)))
def m_fixed_books : List PyData → Rf (List PyData) := fnO G_fixed_books 3
def t1_price_of : M Bool :=
  (gTst isnD (gIxP 0 (gN 2)) (gC .none))
def e2_price_of : M PyData :=
  (gIxP 0 (gN 2))
def G_price_of : S :=
  (gRet (gBlt sumK (gCons (gFz (gLcT [2] 2 t1_price_of e2_price_of (gN 1))) gNil)))
def m_price_of : List PyData → Rf PyData := fnD G_price_of 3
def t1_stands : M Bool :=
  (gTst inD (gN 2) (gN 1))
def e2_stands : M PyData :=
  (gN 2)
def G_stands : S :=
  (gRet (gCmp eqD (gFz (gLcT [2] 2 t1_stands e2_stands (gN 0))) (gFz (gList (gN 1)))))
def m_stands : List PyData → Rf PyData := fnD G_stands 3
def b1_holding : S :=
  (gSeq (gSet 8 (gSlT (gN 2) (gPt (gN 6)) (gPt (gN 7))))
  (gIfS (gAndT (gTru (gCall m_stands (gCons (gN 1) (gCons (gN 8) gNil)))) (gTst eqD (gFz (gCall m_fixed_books (gCons (gN 0) (gCons (gN 8) gNil)))) (gN 3))) (gApp 5 (gTup (gCons (gN 6) (gCons (gN 7) gNil)))) gNx))
def b2_holding : S :=
  (gForG (gR2 (gBin addD (gN 6) (gC (.int 1))) (gBin addD (gN 4) (gC (.int 1)))) (bN 7) b1_holding)
def G_holding : S :=
  (gSeq (gSetO 3 (gCall m_fixed_books (gCons (gN 0) (gCons (gN 2) gNil))))
  (gSeq (gSet 4 (gLenP 2))
  (gSeq (gSetO 5 (gLst gNil))
  (gSeq (gForR1 (gN 4) (bN 6) b2_holding)
  (gRetO (gNO 5))))))
def m_holding : List PyData → Rf (List PyData) := fnO G_holding 9
def e1_dearest : M PyData :=
  (gCall m_price_of (gCons (gN 0) (gCons (gSlT (gN 2) (gPt (gN 6)) (gPt (gN 7))) gNil)))
def t2_dearest : M Bool :=
  (gTst eqD (gN 9) (gN 5))
def e3_dearest : M PyData :=
  (gN 8)
def G_dearest : S :=
  (gSeq (gSetO 3 (gCall m_holding (gCons (gN 0) (gCons (gN 1) (gCons (gN 2) gNil)))))
  (gSeq (gSetO 4 (gLcG [6, 7] (bTup 2 (bCons (bN 6) (bCons (bN 7) bNil))) gYes e1_dearest (gLl (gN 3))))
  (gSeq (gSet 5 (gMxD (gN 4) (gC (.int 0))))
  (gRetO (gLcG [8, 9] (bTup 2 (bCons (bN 8) (bCons (bN 9) bNil))) t2_dearest e3_dearest (gZp (gN 3) (gN 4)))))))
def m_dearest : List PyData → Rf (List PyData) := fnO G_dearest 10
def e1_splits : M PyData :=
  (gTup (gCons (gN 4) (gCons (gN 4) gNil)))
def G_splits : S :=
  (gSeq (gSetO 3 (gCall m_dearest (gCons (gN 0) (gCons (gN 1) (gCons (gN 2) gNil)))))
  (gSeq (gIfS (gOrT (gTru (gN 3)) (gTru (gFz (gCall m_fixed_books (gCons (gN 0) (gCons (gN 2) gNil)))))) (gRet (gN 3)) gNx)
  (gRet (gFz (gLcR [4] 4 gYes e1_splits (gBin addD (gLenP 2) (gC (.int 1))))))))
def m_splits : List PyData → Rf PyData := fnD G_splits 5
def e1_splits_by_lot : M PyData :=
  (gCall m_splits (gCons (gN 2) (gCons (gN 4) (gCons (gN 5) gNil))))
def G_splits_by_lot : S :=
  (gSeq (gAsg (bTup 2 (bCons (bN 2) (bCons (bN 3) bNil))) (gN 0))
  (gRetO (gLcG [4, 5] (bTup 2 (bCons (bN 4) (bCons (bN 5) bNil))) gYes e1_splits_by_lot (gZp (gN 3) (gN 1)))))
def m_splits_by_lot : List PyData → Rf (List PyData) := fnO G_splits_by_lot 6
def e1_deeds_around : M PyData :=
  (gTup (gCons (gN 6) (gCons (gN 0) (gCons (gC (.str "first")) gNil))))
def e2_deeds_around : M PyData :=
  (gTup (gCons (gN 6) (gCons (gN 0) (gCons (gC (.str "last")) gNil))))
def G_deeds_around : S :=
  (gSeq (gAsg (bTup 2 (bCons (bN 3) (bCons (bN 4) bNil))) (gN 2))
  (gSeq (gSetO 5 (gLcG [6] (bN 6) gYes e1_deeds_around (gRv (gSlT (gN 1) gNoPt (gPt (gN 3))))))
  (gRetO (gCat (gNO 5) (gLcT [6] 6 gYes e2_deeds_around (gSlT (gN 1) (gPt (gN 4)) gNoPt))))))
def m_deeds_around : List PyData → Rf (List PyData) := fnO G_deeds_around 7
def b1_least_way : S :=
  (gSeq (gIfS (gNotT (gTru (gN 5))) (gRet (gC .none)) gNx)
  (gExt 3 (gCall m_deeds_around (gCons (gN 4) (gCons (gIxP 1 (gN 4)) (gCons (gIxP 5 (gC (.int 0))) gNil))))))
def e2_least_way : M PyData :=
  (gIxP 2 (gIxP 6 (gC (.int 0))))
def G_least_way : S :=
  (gSeq (gSet 2 (gIxP 0 (gC (.int 0))))
  (gSeq (gSetO 3 (gLst gNil))
  (gSeq (gForEL (gFz (gCall m_splits_by_lot (gCons (gN 0) (gCons (gN 1) gNil)))) (bTup 2 (bCons (bN 4) (bCons (bN 5) bNil))) b1_least_way)
  (gRet (gTup (gCons (gBlt sumK (gCons (gFz (gLcL [6] 6 gYes e2_least_way (gN 3))) gNil)) (gCons (gN 3) gNil)))))))
def m_least_way : List PyData → Rf PyData := fnD G_least_way 7
def G_least : S :=
  (gSeq (gEx (gCall m_check_shelf (gCons (gN 0) gNil)))
  (gSeq (gEx (gCall m_check_goal (gCons (gN 0) (gCons (gN 1) gNil))))
  (gRet (gCall m_least_way (gCons (gN 0) (gCons (gN 1) gNil))))))
def m_least : List PyData → Rf PyData := fnD G_least 2
def b1__law_start : S :=
  (gSet 1 (gBin modD (gBin addD (gBin addD (gBin mulD (gN 1) (gC (.int 48271))) (gN 2)) (gC (.int 7))) (gC (.int 2147483647))))
def G__law_start : S :=
  (gSeq (gSet 1 (gC (.int 1)))
  (gSeq (gForL (gN 0) (bN 2) b1__law_start)
  (gRetO (gLst (gCons (gN 0) (gCons (gC (.int 0)) (gCons (gN 1) (gCons (gC (.int 0)) gNil))))))))
def m__law_start : List PyData → Rf (List PyData) := fnO G__law_start 3
def G__law_drawn : S :=
  (gSeq (gIfS (gTst (cmpD fun i j => decide (j < i)) (gIxP 0 (gC (.int 3))) (gC (.int 0))) (gSeq (gSet 2 (gBin modD (gIxP 0 (gC (.int 3))) (gN 1)))
  (gSeq (gSetIx 0 (gBin divD (gIxP 0 (gC (.int 3))) (gN 1)) (gC (.int 3)))
  (gRet (gN 2)))) gNx)
  (gSeq (gSetIx 0 (gBin addD (gIxP 0 (gC (.int 1))) (gC (.int 1))) (gC (.int 1)))
  (gSeq (gIfS (gTst (cmpD fun i j => decide (i ≤ j)) (gIxP 0 (gC (.int 1))) (gBlt lenK (gCons (gIxP 0 (gC (.int 0))) gNil))) (gSeq (gSet 3 (gBin atD (gIxP 0 (gC (.int 0))) (gBin subD (gIxP 0 (gC (.int 1))) (gC (.int 1)))))
  (gSeq (gSetIx 0 (gIf (gTst (cmpD fun i j => decide (j ≤ i)) (gN 3) (gBin powD (gC (.int 10)) (gC (.int 18)))) (gBin divD (gN 3) (gN 1)) (gC (.int 0))) (gC (.int 3)))
  (gRet (gBin modD (gN 3) (gN 1))))) gNx)
  (gSeq (gSetIx 0 (gBin modD (gBin addD (gBin mulD (gIxP 0 (gC (.int 2))) (gC (.int 48271))) (gC (.int 11))) (gC (.int 2147483647))) (gC (.int 2)))
  (gRet (gBin modD (gBin divD (gIxP 0 (gC (.int 2))) (gC (.int 7))) (gN 1)))))))
def m__law_drawn : List PyData → List PyData → Rf (PyData × List PyData) := fnB G__law_drawn 4
def t1__law_turned : M Bool :=
  (gTstL neD 2 (gFz (gLst gNil)))
def b2__law_turned : S :=
  (gApp 3 (gPopAt 2 (gCallB 0 (gCons (gLenP 2) gNil) m__law_drawn)))
def G__law_turned : S :=
  (gSeq (gParOO 2 3 (gListR (gN 1)) (gLst gNil))
  (gSeq (loopW t1__law_turned b2__law_turned 100)
  (gRetO (gNO 3))))
def m__law_turned : List PyData → List PyData → Rf (List PyData × List PyData) := fnBO G__law_turned 4
def b1__law_lots : S :=
  (gSeq (gSet 5 (gCallB 0 (gCons (gN 2) gNil) m__law_drawn))
  (gSetIx 3 (gBin addD (gIxP 3 (gN 5)) (gTup (gCons (gN 4) gNil))) (gN 5)))
def G__law_lots : S :=
  (gSeq (gSetO 3 (gRep (gLst (gCons (gTup gNil) gNil)) (gN 2)))
  (gSeq (gForL (gFz (gCallB 0 (gCons (gN 1) gNil) m__law_turned)) (bN 4) b1__law_lots)
  (gRet (gBlt tupK (gCons (gN 3) gNil)))))
def m__law_lots : List PyData → List PyData → Rf (PyData × List PyData) := fnB G__law_lots 6
def e1__law_shelf : M PyData :=
  (gIf (gTst eqD (gCallB 0 (gCons (gN 5) gNil) m__law_drawn) (gC (.int 0))) (gC .none) (gBin addD (gC (.int 1)) (gCallB 0 (gCons (gN 4) gNil) m__law_drawn)))
def G__law_shelf : S :=
  (gSeq (gAsg (bTup 2 (bCons (bN 3) (bCons (bN 4) bNil))) (gTup (gCons (gBin addD (gC (.int 1)) (gCallB 0 (gCons (gN 1) gNil) m__law_drawn)) (gCons (gBin atD (gFz (gLst (gCons (gC (.int 2)) (gCons (gC (.int 9)) (gCons (gC (.int 99)) gNil))))) (gCallB 0 (gCons (gC (.int 3)) gNil) m__law_drawn)) gNil))))
  (gSeq (gSet 5 (gBin atD (gFz (gLst (gCons (gC (.int 4)) (gCons (gC (.int 12)) (gCons (gC (.int 60)) gNil))))) (gCallB 0 (gCons (gC (.int 3)) gNil) m__law_drawn)))
  (gSeq (gSet 6 (gBlt tupK (gCons (gFz (gLcR [7] 7 gYes e1__law_shelf (gN 3))) gNil)))
  (gRet (gTup (gCons (gN 6) (gCons (gCallB 0 (gCons (gN 3) (gCons (gBin addD (gC (.int 1)) (gCallB 0 (gCons (gN 2) gNil) m__law_drawn)) gNil)) m__law_lots) gNil)))))))
def m__law_shelf : List PyData → List PyData → Rf (PyData × List PyData) := fnB G__law_shelf 8
def t1__law_placed : M Bool :=
  (gTst neD (gN 6) (gN 1))
def e2__law_placed : M PyData :=
  (gN 6)
def e3__law_placed : M PyData :=
  (gBlt tupK (gCons (gFz (gLcT [6] 6 t1__law_placed e2__law_placed (gN 5))) gNil))
def G__law_placed : S :=
  (gSeq (gSetO 4 (gLcT [5] 5 gYes e3__law_placed (gN 0)))
  (gSeq (gSetIx 4 (gIf (gTst eqD (gN 3) (gC (.str "first"))) (gBin addD (gTup (gCons (gN 1) gNil)) (gIxP 4 (gN 2))) (gBin addD (gIxP 4 (gN 2)) (gTup (gCons (gN 1) gNil)))) (gN 2))
  (gRet (gBlt tupK (gCons (gN 4) gNil)))))
def m__law_placed : List PyData → Rf PyData := fnD G__law_placed 7
def b1__law_goal : S :=
  (gSeq (gE (gCons (gCallB 0 (gCons (gLenP 2) gNil) m__law_drawn) (gCons (gCallB 0 (gCons (gLenP 3) gNil) m__law_drawn) gNil)) (gPar 6 7))
  (gIfS (gOrT (gTst isnD (gIxP 2 (gN 6)) (gC .none)) (gAndT (gTst eqD (gN 4) (gC (.int 1))) (gTst eqD (gN 5) (gC (.int 2))))) (gSet 3 (gCall m__law_placed (gCons (gN 3) (gCons (gN 6) (gCons (gN 7) (gCons (gBin atD (gFz (gLst (gCons (gC (.str "first")) (gCons (gC (.str "last")) gNil)))) (gCallB 0 (gCons (gC (.int 2)) gNil) m__law_drawn)) gNil)))))) gNx))
def G__law_goal : S :=
  (gSeq (gAsg (bTup 2 (bCons (bN 2) (bCons (bN 3) bNil))) (gN 1))
  (gSeq (gSet 4 (gCallB 0 (gCons (gC (.int 6)) gNil) m__law_drawn))
  (gSeq (gIfS (gTst eqD (gN 4) (gC (.int 0))) (gRet (gCallB 0 (gCons (gLenP 2) (gCons (gLenP 3) gNil)) m__law_lots)) gNx)
  (gSeq (gForR1 (gCallB 0 (gCons (gBin atD (gFz (gLst (gCons (gC (.int 4)) (gCons (gBin addD (gBin mulD (gC (.int 2)) (gLenP 2)) (gC (.int 1))) gNil)))) (gCallB 0 (gCons (gC (.int 2)) gNil) m__law_drawn)) gNil) m__law_drawn) (bN 5) b1__law_goal)
  (gRet (gN 3))))))
def m__law_goal : List PyData → List PyData → Rf (PyData × List PyData) := fnB G__law_goal 8
def t1__law_same (mr : List PyData → Rf PyData) : M Bool :=
  (gNotT (gTru (gCall mr (gCons (gIxP 0 (gN 3)) (gCons (gIxP 1 (gN 3)) gNil)))))
def e2__law_same (mr : List PyData → Rf PyData) : M PyData :=
  (gN 3)
def G__law_same (mr : List PyData → Rf PyData) : S :=
  (gSeq (gIfS (gTru (gIsa2 "tuple" "list" (gN 1))) (gSeq (gIfS (gOrT (gNotT (gTru (gIsa2 "tuple" "list" (gN 0)))) (gTst neD (gIsa "list" (gN 0)) (gIsa "list" (gN 1)))) (gRet (gC (.bool false))) gNx)
  (gSeq (gIfS (gTst neD (gLenP 0) (gLenP 1)) (gRet (gC (.bool false))) gNx)
  (gRet (gCmp eqD (gFz (gLcR [3] 3 (t1__law_same mr) (e2__law_same mr) (gLenP 1))) (gFz (gLst gNil)))))) gNx)
  (gSeq (gSet 2 (gAnd (gCmp eqD (gIsa "bool" (gN 0)) (gIsa "bool" (gN 1))) (gCmp eqD (gIsa "int" (gN 0)) (gIsa "int" (gN 1)))))
  (gRet (gAnd (gN 2) (gCmp eqD (gN 0) (gN 1))))))
def m__law_same : Nat → List PyData → Rf PyData
  | 0 => fun _ => none
  | n + 1 => fnD (G__law_same (m__law_same n)) 4
theorem neD_int (a b : Int) : neD (.int a) (.int b) = some (!decide (a = b)) := rfl
end Q
/-! part Rd09 -/
set_option Elab.async false
set_option linter.all false
set_option maxRecDepth 100000
set_option maxHeartbeats 4000000
namespace Q
open PySem PySem.Spec L2 Evl Pf
def b1_spare : S :=
  (gExtT 4 (gSlT (gN 5) (gPt (gN 7)) (gPt (gN 8))))
def b2_spare : S :=
  (gForL (gN 6) (bTup 2 (bCons (bN 7) (bCons (bN 8) bNil))) b1_spare)
def t3_spare : M Bool :=
  (gTst isnD (gIxP 3 (gN 9)) (gC .none))
def e4_spare : M PyData :=
  (gN 9)
def G_spare : S :=
  (gSeq (gEx (gCall m_check_shelf (gCons (gN 0) gNil)))
  (gSeq (gEx (gCall m_check_goal (gCons (gN 0) (gCons (gN 1) gNil))))
  (gSeq (gSetO 2 (gCall m_splits_by_lot (gCons (gN 0) (gCons (gN 1) gNil))))
  (gSeq (gIfS (gTst inE (gFz (gLst gNil)) (gN 2)) (gRaise0 "NoWay") gNx)
  (gSeq (gSet 3 (gIxP 0 (gC (.int 0))))
  (gSeq (gSetO 4 (gLst gNil))
  (gSeq (gForG (gZpA (gN 1) (gN 2)) (bTup 2 (bCons (bN 5) (bCons (bN 6) bNil))) b2_spare)
  (gRetO (gSortS [9] 9 t3_spare e4_spare (gN 4))))))))))
def m_spare : List PyData → Rf (List PyData) := fnO G_spare 10
def G_kind_NoWay (a : Addr) : S :=
  (gSeq (gSetO 2 (gLst (gCons (gIs0 a 1 false) (gCons (gIs0 a 1 false) (gCons (gIs0 a 1 false) (gCons (gIs0 a 1 false) gNil))))))
  (gSeq (gSetO 2 (gCat (gNO 2) (gLst (gCons (gIs0 a 1 true) (gCons (gIs0 a 1 false) (gCons (gIs0 a 1 false) (gCons (gIs0 a 1 false) gNil)))))))
  (gSeq (gSetO 2 (gCat (gNO 2) (gLst (gCons (gIs0 a 1 false) gNil))))
  (gSeq (gSet 3 (gC (.str "BadShelf BadGoal BadWish BadWay NoWay BadName NoPoint Halted BadText")))
  (gSeq (gIfS (gOrT (gTst neD (gCount 2 (gC (.bool true))) (gC (.int 1))) (gNotT (gTru (gIs0 a 1 true)))) (gRet (gC (.str "other"))) gNx)
  (gSeq (gSet 4 (gBin atD (gFz (gSplit (gN 3) (gC (.str " ")))) (gIndex 2 (gC (.bool true)))))
  (gSeq (gIfS (gTst eqD (gN 4) (gC (.str "BadShelf"))) (gRet (gTup (gCons (gN 4) (gCons M.no (gCons M.no gNil))))) gNx)
  (gSeq (gIfS (gTst eqD (gN 4) (gC (.str "BadWay"))) (gRet (gTup (gCons (gN 4) (gCons M.no (gCons M.no gNil))))) gNx)
  (gSeq (gIfS (gTst eqD (gN 4) (gC (.str "Halted"))) (gRet (gTup (gCons (gN 4) (gCons M.no (gCons M.no gNil))))) gNx)
  (gSeq (gIfS (gTst inD (gN 4) (gTup (gCons (gC (.str "BadGoal")) (gCons (gC (.str "BadWish")) gNil)))) (gRet (gTup (gCons (gN 4) (gCons M.no gNil)))) gNx)
  (gRet (gIf (gTst eqD (gN 4) (gC (.str "BadText"))) (gTup (gCons (gN 4) (gCons M.no gNil))) (gN 4)))))))))))))
def kWords : List Str := ["BadShelf", "BadGoal", "BadWish", "BadWay", "NoWay", "BadName", "NoPoint", "Halted", "BadText"]
theorem words_split : splitD (.str "BadShelf BadGoal BadWish BadWay NoWay BadName NoPoint Halted BadText") (.str " ") = some (kWords.map .str) := by
  have h : ((" " : Str).length == 0) = false ∧ ("BadShelf BadGoal BadWish BadWay NoWay BadName NoPoint Halted BadText" : Str).length ≤ 1000000 := by decide +kernel
  have e : Txt.split "BadShelf BadGoal BadWish BadWay NoWay BadName NoPoint Halted BadText" " " = kWords := by decide +kernel
  show (if ((" " : Str).length == 0) = false ∧ ("BadShelf BadGoal BadWish BadWay NoWay BadName NoPoint Halted BadText" : Str).length ≤ 1000000 then some ((Txt.split "BadShelf BadGoal BadWish BadWay NoWay BadName NoPoint Halted BadText" " ").map PyData.str) else none) = _
  rw [if_pos h, e]
theorem kind_NoWay (a : Addr) : ∃ env', G_kind_NoWay a (envX0 5 1 a) = some (.rt (.str "NoWay") env') := by
  have c1 : cntD [.bool false, .bool false, .bool false, .bool false, .bool true, .bool false, .bool false, .bool false, .bool false] (.bool true) = some (.int 1) := by rfl
  have c2 : idxD [.bool false, .bool false, .bool false, .bool false, .bool true, .bool false, .bool false, .bool false, .bool false] (.bool true) = some (.int 4) := by rfl
  have c3 : atD (.list (kWords.map .str)) (.int 4) = some (.str "NoWay") := by rfl
  have e_BadShelf : eqD (.str "NoWay") (.str "BadShelf") = some false := by decide +kernel
  have e_BadWay : eqD (.str "NoWay") (.str "BadWay") = some false := by decide +kernel
  have e_Halted : eqD (.str "NoWay") (.str "Halted") = some false := by decide +kernel
  have e_in : inD (.str "NoWay") (.tuple [.str "BadGoal", .str "BadWish"]) = some false := by decide +kernel
  have e_BadText : eqD (.str "NoWay") (.str "BadText") = some false := by decide +kernel
  simp [G_kind_NoWay, envX0, gSeq, gSetO, gE, Pf.gLst, Pf.gCons, Pf.gNil, gIs0, M.bd, M.opt, M.ok, M.no, lstD, gStO, gNO, gC, gSt, gIfS, gIf, gOrT, gTst, gCount, gNotT, gTru, gHeld, c1, c2, c3, e_BadShelf, e_BadWay, e_Halted, e_in, e_BadText, neD_int, truD, gNx, gN, gSplit, words_split, gIndex, Pf.gTup, tupD, gRt, gRet, gBin, gFz]
def kindX (x : Xc) : Option PyData := match x.fs with
  | none => if x.cls = "NoWay" then some (.str "NoWay") else none
  | _ => none
def qLam : Str := (("law" : Str) ++ (".<locals>." : Str)) ++ ("<lambda>" : Str)
def b1_law (Pt : Addr) : S :=
  (gSeq (gSet 6 (gBin addD (gBin addD (gSlT (gIxP 11 (gC (.int 0))) gNoPt (gPt (gN 5))) (gTup (gCons (gC .none) gNil))) (gSlT (gIxP 11 (gC (.int 0))) (gPt (gBin addD (gN 5) (gC (.int 1)))) gNoPt)))
  (gSeq (gSet 7 (gCall m_least (gCons (gTup (gCons (gN 6) (gCons (gIxP 11 (gC (.int 1))) gNil))) (gCons (gN 10) gNil))))
  (gIfS (gAndT (gTst isnD (gBin atD (gIxP 11 (gC (.int 0))) (gN 5)) (gC .none)) (gAndT (gTst isnD (gN 7) (gC .none)) (gTst eqD (gIxP 7 (gC (.int 0))) (gIxP 3 (gC (.int 0)))))) (gApp 4 (gN 5)) gNx)))
def b2_law (Pt : Addr) : S :=
  (gSeq (gSetO 9 (gCall m_spare (gCons (gN 11) (gCons (gN 10) gNil))))
  (gSeq (gIfS (gNotT (gTru (gCallPk (m__law_same 4) 9 4))) (gRet (gC (.bool false))) gNx)
  (gApp 9 (gC (.int 0)))))
def b3_law (Pt : Addr) : S :=
  (gSeq (gSet 11 (gCallB 1 (gCons (gC (.int 12)) (gCons (gC (.int 5)) gNil)) m__law_shelf))
  (gSeq (gSet 10 (gCallB 1 (gCons (gN 11) gNil) m__law_goal))
  (gSeq (gParVO 3 4 (gCall m_least (gCons (gN 11) (gCons (gN 10) gNil))) (gLst gNil))
  (gIfS (gTst isD (gN 3) (gC .none)) (gIfS (gTst neD (gKind 12 [(Pt, qLam)] kindX (gFz (gCall m_spare (gCons (gN 11) (gCons (gN 10) gNil))))) (gC (.str "NoWay"))) (gRet (gC (.bool false))) gNx) (gSeq (gForR1 (gBlt lenK (gCons (gIxP 11 (gC (.int 0))) gNil)) (bN 5) (b1_law Pt))
  (gForR1 (gC (.int 2)) (bN 8) (b2_law Pt)))))))
def G_law (Pt : Addr) : S :=
  (gSeq (gSetO 1 (gCall m__law_start (gCons (gN 0) gNil)))
  (gSeq (gForR1 (gC (.int 3)) (bN 2) (b3_law Pt))
  (gRet (gC (.bool true)))))
def envL (Pt : Addr) (ns : List Int) : En := .val (.list (ns.map PyData.int)) :: (List.replicate 11 .no ++ [.tab [(Pt, qLam)]])
def scriptOk (ns : List Int) : Prop := ns.length ≤ 63 ∧ ∀ z ∈ ns, Builtin.Int.intBits z ≤ 1048576
end Q
/-! part K09 -/
set_option Elab.async false
set_option linter.all false
set_option maxRecDepth 100000
set_option maxHeartbeats 4000000
namespace Q
open PySem PySem.Spec L2 Evl Pf
def hBody (st : Stmt) : List Stmt := match defBody st with
  | [.Try _ [.ExceptHandler _ _ b _] _ _ _] => b
  | _ => []
def topS (i : Nat) : Stmt := PySem.Challenge.pw_pinshelf_k09_whole_books_spared.main.body.getD i (.Pass ⟨0, 0, 0, 0⟩)
abbrev s_is_number : Stmt := topS 15
abbrev N_is_number : List Str := ["value"]
theorem sc_is_number : FnScope N_is_number ["value"] (defScope s_is_number) := ⟨rfl, rfl, rfl, by decide +kernel, rfl, by decide +kernel, by decide +kernel⟩
abbrev a_is_number (f : Nat → Addr) : Addr := f 15
abbrev d_is_number (fd : Nat → FuncData) : FuncData := fd 15
abbrev s_is_place : Stmt := topS 16
abbrev N_is_place : List Str := ["value", "many"]
theorem sc_is_place : FnScope N_is_place ["value", "many"] (defScope s_is_place) := ⟨rfl, rfl, rfl, by decide +kernel, rfl, by decide +kernel, by decide +kernel⟩
abbrev a_is_place (f : Nat → Addr) : Addr := f 16
abbrev d_is_place (fd : Nat → FuncData) : FuncData := fd 16
abbrev s_is_price : Stmt := topS 17
abbrev N_is_price : List Str := ["value"]
theorem sc_is_price : FnScope N_is_price ["value"] (defScope s_is_price) := ⟨rfl, rfl, rfl, by decide +kernel, rfl, by decide +kernel, by decide +kernel⟩
abbrev a_is_price (f : Nat → Addr) : Addr := f 17
abbrev d_is_price (fd : Nat → FuncData) : FuncData := fd 17
abbrev s_lot_of : Stmt := topS 18
abbrev N_lot_of : List Str := ["lots", "book", "number", "lot"]
theorem sc_lot_of : FnScope N_lot_of ["lots", "book"] (defScope s_lot_of) := ⟨rfl, rfl, rfl, by decide +kernel, rfl, by decide +kernel, by decide +kernel⟩
abbrev a_lot_of (f : Nat → Addr) : Addr := f 18
abbrev d_lot_of (fd : Nat → FuncData) : FuncData := fd 18
abbrev s_wrong_price : Stmt := topS 19
abbrev N_wrong_price : List Str := ["prices", "number", "price"]
theorem sc_wrong_price : FnScope N_wrong_price ["prices"] (defScope s_wrong_price) := ⟨rfl, rfl, rfl, by decide +kernel, rfl, by decide +kernel, by decide +kernel⟩
abbrev a_wrong_price (f : Nat → Addr) : Addr := f 19
abbrev d_wrong_price (fd : Nat → FuncData) : FuncData := fd 19
abbrev s_wrong_lot : Stmt := topS 20
abbrev N_wrong_lot : List Str := ["lots", "books", "fewest", "most", "seen", "number", "lot", "book"]
theorem sc_wrong_lot : FnScope N_wrong_lot ["lots", "books", "fewest", "most"] (defScope s_wrong_lot) := ⟨rfl, rfl, rfl, by decide +kernel, rfl, by decide +kernel, by decide +kernel⟩
abbrev a_wrong_lot (f : Nat → Addr) : Addr := f 20
abbrev d_wrong_lot (fd : Nat → FuncData) : FuncData := fd 20
abbrev s_missing_book : Stmt := topS 21
abbrev N_missing_book : List Str := ["lots", "books", "book"]
theorem sc_missing_book : FnScope N_missing_book ["lots", "books"] (defScope s_missing_book) := ⟨rfl, rfl, rfl, by decide +kernel, rfl, by decide +kernel, by decide +kernel⟩
abbrev a_missing_book (f : Nat → Addr) : Addr := f 21
abbrev d_missing_book (fd : Nat → FuncData) : FuncData := fd 21
abbrev s_check_shelf : Stmt := topS 22
abbrev N_check_shelf : List Str := ["shelf", "prices", "lots", "number"]
theorem sc_check_shelf : FnScope N_check_shelf ["shelf"] (defScope s_check_shelf) := ⟨rfl, rfl, rfl, by decide +kernel, rfl, by decide +kernel, by decide +kernel⟩
abbrev a_check_shelf (f : Nat → Addr) : Addr := f 22
abbrev d_check_shelf (fd : Nat → FuncData) : FuncData := fd 22
abbrev s_check_goal : Stmt := topS 23
abbrev N_check_goal : List Str := ["shelf", "goal", "prices", "lots", "many", "number"]
theorem sc_check_goal : FnScope N_check_goal ["shelf", "goal"] (defScope s_check_goal) := ⟨rfl, rfl, rfl, by decide +kernel, rfl, by decide +kernel, by decide +kernel⟩
abbrev a_check_goal (f : Nat → Addr) : Addr := f 23
abbrev d_check_goal (fd : Nat → FuncData) : FuncData := fd 23
abbrev s_fixed_books : Stmt := topS 27
abbrev N_fixed_books : List Str := ["prices", "books", "book"]
theorem sc_fixed_books : FnScope N_fixed_books ["prices", "books"] (defScope s_fixed_books) := ⟨rfl, rfl, rfl, by decide +kernel, rfl, by decide +kernel, by decide +kernel⟩
abbrev a_fixed_books (f : Nat → Addr) : Addr := f 27
abbrev d_fixed_books (fd : Nat → FuncData) : FuncData := fd 27
abbrev s_price_of : Stmt := topS 28
abbrev N_price_of : List Str := ["prices", "books", "book"]
theorem sc_price_of : FnScope N_price_of ["prices", "books"] (defScope s_price_of) := ⟨rfl, rfl, rfl, by decide +kernel, rfl, by decide +kernel, by decide +kernel⟩
abbrev a_price_of (f : Nat → Addr) : Addr := f 28
abbrev d_price_of (fd : Nat → FuncData) : FuncData := fd 28
abbrev s_stands : Stmt := topS 29
abbrev N_stands : List Str := ["lot", "part", "book"]
theorem sc_stands : FnScope N_stands ["lot", "part"] (defScope s_stands) := ⟨rfl, rfl, rfl, by decide +kernel, rfl, by decide +kernel, by decide +kernel⟩
abbrev a_stands (f : Nat → Addr) : Addr := f 29
abbrev d_stands (fd : Nat → FuncData) : FuncData := fd 29
abbrev s_holding : Stmt := topS 30
abbrev N_holding : List Str := ["prices", "lot", "wanted", "fixed", "many", "found", "start", "past", "part"]
theorem sc_holding : FnScope N_holding ["prices", "lot", "wanted"] (defScope s_holding) := ⟨rfl, rfl, rfl, by decide +kernel, rfl, by decide +kernel, by decide +kernel⟩
abbrev a_holding (f : Nat → Addr) : Addr := f 30
abbrev d_holding (fd : Nat → FuncData) : FuncData := fd 30
abbrev s_dearest : Stmt := topS 31
abbrev N_dearest : List Str := ["prices", "lot", "wanted", "found", "worth", "greatest", "start", "past", "span", "price"]
theorem sc_dearest : FnScope N_dearest ["prices", "lot", "wanted"] (defScope s_dearest) := ⟨rfl, rfl, rfl, by decide +kernel, rfl, by decide +kernel, by decide +kernel⟩
abbrev a_dearest (f : Nat → Addr) : Addr := f 31
abbrev d_dearest (fd : Nat → FuncData) : FuncData := fd 31
abbrev s_splits : Stmt := topS 33
abbrev N_splits : List Str := ["prices", "lot", "wanted", "found", "at"]
theorem sc_splits : FnScope N_splits ["prices", "lot", "wanted"] (defScope s_splits) := ⟨rfl, rfl, rfl, by decide +kernel, rfl, by decide +kernel, by decide +kernel⟩
abbrev a_splits (f : Nat → Addr) : Addr := f 33
abbrev d_splits (fd : Nat → FuncData) : FuncData := fd 33
abbrev s_splits_by_lot : Stmt := topS 34
abbrev N_splits_by_lot : List Str := ["shelf", "goal", "prices", "lots", "lot", "wanted"]
theorem sc_splits_by_lot : FnScope N_splits_by_lot ["shelf", "goal"] (defScope s_splits_by_lot) := ⟨rfl, rfl, rfl, by decide +kernel, rfl, by decide +kernel, by decide +kernel⟩
abbrev a_splits_by_lot (f : Nat → Addr) : Addr := f 34
abbrev d_splits_by_lot (fd : Nat → FuncData) : FuncData := fd 34
abbrev s_deeds_around : Stmt := topS 35
abbrev N_deeds_around : List Str := ["number", "wanted", "split", "start", "past", "ahead", "book"]
theorem sc_deeds_around : FnScope N_deeds_around ["number", "wanted", "split"] (defScope s_deeds_around) := ⟨rfl, rfl, rfl, by decide +kernel, rfl, by decide +kernel, by decide +kernel⟩
abbrev a_deeds_around (f : Nat → Addr) : Addr := f 35
abbrev d_deeds_around (fd : Nat → FuncData) : FuncData := fd 35
abbrev s_least_way : Stmt := topS 36
abbrev N_least_way : List Str := ["shelf", "goal", "prices", "way", "number", "found", "deed"]
theorem sc_least_way : FnScope N_least_way ["shelf", "goal"] (defScope s_least_way) := ⟨rfl, rfl, rfl, by decide +kernel, rfl, by decide +kernel, by decide +kernel⟩
abbrev a_least_way (f : Nat → Addr) : Addr := f 36
abbrev d_least_way (fd : Nat → FuncData) : FuncData := fd 36
abbrev s_least : Stmt := topS 37
abbrev N_least : List Str := ["shelf", "goal"]
theorem sc_least : FnScope N_least ["shelf", "goal"] (defScope s_least) := ⟨rfl, rfl, rfl, by decide +kernel, rfl, by decide +kernel, by decide +kernel⟩
abbrev a_least (f : Nat → Addr) : Addr := f 37
abbrev d_least (fd : Nat → FuncData) : FuncData := fd 37
abbrev s_spare : Stmt := topS 38
abbrev N_spare : List Str := ["shelf", "goal", "found", "prices", "left", "wanted", "spans", "start", "past", "book"]
theorem sc_spare : FnScope N_spare ["shelf", "goal"] (defScope s_spare) := ⟨rfl, rfl, rfl, by decide +kernel, rfl, by decide +kernel, by decide +kernel⟩
abbrev a_spare (f : Nat → Addr) : Addr := f 38
abbrev d_spare (fd : Nat → FuncData) : FuncData := fd 38
abbrev s__law_start : Stmt := topS 40
abbrev N__law_start : List Str := ["_law_script", "_law_mixed", "_law_cell"]
theorem sc__law_start : FnScope N__law_start ["_law_script"] (defScope s__law_start) := ⟨rfl, rfl, rfl, by decide +kernel, rfl, by decide +kernel, by decide +kernel⟩
abbrev a__law_start (f : Nat → Addr) : Addr := f 40
abbrev d__law_start (fd : Nat → FuncData) : FuncData := fd 40
abbrev s__law_drawn : Stmt := topS 41
abbrev N__law_drawn : List Str := ["_law_state", "_law_many", "_law_found", "_law_cell"]
theorem sc__law_drawn : FnScope N__law_drawn ["_law_state", "_law_many"] (defScope s__law_drawn) := ⟨rfl, rfl, rfl, by decide +kernel, rfl, by decide +kernel, by decide +kernel⟩
abbrev a__law_drawn (f : Nat → Addr) : Addr := f 41
abbrev d__law_drawn (fd : Nat → FuncData) : FuncData := fd 41
abbrev s__law_same : Stmt := topS 42
abbrev N__law_same : List Str := ["_law_found", "_law_due", "_law_alike", "_law_k"]
theorem sc__law_same : FnScope N__law_same ["_law_found", "_law_due"] (defScope s__law_same) := ⟨rfl, rfl, rfl, by decide +kernel, rfl, by decide +kernel, by decide +kernel⟩
abbrev a__law_same (f : Nat → Addr) : Addr := f 42
abbrev d__law_same (fd : Nat → FuncData) : FuncData := fd 42
abbrev s__law_turned : Stmt := topS 44
abbrev N__law_turned : List Str := ["_law_state", "_law_many", "_law_left", "_law_found"]
theorem sc__law_turned : FnScope N__law_turned ["_law_state", "_law_many"] (defScope s__law_turned) := ⟨rfl, rfl, rfl, by decide +kernel, rfl, by decide +kernel, by decide +kernel⟩
abbrev a__law_turned (f : Nat → Addr) : Addr := f 44
abbrev d__law_turned (fd : Nat → FuncData) : FuncData := fd 44
abbrev s__law_lots : Stmt := topS 45
abbrev N__law_lots : List Str := ["_law_state", "_law_many", "_law_lots_here", "_law_found", "_law_book", "_law_k"]
theorem sc__law_lots : FnScope N__law_lots ["_law_state", "_law_many", "_law_lots_here"] (defScope s__law_lots) := ⟨rfl, rfl, rfl, by decide +kernel, rfl, by decide +kernel, by decide +kernel⟩
abbrev a__law_lots (f : Nat → Addr) : Addr := f 45
abbrev d__law_lots (fd : Nat → FuncData) : FuncData := fd 45
abbrev s__law_shelf : Stmt := topS 46
abbrev N__law_shelf : List Str := ["_law_state", "_law_most", "_law_lots_here", "_law_many", "_law_dear", "_law_rare", "_law_prices", "_law_k"]
theorem sc__law_shelf : FnScope N__law_shelf ["_law_state", "_law_most", "_law_lots_here"] (defScope s__law_shelf) := ⟨rfl, rfl, rfl, by decide +kernel, rfl, by decide +kernel, by decide +kernel⟩
abbrev a__law_shelf (f : Nat → Addr) : Addr := f 46
abbrev d__law_shelf (fd : Nat → FuncData) : FuncData := fd 46
abbrev s__law_placed : Stmt := topS 47
abbrev N__law_placed : List Str := ["_law_lots_here", "_law_book", "_law_number", "_law_end", "_law_found", "_law_lot", "_law_one"]
theorem sc__law_placed : FnScope N__law_placed ["_law_lots_here", "_law_book", "_law_number", "_law_end"] (defScope s__law_placed) := ⟨rfl, rfl, rfl, by decide +kernel, rfl, by decide +kernel, by decide +kernel⟩
abbrev a__law_placed (f : Nat → Addr) : Addr := f 47
abbrev d__law_placed (fd : Nat → FuncData) : FuncData := fd 47
abbrev s__law_goal : Stmt := topS 48
abbrev N__law_goal : List Str := ["_law_state", "_law_shelf_here", "_law_prices", "_law_lots_here", "_law_way", "_law_turn", "_law_book", "_law_number"]
theorem sc__law_goal : FnScope N__law_goal ["_law_state", "_law_shelf_here"] (defScope s__law_goal) := ⟨rfl, rfl, rfl, by decide +kernel, rfl, by decide +kernel, by decide +kernel⟩
abbrev a__law_goal (f : Nat → Addr) : Addr := f 48
abbrev d__law_goal (fd : Nat → FuncData) : FuncData := fd 48
abbrev s__law_kind : Stmt := topS 43
abbrev N__law_kind : List Str := ["_law_work", "e", "_law_kinds", "_law_words", "_law_word"]
theorem sc__law_kind : FnScope N__law_kind ["_law_work"] (defScope s__law_kind) := ⟨rfl, rfl, rfl, by decide +kernel, rfl, by decide +kernel, by decide +kernel⟩
abbrev a__law_kind (f : Nat → Addr) : Addr := f 43
abbrev d__law_kind (fd : Nat → FuncData) : FuncData := fd 43
abbrev s_law : Stmt := topS 49
abbrev N_law : List Str := ["_law_script", "_law_state", "_law_turn", "_law_told", "_law_due", "_law_book", "_law_prices", "_law_other", "_law_again", "_law_found", "_law_goal_here", "_law_shelf_here", ".t"]
theorem sc_law : FnScope N_law ["_law_script"] (defScope s_law) := ⟨rfl, rfl, rfl, by decide +kernel, rfl, by decide +kernel, by decide +kernel⟩
structure Tx (K : PySem.W.Frag) (mg : Str → Option Value) (f : Nat → Addr) (fd : Nat → FuncData) (g : Nat → Addr) (gd : Nat → FuncData) : Prop where
  kt : KT K
  n_ValueError : mg "ValueError" = none
  n_bool : mg "bool" = none
  n_enumerate : mg "enumerate" = none
  n_int : mg "int" = none
  n_isinstance : mg "isinstance" = none
  n_len : mg "len" = none
  n_list : mg "list" = none
  n_max : mg "max" = none
  n_range : mg "range" = none
  n_reversed : mg "reversed" = none
  n_set : mg "set" = none
  n_sorted : mg "sorted" = none
  n_sum : mg "sum" = none
  n_tuple : mg "tuple" = none
  n_zip : mg "zip" = none
  c_FIRST : ∃ u, mg "FIRST" = some u ∧ RelV (.str "first") u
  c_LAST : ∃ u, mg "LAST" = some u ∧ RelV (.str "last") u
  c_MOST_BOOKS : ∃ u, mg "MOST_BOOKS" = some u ∧ RelV (.int 12) u
  c_MOST_LOTS : ∃ u, mg "MOST_LOTS" = some u ∧ RelV (.int 5) u
  c_MOST_PRICE : ∃ u, mg "MOST_PRICE" = some u ∧ RelV (.int 99) u
  gc_BadGoal : mg "BadGoal" = some (.ref (f 3))
  gc_BadName : mg "BadName" = some (.ref (f 7))
  gc_BadShelf : mg "BadShelf" = some (.ref (f 2))
  gc_BadText : mg "BadText" = some (.ref (f 10))
  gc_BadWay : mg "BadWay" = some (.ref (f 5))
  gc_BadWish : mg "BadWish" = some (.ref (f 4))
  gc_Halted : mg "Halted" = some (.ref (f 9))
  gc_NoPoint : mg "NoPoint" = some (.ref (f 8))
  gc_NoWay : mg "NoWay" = some (.ref (f 6))
  ec_NoWay : ExcC K (f 6)
  xf_NoWay : XfC K (f 6)
  exm_NoWay : PySem.W.exmOne K (.ref (f 6)) (.ref (f 1)) = some true
  gh_ShelfError : mg "ShelfError" = some (.ref (f 1))
  kit_NoWay_BadGoal : PySem.W.kitOne K (.ref (f 6)) (.ref (f 3)) = some false
  kit_NoWay_BadName : PySem.W.kitOne K (.ref (f 6)) (.ref (f 7)) = some false
  kit_NoWay_BadShelf : PySem.W.kitOne K (.ref (f 6)) (.ref (f 2)) = some false
  kit_NoWay_BadText : PySem.W.kitOne K (.ref (f 6)) (.ref (f 10)) = some false
  kit_NoWay_BadWay : PySem.W.kitOne K (.ref (f 6)) (.ref (f 5)) = some false
  kit_NoWay_BadWish : PySem.W.kitOne K (.ref (f 6)) (.ref (f 4)) = some false
  kit_NoWay_Halted : PySem.W.kitOne K (.ref (f 6)) (.ref (f 9)) = some false
  kit_NoWay_NoPoint : PySem.W.kitOne K (.ref (f 6)) (.ref (f 8)) = some false
  kit_NoWay_NoWay : PySem.W.kitOne K (.ref (f 6)) (.ref (f 6)) = some true
  kitb_NoWay_ValueError : PySem.W.kitOne K (.ref (f 6)) (.type "ValueError") = some true
  base_ShelfError : BaseI K mg "ShelfError" (f 1)
  x_BadGoal : XCls K mg "BadGoal" (f 3) (g 3)
  fi_BadGoal : Fun K "__init__" "BadGoal.__init__" (inClass (topS 3) 0) (g 3) (gd 3)
  bk_BadGoal : ∀ (s : Shared) (u : Value) (ws : List Value), ws.length = 1 → BindsTo s (gd 3) ⟨[u], [("number" : Str)].zip ws⟩ ([("self" : Str), ("number" : Str)].zip (u :: ws))
  nf_BadGoal_number : PySem.W.findIn K (.ref (f 3)) "number" = some none
  x_BadShelf : XCls K mg "BadShelf" (f 2) (g 2)
  fi_BadShelf : Fun K "__init__" "BadShelf.__init__" (inClass (topS 2) 0) (g 2) (gd 2)
  bk_BadShelf : ∀ (s : Shared) (u : Value) (ws : List Value), ws.length = 2 → BindsTo s (gd 2) ⟨[u], [("part" : Str), ("number" : Str)].zip ws⟩ ([("self" : Str), ("part" : Str), ("number" : Str)].zip (u :: ws))
  nf_BadShelf_part : PySem.W.findIn K (.ref (f 2)) "part" = some none
  nf_BadShelf_number : PySem.W.findIn K (.ref (f 2)) "number" = some none
  xn_NoWay : XNo K mg "NoWay" (f 6)
  g_is_number : mg "is_number" = some (.ref (a_is_number f))
  f_is_number : Fun K "is_number" "is_number" s_is_number (a_is_number f) (d_is_number fd)
  b_is_number : Binds K (d_is_number fd) ["value"] []
  g_is_place : mg "is_place" = some (.ref (a_is_place f))
  f_is_place : Fun K "is_place" "is_place" s_is_place (a_is_place f) (d_is_place fd)
  b_is_place : Binds K (d_is_place fd) ["value", "many"] []
  g_is_price : mg "is_price" = some (.ref (a_is_price f))
  f_is_price : Fun K "is_price" "is_price" s_is_price (a_is_price f) (d_is_price fd)
  b_is_price : Binds K (d_is_price fd) ["value"] []
  g_lot_of : mg "lot_of" = some (.ref (a_lot_of f))
  f_lot_of : Fun K "lot_of" "lot_of" s_lot_of (a_lot_of f) (d_lot_of fd)
  b_lot_of : Binds K (d_lot_of fd) ["lots", "book"] []
  g_wrong_price : mg "wrong_price" = some (.ref (a_wrong_price f))
  f_wrong_price : Fun K "wrong_price" "wrong_price" s_wrong_price (a_wrong_price f) (d_wrong_price fd)
  b_wrong_price : Binds K (d_wrong_price fd) ["prices"] []
  g_wrong_lot : mg "wrong_lot" = some (.ref (a_wrong_lot f))
  f_wrong_lot : Fun K "wrong_lot" "wrong_lot" s_wrong_lot (a_wrong_lot f) (d_wrong_lot fd)
  b_wrong_lot : Binds K (d_wrong_lot fd) ["lots", "books", "fewest", "most"] []
  g_missing_book : mg "missing_book" = some (.ref (a_missing_book f))
  f_missing_book : Fun K "missing_book" "missing_book" s_missing_book (a_missing_book f) (d_missing_book fd)
  b_missing_book : Binds K (d_missing_book fd) ["lots", "books"] []
  g_check_shelf : mg "check_shelf" = some (.ref (a_check_shelf f))
  f_check_shelf : Fun K "check_shelf" "check_shelf" s_check_shelf (a_check_shelf f) (d_check_shelf fd)
  b_check_shelf : Binds K (d_check_shelf fd) ["shelf"] []
  g_check_goal : mg "check_goal" = some (.ref (a_check_goal f))
  f_check_goal : Fun K "check_goal" "check_goal" s_check_goal (a_check_goal f) (d_check_goal fd)
  b_check_goal : Binds K (d_check_goal fd) ["shelf", "goal"] []
  g_fixed_books : mg "fixed_books" = some (.ref (a_fixed_books f))
  f_fixed_books : Fun K "fixed_books" "fixed_books" s_fixed_books (a_fixed_books f) (d_fixed_books fd)
  b_fixed_books : Binds K (d_fixed_books fd) ["prices", "books"] []
  g_price_of : mg "price_of" = some (.ref (a_price_of f))
  f_price_of : Fun K "price_of" "price_of" s_price_of (a_price_of f) (d_price_of fd)
  b_price_of : Binds K (d_price_of fd) ["prices", "books"] []
  g_stands : mg "stands" = some (.ref (a_stands f))
  f_stands : Fun K "stands" "stands" s_stands (a_stands f) (d_stands fd)
  b_stands : Binds K (d_stands fd) ["lot", "part"] []
  g_holding : mg "holding" = some (.ref (a_holding f))
  f_holding : Fun K "holding" "holding" s_holding (a_holding f) (d_holding fd)
  b_holding : Binds K (d_holding fd) ["prices", "lot", "wanted"] []
  g_dearest : mg "dearest" = some (.ref (a_dearest f))
  f_dearest : Fun K "dearest" "dearest" s_dearest (a_dearest f) (d_dearest fd)
  b_dearest : Binds K (d_dearest fd) ["prices", "lot", "wanted"] []
  g_splits : mg "splits" = some (.ref (a_splits f))
  f_splits : Fun K "splits" "splits" s_splits (a_splits f) (d_splits fd)
  b_splits : Binds K (d_splits fd) ["prices", "lot", "wanted"] []
  g_splits_by_lot : mg "splits_by_lot" = some (.ref (a_splits_by_lot f))
  f_splits_by_lot : Fun K "splits_by_lot" "splits_by_lot" s_splits_by_lot (a_splits_by_lot f) (d_splits_by_lot fd)
  b_splits_by_lot : Binds K (d_splits_by_lot fd) ["shelf", "goal"] []
  g_deeds_around : mg "deeds_around" = some (.ref (a_deeds_around f))
  f_deeds_around : Fun K "deeds_around" "deeds_around" s_deeds_around (a_deeds_around f) (d_deeds_around fd)
  b_deeds_around : Binds K (d_deeds_around fd) ["number", "wanted", "split"] []
  g_least_way : mg "least_way" = some (.ref (a_least_way f))
  f_least_way : Fun K "least_way" "least_way" s_least_way (a_least_way f) (d_least_way fd)
  b_least_way : Binds K (d_least_way fd) ["shelf", "goal"] []
  g_least : mg "least" = some (.ref (a_least f))
  f_least : Fun K "least" "least" s_least (a_least f) (d_least fd)
  b_least : Binds K (d_least fd) ["shelf", "goal"] []
  g_spare : mg "spare" = some (.ref (a_spare f))
  f_spare : Fun K "spare" "spare" s_spare (a_spare f) (d_spare fd)
  b_spare : Binds K (d_spare fd) ["shelf", "goal"] []
  g__law_start : mg "_law_start" = some (.ref (a__law_start f))
  f__law_start : Fun K "_law_start" "_law_start" s__law_start (a__law_start f) (d__law_start fd)
  b__law_start : Binds K (d__law_start fd) ["_law_script"] []
  g__law_drawn : mg "_law_drawn" = some (.ref (a__law_drawn f))
  f__law_drawn : Fun K "_law_drawn" "_law_drawn" s__law_drawn (a__law_drawn f) (d__law_drawn fd)
  b__law_drawn : Binds K (d__law_drawn fd) ["_law_state", "_law_many"] []
  g__law_same : mg "_law_same" = some (.ref (a__law_same f))
  f__law_same : Fun K "_law_same" "_law_same" s__law_same (a__law_same f) (d__law_same fd)
  b__law_same : Binds K (d__law_same fd) ["_law_found", "_law_due"] []
  g__law_turned : mg "_law_turned" = some (.ref (a__law_turned f))
  f__law_turned : Fun K "_law_turned" "_law_turned" s__law_turned (a__law_turned f) (d__law_turned fd)
  b__law_turned : Binds K (d__law_turned fd) ["_law_state", "_law_many"] []
  g__law_lots : mg "_law_lots" = some (.ref (a__law_lots f))
  f__law_lots : Fun K "_law_lots" "_law_lots" s__law_lots (a__law_lots f) (d__law_lots fd)
  b__law_lots : Binds K (d__law_lots fd) ["_law_state", "_law_many", "_law_lots_here"] []
  g__law_shelf : mg "_law_shelf" = some (.ref (a__law_shelf f))
  f__law_shelf : Fun K "_law_shelf" "_law_shelf" s__law_shelf (a__law_shelf f) (d__law_shelf fd)
  b__law_shelf : Binds K (d__law_shelf fd) ["_law_state", "_law_most", "_law_lots_here"] []
  g__law_placed : mg "_law_placed" = some (.ref (a__law_placed f))
  f__law_placed : Fun K "_law_placed" "_law_placed" s__law_placed (a__law_placed f) (d__law_placed fd)
  b__law_placed : Binds K (d__law_placed fd) ["_law_lots_here", "_law_book", "_law_number", "_law_end"] []
  g__law_goal : mg "_law_goal" = some (.ref (a__law_goal f))
  f__law_goal : Fun K "_law_goal" "_law_goal" s__law_goal (a__law_goal f) (d__law_goal fd)
  b__law_goal : Binds K (d__law_goal fd) ["_law_state", "_law_shelf_here"] []
  g__law_kind : mg "_law_kind" = some (.ref (a__law_kind f))
  f__law_kind : Fun K "_law_kind" "_law_kind" s__law_kind (a__law_kind f) (d__law_kind fd)
  b__law_kind : Binds K (d__law_kind fd) ["_law_work"] []
section
variable {P : Program} {w : World} {K : PySem.W.Frag} {mg : Str → Option Value} {base : Heap} {f : Nat → Addr} {fd : Nat → FuncData} {g : Nat → Addr} {gd : Nat → FuncData}
abbrev i_BadShelf : Stmt := inClass (topS 2) 0
theorem sci_BadShelf : FnScope ["self", "part", "number"] ["self", "part", "number"] (defScope i_BadShelf) := ⟨rfl, rfl, rfl, by decide +kernel, rfl, by decide +kernel, by decide +kernel⟩
theorem ok_init_BadShelf (T : Tx K mg f fd g gd) : FnOk P w K mg base (L2.CX P w) 1 (g 2) (gd 2) ["self", "part", "number"] (spInit K (f 2) ["part", "number"]) := by
  refine Fun.okX (k := 0) T.fi_BadShelf sci_BadShelf (fun vs H Q E h => by obtain ⟨a, ws, F, ds, rfl, _, _, _, _, h1, h2, _⟩ := h; rw [List.length_cons, h1.len, h2]; rfl) fun cdv A outer s H vs Q E hr h => ?_
  obtain ⟨a, ws, F, ds, rfl, T1, ea, hF, hx, hd, hl, hp, hq⟩ := h
  cases hd with
  | nil => cases hl
  | @cons v1 _ d1 _ dv1 r1 =>
    cases r1 with
    | nil => cases hl
    | @cons v2 _ d2 _ dv2 r2 =>
      cases r2 with
      | cons _ _ => cases hl
      | nil =>
        simp only [List.all_cons, List.all_nil, Bool.and_true, Bool.and_eq_true] at hp
        obtain ⟨hp1, hp2⟩ := hp
        refine ⟨_, pss_cons (ps_expr (pe_binit T.base_ShelfError (pa_cons (pv 0) (pa_cons (pe_joined (.cons pe_str (.cons (pe_fmt (pv 1)) (.cons pe_str (.cons (pe_fmt (pv 2)) .nil))))) pa_nil)))) (pss_cons (ps_ost (pv 0) (pv 1)) (pss_one (ps_ost (pv 0) (pv 2)))), ?_⟩
        refine init2 (F := F) (Q := Q) (d1 := d1) (d2 := d2) T1 T.nf_BadShelf_part T.nf_BadShelf_number rfl rfl rfl ea (fun t ht => ?_) (by decide) fun d hn hne => hq d hn hne
        simp only [List.mem_cons, List.mem_nil_iff, or_false] at ht
        rcases ht with rfl | rfl | rfl | rfl
        · exact j_const (by decide)
        · exact j_slot (i := 1) rfl dv1 hp1
        · exact j_const (by decide)
        · exact j_slot (i := 2) rfl dv2 hp2
abbrev i_BadGoal : Stmt := inClass (topS 3) 0
theorem sci_BadGoal : FnScope ["self", "number"] ["self", "number"] (defScope i_BadGoal) := ⟨rfl, rfl, rfl, by decide +kernel, rfl, by decide +kernel, by decide +kernel⟩
theorem ok_init_BadGoal (T : Tx K mg f fd g gd) : FnOk P w K mg base (L2.CX P w) 1 (g 3) (gd 3) ["self", "number"] (spInit K (f 3) ["number"]) := by
  refine Fun.okX (k := 0) T.fi_BadGoal sci_BadGoal (fun vs H Q E h => by obtain ⟨a, ws, F, ds, rfl, _, _, _, _, h1, h2, _⟩ := h; rw [List.length_cons, h1.len, h2]; rfl) fun cdv A outer s H vs Q E hr h => ?_
  obtain ⟨a, ws, F, ds, rfl, T1, ea, hF, hx, hd, hl, hp, hq⟩ := h
  cases hd with
  | nil => cases hl
  | @cons v1 _ d1 _ dv1 r1 =>
    cases r1 with
    | cons _ _ => cases hl
    | nil =>
      simp only [List.all_cons, List.all_nil, Bool.and_true, Bool.and_eq_true] at hp
      have hp1 := hp
      refine ⟨_, pss_cons (ps_expr (pe_binit T.base_ShelfError (pa_cons (pv 0) (pa_cons (pe_joined (.cons pe_str (.cons (pe_fmt (pv 1)) .nil))) pa_nil)))) (pss_one (ps_ost (pv 0) (pv 1))), ?_⟩
      refine init1 (F := F) (Q := Q) T1 T.nf_BadGoal_number rfl rfl ea (fun t ht => ?_) (by decide) fun d hn hne => hq d hn hne
      simp only [List.mem_cons, List.mem_nil_iff, or_false] at ht
      rcases ht with rfl | rfl
      · exact j_const (by decide)
      · exact j_slot (i := 1) rfl dv1 hp1
theorem ok_kind_NoWay (T : Tx K mg f fd g gd) (X : Cx) (hr : Room 1 X.A) (hK : X.K = K) (hmg : X.mg = mg) (ga : Addr) (cdg : Value) (s : Shared) (H : Hp) (a : Addr) (oe : Obj) (pn : List (Addr × Obj)) (hz : Zc (.ref (f 6)) none oe) (hf : ∃ vs, oe.data = .fields vs) :
    SSs ((cxOf C8.CX0 X.prog X.w X.K X.mg X.base N__law_kind "_law_kind" (defScope s__law_kind) ga cdg X.A X.stack s H C8.E0).nox.suite a ((a, oe) :: pn)) W0 (hBody s__law_kind) (G_kind_NoWay a) := by
  subst hK hmg
  exact (ss_cons (ss_setO 2 (so_lst (sa_cons (sv_is0 1 T.ec_NoWay hz hf (by rfl) T.n_isinstance (by rfl) T.gc_BadShelf T.kit_NoWay_BadShelf) (sa_cons (sv_is0 1 T.ec_NoWay hz hf (by rfl) T.n_isinstance (by rfl) T.gc_BadGoal T.kit_NoWay_BadGoal) (sa_cons (sv_is0 1 T.ec_NoWay hz hf (by rfl) T.n_isinstance (by rfl) T.gc_BadWish T.kit_NoWay_BadWish) (sa_cons (sv_is0 1 T.ec_NoWay hz hf (by rfl) T.n_isinstance (by rfl) T.gc_BadWay T.kit_NoWay_BadWay) sa_nil))))) sc__law_kind.nd) (ss_cons (ss_setO 2 (so_cat (so_n 2) (so_lst (sa_cons (sv_is0 1 T.ec_NoWay hz hf (by rfl) T.n_isinstance (by rfl) T.gc_NoWay T.kit_NoWay_NoWay) (sa_cons (sv_is0 1 T.ec_NoWay hz hf (by rfl) T.n_isinstance (by rfl) T.gc_BadName T.kit_NoWay_BadName) (sa_cons (sv_is0 1 T.ec_NoWay hz hf (by rfl) T.n_isinstance (by rfl) T.gc_NoPoint T.kit_NoWay_NoPoint) (sa_cons (sv_is0 1 T.ec_NoWay hz hf (by rfl) T.n_isinstance (by rfl) T.gc_Halted T.kit_NoWay_Halted) sa_nil)))))) sc__law_kind.nd) (ss_cons (ss_setO 2 (so_cat (so_n 2) (so_lst (sa_cons (sv_is0 1 T.ec_NoWay hz hf (by rfl) T.n_isinstance (by rfl) T.gc_BadText T.kit_NoWay_BadText) sa_nil))) sc__law_kind.nd) (ss_cons (ss_set 3 sv_str sc__law_kind.nd) (ss_cons (ss_if (st_w (sw_or (st_cmp (cm_ne (hr.deeper X.env).units) (sv_count 2 sv_bl) sv_int) (sw_or1 (st_not (st_val (sv_isT0 (T := "ValueError") 1 T.ec_NoWay hz hf (by rfl) T.n_isinstance (by rfl) T.n_ValueError (by decide +kernel) (by decide) T.kitb_NoWay_ValueError)))))) (ss_one (ss_ret sv_str)) ss_nil) (ss_cons (ss_set 4 (sv_ix (sv_o (so_split (sv_n 3) sv_str)) (sv_index 2 sv_bl)) sc__law_kind.nd) (ss_cons (ss_if (st_cmp (cm_eq (hr.deeper X.env).units) (sv_n 4) sv_str) (ss_one (ss_ret (sv_tup (sa_cons (sv_n 4) (sa_cons sv_never (sa_cons sv_never sa_nil)))))) ss_nil) (ss_cons (ss_if (st_cmp (cm_eq (hr.deeper X.env).units) (sv_n 4) sv_str) (ss_one (ss_ret (sv_tup (sa_cons (sv_n 4) (sa_cons sv_never (sa_cons sv_never sa_nil)))))) ss_nil) (ss_cons (ss_if (st_cmp (cm_eq (hr.deeper X.env).units) (sv_n 4) sv_str) (ss_one (ss_ret (sv_tup (sa_cons (sv_n 4) (sa_cons sv_never (sa_cons sv_never sa_nil)))))) ss_nil) (ss_cons (ss_if (st_cmp cm_in (sv_n 4) (sv_tup (sa_cons sv_str (sa_cons sv_str sa_nil)))) (ss_one (ss_ret (sv_tup (sa_cons (sv_n 4) (sa_cons sv_never sa_nil))))) ss_nil) (ss_one (ss_ret (sg_ifE (st_cmp (cm_eq (hr.deeper X.env).units) (sv_n 4) sv_str) (sv_tup (sa_cons (sv_n 4) (sa_cons sv_never sa_nil))) (sv_n 4))))))))))))))
theorem ok_is_number (T : Tx K mg f fd g gd) : FnOk P w K mg base (L2.CX P w) 1 (a_is_number f) (d_is_number fd) ["value"] (SpD K mg 1 m_is_number) :=
  ok_fnD T.f_is_number sc_is_number (by decide) fun cdv A outer s H E hr => by
    have tk := takes_of (X := cxOf (L2.CX P w) P w K mg base N_is_number "is_number" (defScope s_is_number) (a_is_number f) cdv A outer s H E) (E := E) rfl rfl rfl rfl
    have hp := passes_of (X := cxOf (L2.CX P w) P w K mg base N_is_number "is_number" (defScope s_is_number) (a_is_number f) cdv A outer s H E) rfl
    exact (ss_one (ss_ret (sv_and (sv_isa (by rfl) T.n_isinstance (by rfl) T.n_int (by decide +kernel) (by decide) (sv_n 0)) (sv_one (sv_not (sv_isa (by rfl) T.n_isinstance (by rfl) T.n_bool (by decide +kernel) (by decide) (sv_n 0)))))))
theorem ok_is_place (T : Tx K mg f fd g gd) (F_is_number : FnOk P w K mg base (L2.CX P w) 1 (a_is_number f) (d_is_number fd) ["value"] (SpD K mg 1 m_is_number)) : FnOk P w K mg base (L2.CX P w) 2 (a_is_place f) (d_is_place fd) ["value", "many"] (SpD K mg 2 m_is_place) :=
  ok_fnD T.f_is_place sc_is_place (by decide) fun cdv A outer s H E hr => by
    have tk := takes_of (X := cxOf (L2.CX P w) P w K mg base N_is_place "is_place" (defScope s_is_place) (a_is_place f) cdv A outer s H E) (E := E) rfl rfl rfl rfl
    have hp := passes_of (X := cxOf (L2.CX P w) P w K mg base N_is_place "is_place" (defScope s_is_place) (a_is_place f) cdv A outer s H E) rfl
    exact (ss_one (ss_ret (sv_and (sv_call F_is_number hr T.g_is_number T.f_is_number.kp T.b_is_number tk (sa_cons (sv_n 0) sa_nil) (len_cons len_nil)) (sv_one (sv_chain cm_le cm_lt sv_int (sv_n 0) (sv_n 1))))))
theorem ok_is_price (T : Tx K mg f fd g gd) (F_is_number : FnOk P w K mg base (L2.CX P w) 1 (a_is_number f) (d_is_number fd) ["value"] (SpD K mg 1 m_is_number)) : FnOk P w K mg base (L2.CX P w) 2 (a_is_price f) (d_is_price fd) ["value"] (SpD K mg 1 m_is_price) :=
  ok_fnD T.f_is_price sc_is_price (by decide) fun cdv A outer s H E hr => by
    have tk := takes_of (X := cxOf (L2.CX P w) P w K mg base N_is_price "is_price" (defScope s_is_price) (a_is_price f) cdv A outer s H E) (E := E) rfl rfl rfl rfl
    have hp := passes_of (X := cxOf (L2.CX P w) P w K mg base N_is_price "is_price" (defScope s_is_price) (a_is_price f) cdv A outer s H E) rfl
    exact (ss_one (ss_ret (sv_or (sv_cmp cm_is (sv_n 0) sv_non) (sv_one (sv_and (sv_call F_is_number hr T.g_is_number T.f_is_number.kp T.b_is_number tk (sa_cons (sv_n 0) sa_nil) (len_cons len_nil)) (sv_one (sv_chain cm_le cm_le sv_int (sv_n 0) (sv_glob T.c_MOST_PRICE.choose_spec.1 T.c_MOST_PRICE.choose_spec.2 fun _ => .int _))))))))
theorem ok_lot_of (T : Tx K mg f fd g gd) : FnOk P w K mg base (L2.CX P w) 1 (a_lot_of f) (d_lot_of fd) ["lots", "book"] (SpD K mg 2 m_lot_of) :=
  ok_fnD T.f_lot_of sc_lot_of (by decide) fun cdv A outer s H E hr => by
    have tk := takes_of (X := cxOf (L2.CX P w) P w K mg base N_lot_of "lot_of" (defScope s_lot_of) (a_lot_of f) cdv A outer s H E) (E := E) rfl rfl rfl rfl
    have hp := passes_of (X := cxOf (L2.CX P w) P w K mg base N_lot_of "lot_of" (defScope s_lot_of) (a_lot_of f) cdv A outer s H E) rfl
    exact (ss_cons (ss_forET hp rfl (by rfl) T.n_enumerate (sv_n 0) (sg_tup rfl (sgs_cons (sg_n 2 sc_lot_of.nd) (sgs_cons (sg_n 3 sc_lot_of.nd) sgs_nil))) (ss_one (ss_if (st_cmp cm_in (sv_n 1) (sv_n 3)) (ss_one (ss_ret (sv_n 2))) ss_nil))) (ss_one (ss_ret sv_non)))
theorem ok_wrong_price (T : Tx K mg f fd g gd) (F_is_price : FnOk P w K mg base (L2.CX P w) 2 (a_is_price f) (d_is_price fd) ["value"] (SpD K mg 1 m_is_price)) : FnOk P w K mg base (L2.CX P w) 3 (a_wrong_price f) (d_wrong_price fd) ["prices"] (SpD K mg 1 m_wrong_price) :=
  ok_fnD T.f_wrong_price sc_wrong_price (by decide) fun cdv A outer s H E hr => by
    have tk := takes_of (X := cxOf (L2.CX P w) P w K mg base N_wrong_price "wrong_price" (defScope s_wrong_price) (a_wrong_price f) cdv A outer s H E) (E := E) rfl rfl rfl rfl
    have hp := passes_of (X := cxOf (L2.CX P w) P w K mg base N_wrong_price "wrong_price" (defScope s_wrong_price) (a_wrong_price f) cdv A outer s H E) rfl
    exact (ss_cons (ss_if (st_w (sw_or (st_not (st_val (sv_isa (by rfl) T.n_isinstance (by rfl) T.n_tuple (by decide +kernel) (by decide) (sv_n 0)))) (sw_or1 (st_cmp (cm_eq hr.units) (sv_lenP 0 (by rfl) T.n_len) sv_int)))) (ss_one (ss_ret sv_int)) ss_nil) (ss_cons (ss_forET hp rfl (by rfl) T.n_enumerate (sv_n 0) (sg_tup rfl (sgs_cons (sg_n 1 sc_wrong_price.nd) (sgs_cons (sg_n 2 sc_wrong_price.nd) sgs_nil))) (ss_one (ss_if (st_w (sw_or (st_cmp (cm_eq hr.units) (sv_n 1) (sv_glob T.c_MOST_BOOKS.choose_spec.1 T.c_MOST_BOOKS.choose_spec.2 fun _ => .int _)) (sw_or1 (st_not (st_val (sv_call F_is_price hr T.g_is_price T.f_is_price.kp T.b_is_price tk (sa_cons (sv_n 2) sa_nil) (len_cons len_nil))))))) (ss_one (ss_ret (sv_n 1))) ss_nil))) (ss_one (ss_ret sv_non))))
theorem ok_wrong_lot (T : Tx K mg f fd g gd) (F_is_place : FnOk P w K mg base (L2.CX P w) 2 (a_is_place f) (d_is_place fd) ["value", "many"] (SpD K mg 2 m_is_place)) : FnOk P w K mg base (L2.CX P w) 3 (a_wrong_lot f) (d_wrong_lot fd) ["lots", "books", "fewest", "most"] (SpD K mg 4 m_wrong_lot) :=
  ok_fnD T.f_wrong_lot sc_wrong_lot (by decide) fun cdv A outer s H E hr => by
    have tk := takes_of (X := cxOf (L2.CX P w) P w K mg base N_wrong_lot "wrong_lot" (defScope s_wrong_lot) (a_wrong_lot f) cdv A outer s H E) (E := E) rfl rfl rfl rfl
    have hp := passes_of (X := cxOf (L2.CX P w) P w K mg base N_wrong_lot "wrong_lot" (defScope s_wrong_lot) (a_wrong_lot f) cdv A outer s H E) rfl
    exact (ss_cons (ss_if (st_not (st_val (sv_isa (by rfl) T.n_isinstance (by rfl) T.n_tuple (by decide +kernel) (by decide) (sv_n 0)))) (ss_one (ss_ret sv_int)) ss_nil) (ss_cons (ss_mkS 4 (by rfl) T.n_set sc_wrong_lot.nd) (ss_cons (ss_forET hp rfl (by rfl) T.n_enumerate (sv_n 0) (sg_tup rfl (sgs_cons (sg_n 5 sc_wrong_lot.nd) (sgs_cons (sg_n 6 sc_wrong_lot.nd) sgs_nil))) (ss_cons (ss_if (st_w (sw_or (st_cmp (cm_eq hr.units) (sv_n 5) (sv_n 3)) (sw_or1 (st_not (st_val (sv_isa (by rfl) T.n_isinstance (by rfl) T.n_tuple (by decide +kernel) (by decide) (sv_n 6))))))) (ss_one (ss_ret (sv_n 5))) ss_nil) (ss_one (ss_forT hp rfl (sv_n 6) (sg_n 7 sc_wrong_lot.nd) (ss_cons (ss_if (st_w (sw_or (st_not (st_val (sv_call F_is_place hr T.g_is_place T.f_is_place.kp T.b_is_place tk (sa_cons (sv_n 7) (sa_cons (sv_n 1) sa_nil)) (len_cons (len_cons len_nil))))) (sw_or1 (st_hasS 4 (sv_n 7))))) (ss_one (ss_ret (sv_n 5))) ss_nil) (ss_one (ss_addS 4 (sv_n 7)))))))) (ss_cons (ss_if (st_cmp cm_lt (sv_lenP 0 (by rfl) T.n_len) (sv_n 2)) (ss_one (ss_ret (sv_lenP 0 (by rfl) T.n_len))) ss_nil) (ss_one (ss_ret sv_non))))))
theorem ok_missing_book (T : Tx K mg f fd g gd) (F_lot_of : FnOk P w K mg base (L2.CX P w) 1 (a_lot_of f) (d_lot_of fd) ["lots", "book"] (SpD K mg 2 m_lot_of)) : FnOk P w K mg base (L2.CX P w) 2 (a_missing_book f) (d_missing_book fd) ["lots", "books"] (SpD K mg 2 m_missing_book) :=
  ok_fnD T.f_missing_book sc_missing_book (by decide) fun cdv A outer s H E hr => by
    have tk := takes_of (X := cxOf (L2.CX P w) P w K mg base N_missing_book "missing_book" (defScope s_missing_book) (a_missing_book f) cdv A outer s H E) (E := E) rfl rfl rfl rfl
    have hp := passes_of (X := cxOf (L2.CX P w) P w K mg base N_missing_book "missing_book" (defScope s_missing_book) (a_missing_book f) cdv A outer s H E) rfl
    exact (ss_cons (ss_forR1 hp rfl (by rfl) T.n_range (sv_n 1) (sg_n 2 sc_missing_book.nd) (ss_one (ss_if (st_cmp cm_is (sv_call F_lot_of hr T.g_lot_of T.f_lot_of.kp T.b_lot_of tk (sa_cons (sv_n 0) (sa_cons (sv_n 2) sa_nil)) (len_cons (len_cons len_nil))) sv_non) (ss_one (ss_ret (sv_n 2))) ss_nil))) (ss_one (ss_ret sv_non)))
theorem ok_check_shelf (T : Tx K mg f fd g gd) (F_missing_book : FnOk P w K mg base (L2.CX P w) 2 (a_missing_book f) (d_missing_book fd) ["lots", "books"] (SpD K mg 2 m_missing_book)) (F_wrong_lot : FnOk P w K mg base (L2.CX P w) 3 (a_wrong_lot f) (d_wrong_lot fd) ["lots", "books", "fewest", "most"] (SpD K mg 4 m_wrong_lot)) (F_wrong_price : FnOk P w K mg base (L2.CX P w) 3 (a_wrong_price f) (d_wrong_price fd) ["prices"] (SpD K mg 1 m_wrong_price)) (F_init_BadShelf : FnOk P w K mg base (L2.CX P w) 1 (g 2) (gd 2) ["self", "part", "number"] (spInit K (f 2) ["part", "number"])) : FnOk P w K mg base (L2.CX P w) 4 (a_check_shelf f) (d_check_shelf fd) ["shelf"] (SpD K mg 1 m_check_shelf) :=
  ok_fnD T.f_check_shelf sc_check_shelf (by decide) fun cdv A outer s H E hr => by
    have tk := takes_of (X := cxOf (L2.CX P w) P w K mg base N_check_shelf "check_shelf" (defScope s_check_shelf) (a_check_shelf f) cdv A outer s H E) (E := E) rfl rfl rfl rfl
    have hp := passes_of (X := cxOf (L2.CX P w) P w K mg base N_check_shelf "check_shelf" (defScope s_check_shelf) (a_check_shelf f) cdv A outer s H E) rfl
    exact (ss_cons (ss_if (st_w (sw_or (st_not (st_val (sv_isa (by rfl) T.n_isinstance (by rfl) T.n_tuple (by decide +kernel) (by decide) (sv_n 0)))) (sw_or1 (st_cmp (cm_ne hr.units) (sv_lenP 0 (by rfl) T.n_len) sv_int)))) (ss_one (ss_raise rfl tk T.x_BadShelf F_init_BadShelf (hr.mono (by decide)) T.bk_BadShelf (sk_cons (sv_neg sv_int) (sk_cons sv_int sk_nil)))) ss_nil) (ss_cons (ss_asg (sv_n 0) (sg_tup rfl (sgs_cons (sg_n 1 sc_check_shelf.nd) (sgs_cons (sg_n 2 sc_check_shelf.nd) sgs_nil)))) (ss_cons (ss_set 3 (sv_call F_wrong_price hr T.g_wrong_price T.f_wrong_price.kp T.b_wrong_price tk (sa_cons (sv_n 1) sa_nil) (len_cons len_nil)) sc_check_shelf.nd) (ss_cons (ss_if (st_cmp cm_isn (sv_n 3) sv_non) (ss_one (ss_raise rfl tk T.x_BadShelf F_init_BadShelf (hr.mono (by decide)) T.bk_BadShelf (sk_cons sv_int (sk_cons (sv_n 3) sk_nil)))) ss_nil) (ss_cons (ss_set 3 (sv_call F_wrong_lot hr T.g_wrong_lot T.f_wrong_lot.kp T.b_wrong_lot tk (sa_cons (sv_n 2) (sa_cons (sv_lenP 1 (by rfl) T.n_len) (sa_cons sv_int (sa_cons (sv_glob T.c_MOST_LOTS.choose_spec.1 T.c_MOST_LOTS.choose_spec.2 fun _ => .int _) sa_nil)))) (len_cons (len_cons (len_cons (len_cons len_nil))))) sc_check_shelf.nd) (ss_cons (ss_if (st_cmp cm_isn (sv_n 3) sv_non) (ss_one (ss_raise rfl tk T.x_BadShelf F_init_BadShelf (hr.mono (by decide)) T.bk_BadShelf (sk_cons sv_int (sk_cons (sv_n 3) sk_nil)))) ss_nil) (ss_cons (ss_set 3 (sv_call F_missing_book (hr.mono (by decide)) T.g_missing_book T.f_missing_book.kp T.b_missing_book tk (sa_cons (sv_n 2) (sa_cons (sv_lenP 1 (by rfl) T.n_len) sa_nil)) (len_cons (len_cons len_nil))) sc_check_shelf.nd) (ss_one (ss_if (st_cmp cm_isn (sv_n 3) sv_non) (ss_one (ss_raise rfl tk T.x_BadShelf F_init_BadShelf (hr.mono (by decide)) T.bk_BadShelf (sk_cons sv_int (sk_cons (sv_n 3) sk_nil)))) ss_nil)))))))))
theorem ok_check_goal (T : Tx K mg f fd g gd) (F_missing_book : FnOk P w K mg base (L2.CX P w) 2 (a_missing_book f) (d_missing_book fd) ["lots", "books"] (SpD K mg 2 m_missing_book)) (F_wrong_lot : FnOk P w K mg base (L2.CX P w) 3 (a_wrong_lot f) (d_wrong_lot fd) ["lots", "books", "fewest", "most"] (SpD K mg 4 m_wrong_lot)) (F_init_BadGoal : FnOk P w K mg base (L2.CX P w) 1 (g 3) (gd 3) ["self", "number"] (spInit K (f 3) ["number"])) : FnOk P w K mg base (L2.CX P w) 4 (a_check_goal f) (d_check_goal fd) ["shelf", "goal"] (SpD K mg 2 m_check_goal) :=
  ok_fnD T.f_check_goal sc_check_goal (by decide) fun cdv A outer s H E hr => by
    have tk := takes_of (X := cxOf (L2.CX P w) P w K mg base N_check_goal "check_goal" (defScope s_check_goal) (a_check_goal f) cdv A outer s H E) (E := E) rfl rfl rfl rfl
    have hp := passes_of (X := cxOf (L2.CX P w) P w K mg base N_check_goal "check_goal" (defScope s_check_goal) (a_check_goal f) cdv A outer s H E) rfl
    exact (ss_cons (ss_asg (sv_n 0) (sg_tup rfl (sgs_cons (sg_n 2 sc_check_goal.nd) (sgs_cons (sg_n 3 sc_check_goal.nd) sgs_nil)))) (ss_cons (ss_set 4 (sv_lenP 3 (by rfl) T.n_len) sc_check_goal.nd) (ss_cons (ss_set 5 (sv_call F_wrong_lot hr T.g_wrong_lot T.f_wrong_lot.kp T.b_wrong_lot tk (sa_cons (sv_n 1) (sa_cons (sv_lenP 2 (by rfl) T.n_len) (sa_cons (sv_n 4) (sa_cons (sv_n 4) sa_nil)))) (len_cons (len_cons (len_cons (len_cons len_nil))))) sc_check_goal.nd) (ss_cons (ss_if (st_cmp cm_isn (sv_n 5) sv_non) (ss_one (ss_raise rfl tk T.x_BadGoal F_init_BadGoal (hr.mono (by decide)) T.bk_BadGoal (sk_cons (sv_n 5) sk_nil))) ss_nil) (ss_one (ss_if (st_cmp cm_isn (sv_call F_missing_book (hr.mono (by decide)) T.g_missing_book T.f_missing_book.kp T.b_missing_book tk (sa_cons (sv_n 1) (sa_cons (sv_lenP 2 (by rfl) T.n_len) sa_nil)) (len_cons (len_cons len_nil))) sv_non) (ss_one (ss_raise rfl tk T.x_BadGoal F_init_BadGoal (hr.mono (by decide)) T.bk_BadGoal (sk_cons (sv_n 4) sk_nil))) ss_nil))))))
theorem ok_fixed_books (T : Tx K mg f fd g gd) : FnOk P w K mg base (L2.CX P w) 1 (a_fixed_books f) (d_fixed_books fd) ["prices", "books"] (SpO K mg 2 m_fixed_books) :=
  ok_fnO T.f_fixed_books sc_fixed_books (by decide) fun cdv A outer s H E hr => by
    have tk := takes_of (X := cxOf (L2.CX P w) P w K mg base N_fixed_books "fixed_books" (defScope s_fixed_books) (a_fixed_books f) cdv A outer s H E) (E := E) rfl rfl rfl rfl
    have hp := passes_of (X := cxOf (L2.CX P w) P w K mg base N_fixed_books "fixed_books" (defScope s_fixed_books) (a_fixed_books f) cdv A outer s H E) rfl
    exact (ss_one (ss_retO (so_lcT (own := [("book", 2)]) (j := 2) rfl sc_fixed_books.nd (sv_n 1) (by exact blkOk_by (own := [("book", 2)]) (N := N_fixed_books) (sc := defScope s_fixed_books) (scope := { kind := PySem.ScopeKind.function, names := [(PySem.Str.ofString ".0", PySem.NameKind.local), (PySem.Str.ofString "book", PySem.NameKind.local), (PySem.Str.ofString "prices", PySem.NameKind.free)], isGenerator := false, isCoroutine := false, more := [] }) (by decide +kernel)) (by decide) (fun _ _ _ _ _ => pg_name (i := 2) sc_fixed_books.nd rfl (Or.inl rfl)) (fun _ _ _ _ _ => sts_one (st_cmp cm_is (sv_ixP 0 (sv_n 2)) sv_non)) (fun _ _ _ _ _ => (sv_n 2)))))
theorem ok_price_of (T : Tx K mg f fd g gd) : FnOk P w K mg base (L2.CX P w) 1 (a_price_of f) (d_price_of fd) ["prices", "books"] (SpD K mg 2 m_price_of) :=
  ok_fnD T.f_price_of sc_price_of (by decide) fun cdv A outer s H E hr => by
    have tk := takes_of (X := cxOf (L2.CX P w) P w K mg base N_price_of "price_of" (defScope s_price_of) (a_price_of f) cdv A outer s H E) (E := E) rfl rfl rfl rfl
    have hp := passes_of (X := cxOf (L2.CX P w) P w K mg base N_price_of "price_of" (defScope s_price_of) (a_price_of f) cdv A outer s H E) rfl
    exact (ss_one (ss_ret (sv_sum rfl (by rfl) T.n_sum (sa_cons (sv_o (so_lcT (own := [("book", 2)]) (j := 2) rfl sc_price_of.nd (sv_n 1) (by exact blkOk_by (own := [("book", 2)]) (N := N_price_of) (sc := defScope s_price_of) (scope := { kind := PySem.ScopeKind.function, names := [(PySem.Str.ofString ".0", PySem.NameKind.local), (PySem.Str.ofString "book", PySem.NameKind.local), (PySem.Str.ofString "prices", PySem.NameKind.free)], isGenerator := false, isCoroutine := false, more := [] }) (by decide +kernel)) (by decide) (fun _ _ _ _ _ => pg_name (i := 2) sc_price_of.nd rfl (Or.inl rfl)) (fun _ _ _ _ _ => sts_one (st_cmp cm_isn (sv_ixP 0 (sv_n 2)) sv_non)) (fun _ _ _ _ _ => (sv_ixP 0 (sv_n 2))))) sa_nil))))
theorem ok_stands (T : Tx K mg f fd g gd) : FnOk P w K mg base (L2.CX P w) 1 (a_stands f) (d_stands fd) ["lot", "part"] (SpD K mg 2 m_stands) :=
  ok_fnD T.f_stands sc_stands (by decide) fun cdv A outer s H E hr => by
    have tk := takes_of (X := cxOf (L2.CX P w) P w K mg base N_stands "stands" (defScope s_stands) (a_stands f) cdv A outer s H E) (E := E) rfl rfl rfl rfl
    have hp := passes_of (X := cxOf (L2.CX P w) P w K mg base N_stands "stands" (defScope s_stands) (a_stands f) cdv A outer s H E) rfl
    exact (ss_one (ss_ret (sv_cmp (cm_eq hr.units) (sv_o (so_lcT (own := [("book", 2)]) (j := 2) rfl sc_stands.nd (sv_n 0) (by exact blkOk_by (own := [("book", 2)]) (N := N_stands) (sc := defScope s_stands) (scope := { kind := PySem.ScopeKind.function, names := [(PySem.Str.ofString ".0", PySem.NameKind.local), (PySem.Str.ofString "book", PySem.NameKind.local), (PySem.Str.ofString "part", PySem.NameKind.free)], isGenerator := false, isCoroutine := false, more := [] }) (by decide +kernel)) (by decide) (fun _ _ _ _ _ => pg_name (i := 2) sc_stands.nd rfl (Or.inl rfl)) (fun _ _ _ _ _ => sts_one (st_cmp cm_in (sv_n 2) (sv_n 1))) (fun _ _ _ _ _ => (sv_n 2)))) (sv_o (so_list (by rfl) T.n_list (sv_n 1))))))
theorem ok_holding (T : Tx K mg f fd g gd) (F_fixed_books : FnOk P w K mg base (L2.CX P w) 1 (a_fixed_books f) (d_fixed_books fd) ["prices", "books"] (SpO K mg 2 m_fixed_books)) (F_stands : FnOk P w K mg base (L2.CX P w) 1 (a_stands f) (d_stands fd) ["lot", "part"] (SpD K mg 2 m_stands)) : FnOk P w K mg base (L2.CX P w) 2 (a_holding f) (d_holding fd) ["prices", "lot", "wanted"] (SpO K mg 3 m_holding) :=
  ok_fnO T.f_holding sc_holding (by decide) fun cdv A outer s H E hr => by
    have tk := takes_of (X := cxOf (L2.CX P w) P w K mg base N_holding "holding" (defScope s_holding) (a_holding f) cdv A outer s H E) (E := E) rfl rfl rfl rfl
    have hp := passes_of (X := cxOf (L2.CX P w) P w K mg base N_holding "holding" (defScope s_holding) (a_holding f) cdv A outer s H E) rfl
    exact (ss_cons (ss_setO 3 (so_call F_fixed_books hr T.g_fixed_books T.f_fixed_books.kp T.b_fixed_books tk (sa_cons (sv_n 0) (sa_cons (sv_n 2) sa_nil)) (len_cons (len_cons len_nil))) sc_holding.nd) (ss_cons (ss_set 4 (sv_lenP 2 (by rfl) T.n_len) sc_holding.nd) (ss_cons (ss_setO 5 (so_lst sa_nil) sc_holding.nd) (ss_cons (ss_forR1 hp rfl (by rfl) T.n_range (sv_n 4) (sg_n 6 sc_holding.nd) (ss_one (ss_forG hp rfl (si_rng2 (by rfl) T.n_range (sv_add (sv_n 6) sv_int) (sv_add (sv_n 4) sv_int)) (sg_n 7 sc_holding.nd) (ss_cons (ss_set 8 (sv_slT (sv_n 2) (spt_is (sv_n 6)) (spt_is (sv_n 7))) sc_holding.nd) (ss_one (ss_if (st_w (sw_and (st_val (sv_call F_stands hr T.g_stands T.f_stands.kp T.b_stands tk (sa_cons (sv_n 1) (sa_cons (sv_n 8) sa_nil)) (len_cons (len_cons len_nil)))) (sw_and1 (st_cmp (cm_eq hr.units) (sv_o (so_call F_fixed_books hr T.g_fixed_books T.f_fixed_books.kp T.b_fixed_books tk (sa_cons (sv_n 0) (sa_cons (sv_n 8) sa_nil)) (len_cons (len_cons len_nil)))) (sv_n 3))))) (ss_one (ss_app 5 (sv_tup (sa_cons (sv_n 6) (sa_cons (sv_n 7) sa_nil))))) ss_nil)))))) (ss_one (ss_retO (so_n 5)))))))
theorem ok_dearest (T : Tx K mg f fd g gd) (F_holding : FnOk P w K mg base (L2.CX P w) 2 (a_holding f) (d_holding fd) ["prices", "lot", "wanted"] (SpO K mg 3 m_holding)) (F_price_of : FnOk P w K mg base (L2.CX P w) 1 (a_price_of f) (d_price_of fd) ["prices", "books"] (SpD K mg 2 m_price_of)) : FnOk P w K mg base (L2.CX P w) 3 (a_dearest f) (d_dearest fd) ["prices", "lot", "wanted"] (SpO K mg 3 m_dearest) :=
  ok_fnO T.f_dearest sc_dearest (by decide) fun cdv A outer s H E hr => by
    have tk := takes_of (X := cxOf (L2.CX P w) P w K mg base N_dearest "dearest" (defScope s_dearest) (a_dearest f) cdv A outer s H E) (E := E) rfl rfl rfl rfl
    have hp := passes_of (X := cxOf (L2.CX P w) P w K mg base N_dearest "dearest" (defScope s_dearest) (a_dearest f) cdv A outer s H E) rfl
    exact (ss_cons (ss_setO 3 (so_call F_holding hr T.g_holding T.f_holding.kp T.b_holding tk (sa_cons (sv_n 0) (sa_cons (sv_n 1) (sa_cons (sv_n 2) sa_nil))) (len_cons (len_cons (len_cons len_nil)))) sc_dearest.nd) (ss_cons (ss_setLcG (i := 4) (own := [("start", 6), ("past", 7)]) rfl sc_dearest.nd rfl rfl (sw_true rfl rfl rfl (by decide +kernel)) (si_lst (sv_n 3)) (by exact blkOk_by (own := [("start", 6), ("past", 7)]) (N := N_dearest) (sc := defScope s_dearest) (scope := { kind := PySem.ScopeKind.function, names := [(PySem.Str.ofString ".0", PySem.NameKind.local), (PySem.Str.ofString "start", PySem.NameKind.local), (PySem.Str.ofString "past", PySem.NameKind.local), (PySem.Str.ofString "price_of", PySem.NameKind.globalImplicit), (PySem.Str.ofString "prices", PySem.NameKind.free), (PySem.Str.ofString "wanted", PySem.NameKind.free)], isGenerator := false, isCoroutine := false, more := [] }) (by decide +kernel)) (tk_tup (tks_cons (tk_n (j := 6) (by decide)) (tks_cons (tk_n (j := 7) (by decide)) tks_nil))) (fun _ _ _ _ _ => (pg_tup rfl (pgs_cons (pg_name (i := 6) sc_dearest.nd rfl (Or.inl rfl)) (pgs_cons (pg_name (i := 7) sc_dearest.nd rfl (Or.inl rfl)) pgs_nil)))) (fun _ _ _ _ _ => sts_nil) (fun _ _ _ _ _ => (sv_call F_price_of (hr.mono (by decide)) T.g_price_of T.f_price_of.kp T.b_price_of takes0 (sa_cons (sv_n 0) (sa_cons (sv_slT (sv_n 2) (spt_is (sv_n 6)) (spt_is (sv_n 7))) sa_nil)) (len_cons (len_cons len_nil))))) (ss_cons (ss_set 5 (sv_maxDef rfl hr.units (by rfl) T.n_max (sv_n 4) sv_int) sc_dearest.nd) (ss_one (ss_retO (so_lcG (own := [("span", 8), ("price", 9)]) rfl sc_dearest.nd (si_zip (by rfl) T.n_zip (sv_n 3) (sv_n 4)) (by exact blkOk_by (own := [("span", 8), ("price", 9)]) (N := N_dearest) (sc := defScope s_dearest) (scope := { kind := PySem.ScopeKind.function, names := [(PySem.Str.ofString ".0", PySem.NameKind.local), (PySem.Str.ofString "span", PySem.NameKind.local), (PySem.Str.ofString "price", PySem.NameKind.local), (PySem.Str.ofString "greatest", PySem.NameKind.free)], isGenerator := false, isCoroutine := false, more := [] }) (by decide +kernel)) (tk_tup (tks_cons (tk_n (j := 8) (by decide)) (tks_cons (tk_n (j := 9) (by decide)) tks_nil))) (fun _ _ _ _ _ => (pg_tup rfl (pgs_cons (pg_name (i := 8) sc_dearest.nd rfl (Or.inl rfl)) (pgs_cons (pg_name (i := 9) sc_dearest.nd rfl (Or.inl rfl)) pgs_nil)))) (fun _ _ _ _ _ => sts_one (st_cmp (cm_eq hr.units) (sv_n 9) (sv_n 5))) (fun _ _ _ _ _ => (sv_n 8))))))))
theorem ok_splits (T : Tx K mg f fd g gd) (F_dearest : FnOk P w K mg base (L2.CX P w) 3 (a_dearest f) (d_dearest fd) ["prices", "lot", "wanted"] (SpO K mg 3 m_dearest)) (F_fixed_books : FnOk P w K mg base (L2.CX P w) 1 (a_fixed_books f) (d_fixed_books fd) ["prices", "books"] (SpO K mg 2 m_fixed_books)) : FnOk P w K mg base (L2.CX P w) 4 (a_splits f) (d_splits fd) ["prices", "lot", "wanted"] (SpD K mg 3 m_splits) :=
  ok_fnD T.f_splits sc_splits (by decide) fun cdv A outer s H E hr => by
    have tk := takes_of (X := cxOf (L2.CX P w) P w K mg base N_splits "splits" (defScope s_splits) (a_splits f) cdv A outer s H E) (E := E) rfl rfl rfl rfl
    have hp := passes_of (X := cxOf (L2.CX P w) P w K mg base N_splits "splits" (defScope s_splits) (a_splits f) cdv A outer s H E) rfl
    exact (ss_cons (ss_setO 3 (so_call F_dearest hr T.g_dearest T.f_dearest.kp T.b_dearest tk (sa_cons (sv_n 0) (sa_cons (sv_n 1) (sa_cons (sv_n 2) sa_nil))) (len_cons (len_cons (len_cons len_nil)))) sc_splits.nd) (ss_cons (ss_if (st_w (sw_or (st_val (sv_n 3)) (sw_or1 (st_val (sv_o (so_call F_fixed_books (hr.mono (by decide)) T.g_fixed_books T.f_fixed_books.kp T.b_fixed_books tk (sa_cons (sv_n 0) (sa_cons (sv_n 2) sa_nil)) (len_cons (len_cons len_nil)))))))) (ss_one (ss_ret (sv_n 3))) ss_nil) (ss_one (ss_ret (sv_o (so_lcR1 (own := [("at", 4)]) (j := 4) rfl sc_splits.nd (by rfl) T.n_range (sv_add (sv_lenP 2 (by rfl) T.n_len) sv_int) (by exact blkOk_by (own := [("at", 4)]) (N := N_splits) (sc := defScope s_splits) (scope := { kind := PySem.ScopeKind.function, names := [(PySem.Str.ofString ".0", PySem.NameKind.local), (PySem.Str.ofString "at", PySem.NameKind.local)], isGenerator := false, isCoroutine := false, more := [] }) (by decide +kernel)) (by decide) (fun _ _ _ _ _ => pg_name (i := 4) sc_splits.nd rfl (Or.inl rfl)) (fun _ _ _ _ _ => sts_nil) (fun _ _ _ _ _ => (sv_tup (sa_cons (sv_n 4) (sa_cons (sv_n 4) sa_nil))))))))))
theorem ok_splits_by_lot (T : Tx K mg f fd g gd) (F_splits : FnOk P w K mg base (L2.CX P w) 4 (a_splits f) (d_splits fd) ["prices", "lot", "wanted"] (SpD K mg 3 m_splits)) : FnOk P w K mg base (L2.CX P w) 5 (a_splits_by_lot f) (d_splits_by_lot fd) ["shelf", "goal"] (SpO K mg 2 m_splits_by_lot) :=
  ok_fnO T.f_splits_by_lot sc_splits_by_lot (by decide) fun cdv A outer s H E hr => by
    have tk := takes_of (X := cxOf (L2.CX P w) P w K mg base N_splits_by_lot "splits_by_lot" (defScope s_splits_by_lot) (a_splits_by_lot f) cdv A outer s H E) (E := E) rfl rfl rfl rfl
    have hp := passes_of (X := cxOf (L2.CX P w) P w K mg base N_splits_by_lot "splits_by_lot" (defScope s_splits_by_lot) (a_splits_by_lot f) cdv A outer s H E) rfl
    exact (ss_cons (ss_asg (sv_n 0) (sg_tup rfl (sgs_cons (sg_n 2 sc_splits_by_lot.nd) (sgs_cons (sg_n 3 sc_splits_by_lot.nd) sgs_nil)))) (ss_one (ss_retO (so_lcG (own := [("lot", 4), ("wanted", 5)]) rfl sc_splits_by_lot.nd (si_zip (by rfl) T.n_zip (sv_n 3) (sv_n 1)) (by exact blkOk_by (own := [("lot", 4), ("wanted", 5)]) (N := N_splits_by_lot) (sc := defScope s_splits_by_lot) (scope := { kind := PySem.ScopeKind.function, names := [(PySem.Str.ofString ".0", PySem.NameKind.local), (PySem.Str.ofString "lot", PySem.NameKind.local), (PySem.Str.ofString "wanted", PySem.NameKind.local), (PySem.Str.ofString "splits", PySem.NameKind.globalImplicit), (PySem.Str.ofString "prices", PySem.NameKind.free)], isGenerator := false, isCoroutine := false, more := [] }) (by decide +kernel)) (tk_tup (tks_cons (tk_n (j := 4) (by decide)) (tks_cons (tk_n (j := 5) (by decide)) tks_nil))) (fun _ _ _ _ _ => (pg_tup rfl (pgs_cons (pg_name (i := 4) sc_splits_by_lot.nd rfl (Or.inl rfl)) (pgs_cons (pg_name (i := 5) sc_splits_by_lot.nd rfl (Or.inl rfl)) pgs_nil)))) (fun _ _ _ _ _ => sts_nil) (fun _ _ _ _ _ => (sv_call F_splits hr T.g_splits T.f_splits.kp T.b_splits takes0 (sa_cons (sv_n 2) (sa_cons (sv_n 4) (sa_cons (sv_n 5) sa_nil))) (len_cons (len_cons (len_cons len_nil)))))))))
theorem ok_deeds_around (T : Tx K mg f fd g gd) : FnOk P w K mg base (L2.CX P w) 1 (a_deeds_around f) (d_deeds_around fd) ["number", "wanted", "split"] (SpO K mg 3 m_deeds_around) :=
  ok_fnO T.f_deeds_around sc_deeds_around (by decide) fun cdv A outer s H E hr => by
    have tk := takes_of (X := cxOf (L2.CX P w) P w K mg base N_deeds_around "deeds_around" (defScope s_deeds_around) (a_deeds_around f) cdv A outer s H E) (E := E) rfl rfl rfl rfl
    have hp := passes_of (X := cxOf (L2.CX P w) P w K mg base N_deeds_around "deeds_around" (defScope s_deeds_around) (a_deeds_around f) cdv A outer s H E) rfl
    exact (ss_cons (ss_asg (sv_n 2) (sg_tup rfl (sgs_cons (sg_n 3 sc_deeds_around.nd) (sgs_cons (sg_n 4 sc_deeds_around.nd) sgs_nil)))) (ss_cons (ss_setLcG (i := 5) (own := [("book", 6)]) rfl sc_deeds_around.nd rfl rfl (sw_true rfl rfl rfl (by decide +kernel)) (si_rev (by rfl) T.n_reversed (sv_slT (sv_n 1) spt_no (spt_is (sv_n 3)))) (by exact blkOk_by (own := [("book", 6)]) (N := N_deeds_around) (sc := defScope s_deeds_around) (scope := { kind := PySem.ScopeKind.function, names := [(PySem.Str.ofString ".0", PySem.NameKind.local), (PySem.Str.ofString "book", PySem.NameKind.local), (PySem.Str.ofString "FIRST", PySem.NameKind.globalImplicit), (PySem.Str.ofString "number", PySem.NameKind.free)], isGenerator := false, isCoroutine := false, more := [] }) (by decide +kernel)) (tk_n (j := 6) (by decide)) (fun _ _ _ _ _ => (pg_name (i := 6) sc_deeds_around.nd rfl (Or.inl rfl))) (fun _ _ _ _ _ => sts_nil) (fun _ _ _ _ _ => (sv_tup (sa_cons (sv_n 6) (sa_cons (sv_n 0) (sa_cons (sv_glob T.c_FIRST.choose_spec.1 T.c_FIRST.choose_spec.2 fun _ => .str _) sa_nil)))))) (ss_one (ss_retO (so_cat (so_n 5) (so_lcT (own := [("book", 6)]) (j := 6) rfl sc_deeds_around.nd (sv_slT (sv_n 1) (spt_is (sv_n 4)) spt_no) (by exact blkOk_by (own := [("book", 6)]) (N := N_deeds_around) (sc := defScope s_deeds_around) (scope := { kind := PySem.ScopeKind.function, names := [(PySem.Str.ofString ".0", PySem.NameKind.local), (PySem.Str.ofString "book", PySem.NameKind.local), (PySem.Str.ofString "LAST", PySem.NameKind.globalImplicit), (PySem.Str.ofString "number", PySem.NameKind.free)], isGenerator := false, isCoroutine := false, more := [] }) (by decide +kernel)) (by decide) (fun _ _ _ _ _ => pg_name (i := 6) sc_deeds_around.nd rfl (Or.inl rfl)) (fun _ _ _ _ _ => sts_nil) (fun _ _ _ _ _ => (sv_tup (sa_cons (sv_n 6) (sa_cons (sv_n 0) (sa_cons (sv_glob T.c_LAST.choose_spec.1 T.c_LAST.choose_spec.2 fun _ => .str _) sa_nil)))))))))))
theorem ok_least_way (T : Tx K mg f fd g gd) (F_deeds_around : FnOk P w K mg base (L2.CX P w) 1 (a_deeds_around f) (d_deeds_around fd) ["number", "wanted", "split"] (SpO K mg 3 m_deeds_around)) (F_splits_by_lot : FnOk P w K mg base (L2.CX P w) 5 (a_splits_by_lot f) (d_splits_by_lot fd) ["shelf", "goal"] (SpO K mg 2 m_splits_by_lot)) : FnOk P w K mg base (L2.CX P w) 6 (a_least_way f) (d_least_way fd) ["shelf", "goal"] (SpD K mg 2 m_least_way) :=
  ok_fnD T.f_least_way sc_least_way (by decide) fun cdv A outer s H E hr => by
    have tk := takes_of (X := cxOf (L2.CX P w) P w K mg base N_least_way "least_way" (defScope s_least_way) (a_least_way f) cdv A outer s H E) (E := E) rfl rfl rfl rfl
    have hp := passes_of (X := cxOf (L2.CX P w) P w K mg base N_least_way "least_way" (defScope s_least_way) (a_least_way f) cdv A outer s H E) rfl
    exact (ss_cons (ss_set 2 (sv_ixP 0 sv_int) sc_least_way.nd) (ss_cons (ss_setO 3 (so_lst sa_nil) sc_least_way.nd) (ss_cons (ss_forEL hp rfl (by rfl) T.n_enumerate (sv_o (so_call F_splits_by_lot hr T.g_splits_by_lot T.f_splits_by_lot.kp T.b_splits_by_lot tk (sa_cons (sv_n 0) (sa_cons (sv_n 1) sa_nil)) (len_cons (len_cons len_nil)))) (sg_tup rfl (sgs_cons (sg_n 4 sc_least_way.nd) (sgs_cons (sg_n 5 sc_least_way.nd) sgs_nil))) (ss_cons (ss_if (st_not (st_val (sv_n 5))) (ss_one (ss_ret sv_non)) ss_nil) (ss_one (ss_ext 3 (so_call F_deeds_around (hr.mono (by decide)) T.g_deeds_around T.f_deeds_around.kp T.b_deeds_around tk (sa_cons (sv_n 4) (sa_cons (sv_ixP 1 (sv_n 4)) (sa_cons (sv_ixP 5 sv_int) sa_nil))) (len_cons (len_cons (len_cons len_nil)))))))) (ss_one (ss_ret (sv_tup (sa_cons (sv_sum rfl (by rfl) T.n_sum (sa_cons (sv_o (so_lcL (own := [("deed", 6)]) (j := 6) rfl sc_least_way.nd (sv_n 3) (by exact blkOk_by (own := [("deed", 6)]) (N := N_least_way) (sc := defScope s_least_way) (scope := { kind := PySem.ScopeKind.function, names := [(PySem.Str.ofString ".0", PySem.NameKind.local), (PySem.Str.ofString "deed", PySem.NameKind.local), (PySem.Str.ofString "prices", PySem.NameKind.free)], isGenerator := false, isCoroutine := false, more := [] }) (by decide +kernel)) (by decide) (fun _ _ _ _ _ => pg_name (i := 6) sc_least_way.nd rfl (Or.inl rfl)) (fun _ _ _ _ _ => sts_nil) (fun _ _ _ _ _ => (sv_ixP 2 (sv_ixP 6 sv_int))))) sa_nil)) (sa_cons (sv_n 3) sa_nil))))))))
theorem ok_least (T : Tx K mg f fd g gd) (F_check_goal : FnOk P w K mg base (L2.CX P w) 4 (a_check_goal f) (d_check_goal fd) ["shelf", "goal"] (SpD K mg 2 m_check_goal)) (F_check_shelf : FnOk P w K mg base (L2.CX P w) 4 (a_check_shelf f) (d_check_shelf fd) ["shelf"] (SpD K mg 1 m_check_shelf)) (F_least_way : FnOk P w K mg base (L2.CX P w) 6 (a_least_way f) (d_least_way fd) ["shelf", "goal"] (SpD K mg 2 m_least_way)) : FnOk P w K mg base (L2.CX P w) 7 (a_least f) (d_least fd) ["shelf", "goal"] (SpD K mg 2 m_least) :=
  ok_fnD T.f_least sc_least (by decide) fun cdv A outer s H E hr => by
    have tk := takes_of (X := cxOf (L2.CX P w) P w K mg base N_least "least" (defScope s_least) (a_least f) cdv A outer s H E) (E := E) rfl rfl rfl rfl
    have hp := passes_of (X := cxOf (L2.CX P w) P w K mg base N_least "least" (defScope s_least) (a_least f) cdv A outer s H E) rfl
    exact (ss_cons (ss_expr (sv_call F_check_shelf (hr.mono (by decide)) T.g_check_shelf T.f_check_shelf.kp T.b_check_shelf tk (sa_cons (sv_n 0) sa_nil) (len_cons len_nil))) (ss_cons (ss_expr (sv_call F_check_goal (hr.mono (by decide)) T.g_check_goal T.f_check_goal.kp T.b_check_goal tk (sa_cons (sv_n 0) (sa_cons (sv_n 1) sa_nil)) (len_cons (len_cons len_nil)))) (ss_one (ss_ret (sv_call F_least_way hr T.g_least_way T.f_least_way.kp T.b_least_way tk (sa_cons (sv_n 0) (sa_cons (sv_n 1) sa_nil)) (len_cons (len_cons len_nil)))))))
theorem ok_spare (T : Tx K mg f fd g gd) (F_check_goal : FnOk P w K mg base (L2.CX P w) 4 (a_check_goal f) (d_check_goal fd) ["shelf", "goal"] (SpD K mg 2 m_check_goal)) (F_check_shelf : FnOk P w K mg base (L2.CX P w) 4 (a_check_shelf f) (d_check_shelf fd) ["shelf"] (SpD K mg 1 m_check_shelf)) (F_splits_by_lot : FnOk P w K mg base (L2.CX P w) 5 (a_splits_by_lot f) (d_splits_by_lot fd) ["shelf", "goal"] (SpO K mg 2 m_splits_by_lot)) : FnOk P w K mg base (L2.CX P w) 6 (a_spare f) (d_spare fd) ["shelf", "goal"] (SpO K mg 2 m_spare) :=
  ok_fnO T.f_spare sc_spare (by decide) fun cdv A outer s H E hr => by
    have tk := takes_of (X := cxOf (L2.CX P w) P w K mg base N_spare "spare" (defScope s_spare) (a_spare f) cdv A outer s H E) (E := E) rfl rfl rfl rfl
    have hp := passes_of (X := cxOf (L2.CX P w) P w K mg base N_spare "spare" (defScope s_spare) (a_spare f) cdv A outer s H E) rfl
    exact (ss_cons (ss_expr (sv_call F_check_shelf (hr.mono (by decide)) T.g_check_shelf T.f_check_shelf.kp T.b_check_shelf tk (sa_cons (sv_n 0) sa_nil) (len_cons len_nil))) (ss_cons (ss_expr (sv_call F_check_goal (hr.mono (by decide)) T.g_check_goal T.f_check_goal.kp T.b_check_goal tk (sa_cons (sv_n 0) (sa_cons (sv_n 1) sa_nil)) (len_cons (len_cons len_nil)))) (ss_cons (ss_setO 2 (so_call F_splits_by_lot hr T.g_splits_by_lot T.f_splits_by_lot.kp T.b_splits_by_lot tk (sa_cons (sv_n 0) (sa_cons (sv_n 1) sa_nil)) (len_cons (len_cons len_nil))) sc_spare.nd) (ss_cons (ss_if (st_cmp (cm_inE hr.units65) (sv_o (so_lst sa_nil)) (sv_n 2)) (ss_one (ss_raise0 rfl tk T.xn_NoWay)) ss_nil) (ss_cons (ss_set 3 (sv_ixP 0 sv_int) sc_spare.nd) (ss_cons (ss_setO 4 (so_lst sa_nil) sc_spare.nd) (ss_cons (ss_forG hp rfl (si_zipTL (by rfl) T.n_zip (sv_n 1) (sv_n 2)) (sg_tup rfl (sgs_cons (sg_n 5 sc_spare.nd) (sgs_cons (sg_n 6 sc_spare.nd) sgs_nil))) (ss_one (ss_forL hp rfl (sv_n 6) (sg_tup rfl (sgs_cons (sg_n 7 sc_spare.nd) (sgs_cons (sg_n 8 sc_spare.nd) sgs_nil))) (ss_one (ss_extT T.kt 4 (sv_slT (sv_n 5) (spt_is (sv_n 7)) (spt_is (sv_n 8)))))))) (ss_one (ss_retO (so_sortedI (own := [("book", 9)]) (j := 9) rfl sc_spare.nd (by rfl) T.n_sorted (sv_n 4) (by exact blkOk_by (own := [("book", 9)]) (N := N_spare) (sc := defScope s_spare) (scope := { kind := PySem.ScopeKind.function, names := [(PySem.Str.ofString ".0", PySem.NameKind.local), (PySem.Str.ofString "book", PySem.NameKind.local), (PySem.Str.ofString "prices", PySem.NameKind.free)], isGenerator := false, isCoroutine := false, more := [] }) (by decide +kernel)) (by decide) (fun _ _ _ _ _ => pg_name (i := 9) sc_spare.nd rfl (Or.inl rfl)) (fun _ _ _ _ _ => sts_one (st_cmp cm_isn (sv_ixP 3 (sv_n 9)) sv_non)) (fun _ _ _ _ _ => (sv_n 9))))))))))))
theorem ok__law_start (T : Tx K mg f fd g gd) : FnOk P w K mg base (L2.CX P w) 1 (a__law_start f) (d__law_start fd) ["_law_script"] (SpO K mg 1 m__law_start) :=
  ok_fnO T.f__law_start sc__law_start (by decide) fun cdv A outer s H E hr => by
    have tk := takes_of (X := cxOf (L2.CX P w) P w K mg base N__law_start "_law_start" (defScope s__law_start) (a__law_start f) cdv A outer s H E) (E := E) rfl rfl rfl rfl
    have hp := passes_of (X := cxOf (L2.CX P w) P w K mg base N__law_start "_law_start" (defScope s__law_start) (a__law_start f) cdv A outer s H E) rfl
    exact (ss_cons (ss_set 1 sv_int sc__law_start.nd) (ss_cons (ss_forL hp rfl (sv_n 0) (sg_n 2 sc__law_start.nd) (ss_one (ss_set 1 (sv_mod (sv_add (sv_add (sv_mul (sv_n 1) sv_int) (sv_n 2)) sv_int) sv_int) sc__law_start.nd))) (ss_one (ss_retO (so_lst (sa_cons (sv_n 0) (sa_cons sv_int (sa_cons (sv_n 1) (sa_cons sv_int sa_nil)))))))))
theorem ok__law_drawn (T : Tx K mg f fd g gd) : FnOk P w K mg base (L2.CX P w) 1 (a__law_drawn f) (d__law_drawn fd) ["_law_state", "_law_many"] (SpB K 1 m__law_drawn) :=
  ok_fnB T.f__law_drawn sc__law_drawn (by decide) fun cdv A outer s H E hr => by
    have tk := takes_of (X := cxOf (L2.CX P w) P w K mg base N__law_drawn "_law_drawn" (defScope s__law_drawn) (a__law_drawn f) cdv A outer s H E) (E := E) rfl rfl rfl rfl
    have hp := passes_of (X := cxOf (L2.CX P w) P w K mg base N__law_drawn "_law_drawn" (defScope s__law_drawn) (a__law_drawn f) cdv A outer s H E) rfl
    exact (ss_cons (ss_if (st_cmp cm_gt (sv_ixP 0 sv_int) sv_int) (ss_cons (ss_set 2 (sv_mod (sv_ixP 0 sv_int) (sv_n 1)) sc__law_drawn.nd) (ss_cons (ss_setIx 0 (sv_div (sv_ixP 0 sv_int) (sv_n 1)) sv_int) (ss_one (ss_ret (sv_n 2))))) ss_nil) (ss_cons (ss_setIx 0 (sv_add (sv_ixP 0 sv_int) sv_int) sv_int) (ss_cons (ss_if (st_cmp cm_le (sv_ixP 0 sv_int) (sv_len (by rfl) T.n_len (sa_cons (sv_ixP 0 sv_int) sa_nil))) (ss_cons (ss_set 3 (sv_ix (sv_ixP 0 sv_int) (sv_sub (sv_ixP 0 sv_int) sv_int)) sc__law_drawn.nd) (ss_cons (ss_setIx 0 (sg_ifE (st_cmp cm_ge (sv_n 3) (sv_pow sv_int sv_int)) (sv_div (sv_n 3) (sv_n 1)) sv_int) sv_int) (ss_one (ss_ret (sv_mod (sv_n 3) (sv_n 1)))))) ss_nil) (ss_cons (ss_setIx 0 (sv_mod (sv_add (sv_mul (sv_ixP 0 sv_int) sv_int) sv_int) sv_int) sv_int) (ss_one (ss_ret (sv_mod (sv_div (sv_ixP 0 sv_int) sv_int) (sv_n 1))))))))
theorem step__law_same (T : Tx K mg f fd g gd) {k : Nat} {mr : List PyData → Rf PyData} (F_rec : FnOk P w K mg base (L2.CX P w) k (a__law_same f) (d__law_same fd) ["_law_found", "_law_due"] (SpD K mg 2 mr)) : FnOk P w K mg base (L2.CX P w) (k + 1) (a__law_same f) (d__law_same fd) ["_law_found", "_law_due"] (SpD K mg 2 (fnD (G__law_same mr) 4)) :=
  ok_fnD T.f__law_same sc__law_same (by decide) fun cdv A outer s H E hr => by
    have tk := takes_of (X := cxOf (L2.CX P w) P w K mg base N__law_same "_law_same" (defScope s__law_same) (a__law_same f) cdv A outer s H E) (E := E) rfl rfl rfl rfl
    have hp := passes_of (X := cxOf (L2.CX P w) P w K mg base N__law_same "_law_same" (defScope s__law_same) (a__law_same f) cdv A outer s H E) rfl
    exact (ss_cons (ss_if (st_val (sv_isa2 (x1 := false) (by rfl) T.n_isinstance (by rfl) T.n_tuple (by decide +kernel) (by decide) (by rfl) T.n_list (by decide +kernel) (by decide) (sv_n 1))) (ss_cons (ss_if (st_w (sw_or (st_not (st_val (sv_isa2 (x1 := false) (by rfl) T.n_isinstance (by rfl) T.n_tuple (by decide +kernel) (by decide) (by rfl) T.n_list (by decide +kernel) (by decide) (sv_n 0)))) (sw_or1 (st_cmp (cm_ne hr.units) (sv_isa (by rfl) T.n_isinstance (by rfl) T.n_list (by decide +kernel) (by decide) (sv_n 0)) (sv_isa (by rfl) T.n_isinstance (by rfl) T.n_list (by decide +kernel) (by decide) (sv_n 1)))))) (ss_one (ss_ret sv_bl)) ss_nil) (ss_cons (ss_if (st_cmp (cm_ne hr.units) (sv_lenP 0 (by rfl) T.n_len) (sv_lenP 1 (by rfl) T.n_len)) (ss_one (ss_ret sv_bl)) ss_nil) (ss_one (ss_ret (sv_cmp (cm_eq hr.units) (sv_o (so_lcR1 (own := [("_law_k", 3)]) (j := 3) rfl sc__law_same.nd (by rfl) T.n_range (sv_lenP 1 (by rfl) T.n_len) (by exact blkOk_by (own := [("_law_k", 3)]) (N := N__law_same) (sc := defScope s__law_same) (scope := { kind := PySem.ScopeKind.function, names := [(PySem.Str.ofString ".0", PySem.NameKind.local), (PySem.Str.ofString "_law_k", PySem.NameKind.local), (PySem.Str.ofString "_law_same", PySem.NameKind.globalImplicit), (PySem.Str.ofString "_law_due", PySem.NameKind.free), (PySem.Str.ofString "_law_found", PySem.NameKind.free)], isGenerator := false, isCoroutine := false, more := [] }) (by decide +kernel)) (by decide) (fun _ _ _ _ _ => pg_name (i := 3) sc__law_same.nd rfl (Or.inl rfl)) (fun _ _ _ _ _ => sts_one (st_not (st_val (sv_call F_rec hr T.g__law_same T.f__law_same.kp T.b__law_same takes0 (sa_cons (sv_ixP 0 (sv_n 3)) (sa_cons (sv_ixP 1 (sv_n 3)) sa_nil)) (len_cons (len_cons len_nil)))))) (fun _ _ _ _ _ => (sv_n 3)))) (sv_o (so_lst sa_nil))))))) ss_nil) (ss_cons (ss_set 2 (sv_and (sv_cmp (cm_eq hr.units) (sv_isa (by rfl) T.n_isinstance (by rfl) T.n_bool (by decide +kernel) (by decide) (sv_n 0)) (sv_isa (by rfl) T.n_isinstance (by rfl) T.n_bool (by decide +kernel) (by decide) (sv_n 1))) (sv_one (sv_cmp (cm_eq hr.units) (sv_isa (by rfl) T.n_isinstance (by rfl) T.n_int (by decide +kernel) (by decide) (sv_n 0)) (sv_isa (by rfl) T.n_isinstance (by rfl) T.n_int (by decide +kernel) (by decide) (sv_n 1))))) sc__law_same.nd) (ss_one (ss_ret (sv_and (sv_n 2) (sv_one (sv_cmp (cm_eq hr.units) (sv_n 0) (sv_n 1))))))))
theorem ok__law_same (T : Tx K mg f fd g gd) : ∀ n : Nat, FnOk P w K mg base (L2.CX P w) n (a__law_same f) (d__law_same fd) ["_law_found", "_law_due"] (SpD K mg 2 (m__law_same n))
  | 0 => ⟨fun _ _ _ _ ⟨_, _, _, _, _, h⟩ => h.elim, fun _ _ _ _ _ _ _ _ _ _ _ _ _ ⟨_, _, _, _, _, h⟩ => h.elim⟩
  | n + 1 => step__law_same T (ok__law_same T n)
theorem ok__law_turned (T : Tx K mg f fd g gd) (F__law_drawn : FnOk P w K mg base (L2.CX P w) 1 (a__law_drawn f) (d__law_drawn fd) ["_law_state", "_law_many"] (SpB K 1 m__law_drawn)) : FnOk P w K mg base (L2.CX P w) 2 (a__law_turned f) (d__law_turned fd) ["_law_state", "_law_many"] (SpBO K 1 m__law_turned) :=
  ok_fnBO T.f__law_turned sc__law_turned (by decide) fun cdv A outer s H E hr => by
    have tk := takes_of (X := cxOf (L2.CX P w) P w K mg base N__law_turned "_law_turned" (defScope s__law_turned) (a__law_turned f) cdv A outer s H E) (E := E) rfl rfl rfl rfl
    have hp := passes_of (X := cxOf (L2.CX P w) P w K mg base N__law_turned "_law_turned" (defScope s__law_turned) (a__law_turned f) cdv A outer s H E) rfl
    exact (ss_cons (ss_parOO (i := 2) (j := 3) rfl sc__law_turned.nd rfl rfl (by decide) rfl rfl (so_listR rfl (by rfl) T.n_list (by rfl) T.n_range (sv_n 1)) (so_lst sa_nil) (by rfl)) (ss_cons (ss_while 100 hp (st_neL 2 hr.units (sv_o (so_lst sa_nil))) (ss_one (ss_app 3 (sv_popAt 2 (sv_callB' 0 F__law_drawn hr T.g__law_drawn T.f__law_drawn.kp T.b__law_drawn tk (sa_cons (sv_lenP 2 (by rfl) T.n_len) sa_nil) (len_cons len_nil)))))) (ss_one (ss_retO (so_n 3)))))
theorem ok__law_lots (T : Tx K mg f fd g gd) (F__law_drawn : FnOk P w K mg base (L2.CX P w) 1 (a__law_drawn f) (d__law_drawn fd) ["_law_state", "_law_many"] (SpB K 1 m__law_drawn)) (F__law_turned : FnOk P w K mg base (L2.CX P w) 2 (a__law_turned f) (d__law_turned fd) ["_law_state", "_law_many"] (SpBO K 1 m__law_turned)) : FnOk P w K mg base (L2.CX P w) 3 (a__law_lots f) (d__law_lots fd) ["_law_state", "_law_many", "_law_lots_here"] (SpB K 2 m__law_lots) :=
  ok_fnB T.f__law_lots sc__law_lots (by decide) fun cdv A outer s H E hr => by
    have tk := takes_of (X := cxOf (L2.CX P w) P w K mg base N__law_lots "_law_lots" (defScope s__law_lots) (a__law_lots f) cdv A outer s H E) (E := E) rfl rfl rfl rfl
    have hp := passes_of (X := cxOf (L2.CX P w) P w K mg base N__law_lots "_law_lots" (defScope s__law_lots) (a__law_lots f) cdv A outer s H E) rfl
    exact (ss_cons (ss_setO 3 (so_rep (so_lst (sa_cons (sv_tup sa_nil) sa_nil)) (sv_n 2)) sc__law_lots.nd) (ss_cons (ss_forL hp rfl (sv_o (so_callB' 0 F__law_turned hr T.g__law_turned T.f__law_turned.kp T.b__law_turned tk (sa_cons (sv_n 1) sa_nil) (len_cons len_nil))) (sg_n 4 sc__law_lots.nd) (ss_cons (ss_set 5 (sv_callB' 0 F__law_drawn (hr.mono (by decide)) T.g__law_drawn T.f__law_drawn.kp T.b__law_drawn tk (sa_cons (sv_n 2) sa_nil) (len_cons len_nil)) sc__law_lots.nd) (ss_one (ss_setIx 3 (sv_add (sv_ixP 3 (sv_n 5)) (sv_tup (sa_cons (sv_n 4) sa_nil))) (sv_n 5))))) (ss_one (ss_ret (sv_tupleOf (by rfl) T.n_tuple (sa_cons (sv_n 3) sa_nil))))))
theorem ok__law_shelf (T : Tx K mg f fd g gd) (F__law_drawn : FnOk P w K mg base (L2.CX P w) 1 (a__law_drawn f) (d__law_drawn fd) ["_law_state", "_law_many"] (SpB K 1 m__law_drawn)) (F__law_lots : FnOk P w K mg base (L2.CX P w) 3 (a__law_lots f) (d__law_lots fd) ["_law_state", "_law_many", "_law_lots_here"] (SpB K 2 m__law_lots)) : FnOk P w K mg base (L2.CX P w) 4 (a__law_shelf f) (d__law_shelf fd) ["_law_state", "_law_most", "_law_lots_here"] (SpB K 2 m__law_shelf) :=
  ok_fnB T.f__law_shelf sc__law_shelf (by decide) fun cdv A outer s H E hr => by
    have tk := takes_of (X := cxOf (L2.CX P w) P w K mg base N__law_shelf "_law_shelf" (defScope s__law_shelf) (a__law_shelf f) cdv A outer s H E) (E := E) rfl rfl rfl rfl
    have hp := passes_of (X := cxOf (L2.CX P w) P w K mg base N__law_shelf "_law_shelf" (defScope s__law_shelf) (a__law_shelf f) cdv A outer s H E) rfl
    exact (ss_cons (ss_asg (sv_tup (sa_cons (sv_add sv_int (sv_callB' 0 F__law_drawn (hr.mono (by decide)) T.g__law_drawn T.f__law_drawn.kp T.b__law_drawn tk (sa_cons (sv_n 1) sa_nil) (len_cons len_nil))) (sa_cons (sv_ix (sv_o (so_lst (sa_cons sv_int (sa_cons sv_int (sa_cons sv_int sa_nil))))) (sv_callB' 0 F__law_drawn (hr.mono (by decide)) T.g__law_drawn T.f__law_drawn.kp T.b__law_drawn tk (sa_cons sv_int sa_nil) (len_cons len_nil))) sa_nil))) (sg_tup rfl (sgs_cons (sg_n 3 sc__law_shelf.nd) (sgs_cons (sg_n 4 sc__law_shelf.nd) sgs_nil)))) (ss_cons (ss_set 5 (sv_ix (sv_o (so_lst (sa_cons sv_int (sa_cons sv_int (sa_cons sv_int sa_nil))))) (sv_callB' 0 F__law_drawn (hr.mono (by decide)) T.g__law_drawn T.f__law_drawn.kp T.b__law_drawn tk (sa_cons sv_int sa_nil) (len_cons len_nil))) sc__law_shelf.nd) (ss_cons (ss_set 6 (sv_tupleOf (by rfl) T.n_tuple (sa_cons (sv_o (so_lcR1 (own := [("_law_k", 7)]) (j := 7) rfl sc__law_shelf.nd (by rfl) T.n_range (sv_n 3) (by exact blkOk_by (own := [("_law_k", 7)]) (N := N__law_shelf) (sc := defScope s__law_shelf) (scope := { kind := PySem.ScopeKind.function, names := [(PySem.Str.ofString ".0", PySem.NameKind.local), (PySem.Str.ofString "_law_k", PySem.NameKind.local), (PySem.Str.ofString "_law_drawn", PySem.NameKind.globalImplicit), (PySem.Str.ofString "_law_dear", PySem.NameKind.free), (PySem.Str.ofString "_law_rare", PySem.NameKind.free), (PySem.Str.ofString "_law_state", PySem.NameKind.free)], isGenerator := false, isCoroutine := false, more := [] }) (by decide +kernel)) (by decide) (fun _ _ _ _ _ => pg_name (i := 7) sc__law_shelf.nd rfl (Or.inl rfl)) (fun _ _ _ _ _ => sts_nil) (fun _ _ _ _ _ => (sg_ifE (st_cmp (cm_eq hr.units) (sv_callB' 0 F__law_drawn (hr.mono (by decide)) T.g__law_drawn T.f__law_drawn.kp T.b__law_drawn takes0 (sa_cons (sv_n 5) sa_nil) (len_cons len_nil)) sv_int) sv_non (sv_add sv_int (sv_callB' 0 F__law_drawn (hr.mono (by decide)) T.g__law_drawn T.f__law_drawn.kp T.b__law_drawn takes0 (sa_cons (sv_n 4) sa_nil) (len_cons len_nil))))))) sa_nil)) sc__law_shelf.nd) (ss_one (ss_ret (sv_tup (sa_cons (sv_n 6) (sa_cons (sv_callB' 0 F__law_lots hr T.g__law_lots T.f__law_lots.kp T.b__law_lots tk (sa_cons (sv_n 3) (sa_cons (sv_add sv_int (sv_callB' 0 F__law_drawn (hr.mono (by decide)) T.g__law_drawn T.f__law_drawn.kp T.b__law_drawn tk (sa_cons (sv_n 2) sa_nil) (len_cons len_nil))) sa_nil)) (len_cons (len_cons len_nil))) sa_nil))))))))
theorem ok__law_placed (T : Tx K mg f fd g gd) : FnOk P w K mg base (L2.CX P w) 1 (a__law_placed f) (d__law_placed fd) ["_law_lots_here", "_law_book", "_law_number", "_law_end"] (SpD K mg 4 m__law_placed) :=
  ok_fnD T.f__law_placed sc__law_placed (by decide) fun cdv A outer s H E hr => by
    have tk := takes_of (X := cxOf (L2.CX P w) P w K mg base N__law_placed "_law_placed" (defScope s__law_placed) (a__law_placed f) cdv A outer s H E) (E := E) rfl rfl rfl rfl
    have hp := passes_of (X := cxOf (L2.CX P w) P w K mg base N__law_placed "_law_placed" (defScope s__law_placed) (a__law_placed f) cdv A outer s H E) rfl
    exact (ss_cons (ss_setLcT (i := 4) (own := [("_law_lot", 5)]) (j := 5) rfl sc__law_placed.nd rfl rfl (sw_true rfl rfl rfl (by decide +kernel)) (sv_n 0) (by exact blkOk_by (own := [("_law_lot", 5)]) (N := N__law_placed) (sc := defScope s__law_placed) (scope := { kind := PySem.ScopeKind.function, names := [(PySem.Str.ofString ".0", PySem.NameKind.local), (PySem.Str.ofString "_law_lot", PySem.NameKind.local), (PySem.Str.ofString "tuple", PySem.NameKind.globalImplicit), (PySem.Str.ofString "_law_book", PySem.NameKind.free)], isGenerator := false, isCoroutine := false, more := [] }) (by decide +kernel)) (by decide) (fun _ _ _ _ _ => pg_name (i := 5) sc__law_placed.nd rfl (Or.inl rfl)) (fun _ _ _ _ _ => sts_nil) (fun _ _ _ _ _ => (sv_tupleOf (by rfl) T.n_tuple (sa_cons (sv_o (so_lcT (own := [("_law_one", 6)]) (j := 6) rfl sc__law_placed.nd (sv_n 5) (by exact blkOk_by (own := [("_law_one", 6)]) (N := N__law_placed) (sc := { kind := PySem.ScopeKind.function, names := [(PySem.Str.ofString ".0", PySem.NameKind.local), (PySem.Str.ofString "_law_lot", PySem.NameKind.local), (PySem.Str.ofString "tuple", PySem.NameKind.globalImplicit), (PySem.Str.ofString "_law_book", PySem.NameKind.cell)], isGenerator := false, isCoroutine := false, more := [] }) (scope := { kind := PySem.ScopeKind.function, names := [(PySem.Str.ofString ".0", PySem.NameKind.local), (PySem.Str.ofString "_law_one", PySem.NameKind.local), (PySem.Str.ofString "_law_book", PySem.NameKind.free)], isGenerator := false, isCoroutine := false, more := [] }) (by decide +kernel)) (by decide) (fun _ _ _ _ _ => pg_name (i := 6) sc__law_placed.nd rfl (Or.inl rfl)) (fun _ _ _ _ _ => sts_one (st_cmp (cm_ne hr.units) (sv_n 6) (sv_n 1))) (fun _ _ _ _ _ => (sv_n 6)))) sa_nil)))) (ss_cons (ss_setIx 4 (sg_ifE (st_cmp (cm_eq hr.units) (sv_n 3) sv_str) (sv_add (sv_tup (sa_cons (sv_n 1) sa_nil)) (sv_ixP 4 (sv_n 2))) (sv_add (sv_ixP 4 (sv_n 2)) (sv_tup (sa_cons (sv_n 1) sa_nil)))) (sv_n 2)) (ss_one (ss_ret (sv_tupleOf (by rfl) T.n_tuple (sa_cons (sv_n 4) sa_nil))))))
theorem ok__law_goal (T : Tx K mg f fd g gd) (F__law_drawn : FnOk P w K mg base (L2.CX P w) 1 (a__law_drawn f) (d__law_drawn fd) ["_law_state", "_law_many"] (SpB K 1 m__law_drawn)) (F__law_lots : FnOk P w K mg base (L2.CX P w) 3 (a__law_lots f) (d__law_lots fd) ["_law_state", "_law_many", "_law_lots_here"] (SpB K 2 m__law_lots)) (F__law_placed : FnOk P w K mg base (L2.CX P w) 1 (a__law_placed f) (d__law_placed fd) ["_law_lots_here", "_law_book", "_law_number", "_law_end"] (SpD K mg 4 m__law_placed)) : FnOk P w K mg base (L2.CX P w) 4 (a__law_goal f) (d__law_goal fd) ["_law_state", "_law_shelf_here"] (SpB K 1 m__law_goal) :=
  ok_fnB T.f__law_goal sc__law_goal (by decide) fun cdv A outer s H E hr => by
    have tk := takes_of (X := cxOf (L2.CX P w) P w K mg base N__law_goal "_law_goal" (defScope s__law_goal) (a__law_goal f) cdv A outer s H E) (E := E) rfl rfl rfl rfl
    have hp := passes_of (X := cxOf (L2.CX P w) P w K mg base N__law_goal "_law_goal" (defScope s__law_goal) (a__law_goal f) cdv A outer s H E) rfl
    exact (ss_cons (ss_asg (sv_n 1) (sg_tup rfl (sgs_cons (sg_n 2 sc__law_goal.nd) (sgs_cons (sg_n 3 sc__law_goal.nd) sgs_nil)))) (ss_cons (ss_set 4 (sv_callB' 0 F__law_drawn (hr.mono (by decide)) T.g__law_drawn T.f__law_drawn.kp T.b__law_drawn tk (sa_cons sv_int sa_nil) (len_cons len_nil)) sc__law_goal.nd) (ss_cons (ss_if (st_cmp (cm_eq hr.units) (sv_n 4) sv_int) (ss_one (ss_ret (sv_callB' 0 F__law_lots hr T.g__law_lots T.f__law_lots.kp T.b__law_lots tk (sa_cons (sv_lenP 2 (by rfl) T.n_len) (sa_cons (sv_lenP 3 (by rfl) T.n_len) sa_nil)) (len_cons (len_cons len_nil))))) ss_nil) (ss_cons (ss_forR1 hp rfl (by rfl) T.n_range (sv_callB' 0 F__law_drawn (hr.mono (by decide)) T.g__law_drawn T.f__law_drawn.kp T.b__law_drawn tk (sa_cons (sv_ix (sv_o (so_lst (sa_cons sv_int (sa_cons (sv_add (sv_mul sv_int (sv_lenP 2 (by rfl) T.n_len)) sv_int) sa_nil)))) (sv_callB' 0 F__law_drawn (hr.mono (by decide)) T.g__law_drawn T.f__law_drawn.kp T.b__law_drawn tk (sa_cons sv_int sa_nil) (len_cons len_nil))) sa_nil) (len_cons len_nil)) (sg_n 5 sc__law_goal.nd) (ss_cons (ss_par (i := 6) (j := 7) rfl sc__law_goal.nd rfl rfl (by decide) rfl rfl (sa_cons (sv_callB' 0 F__law_drawn (hr.mono (by decide)) T.g__law_drawn T.f__law_drawn.kp T.b__law_drawn tk (sa_cons (sv_lenP 2 (by rfl) T.n_len) sa_nil) (len_cons len_nil)) (sa_cons (sv_callB' 0 F__law_drawn (hr.mono (by decide)) T.g__law_drawn T.f__law_drawn.kp T.b__law_drawn tk (sa_cons (sv_lenP 3 (by rfl) T.n_len) sa_nil) (len_cons len_nil)) sa_nil)) (by rfl)) (ss_one (ss_if (st_w (sw_or (st_cmp cm_isn (sv_ixP 2 (sv_n 6)) sv_non) (sw_or1 (st_w (sw_and (st_cmp (cm_eq hr.units) (sv_n 4) sv_int) (sw_and1 (st_cmp (cm_eq hr.units) (sv_n 5) sv_int))))))) (ss_one (ss_set 3 (sv_call F__law_placed (hr.mono (by decide)) T.g__law_placed T.f__law_placed.kp T.b__law_placed tk (sa_cons (sv_n 3) (sa_cons (sv_n 6) (sa_cons (sv_n 7) (sa_cons (sv_ix (sv_o (so_lst (sa_cons sv_str (sa_cons sv_str sa_nil)))) (sv_callB' 0 F__law_drawn (hr.mono (by decide)) T.g__law_drawn T.f__law_drawn.kp T.b__law_drawn tk (sa_cons sv_int sa_nil) (len_cons len_nil))) sa_nil)))) (len_cons (len_cons (len_cons (len_cons len_nil))))) sc__law_goal.nd)) ss_nil)))) (ss_one (ss_ret (sv_n 3)))))))
end
theorem kindX_cases {x : Xc} {d : PyData} (h : kindX x = some d) : x.cls = "NoWay" ∧ x.fs = none ∧ d = .str "NoWay" := by
  unfold kindX at h
  split at h
  · rename_i e
    split at h
    · rename_i c; cases h; exact ⟨c, e, rfl⟩
    · cases h
  · cases h
section
variable {P : Program} {w : World} {K : PySem.W.Frag} {mg : Str → Option Value} {base : Heap} {f : Nat → Addr} {fd : Nat → FuncData} {g : Nat → Addr} {gd : Nat → FuncData}
theorem kind_ok (T : Tx K mg f fd g gd) (X : Cx) (hr : Room 1 X.A) (hK : X.K = K) (hmg : X.mg = mg) (ga : Addr) (cdg : Value) (q : Str) :
    LamX.GivesTo X N__law_kind "_law_kind" (defScope s__law_kind) ga cdg (defBody s__law_kind) "_law_work" q (TTk X.K X.mg kindX) := by
  subst hK hmg
  refine kind_gives0 (CS := f 1) (i := 1) kindX (by decide +kernel) rfl rfl rfl T.gh_ShelfError (by decide) (fun _ => rfl) (fun s H xc dres cls hk hc => ?_) (fun xc dres hk => (kindX_cases hk).2.1)
  obtain ⟨e1, e2, rfl⟩ := kindX_cases hk
  rw [e1, T.gc_NoWay] at hc
  cases hc
  exact ⟨T.exm_NoWay, fun a oe pn hz hd => ⟨_, ok_kind_NoWay T X hr rfl rfl ga cdg s H a oe pn hz hd, kind_NoWay a⟩⟩
end
section
variable {P : Program} {w : World} {K : PySem.W.Frag} {mg : Str → Option Value} {base : Heap} {f : Nat → Addr} {fd : Nat → FuncData} {g : Nat → Addr} {gd : Nat → FuncData}
theorem body_law (T : Tx K mg f fd g gd) (F__law_goal : FnOk P w K mg base (L2.CX P w) 4 (a__law_goal f) (d__law_goal fd) ["_law_state", "_law_shelf_here"] (SpB K 1 m__law_goal)) (F__law_shelf : FnOk P w K mg base (L2.CX P w) 4 (a__law_shelf f) (d__law_shelf fd) ["_law_state", "_law_most", "_law_lots_here"] (SpB K 2 m__law_shelf)) (F__law_start : FnOk P w K mg base (L2.CX P w) 1 (a__law_start f) (d__law_start fd) ["_law_script"] (SpO K mg 1 m__law_start)) (F_least : FnOk P w K mg base (L2.CX P w) 7 (a_least f) (d_least fd) ["shelf", "goal"] (SpD K mg 2 m_least)) (F_spare : FnOk P w K mg base (L2.CX P w) 6 (a_spare f) (d_spare fd) ["shelf", "goal"] (SpO K mg 2 m_spare)) {c Pt fa : Addr} (TB : LamX.TabB base mg c Pt) (A : Around) (outer : List PySem.Env) (s : Shared) (H : Hp) (E : XK) (hr : Room 11 (A.deeper (PyProof.Rows.envOfC "law" (defScope s_law) s.heap.objs.size fa (.ref c)))) :
    SSs (cxOf (L2.CX P w) P w K mg base N_law "law" (defScope s_law) fa (.ref c) A outer s H E) (WE0 E) (defBody s_law) (G_law Pt) := by
  obtain ⟨ock, odk, kVk, dock, pmk, ank, cdk, ctk, oslk, efk, lkk, hck⟩ := T.f__law_kind.ex
  have bk := T.b__law_kind; rw [efk] at bk lkk
  have tk := takes_of (X := (cxOf (L2.CX P w) P w K mg base N_law "law" (defScope s_law) fa (.ref c) A outer s H E)) (E := E) rfl rfl rfl rfl
  have hp := passes_of (X := (cxOf (L2.CX P w) P w K mg base N_law "law" (defScope s_law) fa (.ref c) A outer s H E)) rfl
  exact (ss_cons (ss_setO 1 (so_call F__law_start (hr.mono (by decide)) T.g__law_start T.f__law_start.kp T.b__law_start tk (sa_cons (sv_n 0) sa_nil) (len_cons len_nil)) sc_law.nd) (ss_cons (ss_forR1 hp rfl (by rfl) T.n_range sv_int (sg_n 2 sc_law.nd) (ss_cons (ss_set 11 (sv_callB' 1 F__law_shelf (hr.mono (by decide)) T.g__law_shelf T.f__law_shelf.kp T.b__law_shelf tk (sa_cons sv_int (sa_cons sv_int sa_nil)) (len_cons (len_cons len_nil))) sc_law.nd) (ss_cons (ss_set 10 (sv_callB' 1 F__law_goal (hr.mono (by decide)) T.g__law_goal T.f__law_goal.kp T.b__law_goal tk (sa_cons (sv_n 11) sa_nil) (len_cons len_nil)) sc_law.nd) (ss_cons (ss_parVO (i := 3) (j := 4) rfl sc_law.nd rfl rfl (by decide) rfl rfl (sv_call F_least (hr.mono (by decide)) T.g_least T.f_least.kp T.b_least tk (sa_cons (sv_n 11) (sa_cons (sv_n 10) sa_nil)) (len_cons (len_cons len_nil))) (so_lst sa_nil) (by rfl)) (ss_one (ss_if (st_cmp cm_is (sv_n 3) sv_non) (ss_one (ss_if (st_cmp (cm_ne hr.units) (sv_lam (T := [(Pt, qLam)]) (kind := kindX) (k := 9) 12 (by rfl) T.g__law_kind T.f__law_kind.kp lkk hck bk sc__law_kind rfl (Or.inl rfl) (kind_ok T _ (hr.mono (by decide)) rfl rfl _ _ _) TB rfl (List.mem_singleton.mpr rfl) (fun p hp _ => by rw [List.mem_singleton.mp hp]; rfl) (hr.mono (by decide)) (LamX.lamS_by (sc := defScope s_law) (by decide +kernel)) rfl (fun _ _ _ _ _ => rfl) (fun A2 o2 s2 H2 E2 f2 c2 hr2 => (sv_o (so_call F_spare (hr2.mono (by decide)) T.g_spare T.f_spare.kp T.b_spare takes_lam (sa_cons (sv_n 11) (sa_cons (sv_n 10) sa_nil)) (len_cons (len_cons len_nil)))))) sv_str) (ss_one (ss_ret sv_bl)) ss_nil)) (ss_cons (ss_forR1 hp rfl (by rfl) T.n_range (sv_len (by rfl) T.n_len (sa_cons (sv_ixP 11 sv_int) sa_nil)) (sg_n 5 sc_law.nd) (ss_cons (ss_set 6 (sv_add (sv_add (sv_slT (sv_ixP 11 sv_int) spt_no (spt_is (sv_n 5))) (sv_tup (sa_cons sv_non sa_nil))) (sv_slT (sv_ixP 11 sv_int) (spt_is (sv_add (sv_n 5) sv_int)) spt_no)) sc_law.nd) (ss_cons (ss_set 7 (sv_call F_least (hr.mono (by decide)) T.g_least T.f_least.kp T.b_least tk (sa_cons (sv_tup (sa_cons (sv_n 6) (sa_cons (sv_ixP 11 sv_int) sa_nil))) (sa_cons (sv_n 10) sa_nil)) (len_cons (len_cons len_nil))) sc_law.nd) (ss_one (ss_if (st_w (sw_and (st_cmp cm_isn (sv_ix (sv_ixP 11 sv_int) (sv_n 5)) sv_non) (sw_and (st_cmp cm_isn (sv_n 7) sv_non) (sw_and1 (st_cmp (cm_eq hr.units) (sv_ixP 7 sv_int) (sv_ixP 3 sv_int)))))) (ss_one (ss_app 4 (sv_n 5))) ss_nil))))) (ss_one (ss_forR1 hp rfl (by rfl) T.n_range sv_int (sg_n 8 sc_law.nd) (ss_cons (ss_setO 9 (so_call F_spare (hr.mono (by decide)) T.g_spare T.f_spare.kp T.b_spare tk (sa_cons (sv_n 11) (sa_cons (sv_n 10) sa_nil)) (len_cons (len_cons len_nil))) sc_law.nd) (ss_cons (ss_if (st_not (st_val (sv_callPk 9 4 (ok__law_same T 4) (hr.mono (by decide)) T.g__law_same T.f__law_same.kp T.b__law_same tk))) (ss_one (ss_ret sv_bl)) ss_nil) (ss_one (ss_app 9 sv_int))))))))))))) (ss_one (ss_ret sv_bl))))
end
def spLaw (K : PySem.W.Frag) (Pt : Addr) : Sp := fun vs H Q E => ∃ (a : Addr) (ns : List Int), vs = [.ref a] ∧ SqL K H a (ns.map V.int) ∧ scriptOk ns ∧ H Pt = some (.tbl #[]) ∧ ∀ H', Q (.bl true) H'
def f0 (H : Hp) (a : Addr) : Hp := fun b => if b = a then (match H a with
  | some (.lst xs) => some (.lst xs)
  | some (.frz ob (.lst xs)) => some (.frz ob (.lst xs))
  | _ => none) else none
theorem f0_some {H : Hp} {a b : Addr} {o : HO} (h : f0 H a b = some o) : b = a ∧ H a = some o ∧ okNew o ∧ ∀ ps, o ≠ .tbl ps := by
  unfold f0 at h
  split at h
  · rename_i e
    split at h
    · rename_i q; cases h; exact ⟨e, q, trivial, fun ps z => by cases z⟩
    · rename_i q; cases h; exact ⟨e, q, trivial, fun ps z => by cases z⟩
    · cases h
  · cases h
theorem f0_sql {K : PySem.W.Frag} {H : Hp} {a : Addr} {xs : List V} (h : SqL K H a xs) : SqL K (f0 H a) a xs := by
  rcases h with (h | ⟨ob, h⟩) | h
  · exact .inl (.inl (by unfold f0; rw [if_pos rfl, h]))
  · exact .inl (.inr ⟨ob, by unfold f0; rw [if_pos rfl, h]⟩)
  · exact .inr h
theorem ints_dps {K : PySem.W.Frag} {F : Hp} : ∀ ns : List Int, DpAll K F (ns.map V.int) (ns.map PyData.int)
  | [] => .nil
  | n :: r => .cons (.int n) (ints_dps r)
theorem rel_law {K : PySem.W.Frag} {H : Hp} {a Pt : Addr} {ns : List Int} (hS : SqL K H a (ns.map V.int)) (hP : H Pt = some (.tbl #[])) :
    Rel K ⟨f0 H a, fun b => if b = Pt then H Pt else f0 H a b, [Pt], [(Pt, qLam)]⟩ (f0 H a) (L2.start N_law [.ref a]) H (envL Pt ns) where
  fh := fun b o h => by obtain ⟨rfl, h2, _⟩ := f0_some h; exact h2
  cf := Ex.refl _
  new := fun b h1 h2 => absurd h1 h2
  pres := fun b o h hb => by
    have ne : b ≠ Pt := by simpa using hb
    have h : (if b = Pt then H Pt else f0 H a b) = some o := h
    rw [if_neg ne] at h
    obtain ⟨rfl, h2, _⟩ := f0_some h; exact h2
  bd := fun b hb => by
    have e : b = Pt := by simpa using hb
    subst e
    refine ⟨by rw [hP]; simp, ?_, ?_⟩
    · cases q : f0 H a b with
      | none => exact q
      | some o =>
        obtain ⟨rfl, h2, _, h3⟩ := f0_some q
        rw [hP] at h2
        exact absurd (Option.some.inj h2).symm (h3 _)
    · show (if b = b then H b else f0 H a b) ≠ none
      rw [if_pos rfl, hP]; simp
  sl := fun i s hs => by
    unfold envL at hs
    match i with
    | 0 =>
      have e : Sl.val (.list (ns.map PyData.int)) = s := by simpa using hs
      subst e
      exact ⟨.ref a, rfl, .lst (f0_sql hS) (ints_dps ns)⟩
    | i + 1 =>
      have hs : (List.replicate 11 Sl.no ++ [Sl.tab [(Pt, qLam)]])[i]? = some s := by simpa using hs
      by_cases hi : i < 11
      · rw [List.getElem?_append_left (by simpa using hi), List.getElem?_replicate, if_pos hi] at hs
        cases hs
        trivial
      · rw [List.getElem?_append_right (by simpa using hi)] at hs
        have : i - 11 = 0 := by
          by_cases z : i - 11 = 0
          · exact z
          · rw [List.length_replicate, List.getElem?_eq_none (by simp; omega)] at hs; cases hs
        rw [List.length_replicate, this] at hs
        cases hs
        refine ⟨⟨rfl, fun b hb => ⟨qLam, ?_⟩⟩, fun b ps z => ?_⟩
        · have e : b = Pt := by simpa using hb
          rw [e]; exact List.mem_singleton.mpr rfl
        · have z : (if b = Pt then H Pt else f0 H a b) = some (.tbl ps) := z
          by_cases e : b = Pt
          · subst e; exact List.mem_singleton.mpr rfl
          · rw [if_neg e] at z; exact absurd rfl ((f0_some z).2.2.2 ps)
  dis := fun i j p ⟨s, e, b, _⟩ _ => by
    unfold envL at e
    have := List.mem_of_getElem? e
    simp only [List.mem_cons, List.mem_append, List.mem_replicate, List.mem_nil_iff, or_false] at this
    rcases this with rfl | ⟨_, rfl⟩ | rfl <;> cases b
  len := rfl
  tb := fun q hq => by
    rw [List.mem_singleton.mp hq]
    exact LamX.TabS.nil hP
  nt := fun b o h => (f0_some h).2.2.1
section
variable {P : Program} {w : World} {K : PySem.W.Frag} {mg : Str → Option Value} {base : Heap} {f : Nat → Addr} {fd : Nat → FuncData} {g : Nat → Addr} {gd : Nat → FuncData}
theorem ok_law (T : Tx K mg f fd g gd) (F__law_goal : FnOk P w K mg base (L2.CX P w) 4 (a__law_goal f) (d__law_goal fd) ["_law_state", "_law_shelf_here"] (SpB K 1 m__law_goal)) (F__law_shelf : FnOk P w K mg base (L2.CX P w) 4 (a__law_shelf f) (d__law_shelf fd) ["_law_state", "_law_most", "_law_lots_here"] (SpB K 2 m__law_shelf)) (F__law_start : FnOk P w K mg base (L2.CX P w) 1 (a__law_start f) (d__law_start fd) ["_law_script"] (SpO K mg 1 m__law_start)) (F_least : FnOk P w K mg base (L2.CX P w) 7 (a_least f) (d_least fd) ["shelf", "goal"] (SpD K mg 2 m_least)) (F_spare : FnOk P w K mg base (L2.CX P w) 6 (a_spare f) (d_spare fd) ["shelf", "goal"] (SpO K mg 2 m_spare)) {c Pt fa : Addr} (TB : LamX.TabB base mg c Pt) {oc kV dV doc pm ct : Value} {od an : Option Addr} {osl : Array (Option Value)} (lk : K.lookup fa = some ⟨oc, od, .func (PySem.W.fnOf "law" "law" (defArgs s_law) (defBody s_law) (defScope s_law) dV kV doc pm an (.ref c) ct), osl⟩) (hcd : PySem.W.codeIn K (.ref c) "law" = true)
    (math : ∀ ns : List Int, scriptOk ns → ∃ env, G_law Pt (envL Pt ns) = some (.rt (.bool true) env)) : FnOk P w K mg base (L2.CX P w) 12 fa (PySem.W.fnOf "law" "law" (defArgs s_law) (defBody s_law) (defScope s_law) dV kV doc pm an (.ref c) ct) ["_law_script"] (spLaw K Pt) :=
  fn_of lk hcd sc_law (fun vs H Q E ⟨a, ns, e, _⟩ => by rw [e]; rfl) fun A outer s H vs Q E hr ⟨a, ns, e, hS, hl, hP, hq⟩ => by
    subst e
    obtain ⟨env, hm⟩ := math ns hl
    exact ⟨_, body_law T F__law_goal F__law_shelf F__law_start F_least F_spare TB A outer s H E hr, _, _, _, rel_law hS hP, by rw [hm]; exact fun v σ F2 H2 R ex dv => by cases dv; exact hq H2⟩
end
theorem all_mk {P : Program} {w : World} {K : PySem.W.Frag} {mg : Str → Option Value} {h : Heap} (X : K.In h) (G : h.Ns mainGlobals mg) {fa : Addr} (hfa : mg "law" = some (.ref fa))
    {t_FIRST : Tok}
    {t_LAST : Tok}
    {t_MOST_BOOKS : Tok}
    {t_MOST_LOTS : Tok}
    {t_MOST_PRICE : Tok}
    {C1 : Addr}
    {C2 : Addr}
    {C3 : Addr}
    {C4 : Addr}
    {C5 : Addr}
    {C6 : Addr}
    {C7 : Addr}
    {C8 : Addr}
    {C9 : Addr}
    {C10 : Addr}
    {g2 : Addr} {nm2 q2 : Str} {N2 : Addr} {bs2 : List Value} {sn2 : List Str} {sub2 : List Value} {ab2 : Bool} {col2 : Option Bool} {dd2 : Option Addr} {m02 m12 m22 m32 m52 : Option Value} {oi2 ki2 di2 pi2 ci2 ti2 : Value} {odi2 ani2 : Option Addr} {sli2 : Array (Option Value)}
    {g3 : Addr} {nm3 q3 : Str} {N3 : Addr} {bs3 : List Value} {sn3 : List Str} {sub3 : List Value} {ab3 : Bool} {col3 : Option Bool} {dd3 : Option Addr} {m03 m13 m23 m33 m53 : Option Value} {oi3 ki3 di3 pi3 ci3 ti3 : Value} {odi3 ani3 : Option Addr} {sli3 : Array (Option Value)}
    {a15 : Addr} {o15 k15 e15 p15 c15 u15 : Value} {y15 z15 : Option Addr} {s15 : Array (Option Value)}
    {a16 : Addr} {o16 k16 e16 p16 c16 u16 : Value} {y16 z16 : Option Addr} {s16 : Array (Option Value)}
    {a17 : Addr} {o17 k17 e17 p17 c17 u17 : Value} {y17 z17 : Option Addr} {s17 : Array (Option Value)}
    {a18 : Addr} {o18 k18 e18 p18 c18 u18 : Value} {y18 z18 : Option Addr} {s18 : Array (Option Value)}
    {a19 : Addr} {o19 k19 e19 p19 c19 u19 : Value} {y19 z19 : Option Addr} {s19 : Array (Option Value)}
    {a20 : Addr} {o20 k20 e20 p20 c20 u20 : Value} {y20 z20 : Option Addr} {s20 : Array (Option Value)}
    {a21 : Addr} {o21 k21 e21 p21 c21 u21 : Value} {y21 z21 : Option Addr} {s21 : Array (Option Value)}
    {a22 : Addr} {o22 k22 e22 p22 c22 u22 : Value} {y22 z22 : Option Addr} {s22 : Array (Option Value)}
    {a23 : Addr} {o23 k23 e23 p23 c23 u23 : Value} {y23 z23 : Option Addr} {s23 : Array (Option Value)}
    {a27 : Addr} {o27 k27 e27 p27 c27 u27 : Value} {y27 z27 : Option Addr} {s27 : Array (Option Value)}
    {a28 : Addr} {o28 k28 e28 p28 c28 u28 : Value} {y28 z28 : Option Addr} {s28 : Array (Option Value)}
    {a29 : Addr} {o29 k29 e29 p29 c29 u29 : Value} {y29 z29 : Option Addr} {s29 : Array (Option Value)}
    {a30 : Addr} {o30 k30 e30 p30 c30 u30 : Value} {y30 z30 : Option Addr} {s30 : Array (Option Value)}
    {a31 : Addr} {o31 k31 e31 p31 c31 u31 : Value} {y31 z31 : Option Addr} {s31 : Array (Option Value)}
    {a33 : Addr} {o33 k33 e33 p33 c33 u33 : Value} {y33 z33 : Option Addr} {s33 : Array (Option Value)}
    {a34 : Addr} {o34 k34 e34 p34 c34 u34 : Value} {y34 z34 : Option Addr} {s34 : Array (Option Value)}
    {a35 : Addr} {o35 k35 e35 p35 c35 u35 : Value} {y35 z35 : Option Addr} {s35 : Array (Option Value)}
    {a36 : Addr} {o36 k36 e36 p36 c36 u36 : Value} {y36 z36 : Option Addr} {s36 : Array (Option Value)}
    {a37 : Addr} {o37 k37 e37 p37 c37 u37 : Value} {y37 z37 : Option Addr} {s37 : Array (Option Value)}
    {a38 : Addr} {o38 k38 e38 p38 c38 u38 : Value} {y38 z38 : Option Addr} {s38 : Array (Option Value)}
    {a40 : Addr} {o40 k40 e40 p40 c40 u40 : Value} {y40 z40 : Option Addr} {s40 : Array (Option Value)}
    {a41 : Addr} {o41 k41 e41 p41 c41 u41 : Value} {y41 z41 : Option Addr} {s41 : Array (Option Value)}
    {a42 : Addr} {o42 k42 e42 p42 c42 u42 : Value} {y42 z42 : Option Addr} {s42 : Array (Option Value)}
    {a44 : Addr} {o44 k44 e44 p44 c44 u44 : Value} {y44 z44 : Option Addr} {s44 : Array (Option Value)}
    {a45 : Addr} {o45 k45 e45 p45 c45 u45 : Value} {y45 z45 : Option Addr} {s45 : Array (Option Value)}
    {a46 : Addr} {o46 k46 e46 p46 c46 u46 : Value} {y46 z46 : Option Addr} {s46 : Array (Option Value)}
    {a47 : Addr} {o47 k47 e47 p47 c47 u47 : Value} {y47 z47 : Option Addr} {s47 : Array (Option Value)}
    {a48 : Addr} {o48 k48 e48 p48 c48 u48 : Value} {y48 z48 : Option Addr} {s48 : Array (Option Value)}
    {a43 : Addr} {o43 k43 e43 p43 c43 u43 : Value} {y43 z43 : Option Addr} {s43 : Array (Option Value)}
    {c Pt aL : Addr} {oL kL eL pL uL : Value} {yL zL : Option Addr} {sL : Array (Option Value)}
    (nb_ValueError : PySem.W.nsIn K mainGlobals "ValueError" = some none)
    (nb_bool : PySem.W.nsIn K mainGlobals "bool" = some none)
    (nb_enumerate : PySem.W.nsIn K mainGlobals "enumerate" = some none)
    (nb_int : PySem.W.nsIn K mainGlobals "int" = some none)
    (nb_isinstance : PySem.W.nsIn K mainGlobals "isinstance" = some none)
    (nb_len : PySem.W.nsIn K mainGlobals "len" = some none)
    (nb_list : PySem.W.nsIn K mainGlobals "list" = some none)
    (nb_max : PySem.W.nsIn K mainGlobals "max" = some none)
    (nb_range : PySem.W.nsIn K mainGlobals "range" = some none)
    (nb_reversed : PySem.W.nsIn K mainGlobals "reversed" = some none)
    (nb_set : PySem.W.nsIn K mainGlobals "set" = some none)
    (nb_sorted : PySem.W.nsIn K mainGlobals "sorted" = some none)
    (nb_sum : PySem.W.nsIn K mainGlobals "sum" = some none)
    (nb_tuple : PySem.W.nsIn K mainGlobals "tuple" = some none)
    (nb_zip : PySem.W.nsIn K mainGlobals "zip" = some none)
    (gl_FIRST : PySem.W.nsIn K mainGlobals "FIRST" = some (some (.str "first" t_FIRST)))
    (gl_LAST : PySem.W.nsIn K mainGlobals "LAST" = some (some (.str "last" t_LAST)))
    (gl_MOST_BOOKS : PySem.W.nsIn K mainGlobals "MOST_BOOKS" = some (some (.int 12 t_MOST_BOOKS)))
    (gl_MOST_LOTS : PySem.W.nsIn K mainGlobals "MOST_LOTS" = some (some (.int 5 t_MOST_LOTS)))
    (gl_MOST_PRICE : PySem.W.nsIn K mainGlobals "MOST_PRICE" = some (some (.int 99 t_MOST_PRICE)))
    (kt : KT K)
    (cl_1 : PySem.W.nsIn K mainGlobals "ShelfError" = some (some (.ref C1)))
    (cl_2 : PySem.W.nsIn K mainGlobals "BadShelf" = some (some (.ref C2)))
    (cl_3 : PySem.W.nsIn K mainGlobals "BadGoal" = some (some (.ref C3)))
    (cl_4 : PySem.W.nsIn K mainGlobals "BadWish" = some (some (.ref C4)))
    (cl_5 : PySem.W.nsIn K mainGlobals "BadWay" = some (some (.ref C5)))
    (cl_6 : PySem.W.nsIn K mainGlobals "NoWay" = some (some (.ref C6)))
    (cl_7 : PySem.W.nsIn K mainGlobals "BadName" = some (some (.ref C7)))
    (cl_8 : PySem.W.nsIn K mainGlobals "NoPoint" = some (some (.ref C8)))
    (cl_9 : PySem.W.nsIn K mainGlobals "Halted" = some (some (.ref C9)))
    (cl_10 : PySem.W.nsIn K mainGlobals "BadText" = some (some (.ref C10)))
    (bg_1 : PySem.W.specialIn K (.ref C1) "__getattribute__" = some (some (.builtin "type.__getattribute__")))
    (br_1 : PySem.W.readsIn K C1 (.type "type") = true)
    (bf_1 : PySem.W.findCls K (.ref C1) (.type "type") "__init__" = some (.val (.builtin "ValueError.__init__")))
    (xl_2 : K.lookup C2 = some (excClassObj nm2 q2 C2 N2 bs2 [.ref C1, .type "ValueError", .type "Exception", .type "BaseException", .type "object"] true sn2 sub2 ab2 col2 dd2 m02 m12 m22 m32 m52 "ValueError.__new__"))
    (sa_2 : PySem.W.findIn K (.ref C2) "__setattr__" = some (some (.builtin "object.__setattr__")))
    (ex_2 : PySem.W.subIn K (.ref C2) (.type "BaseException") = some true)
    (ty_2 : PySem.W.typeIn K (.ref C2) = some (.type "type"))
    (kc_2 : PySem.W.keepIn K (.ref C2) = true)
    (ic_2 : PySem.W.findIn K (.ref C2) "__init__" = some (some (.ref g2)))
    (ti_2 : PySem.W.typeIn K (.ref g2) = some (.type "function"))
    (li_2 : K.lookup g2 = some ⟨oi2, odi2, .func (PySem.W.fnOf "__init__" "BadShelf.__init__" (defArgs i_BadShelf) (defBody i_BadShelf) (defScope i_BadShelf) .none ki2 di2 pi2 ani2 ci2 ti2), sli2⟩)
    (cc_2 : PySem.W.codeIn K ci2 "BadShelf.__init__" = true)
    (kk_2 : PySem.W.keepIn K (.ref g2) = true)
    (nf_2_part : PySem.W.findIn K (.ref C2) "part" = some none)
    (nf_2_number : PySem.W.findIn K (.ref C2) "number" = some none)
    (xl_3 : K.lookup C3 = some (excClassObj nm3 q3 C3 N3 bs3 [.ref C1, .type "ValueError", .type "Exception", .type "BaseException", .type "object"] true sn3 sub3 ab3 col3 dd3 m03 m13 m23 m33 m53 "ValueError.__new__"))
    (sa_3 : PySem.W.findIn K (.ref C3) "__setattr__" = some (some (.builtin "object.__setattr__")))
    (ex_3 : PySem.W.subIn K (.ref C3) (.type "BaseException") = some true)
    (ty_3 : PySem.W.typeIn K (.ref C3) = some (.type "type"))
    (kc_3 : PySem.W.keepIn K (.ref C3) = true)
    (ic_3 : PySem.W.findIn K (.ref C3) "__init__" = some (some (.ref g3)))
    (ti_3 : PySem.W.typeIn K (.ref g3) = some (.type "function"))
    (li_3 : K.lookup g3 = some ⟨oi3, odi3, .func (PySem.W.fnOf "__init__" "BadGoal.__init__" (defArgs i_BadGoal) (defBody i_BadGoal) (defScope i_BadGoal) .none ki3 di3 pi3 ani3 ci3 ti3), sli3⟩)
    (cc_3 : PySem.W.codeIn K ci3 "BadGoal.__init__" = true)
    (kk_3 : PySem.W.keepIn K (.ref g3) = true)
    (nf_3_number : PySem.W.findIn K (.ref C3) "number" = some none)
    (xe_6 : PySem.W.excIn K C6 [.type "ValueError", .type "Exception", .type "BaseException", .type "object"] "ValueError.__new__" = true)
    (ex_6 : PySem.W.subIn K (.ref C6) (.type "BaseException") = some true)
    (ty_6 : PySem.W.typeIn K (.ref C6) = some (.type "type"))
    (kc_6 : PySem.W.keepIn K (.ref C6) = true)
    (ga_6 : PySem.W.findIn K (.ref C6) "__getattribute__" = some (some (.builtin "BaseException.__getattribute__")))
    (gg_6 : PySem.W.findIn K (.ref C6) "__getattr__" = some none)
    (hd_6 : PySem.W.hasDictIn K C6 = true)
    (ha_6 : PySem.W.findIn K (.ref C6) "__class__" = some (some (.builtin "object.__class__")))
    (hm_6 : PySem.W.mroIn K C6 (.type "object") = some true)
    (em_6 : PySem.W.exmOne K (.ref C6) (.ref C1) = some true)
    (hn : PySem.W.specialIn K (.builtin "object.__class__") "__get__" = some (some (.builtin "getset_descriptor.__get__")))
    (ht : PySem.W.takesIn K (.builtin "object.__class__") = some true)
    (kt_NoWay_BadGoal : PySem.W.kitOne K (.ref C6) (.ref C3) = some false)
    (kt_NoWay_BadName : PySem.W.kitOne K (.ref C6) (.ref C7) = some false)
    (kt_NoWay_BadShelf : PySem.W.kitOne K (.ref C6) (.ref C2) = some false)
    (kt_NoWay_BadText : PySem.W.kitOne K (.ref C6) (.ref C10) = some false)
    (kt_NoWay_BadWay : PySem.W.kitOne K (.ref C6) (.ref C5) = some false)
    (kt_NoWay_BadWish : PySem.W.kitOne K (.ref C6) (.ref C4) = some false)
    (kt_NoWay_Halted : PySem.W.kitOne K (.ref C6) (.ref C9) = some false)
    (kt_NoWay_NoPoint : PySem.W.kitOne K (.ref C6) (.ref C8) = some false)
    (kt_NoWay_NoWay : PySem.W.kitOne K (.ref C6) (.ref C6) = some true)
    (kb_NoWay_ValueError : PySem.W.kitOne K (.ref C6) (.type "ValueError") = some true)
    (fa_15 : PySem.W.nsIn K mainGlobals "is_number" = some (some (.ref a15)))
    (fl_15 : K.lookup a15 = some ⟨o15, y15, .func (PySem.W.fnOf "is_number" "is_number" (defArgs s_is_number) (defBody s_is_number) (defScope s_is_number) .none k15 e15 p15 z15 c15 u15), s15⟩)
    (fc_15 : PySem.W.codeIn K c15 "is_number" = true)
    (fk_15 : PySem.W.keepIn K (.ref a15) = true)
    (fa_16 : PySem.W.nsIn K mainGlobals "is_place" = some (some (.ref a16)))
    (fl_16 : K.lookup a16 = some ⟨o16, y16, .func (PySem.W.fnOf "is_place" "is_place" (defArgs s_is_place) (defBody s_is_place) (defScope s_is_place) .none k16 e16 p16 z16 c16 u16), s16⟩)
    (fc_16 : PySem.W.codeIn K c16 "is_place" = true)
    (fk_16 : PySem.W.keepIn K (.ref a16) = true)
    (fa_17 : PySem.W.nsIn K mainGlobals "is_price" = some (some (.ref a17)))
    (fl_17 : K.lookup a17 = some ⟨o17, y17, .func (PySem.W.fnOf "is_price" "is_price" (defArgs s_is_price) (defBody s_is_price) (defScope s_is_price) .none k17 e17 p17 z17 c17 u17), s17⟩)
    (fc_17 : PySem.W.codeIn K c17 "is_price" = true)
    (fk_17 : PySem.W.keepIn K (.ref a17) = true)
    (fa_18 : PySem.W.nsIn K mainGlobals "lot_of" = some (some (.ref a18)))
    (fl_18 : K.lookup a18 = some ⟨o18, y18, .func (PySem.W.fnOf "lot_of" "lot_of" (defArgs s_lot_of) (defBody s_lot_of) (defScope s_lot_of) .none k18 e18 p18 z18 c18 u18), s18⟩)
    (fc_18 : PySem.W.codeIn K c18 "lot_of" = true)
    (fk_18 : PySem.W.keepIn K (.ref a18) = true)
    (fa_19 : PySem.W.nsIn K mainGlobals "wrong_price" = some (some (.ref a19)))
    (fl_19 : K.lookup a19 = some ⟨o19, y19, .func (PySem.W.fnOf "wrong_price" "wrong_price" (defArgs s_wrong_price) (defBody s_wrong_price) (defScope s_wrong_price) .none k19 e19 p19 z19 c19 u19), s19⟩)
    (fc_19 : PySem.W.codeIn K c19 "wrong_price" = true)
    (fk_19 : PySem.W.keepIn K (.ref a19) = true)
    (fa_20 : PySem.W.nsIn K mainGlobals "wrong_lot" = some (some (.ref a20)))
    (fl_20 : K.lookup a20 = some ⟨o20, y20, .func (PySem.W.fnOf "wrong_lot" "wrong_lot" (defArgs s_wrong_lot) (defBody s_wrong_lot) (defScope s_wrong_lot) .none k20 e20 p20 z20 c20 u20), s20⟩)
    (fc_20 : PySem.W.codeIn K c20 "wrong_lot" = true)
    (fk_20 : PySem.W.keepIn K (.ref a20) = true)
    (fa_21 : PySem.W.nsIn K mainGlobals "missing_book" = some (some (.ref a21)))
    (fl_21 : K.lookup a21 = some ⟨o21, y21, .func (PySem.W.fnOf "missing_book" "missing_book" (defArgs s_missing_book) (defBody s_missing_book) (defScope s_missing_book) .none k21 e21 p21 z21 c21 u21), s21⟩)
    (fc_21 : PySem.W.codeIn K c21 "missing_book" = true)
    (fk_21 : PySem.W.keepIn K (.ref a21) = true)
    (fa_22 : PySem.W.nsIn K mainGlobals "check_shelf" = some (some (.ref a22)))
    (fl_22 : K.lookup a22 = some ⟨o22, y22, .func (PySem.W.fnOf "check_shelf" "check_shelf" (defArgs s_check_shelf) (defBody s_check_shelf) (defScope s_check_shelf) .none k22 e22 p22 z22 c22 u22), s22⟩)
    (fc_22 : PySem.W.codeIn K c22 "check_shelf" = true)
    (fk_22 : PySem.W.keepIn K (.ref a22) = true)
    (fa_23 : PySem.W.nsIn K mainGlobals "check_goal" = some (some (.ref a23)))
    (fl_23 : K.lookup a23 = some ⟨o23, y23, .func (PySem.W.fnOf "check_goal" "check_goal" (defArgs s_check_goal) (defBody s_check_goal) (defScope s_check_goal) .none k23 e23 p23 z23 c23 u23), s23⟩)
    (fc_23 : PySem.W.codeIn K c23 "check_goal" = true)
    (fk_23 : PySem.W.keepIn K (.ref a23) = true)
    (fa_27 : PySem.W.nsIn K mainGlobals "fixed_books" = some (some (.ref a27)))
    (fl_27 : K.lookup a27 = some ⟨o27, y27, .func (PySem.W.fnOf "fixed_books" "fixed_books" (defArgs s_fixed_books) (defBody s_fixed_books) (defScope s_fixed_books) .none k27 e27 p27 z27 c27 u27), s27⟩)
    (fc_27 : PySem.W.codeIn K c27 "fixed_books" = true)
    (fk_27 : PySem.W.keepIn K (.ref a27) = true)
    (fa_28 : PySem.W.nsIn K mainGlobals "price_of" = some (some (.ref a28)))
    (fl_28 : K.lookup a28 = some ⟨o28, y28, .func (PySem.W.fnOf "price_of" "price_of" (defArgs s_price_of) (defBody s_price_of) (defScope s_price_of) .none k28 e28 p28 z28 c28 u28), s28⟩)
    (fc_28 : PySem.W.codeIn K c28 "price_of" = true)
    (fk_28 : PySem.W.keepIn K (.ref a28) = true)
    (fa_29 : PySem.W.nsIn K mainGlobals "stands" = some (some (.ref a29)))
    (fl_29 : K.lookup a29 = some ⟨o29, y29, .func (PySem.W.fnOf "stands" "stands" (defArgs s_stands) (defBody s_stands) (defScope s_stands) .none k29 e29 p29 z29 c29 u29), s29⟩)
    (fc_29 : PySem.W.codeIn K c29 "stands" = true)
    (fk_29 : PySem.W.keepIn K (.ref a29) = true)
    (fa_30 : PySem.W.nsIn K mainGlobals "holding" = some (some (.ref a30)))
    (fl_30 : K.lookup a30 = some ⟨o30, y30, .func (PySem.W.fnOf "holding" "holding" (defArgs s_holding) (defBody s_holding) (defScope s_holding) .none k30 e30 p30 z30 c30 u30), s30⟩)
    (fc_30 : PySem.W.codeIn K c30 "holding" = true)
    (fk_30 : PySem.W.keepIn K (.ref a30) = true)
    (fa_31 : PySem.W.nsIn K mainGlobals "dearest" = some (some (.ref a31)))
    (fl_31 : K.lookup a31 = some ⟨o31, y31, .func (PySem.W.fnOf "dearest" "dearest" (defArgs s_dearest) (defBody s_dearest) (defScope s_dearest) .none k31 e31 p31 z31 c31 u31), s31⟩)
    (fc_31 : PySem.W.codeIn K c31 "dearest" = true)
    (fk_31 : PySem.W.keepIn K (.ref a31) = true)
    (fa_33 : PySem.W.nsIn K mainGlobals "splits" = some (some (.ref a33)))
    (fl_33 : K.lookup a33 = some ⟨o33, y33, .func (PySem.W.fnOf "splits" "splits" (defArgs s_splits) (defBody s_splits) (defScope s_splits) .none k33 e33 p33 z33 c33 u33), s33⟩)
    (fc_33 : PySem.W.codeIn K c33 "splits" = true)
    (fk_33 : PySem.W.keepIn K (.ref a33) = true)
    (fa_34 : PySem.W.nsIn K mainGlobals "splits_by_lot" = some (some (.ref a34)))
    (fl_34 : K.lookup a34 = some ⟨o34, y34, .func (PySem.W.fnOf "splits_by_lot" "splits_by_lot" (defArgs s_splits_by_lot) (defBody s_splits_by_lot) (defScope s_splits_by_lot) .none k34 e34 p34 z34 c34 u34), s34⟩)
    (fc_34 : PySem.W.codeIn K c34 "splits_by_lot" = true)
    (fk_34 : PySem.W.keepIn K (.ref a34) = true)
    (fa_35 : PySem.W.nsIn K mainGlobals "deeds_around" = some (some (.ref a35)))
    (fl_35 : K.lookup a35 = some ⟨o35, y35, .func (PySem.W.fnOf "deeds_around" "deeds_around" (defArgs s_deeds_around) (defBody s_deeds_around) (defScope s_deeds_around) .none k35 e35 p35 z35 c35 u35), s35⟩)
    (fc_35 : PySem.W.codeIn K c35 "deeds_around" = true)
    (fk_35 : PySem.W.keepIn K (.ref a35) = true)
    (fa_36 : PySem.W.nsIn K mainGlobals "least_way" = some (some (.ref a36)))
    (fl_36 : K.lookup a36 = some ⟨o36, y36, .func (PySem.W.fnOf "least_way" "least_way" (defArgs s_least_way) (defBody s_least_way) (defScope s_least_way) .none k36 e36 p36 z36 c36 u36), s36⟩)
    (fc_36 : PySem.W.codeIn K c36 "least_way" = true)
    (fk_36 : PySem.W.keepIn K (.ref a36) = true)
    (fa_37 : PySem.W.nsIn K mainGlobals "least" = some (some (.ref a37)))
    (fl_37 : K.lookup a37 = some ⟨o37, y37, .func (PySem.W.fnOf "least" "least" (defArgs s_least) (defBody s_least) (defScope s_least) .none k37 e37 p37 z37 c37 u37), s37⟩)
    (fc_37 : PySem.W.codeIn K c37 "least" = true)
    (fk_37 : PySem.W.keepIn K (.ref a37) = true)
    (fa_38 : PySem.W.nsIn K mainGlobals "spare" = some (some (.ref a38)))
    (fl_38 : K.lookup a38 = some ⟨o38, y38, .func (PySem.W.fnOf "spare" "spare" (defArgs s_spare) (defBody s_spare) (defScope s_spare) .none k38 e38 p38 z38 c38 u38), s38⟩)
    (fc_38 : PySem.W.codeIn K c38 "spare" = true)
    (fk_38 : PySem.W.keepIn K (.ref a38) = true)
    (fa_40 : PySem.W.nsIn K mainGlobals "_law_start" = some (some (.ref a40)))
    (fl_40 : K.lookup a40 = some ⟨o40, y40, .func (PySem.W.fnOf "_law_start" "_law_start" (defArgs s__law_start) (defBody s__law_start) (defScope s__law_start) .none k40 e40 p40 z40 c40 u40), s40⟩)
    (fc_40 : PySem.W.codeIn K c40 "_law_start" = true)
    (fk_40 : PySem.W.keepIn K (.ref a40) = true)
    (fa_41 : PySem.W.nsIn K mainGlobals "_law_drawn" = some (some (.ref a41)))
    (fl_41 : K.lookup a41 = some ⟨o41, y41, .func (PySem.W.fnOf "_law_drawn" "_law_drawn" (defArgs s__law_drawn) (defBody s__law_drawn) (defScope s__law_drawn) .none k41 e41 p41 z41 c41 u41), s41⟩)
    (fc_41 : PySem.W.codeIn K c41 "_law_drawn" = true)
    (fk_41 : PySem.W.keepIn K (.ref a41) = true)
    (fa_42 : PySem.W.nsIn K mainGlobals "_law_same" = some (some (.ref a42)))
    (fl_42 : K.lookup a42 = some ⟨o42, y42, .func (PySem.W.fnOf "_law_same" "_law_same" (defArgs s__law_same) (defBody s__law_same) (defScope s__law_same) .none k42 e42 p42 z42 c42 u42), s42⟩)
    (fc_42 : PySem.W.codeIn K c42 "_law_same" = true)
    (fk_42 : PySem.W.keepIn K (.ref a42) = true)
    (fa_44 : PySem.W.nsIn K mainGlobals "_law_turned" = some (some (.ref a44)))
    (fl_44 : K.lookup a44 = some ⟨o44, y44, .func (PySem.W.fnOf "_law_turned" "_law_turned" (defArgs s__law_turned) (defBody s__law_turned) (defScope s__law_turned) .none k44 e44 p44 z44 c44 u44), s44⟩)
    (fc_44 : PySem.W.codeIn K c44 "_law_turned" = true)
    (fk_44 : PySem.W.keepIn K (.ref a44) = true)
    (fa_45 : PySem.W.nsIn K mainGlobals "_law_lots" = some (some (.ref a45)))
    (fl_45 : K.lookup a45 = some ⟨o45, y45, .func (PySem.W.fnOf "_law_lots" "_law_lots" (defArgs s__law_lots) (defBody s__law_lots) (defScope s__law_lots) .none k45 e45 p45 z45 c45 u45), s45⟩)
    (fc_45 : PySem.W.codeIn K c45 "_law_lots" = true)
    (fk_45 : PySem.W.keepIn K (.ref a45) = true)
    (fa_46 : PySem.W.nsIn K mainGlobals "_law_shelf" = some (some (.ref a46)))
    (fl_46 : K.lookup a46 = some ⟨o46, y46, .func (PySem.W.fnOf "_law_shelf" "_law_shelf" (defArgs s__law_shelf) (defBody s__law_shelf) (defScope s__law_shelf) .none k46 e46 p46 z46 c46 u46), s46⟩)
    (fc_46 : PySem.W.codeIn K c46 "_law_shelf" = true)
    (fk_46 : PySem.W.keepIn K (.ref a46) = true)
    (fa_47 : PySem.W.nsIn K mainGlobals "_law_placed" = some (some (.ref a47)))
    (fl_47 : K.lookup a47 = some ⟨o47, y47, .func (PySem.W.fnOf "_law_placed" "_law_placed" (defArgs s__law_placed) (defBody s__law_placed) (defScope s__law_placed) .none k47 e47 p47 z47 c47 u47), s47⟩)
    (fc_47 : PySem.W.codeIn K c47 "_law_placed" = true)
    (fk_47 : PySem.W.keepIn K (.ref a47) = true)
    (fa_48 : PySem.W.nsIn K mainGlobals "_law_goal" = some (some (.ref a48)))
    (fl_48 : K.lookup a48 = some ⟨o48, y48, .func (PySem.W.fnOf "_law_goal" "_law_goal" (defArgs s__law_goal) (defBody s__law_goal) (defScope s__law_goal) .none k48 e48 p48 z48 c48 u48), s48⟩)
    (fc_48 : PySem.W.codeIn K c48 "_law_goal" = true)
    (fk_48 : PySem.W.keepIn K (.ref a48) = true)
    (fa_43 : PySem.W.nsIn K mainGlobals "_law_kind" = some (some (.ref a43)))
    (fl_43 : K.lookup a43 = some ⟨o43, y43, .func (PySem.W.fnOf "_law_kind" "_law_kind" (defArgs s__law_kind) (defBody s__law_kind) (defScope s__law_kind) .none k43 e43 p43 z43 c43 u43), s43⟩)
    (fc_43 : PySem.W.codeIn K c43 "_law_kind" = true)
    (fk_43 : PySem.W.keepIn K (.ref a43) = true)
    (la : PySem.W.nsIn K mainGlobals "law" = some (some (.ref aL)))
    (ll : K.lookup aL = some ⟨oL, yL, .func (PySem.W.fnOf "law" "law" (defArgs s_law) (defBody s_law) (defScope s_law) .none kL eL pL zL (.ref c) uL), sL⟩)
    (lc : PySem.W.codeIn K (.ref c) "law" = true)
    (lt : PySem.W.codeHdIn K c Pt = true)
    (ln : K.lookup Pt = none)
    (math : ∀ ns : List Int, scriptOk ns → ∃ env, G_law Pt (envL Pt ns) = some (.rt (.bool true) env)) :
    ∃ fd : FuncData, PySem.W.CodeHd h c Pt ∧ K.lookup Pt = none ∧ (∀ (s : Shared) (u : Value), BindsTo s fd ⟨[u], []⟩ [("_law_script", u)]) ∧ ∀ base : Heap, LamX.TabB base mg c Pt → FnOk P w K mg base (L2.CX P w) 12 fa fd ["_law_script"] (spLaw K Pt) := by
  have eL1 := hfa.symm.trans (PySem.W.mg_of X G la)
  cases eL1
  have F15 := fun_mk (st := s_is_number) fl_15 fc_15 fk_15
  have F16 := fun_mk (st := s_is_place) fl_16 fc_16 fk_16
  have F17 := fun_mk (st := s_is_price) fl_17 fc_17 fk_17
  have F18 := fun_mk (st := s_lot_of) fl_18 fc_18 fk_18
  have F19 := fun_mk (st := s_wrong_price) fl_19 fc_19 fk_19
  have F20 := fun_mk (st := s_wrong_lot) fl_20 fc_20 fk_20
  have F21 := fun_mk (st := s_missing_book) fl_21 fc_21 fk_21
  have F22 := fun_mk (st := s_check_shelf) fl_22 fc_22 fk_22
  have F23 := fun_mk (st := s_check_goal) fl_23 fc_23 fk_23
  have F27 := fun_mk (st := s_fixed_books) fl_27 fc_27 fk_27
  have F28 := fun_mk (st := s_price_of) fl_28 fc_28 fk_28
  have F29 := fun_mk (st := s_stands) fl_29 fc_29 fk_29
  have F30 := fun_mk (st := s_holding) fl_30 fc_30 fk_30
  have F31 := fun_mk (st := s_dearest) fl_31 fc_31 fk_31
  have F33 := fun_mk (st := s_splits) fl_33 fc_33 fk_33
  have F34 := fun_mk (st := s_splits_by_lot) fl_34 fc_34 fk_34
  have F35 := fun_mk (st := s_deeds_around) fl_35 fc_35 fk_35
  have F36 := fun_mk (st := s_least_way) fl_36 fc_36 fk_36
  have F37 := fun_mk (st := s_least) fl_37 fc_37 fk_37
  have F38 := fun_mk (st := s_spare) fl_38 fc_38 fk_38
  have F40 := fun_mk (st := s__law_start) fl_40 fc_40 fk_40
  have F41 := fun_mk (st := s__law_drawn) fl_41 fc_41 fk_41
  have F42 := fun_mk (st := s__law_same) fl_42 fc_42 fk_42
  have F44 := fun_mk (st := s__law_turned) fl_44 fc_44 fk_44
  have F45 := fun_mk (st := s__law_lots) fl_45 fc_45 fk_45
  have F46 := fun_mk (st := s__law_shelf) fl_46 fc_46 fk_46
  have F47 := fun_mk (st := s__law_placed) fl_47 fc_47 fk_47
  have F48 := fun_mk (st := s__law_goal) fl_48 fc_48 fk_48
  have F43 := fun_mk (st := s__law_kind) fl_43 fc_43 fk_43
  have I2 := fun_mk (st := i_BadShelf) li_2 cc_2 kk_2
  have O2 : OexC K C2 := ⟨⟨_, _, _, _, _, _, _, _, _, _, _, _, _, _, _, xl_2, by rfl⟩, sa_2, ex_2, ty_2, kc_2⟩
  have I3 := fun_mk (st := i_BadGoal) li_3 cc_3 kk_3
  have O3 : OexC K C3 := ⟨⟨_, _, _, _, _, _, _, _, _, _, _, _, _, _, _, xl_3, by rfl⟩, sa_3, ex_3, ty_3, kc_3⟩
  have T : Tx K mg (fun i => ([0, C1, C2, C3, C4, C5, C6, C7, C8, C9, C10, 0, 0, 0, 0, a15, a16, a17, a18, a19, a20, a21, a22, a23, 0, 0, 0, a27, a28, a29, a30, a31, 0, a33, a34, a35, a36, a37, a38, 0, a40, a41, a42, a43, a44, a45, a46, a47, a48] : List Addr).getD i 0) (fun i => ([PySem.W.fnOf "law" "law" (defArgs s_law) (defBody s_law) (defScope s_law) .none kL eL pL zL (.ref c) uL, PySem.W.fnOf "law" "law" (defArgs s_law) (defBody s_law) (defScope s_law) .none kL eL pL zL (.ref c) uL, PySem.W.fnOf "law" "law" (defArgs s_law) (defBody s_law) (defScope s_law) .none kL eL pL zL (.ref c) uL, PySem.W.fnOf "law" "law" (defArgs s_law) (defBody s_law) (defScope s_law) .none kL eL pL zL (.ref c) uL, PySem.W.fnOf "law" "law" (defArgs s_law) (defBody s_law) (defScope s_law) .none kL eL pL zL (.ref c) uL, PySem.W.fnOf "law" "law" (defArgs s_law) (defBody s_law) (defScope s_law) .none kL eL pL zL (.ref c) uL, PySem.W.fnOf "law" "law" (defArgs s_law) (defBody s_law) (defScope s_law) .none kL eL pL zL (.ref c) uL, PySem.W.fnOf "law" "law" (defArgs s_law) (defBody s_law) (defScope s_law) .none kL eL pL zL (.ref c) uL, PySem.W.fnOf "law" "law" (defArgs s_law) (defBody s_law) (defScope s_law) .none kL eL pL zL (.ref c) uL, PySem.W.fnOf "law" "law" (defArgs s_law) (defBody s_law) (defScope s_law) .none kL eL pL zL (.ref c) uL, PySem.W.fnOf "law" "law" (defArgs s_law) (defBody s_law) (defScope s_law) .none kL eL pL zL (.ref c) uL, PySem.W.fnOf "law" "law" (defArgs s_law) (defBody s_law) (defScope s_law) .none kL eL pL zL (.ref c) uL, PySem.W.fnOf "law" "law" (defArgs s_law) (defBody s_law) (defScope s_law) .none kL eL pL zL (.ref c) uL, PySem.W.fnOf "law" "law" (defArgs s_law) (defBody s_law) (defScope s_law) .none kL eL pL zL (.ref c) uL, PySem.W.fnOf "law" "law" (defArgs s_law) (defBody s_law) (defScope s_law) .none kL eL pL zL (.ref c) uL, PySem.W.fnOf "is_number" "is_number" (defArgs s_is_number) (defBody s_is_number) (defScope s_is_number) .none k15 e15 p15 z15 c15 u15, PySem.W.fnOf "is_place" "is_place" (defArgs s_is_place) (defBody s_is_place) (defScope s_is_place) .none k16 e16 p16 z16 c16 u16, PySem.W.fnOf "is_price" "is_price" (defArgs s_is_price) (defBody s_is_price) (defScope s_is_price) .none k17 e17 p17 z17 c17 u17, PySem.W.fnOf "lot_of" "lot_of" (defArgs s_lot_of) (defBody s_lot_of) (defScope s_lot_of) .none k18 e18 p18 z18 c18 u18, PySem.W.fnOf "wrong_price" "wrong_price" (defArgs s_wrong_price) (defBody s_wrong_price) (defScope s_wrong_price) .none k19 e19 p19 z19 c19 u19, PySem.W.fnOf "wrong_lot" "wrong_lot" (defArgs s_wrong_lot) (defBody s_wrong_lot) (defScope s_wrong_lot) .none k20 e20 p20 z20 c20 u20, PySem.W.fnOf "missing_book" "missing_book" (defArgs s_missing_book) (defBody s_missing_book) (defScope s_missing_book) .none k21 e21 p21 z21 c21 u21, PySem.W.fnOf "check_shelf" "check_shelf" (defArgs s_check_shelf) (defBody s_check_shelf) (defScope s_check_shelf) .none k22 e22 p22 z22 c22 u22, PySem.W.fnOf "check_goal" "check_goal" (defArgs s_check_goal) (defBody s_check_goal) (defScope s_check_goal) .none k23 e23 p23 z23 c23 u23, PySem.W.fnOf "law" "law" (defArgs s_law) (defBody s_law) (defScope s_law) .none kL eL pL zL (.ref c) uL, PySem.W.fnOf "law" "law" (defArgs s_law) (defBody s_law) (defScope s_law) .none kL eL pL zL (.ref c) uL, PySem.W.fnOf "law" "law" (defArgs s_law) (defBody s_law) (defScope s_law) .none kL eL pL zL (.ref c) uL, PySem.W.fnOf "fixed_books" "fixed_books" (defArgs s_fixed_books) (defBody s_fixed_books) (defScope s_fixed_books) .none k27 e27 p27 z27 c27 u27, PySem.W.fnOf "price_of" "price_of" (defArgs s_price_of) (defBody s_price_of) (defScope s_price_of) .none k28 e28 p28 z28 c28 u28, PySem.W.fnOf "stands" "stands" (defArgs s_stands) (defBody s_stands) (defScope s_stands) .none k29 e29 p29 z29 c29 u29, PySem.W.fnOf "holding" "holding" (defArgs s_holding) (defBody s_holding) (defScope s_holding) .none k30 e30 p30 z30 c30 u30, PySem.W.fnOf "dearest" "dearest" (defArgs s_dearest) (defBody s_dearest) (defScope s_dearest) .none k31 e31 p31 z31 c31 u31, PySem.W.fnOf "law" "law" (defArgs s_law) (defBody s_law) (defScope s_law) .none kL eL pL zL (.ref c) uL, PySem.W.fnOf "splits" "splits" (defArgs s_splits) (defBody s_splits) (defScope s_splits) .none k33 e33 p33 z33 c33 u33, PySem.W.fnOf "splits_by_lot" "splits_by_lot" (defArgs s_splits_by_lot) (defBody s_splits_by_lot) (defScope s_splits_by_lot) .none k34 e34 p34 z34 c34 u34, PySem.W.fnOf "deeds_around" "deeds_around" (defArgs s_deeds_around) (defBody s_deeds_around) (defScope s_deeds_around) .none k35 e35 p35 z35 c35 u35, PySem.W.fnOf "least_way" "least_way" (defArgs s_least_way) (defBody s_least_way) (defScope s_least_way) .none k36 e36 p36 z36 c36 u36, PySem.W.fnOf "least" "least" (defArgs s_least) (defBody s_least) (defScope s_least) .none k37 e37 p37 z37 c37 u37, PySem.W.fnOf "spare" "spare" (defArgs s_spare) (defBody s_spare) (defScope s_spare) .none k38 e38 p38 z38 c38 u38, PySem.W.fnOf "law" "law" (defArgs s_law) (defBody s_law) (defScope s_law) .none kL eL pL zL (.ref c) uL, PySem.W.fnOf "_law_start" "_law_start" (defArgs s__law_start) (defBody s__law_start) (defScope s__law_start) .none k40 e40 p40 z40 c40 u40, PySem.W.fnOf "_law_drawn" "_law_drawn" (defArgs s__law_drawn) (defBody s__law_drawn) (defScope s__law_drawn) .none k41 e41 p41 z41 c41 u41, PySem.W.fnOf "_law_same" "_law_same" (defArgs s__law_same) (defBody s__law_same) (defScope s__law_same) .none k42 e42 p42 z42 c42 u42, PySem.W.fnOf "_law_kind" "_law_kind" (defArgs s__law_kind) (defBody s__law_kind) (defScope s__law_kind) .none k43 e43 p43 z43 c43 u43, PySem.W.fnOf "_law_turned" "_law_turned" (defArgs s__law_turned) (defBody s__law_turned) (defScope s__law_turned) .none k44 e44 p44 z44 c44 u44, PySem.W.fnOf "_law_lots" "_law_lots" (defArgs s__law_lots) (defBody s__law_lots) (defScope s__law_lots) .none k45 e45 p45 z45 c45 u45, PySem.W.fnOf "_law_shelf" "_law_shelf" (defArgs s__law_shelf) (defBody s__law_shelf) (defScope s__law_shelf) .none k46 e46 p46 z46 c46 u46, PySem.W.fnOf "_law_placed" "_law_placed" (defArgs s__law_placed) (defBody s__law_placed) (defScope s__law_placed) .none k47 e47 p47 z47 c47 u47, PySem.W.fnOf "_law_goal" "_law_goal" (defArgs s__law_goal) (defBody s__law_goal) (defScope s__law_goal) .none k48 e48 p48 z48 c48 u48] : List FuncData).getD i (PySem.W.fnOf "law" "law" (defArgs s_law) (defBody s_law) (defScope s_law) .none kL eL pL zL (.ref c) uL)) (fun i => ([0, 0, g2, g3, 0, 0, 0, 0, 0, 0, 0, 0, 0, 0, 0, 0, 0, 0, 0, 0, 0, 0, 0, 0, 0, 0, 0, 0, 0, 0, 0, 0, 0, 0, 0, 0, 0, 0, 0, 0, 0, 0, 0, 0, 0, 0, 0, 0, 0] : List Addr).getD i 0) (fun i => ([PySem.W.fnOf "law" "law" (defArgs s_law) (defBody s_law) (defScope s_law) .none kL eL pL zL (.ref c) uL, PySem.W.fnOf "law" "law" (defArgs s_law) (defBody s_law) (defScope s_law) .none kL eL pL zL (.ref c) uL, PySem.W.fnOf "__init__" "BadShelf.__init__" (defArgs i_BadShelf) (defBody i_BadShelf) (defScope i_BadShelf) .none ki2 di2 pi2 ani2 ci2 ti2, PySem.W.fnOf "__init__" "BadGoal.__init__" (defArgs i_BadGoal) (defBody i_BadGoal) (defScope i_BadGoal) .none ki3 di3 pi3 ani3 ci3 ti3, PySem.W.fnOf "law" "law" (defArgs s_law) (defBody s_law) (defScope s_law) .none kL eL pL zL (.ref c) uL, PySem.W.fnOf "law" "law" (defArgs s_law) (defBody s_law) (defScope s_law) .none kL eL pL zL (.ref c) uL, PySem.W.fnOf "law" "law" (defArgs s_law) (defBody s_law) (defScope s_law) .none kL eL pL zL (.ref c) uL, PySem.W.fnOf "law" "law" (defArgs s_law) (defBody s_law) (defScope s_law) .none kL eL pL zL (.ref c) uL, PySem.W.fnOf "law" "law" (defArgs s_law) (defBody s_law) (defScope s_law) .none kL eL pL zL (.ref c) uL, PySem.W.fnOf "law" "law" (defArgs s_law) (defBody s_law) (defScope s_law) .none kL eL pL zL (.ref c) uL, PySem.W.fnOf "law" "law" (defArgs s_law) (defBody s_law) (defScope s_law) .none kL eL pL zL (.ref c) uL, PySem.W.fnOf "law" "law" (defArgs s_law) (defBody s_law) (defScope s_law) .none kL eL pL zL (.ref c) uL, PySem.W.fnOf "law" "law" (defArgs s_law) (defBody s_law) (defScope s_law) .none kL eL pL zL (.ref c) uL, PySem.W.fnOf "law" "law" (defArgs s_law) (defBody s_law) (defScope s_law) .none kL eL pL zL (.ref c) uL, PySem.W.fnOf "law" "law" (defArgs s_law) (defBody s_law) (defScope s_law) .none kL eL pL zL (.ref c) uL, PySem.W.fnOf "law" "law" (defArgs s_law) (defBody s_law) (defScope s_law) .none kL eL pL zL (.ref c) uL, PySem.W.fnOf "law" "law" (defArgs s_law) (defBody s_law) (defScope s_law) .none kL eL pL zL (.ref c) uL, PySem.W.fnOf "law" "law" (defArgs s_law) (defBody s_law) (defScope s_law) .none kL eL pL zL (.ref c) uL, PySem.W.fnOf "law" "law" (defArgs s_law) (defBody s_law) (defScope s_law) .none kL eL pL zL (.ref c) uL, PySem.W.fnOf "law" "law" (defArgs s_law) (defBody s_law) (defScope s_law) .none kL eL pL zL (.ref c) uL, PySem.W.fnOf "law" "law" (defArgs s_law) (defBody s_law) (defScope s_law) .none kL eL pL zL (.ref c) uL, PySem.W.fnOf "law" "law" (defArgs s_law) (defBody s_law) (defScope s_law) .none kL eL pL zL (.ref c) uL, PySem.W.fnOf "law" "law" (defArgs s_law) (defBody s_law) (defScope s_law) .none kL eL pL zL (.ref c) uL, PySem.W.fnOf "law" "law" (defArgs s_law) (defBody s_law) (defScope s_law) .none kL eL pL zL (.ref c) uL, PySem.W.fnOf "law" "law" (defArgs s_law) (defBody s_law) (defScope s_law) .none kL eL pL zL (.ref c) uL, PySem.W.fnOf "law" "law" (defArgs s_law) (defBody s_law) (defScope s_law) .none kL eL pL zL (.ref c) uL, PySem.W.fnOf "law" "law" (defArgs s_law) (defBody s_law) (defScope s_law) .none kL eL pL zL (.ref c) uL, PySem.W.fnOf "law" "law" (defArgs s_law) (defBody s_law) (defScope s_law) .none kL eL pL zL (.ref c) uL, PySem.W.fnOf "law" "law" (defArgs s_law) (defBody s_law) (defScope s_law) .none kL eL pL zL (.ref c) uL, PySem.W.fnOf "law" "law" (defArgs s_law) (defBody s_law) (defScope s_law) .none kL eL pL zL (.ref c) uL, PySem.W.fnOf "law" "law" (defArgs s_law) (defBody s_law) (defScope s_law) .none kL eL pL zL (.ref c) uL, PySem.W.fnOf "law" "law" (defArgs s_law) (defBody s_law) (defScope s_law) .none kL eL pL zL (.ref c) uL, PySem.W.fnOf "law" "law" (defArgs s_law) (defBody s_law) (defScope s_law) .none kL eL pL zL (.ref c) uL, PySem.W.fnOf "law" "law" (defArgs s_law) (defBody s_law) (defScope s_law) .none kL eL pL zL (.ref c) uL, PySem.W.fnOf "law" "law" (defArgs s_law) (defBody s_law) (defScope s_law) .none kL eL pL zL (.ref c) uL, PySem.W.fnOf "law" "law" (defArgs s_law) (defBody s_law) (defScope s_law) .none kL eL pL zL (.ref c) uL, PySem.W.fnOf "law" "law" (defArgs s_law) (defBody s_law) (defScope s_law) .none kL eL pL zL (.ref c) uL, PySem.W.fnOf "law" "law" (defArgs s_law) (defBody s_law) (defScope s_law) .none kL eL pL zL (.ref c) uL, PySem.W.fnOf "law" "law" (defArgs s_law) (defBody s_law) (defScope s_law) .none kL eL pL zL (.ref c) uL, PySem.W.fnOf "law" "law" (defArgs s_law) (defBody s_law) (defScope s_law) .none kL eL pL zL (.ref c) uL, PySem.W.fnOf "law" "law" (defArgs s_law) (defBody s_law) (defScope s_law) .none kL eL pL zL (.ref c) uL, PySem.W.fnOf "law" "law" (defArgs s_law) (defBody s_law) (defScope s_law) .none kL eL pL zL (.ref c) uL, PySem.W.fnOf "law" "law" (defArgs s_law) (defBody s_law) (defScope s_law) .none kL eL pL zL (.ref c) uL, PySem.W.fnOf "law" "law" (defArgs s_law) (defBody s_law) (defScope s_law) .none kL eL pL zL (.ref c) uL, PySem.W.fnOf "law" "law" (defArgs s_law) (defBody s_law) (defScope s_law) .none kL eL pL zL (.ref c) uL, PySem.W.fnOf "law" "law" (defArgs s_law) (defBody s_law) (defScope s_law) .none kL eL pL zL (.ref c) uL, PySem.W.fnOf "law" "law" (defArgs s_law) (defBody s_law) (defScope s_law) .none kL eL pL zL (.ref c) uL, PySem.W.fnOf "law" "law" (defArgs s_law) (defBody s_law) (defScope s_law) .none kL eL pL zL (.ref c) uL, PySem.W.fnOf "law" "law" (defArgs s_law) (defBody s_law) (defScope s_law) .none kL eL pL zL (.ref c) uL] : List FuncData).getD i (PySem.W.fnOf "law" "law" (defArgs s_law) (defBody s_law) (defScope s_law) .none kL eL pL zL (.ref c) uL)) := {
    kt := kt
    n_ValueError := PySem.W.mg_none_of X G nb_ValueError
    n_bool := PySem.W.mg_none_of X G nb_bool
    n_enumerate := PySem.W.mg_none_of X G nb_enumerate
    n_int := PySem.W.mg_none_of X G nb_int
    n_isinstance := PySem.W.mg_none_of X G nb_isinstance
    n_len := PySem.W.mg_none_of X G nb_len
    n_list := PySem.W.mg_none_of X G nb_list
    n_max := PySem.W.mg_none_of X G nb_max
    n_range := PySem.W.mg_none_of X G nb_range
    n_reversed := PySem.W.mg_none_of X G nb_reversed
    n_set := PySem.W.mg_none_of X G nb_set
    n_sorted := PySem.W.mg_none_of X G nb_sorted
    n_sum := PySem.W.mg_none_of X G nb_sum
    n_tuple := PySem.W.mg_none_of X G nb_tuple
    n_zip := PySem.W.mg_none_of X G nb_zip
    c_FIRST := ⟨_, PySem.W.mg_of X G gl_FIRST, ⟨_, rfl⟩⟩
    c_LAST := ⟨_, PySem.W.mg_of X G gl_LAST, ⟨_, rfl⟩⟩
    c_MOST_BOOKS := ⟨_, PySem.W.mg_of X G gl_MOST_BOOKS, ⟨_, rfl⟩⟩
    c_MOST_LOTS := ⟨_, PySem.W.mg_of X G gl_MOST_LOTS, ⟨_, rfl⟩⟩
    c_MOST_PRICE := ⟨_, PySem.W.mg_of X G gl_MOST_PRICE, ⟨_, rfl⟩⟩
    gc_BadGoal := PySem.W.mg_of X G cl_3
    gc_BadName := PySem.W.mg_of X G cl_7
    gc_BadShelf := PySem.W.mg_of X G cl_2
    gc_BadText := PySem.W.mg_of X G cl_10
    gc_BadWay := PySem.W.mg_of X G cl_5
    gc_BadWish := PySem.W.mg_of X G cl_4
    gc_Halted := PySem.W.mg_of X G cl_9
    gc_NoPoint := PySem.W.mg_of X G cl_8
    gc_NoWay := PySem.W.mg_of X G cl_6
    ec_NoWay := ⟨ga_6, gg_6, ex_6, hd_6, ha_6, hn, ht, hm_6⟩
    xf_NoWay := ⟨ga_6, gg_6, ex_6, hd_6⟩
    exm_NoWay := em_6
    gh_ShelfError := PySem.W.mg_of X G cl_1
    kit_NoWay_BadGoal := kt_NoWay_BadGoal
    kit_NoWay_BadName := kt_NoWay_BadName
    kit_NoWay_BadShelf := kt_NoWay_BadShelf
    kit_NoWay_BadText := kt_NoWay_BadText
    kit_NoWay_BadWay := kt_NoWay_BadWay
    kit_NoWay_BadWish := kt_NoWay_BadWish
    kit_NoWay_Halted := kt_NoWay_Halted
    kit_NoWay_NoPoint := kt_NoWay_NoPoint
    kit_NoWay_NoWay := kt_NoWay_NoWay
    kitb_NoWay_ValueError := kb_NoWay_ValueError
    base_ShelfError := ⟨PySem.W.mg_of X G cl_1, bg_1, br_1, bf_1⟩
    x_BadGoal := ⟨PySem.W.mg_of X G cl_3, O3, ic_3, ti_3⟩
    fi_BadGoal := I3
    bk_BadGoal := fun s u ws hl => match ws, hl with | [_], _ => .of_eq rfl
    nf_BadGoal_number := nf_3_number
    x_BadShelf := ⟨PySem.W.mg_of X G cl_2, O2, ic_2, ti_2⟩
    fi_BadShelf := I2
    bk_BadShelf := fun s u ws hl => match ws, hl with | [_, _], _ => .of_eq rfl
    nf_BadShelf_part := nf_2_part
    nf_BadShelf_number := nf_2_number
    xn_NoWay := ⟨PySem.W.mg_of X G cl_6, xe_6, kc_6, ex_6, ty_6⟩
    g_is_number := PySem.W.mg_of X G fa_15
    f_is_number := F15
    b_is_number := F15.binds (ps := ["value"]) fun _ _ _ _ _ _ us hl => match us, hl with | [_], _ => rfl
    g_is_place := PySem.W.mg_of X G fa_16
    f_is_place := F16
    b_is_place := F16.binds (ps := ["value", "many"]) fun _ _ _ _ _ _ us hl => match us, hl with | [_, _], _ => rfl
    g_is_price := PySem.W.mg_of X G fa_17
    f_is_price := F17
    b_is_price := F17.binds (ps := ["value"]) fun _ _ _ _ _ _ us hl => match us, hl with | [_], _ => rfl
    g_lot_of := PySem.W.mg_of X G fa_18
    f_lot_of := F18
    b_lot_of := F18.binds (ps := ["lots", "book"]) fun _ _ _ _ _ _ us hl => match us, hl with | [_, _], _ => rfl
    g_wrong_price := PySem.W.mg_of X G fa_19
    f_wrong_price := F19
    b_wrong_price := F19.binds (ps := ["prices"]) fun _ _ _ _ _ _ us hl => match us, hl with | [_], _ => rfl
    g_wrong_lot := PySem.W.mg_of X G fa_20
    f_wrong_lot := F20
    b_wrong_lot := F20.binds (ps := ["lots", "books", "fewest", "most"]) fun _ _ _ _ _ _ us hl => match us, hl with | [_, _, _, _], _ => rfl
    g_missing_book := PySem.W.mg_of X G fa_21
    f_missing_book := F21
    b_missing_book := F21.binds (ps := ["lots", "books"]) fun _ _ _ _ _ _ us hl => match us, hl with | [_, _], _ => rfl
    g_check_shelf := PySem.W.mg_of X G fa_22
    f_check_shelf := F22
    b_check_shelf := F22.binds (ps := ["shelf"]) fun _ _ _ _ _ _ us hl => match us, hl with | [_], _ => rfl
    g_check_goal := PySem.W.mg_of X G fa_23
    f_check_goal := F23
    b_check_goal := F23.binds (ps := ["shelf", "goal"]) fun _ _ _ _ _ _ us hl => match us, hl with | [_, _], _ => rfl
    g_fixed_books := PySem.W.mg_of X G fa_27
    f_fixed_books := F27
    b_fixed_books := F27.binds (ps := ["prices", "books"]) fun _ _ _ _ _ _ us hl => match us, hl with | [_, _], _ => rfl
    g_price_of := PySem.W.mg_of X G fa_28
    f_price_of := F28
    b_price_of := F28.binds (ps := ["prices", "books"]) fun _ _ _ _ _ _ us hl => match us, hl with | [_, _], _ => rfl
    g_stands := PySem.W.mg_of X G fa_29
    f_stands := F29
    b_stands := F29.binds (ps := ["lot", "part"]) fun _ _ _ _ _ _ us hl => match us, hl with | [_, _], _ => rfl
    g_holding := PySem.W.mg_of X G fa_30
    f_holding := F30
    b_holding := F30.binds (ps := ["prices", "lot", "wanted"]) fun _ _ _ _ _ _ us hl => match us, hl with | [_, _, _], _ => rfl
    g_dearest := PySem.W.mg_of X G fa_31
    f_dearest := F31
    b_dearest := F31.binds (ps := ["prices", "lot", "wanted"]) fun _ _ _ _ _ _ us hl => match us, hl with | [_, _, _], _ => rfl
    g_splits := PySem.W.mg_of X G fa_33
    f_splits := F33
    b_splits := F33.binds (ps := ["prices", "lot", "wanted"]) fun _ _ _ _ _ _ us hl => match us, hl with | [_, _, _], _ => rfl
    g_splits_by_lot := PySem.W.mg_of X G fa_34
    f_splits_by_lot := F34
    b_splits_by_lot := F34.binds (ps := ["shelf", "goal"]) fun _ _ _ _ _ _ us hl => match us, hl with | [_, _], _ => rfl
    g_deeds_around := PySem.W.mg_of X G fa_35
    f_deeds_around := F35
    b_deeds_around := F35.binds (ps := ["number", "wanted", "split"]) fun _ _ _ _ _ _ us hl => match us, hl with | [_, _, _], _ => rfl
    g_least_way := PySem.W.mg_of X G fa_36
    f_least_way := F36
    b_least_way := F36.binds (ps := ["shelf", "goal"]) fun _ _ _ _ _ _ us hl => match us, hl with | [_, _], _ => rfl
    g_least := PySem.W.mg_of X G fa_37
    f_least := F37
    b_least := F37.binds (ps := ["shelf", "goal"]) fun _ _ _ _ _ _ us hl => match us, hl with | [_, _], _ => rfl
    g_spare := PySem.W.mg_of X G fa_38
    f_spare := F38
    b_spare := F38.binds (ps := ["shelf", "goal"]) fun _ _ _ _ _ _ us hl => match us, hl with | [_, _], _ => rfl
    g__law_start := PySem.W.mg_of X G fa_40
    f__law_start := F40
    b__law_start := F40.binds (ps := ["_law_script"]) fun _ _ _ _ _ _ us hl => match us, hl with | [_], _ => rfl
    g__law_drawn := PySem.W.mg_of X G fa_41
    f__law_drawn := F41
    b__law_drawn := F41.binds (ps := ["_law_state", "_law_many"]) fun _ _ _ _ _ _ us hl => match us, hl with | [_, _], _ => rfl
    g__law_same := PySem.W.mg_of X G fa_42
    f__law_same := F42
    b__law_same := F42.binds (ps := ["_law_found", "_law_due"]) fun _ _ _ _ _ _ us hl => match us, hl with | [_, _], _ => rfl
    g__law_turned := PySem.W.mg_of X G fa_44
    f__law_turned := F44
    b__law_turned := F44.binds (ps := ["_law_state", "_law_many"]) fun _ _ _ _ _ _ us hl => match us, hl with | [_, _], _ => rfl
    g__law_lots := PySem.W.mg_of X G fa_45
    f__law_lots := F45
    b__law_lots := F45.binds (ps := ["_law_state", "_law_many", "_law_lots_here"]) fun _ _ _ _ _ _ us hl => match us, hl with | [_, _, _], _ => rfl
    g__law_shelf := PySem.W.mg_of X G fa_46
    f__law_shelf := F46
    b__law_shelf := F46.binds (ps := ["_law_state", "_law_most", "_law_lots_here"]) fun _ _ _ _ _ _ us hl => match us, hl with | [_, _, _], _ => rfl
    g__law_placed := PySem.W.mg_of X G fa_47
    f__law_placed := F47
    b__law_placed := F47.binds (ps := ["_law_lots_here", "_law_book", "_law_number", "_law_end"]) fun _ _ _ _ _ _ us hl => match us, hl with | [_, _, _, _], _ => rfl
    g__law_goal := PySem.W.mg_of X G fa_48
    f__law_goal := F48
    b__law_goal := F48.binds (ps := ["_law_state", "_law_shelf_here"]) fun _ _ _ _ _ _ us hl => match us, hl with | [_, _], _ => rfl
    g__law_kind := PySem.W.mg_of X G fa_43
    f__law_kind := F43
    b__law_kind := F43.binds (ps := ["_law_work"]) fun _ _ _ _ _ _ us hl => match us, hl with | [_], _ => rfl
  }
  refine ⟨PySem.W.fnOf "law" "law" (defArgs s_law) (defBody s_law) (defScope s_law) .none kL eL pL zL (.ref c) uL, PySem.W.codeHd_of_K X lt, ln, fun s u => .of_eq rfl, fun base TB => ?_⟩
  have F_init_BadShelf := ok_init_BadShelf (P := P) (w := w) (base := base) T
  have F_init_BadGoal := ok_init_BadGoal (P := P) (w := w) (base := base) T
  have F_is_number := ok_is_number (P := P) (w := w) (base := base) T 
  have F_is_place := ok_is_place (P := P) (w := w) (base := base) T F_is_number
  have F_is_price := ok_is_price (P := P) (w := w) (base := base) T F_is_number
  have F_lot_of := ok_lot_of (P := P) (w := w) (base := base) T 
  have F_wrong_price := ok_wrong_price (P := P) (w := w) (base := base) T F_is_price
  have F_wrong_lot := ok_wrong_lot (P := P) (w := w) (base := base) T F_is_place
  have F_missing_book := ok_missing_book (P := P) (w := w) (base := base) T F_lot_of
  have F_check_shelf := ok_check_shelf (P := P) (w := w) (base := base) T F_missing_book F_wrong_lot F_wrong_price F_init_BadShelf
  have F_check_goal := ok_check_goal (P := P) (w := w) (base := base) T F_missing_book F_wrong_lot F_init_BadGoal
  have F_fixed_books := ok_fixed_books (P := P) (w := w) (base := base) T 
  have F_price_of := ok_price_of (P := P) (w := w) (base := base) T 
  have F_stands := ok_stands (P := P) (w := w) (base := base) T 
  have F_holding := ok_holding (P := P) (w := w) (base := base) T F_fixed_books F_stands
  have F_dearest := ok_dearest (P := P) (w := w) (base := base) T F_holding F_price_of
  have F_splits := ok_splits (P := P) (w := w) (base := base) T F_dearest F_fixed_books
  have F_splits_by_lot := ok_splits_by_lot (P := P) (w := w) (base := base) T F_splits
  have F_deeds_around := ok_deeds_around (P := P) (w := w) (base := base) T 
  have F_least_way := ok_least_way (P := P) (w := w) (base := base) T F_deeds_around F_splits_by_lot
  have F_least := ok_least (P := P) (w := w) (base := base) T F_check_goal F_check_shelf F_least_way
  have F_spare := ok_spare (P := P) (w := w) (base := base) T F_check_goal F_check_shelf F_splits_by_lot
  have F__law_start := ok__law_start (P := P) (w := w) (base := base) T 
  have F__law_drawn := ok__law_drawn (P := P) (w := w) (base := base) T 
  have F__law_turned := ok__law_turned (P := P) (w := w) (base := base) T F__law_drawn
  have F__law_lots := ok__law_lots (P := P) (w := w) (base := base) T F__law_drawn F__law_turned
  have F__law_shelf := ok__law_shelf (P := P) (w := w) (base := base) T F__law_drawn F__law_lots
  have F__law_placed := ok__law_placed (P := P) (w := w) (base := base) T 
  have F__law_goal := ok__law_goal (P := P) (w := w) (base := base) T F__law_drawn F__law_lots F__law_placed
  exact ok_law T F__law_goal F__law_shelf F__law_start F_least F_spare TB ll lc math
theorem law_at {l : PySem.W.OpenLaw} {w : World} {K : PySem.W.Frag} {mg : Str → Option Value} {h : Heap} {fa Pt : Addr} (hT : h.get? Pt = some { cls := .none, data := .fields #[] }) (X : K.In h) (G : h.Ns mainGlobals mg) (hfa : mg "law" = some (.ref fa))
    {t_FIRST : Tok}
    {t_LAST : Tok}
    {t_MOST_BOOKS : Tok}
    {t_MOST_LOTS : Tok}
    {t_MOST_PRICE : Tok}
    {C1 : Addr}
    {C2 : Addr}
    {C3 : Addr}
    {C4 : Addr}
    {C5 : Addr}
    {C6 : Addr}
    {C7 : Addr}
    {C8 : Addr}
    {C9 : Addr}
    {C10 : Addr}
    {g2 : Addr} {nm2 q2 : Str} {N2 : Addr} {bs2 : List Value} {sn2 : List Str} {sub2 : List Value} {ab2 : Bool} {col2 : Option Bool} {dd2 : Option Addr} {m02 m12 m22 m32 m52 : Option Value} {oi2 ki2 di2 pi2 ci2 ti2 : Value} {odi2 ani2 : Option Addr} {sli2 : Array (Option Value)}
    {g3 : Addr} {nm3 q3 : Str} {N3 : Addr} {bs3 : List Value} {sn3 : List Str} {sub3 : List Value} {ab3 : Bool} {col3 : Option Bool} {dd3 : Option Addr} {m03 m13 m23 m33 m53 : Option Value} {oi3 ki3 di3 pi3 ci3 ti3 : Value} {odi3 ani3 : Option Addr} {sli3 : Array (Option Value)}
    {a15 : Addr} {o15 k15 e15 p15 c15 u15 : Value} {y15 z15 : Option Addr} {s15 : Array (Option Value)}
    {a16 : Addr} {o16 k16 e16 p16 c16 u16 : Value} {y16 z16 : Option Addr} {s16 : Array (Option Value)}
    {a17 : Addr} {o17 k17 e17 p17 c17 u17 : Value} {y17 z17 : Option Addr} {s17 : Array (Option Value)}
    {a18 : Addr} {o18 k18 e18 p18 c18 u18 : Value} {y18 z18 : Option Addr} {s18 : Array (Option Value)}
    {a19 : Addr} {o19 k19 e19 p19 c19 u19 : Value} {y19 z19 : Option Addr} {s19 : Array (Option Value)}
    {a20 : Addr} {o20 k20 e20 p20 c20 u20 : Value} {y20 z20 : Option Addr} {s20 : Array (Option Value)}
    {a21 : Addr} {o21 k21 e21 p21 c21 u21 : Value} {y21 z21 : Option Addr} {s21 : Array (Option Value)}
    {a22 : Addr} {o22 k22 e22 p22 c22 u22 : Value} {y22 z22 : Option Addr} {s22 : Array (Option Value)}
    {a23 : Addr} {o23 k23 e23 p23 c23 u23 : Value} {y23 z23 : Option Addr} {s23 : Array (Option Value)}
    {a27 : Addr} {o27 k27 e27 p27 c27 u27 : Value} {y27 z27 : Option Addr} {s27 : Array (Option Value)}
    {a28 : Addr} {o28 k28 e28 p28 c28 u28 : Value} {y28 z28 : Option Addr} {s28 : Array (Option Value)}
    {a29 : Addr} {o29 k29 e29 p29 c29 u29 : Value} {y29 z29 : Option Addr} {s29 : Array (Option Value)}
    {a30 : Addr} {o30 k30 e30 p30 c30 u30 : Value} {y30 z30 : Option Addr} {s30 : Array (Option Value)}
    {a31 : Addr} {o31 k31 e31 p31 c31 u31 : Value} {y31 z31 : Option Addr} {s31 : Array (Option Value)}
    {a33 : Addr} {o33 k33 e33 p33 c33 u33 : Value} {y33 z33 : Option Addr} {s33 : Array (Option Value)}
    {a34 : Addr} {o34 k34 e34 p34 c34 u34 : Value} {y34 z34 : Option Addr} {s34 : Array (Option Value)}
    {a35 : Addr} {o35 k35 e35 p35 c35 u35 : Value} {y35 z35 : Option Addr} {s35 : Array (Option Value)}
    {a36 : Addr} {o36 k36 e36 p36 c36 u36 : Value} {y36 z36 : Option Addr} {s36 : Array (Option Value)}
    {a37 : Addr} {o37 k37 e37 p37 c37 u37 : Value} {y37 z37 : Option Addr} {s37 : Array (Option Value)}
    {a38 : Addr} {o38 k38 e38 p38 c38 u38 : Value} {y38 z38 : Option Addr} {s38 : Array (Option Value)}
    {a40 : Addr} {o40 k40 e40 p40 c40 u40 : Value} {y40 z40 : Option Addr} {s40 : Array (Option Value)}
    {a41 : Addr} {o41 k41 e41 p41 c41 u41 : Value} {y41 z41 : Option Addr} {s41 : Array (Option Value)}
    {a42 : Addr} {o42 k42 e42 p42 c42 u42 : Value} {y42 z42 : Option Addr} {s42 : Array (Option Value)}
    {a44 : Addr} {o44 k44 e44 p44 c44 u44 : Value} {y44 z44 : Option Addr} {s44 : Array (Option Value)}
    {a45 : Addr} {o45 k45 e45 p45 c45 u45 : Value} {y45 z45 : Option Addr} {s45 : Array (Option Value)}
    {a46 : Addr} {o46 k46 e46 p46 c46 u46 : Value} {y46 z46 : Option Addr} {s46 : Array (Option Value)}
    {a47 : Addr} {o47 k47 e47 p47 c47 u47 : Value} {y47 z47 : Option Addr} {s47 : Array (Option Value)}
    {a48 : Addr} {o48 k48 e48 p48 c48 u48 : Value} {y48 z48 : Option Addr} {s48 : Array (Option Value)}
    {a43 : Addr} {o43 k43 e43 p43 c43 u43 : Value} {y43 z43 : Option Addr} {s43 : Array (Option Value)}
    {c aL : Addr} {oL kL eL pL uL : Value} {yL zL : Option Addr} {sL : Array (Option Value)}
    (nb_ValueError : PySem.W.nsIn K mainGlobals "ValueError" = some none)
    (nb_bool : PySem.W.nsIn K mainGlobals "bool" = some none)
    (nb_enumerate : PySem.W.nsIn K mainGlobals "enumerate" = some none)
    (nb_int : PySem.W.nsIn K mainGlobals "int" = some none)
    (nb_isinstance : PySem.W.nsIn K mainGlobals "isinstance" = some none)
    (nb_len : PySem.W.nsIn K mainGlobals "len" = some none)
    (nb_list : PySem.W.nsIn K mainGlobals "list" = some none)
    (nb_max : PySem.W.nsIn K mainGlobals "max" = some none)
    (nb_range : PySem.W.nsIn K mainGlobals "range" = some none)
    (nb_reversed : PySem.W.nsIn K mainGlobals "reversed" = some none)
    (nb_set : PySem.W.nsIn K mainGlobals "set" = some none)
    (nb_sorted : PySem.W.nsIn K mainGlobals "sorted" = some none)
    (nb_sum : PySem.W.nsIn K mainGlobals "sum" = some none)
    (nb_tuple : PySem.W.nsIn K mainGlobals "tuple" = some none)
    (nb_zip : PySem.W.nsIn K mainGlobals "zip" = some none)
    (gl_FIRST : PySem.W.nsIn K mainGlobals "FIRST" = some (some (.str "first" t_FIRST)))
    (gl_LAST : PySem.W.nsIn K mainGlobals "LAST" = some (some (.str "last" t_LAST)))
    (gl_MOST_BOOKS : PySem.W.nsIn K mainGlobals "MOST_BOOKS" = some (some (.int 12 t_MOST_BOOKS)))
    (gl_MOST_LOTS : PySem.W.nsIn K mainGlobals "MOST_LOTS" = some (some (.int 5 t_MOST_LOTS)))
    (gl_MOST_PRICE : PySem.W.nsIn K mainGlobals "MOST_PRICE" = some (some (.int 99 t_MOST_PRICE)))
    (kt : KT K)
    (cl_1 : PySem.W.nsIn K mainGlobals "ShelfError" = some (some (.ref C1)))
    (cl_2 : PySem.W.nsIn K mainGlobals "BadShelf" = some (some (.ref C2)))
    (cl_3 : PySem.W.nsIn K mainGlobals "BadGoal" = some (some (.ref C3)))
    (cl_4 : PySem.W.nsIn K mainGlobals "BadWish" = some (some (.ref C4)))
    (cl_5 : PySem.W.nsIn K mainGlobals "BadWay" = some (some (.ref C5)))
    (cl_6 : PySem.W.nsIn K mainGlobals "NoWay" = some (some (.ref C6)))
    (cl_7 : PySem.W.nsIn K mainGlobals "BadName" = some (some (.ref C7)))
    (cl_8 : PySem.W.nsIn K mainGlobals "NoPoint" = some (some (.ref C8)))
    (cl_9 : PySem.W.nsIn K mainGlobals "Halted" = some (some (.ref C9)))
    (cl_10 : PySem.W.nsIn K mainGlobals "BadText" = some (some (.ref C10)))
    (bg_1 : PySem.W.specialIn K (.ref C1) "__getattribute__" = some (some (.builtin "type.__getattribute__")))
    (br_1 : PySem.W.readsIn K C1 (.type "type") = true)
    (bf_1 : PySem.W.findCls K (.ref C1) (.type "type") "__init__" = some (.val (.builtin "ValueError.__init__")))
    (xl_2 : K.lookup C2 = some (excClassObj nm2 q2 C2 N2 bs2 [.ref C1, .type "ValueError", .type "Exception", .type "BaseException", .type "object"] true sn2 sub2 ab2 col2 dd2 m02 m12 m22 m32 m52 "ValueError.__new__"))
    (sa_2 : PySem.W.findIn K (.ref C2) "__setattr__" = some (some (.builtin "object.__setattr__")))
    (ex_2 : PySem.W.subIn K (.ref C2) (.type "BaseException") = some true)
    (ty_2 : PySem.W.typeIn K (.ref C2) = some (.type "type"))
    (kc_2 : PySem.W.keepIn K (.ref C2) = true)
    (ic_2 : PySem.W.findIn K (.ref C2) "__init__" = some (some (.ref g2)))
    (ti_2 : PySem.W.typeIn K (.ref g2) = some (.type "function"))
    (li_2 : K.lookup g2 = some ⟨oi2, odi2, .func (PySem.W.fnOf "__init__" "BadShelf.__init__" (defArgs i_BadShelf) (defBody i_BadShelf) (defScope i_BadShelf) .none ki2 di2 pi2 ani2 ci2 ti2), sli2⟩)
    (cc_2 : PySem.W.codeIn K ci2 "BadShelf.__init__" = true)
    (kk_2 : PySem.W.keepIn K (.ref g2) = true)
    (nf_2_part : PySem.W.findIn K (.ref C2) "part" = some none)
    (nf_2_number : PySem.W.findIn K (.ref C2) "number" = some none)
    (xl_3 : K.lookup C3 = some (excClassObj nm3 q3 C3 N3 bs3 [.ref C1, .type "ValueError", .type "Exception", .type "BaseException", .type "object"] true sn3 sub3 ab3 col3 dd3 m03 m13 m23 m33 m53 "ValueError.__new__"))
    (sa_3 : PySem.W.findIn K (.ref C3) "__setattr__" = some (some (.builtin "object.__setattr__")))
    (ex_3 : PySem.W.subIn K (.ref C3) (.type "BaseException") = some true)
    (ty_3 : PySem.W.typeIn K (.ref C3) = some (.type "type"))
    (kc_3 : PySem.W.keepIn K (.ref C3) = true)
    (ic_3 : PySem.W.findIn K (.ref C3) "__init__" = some (some (.ref g3)))
    (ti_3 : PySem.W.typeIn K (.ref g3) = some (.type "function"))
    (li_3 : K.lookup g3 = some ⟨oi3, odi3, .func (PySem.W.fnOf "__init__" "BadGoal.__init__" (defArgs i_BadGoal) (defBody i_BadGoal) (defScope i_BadGoal) .none ki3 di3 pi3 ani3 ci3 ti3), sli3⟩)
    (cc_3 : PySem.W.codeIn K ci3 "BadGoal.__init__" = true)
    (kk_3 : PySem.W.keepIn K (.ref g3) = true)
    (nf_3_number : PySem.W.findIn K (.ref C3) "number" = some none)
    (xe_6 : PySem.W.excIn K C6 [.type "ValueError", .type "Exception", .type "BaseException", .type "object"] "ValueError.__new__" = true)
    (ex_6 : PySem.W.subIn K (.ref C6) (.type "BaseException") = some true)
    (ty_6 : PySem.W.typeIn K (.ref C6) = some (.type "type"))
    (kc_6 : PySem.W.keepIn K (.ref C6) = true)
    (ga_6 : PySem.W.findIn K (.ref C6) "__getattribute__" = some (some (.builtin "BaseException.__getattribute__")))
    (gg_6 : PySem.W.findIn K (.ref C6) "__getattr__" = some none)
    (hd_6 : PySem.W.hasDictIn K C6 = true)
    (ha_6 : PySem.W.findIn K (.ref C6) "__class__" = some (some (.builtin "object.__class__")))
    (hm_6 : PySem.W.mroIn K C6 (.type "object") = some true)
    (em_6 : PySem.W.exmOne K (.ref C6) (.ref C1) = some true)
    (hn : PySem.W.specialIn K (.builtin "object.__class__") "__get__" = some (some (.builtin "getset_descriptor.__get__")))
    (ht : PySem.W.takesIn K (.builtin "object.__class__") = some true)
    (kt_NoWay_BadGoal : PySem.W.kitOne K (.ref C6) (.ref C3) = some false)
    (kt_NoWay_BadName : PySem.W.kitOne K (.ref C6) (.ref C7) = some false)
    (kt_NoWay_BadShelf : PySem.W.kitOne K (.ref C6) (.ref C2) = some false)
    (kt_NoWay_BadText : PySem.W.kitOne K (.ref C6) (.ref C10) = some false)
    (kt_NoWay_BadWay : PySem.W.kitOne K (.ref C6) (.ref C5) = some false)
    (kt_NoWay_BadWish : PySem.W.kitOne K (.ref C6) (.ref C4) = some false)
    (kt_NoWay_Halted : PySem.W.kitOne K (.ref C6) (.ref C9) = some false)
    (kt_NoWay_NoPoint : PySem.W.kitOne K (.ref C6) (.ref C8) = some false)
    (kt_NoWay_NoWay : PySem.W.kitOne K (.ref C6) (.ref C6) = some true)
    (kb_NoWay_ValueError : PySem.W.kitOne K (.ref C6) (.type "ValueError") = some true)
    (fa_15 : PySem.W.nsIn K mainGlobals "is_number" = some (some (.ref a15)))
    (fl_15 : K.lookup a15 = some ⟨o15, y15, .func (PySem.W.fnOf "is_number" "is_number" (defArgs s_is_number) (defBody s_is_number) (defScope s_is_number) .none k15 e15 p15 z15 c15 u15), s15⟩)
    (fc_15 : PySem.W.codeIn K c15 "is_number" = true)
    (fk_15 : PySem.W.keepIn K (.ref a15) = true)
    (fa_16 : PySem.W.nsIn K mainGlobals "is_place" = some (some (.ref a16)))
    (fl_16 : K.lookup a16 = some ⟨o16, y16, .func (PySem.W.fnOf "is_place" "is_place" (defArgs s_is_place) (defBody s_is_place) (defScope s_is_place) .none k16 e16 p16 z16 c16 u16), s16⟩)
    (fc_16 : PySem.W.codeIn K c16 "is_place" = true)
    (fk_16 : PySem.W.keepIn K (.ref a16) = true)
    (fa_17 : PySem.W.nsIn K mainGlobals "is_price" = some (some (.ref a17)))
    (fl_17 : K.lookup a17 = some ⟨o17, y17, .func (PySem.W.fnOf "is_price" "is_price" (defArgs s_is_price) (defBody s_is_price) (defScope s_is_price) .none k17 e17 p17 z17 c17 u17), s17⟩)
    (fc_17 : PySem.W.codeIn K c17 "is_price" = true)
    (fk_17 : PySem.W.keepIn K (.ref a17) = true)
    (fa_18 : PySem.W.nsIn K mainGlobals "lot_of" = some (some (.ref a18)))
    (fl_18 : K.lookup a18 = some ⟨o18, y18, .func (PySem.W.fnOf "lot_of" "lot_of" (defArgs s_lot_of) (defBody s_lot_of) (defScope s_lot_of) .none k18 e18 p18 z18 c18 u18), s18⟩)
    (fc_18 : PySem.W.codeIn K c18 "lot_of" = true)
    (fk_18 : PySem.W.keepIn K (.ref a18) = true)
    (fa_19 : PySem.W.nsIn K mainGlobals "wrong_price" = some (some (.ref a19)))
    (fl_19 : K.lookup a19 = some ⟨o19, y19, .func (PySem.W.fnOf "wrong_price" "wrong_price" (defArgs s_wrong_price) (defBody s_wrong_price) (defScope s_wrong_price) .none k19 e19 p19 z19 c19 u19), s19⟩)
    (fc_19 : PySem.W.codeIn K c19 "wrong_price" = true)
    (fk_19 : PySem.W.keepIn K (.ref a19) = true)
    (fa_20 : PySem.W.nsIn K mainGlobals "wrong_lot" = some (some (.ref a20)))
    (fl_20 : K.lookup a20 = some ⟨o20, y20, .func (PySem.W.fnOf "wrong_lot" "wrong_lot" (defArgs s_wrong_lot) (defBody s_wrong_lot) (defScope s_wrong_lot) .none k20 e20 p20 z20 c20 u20), s20⟩)
    (fc_20 : PySem.W.codeIn K c20 "wrong_lot" = true)
    (fk_20 : PySem.W.keepIn K (.ref a20) = true)
    (fa_21 : PySem.W.nsIn K mainGlobals "missing_book" = some (some (.ref a21)))
    (fl_21 : K.lookup a21 = some ⟨o21, y21, .func (PySem.W.fnOf "missing_book" "missing_book" (defArgs s_missing_book) (defBody s_missing_book) (defScope s_missing_book) .none k21 e21 p21 z21 c21 u21), s21⟩)
    (fc_21 : PySem.W.codeIn K c21 "missing_book" = true)
    (fk_21 : PySem.W.keepIn K (.ref a21) = true)
    (fa_22 : PySem.W.nsIn K mainGlobals "check_shelf" = some (some (.ref a22)))
    (fl_22 : K.lookup a22 = some ⟨o22, y22, .func (PySem.W.fnOf "check_shelf" "check_shelf" (defArgs s_check_shelf) (defBody s_check_shelf) (defScope s_check_shelf) .none k22 e22 p22 z22 c22 u22), s22⟩)
    (fc_22 : PySem.W.codeIn K c22 "check_shelf" = true)
    (fk_22 : PySem.W.keepIn K (.ref a22) = true)
    (fa_23 : PySem.W.nsIn K mainGlobals "check_goal" = some (some (.ref a23)))
    (fl_23 : K.lookup a23 = some ⟨o23, y23, .func (PySem.W.fnOf "check_goal" "check_goal" (defArgs s_check_goal) (defBody s_check_goal) (defScope s_check_goal) .none k23 e23 p23 z23 c23 u23), s23⟩)
    (fc_23 : PySem.W.codeIn K c23 "check_goal" = true)
    (fk_23 : PySem.W.keepIn K (.ref a23) = true)
    (fa_27 : PySem.W.nsIn K mainGlobals "fixed_books" = some (some (.ref a27)))
    (fl_27 : K.lookup a27 = some ⟨o27, y27, .func (PySem.W.fnOf "fixed_books" "fixed_books" (defArgs s_fixed_books) (defBody s_fixed_books) (defScope s_fixed_books) .none k27 e27 p27 z27 c27 u27), s27⟩)
    (fc_27 : PySem.W.codeIn K c27 "fixed_books" = true)
    (fk_27 : PySem.W.keepIn K (.ref a27) = true)
    (fa_28 : PySem.W.nsIn K mainGlobals "price_of" = some (some (.ref a28)))
    (fl_28 : K.lookup a28 = some ⟨o28, y28, .func (PySem.W.fnOf "price_of" "price_of" (defArgs s_price_of) (defBody s_price_of) (defScope s_price_of) .none k28 e28 p28 z28 c28 u28), s28⟩)
    (fc_28 : PySem.W.codeIn K c28 "price_of" = true)
    (fk_28 : PySem.W.keepIn K (.ref a28) = true)
    (fa_29 : PySem.W.nsIn K mainGlobals "stands" = some (some (.ref a29)))
    (fl_29 : K.lookup a29 = some ⟨o29, y29, .func (PySem.W.fnOf "stands" "stands" (defArgs s_stands) (defBody s_stands) (defScope s_stands) .none k29 e29 p29 z29 c29 u29), s29⟩)
    (fc_29 : PySem.W.codeIn K c29 "stands" = true)
    (fk_29 : PySem.W.keepIn K (.ref a29) = true)
    (fa_30 : PySem.W.nsIn K mainGlobals "holding" = some (some (.ref a30)))
    (fl_30 : K.lookup a30 = some ⟨o30, y30, .func (PySem.W.fnOf "holding" "holding" (defArgs s_holding) (defBody s_holding) (defScope s_holding) .none k30 e30 p30 z30 c30 u30), s30⟩)
    (fc_30 : PySem.W.codeIn K c30 "holding" = true)
    (fk_30 : PySem.W.keepIn K (.ref a30) = true)
    (fa_31 : PySem.W.nsIn K mainGlobals "dearest" = some (some (.ref a31)))
    (fl_31 : K.lookup a31 = some ⟨o31, y31, .func (PySem.W.fnOf "dearest" "dearest" (defArgs s_dearest) (defBody s_dearest) (defScope s_dearest) .none k31 e31 p31 z31 c31 u31), s31⟩)
    (fc_31 : PySem.W.codeIn K c31 "dearest" = true)
    (fk_31 : PySem.W.keepIn K (.ref a31) = true)
    (fa_33 : PySem.W.nsIn K mainGlobals "splits" = some (some (.ref a33)))
    (fl_33 : K.lookup a33 = some ⟨o33, y33, .func (PySem.W.fnOf "splits" "splits" (defArgs s_splits) (defBody s_splits) (defScope s_splits) .none k33 e33 p33 z33 c33 u33), s33⟩)
    (fc_33 : PySem.W.codeIn K c33 "splits" = true)
    (fk_33 : PySem.W.keepIn K (.ref a33) = true)
    (fa_34 : PySem.W.nsIn K mainGlobals "splits_by_lot" = some (some (.ref a34)))
    (fl_34 : K.lookup a34 = some ⟨o34, y34, .func (PySem.W.fnOf "splits_by_lot" "splits_by_lot" (defArgs s_splits_by_lot) (defBody s_splits_by_lot) (defScope s_splits_by_lot) .none k34 e34 p34 z34 c34 u34), s34⟩)
    (fc_34 : PySem.W.codeIn K c34 "splits_by_lot" = true)
    (fk_34 : PySem.W.keepIn K (.ref a34) = true)
    (fa_35 : PySem.W.nsIn K mainGlobals "deeds_around" = some (some (.ref a35)))
    (fl_35 : K.lookup a35 = some ⟨o35, y35, .func (PySem.W.fnOf "deeds_around" "deeds_around" (defArgs s_deeds_around) (defBody s_deeds_around) (defScope s_deeds_around) .none k35 e35 p35 z35 c35 u35), s35⟩)
    (fc_35 : PySem.W.codeIn K c35 "deeds_around" = true)
    (fk_35 : PySem.W.keepIn K (.ref a35) = true)
    (fa_36 : PySem.W.nsIn K mainGlobals "least_way" = some (some (.ref a36)))
    (fl_36 : K.lookup a36 = some ⟨o36, y36, .func (PySem.W.fnOf "least_way" "least_way" (defArgs s_least_way) (defBody s_least_way) (defScope s_least_way) .none k36 e36 p36 z36 c36 u36), s36⟩)
    (fc_36 : PySem.W.codeIn K c36 "least_way" = true)
    (fk_36 : PySem.W.keepIn K (.ref a36) = true)
    (fa_37 : PySem.W.nsIn K mainGlobals "least" = some (some (.ref a37)))
    (fl_37 : K.lookup a37 = some ⟨o37, y37, .func (PySem.W.fnOf "least" "least" (defArgs s_least) (defBody s_least) (defScope s_least) .none k37 e37 p37 z37 c37 u37), s37⟩)
    (fc_37 : PySem.W.codeIn K c37 "least" = true)
    (fk_37 : PySem.W.keepIn K (.ref a37) = true)
    (fa_38 : PySem.W.nsIn K mainGlobals "spare" = some (some (.ref a38)))
    (fl_38 : K.lookup a38 = some ⟨o38, y38, .func (PySem.W.fnOf "spare" "spare" (defArgs s_spare) (defBody s_spare) (defScope s_spare) .none k38 e38 p38 z38 c38 u38), s38⟩)
    (fc_38 : PySem.W.codeIn K c38 "spare" = true)
    (fk_38 : PySem.W.keepIn K (.ref a38) = true)
    (fa_40 : PySem.W.nsIn K mainGlobals "_law_start" = some (some (.ref a40)))
    (fl_40 : K.lookup a40 = some ⟨o40, y40, .func (PySem.W.fnOf "_law_start" "_law_start" (defArgs s__law_start) (defBody s__law_start) (defScope s__law_start) .none k40 e40 p40 z40 c40 u40), s40⟩)
    (fc_40 : PySem.W.codeIn K c40 "_law_start" = true)
    (fk_40 : PySem.W.keepIn K (.ref a40) = true)
    (fa_41 : PySem.W.nsIn K mainGlobals "_law_drawn" = some (some (.ref a41)))
    (fl_41 : K.lookup a41 = some ⟨o41, y41, .func (PySem.W.fnOf "_law_drawn" "_law_drawn" (defArgs s__law_drawn) (defBody s__law_drawn) (defScope s__law_drawn) .none k41 e41 p41 z41 c41 u41), s41⟩)
    (fc_41 : PySem.W.codeIn K c41 "_law_drawn" = true)
    (fk_41 : PySem.W.keepIn K (.ref a41) = true)
    (fa_42 : PySem.W.nsIn K mainGlobals "_law_same" = some (some (.ref a42)))
    (fl_42 : K.lookup a42 = some ⟨o42, y42, .func (PySem.W.fnOf "_law_same" "_law_same" (defArgs s__law_same) (defBody s__law_same) (defScope s__law_same) .none k42 e42 p42 z42 c42 u42), s42⟩)
    (fc_42 : PySem.W.codeIn K c42 "_law_same" = true)
    (fk_42 : PySem.W.keepIn K (.ref a42) = true)
    (fa_44 : PySem.W.nsIn K mainGlobals "_law_turned" = some (some (.ref a44)))
    (fl_44 : K.lookup a44 = some ⟨o44, y44, .func (PySem.W.fnOf "_law_turned" "_law_turned" (defArgs s__law_turned) (defBody s__law_turned) (defScope s__law_turned) .none k44 e44 p44 z44 c44 u44), s44⟩)
    (fc_44 : PySem.W.codeIn K c44 "_law_turned" = true)
    (fk_44 : PySem.W.keepIn K (.ref a44) = true)
    (fa_45 : PySem.W.nsIn K mainGlobals "_law_lots" = some (some (.ref a45)))
    (fl_45 : K.lookup a45 = some ⟨o45, y45, .func (PySem.W.fnOf "_law_lots" "_law_lots" (defArgs s__law_lots) (defBody s__law_lots) (defScope s__law_lots) .none k45 e45 p45 z45 c45 u45), s45⟩)
    (fc_45 : PySem.W.codeIn K c45 "_law_lots" = true)
    (fk_45 : PySem.W.keepIn K (.ref a45) = true)
    (fa_46 : PySem.W.nsIn K mainGlobals "_law_shelf" = some (some (.ref a46)))
    (fl_46 : K.lookup a46 = some ⟨o46, y46, .func (PySem.W.fnOf "_law_shelf" "_law_shelf" (defArgs s__law_shelf) (defBody s__law_shelf) (defScope s__law_shelf) .none k46 e46 p46 z46 c46 u46), s46⟩)
    (fc_46 : PySem.W.codeIn K c46 "_law_shelf" = true)
    (fk_46 : PySem.W.keepIn K (.ref a46) = true)
    (fa_47 : PySem.W.nsIn K mainGlobals "_law_placed" = some (some (.ref a47)))
    (fl_47 : K.lookup a47 = some ⟨o47, y47, .func (PySem.W.fnOf "_law_placed" "_law_placed" (defArgs s__law_placed) (defBody s__law_placed) (defScope s__law_placed) .none k47 e47 p47 z47 c47 u47), s47⟩)
    (fc_47 : PySem.W.codeIn K c47 "_law_placed" = true)
    (fk_47 : PySem.W.keepIn K (.ref a47) = true)
    (fa_48 : PySem.W.nsIn K mainGlobals "_law_goal" = some (some (.ref a48)))
    (fl_48 : K.lookup a48 = some ⟨o48, y48, .func (PySem.W.fnOf "_law_goal" "_law_goal" (defArgs s__law_goal) (defBody s__law_goal) (defScope s__law_goal) .none k48 e48 p48 z48 c48 u48), s48⟩)
    (fc_48 : PySem.W.codeIn K c48 "_law_goal" = true)
    (fk_48 : PySem.W.keepIn K (.ref a48) = true)
    (fa_43 : PySem.W.nsIn K mainGlobals "_law_kind" = some (some (.ref a43)))
    (fl_43 : K.lookup a43 = some ⟨o43, y43, .func (PySem.W.fnOf "_law_kind" "_law_kind" (defArgs s__law_kind) (defBody s__law_kind) (defScope s__law_kind) .none k43 e43 p43 z43 c43 u43), s43⟩)
    (fc_43 : PySem.W.codeIn K c43 "_law_kind" = true)
    (fk_43 : PySem.W.keepIn K (.ref a43) = true)
    (la : PySem.W.nsIn K mainGlobals "law" = some (some (.ref aL)))
    (ll : K.lookup aL = some ⟨oL, yL, .func (PySem.W.fnOf "law" "law" (defArgs s_law) (defBody s_law) (defScope s_law) .none kL eL pL zL (.ref c) uL), sL⟩)
    (lc : PySem.W.codeIn K (.ref c) "law" = true)
    (lt : PySem.W.codeHdIn K c Pt = true)
    (ln : K.lookup Pt = none)
    (math : ∀ ns : List Int, scriptOk ns → ∃ env, G_law Pt (envL Pt ns) = some (.rt (.bool true) env)) : LamX.LawAtS l w K (L2.CX l.prog w) 12 63 "_law_script" mg fa h := by
  obtain ⟨fd, h1, h2, h3, h4⟩ := all_mk (P := l.prog) (w := w) X G hfa nb_ValueError nb_bool nb_enumerate nb_int nb_isinstance nb_len nb_list nb_max nb_range nb_reversed nb_set nb_sorted nb_sum nb_tuple nb_zip gl_FIRST gl_LAST gl_MOST_BOOKS gl_MOST_LOTS gl_MOST_PRICE kt cl_1 cl_2 cl_3 cl_4 cl_5 cl_6 cl_7 cl_8 cl_9 cl_10 bg_1 br_1 bf_1 xl_2 sa_2 ex_2 ty_2 kc_2 ic_2 ti_2 li_2 cc_2 kk_2 nf_2_part nf_2_number xl_3 sa_3 ex_3 ty_3 kc_3 ic_3 ti_3 li_3 cc_3 kk_3 nf_3_number xe_6 ex_6 ty_6 kc_6 ga_6 gg_6 hd_6 ha_6 hm_6 em_6 hn ht kt_NoWay_BadGoal kt_NoWay_BadName kt_NoWay_BadShelf kt_NoWay_BadText kt_NoWay_BadWay kt_NoWay_BadWish kt_NoWay_Halted kt_NoWay_NoPoint kt_NoWay_NoWay kb_NoWay_ValueError fa_15 fl_15 fc_15 fk_15 fa_16 fl_16 fc_16 fk_16 fa_17 fl_17 fc_17 fk_17 fa_18 fl_18 fc_18 fk_18 fa_19 fl_19 fc_19 fk_19 fa_20 fl_20 fc_20 fk_20 fa_21 fl_21 fc_21 fk_21 fa_22 fl_22 fc_22 fk_22 fa_23 fl_23 fc_23 fk_23 fa_27 fl_27 fc_27 fk_27 fa_28 fl_28 fc_28 fk_28 fa_29 fl_29 fc_29 fk_29 fa_30 fl_30 fc_30 fk_30 fa_31 fl_31 fc_31 fk_31 fa_33 fl_33 fc_33 fk_33 fa_34 fl_34 fc_34 fk_34 fa_35 fl_35 fc_35 fk_35 fa_36 fl_36 fc_36 fk_36 fa_37 fl_37 fc_37 fk_37 fa_38 fl_38 fc_38 fk_38 fa_40 fl_40 fc_40 fk_40 fa_41 fl_41 fc_41 fk_41 fa_42 fl_42 fc_42 fk_42 fa_44 fl_44 fc_44 fk_44 fa_45 fl_45 fc_45 fk_45 fa_46 fl_46 fc_46 fk_46 fa_47 fl_47 fc_47 fk_47 fa_48 fl_48 fc_48 fk_48 fa_43 fl_43 fc_43 fk_43 la ll lc lt ln math
  exact ⟨fd, [(c, Pt)], spLaw K Pt, fun p hp => by rw [List.mem_singleton.mp hp]; exact hT, fun p hp => by rw [List.mem_singleton.mp hp]; exact h2, fun p hp => by rw [List.mem_singleton.mp hp]; exact h1, h3, fun H a ns hl hb hT hS => ⟨a, ns, rfl, hS, ⟨hl, hb⟩, hT _ (List.mem_singleton.mpr rfl), fun _ => rfl⟩, fun base _ _ hB => h4 base (hB _ (List.mem_singleton.mpr rfl))⟩
end Q
/-! part PfKT -/
set_option Elab.async false
set_option linter.all false
namespace Pf
open PySem PySem.Spec PyProof.Rows L2
def isTupC (v : Value) : Bool := match v with
  | .type t => t == "tuple"
  | _ => false
theorem lookup_mem {K : PySem.W.Frag} {p : Addr} {o : Obj} (h : K.lookup p = some o) : (p, o) ∈ K := by
  induction K with
  | nil => cases h
  | cons x r ih =>
    obtain ⟨q, u⟩ := x
    rw [List.lookup_cons] at h
    cases e : p == q with
    | true =>
      rw [e] at h
      have e : p = q := by simpa using e
      cases h
      rw [e]
      exact List.mem_cons_self
    | false =>
      rw [e] at h
      exact List.mem_cons_of_mem _ (ih h)
theorem kt_of {K : PySem.W.Frag} (h : K.all (fun x => !isTupC x.2.cls || (x.2.dict.isNone && x.2.slots.size == 0)) = true) : KT K := fun p o hk hc => by
  have q := List.all_eq_true.mp h _ (lookup_mem hk)
  rw [hc] at q
  simp [isTupC] at q
  exact ⟨q.1, by simpa using q.2⟩
end Pf
/-! part Bk -/
set_option Elab.async false
set_option linter.all false
namespace Q
def strip (b : Nat) (l : List Nat) : List Nat := l.filter fun x => x != b
def putEnd (first : Bool) (b : Nat) (l : List Nat) : List Nat := if first = true then b :: l else l ++ [b]
def placed (ls : List (List Nat)) (b k : Nat) (first : Bool) : List (List Nat) := (ls.map (strip b)).set k (putEnd first b (((ls.map (strip b))[k]?).getD []))
theorem placed_at (ls : List (List Nat)) (b k i : Nat) (f : Bool) : (placed ls b k f)[i]? = (ls[i]?).map fun l => if i = k then putEnd f b (strip b l) else strip b l := by
  unfold placed
  by_cases h : i = k
  · subst h
    by_cases hl : i < ls.length
    · rw [List.getElem?_set_self (by simpa using hl)]
      simp [hl]
    · rw [List.getElem?_eq_none (by simp; omega), List.getElem?_eq_none (by omega)]
      rfl
  · rw [List.getElem?_set_ne (Ne.symm h)]
    simp [h]
abbrev Dd := Nat × Nat × Bool
def tk (ds : List Dd) : List Nat := ds.map (·.1)
def runL : List (List Nat) → List Dd → List (List Nat)
  | ls, [] => ls
  | ls, d :: r => runL (placed ls d.1 d.2.1 d.2.2) r
def afr (i : Nat) : List Dd → List Nat
  | [] => []
  | d :: r => afr i r ++ (if d.2.1 = i ∧ d.2.2 = true ∧ d.1 ∉ tk r then [d.1] else [])
def bla (i : Nat) : List Dd → List Nat
  | [] => []
  | d :: r => (if d.2.1 = i ∧ d.2.2 = false ∧ d.1 ∉ tk r then [d.1] else []) ++ bla i r
theorem afr_cons (i : Nat) (d : Dd) (r : List Dd) : afr i (d :: r) = afr i r ++ (if d.2.1 = i ∧ d.2.2 = true ∧ d.1 ∉ tk r then [d.1] else []) := rfl
theorem bla_cons (i : Nat) (d : Dd) (r : List Dd) : bla i (d :: r) = (if d.2.1 = i ∧ d.2.2 = false ∧ d.1 ∉ tk r then [d.1] else []) ++ bla i r := rfl
abbrev rest (ds : List Dd) (l : List Nat) : List Nat := l.filter fun x => decide (x ∉ tk ds)
theorem rest_strip (b : Nat) (r : List Dd) (d : Dd) (h : d.1 = b) (l : List Nat) : rest r (strip b l) = rest (d :: r) l := by
  unfold rest strip
  rw [List.filter_filter]
  refine List.filter_congr fun x _ => ?_
  subst h
  by_cases h1 : x = d.1 <;> by_cases h2 : x ∈ tk r <;> simp_all [tk]
theorem run_at : ∀ (ds : List Dd) (ls : List (List Nat)) (i : Nat), (runL ls ds)[i]? = (ls[i]?).map fun l => afr i ds ++ (rest ds l ++ bla i ds)
  | [], ls, i => by
    have : ∀ l : List Nat, rest [] l = l := fun l => by simp [rest, tk]
    simp [runL, afr, bla, this]
  | d :: r, ls, i => by
    unfold runL
    rw [run_at r, placed_at]
    cases hl : ls[i]? with
    | none => rfl
    | some l =>
      simp only [Option.map_some]
      by_cases hk : i = d.2.1
      · subst hk
        rw [if_pos rfl]
        cases hf : d.2.2 with
        | true =>
          have e : rest r (putEnd true d.1 (strip d.1 l)) = (if d.1 ∉ tk r then [d.1] else []) ++ rest (d :: r) l := by
            show rest r (d.1 :: strip d.1 l) = _
            rw [← rest_strip d.1 r d rfl]
            unfold rest
            rw [List.filter_cons]
            by_cases h : d.1 ∈ tk r <;> simp [h]
          rw [e]
          simp [afr, bla, hf]
        | false =>
          have e : rest r (putEnd false d.1 (strip d.1 l)) = rest (d :: r) l ++ (if d.1 ∉ tk r then [d.1] else []) := by
            show rest r (strip d.1 l ++ [d.1]) = _
            rw [← rest_strip d.1 r d rfl]
            unfold rest
            rw [List.filter_append]
            by_cases h : d.1 ∈ tk r <;> simp [h]
          rw [e]
          simp [afr, bla, hf]
      · rw [if_neg hk, rest_strip d.1 r d rfl]
        have h2 : ¬ d.2.1 = i := fun h => hk h.symm
        simp [afr, bla, h2]
def sumP (pr : Nat → Nat) (l : List Nat) : Nat := (l.map pr).sum
theorem sumP_app (pr : Nat → Nat) (a b : List Nat) : sumP pr (a ++ b) = sumP pr a + sumP pr b := by simp [sumP]
theorem sumP_cons (pr : Nat → Nat) (a : Nat) (b : List Nat) : sumP pr (a :: b) = pr a + sumP pr b := by simp [sumP]
theorem sumP_nil (pr : Nat → Nat) : sumP pr [] = 0 := rfl
theorem sumP_rev (pr : Nat → Nat) (a : List Nat) : sumP pr a.reverse = sumP pr a := by
  induction a with
  | nil => rfl
  | cons x r ih => rw [List.reverse_cons, sumP_app, ih, sumP_cons, sumP_cons, sumP_nil]; omega
def cut (w : List Nat) (s p : Nat) : List Nat := (w.drop s).take (p - s)
def stand (l part : List Nat) : Bool := (l.filter fun x => decide (x ∈ part)) == part
def holdB (fx : Nat → Bool) (l w : List Nat) (s p : Nat) : Bool := stand l (cut w s p) && ((cut w s p).filter fx == w.filter fx)
def holdingL (fx : Nat → Bool) (l w : List Nat) : List (Nat × Nat) := (List.range w.length).flatMap fun s => ((List.range' (s + 1) (w.length - s)).filter fun p => holdB fx l w s p).map fun p => (s, p)
def best (pr : Nat → Nat) (w : List Nat) (f : List (Nat × Nat)) : Nat := (f.map fun sp => sumP pr (cut w sp.1 sp.2)).foldl max 0
def dearestL (pr : Nat → Nat) (fx : Nat → Bool) (l w : List Nat) : List (Nat × Nat) := (holdingL fx l w).filter fun sp => sumP pr (cut w sp.1 sp.2) == best pr w (holdingL fx l w)
def splitsL (pr : Nat → Nat) (fx : Nat → Bool) (l w : List Nat) : List (Nat × Nat) :=
  if dearestL pr fx l w = [] ∧ w.filter fx = [] then (List.range (w.length + 1)).map fun a => (a, a) else dearestL pr fx l w
theorem mem_holding {fx : Nat → Bool} {l w : List Nat} {s p : Nat} : (s, p) ∈ holdingL fx l w ↔ s < p ∧ p ≤ w.length ∧ holdB fx l w s p = true := by
  unfold holdingL
  rw [List.mem_flatMap]
  constructor
  · rintro ⟨a, ha, h⟩
    obtain ⟨q, hq, e⟩ := List.mem_map.mp h
    obtain ⟨h1, h2⟩ := List.mem_filter.mp hq
    cases e
    have := List.mem_range.mp ha
    have := List.mem_range'_1.mp h1
    exact ⟨by omega, by omega, h2⟩
  · rintro ⟨h1, h2, h3⟩
    exact ⟨s, List.mem_range.mpr (by omega), List.mem_map.mpr ⟨p, List.mem_filter.mpr ⟨List.mem_range'_1.mpr ⟨by omega, by omega⟩, h3⟩, rfl⟩⟩
theorem foldmax_ge : ∀ (xs : List Nat) (a : Nat), a ≤ xs.foldl max a ∧ ∀ x ∈ xs, x ≤ xs.foldl max a
  | [], a => ⟨Nat.le_refl _, by simp⟩
  | y :: r, a => by
    obtain ⟨h1, h2⟩ := foldmax_ge r (max a y)
    refine ⟨by simp only [List.foldl_cons]; omega, fun x hx => ?_⟩
    simp only [List.foldl_cons]
    rcases List.mem_cons.mp hx with rfl | hx
    · omega
    · exact h2 x hx
theorem foldmax_mem : ∀ (xs : List Nat) (a : Nat), xs.foldl max a = a ∨ xs.foldl max a ∈ xs
  | [], a => .inl rfl
  | y :: r, a => by
    simp only [List.foldl_cons]
    rcases foldmax_mem r (max a y) with h | h
    · rw [h]
      rcases Nat.le_total a y with q | q
      · rw [Nat.max_eq_right q]; exact .inr List.mem_cons_self
      · rw [Nat.max_eq_left q]; exact .inl rfl
    · exact .inr (List.mem_cons_of_mem _ h)
theorem best_ge {pr : Nat → Nat} {w : List Nat} {f : List (Nat × Nat)} {sp : Nat × Nat} (h : sp ∈ f) : sumP pr (cut w sp.1 sp.2) ≤ best pr w f :=
  (foldmax_ge _ 0).2 _ (List.mem_map.mpr ⟨sp, h, rfl⟩)
theorem best_mem {pr : Nat → Nat} {w : List Nat} {f : List (Nat × Nat)} (h : f ≠ []) : ∃ sp ∈ f, sumP pr (cut w sp.1 sp.2) = best pr w f := by
  rcases foldmax_mem (f.map fun sp => sumP pr (cut w sp.1 sp.2)) 0 with e | e
  · cases f with
    | nil => exact absurd rfl h
    | cons a r =>
      refine ⟨a, List.mem_cons_self, ?_⟩
      have := best_ge (pr := pr) (w := w) (f := a :: r) (sp := a) List.mem_cons_self
      have e : best pr w (a :: r) = 0 := e
      omega
  · obtain ⟨sp, h1, h2⟩ := List.mem_map.mp e
    exact ⟨sp, h1, h2⟩
theorem dearest_nil {pr : Nat → Nat} {fx : Nat → Bool} {l w : List Nat} (h : dearestL pr fx l w = []) : holdingL fx l w = [] := by
  refine Classical.byContradiction fun hn => ?_
  obtain ⟨sp, h1, h2⟩ := best_mem (pr := pr) (w := w) hn
  have : sp ∈ dearestL pr fx l w := List.mem_filter.mpr ⟨h1, by simpa using h2⟩
  rw [h] at this
  cases this
theorem cut_mid (A M B : List Nat) : cut (A ++ (M ++ B)) A.length (A.length + M.length) = M := by
  unfold cut
  rw [List.drop_left]
  have : A.length + M.length - A.length = M.length := by omega
  rw [this, List.take_left]
theorem split_parts (pr : Nat → Nat) (w : List Nat) (s p : Nat) (h : s ≤ p) : sumP pr w = sumP pr (w.take s) + sumP pr (cut w s p) + sumP pr (w.drop p) := by
  have e : w = w.take s ++ (cut w s p ++ w.drop p) := by
    unfold cut
    have : w.drop p = (w.drop s).drop (p - s) := by rw [List.drop_drop]; congr 1; omega
    rw [this, List.take_append_drop, List.take_append_drop]
  have := congrArg (sumP pr) e
  rw [sumP_app, sumP_app] at this
  omega
theorem split_is {pr : Nat → Nat} {fx : Nat → Bool} {l w : List Nat} {sp : Nat × Nat} (h : sp ∈ splitsL pr fx l w) : sp.1 ≤ sp.2 ∧ sp.2 ≤ w.length ∧ stand l (cut w sp.1 sp.2) = true ∧ (cut w sp.1 sp.2).filter fx = w.filter fx := by
  unfold splitsL at h
  split at h
  · rename_i c
    obtain ⟨a, ha, rfl⟩ := List.mem_map.mp h
    have := List.mem_range.mp ha
    have e : cut w a a = [] := by simp [cut]
    refine ⟨Nat.le_refl _, by show a ≤ _; omega, ?_, ?_⟩
    · show stand l (cut w a a) = true
      rw [e]
      simp [stand]
    · show (cut w a a).filter fx = _
      rw [e, c.2]; rfl
  · obtain ⟨s, p⟩ := sp
    obtain ⟨h1, h2⟩ := List.mem_filter.mp h
    obtain ⟨a1, a2, a3⟩ := mem_holding.mp h1
    unfold holdB at a3
    simp only [Bool.and_eq_true, beq_iff_eq] at a3
    exact ⟨Nat.le_of_lt a1, a2, a3.1, a3.2⟩
theorem split_best {pr : Nat → Nat} {fx : Nat → Bool} {l A M B : List Nat} (hs : stand l M = true) (hA : ∀ x ∈ A, fx x = false) (hB : ∀ x ∈ B, fx x = false) :
    splitsL pr fx l (A ++ (M ++ B)) ≠ [] ∧ ∀ sp ∈ splitsL pr fx l (A ++ (M ++ B)), sumP pr M ≤ sumP pr (cut (A ++ (M ++ B)) sp.1 sp.2) := by
  have fA : A.filter fx = [] := List.filter_eq_nil_iff.mpr fun x hx => by simp [hA x hx]
  have fB : B.filter fx = [] := List.filter_eq_nil_iff.mpr fun x hx => by simp [hB x hx]
  have fw : (A ++ (M ++ B)).filter fx = M.filter fx := by simp [fA, fB]
  have inH : M ≠ [] → (A.length, A.length + M.length) ∈ holdingL fx l (A ++ (M ++ B)) := fun hM => by
    have : 0 < M.length := List.length_pos_iff.mpr hM
    refine mem_holding.mpr ⟨by omega, by simp, ?_⟩
    unfold holdB
    rw [cut_mid, hs, fw]
    simp
  unfold splitsL
  by_cases c : dearestL pr fx l (A ++ (M ++ B)) = [] ∧ (A ++ (M ++ B)).filter fx = []
  · rw [if_pos c]
    refine ⟨by simp, fun sp hsp => ?_⟩
    have hM : M = [] := Classical.byContradiction fun hM => by
      have := inH hM
      rw [dearest_nil c.1] at this
      cases this
    rw [hM]
    exact Nat.zero_le _
  · rw [if_neg c]
    constructor
    · intro e
      refine c ⟨e, ?_⟩
      have hM : M = [] := Classical.byContradiction fun hM => by
        have := inH hM
        rw [dearest_nil e] at this
        cases this
      rw [fw, hM]
      rfl
    · intro sp hsp
      obtain ⟨h1, h2⟩ := List.mem_filter.mp hsp
      have h2 : sumP pr (cut (A ++ (M ++ B)) sp.1 sp.2) = best pr (A ++ (M ++ B)) (holdingL fx l (A ++ (M ++ B))) := by simpa using h2
      rw [h2]
      by_cases hM : M = []
      · rw [hM]; exact Nat.zero_le _
      · have := best_ge (pr := pr) (w := A ++ (M ++ B)) (inH hM)
        rw [cut_mid] at this
        exact this
def aroundD (i : Nat) (w : List Nat) (sp : Nat × Nat) : List Dd := (w.take sp.1).reverse.map (fun b => (b, i, true)) ++ (w.drop sp.2).map (fun b => (b, i, false))
def leastK (pr : Nat → Nat) (fx : Nat → Bool) : Nat → List (List Nat) → List (List Nat) → Option (List Dd)
  | k, l :: ls, w :: ws => match splitsL pr fx l w with
    | [] => none
    | sp :: _ => (leastK pr fx (k + 1) ls ws).map fun r => aroundD k w sp ++ r
  | _, _, _ => some []
theorem tk_app (a b : List Dd) : tk (a ++ b) = tk a ++ tk b := by simp [tk]
theorem tk_around (i : Nat) (w : List Nat) (sp : Nat × Nat) : tk (aroundD i w sp) = (w.take sp.1).reverse ++ w.drop sp.2 := by
  simp [tk, aroundD, Function.comp_def]
def wayK : Nat → List (List Nat × (Nat × Nat)) → List Dd
  | _, [] => []
  | k, z :: r => aroundD k z.1 z.2 ++ wayK (k + 1) r
theorem least_way (pr : Nat → Nat) (fx : Nat → Bool) : ∀ (ls ws : List (List Nat)) (k : Nat) (way : List Dd), ls.length = ws.length → leastK pr fx k ls ws = some way →
    ∃ zs : List (List Nat × (Nat × Nat)), way = wayK k zs ∧ zs.map (·.1) = ws ∧ ∀ (i : Nat) (l : List Nat) (z : List Nat × (Nat × Nat)), ls[i]? = some l → zs[i]? = some z → z.2 ∈ splitsL pr fx l z.1
  | [], [], k, way, _, h => ⟨[], by cases h; rfl, rfl, fun i l z h1 => by simp at h1⟩
  | [], _ :: _, _, _, h, _ => by simp at h
  | _ :: _, [], _, _, h, _ => by simp at h
  | l :: ls, w :: ws, k, way, hl, h => by
    simp only [leastK] at h
    cases hs : splitsL pr fx l w with
    | nil => rw [hs] at h; cases h
    | cons sp sps =>
      rw [hs] at h
      simp only [Option.map_eq_some_iff] at h
      obtain ⟨r, hr, rfl⟩ := h
      obtain ⟨zs, rfl, h2, h3⟩ := least_way pr fx ls ws (k + 1) r (by simpa using hl) hr
      refine ⟨(w, sp) :: zs, rfl, by simp [h2], fun i l' z h4 h5 => ?_⟩
      cases i with
      | zero =>
        simp only [List.getElem?_cons_zero, Option.some.injEq] at h4 h5
        subst h4; subst h5
        show sp ∈ splitsL pr fx l w
        rw [hs]; exact List.mem_cons_self
      | succ i =>
        simp only [List.getElem?_cons_succ] at h4 h5
        exact h3 i l' z h4 h5
theorem lot_ge : ∀ (zs : List (List Nat × (Nat × Nat))) (k : Nat), ∀ d ∈ wayK k zs, k ≤ d.2.1 ∧ d.2.1 < k + zs.length
  | [], k, d, h => by cases h
  | z :: r, k, d, h => by
    unfold wayK at h
    rcases List.mem_append.mp h with h | h
    · unfold aroundD at h
      rcases List.mem_append.mp h with h | h
      · obtain ⟨b, _, rfl⟩ := List.mem_map.mp h; exact ⟨Nat.le_refl _, by simp⟩
      · obtain ⟨b, _, rfl⟩ := List.mem_map.mp h; exact ⟨Nat.le_refl _, by simp⟩
    · obtain ⟨h1, h2⟩ := lot_ge r (k + 1) d h
      exact ⟨by omega, by simp only [List.length_cons]; omega⟩
theorem tk_way_sub : ∀ (zs : List (List Nat × (Nat × Nat))) (k : Nat), (∀ z ∈ zs, z.2.1 ≤ z.2.2) → ∃ X : List Nat, (tk (wayK k zs)).Perm X ∧ X.Sublist ((zs.map (·.1)).flatten)
  | [], k, _ => ⟨[], List.Perm.refl _, List.Sublist.refl _⟩
  | z :: r, k, h => by
    obtain ⟨X, h1, h2⟩ := tk_way_sub r (k + 1) fun z hz => h z (List.mem_cons_of_mem _ hz)
    have hz := h z List.mem_cons_self
    refine ⟨(z.1.take z.2.1 ++ z.1.drop z.2.2) ++ X, ?_, ?_⟩
    · unfold wayK
      rw [tk_app, tk_around]
      exact ((List.reverse_perm _).append_right _).append h1
    · simp only [List.map_cons, List.flatten_cons]
      refine List.Sublist.append ?_ h2
      have e2 : (z.1.drop z.2.2).Sublist (z.1.drop z.2.1) := by
        have : z.1.drop z.2.2 = (z.1.drop z.2.1).drop (z.2.2 - z.2.1) := by rw [List.drop_drop]; congr 1; omega
        rw [this]; exact List.drop_sublist ..
      have q : (z.1.take z.2.1 ++ z.1.drop z.2.2).Sublist (z.1.take z.2.1 ++ z.1.drop z.2.1) := List.Sublist.append (List.Sublist.refl _) e2
      rw [List.take_append_drop] at q
      exact q
end Q
/-! part Bl -/
set_option Elab.async false
set_option linter.all false
namespace Q
def frs (i : Nat) (ds : List Dd) : List Nat := (ds.filter fun d => d.2.1 == i && d.2.2).map (·.1)
def las (i : Nat) (ds : List Dd) : List Nat := (ds.filter fun d => d.2.1 == i && !d.2.2).map (·.1)
theorem afr_nodup (i : Nat) : ∀ ds : List Dd, (tk ds).Nodup → afr i ds = (frs i ds).reverse
  | [], _ => rfl
  | d :: r, h => by
    have h : (d.1 :: tk r).Nodup := h
    obtain ⟨h1, h2⟩ := List.nodup_cons.mp h
    rw [afr_cons, afr_nodup i r h2]
    unfold frs
    rw [List.filter_cons]
    by_cases c : d.2.1 = i ∧ d.2.2 = true
    · rw [if_pos ⟨c.1, c.2, h1⟩]
      simp [c.1, c.2]
    · rw [if_neg fun q => c ⟨q.1, q.2.1⟩]
      have : (d.2.1 == i && d.2.2) = false := by
        rw [Bool.eq_false_iff]
        intro q
        simp only [Bool.and_eq_true, beq_iff_eq] at q
        exact c q
      rw [this]
      simp
theorem bla_nodup (i : Nat) : ∀ ds : List Dd, (tk ds).Nodup → bla i ds = las i ds
  | [], _ => rfl
  | d :: r, h => by
    have h : (d.1 :: tk r).Nodup := h
    obtain ⟨h1, h2⟩ := List.nodup_cons.mp h
    rw [bla_cons, bla_nodup i r h2]
    unfold las
    rw [List.filter_cons]
    by_cases c : d.2.1 = i ∧ d.2.2 = false
    · rw [if_pos ⟨c.1, c.2, h1⟩]
      simp [c.1, c.2]
    · rw [if_neg fun q => c ⟨q.1, q.2.1⟩]
      have : (d.2.1 == i && !d.2.2) = false := by
        rw [Bool.eq_false_iff]
        intro q
        simp only [Bool.and_eq_true, beq_iff_eq, Bool.not_eq_true'] at q
        exact c q
      rw [this]
      simp
theorem frs_app (i : Nat) (a b : List Dd) : frs i (a ++ b) = frs i a ++ frs i b := by simp [frs]
theorem las_app (i : Nat) (a b : List Dd) : las i (a ++ b) = las i a ++ las i b := by simp [las]
theorem frs_none (i : Nat) (a : List Dd) (h : ∀ d ∈ a, d.2.1 ≠ i) : frs i a = [] := by
  unfold frs
  rw [List.filter_eq_nil_iff.mpr fun d hd => by simp [h d hd]]
  rfl
theorem las_none (i : Nat) (a : List Dd) (h : ∀ d ∈ a, d.2.1 ≠ i) : las i a = [] := by
  unfold las
  rw [List.filter_eq_nil_iff.mpr fun d hd => by simp [h d hd]]
  rfl
theorem frs_around (i : Nat) (w : List Nat) (sp : Nat × Nat) : frs i (aroundD i w sp) = (w.take sp.1).reverse := by
  unfold aroundD frs
  rw [List.filter_append, List.filter_map, List.filter_map]
  have h1 : ∀ l : List Nat, (l.filter ((fun d : Dd => d.2.1 == i && d.2.2) ∘ fun b => (b, i, true))) = l := fun l => List.filter_eq_self.mpr fun x _ => by simp
  have h2 : ∀ l : List Nat, (l.filter ((fun d : Dd => d.2.1 == i && d.2.2) ∘ fun b => (b, i, false))) = [] := fun l => List.filter_eq_nil_iff.mpr fun x _ => by simp
  rw [h1, h2]
  simp [Function.comp_def]
theorem las_around (i : Nat) (w : List Nat) (sp : Nat × Nat) : las i (aroundD i w sp) = w.drop sp.2 := by
  unfold aroundD las
  rw [List.filter_append, List.filter_map, List.filter_map]
  have h1 : ∀ l : List Nat, (l.filter ((fun d : Dd => d.2.1 == i && !d.2.2) ∘ fun b => (b, i, true))) = [] := fun l => List.filter_eq_nil_iff.mpr fun x _ => by simp
  have h2 : ∀ l : List Nat, (l.filter ((fun d : Dd => d.2.1 == i && !d.2.2) ∘ fun b => (b, i, false))) = l := fun l => List.filter_eq_self.mpr fun x _ => by simp
  rw [h1, h2]
  simp [Function.comp_def]
theorem around_lot (i : Nat) (w : List Nat) (sp : Nat × Nat) : ∀ d ∈ aroundD i w sp, d.2.1 = i := fun d h => by
  unfold aroundD at h
  rcases List.mem_append.mp h with h | h
  · obtain ⟨b, _, rfl⟩ := List.mem_map.mp h; rfl
  · obtain ⟨b, _, rfl⟩ := List.mem_map.mp h; rfl
theorem frs_way : ∀ (zs : List (List Nat × (Nat × Nat))) (k j : Nat) (z : List Nat × (Nat × Nat)), zs[j]? = some z → frs (k + j) (wayK k zs) = (z.1.take z.2.1).reverse ∧ las (k + j) (wayK k zs) = z.1.drop z.2.2
  | [], k, j, z, h => by simp at h
  | y :: r, k, 0, z, h => by
    have h : y = z := by simpa using h
    subst h
    have n : ∀ d ∈ wayK (k + 1) r, d.2.1 ≠ k := fun d hd => by have := (lot_ge r (k + 1) d hd).1; omega
    unfold wayK
    rw [Nat.add_zero, frs_app, las_app, frs_around, las_around, frs_none k _ n, las_none k _ n, List.append_nil, List.append_nil]
    exact ⟨rfl, rfl⟩
  | y :: r, k, j + 1, z, h => by
    have h : r[j]? = some z := by simpa using h
    have n : ∀ d ∈ aroundD k y.1 y.2, d.2.1 ≠ k + (j + 1) := fun d hd => by rw [around_lot k y.1 y.2 d hd]; omega
    unfold wayK
    rw [frs_app, las_app, frs_none _ _ n, las_none _ _ n, List.nil_append, List.nil_append, show k + (j + 1) = k + 1 + j by omega]
    exact frs_way r (k + 1) j z h
theorem flat_mem {L : List (List Nat)} {i : Nat} {a : List Nat} {x : Nat} (h : L[i]? = some a) (hx : x ∈ a) : x ∈ L.flatten :=
  List.mem_flatten.mpr ⟨a, List.mem_of_getElem? h, hx⟩
theorem flat_same : ∀ {L : List (List Nat)} {i j : Nat} {a b : List Nat} {x : Nat}, L.flatten.Nodup → L[i]? = some a → L[j]? = some b → x ∈ a → x ∈ b → i = j
  | [], i, j, a, b, x, _, h, _, _, _ => by simp at h
  | y :: L, 0, 0, _, _, _, _, _, _, _, _ => rfl
  | y :: L, 0, j + 1, a, b, x, hn, h1, h2, h3, h4 => by
    rw [List.flatten_cons, List.nodup_append] at hn
    have h1 : y = a := by simpa using h1
    subst h1
    exact absurd rfl (hn.2.2 x h3 x (flat_mem (by simpa using h2) h4))
  | y :: L, i + 1, 0, a, b, x, hn, h1, h2, h3, h4 => by
    rw [List.flatten_cons, List.nodup_append] at hn
    have h2 : y = b := by simpa using h2
    subst h2
    exact absurd rfl (hn.2.2 x h4 x (flat_mem (by simpa using h1) h3))
  | y :: L, i + 1, j + 1, a, b, x, hn, h1, h2, h3, h4 => by
    rw [List.flatten_cons, List.nodup_append] at hn
    exact congrArg (· + 1) (flat_same hn.2.1 (by simpa using h1) (by simpa using h2) h3 h4)
theorem flat_nodup {L : List (List Nat)} {i : Nat} {a : List Nat} (hn : L.flatten.Nodup) (h : L[i]? = some a) : a.Nodup :=
  (List.sublist_flatten_of_mem (List.mem_of_getElem? h)).nodup hn
theorem parts (w : List Nat) (s p : Nat) (h : s ≤ p) : w.take s ++ (cut w s p ++ w.drop p) = w := by
  unfold cut
  have : w.drop p = (w.drop s).drop (p - s) := by rw [List.drop_drop]; congr 1; omega
  rw [this, List.take_append_drop, List.take_append_drop]
theorem tk_way_mem : ∀ (zs : List (List Nat × (Nat × Nat))) (k : Nat) (x : Nat), x ∈ tk (wayK k zs) ↔ ∃ (j : Nat) (z : List Nat × (Nat × Nat)), zs[j]? = some z ∧ (x ∈ z.1.take z.2.1 ∨ x ∈ z.1.drop z.2.2)
  | [], k, x => by simp [wayK, tk]
  | y :: r, k, x => by
    unfold wayK
    rw [tk_app, List.mem_append, tk_around, List.mem_append, List.mem_reverse, tk_way_mem r (k + 1) x]
    constructor
    · rintro (h | ⟨j, z, h1, h2⟩)
      · exact ⟨0, y, rfl, h⟩
      · exact ⟨j + 1, z, by simpa using h1, h2⟩
    · rintro ⟨j, z, h1, h2⟩
      cases j with
      | zero => have h1 : y = z := by simpa using h1
                subst h1; exact .inl h2
      | succ j => exact .inr ⟨j, z, by simpa using h1, h2⟩
theorem least_sound {pr : Nat → Nat} {fx : Nat → Bool} {ls goal : List (List Nat)} {way : List Dd} (h : leastK pr fx 0 ls goal = some way) (hl : goal.length = ls.length) (hp : goal.flatten.Perm ls.flatten) (hn : ls.flatten.Nodup) :
    runL ls way = goal ∧ (tk way).Nodup ∧ (∀ d ∈ way, d.2.1 < ls.length) ∧ ∀ x ∈ tk way, fx x = false ∧ x ∈ goal.flatten := by
  obtain ⟨zs, rfl, hz, hsp⟩ := least_way pr fx ls goal 0 way hl.symm h
  have hng : goal.flatten.Nodup := hp.symm.nodup hn
  have hlen : zs.length = goal.length := by rw [← hz]; simp
  have at_ : ∀ (i : Nat) (l : List Nat), ls[i]? = some l → ∃ z : List Nat × (Nat × Nat), zs[i]? = some z ∧ goal[i]? = some z.1 ∧ z.2 ∈ splitsL pr fx l z.1 := fun i l hi => by
    have hlt : i < zs.length := by have := (List.getElem?_eq_some_iff.mp hi).1; omega
    refine ⟨zs[i], List.getElem?_eq_getElem hlt, by rw [← hz, List.getElem?_map, List.getElem?_eq_getElem hlt]; rfl, hsp i l _ hi (List.getElem?_eq_getElem hlt)⟩
  have of_ : ∀ (j : Nat) (z : List Nat × (Nat × Nat)), zs[j]? = some z → ∃ l, ls[j]? = some l ∧ goal[j]? = some z.1 ∧ z.2 ∈ splitsL pr fx l z.1 := fun j z hj => by
    have hlt : j < ls.length := by have := (List.getElem?_eq_some_iff.mp hj).1; omega
    obtain ⟨z', e1, e2, e3⟩ := at_ j ls[j] (List.getElem?_eq_getElem hlt)
    rw [hj] at e1
    cases e1
    exact ⟨_, List.getElem?_eq_getElem hlt, e2, e3⟩
  have hle : ∀ z ∈ zs, z.2.1 ≤ z.2.2 := fun z hz' => by
    obtain ⟨j, hj, e⟩ := List.mem_iff_getElem.mp hz'
    obtain ⟨l, _, _, e3⟩ := of_ j z (by rw [List.getElem?_eq_getElem hj, e])
    exact (split_is e3).1
  obtain ⟨X, x1, x2⟩ := tk_way_sub zs 0 hle
  have hnd : (tk (wayK 0 zs)).Nodup := x1.symm.nodup (x2.nodup (by rw [hz]; exact hng))
  -- what lies in a split is not taken
  have out : ∀ (i : Nat) (z : List Nat × (Nat × Nat)) (x : Nat), zs[i]? = some z → x ∈ cut z.1 z.2.1 z.2.2 → x ∉ tk (wayK 0 zs) := fun i z x hi hx hm => by
    obtain ⟨l, _, gi, si⟩ := of_ i z hi
    have pz := parts z.1 z.2.1 z.2.2 (split_is si).1
    have xin : x ∈ z.1 := by rw [← pz]; exact List.mem_append_right _ (List.mem_append_left _ hx)
    obtain ⟨j, y, hj, hy⟩ := (tk_way_mem zs 0 x).mp hm
    obtain ⟨l', _, gj, sj⟩ := of_ j y hj
    have yin : x ∈ y.1 := hy.elim (fun q => List.mem_of_mem_take q) fun q => List.mem_of_mem_drop q
    have e := flat_same hng gi gj xin yin
    subst e
    rw [hi] at hj
    cases hj
    have nz : z.1.Nodup := flat_nodup hng gi
    rw [← pz, List.nodup_append] at nz
    obtain ⟨_, n2, n3⟩ := nz
    rw [List.nodup_append] at n2
    rcases hy with hy | hy
    · exact n3 x hy x (List.mem_append_left _ hx) rfl
    · exact n2.2.2 x hx x hy rfl
  refine ⟨?_, hnd, fun d hd => by have := (lot_ge zs 0 d hd).2; omega, fun x hx => ?_⟩
  · refine List.ext_getElem? fun i => ?_
    rw [run_at]
    cases hi : ls[i]? with
    | none =>
      have : goal[i]? = none := by
        rw [List.getElem?_eq_none_iff] at hi ⊢
        omega
      rw [this]; rfl
    | some l =>
      obtain ⟨z, e1, e2, e3⟩ := at_ i l hi
      obtain ⟨k1, k2, k3, k4⟩ := split_is e3
      obtain ⟨f1, f2⟩ := frs_way zs 0 i z e1
      rw [Nat.zero_add] at f1 f2
      rw [e2, Option.map_some, afr_nodup i _ hnd, bla_nodup i _ hnd, f1, f2, List.reverse_reverse]
      have hr : rest (wayK 0 zs) l = cut z.1 z.2.1 z.2.2 := by
        unfold stand at k3
        rw [beq_iff_eq] at k3
        refine Eq.trans (List.filter_congr fun x hx => ?_) k3
        by_cases hc : x ∈ cut z.1 z.2.1 z.2.2
        · simp [hc, out i z x e1 hc]
        · simp only [hc, decide_false, decide_eq_false_iff_not, Decidable.not_not]
          have xg : x ∈ goal.flatten := hp.mem_iff.mpr (flat_mem hi hx)
          obtain ⟨w, hw, xw⟩ := List.mem_flatten.mp xg
          obtain ⟨j, hj, ej⟩ := List.mem_iff_getElem.mp hw
          have hj' : zs[j]? = some zs[j] := List.getElem?_eq_getElem (by omega)
          obtain ⟨l', lj, gj, sj⟩ := of_ j _ hj'
          have hwj : zs[j].1 = w := by
            rw [List.getElem?_eq_getElem hj, ej] at gj
            exact (Option.some.inj gj).symm
          rw [← hwj, ← parts zs[j].1 zs[j].2.1 zs[j].2.2 (split_is sj).1] at xw
          rcases List.mem_append.mp xw with q | q
          · exact (tk_way_mem zs 0 x).mpr ⟨j, _, hj', .inl q⟩
          · rcases List.mem_append.mp q with q | q
            · have st := (split_is sj).2.2.1
              unfold stand at st
              rw [beq_iff_eq] at st
              have xl : x ∈ l' := by
                rw [← st] at q
                exact (List.mem_filter.mp q).1
              have e := flat_same hn hi lj hx xl
              subst e
              have hz2 := Option.some.inj (hj'.symm.trans e1)
              rw [hz2] at q
              exact absurd q hc
            · exact (tk_way_mem zs 0 x).mpr ⟨j, _, hj', .inr q⟩
      rw [hr, parts z.1 z.2.1 z.2.2 k1]
  · obtain ⟨j, z, hj, hz'⟩ := (tk_way_mem zs 0 x).mp hx
    obtain ⟨l, lj, gj, sj⟩ := of_ j z hj
    have xin : x ∈ z.1 := hz'.elim (fun q => List.mem_of_mem_take q) fun q => List.mem_of_mem_drop q
    refine ⟨?_, flat_mem gj xin⟩
    refine Bool.eq_false_iff.mpr fun hfx => ?_
    have k4 := (split_is sj).2.2.2
    have : x ∈ z.1.filter fx := List.mem_filter.mpr ⟨xin, hfx⟩
    rw [← k4] at this
    exact out j z x hj (List.mem_filter.mp this).1 hx
end Q
/-! part C1 -/
set_option Elab.async false
set_option linter.all false
set_option maxRecDepth 100000
set_option maxHeartbeats 2000000
namespace Q
open PySem PySem.Spec L2
open Pf
structure Stt where
  ns : List Int
  k : Nat
  m : Int
  r : Int
def enc (s : Stt) : List PyData := [.list (s.ns.map PyData.int), .int s.k, .int s.m, .int s.r]
theorem drawn_rest (s : Stt) (n : Nat) (hn : 0 < n) (hb : n < 1073741824) (hr : 0 < s.r) : m__law_drawn (enc s) [.int n] = some (.ok (.int (s.r.fmod n), enc { s with r := s.r.fdiv n })) := by
  have h1 : (cmpD fun i j => decide (j < i)) (.int s.r) (.int 0) = some true := by simp [cmpD, hr]
  have h2 : modD (.int s.r) (.int n) = some (.int (s.r.fmod n)) := by
    have : ¬ ((n : Int) = 0) := by omega
    simp [modD]; omega
  have h3 : divD (.int s.r) (.int n) = some (.int (s.r.fdiv n)) := by
    have : ¬ ((n : Int) = 0) := by omega
    simp [divD]; omega
  simp only [m__law_drawn, fnB, G__law_drawn, envB, enc]
  simp [gSeq, gE, gIfS, gTst, M.bd, M.opt, gIxP, gPeek, gC, M.ok, M.no, atI, ixN, gN, gSet, gSt, gBin, gRet, gRt, gSetIx, gHeld, gPut, putS, gNx, gBlt, Pf.gCons, Pf.gNil, gIf, h1, h2, h3]
theorem drawn_cell (s : Stt) (n : Nat) (c : Int) (hn : 0 < n) (hb : n < 1073741824) (hr : s.r ≤ 0) (hc : s.ns[s.k]? = some c) : m__law_drawn (enc s) [.int n] = some (.ok (.int (c.fmod n), enc { s with k := s.k + 1, r := if 1000000000000000000 ≤ c then c.fdiv n else 0 })) := by
  have h1 : (cmpD fun i j => decide (j < i)) (.int s.r) (.int 0) = some false := by simp [cmpD]; omega
  have hl : s.k < s.ns.length := (List.getElem?_eq_some_iff.mp hc).1
  have h2 : modD (.int c) (.int n) = some (.int (c.fmod n)) := by simp [modD]; omega
  have h3 : divD (.int c) (.int n) = some (.int (c.fdiv n)) := by simp [divD]; omega
  have h4 : addD (.int s.k) (.int 1) = some (.int ((s.k : Int) + 1)) := rfl
  have h5 : lenK [.list (s.ns.map PyData.int)] = some (.int s.ns.length) := by simp [lenK, lenD]
  have h6 : (cmpD fun i j => decide (i ≤ j)) (.int ((s.k : Int) + 1)) (.int s.ns.length) = some true := by simp [cmpD]; omega
  have h7 : subD (.int ((s.k : Int) + 1)) (.int 1) = some (.int s.k) := by simp [subD]
  have h8 : atD (.list (s.ns.map PyData.int)) (.int s.k) = some (.int c) := by
    show L2.atI _ _ = _
    exact atI_nat (by rw [List.getElem?_map, hc]; rfl)
  have h9 : powD (.int 10) (.int 18) = some (.int 1000000000000000000) := by simp [powD]
  by_cases hbig : 1000000000000000000 ≤ c
  · have h10 : (cmpD fun i j => decide (j ≤ i)) (.int c) (.int 1000000000000000000) = some true := by simp [cmpD, hbig]
    simp only [m__law_drawn, fnB, G__law_drawn, envB, enc]
    simp [gSeq, gE, gIfS, gTst, M.bd, M.opt, gIxP, gPeek, gC, M.ok, M.no, atI, ixN, gN, gSet, gSt, gBin, gRet, gRt, gSetIx, gHeld, gPut, putS, gNx, gBlt, Pf.gCons, Pf.gNil, gIf, h1, h2, h3, h4, h5, h6, h7, h8, h9, h10, hbig]
  · have h10 : (cmpD fun i j => decide (j ≤ i)) (.int c) (.int 1000000000000000000) = some false := by simp [cmpD, hbig]
    simp only [m__law_drawn, fnB, G__law_drawn, envB, enc]
    simp [gSeq, gE, gIfS, gTst, M.bd, M.opt, gIxP, gPeek, gC, M.ok, M.no, atI, ixN, gN, gSet, gSt, gBin, gRet, gRt, gSetIx, gHeld, gPut, putS, gNx, gBlt, Pf.gCons, Pf.gNil, gIf, h1, h2, h3, h4, h5, h6, h7, h8, h9, h10, hbig]
theorem drawn_mix (s : Stt) (n : Nat) (hn : 0 < n) (hb : n < 1073741824) (hr : s.r ≤ 0) (hc : s.ns.length ≤ s.k) : m__law_drawn (enc s) [.int n] = some (.ok (.int (((s.m * 48271 + 11).fmod 2147483647).fdiv 7 |>.fmod n), enc { s with k := s.k + 1, m := (s.m * 48271 + 11).fmod 2147483647 })) := by
  have h1 : (cmpD fun i j => decide (j < i)) (.int s.r) (.int 0) = some false := by simp [cmpD]; omega
  have h2 : ∀ c : Int, modD (.int c) (.int n) = some (.int (c.fmod n)) := fun c => by simp [modD]; omega
  have h3 : ∀ c : Int, divD (.int c) (.int 7) = some (.int (c.fdiv 7)) := fun c => by simp [divD]
  have h4 : addD (.int s.k) (.int 1) = some (.int ((s.k : Int) + 1)) := rfl
  have h5 : lenK [.list (s.ns.map PyData.int)] = some (.int s.ns.length) := by simp [lenK, lenD]
  have h6 : (cmpD fun i j => decide (i ≤ j)) (.int ((s.k : Int) + 1)) (.int s.ns.length) = some false := by simp [cmpD]; omega
  have h7 : mulD (.int s.m) (.int 48271) = some (.int (s.m * 48271)) := by simp [mulD]
  have h8 : ∀ c : Int, addD (.int c) (.int 11) = some (.int (c + 11)) := fun c => rfl
  have h9 : ∀ c : Int, modD (.int c) (.int 2147483647) = some (.int (c.fmod 2147483647)) := fun c => by simp [modD]
  simp only [m__law_drawn, fnB, G__law_drawn, envB, enc]
  simp [gSeq, gE, gIfS, gTst, M.bd, M.opt, gIxP, gPeek, gC, M.ok, M.no, atI, ixN, gN, gSet, gSt, gBin, gRet, gRt, gSetIx, gHeld, gPut, putS, gNx, gBlt, Pf.gCons, Pf.gNil, gIf, h1, h2, h3, h4, h5, h6, h7, h8, h9]
theorem fmod_nat (c : Int) (n : Nat) (hn : 0 < n) : ∃ d : Nat, d < n ∧ c.fmod n = d := by
  have h1 : 0 ≤ c.fmod n := Int.fmod_nonneg_of_pos _ (by omega)
  have h2 : c.fmod n < n := Int.fmod_lt_of_pos _ (by omega)
  exact ⟨(c.fmod n).toNat, by omega, by omega⟩
theorem drawn_ok (s : Stt) (n : Nat) (hn : 0 < n) (hb : n < 1073741824) : ∃ (d : Nat) (s' : Stt), d < n ∧ m__law_drawn (enc s) [.int n] = some (.ok (.int d, enc s')) := by
  by_cases hr : 0 < s.r
  · obtain ⟨d, h1, h2⟩ := fmod_nat s.r n hn
    exact ⟨d, _, h1, by rw [drawn_rest s n hn hb hr, h2]⟩
  · by_cases hk : s.k < s.ns.length
    · obtain ⟨d, h1, h2⟩ := fmod_nat s.ns[s.k] n hn
      exact ⟨d, _, h1, by rw [drawn_cell s n s.ns[s.k] hn hb (by omega) (List.getElem?_eq_getElem hk), h2]⟩
    · obtain ⟨d, h1, h2⟩ := fmod_nat (((s.m * 48271 + 11).fmod 2147483647).fdiv 7) n hn
      exact ⟨d, _, h1, by rw [drawn_mix s n hn hb (by omega) (by omega), h2]⟩
def startB : S := gSet 1 (gBin modD (gBin addD (gBin addD (gBin mulD (gN 1) (gC (.int 48271))) (gN 2)) (gC (.int 7))) (gC (.int 2147483647)))
theorem start_loop : ∀ (ms : List Int) (m : Int) (x : Sl) (d0 : PyData), ∃ m' y, loopL (bN 2) startB (ms.map PyData.int) [.val d0, .val (.int m), x] = some (.nx [.val d0, .val (.int m'), y])
  | [], m, x, d0 => ⟨m, x, rfl⟩
  | c :: ms, m, x, d0 => by
    have h7 : mulD (.int m) (.int 48271) = some (.int (m * 48271)) := by simp [mulD]
    have h8 : ∀ c d : Int, addD (.int c) (.int d) = some (.int (c + d)) := fun c d => rfl
    have h9 : ∀ c : Int, modD (.int c) (.int 2147483647) = some (.int (c.fmod 2147483647)) := fun c => by simp [modD]
    obtain ⟨m', y, e⟩ := start_loop ms ((m * 48271 + c + 7).fmod 2147483647) (.val (.int c)) d0
    refine ⟨m', y, ?_⟩
    simp only [List.map_cons, loopL]
    have e1 : startB [.val d0, .val (.int m), .val (.int c)] = some (.nx [.val d0, .val (.int ((m * 48271 + c + 7).fmod 2147483647)), .val (.int c)]) := by
      unfold startB
      simp [gSeq, gE, gIfS, gTst, M.bd, M.opt, gIxP, gPeek, gC, M.ok, M.no, atI, ixN, gN, gSet, gSt, gBin, gRet, gRt, gSetIx, gHeld, gPut, putS, gNx, gBlt, Pf.gCons, Pf.gNil, gIf, h7, h8, h9]
    simp [bN, e1, e]
theorem start_ok (ns : List Int) : ∃ m, m__law_start [.list (ns.map PyData.int)] = some (.ok (enc ⟨ns, 0, m, 0⟩)) := by
  obtain ⟨m', y, e⟩ := start_loop ns 1 .no (.list (ns.map PyData.int))
  refine ⟨m', ?_⟩
  have eG : G__law_start = gSeq (gSet 1 (gC (.int 1))) (gSeq (gForL (gN 0) (bN 2) startB) (gRetO (Pf.gLst (Pf.gCons (gN 0) (Pf.gCons (gC (.int 0)) (Pf.gCons (gN 1) (Pf.gCons (gC (.int 0)) Pf.gNil))))))) := rfl
  simp only [m__law_start, fnO, envD]
  rw [eG]
  simp [gSeq, gE, gIfS, gTst, M.bd, M.opt, gIxP, gPeek, gC, M.ok, M.no, atI, ixN, gN, gSet, gSt, gBin, gRet, gRt, gSetIx, gHeld, gPut, putS, gNx, gBlt, Pf.gCons, Pf.gNil, gIf, gForL, e, enc, Pf.gLst, lstD, gRetO, gRo]
end Q
/-! part C2 -/
set_option Elab.async false
set_option linter.all false
set_option maxRecDepth 100000
set_option maxHeartbeats 2000000
namespace Q
open PySem PySem.Spec L2
open Pf
def okD (k : Nat) (d : PyData) : Prop := d.canLay0 = true ∧ d.depth ≤ k
theorem okD.shaped {k : Nat} {d : PyData} (h : okD k d) (hk : k ≤ 64) : SeqAt.shaped d = true := by
  unfold SeqAt.shaped
  rw [h.1, Bool.true_and]
  exact decide_eq_true (Nat.le_trans h.2 hk)
theorem okD.mono {k j : Nat} {d : PyData} (h : okD k d) (hk : k ≤ j) : okD j d := ⟨h.1, Nat.le_trans h.2 hk⟩
theorem okD_int {k : Nat} (i : Int) : okD k (.int i) := ⟨by simp [PyData.canLay0], by simp [PyData.depth]⟩
theorem canAll : ∀ {xs : List PyData}, (∀ x ∈ xs, x.canLay0 = true) → PyData.canLayAll0 xs = true
  | [], _ => by simp [PyData.canLayAll0]
  | x :: r, h => by simp [PyData.canLayAll0, h x List.mem_cons_self, canAll fun y hy => h y (List.mem_cons_of_mem _ hy)]
theorem depAll {k : Nat} : ∀ {xs : List PyData}, (∀ x ∈ xs, x.depth ≤ k) → PyData.depthAll xs ≤ k
  | [], _ => by simp [PyData.depthAll]
  | x :: r, h => by
    have h1 := h x List.mem_cons_self
    have h2 := depAll (k := k) fun y hy => h y (List.mem_cons_of_mem _ hy)
    simp only [PyData.depthAll]
    omega
theorem okD_list {k : Nat} {xs : List PyData} (h : ∀ x ∈ xs, okD k x) : okD (k + 1) (.list xs) := ⟨by simp [PyData.canLay0, canAll fun x hx => (h x hx).1], by
  have := depAll fun x hx => (h x hx).2
  simp only [PyData.depth]
  omega⟩
theorem okD_tuple {k : Nat} {xs : List PyData} (h : ∀ x ∈ xs, okD k x) : okD (k + 1) (.tuple xs) := ⟨by simp [PyData.canLay0, canAll fun x hx => (h x hx).1], by
  have := depAll fun x hx => (h x hx).2
  simp only [PyData.depth]
  omega⟩
theorem eqD_ok {k j : Nat} {a b : PyData} (ha : okD k a) (hb : okD j b) (hk : k ≤ 64) (hj : j ≤ 64) : eqD a b = some (PyData.eqv a b) := by
  unfold eqD; rw [if_pos ⟨ha.shaped hk, hb.shaped hj⟩]
theorem neD_ok {k j : Nat} {a b : PyData} (ha : okD k a) (hb : okD j b) (hk : k ≤ 64) (hj : j ≤ 64) : neD a b = some (!PyData.eqv a b) := by
  unfold neD; rw [if_pos ⟨ha.shaped hk, hb.shaped hj⟩]
abbrev nats (l : List Nat) : List PyData := l.map fun (x : Nat) => PyData.int (x : Int)
theorem nats_ok {k : Nat} {l : List Nat} : ∀ x ∈ nats l, okD k x := fun x hx => by
  obtain ⟨y, _, rfl⟩ := List.mem_map.mp hx
  exact okD_int _
theorem nats_len (l : List Nat) : (nats l).length = l.length := List.length_map ..
theorem nats_at {l : List Nat} {d : Nat} (h : d < l.length) : (nats l)[d]? = some (.int (l[d] : Nat)) := by
  show (l.map _)[d]? = _
  rw [List.getElem?_map, List.getElem?_eq_getElem h]; rfl
theorem map_erase {α β : Type} (f : α → β) : ∀ (l : List α) (d : Nat), (l.map f).eraseIdx d = (l.eraseIdx d).map f
  | [], d => by simp
  | a :: l, 0 => by simp
  | a :: l, d + 1 => by simp [map_erase f l d]
theorem nats_ne {l : List Nat} : neD (.list (nats l)) (.list []) = some (!l.isEmpty) := by
  rw [neD_ok (k := 1) (j := 1) (okD_list nats_ok) (okD_list (k := 0) (by simp)) (by decide) (by decide)]
  cases l with
  | nil => simp [PyData.eqv, PyData.eqvAll, nats]
  | cons a r => simp [PyData.eqv, PyData.eqvAll, nats]
def turnT : M Bool := gTstL neD 2 (gFz (Pf.gLst Pf.gNil))
def turnP : M PyData := gCallB 0 (Pf.gCons (gLenP 2) Pf.gNil) m__law_drawn
def turnB : S := gApp 3 (gPopAt 2 turnP)
theorem turn_test (s : Stt) (n : Int) (L A : List Nat) : turnT [.bor (enc s), .val (.int n), .own (nats L), .own (nats A)] = some (.ok (!L.isEmpty, [.bor (enc s), .val (.int n), .own (nats L), .own (nats A)])) := by
  have h := nats_ne (l := L)
  unfold turnT gTstL
  have e1 : gLk 2 [.bor (enc s), .val (.int n), .own (nats L), .own (nats A)] = some (.ok (.list (nats L), [.bor (enc s), .val (.int n), .own (nats L), .own (nats A)])) := rfl
  have e2 : gFz (Pf.gLst Pf.gNil) [.bor (enc s), .val (.int n), .own (nats L), .own (nats A)] = some (.ok (.list [], [.bor (enc s), .val (.int n), .own (nats L), .own (nats A)])) := rfl
  rw [bd_ok e1, bd_ok e2, bd_ok e1]
  exact opt_ok h
theorem turn_body (s : Stt) (n : Int) (L A : List Nat) (hL : 0 < L.length) (hl : L.length < 1000) (ha : A.length < 1000) : ∃ (s' : Stt) (d : Nat) (hd : d < L.length), turnB [.bor (enc s), .val (.int n), .own (nats L), .own (nats A)] = some (.nx [.bor (enc s'), .val (.int n), .own (nats (L.eraseIdx d)), .own (nats (A ++ [L[d]]))]) := by
  obtain ⟨d, s', hd, e⟩ := drawn_ok s L.length hL (by omega)
  refine ⟨s', d, hd, ?_⟩
  have e1 : turnP [.bor (enc s), .val (.int n), .own (nats L), .own (nats A)] = some (.ok (.int d, [.bor (enc s'), .val (.int n), .own (nats L), .own (nats A)])) := by
    unfold turnP
    refine callB_bor (st := enc s) (ds := enc s) rfl (as := [.int (L.length : Nat)]) (env1 := [.bor (enc s), .val (.int n), .own (nats L), .own (nats A)]) ?_ rfl e
    show M.bd _ _ _ = _
    rw [bd_ok (lenP_own (ds := nats L) rfl), nats_len]
    rfl
  have e2 : gPopAt 2 turnP [.bor (enc s), .val (.int n), .own (nats L), .own (nats A)] = some (.ok (.int (L[d] : Nat), [.bor (enc s'), .val (.int n), .own (nats (L.eraseIdx d)), .own (nats A)])) := by
    rw [popAt_own (ds := nats L) (ds1 := nats L) rfl e1 rfl (by rw [nats_len]; exact hd) (by rw [nats_len]; omega) (nats_at hd)]
    rw [show (nats L).eraseIdx d = nats (L.eraseIdx d) from map_erase _ L d]
    rfl
  unfold turnB
  rw [app_own (ds := nats A) (ds1 := nats A) rfl e2 rfl (by rw [nats_len]; omega)]
  rw [show nats A ++ [.int (L[d] : Nat)] = nats (A ++ [L[d]]) by simp [nats]]
  rfl
theorem erase_perm {α : Type} : ∀ (l : List α) (d : Nat) (h : d < l.length), (l[d] :: l.eraseIdx d).Perm l
  | a :: l, 0, _ => List.Perm.refl _
  | a :: l, d + 1, h => by
    have ih := erase_perm l d (by simpa using h)
    simp only [List.getElem_cons_succ, List.eraseIdx_cons_succ]
    exact (List.Perm.swap a _ _).trans (ih.cons a)
theorem turn_loop : ∀ (f : Nat) (s : Stt) (n : Int) (L A : List Nat), L.length < f → L.length + A.length < 1000 → ∃ (s' : Stt) (P : List Nat), P.Perm L ∧ loopW turnT turnB f [.bor (enc s), .val (.int n), .own (nats L), .own (nats A)] = some (.nx [.bor (enc s'), .val (.int n), .own [], .own (nats (A ++ P))])
  | 0, _, _, _, _, h, _ => absurd h (Nat.not_lt_zero _)
  | f + 1, s, n, L, A, h, hl => by
    cases L with
    | nil =>
      refine ⟨s, [], List.Perm.refl _, ?_⟩
      show gE turnT _ _ = _
      rw [gE_ok (turn_test s n [] A)]
      simp [gNx, nats]
    | cons x r =>
      obtain ⟨s1, d, hd, e1⟩ := turn_body s n (x :: r) A (by simp) (by simp only [List.length_cons] at *; omega) (by simp only [List.length_cons] at *; omega)
      have hlen : ((x :: r).eraseIdx d).length = r.length := by rw [List.length_eraseIdx, if_pos hd]; simp
      obtain ⟨s', P, hP, e2⟩ := turn_loop f s1 n ((x :: r).eraseIdx d) (A ++ [(x :: r)[d]]) (by rw [hlen]; simp only [List.length_cons] at h; omega) (by rw [hlen]; simp only [List.length_cons, List.length_append, List.length_nil] at *; omega)
      refine ⟨s', (x :: r)[d] :: P, (hP.cons _).trans (erase_perm _ d hd), ?_⟩
      show gE turnT _ _ = _
      rw [gE_ok (turn_test s n (x :: r) A)]
      simp only [List.isEmpty_cons, Bool.not_false, if_true, e1]
      rw [e2, List.append_assoc]
      rfl
theorem rng_nats (n : Nat) : rngD 0 n = nats (List.range n) := by
  unfold rngD nats
  refine List.map_congr_left fun a _ => ?_
  rw [Int.zero_add]
theorem turned_ok (s : Stt) (n : Nat) (hn : n < 90) : ∃ (s' : Stt) (P : List Nat), P.Perm (List.range n) ∧ m__law_turned (enc s) [.int n] = some (.ok (nats P, enc s')) := by
  obtain ⟨s', P, hP, e⟩ := turn_loop 100 s n (List.range n) [] (by rw [List.length_range]; omega) (by rw [List.length_range]; simp; omega)
  refine ⟨s', P, hP, ?_⟩
  have eG : G__law_turned = gSeq (gParOO 2 3 (gListR (gN 1)) (Pf.gLst Pf.gNil)) (gSeq (loopW turnT turnB 100) (gRetO (gNO 3))) := rfl
  have e1 : gParOO 2 3 (gListR (gN 1)) (Pf.gLst Pf.gNil) [.bor (enc s), .val (.int n), .no, .no] = some (.nx [.bor (enc s), .val (.int n), .own (nats (List.range n)), .own (nats [])]) := by
    have z : gListR (gN 1) [.bor (enc s), .val (.int n), .no, .no] = some (.ok (nats (List.range n), [.bor (enc s), .val (.int n), .no, .no])) := by
      rw [← rng_nats]
      show M.bd _ _ _ = _
      rw [bd_ok (n_val (d := .int n) rfl)]
      refine opt_ok ?_
      show (if 0 ≤ (n : Int) ∧ (n : Int) ≤ 16777216 then some (rngD 0 (n : Int).toNat) else none) = _
      rw [if_pos (by omega)]
      simp
    unfold gParOO
    rw [gE_ok z]
    rfl
  unfold m__law_turned fnBO
  show (match G__law_turned [.bor (enc s), .val (.int n), .no, .no] with
    | some (.ro es (.bor st' :: _)) => (some (Except.ok (es, st')) : Rf (List PyData × List PyData))
    | _ => none) = _
  rw [eG, seq_nx e1, seq_nx e]
  simp [gRetO, gE, gNO, gRo]
end Q
/-! part C3 -/
set_option Elab.async false
set_option linter.all false
set_option maxRecDepth 100000
set_option maxHeartbeats 2000000
namespace Q
open PySem PySem.Spec L2
open Pf
abbrev lotsD (ls : List (List Nat)) : List PyData := ls.map fun l => PyData.tuple (nats l)
theorem lotsD_len (ls : List (List Nat)) : (lotsD ls).length = ls.length := List.length_map ..
theorem lotsD_at {ls : List (List Nat)} {k : Nat} (h : k < ls.length) : (lotsD ls)[k]? = some (.tuple (nats ls[k])) := by
  show (ls.map _)[k]? = _
  rw [List.getElem?_map, List.getElem?_eq_getElem h]; rfl
theorem lotsD_set (ls : List (List Nat)) (k : Nat) (l : List Nat) : (lotsD ls).set k (.tuple (nats l)) = lotsD (ls.set k l) := by
  exact (List.map_set (f := fun l => PyData.tuple (nats l))).symm
theorem flat_set : ∀ (ls : List (List Nat)) (k : Nat) (h : k < ls.length) (b : Nat), (ls.set k (ls[k] ++ [b])).flatten.Perm (b :: ls.flatten)
  | l :: r, 0, _, b => by
    simp only [List.set_cons_zero, List.getElem_cons_zero, List.flatten_cons]
    rw [List.append_assoc, List.singleton_append]
    exact List.perm_middle
  | l :: r, k + 1, h, b => by
    simp only [List.set_cons_succ, List.getElem_cons_succ, List.flatten_cons]
    exact ((flat_set r k (by simpa using h) b).append_left l).trans List.perm_middle
theorem mem_len {ls : List (List Nat)} {k : Nat} (h : k < ls.length) : ls[k].length ≤ ls.flatten.length := by
  have : ls[k].Sublist ls.flatten := List.sublist_flatten_of_mem (List.getElem_mem h)
  exact this.length_le
def lotB : S := gSeq (gSet 5 (gCallB 0 (Pf.gCons (gN 2) Pf.gNil) m__law_drawn)) (gSetIx 3 (gBin addD (gIxP 3 (gN 5)) (Pf.gTup (Pf.gCons (gN 4) Pf.gNil))) (gN 5))
theorem lot_body (s : Stt) (n : Int) (c : Nat) (ls : List (List Nat)) (b : Nat) (x : Sl) (hc : 0 < c) (hcb : c < 1000) (hlen : ls.length = c) (hl : ls.flatten.length < 1000) :
    ∃ (s' : Stt) (k : Nat) (hk : k < ls.length), lotB [.bor (enc s), .val (.int n), .val (.int c), .own (lotsD ls), .val (.int b), x] = some (.nx [.bor (enc s'), .val (.int n), .val (.int c), .own (lotsD (ls.set k (ls[k] ++ [b]))), .val (.int b), .val (.int k)]) := by
  obtain ⟨k, s', hk, e⟩ := drawn_ok s c hc (by omega)
  have hkl : k < ls.length := by omega
  refine ⟨s', k, hkl, ?_⟩
  have e1 : gSet 5 (gCallB 0 (Pf.gCons (gN 2) Pf.gNil) m__law_drawn) [.bor (enc s), .val (.int n), .val (.int c), .own (lotsD ls), .val (.int b), x] = some (.nx [.bor (enc s'), .val (.int n), .val (.int c), .own (lotsD ls), .val (.int b), .val (.int k)]) := by
    have z : gCallB 0 (Pf.gCons (gN 2) Pf.gNil) m__law_drawn [.bor (enc s), .val (.int n), .val (.int c), .own (lotsD ls), .val (.int b), x] = some (.ok (.int k, [.bor (enc s'), .val (.int n), .val (.int c), .own (lotsD ls), .val (.int b), x])) :=
      callB_bor (st := enc s) (ds := enc s) rfl (as := [.int c]) (env1 := [.bor (enc s), .val (.int n), .val (.int c), .own (lotsD ls), .val (.int b), x]) rfl rfl e
    show gE _ _ _ = _
    rw [gE_ok z]
    rfl
  unfold lotB
  rw [seq_nx e1]
  have hs := sizeLine_eq
  have hm := mem_len hkl
  have e2 : addD (.tuple (nats ls[k])) (.tuple [.int b]) = some (.tuple (nats (ls[k] ++ [b]))) := by
    show (if (nats ls[k]).length + 1 ≤ sizeLine then some (PyData.tuple (nats ls[k] ++ [.int b])) else none) = _
    rw [if_pos (by rw [nats_len]; omega)]
    simp [nats]
  have e3 : gBin addD (gIxP 3 (gN 5)) (Pf.gTup (Pf.gCons (gN 4) Pf.gNil)) [.bor (enc s'), .val (.int n), .val (.int c), .own (lotsD ls), .val (.int b), .val (.int k)] = some (.ok (.tuple (nats (ls[k] ++ [b])), [.bor (enc s'), .val (.int n), .val (.int c), .own (lotsD ls), .val (.int b), .val (.int k)])) := by
    show M.bd _ _ _ = _
    rw [bd_ok (ixP_own (ds := lotsD ls) (ds1 := lotsD ls) (k := k) rfl rfl rfl (lotsD_at hkl))]
    have z : Pf.gTup (Pf.gCons (gN 4) Pf.gNil) [.bor (enc s'), .val (.int n), .val (.int c), .own (lotsD ls), .val (.int b), .val (.int k)] = some (.ok (.tuple [.int b], [.bor (enc s'), .val (.int n), .val (.int c), .own (lotsD ls), .val (.int b), .val (.int k)])) := rfl
    rw [bd_ok z]
    exact opt_ok e2
  rw [setIx_own (ds := lotsD ls) (ds1 := lotsD ls) (k := k) e3 rfl rfl rfl (by rw [lotsD_len]; exact hkl), lotsD_set]
  rfl
theorem lot_loop : ∀ (B : List Nat) (s : Stt) (n : Int) (c : Nat) (ls : List (List Nat)) (x y : Sl), 0 < c → c < 1000 → ls.length = c → ls.flatten.length + B.length < 1000 →
    ∃ (s' : Stt) (ls' : List (List Nat)) (x' y' : Sl), ls'.length = c ∧ ls'.flatten.Perm (B ++ ls.flatten) ∧ loopL (bN 4) lotB (nats B) [.bor (enc s), .val (.int n), .val (.int c), .own (lotsD ls), x, y] = some (.nx [.bor (enc s'), .val (.int n), .val (.int c), .own (lotsD ls'), x', y'])
  | [], s, n, c, ls, x, y, _, _, hl, _ => ⟨s, ls, x, y, hl, List.Perm.refl _, rfl⟩
  | b :: B, s, n, c, ls, x, y, hc, hcb, hlen, hl => by
    obtain ⟨s1, k, hk, e1⟩ := lot_body s n c ls b y hc hcb hlen (by omega)
    have hp := flat_set ls k hk b
    have hpl := hp.length_eq
    simp only [List.length_cons] at hpl hl
    obtain ⟨s', ls', x', y', h1, h2, e2⟩ := lot_loop B s1 n c (ls.set k (ls[k] ++ [b])) (.val (.int b)) (.val (.int k)) hc hcb (by rw [List.length_set]; exact hlen) (by omega)
    refine ⟨s', ls', x', y', h1, h2.trans ((hp.append_left B).trans List.perm_middle), ?_⟩
    show (match (bN 4 (.int b) [.bor (enc s), .val (.int n), .val (.int c), .own (lotsD ls), x, y]) with
      | none => none
      | some env1 => match lotB env1 with
        | some (.nx env2) => loopL (bN 4) lotB (nats B) env2
        | some (.ct env2) => loopL (bN 4) lotB (nats B) env2
        | some (.bk env2) => some (.nx env2)
        | o => o) = _
    show (match lotB [.bor (enc s), .val (.int n), .val (.int c), .own (lotsD ls), .val (.int b), y] with
        | some (.nx env2) => loopL (bN 4) lotB (nats B) env2
        | some (.ct env2) => loopL (bN 4) lotB (nats B) env2
        | some (.bk env2) => some (.nx env2)
        | o => o) = _
    rw [e1]
    exact e2
theorem lots_ok (s : Stt) (n c : Nat) (hn : n < 90) (hc : 0 < c) (hcb : c < 100) : ∃ (s' : Stt) (ls : List (List Nat)), ls.length = c ∧ ls.flatten.Perm (List.range n) ∧ m__law_lots (enc s) [.int n, .int c] = some (.ok (.tuple (lotsD ls), enc s')) := by
  obtain ⟨s1, P, hP, e1⟩ := turned_ok s n hn
  have hf : (List.replicate c ([] : List Nat)).flatten = [] := by simp
  obtain ⟨s', ls, x', y', h1, h2, e2⟩ := lot_loop P s1 n c (List.replicate c []) .no .no hc (by omega) (by simp) (by rw [hf, hP.length_eq, List.length_range]; simp; omega)
  rw [hf, List.append_nil] at h2
  refine ⟨s', ls, h1, h2.trans hP, ?_⟩
  have eG : G__law_lots = gSeq (gSetO 3 (gRep (Pf.gLst (Pf.gCons (Pf.gTup Pf.gNil) Pf.gNil)) (gN 2))) (gSeq (gForL (gFz (gCallB 0 (Pf.gCons (gN 1) Pf.gNil) m__law_turned)) (bN 4) lotB) (gRet (gBlt tupK (Pf.gCons (gN 3) Pf.gNil)))) := rfl
  have a1 : gSetO 3 (gRep (Pf.gLst (Pf.gCons (Pf.gTup Pf.gNil) Pf.gNil)) (gN 2)) [.bor (enc s), .val (.int n), .val (.int c), .no, .no, .no] = some (.nx [.bor (enc s), .val (.int n), .val (.int c), .own (lotsD (List.replicate c [])), .no, .no]) := by
    have r1 : repD [.tuple []] (.int c) = some (lotsD (List.replicate c [])) := by
      rw [repD_nat (by simp; omega) (by omega)]
      have key : ∀ c : Nat, (List.replicate c [PyData.tuple []]).flatten = lotsD (List.replicate c []) := fun c => by
        induction c with
        | zero => rfl
        | succ c ih => rw [List.replicate_succ, List.flatten_cons, ih]; rfl
      rw [key]
    have z0 : Pf.gLst (Pf.gCons (Pf.gTup Pf.gNil) Pf.gNil) [.bor (enc s), .val (.int n), .val (.int c), .no, .no, .no] = some (.ok ([.tuple []], [.bor (enc s), .val (.int n), .val (.int c), .no, .no, .no])) := rfl
    have z : gRep (Pf.gLst (Pf.gCons (Pf.gTup Pf.gNil) Pf.gNil)) (gN 2) [.bor (enc s), .val (.int n), .val (.int c), .no, .no, .no] = some (.ok (lotsD (List.replicate c []), [.bor (enc s), .val (.int n), .val (.int c), .no, .no, .no])) := by
      show M.bd _ _ _ = _
      rw [bd_ok z0, bd_ok (n_val (d := .int c) rfl)]
      exact opt_ok r1
    show gE _ _ _ = _
    rw [gE_ok z]
    rfl
  have a2 : gFz (gCallB 0 (Pf.gCons (gN 1) Pf.gNil) m__law_turned) [.bor (enc s), .val (.int n), .val (.int c), .own (lotsD (List.replicate c [])), .no, .no] = some (.ok (.list (nats P), [.bor (enc s1), .val (.int n), .val (.int c), .own (lotsD (List.replicate c [])), .no, .no])) := by
    have z : gCallB 0 (Pf.gCons (gN 1) Pf.gNil) m__law_turned [.bor (enc s), .val (.int n), .val (.int c), .own (lotsD (List.replicate c [])), .no, .no] = some (.ok (nats P, [.bor (enc s1), .val (.int n), .val (.int c), .own (lotsD (List.replicate c [])), .no, .no])) :=
      callB_bor (st := enc s) (ds := enc s) rfl (as := [.int n]) (env1 := [.bor (enc s), .val (.int n), .val (.int c), .own (lotsD (List.replicate c [])), .no, .no]) rfl rfl e1
    show M.bd _ _ _ = _
    rw [bd_ok z]
    rfl
  have a3 : gForL (gFz (gCallB 0 (Pf.gCons (gN 1) Pf.gNil) m__law_turned)) (bN 4) lotB [.bor (enc s), .val (.int n), .val (.int c), .own (lotsD (List.replicate c [])), .no, .no] = some (.nx [.bor (enc s'), .val (.int n), .val (.int c), .own (lotsD ls), x', y']) := by
    unfold gForL
    rw [gE_ok a2]
    exact e2
  have a4 : gRet (gBlt tupK (Pf.gCons (gN 3) Pf.gNil)) [.bor (enc s'), .val (.int n), .val (.int c), .own (lotsD ls), x', y'] = some (.rt (.tuple (lotsD ls)) [.bor (enc s'), .val (.int n), .val (.int c), .val (.list (lotsD ls)), x', y']) := by
    have z : Pf.gCons (gN 3) Pf.gNil [.bor (enc s'), .val (.int n), .val (.int c), .own (lotsD ls), x', y'] = some (.ok ([.list (lotsD ls)], [.bor (enc s'), .val (.int n), .val (.int c), .val (.list (lotsD ls)), x', y'])) := by
      show M.bd _ _ _ = _
      rw [bd_ok (n_own (ds := lotsD ls) rfl)]
      rfl
    have z2 : gBlt tupK (Pf.gCons (gN 3) Pf.gNil) [.bor (enc s'), .val (.int n), .val (.int c), .own (lotsD ls), x', y'] = some (.ok (.tuple (lotsD ls), [.bor (enc s'), .val (.int n), .val (.int c), .val (.list (lotsD ls)), x', y'])) := by
      show M.bd _ _ _ = _
      rw [bd_ok z]
      exact opt_ok rfl
    show gE _ _ _ = _
    rw [gE_ok z2]
    rfl
  refine fnB_rt (r := [.val (.int n), .val (.int c), .val (.list (lotsD ls)), x', y']) ?_
  have eE : envB 6 (enc s) [.int n, .int c] = [.bor (enc s), .val (.int n), .val (.int c), .no, .no, .no] := rfl
  rw [eE, eG, seq_nx a1, seq_nx a3, a4]
end Q
/-! part C4 -/
set_option Elab.async false
set_option linter.all false
set_option maxRecDepth 100000
set_option maxHeartbeats 2000000
namespace Q
open PySem PySem.Spec L2
open Pf
theorem drawn_call {s : Stt} {n : Nat} {gl : M (List PyData)} {env : En} (hn : 0 < n) (hb : n < 1073741824) (h0 : env[0]? = some (.bor (enc s))) (h1 : gl env = some (.ok ([.int n], env))) :
    ∃ (d : Nat) (s' : Stt), d < n ∧ gCallB 0 gl m__law_drawn env = some (.ok (.int d, env.set 0 (.bor (enc s')))) := by
  obtain ⟨d, s', hd, e⟩ := drawn_ok s n hn hb
  exact ⟨d, s', hd, callB_bor h0 h1 h0 e⟩
theorem eqD_int (i j : Int) : eqD (.int i) (.int j) = some (i == j) := by
  rw [eqD_ok (k := 0) (j := 0) (okD_int i) (okD_int j) (by decide) (by decide)]
  simp [PyData.eqv]
def priceD : Option Nat → PyData
  | none => .none
  | some p => .int (p : Int)
abbrev pricesD (ps : List (Option Nat)) : List PyData := ps.map priceD
def priceOk (p : Option Nat) : Prop := ∀ q, p = some q → 1 ≤ q ∧ q ≤ 99
def priceG : M PyData := gIf (gTst eqD (gCallB 0 (Pf.gCons (gN 5) Pf.gNil) m__law_drawn) (gC (.int 0))) (gC .none) (gBin addD (gC (.int 1)) (gCallB 0 (Pf.gCons (gN 4) Pf.gNil) m__law_drawn))
def envS (s : Stt) (a b c : Int) (dear rare : Nat) (x y : Sl) : En := [.bor (enc s), .val (.int a), .val (.int b), .val (.int c), .val (.int dear), .val (.int rare), x, y]
theorem price_ok (s : Stt) (a b c : Int) (dear rare : Nat) (x y : Sl) (hd : 0 < dear) (hd2 : dear ≤ 99) (hr : 0 < rare) (hr2 : rare < 1000) :
    ∃ (s' : Stt) (p : Option Nat), priceOk p ∧ priceG (envS s a b c dear rare x y) = some (.ok (priceD p, envS s' a b c dear rare x y)) := by
  obtain ⟨d, s1, h1, e1⟩ := drawn_call (s := s) (n := rare) (gl := Pf.gCons (gN 5) Pf.gNil) (env := envS s a b c dear rare x y) hr (by omega) rfl rfl
  have e1 : gCallB 0 (Pf.gCons (gN 5) Pf.gNil) m__law_drawn (envS s a b c dear rare x y) = some (.ok (.int d, envS s1 a b c dear rare x y)) := e1
  have t : gTst eqD (gCallB 0 (Pf.gCons (gN 5) Pf.gNil) m__law_drawn) (gC (.int 0)) (envS s a b c dear rare x y) = some (.ok ((d : Int) == 0, envS s1 a b c dear rare x y)) := by
    show M.bd _ _ _ = _
    rw [bd_ok e1]
    have z : gC (.int 0) (envS s1 a b c dear rare x y) = some (.ok (.int 0, envS s1 a b c dear rare x y)) := rfl
    rw [bd_ok z]
    exact opt_ok (eqD_int d 0)
  by_cases h : d = 0
  · refine ⟨s1, none, (fun q z => by cases z), ?_⟩
    show M.bd _ _ _ = _
    rw [bd_ok t]
    subst h
    rfl
  · obtain ⟨e, s2, h2, e2⟩ := drawn_call (s := s1) (n := dear) (gl := Pf.gCons (gN 4) Pf.gNil) (env := envS s1 a b c dear rare x y) hd (by omega) rfl rfl
    have e2 : gCallB 0 (Pf.gCons (gN 4) Pf.gNil) m__law_drawn (envS s1 a b c dear rare x y) = some (.ok (.int e, envS s2 a b c dear rare x y)) := e2
    refine ⟨s2, some (1 + e), (fun q z => by cases z; omega), ?_⟩
    show M.bd _ _ _ = _
    rw [bd_ok t]
    have hz : ((d : Int) == 0) = false := by simp; omega
    rw [hz]
    show M.bd (gCallB 0 (Pf.gCons (gN 4) Pf.gNil) m__law_drawn) (fun e => M.opt (addD (PyData.int 1) e)) _ = _
    rw [bd_ok e2]
    refine opt_ok ?_
    show some (PyData.int (1 + (e : Int))) = some (PyData.int ((1 + e : Nat) : Int))
    rw [Int.natCast_add]
    rfl
theorem price_loop : ∀ (js : List PyData) (acc : List (Option Nat)) (s : Stt) (a b c : Int) (dear rare : Nat), 0 < dear → dear ≤ 99 → 0 < rare → rare < 1000 → acc.length + js.length < 1000 →
    ∃ (s' : Stt) (ps : List (Option Nat)), ps.length = js.length ∧ (∀ p ∈ ps, priceOk p) ∧ loopC [7] (bN 7) gYes priceG js (pricesD acc) (envS s a b c dear rare .no .no) = some (pricesD (acc ++ ps), envS s' a b c dear rare .no .no)
  | [], acc, s, a, b, c, dear, rare, _, _, _, _, _ => ⟨s, [], rfl, (fun _ h => by cases h), by rw [List.append_nil]; rfl⟩
  | j :: js, acc, s, a, b, c, dear, rare, h1, h2, h3, h4, hl => by
    obtain ⟨s1, p, hp, e1⟩ := price_ok s a b c dear rare .no (.val j) h1 h2 h3 h4
    obtain ⟨s', ps, q1, q2, e2⟩ := price_loop js (acc ++ [p]) s1 a b c dear rare h1 h2 h3 h4 (by simp only [List.length_cons, List.length_append, List.length_nil] at *; omega)
    refine ⟨s', p :: ps, by simp [q1], fun q hq => ?_, ?_⟩
    · rcases List.mem_cons.mp hq with rfl | hq
      · exact hp
      · exact q2 q hq
    · have el : (pricesD acc).length < 16777216 := by simp only [List.length_map, List.length_cons] at *; omega
      have step : loopC [7] (bN 7) gYes priceG (j :: js) (pricesD acc) (envS s a b c dear rare .no .no) = (match priceG (envS s a b c dear rare .no (.val j)) with
          | some (.ok (y, env3)) => if (pricesD acc).length < 16777216 then loopC [7] (bN 7) gYes priceG js (pricesD acc ++ [y]) (wipeE [7] env3) else none
          | _ => none) := rfl
      rw [step, e1]
      show (if (pricesD acc).length < 16777216 then loopC [7] (bN 7) gYes priceG js (pricesD acc ++ [priceD p]) (wipeE [7] (envS s1 a b c dear rare .no (.val j))) else none) = _
      rw [if_pos el]
      have w1 : wipeE [7] (envS s1 a b c dear rare .no (.val j)) = envS s1 a b c dear rare .no .no := rfl
      have w2 : pricesD acc ++ [priceD p] = pricesD (acc ++ [p]) := by simp [pricesD]
      rw [w1, w2, e2, List.append_assoc]
      rfl
end Q
namespace Q
open PySem PySem.Spec L2
open Pf
def pick3 (a b c : Int) : M PyData := gBin atD (gFz (Pf.gLst (Pf.gCons (gC (.int a)) (Pf.gCons (gC (.int b)) (Pf.gCons (gC (.int c)) Pf.gNil))))) (gCallB 0 (Pf.gCons (gC (.int 3)) Pf.gNil) m__law_drawn)
theorem pick3_ok {s : Stt} {env : En} (a b c : Nat) (h0 : env[0]? = some (.bor (enc s))) : ∃ (v : Nat) (s' : Stt), (v = a ∨ v = b ∨ v = c) ∧ pick3 a b c env = some (.ok (.int v, env.set 0 (.bor (enc s')))) := by
  obtain ⟨d, s', hd, e⟩ := drawn_call (s := s) (n := 3) (gl := Pf.gCons (gC (.int 3)) Pf.gNil) (env := env) (by decide) (by decide) h0 rfl
  have z : gFz (Pf.gLst (Pf.gCons (gC (.int a)) (Pf.gCons (gC (.int b)) (Pf.gCons (gC (.int c)) Pf.gNil)))) env = some (.ok (.list [.int a, .int b, .int c], env)) := rfl
  have key : ∃ v : Nat, (v = a ∨ v = b ∨ v = c) ∧ atD (.list [.int a, .int b, .int c]) (.int d) = some (.int v) := by
    match d, hd with
    | 0, _ => exact ⟨a, .inl rfl, rfl⟩
    | 1, _ => exact ⟨b, .inr (.inl rfl), rfl⟩
    | 2, _ => exact ⟨c, .inr (.inr rfl), rfl⟩
  obtain ⟨v, hv, ev⟩ := key
  refine ⟨v, s', hv, ?_⟩
  show M.bd (gCallB 0 (Pf.gCons (gC (.int 3)) Pf.gNil) m__law_drawn) (fun e => M.opt (atD (.list [.int a, .int b, .int c]) e)) env = _
  rw [bd_ok e]
  exact opt_ok ev
theorem one_more {s : Stt} {env : En} {i n : Nat} (hn : 0 < n) (hb : n < 1000) (h0 : env[0]? = some (.bor (enc s))) (hi : env[i]? = some (.val (.int n))) : ∃ (v : Nat) (s' : Stt), 1 ≤ v ∧ v ≤ n ∧ gBin addD (gC (.int 1)) (gCallB 0 (Pf.gCons (gN i) Pf.gNil) m__law_drawn) env = some (.ok (.int v, env.set 0 (.bor (enc s')))) := by
  have hg : Pf.gCons (gN i) Pf.gNil env = some (.ok ([.int n], env)) := by
    show M.bd _ _ _ = _
    rw [bd_ok (n_val hi)]
    rfl
  obtain ⟨d, s', hd, e⟩ := drawn_call (s := s) (n := n) (gl := Pf.gCons (gN i) Pf.gNil) (env := env) hn (by omega) h0 hg
  refine ⟨1 + d, s', by omega, by omega, ?_⟩
  show M.bd (gCallB 0 (Pf.gCons (gN i) Pf.gNil) m__law_drawn) (fun e => M.opt (addD (PyData.int 1) e)) _ = _
  rw [bd_ok e]
  refine opt_ok ?_
  show some (PyData.int (1 + (d : Int))) = some (PyData.int ((1 + d : Nat) : Int))
  rw [Int.natCast_add]
  rfl
def shelfD (ps : List (Option Nat)) (ls : List (List Nat)) : PyData := .tuple [.tuple (pricesD ps), .tuple (lotsD ls)]
structure ShelfOk (ps : List (Option Nat)) (ls : List (List Nat)) : Prop where
  p1 : 1 ≤ ps.length
  p2 : ps.length ≤ 12
  pr : ∀ p ∈ ps, priceOk p
  l1 : 1 ≤ ls.length
  l2 : ls.length ≤ 5
  perm : ls.flatten.Perm (List.range ps.length)
theorem shelf_ok (s : Stt) : ∃ (s' : Stt) (ps : List (Option Nat)) (ls : List (List Nat)), ShelfOk ps ls ∧ m__law_shelf (enc s) [.int 12, .int 5] = some (.ok (shelfD ps ls, enc s')) := by
  obtain ⟨m, s1, m1, m2, e1⟩ := one_more (s := s) (env := [.bor (enc s), .val (.int (12 : Nat)), .val (.int (5 : Nat)), .no, .no, .no, .no, .no]) (i := 1) (n := 12) (by decide) (by decide) rfl rfl
  obtain ⟨dear, s2, hdear, e2⟩ := pick3_ok (s := s1) (env := [.bor (enc s1), .val (.int (12 : Nat)), .val (.int (5 : Nat)), .no, .no, .no, .no, .no]) 2 9 99 rfl
  obtain ⟨rare, s3, hrare, e3⟩ := pick3_ok (s := s2) (env := [.bor (enc s2), .val (.int (12 : Nat)), .val (.int (5 : Nat)), .val (.int m), .val (.int dear), .no, .no, .no]) 4 12 60 rfl
  obtain ⟨s4, ps, pl, pp, e4⟩ := price_loop (rngD 0 m) [] s3 (12 : Nat) (5 : Nat) m dear rare (by omega) (by omega) (by omega) (by omega) (by rw [rngD_len]; simp; omega)
  rw [rngD_len] at pl
  obtain ⟨c, s5, c1, c2, e5⟩ := one_more (s := s4) (env := [.bor (enc s4), .val (.int (12 : Nat)), .val (.int (5 : Nat)), .val (.int m), .val (.int dear), .val (.int rare), .val (.tuple (pricesD ps)), .no]) (i := 2) (n := 5) (by decide) (by decide) rfl rfl
  obtain ⟨s6, ls, l1, l2, e6⟩ := lots_ok s5 m c (by omega) (by omega) (by omega)
  refine ⟨s6, ps, ls, ⟨by omega, by omega, pp, by omega, by omega, by rw [pl]; exact l2⟩, ?_⟩
  have e1 : gBin addD (gC (.int 1)) (gCallB 0 (Pf.gCons (gN 1) Pf.gNil) m__law_drawn) [.bor (enc s), .val (.int 12), .val (.int 5), .no, .no, .no, .no, .no] = some (.ok (.int m, [.bor (enc s1), .val (.int 12), .val (.int 5), .no, .no, .no, .no, .no])) := e1
  have e2 : pick3 2 9 99 [.bor (enc s1), .val (.int 12), .val (.int 5), .no, .no, .no, .no, .no] = some (.ok (.int dear, [.bor (enc s2), .val (.int 12), .val (.int 5), .no, .no, .no, .no, .no])) := e2
  have e3 : pick3 4 12 60 [.bor (enc s2), .val (.int 12), .val (.int 5), .val (.int m), .val (.int dear), .no, .no, .no] = some (.ok (.int rare, [.bor (enc s3), .val (.int 12), .val (.int 5), .val (.int m), .val (.int dear), .no, .no, .no])) := e3
  have eG : G__law_shelf = gSeq (gAsg (bTup 2 (bCons (bN 3) (bCons (bN 4) bNil))) (Pf.gTup (Pf.gCons (gBin addD (gC (.int 1)) (gCallB 0 (Pf.gCons (gN 1) Pf.gNil) m__law_drawn)) (Pf.gCons (pick3 2 9 99) Pf.gNil)))) (gSeq (gSet 5 (pick3 4 12 60)) (gSeq (gSet 6 (gBlt tupK (Pf.gCons (gFz (gLcR [7] 7 gYes priceG (gN 3))) Pf.gNil)))
    (gRet (Pf.gTup (Pf.gCons (gN 6) (Pf.gCons (gCallB 0 (Pf.gCons (gN 3) (Pf.gCons (gBin addD (gC (.int 1)) (gCallB 0 (Pf.gCons (gN 2) Pf.gNil) m__law_drawn)) Pf.gNil)) m__law_lots) Pf.gNil)))))) := rfl
  have a1 : gAsg (bTup 2 (bCons (bN 3) (bCons (bN 4) bNil))) (Pf.gTup (Pf.gCons (gBin addD (gC (.int 1)) (gCallB 0 (Pf.gCons (gN 1) Pf.gNil) m__law_drawn)) (Pf.gCons (pick3 2 9 99) Pf.gNil))) [.bor (enc s), .val (.int 12), .val (.int 5), .no, .no, .no, .no, .no] = some (.nx [.bor (enc s2), .val (.int 12), .val (.int 5), .val (.int m), .val (.int dear), .no, .no, .no]) := by
    have z : Pf.gTup (Pf.gCons (gBin addD (gC (.int 1)) (gCallB 0 (Pf.gCons (gN 1) Pf.gNil) m__law_drawn)) (Pf.gCons (pick3 2 9 99) Pf.gNil)) [.bor (enc s), .val (.int 12), .val (.int 5), .no, .no, .no, .no, .no] = some (.ok (.tuple [.int m, .int dear], [.bor (enc s2), .val (.int 12), .val (.int 5), .no, .no, .no, .no, .no])) := by
      have y2 : Pf.gCons (pick3 2 9 99) Pf.gNil [.bor (enc s1), .val (.int 12), .val (.int 5), .no, .no, .no, .no, .no] = some (.ok ([.int dear], [.bor (enc s2), .val (.int 12), .val (.int 5), .no, .no, .no, .no, .no])) := by
        show M.bd _ _ _ = _
        rw [bd_ok e2]
        rfl
      have y1 : Pf.gCons (gBin addD (gC (.int 1)) (gCallB 0 (Pf.gCons (gN 1) Pf.gNil) m__law_drawn)) (Pf.gCons (pick3 2 9 99) Pf.gNil) [.bor (enc s), .val (.int 12), .val (.int 5), .no, .no, .no, .no, .no] = some (.ok ([.int m, .int dear], [.bor (enc s2), .val (.int 12), .val (.int 5), .no, .no, .no, .no, .no])) := by
        show M.bd (gBin addD (gC (.int 1)) (gCallB 0 (Pf.gCons (gN 1) Pf.gNil) m__law_drawn)) _ _ = _
        rw [bd_ok e1]
        show M.bd (Pf.gCons (pick3 2 9 99) Pf.gNil) _ [.bor (enc s1), .val (.int 12), .val (.int 5), .no, .no, .no, .no, .no] = _
        rw [bd_ok y2]
        rfl
      show M.bd (Pf.gCons (gBin addD (gC (.int 1)) (gCallB 0 (Pf.gCons (gN 1) Pf.gNil) m__law_drawn)) (Pf.gCons (pick3 2 9 99) Pf.gNil)) _ _ = _
      rw [bd_ok y1]
      exact opt_ok rfl
    show gE _ _ _ = _
    rw [gE_ok z]
    rfl
  have a2 : gSet 5 (pick3 4 12 60) [.bor (enc s2), .val (.int 12), .val (.int 5), .val (.int m), .val (.int dear), .no, .no, .no] = some (.nx [.bor (enc s3), .val (.int 12), .val (.int 5), .val (.int m), .val (.int dear), .val (.int rare), .no, .no]) := by
    show gE _ _ _ = _
    rw [gE_ok e3]
    rfl
  have e4 : loopC [7] (bN 7) gYes priceG (rngD 0 m) [] [.bor (enc s3), .val (.int 12), .val (.int 5), .val (.int m), .val (.int dear), .val (.int rare), .no, .no] = some (pricesD ps, [.bor (enc s4), .val (.int 12), .val (.int 5), .val (.int m), .val (.int dear), .val (.int rare), .no, .no]) := e4
  have a3 : gSet 6 (gBlt tupK (Pf.gCons (gFz (gLcR [7] 7 gYes priceG (gN 3))) Pf.gNil)) [.bor (enc s3), .val (.int 12), .val (.int 5), .val (.int m), .val (.int dear), .val (.int rare), .no, .no] = some (.nx [.bor (enc s4), .val (.int 12), .val (.int 5), .val (.int m), .val (.int dear), .val (.int rare), .val (.tuple (pricesD ps)), .no]) := by
    have z0 : gLcR [7] 7 gYes priceG (gN 3) [.bor (enc s3), .val (.int 12), .val (.int 5), .val (.int m), .val (.int dear), .val (.int rare), .no, .no] = some (.ok (pricesD ps, [.bor (enc s4), .val (.int 12), .val (.int 5), .val (.int m), .val (.int dear), .val (.int rare), .no, .no])) := by
      show M.bd (gN 3) _ _ = _
      rw [bd_ok (n_val (d := .int m) rfl)]
      have r : rngO (.int (m : Int)) = some (rngD 0 m) := by
        unfold rngO
        simp only
        rw [if_pos (by omega), Int.toNat_natCast]
      rw [bd_ok (opt_ok r)]
      have w : wipeE [7] [.bor (enc s3), .val (.int 12), .val (.int 5), .val (.int m), .val (.int dear), .val (.int rare), .no, .no] = [.bor (enc s3), .val (.int 12), .val (.int 5), .val (.int m), .val (.int dear), .val (.int rare), .no, .no] := rfl
      unfold gLc
      rw [w, e4]
      rfl
    have z1 : gFz (gLcR [7] 7 gYes priceG (gN 3)) [.bor (enc s3), .val (.int 12), .val (.int 5), .val (.int m), .val (.int dear), .val (.int rare), .no, .no] = some (.ok (.list (pricesD ps), [.bor (enc s4), .val (.int 12), .val (.int 5), .val (.int m), .val (.int dear), .val (.int rare), .no, .no])) := by
      show M.bd (gLcR [7] 7 gYes priceG (gN 3)) _ _ = _
      rw [bd_ok z0]
      rfl
    have z2 : Pf.gCons (gFz (gLcR [7] 7 gYes priceG (gN 3))) Pf.gNil [.bor (enc s3), .val (.int 12), .val (.int 5), .val (.int m), .val (.int dear), .val (.int rare), .no, .no] = some (.ok ([.list (pricesD ps)], [.bor (enc s4), .val (.int 12), .val (.int 5), .val (.int m), .val (.int dear), .val (.int rare), .no, .no])) := by
      show M.bd (gFz (gLcR [7] 7 gYes priceG (gN 3))) _ _ = _
      rw [bd_ok z1]
      rfl
    have z3 : gBlt tupK (Pf.gCons (gFz (gLcR [7] 7 gYes priceG (gN 3))) Pf.gNil) [.bor (enc s3), .val (.int 12), .val (.int 5), .val (.int m), .val (.int dear), .val (.int rare), .no, .no] = some (.ok (.tuple (pricesD ps), [.bor (enc s4), .val (.int 12), .val (.int 5), .val (.int m), .val (.int dear), .val (.int rare), .no, .no])) := by
      show M.bd (Pf.gCons (gFz (gLcR [7] 7 gYes priceG (gN 3))) Pf.gNil) _ _ = _
      rw [bd_ok z2]
      exact opt_ok rfl
    show gE _ _ _ = _
    rw [gE_ok z3]
    rfl
  have e5 : gBin addD (gC (.int 1)) (gCallB 0 (Pf.gCons (gN 2) Pf.gNil) m__law_drawn) [.bor (enc s4), .val (.int 12), .val (.int 5), .val (.int m), .val (.int dear), .val (.int rare), .val (.tuple (pricesD ps)), .no] = some (.ok (.int c, [.bor (enc s5), .val (.int 12), .val (.int 5), .val (.int m), .val (.int dear), .val (.int rare), .val (.tuple (pricesD ps)), .no])) := e5
  have y1 : Pf.gCons (gBin addD (gC (.int 1)) (gCallB 0 (Pf.gCons (gN 2) Pf.gNil) m__law_drawn)) Pf.gNil [.bor (enc s4), .val (.int 12), .val (.int 5), .val (.int m), .val (.int dear), .val (.int rare), .val (.tuple (pricesD ps)), .no] = some (.ok ([.int c], [.bor (enc s5), .val (.int 12), .val (.int 5), .val (.int m), .val (.int dear), .val (.int rare), .val (.tuple (pricesD ps)), .no])) := by
    show M.bd (gBin addD (gC (.int 1)) (gCallB 0 (Pf.gCons (gN 2) Pf.gNil) m__law_drawn)) (fun d => M.bd Pf.gNil fun ds => M.ok (d :: ds)) _ = _
    rw [bd_ok e5]
    rfl
  have y2 : Pf.gCons (gN 3) (Pf.gCons (gBin addD (gC (.int 1)) (gCallB 0 (Pf.gCons (gN 2) Pf.gNil) m__law_drawn)) Pf.gNil) [.bor (enc s4), .val (.int 12), .val (.int 5), .val (.int m), .val (.int dear), .val (.int rare), .val (.tuple (pricesD ps)), .no] = some (.ok ([.int m, .int c], [.bor (enc s5), .val (.int 12), .val (.int 5), .val (.int m), .val (.int dear), .val (.int rare), .val (.tuple (pricesD ps)), .no])) := by
    show M.bd (gN 3) (fun d => M.bd (Pf.gCons (gBin addD (gC (.int 1)) (gCallB 0 (Pf.gCons (gN 2) Pf.gNil) m__law_drawn)) Pf.gNil) fun ds => M.ok (d :: ds)) _ = _
    rw [bd_ok (n_val (d := .int m) rfl), bd_ok y1]
    rfl
  have y3 : gCallB 0 (Pf.gCons (gN 3) (Pf.gCons (gBin addD (gC (.int 1)) (gCallB 0 (Pf.gCons (gN 2) Pf.gNil) m__law_drawn)) Pf.gNil)) m__law_lots [.bor (enc s4), .val (.int 12), .val (.int 5), .val (.int m), .val (.int dear), .val (.int rare), .val (.tuple (pricesD ps)), .no] = some (.ok (.tuple (lotsD ls), [.bor (enc s6), .val (.int 12), .val (.int 5), .val (.int m), .val (.int dear), .val (.int rare), .val (.tuple (pricesD ps)), .no])) := callB_bor (st := enc s4) (ds := enc s5) rfl y2 rfl e6
  have y4 : Pf.gCons (gCallB 0 (Pf.gCons (gN 3) (Pf.gCons (gBin addD (gC (.int 1)) (gCallB 0 (Pf.gCons (gN 2) Pf.gNil) m__law_drawn)) Pf.gNil)) m__law_lots) Pf.gNil [.bor (enc s4), .val (.int 12), .val (.int 5), .val (.int m), .val (.int dear), .val (.int rare), .val (.tuple (pricesD ps)), .no] = some (.ok ([.tuple (lotsD ls)], [.bor (enc s6), .val (.int 12), .val (.int 5), .val (.int m), .val (.int dear), .val (.int rare), .val (.tuple (pricesD ps)), .no])) := by
    show M.bd (gCallB 0 (Pf.gCons (gN 3) (Pf.gCons (gBin addD (gC (.int 1)) (gCallB 0 (Pf.gCons (gN 2) Pf.gNil) m__law_drawn)) Pf.gNil)) m__law_lots) (fun d => M.bd Pf.gNil fun ds => M.ok (d :: ds)) _ = _
    rw [bd_ok y3]
    rfl
  have y5 : Pf.gCons (gN 6) (Pf.gCons (gCallB 0 (Pf.gCons (gN 3) (Pf.gCons (gBin addD (gC (.int 1)) (gCallB 0 (Pf.gCons (gN 2) Pf.gNil) m__law_drawn)) Pf.gNil)) m__law_lots) Pf.gNil) [.bor (enc s4), .val (.int 12), .val (.int 5), .val (.int m), .val (.int dear), .val (.int rare), .val (.tuple (pricesD ps)), .no] = some (.ok ([.tuple (pricesD ps), .tuple (lotsD ls)], [.bor (enc s6), .val (.int 12), .val (.int 5), .val (.int m), .val (.int dear), .val (.int rare), .val (.tuple (pricesD ps)), .no])) := by
    show M.bd (gN 6) (fun d => M.bd (Pf.gCons (gCallB 0 (Pf.gCons (gN 3) (Pf.gCons (gBin addD (gC (.int 1)) (gCallB 0 (Pf.gCons (gN 2) Pf.gNil) m__law_drawn)) Pf.gNil)) m__law_lots) Pf.gNil) fun ds => M.ok (d :: ds)) _ = _
    rw [bd_ok (n_val (d := .tuple (pricesD ps)) rfl), bd_ok y4]
    rfl
  have y6 : Pf.gTup (Pf.gCons (gN 6) (Pf.gCons (gCallB 0 (Pf.gCons (gN 3) (Pf.gCons (gBin addD (gC (.int 1)) (gCallB 0 (Pf.gCons (gN 2) Pf.gNil) m__law_drawn)) Pf.gNil)) m__law_lots) Pf.gNil)) [.bor (enc s4), .val (.int 12), .val (.int 5), .val (.int m), .val (.int dear), .val (.int rare), .val (.tuple (pricesD ps)), .no] = some (.ok (shelfD ps ls, [.bor (enc s6), .val (.int 12), .val (.int 5), .val (.int m), .val (.int dear), .val (.int rare), .val (.tuple (pricesD ps)), .no])) := by
    show M.bd (Pf.gCons (gN 6) (Pf.gCons (gCallB 0 (Pf.gCons (gN 3) (Pf.gCons (gBin addD (gC (.int 1)) (gCallB 0 (Pf.gCons (gN 2) Pf.gNil) m__law_drawn)) Pf.gNil)) m__law_lots) Pf.gNil)) (fun ds => M.opt (tupD ds)) _ = _
    rw [bd_ok y5]
    exact opt_ok rfl
  refine fnB_rt (r := [.val (.int 12), .val (.int 5), .val (.int m), .val (.int dear), .val (.int rare), .val (.tuple (pricesD ps)), .no]) ?_
  have eE : envB 8 (enc s) [.int 12, .int 5] = [.bor (enc s), .val (.int 12), .val (.int 5), .no, .no, .no, .no, .no] := rfl
  rw [eE, eG, seq_nx a1, seq_nx a2, seq_nx a3]
  show gE _ _ _ = _
  rw [gE_ok y6]
  rfl
end Q
/-! part C5 -/
set_option Elab.async false
set_option linter.all false
set_option maxRecDepth 100000
set_option maxHeartbeats 2000000
namespace Q
open PySem PySem.Spec L2
open Pf
theorem ifS_t {g : M Bool} {a b : S} {env env1 : En} (h : g env = some (.ok (true, env1))) : gIfS g a b env = a env1 := by unfold gIfS; rw [gE_ok h]; rfl
theorem ifS_f {g : M Bool} {a b : S} {env env1 : En} (h : g env = some (.ok (false, env1))) : gIfS g a b env = b env1 := by unfold gIfS; rw [gE_ok h]; rfl
end Q
/-! part C6 -/
set_option Elab.async false
set_option linter.all false
set_option maxRecDepth 100000
set_option maxHeartbeats 2000000
namespace Q
open PySem PySem.Spec L2
open Pf
def inP (v : PyData) (n : Nat) : Bool := match v with
  | .int i => decide (0 ≤ i ∧ i < n)
  | _ => false
theorem place_ok (v : PyData) (hv : flatD v = true) (n : Nat) : m_is_place [v, .int n] = some (.ok (.bool (inP v n))) := by
  cases v with
  | none => rfl
  | bool b => rfl
  | str x => rfl
  | list xs => cases hv
  | tuple xs => cases hv
  | dict d => cases hv
  | int i =>
    refine fnD_rt (r := [.val (.int i), .val (.int n)]) ?_
    have eE : envD 2 [PyData.int i, .int n] = [.val (.int i), .val (.int n)] := rfl
    rw [eE]
    have c1 : (cmpD fun i j => decide (i ≤ j)) (.int 0) (.int i) = some (decide (0 ≤ i)) := rfl
    have c2 : (cmpD fun i j => decide (i < j)) (.int i) (.int n) = some (decide (i < n)) := rfl
    have ch : gChain (gC (.int 0)) (gN 0) (gN 1) (cmpD fun i j => decide (i ≤ j)) (cmpD fun i j => decide (i < j)) [.val (.int i), .val (.int n)] = some (.ok (.bool (inP (.int i) n), [.val (.int i), .val (.int n)])) := by
      have zc : gC (.int 0) [.val (.int i), .val (.int n)] = some (.ok (.int 0, [.val (.int i), .val (.int n)])) := rfl
      unfold gChain
      rw [bd_ok zc]
      rw [bd_ok (n_val (d := .int i) rfl), bd_ok (opt_ok c1)]
      by_cases h : 0 ≤ i
      · rw [decide_eq_true h, if_pos rfl, bd_ok (n_val (d := .int n) rfl)]
        refine opt_ok ?_
        rw [c2]
        simp [inP, h]
      · rw [decide_eq_false h]
        simp [inP, h, M.ok]
    have h1 : gAnd (gCall m_is_number (Pf.gCons (gN 0) Pf.gNil)) (gChain (gC (.int 0)) (gN 0) (gN 1) (cmpD fun i j => decide (i ≤ j)) (cmpD fun i j => decide (i < j))) [.val (.int i), .val (.int n)] = gChain (gC (.int 0)) (gN 0) (gN 1) (cmpD fun i j => decide (i ≤ j)) (cmpD fun i j => decide (i < j)) [.val (.int i), .val (.int n)] := rfl
    show gE (gAnd (gCall m_is_number (Pf.gCons (gN 0) Pf.gNil)) (gChain (gC (.int 0)) (gN 0) (gN 1) (cmpD fun i j => decide (i ≤ j)) (cmpD fun i j => decide (i < j)))) gRt _ = _
    rw [gE_ok (h1.trans ch)]
    rfl
end Q
/-! part C9 -/
set_option Elab.async false
set_option linter.all false
set_option maxRecDepth 100000
set_option maxHeartbeats 2000000
namespace Q
open PySem PySem.Spec L2
open Pf
theorem set_back {env : En} {j : Nat} {v : Sl} (h : env[j]? = some .no) : wipeE [j] (env.set j v) = env := by
  show (env.set j v).set j .no = env
  rw [List.set_set]
  apply List.ext_getElem?
  intro i
  by_cases e : i = j
  · subst e
    have hl := (List.getElem?_eq_some_iff.mp h).1
    rw [List.getElem?_set_self hl, h]
  · rw [List.getElem?_set_ne (Ne.symm e)]
theorem neD_int2 (x b : Nat) : neD (.int x) (.int b) = some (x != b) := by
  rw [neD_int]
  congr 1
  by_cases h : x = b
  · subst h; simp
  · have : ¬ ((x : Int) = b) := by omega
    simp [h, this]
theorem filt_loop {env : En} {j m b : Nat} (hjm : m ≠ j) (hm : env[m]? = some (.val (.int b))) (hj : env[j]? = some .no) : ∀ (l acc : List Nat), acc.length + l.length < 1000 →
    loopC [j] (bN j) (gTst neD (gN j) (gN m)) (gN j) (nats l) (nats acc) env = some (nats (acc ++ strip b l), env)
  | [], acc, _ => by simp [strip]; rfl
  | x :: l, acc, hl => by
    have hlen := (List.getElem?_eq_some_iff.mp hj).1
    have ej : (env.set j (.val (.int x)))[j]? = some (.val (.int x)) := List.getElem?_set_self hlen
    have em : (env.set j (.val (.int x)))[m]? = some (.val (.int b)) := by rw [List.getElem?_set_ne (Ne.symm hjm)]; exact hm
    have t : gTst neD (gN j) (gN m) (env.set j (.val (.int x))) = some (.ok (x != b, env.set j (.val (.int x)))) := by
      show M.bd (gN j) (fun d => M.bd (gN m) fun e => M.opt (neD d e)) _ = _
      rw [bd_ok (n_val ej), bd_ok (n_val em)]
      exact opt_ok (neD_int2 x b)
    have step : loopC [j] (bN j) (gTst neD (gN j) (gN m)) (gN j) (nats (x :: l)) (nats acc) env = (match gTst neD (gN j) (gN m) (env.set j (.val (.int x))) with
      | some (.ok (true, env2)) => match gN j env2 with
        | some (.ok (y, env3)) => if (nats acc).length < 16777216 then loopC [j] (bN j) (gTst neD (gN j) (gN m)) (gN j) (nats l) (nats acc ++ [y]) (wipeE [j] env3) else none
        | _ => none
      | some (.ok (false, env2)) => loopC [j] (bN j) (gTst neD (gN j) (gN m)) (gN j) (nats l) (nats acc) (wipeE [j] env2)
      | _ => none) := rfl
    rw [step, t]
    simp only [List.length_cons] at hl
    by_cases h : x = b
    · have e : (x != b) = false := by simp [h]
      rw [e]
      simp only
      rw [set_back hj, filt_loop hjm hm hj l acc (by omega)]
      simp [strip, List.filter_cons, h]
    · have e : (x != b) = true := by simp [h]
      rw [e]
      simp only [n_val ej]
      rw [if_pos (by rw [nats_len]; omega), set_back hj]
      have e2 : nats acc ++ [.int x] = nats (acc ++ [x]) := by simp [nats]
      rw [e2, filt_loop hjm hm hj l (acc ++ [x]) (by simp; omega)]
      simp [strip, List.filter_cons, h]
theorem filt_ok {env : En} {j m s b : Nat} {l : List Nat} (hjm : m ≠ j) (hm : env[m]? = some (.val (.int b))) (hj : env[j]? = some .no) (hs : env[s]? = some (.val (.tuple (nats l)))) (hl : l.length < 1000) :
    gLcT [j] j (gTst neD (gN j) (gN m)) (gN j) (gN s) env = some (.ok (nats (strip b l), env)) := by
  show M.bd (gN s) (fun d => M.bd (M.opt (tupO d)) fun ds => gLc [j] (bN j) (gTst neD (gN j) (gN m)) (gN j) ds) env = _
  rw [bd_ok (n_val hs)]
  have r : tupO (.tuple (nats l)) = some (nats l) := rfl
  rw [bd_ok (opt_ok r)]
  have w : wipeE [j] env = env := by
    have := set_back (v := .no) hj
    have e : env.set j .no = env := by
      apply List.ext_getElem?
      intro i
      by_cases e : i = j
      · subst e
        rw [List.getElem?_set_self (List.getElem?_eq_some_iff.mp hj).1, hj]
      · rw [List.getElem?_set_ne (Ne.symm e)]
    exact e
  have bk : backE env [j] env = env := by
    show env.set j (match env[j]? with
      | some (.val d) => .val d
      | _ => .no) = env
    rw [hj]
    exact w
  have lp := filt_loop (l := l) (acc := []) hjm hm hj (by simpa using hl)
  unfold gLc
  rw [w]
  have lp' : loopC [j] (bN j) (gTst neD (gN j) (gN m)) (gN j) (nats l) [] env = some (nats (strip b l), env) := lp
  rw [lp']
  simp only [bk]
end Q
/-! part C10 -/
set_option Elab.async false
set_option linter.all false
set_option maxRecDepth 100000
set_option maxHeartbeats 2000000
namespace Q
open PySem PySem.Spec L2
open Pf
def stripE (j m s : Nat) : M PyData := gBlt tupK (Pf.gCons (gFz (gLcT [j] j (gTst neD (gN j) (gN m)) (gN j) (gN s))) Pf.gNil)
theorem stripE_ok {env : En} {j m s b : Nat} {l : List Nat} (hjm : m ≠ j) (hm : env[m]? = some (.val (.int b))) (hj : env[j]? = some .no) (hs : env[s]? = some (.val (.tuple (nats l)))) (hl : l.length < 1000) :
    stripE j m s env = some (.ok (.tuple (nats (strip b l)), env)) := by
  have f := filt_ok hjm hm hj hs hl
  have z1 : gFz (gLcT [j] j (gTst neD (gN j) (gN m)) (gN j) (gN s)) env = some (.ok (.list (nats (strip b l)), env)) := by
    show M.bd (gLcT [j] j (gTst neD (gN j) (gN m)) (gN j) (gN s)) (fun ds => M.ok (PyData.list ds)) env = _
    rw [bd_ok f]
    rfl
  have z2 : Pf.gCons (gFz (gLcT [j] j (gTst neD (gN j) (gN m)) (gN j) (gN s))) Pf.gNil env = some (.ok ([.list (nats (strip b l))], env)) := by
    show M.bd (gFz (gLcT [j] j (gTst neD (gN j) (gN m)) (gN j) (gN s))) (fun d => M.bd Pf.gNil fun ds => M.ok (d :: ds)) env = _
    rw [bd_ok z1]
    rfl
  show M.bd (Pf.gCons (gFz (gLcT [j] j (gTst neD (gN j) (gN m)) (gN j) (gN s))) Pf.gNil) (fun ds => M.opt (tupK ds)) env = _
  rw [bd_ok z2]
  exact opt_ok rfl
theorem strip_loop {env : En} {j m s b : Nat} (hjm : m ≠ j) (hsm : m ≠ s) (hsj : j ≠ s) (hm : env[m]? = some (.val (.int b))) (hj : env[j]? = some .no) (hs : env[s]? = some .no) : ∀ (ls acc : List (List Nat)), (∀ l ∈ ls, l.length < 1000) → acc.length + ls.length < 1000 →
    loopC [s] (bN s) gYes (stripE j m s) (lotsD ls) (lotsD acc) env = some (lotsD (acc ++ ls.map (strip b)), env)
  | [], acc, _, _ => by simp; rfl
  | l :: ls, acc, hb, hl => by
    have hlen := (List.getElem?_eq_some_iff.mp hs).1
    have es : (env.set s (.val (.tuple (nats l))))[s]? = some (.val (.tuple (nats l))) := List.getElem?_set_self hlen
    have em : (env.set s (.val (.tuple (nats l))))[m]? = some (.val (.int b)) := by rw [List.getElem?_set_ne (Ne.symm hsm)]; exact hm
    have ej : (env.set s (.val (.tuple (nats l))))[j]? = some .no := by rw [List.getElem?_set_ne (Ne.symm hsj)]; exact hj
    have t := stripE_ok hjm em ej es (hb l List.mem_cons_self)
    have step : loopC [s] (bN s) gYes (stripE j m s) (lotsD (l :: ls)) (lotsD acc) env = (match stripE j m s (env.set s (.val (.tuple (nats l)))) with
        | some (.ok (y, env3)) => if (lotsD acc).length < 16777216 then loopC [s] (bN s) gYes (stripE j m s) (lotsD ls) (lotsD acc ++ [y]) (wipeE [s] env3) else none
        | _ => none) := rfl
    simp only [List.length_cons] at hl
    rw [step, t]
    simp only
    rw [if_pos (by rw [lotsD_len]; omega), set_back hs]
    have e2 : lotsD acc ++ [.tuple (nats (strip b l))] = lotsD (acc ++ [strip b l]) := by simp [lotsD]
    rw [e2, strip_loop hjm hsm hsj hm hj hs ls (acc ++ [strip b l]) (fun x hx => hb x (List.mem_cons_of_mem _ hx)) (by simp; omega)]
    simp
def envQ (ls : List (List Nat)) (b k : Nat) (e : PyData) (x : Sl) : En := [.val (.tuple (lotsD ls)), .val (.int b), .val (.int k), .val e, x, .no, .no]
def endD (first : Bool) : PyData := if first = true then .str "first" else .str "last"
theorem law_placed_ok (ls : List (List Nat)) (b k : Nat) (first : Bool) (hk : k < ls.length) (hl : ls.length < 100) (hb : ∀ l ∈ ls, l.length < 900) : m__law_placed [.tuple (lotsD ls), .int b, .int k, endD first] = some (.ok (.tuple (lotsD (placed ls b k first)))) := by
  have e0 : envD 7 [.tuple (lotsD ls), .int b, .int k, endD first] = envQ ls b k (endD first) .no := rfl
  have lp := strip_loop (env := envQ ls b k (endD first) .no) (j := 6) (m := 1) (s := 5) (b := b) (by decide) (by decide) (by decide) rfl rfl rfl ls [] (fun l hl => by have := hb l hl; omega) (by simp; omega)
  have lp' : loopC [5] (bN 5) gYes (stripE 6 1 5) (lotsD ls) [] (envQ ls b k (endD first) .no) = some (lotsD (ls.map (strip b)), envQ ls b k (endD first) .no) := lp
  have a0 : gLcT [5] 5 gYes (stripE 6 1 5) (gN 0) (envQ ls b k (endD first) .no) = some (.ok (lotsD (ls.map (strip b)), envQ ls b k (endD first) .no)) := by
    show M.bd (gN 0) (fun d => M.bd (M.opt (tupO d)) fun ds => gLc [5] (bN 5) gYes (stripE 6 1 5) ds) _ = _
    rw [bd_ok (n_val (d := .tuple (lotsD ls)) rfl)]
    have r : tupO (.tuple (lotsD ls)) = some (lotsD ls) := rfl
    rw [bd_ok (opt_ok r)]
    have w : wipeE [5] (envQ ls b k (endD first) .no) = envQ ls b k (endD first) .no := rfl
    unfold gLc
    rw [w, lp']
    rfl
  have a1 : gSetO 4 (gLcT [5] 5 gYes (stripE 6 1 5) (gN 0)) (envQ ls b k (endD first) .no) = some (.nx (envQ ls b k (endD first) (.own (lotsD (ls.map (strip b)))))) := by
    show gE _ _ _ = _
    rw [gE_ok a0]
    rfl
  have hk2 : k < (ls.map (strip b)).length := by rw [List.length_map]; exact hk
  have hsz := sizeLine_eq
  have hlen : ((ls.map (strip b))[k]).length ≤ 900 := by
    rw [List.getElem_map]
    have h1 := hb _ (List.getElem_mem hk)
    have h2 : (strip b ls[k]).length ≤ ls[k].length := List.length_filter_le _ _
    omega
  have hx : gIxP 4 (gN 2) (envQ ls b k (endD first) (.own (lotsD (ls.map (strip b))))) = some (.ok (.tuple (nats ((ls.map (strip b))[k])), envQ ls b k (endD first) (.own (lotsD (ls.map (strip b)))))) :=
    ixP_own (ds := lotsD (ls.map (strip b))) (ds1 := lotsD (ls.map (strip b))) (k := k) rfl rfl rfl (lotsD_at hk2)
  have ht : Pf.gTup (Pf.gCons (gN 1) Pf.gNil) (envQ ls b k (endD first) (.own (lotsD (ls.map (strip b))))) = some (.ok (.tuple [.int b], envQ ls b k (endD first) (.own (lotsD (ls.map (strip b)))))) := rfl
  have tst : gTst eqD (gN 3) (gC (.str "first")) (envQ ls b k (endD first) (.own (lotsD (ls.map (strip b))))) = some (.ok (first, envQ ls b k (endD first) (.own (lotsD (ls.map (strip b)))))) := by
    have q1 : eqD (.str "first") (.str "first") = some true := by decide +kernel
    have q2 : eqD (.str "last") (.str "first") = some false := by decide +kernel
    show M.bd (gN 3) (fun d => M.bd (gC (.str "first")) fun e => M.opt (eqD d e)) _ = _
    rw [bd_ok (n_val (d := endD first) rfl)]
    cases first with
    | true => exact opt_ok q1
    | false => exact opt_ok q2
  have val : gIf (gTst eqD (gN 3) (gC (.str "first"))) (gBin addD (Pf.gTup (Pf.gCons (gN 1) Pf.gNil)) (gIxP 4 (gN 2))) (gBin addD (gIxP 4 (gN 2)) (Pf.gTup (Pf.gCons (gN 1) Pf.gNil))) (envQ ls b k (endD first) (.own (lotsD (ls.map (strip b))))) = some (.ok (.tuple (nats (putEnd first b ((ls.map (strip b))[k]))), envQ ls b k (endD first) (.own (lotsD (ls.map (strip b)))))) := by
    unfold gIf
    rw [bd_ok tst]
    cases first with
    | true =>
      rw [if_pos rfl]
      show M.bd (Pf.gTup (Pf.gCons (gN 1) Pf.gNil)) (fun d => M.bd (gIxP 4 (gN 2)) fun e => M.opt (addD d e)) _ = _
      rw [bd_ok ht, bd_ok hx]
      refine opt_ok ?_
      show (if [PyData.int b].length + (nats ((ls.map (strip b))[k])).length ≤ sizeLine then some (PyData.tuple ([PyData.int b] ++ nats ((ls.map (strip b))[k]))) else none) = _
      rw [if_pos (by rw [nats_len]; simp only [List.length_cons, List.length_nil]; omega)]
      rfl
    | false =>
      rw [if_neg (by decide)]
      show M.bd (gIxP 4 (gN 2)) (fun d => M.bd (Pf.gTup (Pf.gCons (gN 1) Pf.gNil)) fun e => M.opt (addD d e)) _ = _
      rw [bd_ok hx, bd_ok ht]
      refine opt_ok ?_
      show (if (nats ((ls.map (strip b))[k])).length + [PyData.int b].length ≤ sizeLine then some (PyData.tuple (nats ((ls.map (strip b))[k]) ++ [PyData.int b])) else none) = _
      rw [if_pos (by rw [nats_len]; simp only [List.length_cons, List.length_nil]; omega)]
      simp [putEnd, nats]
  have a2 : gSetIx 4 (gIf (gTst eqD (gN 3) (gC (.str "first"))) (gBin addD (Pf.gTup (Pf.gCons (gN 1) Pf.gNil)) (gIxP 4 (gN 2))) (gBin addD (gIxP 4 (gN 2)) (Pf.gTup (Pf.gCons (gN 1) Pf.gNil)))) (gN 2) (envQ ls b k (endD first) (.own (lotsD (ls.map (strip b))))) = some (.nx (envQ ls b k (endD first) (.own (lotsD (placed ls b k first))))) := by
    rw [setIx_own (ds := lotsD (ls.map (strip b))) (ds1 := lotsD (ls.map (strip b))) (k := k) val rfl rfl rfl (by rw [lotsD_len]; exact hk2), lotsD_set]
    unfold placed
    rw [List.getElem?_eq_getElem hk2]
    rfl
  have a3 : gRet (gBlt tupK (Pf.gCons (gN 4) Pf.gNil)) (envQ ls b k (endD first) (.own (lotsD (placed ls b k first)))) = some (.rt (.tuple (lotsD (placed ls b k first))) (envQ ls b k (endD first) (.val (.list (lotsD (placed ls b k first)))))) := by
    have z : Pf.gCons (gN 4) Pf.gNil (envQ ls b k (endD first) (.own (lotsD (placed ls b k first)))) = some (.ok ([.list (lotsD (placed ls b k first))], envQ ls b k (endD first) (.val (.list (lotsD (placed ls b k first)))))) := by
      show M.bd (gN 4) (fun d => M.bd Pf.gNil fun ds => M.ok (d :: ds)) _ = _
      rw [bd_ok (n_own (ds := lotsD (placed ls b k first)) rfl)]
      rfl
    have z2 : gBlt tupK (Pf.gCons (gN 4) Pf.gNil) (envQ ls b k (endD first) (.own (lotsD (placed ls b k first)))) = some (.ok (.tuple (lotsD (placed ls b k first)), envQ ls b k (endD first) (.val (.list (lotsD (placed ls b k first)))))) := by
      show M.bd (Pf.gCons (gN 4) Pf.gNil) (fun ds => M.opt (tupK ds)) _ = _
      rw [bd_ok z]
      exact opt_ok rfl
    show gE _ _ _ = _
    rw [gE_ok z2]
    rfl
  have eG : G__law_placed = gSeq (gSetO 4 (gLcT [5] 5 gYes (stripE 6 1 5) (gN 0))) (gSeq (gSetIx 4 (gIf (gTst eqD (gN 3) (gC (.str "first"))) (gBin addD (Pf.gTup (Pf.gCons (gN 1) Pf.gNil)) (gIxP 4 (gN 2))) (gBin addD (gIxP 4 (gN 2)) (Pf.gTup (Pf.gCons (gN 1) Pf.gNil)))) (gN 2)) (gRet (gBlt tupK (Pf.gCons (gN 4) Pf.gNil)))) := rfl
  refine fnD_rt (r := envQ ls b k (endD first) (.val (.list (lotsD (placed ls b k first))))) ?_
  rw [e0, eG, seq_nx a1, seq_nx a2, a3]
end Q
/-! part C11 -/
set_option Elab.async false
set_option linter.all false
set_option maxRecDepth 100000
set_option maxHeartbeats 2000000
namespace Q
open PySem PySem.Spec L2
open Pf
end Q
/-! part C12 -/
set_option Elab.async false
set_option linter.all false
set_option maxRecDepth 100000
set_option maxHeartbeats 2000000
namespace Q
open PySem PySem.Spec L2
open Pf
def enumK : Nat → List PyData → List PyData
  | _, [] => []
  | k, d :: r => .tuple [.int (k : Int), d] :: enumK (k + 1) r
theorem enumK_at : ∀ (ds : List PyData) (k i : Nat), (enumK k ds)[i]? = ds[i]?.map fun d => PyData.tuple [.int ((k + i : Nat) : Int), d]
  | [], k, i => by simp [enumK]
  | d :: r, k, 0 => by simp [enumK]
  | d :: r, k, i + 1 => by
    have := enumK_at r (k + 1) i
    simp only [enumK, List.getElem?_cons_succ]
    rw [this]
    have e : k + 1 + i = k + (i + 1) := by omega
    rw [e]
theorem enum_K (ds : List PyData) : enumD ds = enumK 0 ds := by
  apply List.ext_getElem?
  intro i
  rw [enumK_at]
  cases h : ds[i]? with
  | some d => rw [enumD_at h, Nat.zero_add]; rfl
  | none =>
    rw [List.getElem?_eq_none_iff] at h
    rw [List.getElem?_eq_none (by rw [enumD_len]; exact h)]
    rfl
theorem is_price_ok (p : Option Nat) (h : priceOk p) : m_is_price [priceD p] = some (.ok (.bool true)) := by
  cases p with
  | none => rfl
  | some q =>
    obtain ⟨h1, h2⟩ := h q rfl
    refine fnD_rt (r := [.val (.int q)]) ?_
    have eE : envD 1 [priceD (some q)] = [.val (.int q)] := rfl
    rw [eE]
    have c1 : (cmpD fun i j => decide (i ≤ j)) (.int 1) (.int q) = some true := by simp [cmpD]; omega
    have c2 : (cmpD fun i j => decide (i ≤ j)) (.int q) (.int 99) = some true := by simp [cmpD]; omega
    have z1 : gC (.int 1) [.val (.int q)] = some (.ok (.int 1, [.val (.int q)])) := rfl
    have z2 : gC (.int 99) [.val (.int q)] = some (.ok (.int 99, [.val (.int q)])) := rfl
    have ch : gChain (gC (.int 1)) (gN 0) (gC (.int 99)) (cmpD fun i j => decide (i ≤ j)) (cmpD fun i j => decide (i ≤ j)) [.val (.int q)] = some (.ok (.bool true, [.val (.int q)])) := by
      unfold gChain
      rw [bd_ok z1, bd_ok (n_val (d := .int q) rfl), bd_ok (opt_ok c1), if_pos rfl, bd_ok z2]
      refine opt_ok ?_
      rw [c2]
      rfl
    have h1 : gOr (gCmp isD (gN 0) (gC .none)) (gAnd (gCall m_is_number (Pf.gCons (gN 0) Pf.gNil)) (gChain (gC (.int 1)) (gN 0) (gC (.int 99)) (cmpD fun i j => decide (i ≤ j)) (cmpD fun i j => decide (i ≤ j)))) [.val (.int q)] = gChain (gC (.int 1)) (gN 0) (gC (.int 99)) (cmpD fun i j => decide (i ≤ j)) (cmpD fun i j => decide (i ≤ j)) [.val (.int q)] := rfl
    show gE (gOr (gCmp isD (gN 0) (gC .none)) (gAnd (gCall m_is_number (Pf.gCons (gN 0) Pf.gNil)) (gChain (gC (.int 1)) (gN 0) (gC (.int 99)) (cmpD fun i j => decide (i ≤ j)) (cmpD fun i j => decide (i ≤ j))))) gRt _ = _
    rw [gE_ok (h1.trans ch)]
    rfl
def wpB : S := gIfS (gOrT (gTst eqD (gN 1) (gC (.int 12))) (gNotT (gTru (gCall m_is_price (Pf.gCons (gN 2) Pf.gNil))))) (gRet (gN 1)) gNx
theorem wp_body (a : PyData) (k : Nat) (p : Option Nat) (hk : k < 12) (hp : priceOk p) : wpB [.val a, .val (.int k), .val (priceD p)] = some (.nx [.val a, .val (.int k), .val (priceD p)]) := by
  have t1 : gTst eqD (gN 1) (gC (.int 12)) [.val a, .val (.int k), .val (priceD p)] = some (.ok (false, [.val a, .val (.int k), .val (priceD p)])) := by
    show M.bd (gN 1) (fun d => M.bd (gC (.int 12)) fun e => M.opt (eqD d e)) _ = _
    rw [bd_ok (n_val (d := .int k) rfl)]
    refine opt_ok (o := eqD (.int k) (.int 12)) ?_
    rw [eqD_int]
    have : ((k : Int) == 12) = false := by simp; omega
    rw [this]
  have z : gCall m_is_price (Pf.gCons (gN 2) Pf.gNil) [.val a, .val (.int k), .val (priceD p)] = some (.ok (.bool true, [.val a, .val (.int k), .val (priceD p)])) := by
    have z : Pf.gCons (gN 2) Pf.gNil [.val a, .val (.int k), .val (priceD p)] = some (.ok ([priceD p], [.val a, .val (.int k), .val (priceD p)])) := rfl
    show M.bd (Pf.gCons (gN 2) Pf.gNil) (fun ds => gLift (m_is_price ds)) _ = _
    rw [bd_ok z, is_price_ok p hp]
    rfl
  have t2 : gNotT (gTru (gCall m_is_price (Pf.gCons (gN 2) Pf.gNil))) [.val a, .val (.int k), .val (priceD p)] = some (.ok (false, [.val a, .val (.int k), .val (priceD p)])) := by
    have y : M.bd (gCall m_is_price (Pf.gCons (gN 2) Pf.gNil)) (fun d => M.opt (truD d)) [.val a, .val (.int k), .val (priceD p)] = some (.ok (true, [.val a, .val (.int k), .val (priceD p)])) := by
      rw [bd_ok z]
      rfl
    show M.bd (M.bd (gCall m_is_price (Pf.gCons (gN 2) Pf.gNil)) fun d => M.opt (truD d)) (fun b => M.ok (!b)) _ = _
    rw [bd_ok y]
    rfl
  have t : gOrT (gTst eqD (gN 1) (gC (.int 12))) (gNotT (gTru (gCall m_is_price (Pf.gCons (gN 2) Pf.gNil)))) [.val a, .val (.int k), .val (priceD p)] = some (.ok (false, [.val a, .val (.int k), .val (priceD p)])) := by
    unfold gOrT
    rw [bd_ok t1]
    exact t2
  unfold wpB
  rw [ifS_f t]
  rfl
theorem wp_loop (a : PyData) : ∀ (ps : List (Option Nat)) (k : Nat) (x y : Sl), (∀ p ∈ ps, priceOk p) → k + ps.length ≤ 12 → ∃ x' y', loopL (bTup 2 (bCons (bN 1) (bCons (bN 2) bNil))) wpB (enumK k (pricesD ps)) [.val a, x, y] = some (.nx [.val a, x', y'])
  | [], k, x, y, _, _ => ⟨x, y, rfl⟩
  | p :: ps, k, x, y, h, hk => by
    simp only [List.length_cons] at hk
    obtain ⟨x', y', e⟩ := wp_loop a ps (k + 1) (.val (.int k)) (.val (priceD p)) (fun q hq => h q (List.mem_cons_of_mem _ hq)) (by omega)
    refine ⟨x', y', ?_⟩
    have step : loopL (bTup 2 (bCons (bN 1) (bCons (bN 2) bNil))) wpB (enumK k (pricesD (p :: ps))) [.val a, x, y] = (match wpB [.val a, .val (.int k), .val (priceD p)] with
      | some (.nx env2) => loopL (bTup 2 (bCons (bN 1) (bCons (bN 2) bNil))) wpB (enumK (k + 1) (pricesD ps)) env2
      | some (.ct env2) => loopL (bTup 2 (bCons (bN 1) (bCons (bN 2) bNil))) wpB (enumK (k + 1) (pricesD ps)) env2
      | some (.bk env2) => some (.nx env2)
      | o => o) := rfl
    rw [step, wp_body a k p (by omega) (h p List.mem_cons_self)]
    exact e
theorem wrong_price_ok (ps : List (Option Nat)) (h : ∀ p ∈ ps, priceOk p) (h1 : 1 ≤ ps.length) (h2 : ps.length ≤ 12) : m_wrong_price [.tuple (pricesD ps)] = some (.ok .none) := by
  obtain ⟨x', y', e⟩ := wp_loop (.tuple (pricesD ps)) ps 0 .no .no h (by omega)
  have eG : G_wrong_price = gSeq (gIfS (gOrT (gNotT (gTru (gIsa "tuple" (gN 0)))) (gTst eqD (gLenP 0) (gC (.int 0)))) (gRet (gC (.int 0))) gNx) (gSeq (gForET (gN 0) (bTup 2 (bCons (bN 1) (bCons (bN 2) bNil))) wpB) (gRet (gC .none))) := rfl
  have eE : envD 3 [.tuple (pricesD ps)] = [.val (.tuple (pricesD ps)), .no, .no] := rfl
  have t : gOrT (gNotT (gTru (gIsa "tuple" (gN 0)))) (gTst eqD (gLenP 0) (gC (.int 0))) [.val (.tuple (pricesD ps)), .no, .no] = some (.ok (false, [.val (.tuple (pricesD ps)), .no, .no])) := by
    have y : gOrT (gNotT (gTru (gIsa "tuple" (gN 0)))) (gTst eqD (gLenP 0) (gC (.int 0))) [.val (.tuple (pricesD ps)), .no, .no] = M.opt (eqD (.int (pricesD ps).length) (.int 0)) [.val (.tuple (pricesD ps)), .no, .no] := rfl
    rw [y]
    refine opt_ok ?_
    rw [eqD_int, List.length_map]
    have : ((ps.length : Int) == 0) = false := beq_eq_false_iff_ne.mpr (by omega)
    rw [this]
  have a1 : gIfS (gOrT (gNotT (gTru (gIsa "tuple" (gN 0)))) (gTst eqD (gLenP 0) (gC (.int 0)))) (gRet (gC (.int 0))) gNx [.val (.tuple (pricesD ps)), .no, .no] = some (.nx [.val (.tuple (pricesD ps)), .no, .no]) := by rw [ifS_f t]; rfl
  have a2 : gForET (gN 0) (bTup 2 (bCons (bN 1) (bCons (bN 2) bNil))) wpB [.val (.tuple (pricesD ps)), .no, .no] = some (.nx [.val (.tuple (pricesD ps)), x', y']) := by
    unfold gForET
    rw [gE_ok (n_val (d := .tuple (pricesD ps)) rfl)]
    simp only
    rw [enum_K]
    exact e
  refine fnD_rt (r := [.val (.tuple (pricesD ps)), x', y']) ?_
  rw [eE, eG, seq_nx a1, seq_nx a2]
  rfl
end Q
/-! part C13 -/
set_option Elab.async false
set_option linter.all false
set_option maxRecDepth 100000
set_option maxHeartbeats 2000000
namespace Q
open PySem PySem.Spec L2
open Pf
def inB : S := gSeq (gIfS (gOrT (gNotT (gTru (gCall m_is_place (Pf.gCons (gN 7) (Pf.gCons (gN 1) Pf.gNil))))) (gHasS 4 (gN 7))) (gRet (gN 5)) gNx) (gAddS 4 (gN 7))
def envL8 (a : PyData) (n : Nat) (f m : PyData) (S : Int → Bool) (c : Nat) (num lot x : Sl) : En := [.val a, .val (.int n), .val f, .val m, .obj (.set S c), num, lot, x]
theorem in_body (a : PyData) (n : Nat) (f m : PyData) (S : Int → Bool) (c : Nat) (num lot : Sl) (b : Nat) (hb : b < n) (hS : S b = false) (hc : c + 1 < 4096) : inB (envL8 a n f m S c num lot (.val (.int b))) = some (.nx (envL8 a n f m (addS S b) (c + 1) num lot (.val (.int b)))) := by
  have hp : inP (.int b) n = true := by simp [inP]; omega
  have z : gCall m_is_place (Pf.gCons (gN 7) (Pf.gCons (gN 1) Pf.gNil)) (envL8 a n f m S c num lot (.val (.int b))) = some (.ok (.bool true, envL8 a n f m S c num lot (.val (.int b)))) := by
    have z : Pf.gCons (gN 7) (Pf.gCons (gN 1) Pf.gNil) (envL8 a n f m S c num lot (.val (.int b))) = some (.ok ([.int b, .int n], envL8 a n f m S c num lot (.val (.int b)))) := rfl
    show M.bd (Pf.gCons (gN 7) (Pf.gCons (gN 1) Pf.gNil)) (fun ds => gLift (m_is_place ds)) _ = _
    rw [bd_ok z, place_ok (.int b) rfl n, hp]
    rfl
  have t1 : gNotT (gTru (gCall m_is_place (Pf.gCons (gN 7) (Pf.gCons (gN 1) Pf.gNil)))) (envL8 a n f m S c num lot (.val (.int b))) = some (.ok (false, envL8 a n f m S c num lot (.val (.int b)))) := by
    have y : M.bd (gCall m_is_place (Pf.gCons (gN 7) (Pf.gCons (gN 1) Pf.gNil))) (fun d => M.opt (truD d)) (envL8 a n f m S c num lot (.val (.int b))) = some (.ok (true, envL8 a n f m S c num lot (.val (.int b)))) := by
      rw [bd_ok z]
      rfl
    show M.bd (M.bd (gCall m_is_place (Pf.gCons (gN 7) (Pf.gCons (gN 1) Pf.gNil))) fun d => M.opt (truD d)) (fun b => M.ok (!b)) _ = _
    rw [bd_ok y]
    rfl
  have t2 : gHasS 4 (gN 7) (envL8 a n f m S c num lot (.val (.int b))) = some (.ok (false, envL8 a n f m S c num lot (.val (.int b)))) := by
    have y : gHasS 4 (gN 7) (envL8 a n f m S c num lot (.val (.int b))) = some (.ok (S b, envL8 a n f m S c num lot (.val (.int b)))) := rfl
    rw [y, hS]
  have t : gOrT (gNotT (gTru (gCall m_is_place (Pf.gCons (gN 7) (Pf.gCons (gN 1) Pf.gNil))))) (gHasS 4 (gN 7)) (envL8 a n f m S c num lot (.val (.int b))) = some (.ok (false, envL8 a n f m S c num lot (.val (.int b)))) := by
    unfold gOrT
    rw [bd_ok t1]
    exact t2
  have a1 : gIfS (gOrT (gNotT (gTru (gCall m_is_place (Pf.gCons (gN 7) (Pf.gCons (gN 1) Pf.gNil))))) (gHasS 4 (gN 7))) (gRet (gN 5)) gNx (envL8 a n f m S c num lot (.val (.int b))) = some (.nx (envL8 a n f m S c num lot (.val (.int b)))) := by rw [ifS_f t]; rfl
  unfold inB
  rw [seq_nx a1]
  have y : gAddS 4 (gN 7) (envL8 a n f m S c num lot (.val (.int b))) = (if c + 1 < 4096 then some (.nx (envL8 a n f m (addS S b) (cntS S c b) num lot (.val (.int b)))) else none) := rfl
  rw [y, if_pos hc]
  unfold cntS
  rw [hS]
  rfl
theorem in_loop (a : PyData) (n : Nat) (f m : PyData) (num lot : Sl) : ∀ (bs : List Nat) (S : Int → Bool) (c : Nat) (x : Sl), (∀ b ∈ bs, b < n) → bs.Nodup → (∀ b ∈ bs, S (b : Nat) = false) → c + bs.length < 4000 →
    ∃ (S' : Int → Bool) (x' : Sl), (∀ i : Nat, S' i = true → S i = true ∨ i ∈ bs) ∧ loopL (bN 7) inB (nats bs) (envL8 a n f m S c num lot x) = some (.nx (envL8 a n f m S' (c + bs.length) num lot x'))
  | [], S, c, x, _, _, _, _ => ⟨S, x, fun i h => .inl h, rfl⟩
  | b :: bs, S, c, x, h1, h2, h3, h4 => by
    simp only [List.length_cons] at h4
    obtain ⟨n1, n2⟩ := List.nodup_cons.mp h2
    obtain ⟨S', x', q1, e⟩ := in_loop a n f m num lot bs (addS S b) (c + 1) (.val (.int b)) (fun y hy => h1 y (List.mem_cons_of_mem _ hy)) n2 (fun y hy => by
      have ne : ¬ ((y : Int) = (b : Int)) := fun z => n1 (Int.ofNat.inj z ▸ hy)
      simp [addS, h3 y (List.mem_cons_of_mem _ hy), ne]) (by omega)
    refine ⟨S', x', fun i hi => ?_, ?_⟩
    · rcases q1 i hi with z | z
      · simp only [addS, Bool.or_eq_true, decide_eq_true_eq] at z
        rcases z with z | z
        · exact .inl z
        · exact .inr (List.mem_cons.mpr (.inl (Int.ofNat.inj z)))
      · exact .inr (List.mem_cons_of_mem _ z)
    · have step : loopL (bN 7) inB (nats (b :: bs)) (envL8 a n f m S c num lot x) = (match inB (envL8 a n f m S c num lot (.val (.int b))) with
        | some (.nx env2) => loopL (bN 7) inB (nats bs) env2
        | some (.ct env2) => loopL (bN 7) inB (nats bs) env2
        | some (.bk env2) => some (.nx env2)
        | o => o) := rfl
      rw [step, in_body a n f m S c num lot b (h1 b List.mem_cons_self) (h3 b List.mem_cons_self) (by omega)]
      simp only
      rw [e, List.length_cons]
      have : c + 1 + bs.length = c + (bs.length + 1) := by omega
      rw [this]
def outB : S := gSeq (gIfS (gOrT (gTst eqD (gN 5) (gN 3)) (gNotT (gTru (gIsa "tuple" (gN 6))))) (gRet (gN 5)) gNx) (gForT (gN 6) (bN 7) inB)
theorem out_loop (a : PyData) (n : Nat) (f : PyData) (mx : Nat) : ∀ (ls : List (List Nat)) (k : Nat) (S : Int → Bool) (c : Nat) (u v x : Sl), (∀ b ∈ ls.flatten, b < n) → ls.flatten.Nodup → (∀ b ∈ ls.flatten, S (b : Nat) = false) → c + ls.flatten.length < 4000 → k + ls.length ≤ mx →
    ∃ (S' : Int → Bool) (c' : Nat) (u' v' x' : Sl), loopL (bTup 2 (bCons (bN 5) (bCons (bN 6) bNil))) outB (enumK k (lotsD ls)) (envL8 a n f (.int mx) S c u v x) = some (.nx (envL8 a n f (.int mx) S' c' u' v' x'))
  | [], k, S, c, u, v, x, _, _, _, _, _ => ⟨S, c, u, v, x, rfl⟩
  | l :: ls, k, S, c, u, v, x, h1, h2, h3, h4, h5 => by
    simp only [List.flatten_cons, List.length_append, List.length_cons] at h4 h5
    rw [List.flatten_cons] at h1 h2 h3
    obtain ⟨n1, n2, n3⟩ := List.nodup_append.mp h2
    obtain ⟨S1, x1, q1, e1⟩ := in_loop a n f (.int mx) (.val (.int k)) (.val (.tuple (nats l))) l S c x (fun b hb => h1 b (List.mem_append_left _ hb)) n1 (fun b hb => h3 b (List.mem_append_left _ hb)) (by omega)
    have dis : ∀ b ∈ ls.flatten, S1 (b : Nat) = false := fun b hb => by
      cases hz : S1 (b : Nat) with
      | false => rfl
      | true =>
        rcases q1 b hz with z | z
        · rw [h3 b (List.mem_append_right _ hb)] at z; cases z
        · exact absurd rfl (n3 b z b hb)
    obtain ⟨S', c', u', v', x', e⟩ := out_loop a n f mx ls (k + 1) S1 (c + l.length) (.val (.int k)) (.val (.tuple (nats l))) x1 (fun b hb => h1 b (List.mem_append_right _ hb)) n2 dis (by omega) (by omega)
    refine ⟨S', c', u', v', x', ?_⟩
    have t1 : gTst eqD (gN 5) (gN 3) (envL8 a n f (.int mx) S c (.val (.int k)) (.val (.tuple (nats l))) x) = some (.ok (false, envL8 a n f (.int mx) S c (.val (.int k)) (.val (.tuple (nats l))) x)) := by
      show M.bd (gN 5) (fun d => M.bd (gN 3) fun e => M.opt (eqD d e)) _ = _
      rw [bd_ok (n_val (d := .int k) rfl), bd_ok (n_val (d := .int mx) rfl)]
      refine opt_ok ?_
      rw [eqD_int]
      rw [beq_eq_false_iff_ne.mpr (by omega)]
    have t : gOrT (gTst eqD (gN 5) (gN 3)) (gNotT (gTru (gIsa "tuple" (gN 6)))) (envL8 a n f (.int mx) S c (.val (.int k)) (.val (.tuple (nats l))) x) = some (.ok (false, envL8 a n f (.int mx) S c (.val (.int k)) (.val (.tuple (nats l))) x)) := by
      unfold gOrT
      rw [bd_ok t1]
      rfl
    have a1 : gIfS (gOrT (gTst eqD (gN 5) (gN 3)) (gNotT (gTru (gIsa "tuple" (gN 6))))) (gRet (gN 5)) gNx (envL8 a n f (.int mx) S c (.val (.int k)) (.val (.tuple (nats l))) x) = some (.nx (envL8 a n f (.int mx) S c (.val (.int k)) (.val (.tuple (nats l))) x)) := by rw [ifS_f t]; rfl
    have body : outB (envL8 a n f (.int mx) S c (.val (.int k)) (.val (.tuple (nats l))) x) = some (.nx (envL8 a n f (.int mx) S1 (c + l.length) (.val (.int k)) (.val (.tuple (nats l))) x1)) := by
      unfold outB
      rw [seq_nx a1]
      unfold gForT
      rw [gE_ok (n_val (d := .tuple (nats l)) rfl)]
      exact e1
    have step : loopL (bTup 2 (bCons (bN 5) (bCons (bN 6) bNil))) outB (enumK k (lotsD (l :: ls))) (envL8 a n f (.int mx) S c u v x) = (match outB (envL8 a n f (.int mx) S c (.val (.int k)) (.val (.tuple (nats l))) x) with
      | some (.nx env2) => loopL (bTup 2 (bCons (bN 5) (bCons (bN 6) bNil))) outB (enumK (k + 1) (lotsD ls)) env2
      | some (.ct env2) => loopL (bTup 2 (bCons (bN 5) (bCons (bN 6) bNil))) outB (enumK (k + 1) (lotsD ls)) env2
      | some (.bk env2) => some (.nx env2)
      | o => o) := rfl
    rw [step, body]
    exact e
theorem wrong_lot_ok (ls : List (List Nat)) (n fw mx : Nat) (h1 : ∀ b ∈ ls.flatten, b < n) (h2 : ls.flatten.Nodup) (h3 : fw ≤ ls.length) (h4 : ls.length ≤ mx) (h5 : ls.flatten.length < 1000) : m_wrong_lot [.tuple (lotsD ls), .int n, .int fw, .int mx] = some (.ok .none) := by
  obtain ⟨S', c', u', v', x', e⟩ := out_loop (.tuple (lotsD ls)) n (.int fw) mx ls 0 (fun _ => false) 0 .no .no .no h1 h2 (fun _ _ => rfl) (by omega) (by omega)
  have eG : G_wrong_lot = gSeq (gIfS (gNotT (gTru (gIsa "tuple" (gN 0)))) (gRet (gC (.int 0))) gNx) (gSeq (gMkS 4) (gSeq (gForET (gN 0) (bTup 2 (bCons (bN 5) (bCons (bN 6) bNil))) outB) (gSeq (gIfS (gTst (cmpD fun i j => decide (i < j)) (gLenP 0) (gN 2)) (gRet (gLenP 0)) gNx) (gRet (gC .none))))) := rfl
  have eE : envD 8 [.tuple (lotsD ls), .int n, .int fw, .int mx] = [.val (.tuple (lotsD ls)), .val (.int n), .val (.int fw), .val (.int mx), .no, .no, .no, .no] := rfl
  have a1 : gIfS (gNotT (gTru (gIsa "tuple" (gN 0)))) (gRet (gC (.int 0))) gNx [.val (.tuple (lotsD ls)), .val (.int n), .val (.int fw), .val (.int mx), .no, .no, .no, .no] = some (.nx [.val (.tuple (lotsD ls)), .val (.int n), .val (.int fw), .val (.int mx), .no, .no, .no, .no]) := rfl
  have a2 : gMkS 4 [.val (.tuple (lotsD ls)), .val (.int n), .val (.int fw), .val (.int mx), .no, .no, .no, .no] = some (.nx (envL8 (.tuple (lotsD ls)) n (.int fw) (.int mx) (fun _ => false) 0 .no .no .no)) := rfl
  have a3 : gForET (gN 0) (bTup 2 (bCons (bN 5) (bCons (bN 6) bNil))) outB (envL8 (.tuple (lotsD ls)) n (.int fw) (.int mx) (fun _ => false) 0 .no .no .no) = some (.nx (envL8 (.tuple (lotsD ls)) n (.int fw) (.int mx) S' c' u' v' x')) := by
    unfold gForET
    rw [gE_ok (n_val (d := .tuple (lotsD ls)) rfl)]
    simp only
    rw [enum_K]
    exact e
  have t : gTst (cmpD fun i j => decide (i < j)) (gLenP 0) (gN 2) (envL8 (.tuple (lotsD ls)) n (.int fw) (.int mx) S' c' u' v' x') = some (.ok (false, envL8 (.tuple (lotsD ls)) n (.int fw) (.int mx) S' c' u' v' x')) := by
    have y : gTst (cmpD fun i j => decide (i < j)) (gLenP 0) (gN 2) (envL8 (.tuple (lotsD ls)) n (.int fw) (.int mx) S' c' u' v' x') = M.opt ((cmpD fun i j => decide (i < j)) (.int (lotsD ls).length) (.int fw)) (envL8 (.tuple (lotsD ls)) n (.int fw) (.int mx) S' c' u' v' x') := rfl
    rw [y]
    refine opt_ok ?_
    rw [List.length_map]
    simp [cmpD]; omega
  have a4 : gIfS (gTst (cmpD fun i j => decide (i < j)) (gLenP 0) (gN 2)) (gRet (gLenP 0)) gNx (envL8 (.tuple (lotsD ls)) n (.int fw) (.int mx) S' c' u' v' x') = some (.nx (envL8 (.tuple (lotsD ls)) n (.int fw) (.int mx) S' c' u' v' x')) := by rw [ifS_f t]; rfl
  refine fnD_rt (r := envL8 (.tuple (lotsD ls)) n (.int fw) (.int mx) S' c' u' v' x') ?_
  rw [eE, eG, seq_nx a1, seq_nx a2, seq_nx a3, seq_nx a4]
  rfl
end Q
/-! part C14 -/
set_option Elab.async false
set_option linter.all false
set_option maxRecDepth 100000
set_option maxHeartbeats 2000000
namespace Q
open PySem PySem.Spec L2
open Pf
theorem any_nats (b : Nat) : ∀ l : List Nat, ((nats l).any fun y => PyData.eqv y (.int b)) = decide (b ∈ l)
  | [] => by simp [nats]
  | x :: l => by
    have ih := any_nats b l
    have e : ((nats (x :: l)).any fun y => PyData.eqv y (.int b)) = (PyData.eqv (.int (x : Int)) (.int b) || (nats l).any fun y => PyData.eqv y (.int b)) := rfl
    rw [e, ih]
    by_cases h : x = b
    · subst h; simp [PyData.eqv]
    · have h1 : ((x : Int) == (b : Int)) = false := beq_eq_false_iff_ne.mpr (by omega)
      have h2 : ¬ b = x := fun z => h z.symm
      simp [PyData.eqv, h1, h2]
theorem all_nats : ∀ l : List Nat, (nats l).all flatD = true
  | [] => rfl
  | x :: l => by
    show (flatD (.int (x : Int)) && (nats l).all flatD) = true
    rw [all_nats l]; rfl
theorem inD_nats (b : Nat) (l : List Nat) : inD (.int b) (.tuple (nats l)) = some (decide (b ∈ l)) := by
  show (if flatD (.int b) = true ∧ (nats l).all flatD = true then some ((nats l).any fun y => PyData.eqv y (.int b)) else none) = _
  rw [if_pos ⟨rfl, all_nats l⟩, any_nats]
def loB : S := gIfS (gTst inD (gN 1) (gN 3)) (gRet (gN 2)) gNx
theorem lo_body (a : PyData) (b k : Nat) (l : List Nat) : loB [.val a, .val (.int b), .val (.int k), .val (.tuple (nats l))] = if b ∈ l then some (.rt (.int k) [.val a, .val (.int b), .val (.int k), .val (.tuple (nats l))]) else some (.nx [.val a, .val (.int b), .val (.int k), .val (.tuple (nats l))]) := by
  have t : gTst inD (gN 1) (gN 3) [.val a, .val (.int b), .val (.int k), .val (.tuple (nats l))] = some (.ok (decide (b ∈ l), [.val a, .val (.int b), .val (.int k), .val (.tuple (nats l))])) := by
    show M.bd (gN 1) (fun d => M.bd (gN 3) fun e => M.opt (inD d e)) _ = _
    rw [bd_ok (n_val (d := .int b) rfl), bd_ok (n_val (d := .tuple (nats l)) rfl)]
    exact opt_ok (inD_nats b l)
  unfold loB
  by_cases h : b ∈ l
  · rw [decide_eq_true h] at t
    rw [ifS_t t, if_pos h]
    rfl
  · rw [decide_eq_false h] at t
    rw [ifS_f t, if_neg h]
    rfl
theorem lo_loop (a : PyData) (b : Nat) : ∀ (ls : List (List Nat)) (k : Nat) (x y : Sl), b ∈ ls.flatten → ∃ (k' : Nat) (env : En), loopL (bTup 2 (bCons (bN 2) (bCons (bN 3) bNil))) loB (enumK k (lotsD ls)) [.val a, .val (.int b), x, y] = some (.rt (.int k') env)
  | [], k, x, y, h => by simp at h
  | l :: ls, k, x, y, h => by
    have step : loopL (bTup 2 (bCons (bN 2) (bCons (bN 3) bNil))) loB (enumK k (lotsD (l :: ls))) [.val a, .val (.int b), x, y] = (match loB [.val a, .val (.int b), .val (.int k), .val (.tuple (nats l))] with
      | some (.nx env2) => loopL (bTup 2 (bCons (bN 2) (bCons (bN 3) bNil))) loB (enumK (k + 1) (lotsD ls)) env2
      | some (.ct env2) => loopL (bTup 2 (bCons (bN 2) (bCons (bN 3) bNil))) loB (enumK (k + 1) (lotsD ls)) env2
      | some (.bk env2) => some (.nx env2)
      | o => o) := rfl
    rw [step, lo_body]
    by_cases hb : b ∈ l
    · rw [if_pos hb]
      exact ⟨k, _, rfl⟩
    · rw [if_neg hb]
      simp only
      rw [List.flatten_cons, List.mem_append] at h
      exact lo_loop a b ls (k + 1) _ _ (h.resolve_left hb)
theorem lot_of_ok (ls : List (List Nat)) (b : Nat) (h : b ∈ ls.flatten) : ∃ k : Nat, m_lot_of [.tuple (lotsD ls), .int b] = some (.ok (.int k)) := by
  obtain ⟨k, env, e⟩ := lo_loop (.tuple (lotsD ls)) b ls 0 .no .no h
  refine ⟨k, fnD_rt (r := env) ?_⟩
  have eG : G_lot_of = gSeq (gForET (gN 0) (bTup 2 (bCons (bN 2) (bCons (bN 3) bNil))) loB) (gRet (gC .none)) := rfl
  have eE : envD 4 [.tuple (lotsD ls), .int b] = [.val (.tuple (lotsD ls)), .val (.int b), .no, .no] := rfl
  have a1 : gForET (gN 0) (bTup 2 (bCons (bN 2) (bCons (bN 3) bNil))) loB [.val (.tuple (lotsD ls)), .val (.int b), .no, .no] = some (.rt (.int k) env) := by
    unfold gForET
    rw [gE_ok (n_val (d := .tuple (lotsD ls)) rfl)]
    simp only
    rw [enum_K]
    exact e
  rw [eE, eG]
  unfold gSeq
  rw [a1]
def mbB : S := gIfS (gTst isD (gCall m_lot_of (Pf.gCons (gN 0) (Pf.gCons (gN 2) Pf.gNil))) (gC .none)) (gRet (gN 2)) gNx
theorem mb_body (ls : List (List Nat)) (n : PyData) (b : Nat) (h : b ∈ ls.flatten) : mbB [.val (.tuple (lotsD ls)), .val n, .val (.int b)] = some (.nx [.val (.tuple (lotsD ls)), .val n, .val (.int b)]) := by
  obtain ⟨k, e⟩ := lot_of_ok ls b h
  have z : gCall m_lot_of (Pf.gCons (gN 0) (Pf.gCons (gN 2) Pf.gNil)) [.val (.tuple (lotsD ls)), .val n, .val (.int b)] = some (.ok (.int k, [.val (.tuple (lotsD ls)), .val n, .val (.int b)])) := by
    have z : Pf.gCons (gN 0) (Pf.gCons (gN 2) Pf.gNil) [.val (.tuple (lotsD ls)), .val n, .val (.int b)] = some (.ok ([.tuple (lotsD ls), .int b], [.val (.tuple (lotsD ls)), .val n, .val (.int b)])) := rfl
    show M.bd (Pf.gCons (gN 0) (Pf.gCons (gN 2) Pf.gNil)) (fun ds => gLift (m_lot_of ds)) _ = _
    rw [bd_ok z, e]
    rfl
  have t : gTst isD (gCall m_lot_of (Pf.gCons (gN 0) (Pf.gCons (gN 2) Pf.gNil))) (gC .none) [.val (.tuple (lotsD ls)), .val n, .val (.int b)] = some (.ok (false, [.val (.tuple (lotsD ls)), .val n, .val (.int b)])) := by
    show M.bd (gCall m_lot_of (Pf.gCons (gN 0) (Pf.gCons (gN 2) Pf.gNil))) (fun d => M.bd (gC .none) fun e => M.opt (isD d e)) _ = _
    rw [bd_ok z]
    rfl
  unfold mbB
  rw [ifS_f t]
  rfl
theorem mb_loop (ls : List (List Nat)) (n : PyData) : ∀ (bs : List Nat) (x : Sl), (∀ b ∈ bs, b ∈ ls.flatten) → ∃ x', loopL (bN 2) mbB (nats bs) [.val (.tuple (lotsD ls)), .val n, x] = some (.nx [.val (.tuple (lotsD ls)), .val n, x'])
  | [], x, _ => ⟨x, rfl⟩
  | b :: bs, x, h => by
    obtain ⟨x', e⟩ := mb_loop ls n bs (.val (.int b)) (fun y hy => h y (List.mem_cons_of_mem _ hy))
    refine ⟨x', ?_⟩
    have step : loopL (bN 2) mbB (nats (b :: bs)) [.val (.tuple (lotsD ls)), .val n, x] = (match mbB [.val (.tuple (lotsD ls)), .val n, .val (.int b)] with
      | some (.nx env2) => loopL (bN 2) mbB (nats bs) env2
      | some (.ct env2) => loopL (bN 2) mbB (nats bs) env2
      | some (.bk env2) => some (.nx env2)
      | o => o) := rfl
    rw [step, mb_body ls n b (h b List.mem_cons_self)]
    exact e
theorem missing_book_ok (ls : List (List Nat)) (n : Nat) (hn : n < 1000) (h : ∀ b, b < n → b ∈ ls.flatten) : m_missing_book [.tuple (lotsD ls), .int n] = some (.ok .none) := by
  obtain ⟨x', e⟩ := mb_loop ls (.int n) (List.range n) .no (fun b hb => h b (List.mem_range.mp hb))
  have eG : G_missing_book = gSeq (gForR1 (gN 1) (bN 2) mbB) (gRet (gC .none)) := rfl
  have eE : envD 3 [.tuple (lotsD ls), .int n] = [.val (.tuple (lotsD ls)), .val (.int n), .no] := rfl
  have a1 : gForR1 (gN 1) (bN 2) mbB [.val (.tuple (lotsD ls)), .val (.int n), .no] = some (.nx [.val (.tuple (lotsD ls)), .val (.int n), x']) := by
    unfold gForR1
    rw [gE_ok (n_val (d := .int n) rfl)]
    simp only
    rw [if_pos (by omega), Int.toNat_natCast, rng_nats]
    exact e
  refine fnD_rt (r := [.val (.tuple (lotsD ls)), .val (.int n), x']) ?_
  rw [eE, eG, seq_nx a1]
  rfl
theorem check_shelf_ok (ps : List (Option Nat)) (ls : List (List Nat)) (hs : ShelfOk ps ls) : m_check_shelf [shelfD ps ls] = some (.ok .none) := by
  have hp1 := hs.p1
  have hp2 := hs.p2
  have w1 := wrong_price_ok ps hs.pr hs.p1 hs.p2
  have hlen := hs.perm.length_eq
  rw [List.length_range] at hlen
  have w2 := wrong_lot_ok ls ps.length 1 5 (fun b hb => List.mem_range.mp (hs.perm.mem_iff.mp hb)) (hs.perm.nodup_iff.mpr List.nodup_range) hs.l1 hs.l2 (by omega)
  have w3 := missing_book_ok ls ps.length (by omega) (fun b hb => hs.perm.mem_iff.mpr (List.mem_range.mpr hb))
  have lp : ((pricesD ps).length : Int) = (ps.length : Int) := by rw [List.length_map]
  have eE : envD 4 [shelfD ps ls] = [.val (shelfD ps ls), .no, .no, .no] := rfl
  have eG : G_check_shelf = gSeq (gIfS (gOrT (gNotT (gTru (gIsa "tuple" (gN 0)))) (gTst neD (gLenP 0) (gC (.int 2)))) (gRaise "BadShelf" ["part", "number"] (Pf.gCons (gUn negD (gC (.int 1))) (Pf.gCons (gC (.int 0)) Pf.gNil))) gNx) (gSeq (gAsg (bTup 2 (bCons (bN 1) (bCons (bN 2) bNil))) (gN 0)) (gSeq (gSet 3 (gCall m_wrong_price (Pf.gCons (gN 1) Pf.gNil))) (gSeq (gIfS (gTst isnD (gN 3) (gC .none)) (gRaise "BadShelf" ["part", "number"] (Pf.gCons (gC (.int 0)) (Pf.gCons (gN 3) Pf.gNil))) gNx) (gSeq (gSet 3 (gCall m_wrong_lot (Pf.gCons (gN 2) (Pf.gCons (gLenP 1) (Pf.gCons (gC (.int 1)) (Pf.gCons (gC (.int 5)) Pf.gNil)))))) (gSeq (gIfS (gTst isnD (gN 3) (gC .none)) (gRaise "BadShelf" ["part", "number"] (Pf.gCons (gC (.int 1)) (Pf.gCons (gN 3) Pf.gNil))) gNx) (gSeq (gSet 3 (gCall m_missing_book (Pf.gCons (gN 2) (Pf.gCons (gLenP 1) Pf.gNil)))) (gIfS (gTst isnD (gN 3) (gC .none)) (gRaise "BadShelf" ["part", "number"] (Pf.gCons (gC (.int 2)) (Pf.gCons (gN 3) Pf.gNil))) gNx))))))) := rfl
  have b0 : (gIfS (gOrT (gNotT (gTru (gIsa "tuple" (gN 0)))) (gTst neD (gLenP 0) (gC (.int 2)))) (gRaise "BadShelf" ["part", "number"] (Pf.gCons (gUn negD (gC (.int 1))) (Pf.gCons (gC (.int 0)) Pf.gNil))) gNx) [.val (shelfD ps ls), .no, .no, .no] = some (.nx [.val (shelfD ps ls), .no, .no, .no]) := rfl
  have b1 : gAsg (bTup 2 (bCons (bN 1) (bCons (bN 2) bNil))) (gN 0) [.val (shelfD ps ls), .no, .no, .no] = some (.nx [.val (shelfD ps ls), .val (.tuple (pricesD ps)), .val (.tuple (lotsD ls)), .no]) := rfl
  have c0 : (gIfS (gTst isnD (gN 3) (gC .none)) (gRaise "BadShelf" ["part", "number"] (Pf.gCons (gC (.int 0)) (Pf.gCons (gN 3) Pf.gNil))) gNx) [.val (shelfD ps ls), .val (.tuple (pricesD ps)), .val (.tuple (lotsD ls)), .val .none] = some (.nx [.val (shelfD ps ls), .val (.tuple (pricesD ps)), .val (.tuple (lotsD ls)), .val .none]) := rfl
  have c1 : (gIfS (gTst isnD (gN 3) (gC .none)) (gRaise "BadShelf" ["part", "number"] (Pf.gCons (gC (.int 1)) (Pf.gCons (gN 3) Pf.gNil))) gNx) [.val (shelfD ps ls), .val (.tuple (pricesD ps)), .val (.tuple (lotsD ls)), .val .none] = some (.nx [.val (shelfD ps ls), .val (.tuple (pricesD ps)), .val (.tuple (lotsD ls)), .val .none]) := rfl
  have c2 : (gIfS (gTst isnD (gN 3) (gC .none)) (gRaise "BadShelf" ["part", "number"] (Pf.gCons (gC (.int 2)) (Pf.gCons (gN 3) Pf.gNil))) gNx) [.val (shelfD ps ls), .val (.tuple (pricesD ps)), .val (.tuple (lotsD ls)), .val .none] = some (.nx [.val (shelfD ps ls), .val (.tuple (pricesD ps)), .val (.tuple (lotsD ls)), .val .none]) := rfl
  have d1 : gSet 3 (gCall m_wrong_price (Pf.gCons (gN 1) Pf.gNil)) [.val (shelfD ps ls), .val (.tuple (pricesD ps)), .val (.tuple (lotsD ls)), .no] = some (.nx [.val (shelfD ps ls), .val (.tuple (pricesD ps)), .val (.tuple (lotsD ls)), .val .none]) := by
    have z : (Pf.gCons (gN 1) Pf.gNil) [.val (shelfD ps ls), .val (.tuple (pricesD ps)), .val (.tuple (lotsD ls)), .no] = some (.ok ([.tuple (pricesD ps)], [.val (shelfD ps ls), .val (.tuple (pricesD ps)), .val (.tuple (lotsD ls)), .no])) := rfl
    have y : gCall m_wrong_price (Pf.gCons (gN 1) Pf.gNil) [.val (shelfD ps ls), .val (.tuple (pricesD ps)), .val (.tuple (lotsD ls)), .no] = some (.ok (.none, [.val (shelfD ps ls), .val (.tuple (pricesD ps)), .val (.tuple (lotsD ls)), .no])) := by
      show M.bd (Pf.gCons (gN 1) Pf.gNil) (fun ds => gLift (m_wrong_price ds)) _ = _
      rw [bd_ok z]
      show gLift (m_wrong_price [.tuple (pricesD ps)]) _ = _
      rw [w1]
      rfl
    show gE _ _ _ = _
    rw [gE_ok y]
    rfl
  have d2 : gSet 3 (gCall m_wrong_lot (Pf.gCons (gN 2) (Pf.gCons (gLenP 1) (Pf.gCons (gC (.int 1)) (Pf.gCons (gC (.int 5)) Pf.gNil))))) [.val (shelfD ps ls), .val (.tuple (pricesD ps)), .val (.tuple (lotsD ls)), .val .none] = some (.nx [.val (shelfD ps ls), .val (.tuple (pricesD ps)), .val (.tuple (lotsD ls)), .val .none]) := by
    have z : (Pf.gCons (gN 2) (Pf.gCons (gLenP 1) (Pf.gCons (gC (.int 1)) (Pf.gCons (gC (.int 5)) Pf.gNil)))) [.val (shelfD ps ls), .val (.tuple (pricesD ps)), .val (.tuple (lotsD ls)), .val .none] = some (.ok ([.tuple (lotsD ls), .int (pricesD ps).length, .int 1, .int 5], [.val (shelfD ps ls), .val (.tuple (pricesD ps)), .val (.tuple (lotsD ls)), .val .none])) := rfl
    have y : gCall m_wrong_lot (Pf.gCons (gN 2) (Pf.gCons (gLenP 1) (Pf.gCons (gC (.int 1)) (Pf.gCons (gC (.int 5)) Pf.gNil)))) [.val (shelfD ps ls), .val (.tuple (pricesD ps)), .val (.tuple (lotsD ls)), .val .none] = some (.ok (.none, [.val (shelfD ps ls), .val (.tuple (pricesD ps)), .val (.tuple (lotsD ls)), .val .none])) := by
      show M.bd (Pf.gCons (gN 2) (Pf.gCons (gLenP 1) (Pf.gCons (gC (.int 1)) (Pf.gCons (gC (.int 5)) Pf.gNil)))) (fun ds => gLift (m_wrong_lot ds)) _ = _
      rw [bd_ok z]
      show gLift (m_wrong_lot [.tuple (lotsD ls), .int (pricesD ps).length, .int 1, .int 5]) _ = _
      rw [lp, show m_wrong_lot [.tuple (lotsD ls), .int ps.length, .int 1, .int 5] = _ from w2]
      rfl
    show gE _ _ _ = _
    rw [gE_ok y]
    rfl
  have d3 : gSet 3 (gCall m_missing_book (Pf.gCons (gN 2) (Pf.gCons (gLenP 1) Pf.gNil))) [.val (shelfD ps ls), .val (.tuple (pricesD ps)), .val (.tuple (lotsD ls)), .val .none] = some (.nx [.val (shelfD ps ls), .val (.tuple (pricesD ps)), .val (.tuple (lotsD ls)), .val .none]) := by
    have z : (Pf.gCons (gN 2) (Pf.gCons (gLenP 1) Pf.gNil)) [.val (shelfD ps ls), .val (.tuple (pricesD ps)), .val (.tuple (lotsD ls)), .val .none] = some (.ok ([.tuple (lotsD ls), .int (pricesD ps).length], [.val (shelfD ps ls), .val (.tuple (pricesD ps)), .val (.tuple (lotsD ls)), .val .none])) := rfl
    have y : gCall m_missing_book (Pf.gCons (gN 2) (Pf.gCons (gLenP 1) Pf.gNil)) [.val (shelfD ps ls), .val (.tuple (pricesD ps)), .val (.tuple (lotsD ls)), .val .none] = some (.ok (.none, [.val (shelfD ps ls), .val (.tuple (pricesD ps)), .val (.tuple (lotsD ls)), .val .none])) := by
      show M.bd (Pf.gCons (gN 2) (Pf.gCons (gLenP 1) Pf.gNil)) (fun ds => gLift (m_missing_book ds)) _ = _
      rw [bd_ok z]
      show gLift (m_missing_book [.tuple (lotsD ls), .int (pricesD ps).length]) _ = _
      rw [lp, w3]
      rfl
    show gE _ _ _ = _
    rw [gE_ok y]
    rfl
  refine fnD_nx (r := [.val (shelfD ps ls), .val (.tuple (pricesD ps)), .val (.tuple (lotsD ls)), .val .none]) ?_
  rw [eE, eG, seq_nx b0, seq_nx b1, seq_nx d1, seq_nx c0, seq_nx d2, seq_nx c1, seq_nx d3, c2]
end Q
/-! part C15 -/
set_option Elab.async false
set_option linter.all false
set_option maxRecDepth 100000
set_option maxHeartbeats 2000000
namespace Q
open PySem PySem.Spec L2
open Pf
theorem set_ok {env env1 : En} {i : Nat} {ga : M PyData} {d : PyData} (h : ga env = some (.ok (d, env1))) : gSet i ga env = some (.nx (env1.set i (.val d))) := gE_ok h
theorem setO_ok {env env1 : En} {i : Nat} {ga : M (List PyData)} {ds : List PyData} (h : ga env = some (.ok (ds, env1))) : gSetO i ga env = some (.nx (env1.set i (.own ds))) := gE_ok h
theorem call_ok {α : Type} {env env1 : En} {m : List PyData → Rf α} {gl : M (List PyData)} {ds : List PyData} {r : α} (h : gl env = some (.ok (ds, env1))) (hm : m ds = some (.ok r)) : gCall m gl env = some (.ok (r, env1)) := by
  show M.bd gl (fun ds => gLift (m ds)) env = _
  rw [bd_ok h, hm]
  rfl
theorem call_er {α : Type} {env env1 : En} {m : List PyData → Rf α} {gl : M (List PyData)} {ds : List PyData} {x : Xc} (h : gl env = some (.ok (ds, env1))) (hm : m ds = some (.error x)) : gCall m gl env = some (.error (x, env1)) := by
  show M.bd gl (fun ds => gLift (m ds)) env = _
  rw [bd_ok h, hm]
  rfl
theorem cons_ok {env env1 env2 : En} {ga : M PyData} {gl : M (List PyData)} {d : PyData} {ds : List PyData} (h : ga env = some (.ok (d, env1))) (h2 : gl env1 = some (.ok (ds, env2))) : Pf.gCons ga gl env = some (.ok (d :: ds, env2)) := by
  show M.bd ga (fun d => M.bd gl fun ds => M.ok (d :: ds)) env = _
  rw [bd_ok h, bd_ok h2]
  rfl
theorem bin_ok {env env1 env2 : En} {f : PyData → PyData → Option PyData} {ga gb : M PyData} {d e r : PyData} (h : ga env = some (.ok (d, env1))) (h2 : gb env1 = some (.ok (e, env2))) (h3 : f d e = some r) : gBin f ga gb env = some (.ok (r, env2)) := by
  show M.bd ga (fun d => M.bd gb fun e => M.opt (f d e)) env = _
  rw [bd_ok h, bd_ok h2]
  exact opt_ok h3
theorem tst_ok {env env1 env2 : En} {f : PyData → PyData → Option Bool} {ga gb : M PyData} {d e : PyData} {r : Bool} (h : ga env = some (.ok (d, env1))) (h2 : gb env1 = some (.ok (e, env2))) (h3 : f d e = some r) : gTst f ga gb env = some (.ok (r, env2)) := by
  show M.bd ga (fun d => M.bd gb fun e => M.opt (f d e)) env = _
  rw [bd_ok h, bd_ok h2]
  exact opt_ok h3
theorem forR1_ok {env env1 : En} {ga : M PyData} {b : PyData → En → Option En} {g : S} {n : Nat} (hga : ga env = some (.ok (.int n, env1))) (hn : n < 1000000) : gForR1 ga b g env = loopL b g (nats (List.range' 0 n)) env1 := by
  unfold gForR1
  rw [gE_ok hga]
  simp only
  rw [if_pos (by omega), Int.toNat_natCast, rng_nats, List.range_eq_range']
theorem nil_ok {env : En} : Pf.gNil env = some (.ok ([], env)) := rfl
theorem placed_len (ls : List (List Nat)) (b k : Nat) (first : Bool) : (placed ls b k first).length = ls.length := by simp [placed]
theorem seq_to {g h : S} {env env1 : En} {o : Option Out} (h1 : g env = some (.nx env1)) (h2 : h env1 = o) : gSeq g h env = o := by rw [seq_nx h1]; exact h2
end Q
/-! part C16 -/
set_option Elab.async false
set_option linter.all false
set_option maxRecDepth 100000
set_option maxHeartbeats 2000000
namespace Q
open PySem PySem.Spec L2
open Pf
theorem loopC_fm {α : Type} (toD : α → PyData) (t : α → Bool) (e : α → PyData) {vs : List Nat} {b : PyData → En → Option En} {gt : M Bool} {ge : M PyData} {env0 : En} : ∀ (xs : List α) (acc : List PyData),
    (∀ x ∈ xs, ∃ env1 env2, b (toD x) env0 = some env1 ∧ gt env1 = some (.ok (t x, env2)) ∧ (t x = false → wipeE vs env2 = env0) ∧ (t x = true → ∃ env3, ge env2 = some (.ok (e x, env3)) ∧ wipeE vs env3 = env0)) →
    acc.length + xs.length < 16777216 → loopC vs b gt ge (xs.map toD) acc env0 = some (acc ++ (xs.filter t).map e, env0)
  | [], acc, _, _ => by simp [loopC]
  | x :: xs, acc, h, hl => by
    obtain ⟨env1, env2, h1, h2, h3, h4⟩ := h x List.mem_cons_self
    have hr : ∀ y ∈ xs, _ := fun y hy => h y (List.mem_cons_of_mem _ hy)
    simp only [List.length_cons] at hl
    rw [List.map_cons]
    unfold loopC
    rw [h1]
    simp only
    rw [h2]
    cases ht : t x with
    | false =>
      simp only
      rw [h3 ht, loopC_fm toD t e xs acc hr (by omega), List.filter_cons_of_neg (by simp [ht])]
    | true =>
      obtain ⟨env3, h5, h6⟩ := h4 ht
      simp only [h5]
      rw [if_pos (by omega), h6, loopC_fm toD t e xs (acc ++ [e x]) hr (by simp; omega), List.filter_cons_of_pos (by simp [ht])]
      simp
theorem gLc_fm {α : Type} (toD : α → PyData) (t : α → Bool) (e : α → PyData) {vs : List Nat} {b : PyData → En → Option En} {gt : M Bool} {ge : M PyData} {env env0 env2 : En} (xs : List α) (hw : wipeE vs env = env0)
    (h : ∀ x ∈ xs, ∃ env1 env2, b (toD x) env0 = some env1 ∧ gt env1 = some (.ok (t x, env2)) ∧ (t x = false → wipeE vs env2 = env0) ∧ (t x = true → ∃ env3, ge env2 = some (.ok (e x, env3)) ∧ wipeE vs env3 = env0))
    (hl : xs.length < 16777216) (hb : backE env vs env0 = env2) : gLc vs b gt ge (xs.map toD) env = some (.ok ((xs.filter t).map e, env2)) := by
  unfold gLc
  rw [hw, loopC_fm toD t e xs [] h (by simpa using hl)]
  simp only [List.nil_append]
  rw [hb]
section
variable {α : Type} (toD : α → PyData) (t : α → Bool) (e : α → PyData) {vs : List Nat} {b : PyData → En → Option En} {gt : M Bool} {ge ga : M PyData} {gi : M (List PyData)} {env env0 env1 env2 : En} {j : Nat} (xs : List α)
theorem lcG_fm (hg : gi env = some (.ok (xs.map toD, env1))) (hw : wipeE vs env1 = env0)
    (h : ∀ x ∈ xs, ∃ env1 env2, b (toD x) env0 = some env1 ∧ gt env1 = some (.ok (t x, env2)) ∧ (t x = false → wipeE vs env2 = env0) ∧ (t x = true → ∃ env3, ge env2 = some (.ok (e x, env3)) ∧ wipeE vs env3 = env0))
    (hl : xs.length < 16777216) (hb : backE env1 vs env0 = env2) : gLcG vs b gt ge gi env = some (.ok ((xs.filter t).map e, env2)) := by
  show M.bd gi (fun ds => gLc vs b gt ge ds) env = _
  rw [bd_ok hg]
  exact gLc_fm toD t e xs hw h hl hb
theorem lcT_fm (hg : ga env = some (.ok (.tuple (xs.map toD), env1))) (hw : wipeE vs env1 = env0)
    (h : ∀ x ∈ xs, ∃ env1 env2, bN j (toD x) env0 = some env1 ∧ gt env1 = some (.ok (t x, env2)) ∧ (t x = false → wipeE vs env2 = env0) ∧ (t x = true → ∃ env3, ge env2 = some (.ok (e x, env3)) ∧ wipeE vs env3 = env0))
    (hl : xs.length < 16777216) (hb : backE env1 vs env0 = env2) : gLcT vs j gt ge ga env = some (.ok ((xs.filter t).map e, env2)) := by
  show M.bd ga (fun d => M.bd (M.opt (tupO d)) fun ds => gLc vs (bN j) gt ge ds) env = _
  rw [bd_ok hg]
  exact gLc_fm toD t e xs hw h hl hb
theorem lcL_fm (hg : ga env = some (.ok (.list (xs.map toD), env1))) (hw : wipeE vs env1 = env0)
    (h : ∀ x ∈ xs, ∃ env1 env2, bN j (toD x) env0 = some env1 ∧ gt env1 = some (.ok (t x, env2)) ∧ (t x = false → wipeE vs env2 = env0) ∧ (t x = true → ∃ env3, ge env2 = some (.ok (e x, env3)) ∧ wipeE vs env3 = env0))
    (hl : xs.length < 16777216) (hb : backE env1 vs env0 = env2) : gLcL vs j gt ge ga env = some (.ok ((xs.filter t).map e, env2)) := by
  show M.bd ga (fun d => M.bd (M.opt (lstO d)) fun ds => gLc vs (bN j) gt ge ds) env = _
  rw [bd_ok hg]
  exact gLc_fm toD t e xs hw h hl hb
theorem lcR_fm {n : Nat} (t : Nat → Bool) (e : Nat → PyData) (hg : ga env = some (.ok (.int n, env1))) (hn : n < 1000000) (hw : wipeE vs env1 = env0)
    (h : ∀ x, x < n → ∃ env1 env2, bN j (.int (x : Nat)) env0 = some env1 ∧ gt env1 = some (.ok (t x, env2)) ∧ (t x = false → wipeE vs env2 = env0) ∧ (t x = true → ∃ env3, ge env2 = some (.ok (e x, env3)) ∧ wipeE vs env3 = env0))
    (hb : backE env1 vs env0 = env2) : gLcR vs j gt ge ga env = some (.ok (((List.range n).filter t).map e, env2)) := by
  have r : rngO (.int (n : Int)) = some (nats (List.range n)) := by
    unfold rngO
    simp only
    rw [if_pos (by omega), Int.toNat_natCast, rng_nats]
  show M.bd ga (fun d => M.bd (M.opt (rngO d)) fun ds => gLc vs (bN j) gt ge ds) env = _
  rw [bd_ok hg, bd_ok (opt_ok r)]
  exact gLc_fm (fun (x : Nat) => PyData.int (x : Int)) t e (List.range n) hw (fun x hx => h x (List.mem_range.mp hx)) (by rw [List.length_range]; omega) hb
end
theorem back_no {env : En} {j : Nat} (h : env[j]? = some .no) : backE env [j] env = env := by
  show env.set j (match env[j]? with
    | some (.val d) => .val d
    | _ => .no) = env
  rw [h]
  apply List.ext_getElem?
  intro i
  by_cases e : i = j
  · subst e
    rw [List.getElem?_set_self (List.getElem?_eq_some_iff.mp h).1, h]
  · rw [List.getElem?_set_ne (Ne.symm e)]
theorem wipe_no {env : En} {j : Nat} (h : env[j]? = some .no) : wipeE [j] env = env := by
  have := back_no h
  show env.set j .no = env
  unfold backE at this
  rw [h] at this
  exact this
section
variable {α : Type} (toD : α → PyData) (t : α → Bool) (e : α → PyData) {gt : M Bool} {ge ga : M PyData} {gi : M (List PyData)} {env env1 : En} {j : Nat} (xs : List α)
theorem lcG1 (hg : gi env = some (.ok (xs.map toD, env1))) (hj : env1[j]? = some .no) (ht : ∀ x ∈ xs, gt (env1.set j (.val (toD x))) = some (.ok (t x, env1.set j (.val (toD x))))) (he : ∀ x ∈ xs, t x = true → ge (env1.set j (.val (toD x))) = some (.ok (e x, env1.set j (.val (toD x))))) (hl : xs.length < 16777216) :
    gLcG [j] (bN j) gt ge gi env = some (.ok ((xs.filter t).map e, env1)) :=
  lcG_fm toD t e xs hg (wipe_no hj) (fun x hx => ⟨_, _, rfl, ht x hx, fun _ => set_back hj, fun h => ⟨_, he x hx h, set_back hj⟩⟩) hl (back_no hj)
theorem lcT1 (hg : ga env = some (.ok (.tuple (xs.map toD), env1))) (hj : env1[j]? = some .no) (ht : ∀ x ∈ xs, gt (env1.set j (.val (toD x))) = some (.ok (t x, env1.set j (.val (toD x))))) (he : ∀ x ∈ xs, t x = true → ge (env1.set j (.val (toD x))) = some (.ok (e x, env1.set j (.val (toD x))))) (hl : xs.length < 16777216) :
    gLcT [j] j gt ge ga env = some (.ok ((xs.filter t).map e, env1)) :=
  lcT_fm toD t e xs hg (wipe_no hj) (fun x hx => ⟨_, _, rfl, ht x hx, fun _ => set_back hj, fun h => ⟨_, he x hx h, set_back hj⟩⟩) hl (back_no hj)
theorem lcL1 (hg : ga env = some (.ok (.list (xs.map toD), env1))) (hj : env1[j]? = some .no) (ht : ∀ x ∈ xs, gt (env1.set j (.val (toD x))) = some (.ok (t x, env1.set j (.val (toD x))))) (he : ∀ x ∈ xs, t x = true → ge (env1.set j (.val (toD x))) = some (.ok (e x, env1.set j (.val (toD x))))) (hl : xs.length < 16777216) :
    gLcL [j] j gt ge ga env = some (.ok ((xs.filter t).map e, env1)) :=
  lcL_fm toD t e xs hg (wipe_no hj) (fun x hx => ⟨_, _, rfl, ht x hx, fun _ => set_back hj, fun h => ⟨_, he x hx h, set_back hj⟩⟩) hl (back_no hj)
theorem lcR1 {n : Nat} (t : Nat → Bool) (e : Nat → PyData) (hg : ga env = some (.ok (.int n, env1))) (hn : n < 1000000) (hj : env1[j]? = some .no) (ht : ∀ x, x < n → gt (env1.set j (.val (.int (x : Nat)))) = some (.ok (t x, env1.set j (.val (.int (x : Nat)))))) (he : ∀ x, x < n → t x = true → ge (env1.set j (.val (.int (x : Nat)))) = some (.ok (e x, env1.set j (.val (.int (x : Nat)))))) :
    gLcR [j] j gt ge ga env = some (.ok (((List.range n).filter t).map e, env1)) :=
  lcR_fm t e hg hn (wipe_no hj) (fun x hx => ⟨_, _, rfl, ht x hx, fun _ => set_back hj, fun h => ⟨_, he x hx h, set_back hj⟩⟩) (back_no hj)
end
theorem eqvAll_nats : ∀ a b : List Nat, PyData.eqvAll (nats a) (nats b) = (a == b)
  | [], [] => by simp [PyData.eqvAll, nats]
  | [], y :: b => by simp [PyData.eqvAll, nats]
  | x :: a, [] => by simp [PyData.eqvAll, nats]
  | x :: a, y :: b => by
    have ih := eqvAll_nats a b
    simp only [nats, List.map_cons, PyData.eqvAll, PyData.eqv] at ih ⊢
    rw [ih, Bool.eq_iff_iff]
    simp
    omega
theorem eqD_natsL (a b : List Nat) : eqD (.list (nats a)) (.list (nats b)) = some (a == b) := by
  rw [eqD_ok (k := 1) (j := 1) (okD_list nats_ok) (okD_list nats_ok) (by decide) (by decide)]
  simp [PyData.eqv, eqvAll_nats]
end Q
/-! part C17 -/
set_option Elab.async false
set_option linter.all false
set_option maxRecDepth 100000
set_option maxHeartbeats 2000000
namespace Q
open PySem PySem.Spec L2
open Pf
theorem fnO_ro {G : S} {N : Nat} {ds es : List PyData} {r : En} (h : G (envD N ds) = some (.ro es r)) : fnO G N ds = some (.ok es) := by unfold fnO; rw [h]
theorem fnO_er {G : S} {N : Nat} {ds : List PyData} {x : Xc} {r : En} (h : G (envD N ds) = some (.er x r)) : fnO G N ds = some (.error x) := by unfold fnO; rw [h]
theorem retO_ok {env env1 : En} {go : M (List PyData)} {es : List PyData} (h : go env = some (.ok (es, env1))) : gRetO go env = some (.ro es env1) := gE_ok h
theorem ret_ok {env env1 : En} {ga : M PyData} {d : PyData} (h : ga env = some (.ok (d, env1))) : gRet ga env = some (.rt d env1) := gE_ok h
def prB (ps : List (Option Nat)) (b : Nat) : Nat := (ps[b]?.join).getD 0
def fxB (ps : List (Option Nat)) (b : Nat) : Bool := (ps[b]?.join).isNone
theorem isD_price (p : Option Nat) : isD (priceD p) .none = some p.isNone := by cases p <;> rfl
theorem isnD_price (p : Option Nat) : isnD (priceD p) .none = some (!p.isNone) := by cases p <;> rfl
theorem fxB_at {ps : List (Option Nat)} {b : Nat} (h : b < ps.length) : fxB ps b = (ps[b]).isNone := by unfold fxB; rw [List.getElem?_eq_getElem h]; rfl
theorem prB_at {ps : List (Option Nat)} {b : Nat} (h : b < ps.length) : prB ps b = (ps[b]).getD 0 := by unfold prB; rw [List.getElem?_eq_getElem h]; rfl
theorem price_at {ps : List (Option Nat)} {k : Nat} (h : k < ps.length) : (pricesD ps)[k]? = some (priceD ps[k]) := by
  show (ps.map _)[k]? = _
  rw [List.getElem?_map, List.getElem?_eq_getElem h]; rfl
abbrev natD (x : Nat) : PyData := .int (x : Int)
section
variable {ps : List (Option Nat)} {l : List Nat}
theorem ix_price {env : En} {i j b : Nat} (hi : env[i]? = some (.val (.tuple (pricesD ps)))) (hj : env[j]? = some (.val (.int b))) (hb : b < ps.length) : gIxP i (gN j) env = some (.ok (priceD ps[b], env)) :=
  ixP_tup (ds := pricesD ps) (ds1 := pricesD ps) (k := b) hi (n_val hj) hi (price_at hb)
theorem fixed_books_ok (hb : ∀ b ∈ l, b < ps.length) (hl : l.length < 1000000) : m_fixed_books [.tuple (pricesD ps), .tuple (nats l)] = some (.ok (nats (l.filter (fxB ps)))) := by
  refine fnO_ro (r := [.val (.tuple (pricesD ps)), .val (.tuple (nats l)), .no]) ?_
  refine retO_ok (lcT1 natD (fxB ps) natD l (env1 := [.val (.tuple (pricesD ps)), .val (.tuple (nats l)), .no]) rfl rfl (fun x hx => ?_) (fun x hx _ => rfl) (by omega))
  have h1 : gIxP 0 (gN 2) [.val (.tuple (pricesD ps)), .val (.tuple (nats l)), .val (.int x)] = _ := ix_price rfl rfl (hb x hx)
  have h2 : isD (priceD (ps[x]'(hb x hx))) .none = some (fxB ps x) := by rw [isD_price, fxB_at (hb x hx)]
  show M.bd (gIxP 0 (gN 2)) _ [.val (.tuple (pricesD ps)), .val (.tuple (nats l)), .val (.int x)] = _
  rw [bd_ok h1]
  exact opt_ok h2
theorem intsO_nats {α : Type} (f : α → Nat) : ∀ xs : List α, intsO (xs.map fun x => PyData.int (f x : Int)) = some (xs.map fun x => (f x : Int))
  | [] => rfl
  | x :: xs => by simp [intsO, intsO_nats f xs]
theorem sum_cast {α : Type} (f : α → Nat) : ∀ xs : List α, (xs.map fun x => (f x : Int)).sum = ((xs.map f).sum : Nat)
  | [] => rfl
  | x :: xs => by simp [sum_cast f xs]
theorem sumK_nats {α : Type} (f : α → Nat) (xs : List α) : sumK [.list (xs.map fun x => PyData.int (f x : Int))] = some (.int ((xs.map f).sum : Nat)) := by
  unfold sumK
  simp only
  rw [intsO_nats, Option.map_some, sum_cast]
theorem sum_priced (ps : List (Option Nat)) : ∀ l : List Nat, ((l.filter fun b => !fxB ps b).map (prB ps)).sum = sumP (prB ps) l
  | [] => rfl
  | b :: l => by
    have ih := sum_priced ps l
    rw [sumP_cons, ← ih]
    by_cases h : fxB ps b = true
    · rw [List.filter_cons_of_neg (by simp [h])]
      have : prB ps b = 0 := by
        unfold fxB at h
        unfold prB
        rw [Option.isNone_iff_eq_none] at h
        rw [h]; rfl
      omega
    · rw [List.filter_cons_of_pos (by simp [h])]
      simp
theorem price_of_ok (hb : ∀ b ∈ l, b < ps.length) (hl : l.length < 1000000) : m_price_of [.tuple (pricesD ps), .tuple (nats l)] = some (.ok (.int (sumP (prB ps) l))) := by
  refine fnD_rt (r := [.val (.tuple (pricesD ps)), .val (.tuple (nats l)), .no]) ?_
  have c : gLcT [2] 2 t1_price_of e2_price_of (gN 1) [.val (.tuple (pricesD ps)), .val (.tuple (nats l)), .no] = some (.ok ((l.filter fun b => !fxB ps b).map fun b => PyData.int (prB ps b : Int), [.val (.tuple (pricesD ps)), .val (.tuple (nats l)), .no])) := by
    refine lcT1 natD (fun b => !fxB ps b) (fun b => PyData.int (prB ps b : Int)) l rfl rfl (fun x hx => ?_) (fun x hx ht => ?_) (by omega)
    · have h1 : gIxP 0 (gN 2) [.val (.tuple (pricesD ps)), .val (.tuple (nats l)), .val (.int x)] = _ := ix_price rfl rfl (hb x hx)
      have h2 : isnD (priceD (ps[x]'(hb x hx))) .none = some (!fxB ps x) := by rw [isnD_price, fxB_at (hb x hx)]
      show M.bd (gIxP 0 (gN 2)) _ [.val (.tuple (pricesD ps)), .val (.tuple (nats l)), .val (.int x)] = _
      rw [bd_ok h1]
      exact opt_ok h2
    · have h1 : gIxP 0 (gN 2) [.val (.tuple (pricesD ps)), .val (.tuple (nats l)), .val (.int x)] = _ := ix_price rfl rfl (hb x hx)
      refine h1.trans ?_
      rw [fxB_at (hb x hx)] at ht
      rw [prB_at (hb x hx)]
      cases h : ps[x]'(hb x hx) with
      | none => rw [h] at ht; cases ht
      | some p => rfl
  have z : gFz (gLcT [2] 2 t1_price_of e2_price_of (gN 1)) [.val (.tuple (pricesD ps)), .val (.tuple (nats l)), .no] = _ := (bd_ok c).trans rfl
  have y : gBlt sumK (Pf.gCons (gFz (gLcT [2] 2 t1_price_of e2_price_of (gN 1))) Pf.gNil) [.val (.tuple (pricesD ps)), .val (.tuple (nats l)), .no] = _ := (bd_ok (cons_ok z nil_ok)).trans (opt_ok (sumK_nats (prB ps) _))
  rw [sum_priced] at y
  exact ret_ok y
theorem stands_ok (l part : List Nat) (hl : l.length < 1000000) : m_stands [.tuple (nats l), .tuple (nats part)] = some (.ok (.bool (stand l part))) := by
  refine fnD_rt (r := [.val (.tuple (nats l)), .val (.tuple (nats part)), .no]) ?_
  have c : gLcT [2] 2 t1_stands e2_stands (gN 0) [.val (.tuple (nats l)), .val (.tuple (nats part)), .no] = some (.ok ((l.filter fun x => decide (x ∈ part)).map natD, [.val (.tuple (nats l)), .val (.tuple (nats part)), .no])) :=
    lcT1 natD (fun x => decide (x ∈ part)) natD l rfl rfl (fun x hx => opt_ok (inD_nats x part)) (fun x hx ht => rfl) (by omega)
  have z : gFz (gLcT [2] 2 t1_stands e2_stands (gN 0)) [.val (.tuple (nats l)), .val (.tuple (nats part)), .no] = _ := (bd_ok c).trans rfl
  have y : gCmp eqD (gFz (gLcT [2] 2 t1_stands e2_stands (gN 0))) (gFz (Pf.gList (gN 1))) [.val (.tuple (nats l)), .val (.tuple (nats part)), .no] = some (.ok (.bool (stand l part), [.val (.tuple (nats l)), .val (.tuple (nats part)), .no])) := by
    refine (bd_ok z).trans ?_
    show M.opt ((eqD (.list (nats (l.filter fun x => decide (x ∈ part)))) (.list (nats part))).map PyData.bool) _ = _
    rw [eqD_natsL]
    rfl
  exact ret_ok y
end
end Q
/-! part C18 -/
set_option Elab.async false
set_option linter.all false
set_option maxRecDepth 100000
set_option maxHeartbeats 2000000
namespace Q
open PySem PySem.Spec L2
open Pf
theorem loopL_inv' {α : Type} (toD : α → PyData) {b : PyData → En → Option En} {g : S} (I : List α → En → Prop) (all : List α) : ∀ (xs done : List α) (env : En), all = done ++ xs → I done env →
    (∀ done x post env, all = done ++ x :: post → I done env → ∃ env1 env2, b (toD x) env = some env1 ∧ (g env1 = some (.nx env2) ∨ g env1 = some (.ct env2)) ∧ I (done ++ [x]) env2) →
    ∃ env', loopL b g (xs.map toD) env = some (.nx env') ∧ I all env'
  | [], done, env, ha, h, _ => ⟨env, rfl, by rw [ha, List.append_nil]; exact h⟩
  | x :: xs, done, env, ha, h, H => by
    obtain ⟨env1, env2, h1, h2, h3⟩ := H done x xs env ha h
    obtain ⟨env', i1, i2⟩ := loopL_inv' toD I all xs (done ++ [x]) env2 (by rw [ha, List.append_assoc]; rfl) h3 H
    refine ⟨env', ?_, i2⟩
    rw [List.map_cons]
    unfold loopL
    rw [h1]
    rcases h2 with h2 | h2
    · simp only [h2]; exact i1
    · simp only [h2]; exact i1
theorem loopL_inv {α : Type} (toD : α → PyData) {b : PyData → En → Option En} {g : S} (I : List α → En → Prop) (xs : List α) (env : En) (h : I [] env)
    (H : ∀ done x post env, xs = done ++ x :: post → I done env → ∃ env1 env2, b (toD x) env = some env1 ∧ (g env1 = some (.nx env2) ∨ g env1 = some (.ct env2)) ∧ I (done ++ [x]) env2) :
    ∃ env', loopL b g (xs.map toD) env = some (.nx env') ∧ I xs env' := loopL_inv' toD I xs xs [] env rfl h H
theorem forG_ok {gi : M (List PyData)} {b : PyData → En → Option En} {g : S} {env env1 : En} {ds : List PyData} (h : gi env = some (.ok (ds, env1))) : gForG gi b g env = loopL b g ds env1 := gE_ok h
theorem forEL_ok {ga : M PyData} {b : PyData → En → Option En} {g : S} {env env1 : En} {ds : List PyData} (h : ga env = some (.ok (.list ds, env1))) (hl : ds.all looseP = true) : gForEL ga b g env = loopL b g (enumK 0 ds) env1 := by
  unfold gForEL
  rw [gE_ok h]
  simp only
  rw [if_pos hl, enum_K]
theorem loose_map {α : Type} (f : α → PyData) (h : ∀ x, looseP (f x) = true) (xs : List α) : (xs.map f).all looseP = true := by
  rw [List.all_map]
  exact List.all_eq_true.mpr fun x _ => h x
theorem cutD_nats (w : List Nat) (s p : Nat) (h1 : s ≤ w.length) (h2 : p ≤ w.length) : cutD (nats w) (some (s : Int)) (some (p : Int)) = nats (cut w s p) := by
  unfold cutD cut
  rw [HT.sIx_nat, HT.sIx_nat, nats_len, Nat.min_eq_left h1, Nat.min_eq_left h2]
  show ((w.map _).drop s).take (p - s) = (((w.drop s).take (p - s)).map _)
  rw [List.map_take, List.map_drop]
theorem cutD_to (w : List Nat) (s : Nat) (h1 : s ≤ w.length) : cutD (nats w) none (some (s : Int)) = nats (w.take s) := by
  have := cutD_nats w 0 s (Nat.zero_le _) h1
  unfold cut at this
  rw [List.drop_zero, Nat.sub_zero] at this
  rw [← this]
  rfl
theorem cutD_from (w : List Nat) (s : Nat) (h1 : s ≤ w.length) : cutD (nats w) (some (s : Int)) none = nats (w.drop s) := by
  have := cutD_nats w s w.length h1 (Nat.le_refl _)
  unfold cut at this
  have e : (w.drop s).take (w.length - s) = w.drop s := List.take_of_length_le (by rw [List.length_drop]; exact Nat.le_refl _)
  rw [e] at this
  rw [← this]
  unfold cutD
  have e2 : HT.sIx (nats w).length (nats w).length (some (w.length : Int)) = HT.sIx (nats w).length (nats w).length none := by
    rw [HT.sIx_nat, HT.sIx_none, nats_len, Nat.min_self]
  rw [e2]
theorem rng2_nats (s n : Nat) (h1 : s ≤ n) (h2 : n < 1000000) : rng2O (.int ((s : Int) + 1)) (.int ((n : Int) + 1)) = some (nats (List.range' (s + 1) (n - s))) := by
  unfold rng2O
  simp only
  rw [if_pos (by omega)]
  have e : ((n : Int) + 1 - ((s : Int) + 1)).toNat = n - s := by omega
  rw [e]
  congr 1
  unfold rngD nats
  rw [List.range_eq_range']
  have : List.range' (s + 1) (n - s) = (List.range' 0 (n - s)).map (fun x => (s + 1) + x) := by
    rw [List.map_add_range']
  rw [this, List.map_map]
  refine List.map_congr_left fun x _ => ?_
  show PyData.int _ = PyData.int _
  congr 1
end Q
/-! part C19 -/
set_option Elab.async false
set_option linter.all false
set_option maxRecDepth 100000
set_option maxHeartbeats 2000000
namespace Q
open PySem PySem.Spec L2
open Pf
def isL (x : Sl) (xs : List PyData) : Prop := x = .own xs ∨ x = .val (.list xs)
theorem gN_isL {env : En} {i : Nat} {x : Sl} {xs : List PyData} (h : env[i]? = some x) (hx : isL x xs) : gN i env = some (.ok (.list xs, env.set i (.val (.list xs)))) := by
  rcases hx with rfl | rfl
  · exact n_own h
  · rw [n_val h]
    congr 2
    congr 1
    apply List.ext_getElem?
    intro j
    by_cases e : j = i
    · subst e
      rw [List.getElem?_set_self (List.getElem?_eq_some_iff.mp h).1, h]
    · rw [List.getElem?_set_ne (Ne.symm e)]
def pairD (z : Nat × Nat) : PyData := .tuple [natD z.1, natD z.2]
def pairsD (zs : List (Nat × Nat)) : List PyData := zs.map pairD
theorem pairsD_len (zs : List (Nat × Nat)) : (pairsD zs).length = zs.length := List.length_map ..
theorem tru_ok {ga : M PyData} {env env1 : En} {d : PyData} {k : Bool} (h : ga env = some (.ok (d, env1))) (h2 : truD d = some k) : gTru ga env = some (.ok (k, env1)) := (bd_ok h).trans (opt_ok h2)
theorem fz_ok {gl : M (List PyData)} {env env1 : En} {ds : List PyData} (h : gl env = some (.ok (ds, env1))) : gFz gl env = some (.ok (.list ds, env1)) := (bd_ok h).trans rfl
theorem andT_f {ga gb : M Bool} {env env1 : En} (h : ga env = some (.ok (false, env1))) : gAndT ga gb env = some (.ok (false, env1)) := (bd_ok h).trans rfl
theorem andT_t {ga gb : M Bool} {env env1 : En} (h : ga env = some (.ok (true, env1))) : gAndT ga gb env = gb env1 := (bd_ok h).trans rfl
theorem orT_t {ga gb : M Bool} {env env1 : En} (h : ga env = some (.ok (true, env1))) : gOrT ga gb env = some (.ok (true, env1)) := (bd_ok h).trans rfl
theorem orT_f {ga gb : M Bool} {env env1 : En} (h : ga env = some (.ok (false, env1))) : gOrT ga gb env = gb env1 := (bd_ok h).trans rfl
theorem notT_ok {ga : M Bool} {env env1 : En} {k : Bool} (h : ga env = some (.ok (k, env1))) : gNotT ga env = some (.ok (!k, env1)) := (bd_ok h).trans rfl
section
variable {ps : List (Option Nat)} {l w : List Nat} {P L W N : PyData}
abbrev envH (ps : List (Option Nat)) (l w : List Nat) (x3 : Sl) (acc : List (Nat × Nat)) (x6 x7 x8 : Sl) : En := [.val (.tuple (pricesD ps)), .val (.tuple (nats l)), .val (.tuple (nats w)), x3, .val (natD w.length), .own (pairsD acc), x6, x7, x8]
theorem hold_body (hb : ∀ b ∈ w, b < ps.length) (hl : l.length < 1000) (hw : w.length < 1000) {s p : Nat} (hsp : s ≤ p) (hp : p ≤ w.length) (acc : List (Nat × Nat)) (ha : acc.length < 1000000) (x3 x8 : Sl) (h3 : isL x3 (nats (w.filter (fxB ps)))) :
    ∃ x3' x8', isL x3' (nats (w.filter (fxB ps))) ∧ b1_holding (envH ps l w x3 acc (.val (natD s)) (.val (natD p)) x8) = some (.nx (envH ps l w x3' (acc ++ if holdB (fxB ps) l w s p then [(s, p)] else []) (.val (natD s)) (.val (natD p)) x8')) := by
  have a1 : gSet 8 (gSlT (gN 2) (gPt (gN 6)) (gPt (gN 7))) (envH ps l w x3 acc (.val (natD s)) (.val (natD p)) x8) = some (.nx (envH ps l w x3 acc (.val (natD s)) (.val (natD p)) (.val (.tuple (nats (cut w s p)))))) := by
    have q : gSlT (gN 2) (gPt (gN 6)) (gPt (gN 7)) (envH ps l w x3 acc (.val (natD s)) (.val (natD p)) x8) = some (.ok (.tuple (cutD (nats w) (some (s : Int)) (some (p : Int))), envH ps l w x3 acc (.val (natD s)) (.val (natD p)) x8)) := rfl
    rw [cutD_nats w s p (by omega) hp] at q
    exact (set_ok q).trans rfl
  have hcut : (cut w s p).length ≤ w.length := by unfold cut; rw [List.length_take, List.length_drop]; omega
  have hbc : ∀ b ∈ cut w s p, b < ps.length := fun b hm => hb b (List.mem_of_mem_drop (List.mem_of_mem_take hm))
  have c1 : gTru (gCall m_stands (Pf.gCons (gN 1) (Pf.gCons (gN 8) Pf.gNil))) (envH ps l w x3 acc (.val (natD s)) (.val (natD p)) (.val (.tuple (nats (cut w s p))))) = some (.ok (stand l (cut w s p), envH ps l w x3 acc (.val (natD s)) (.val (natD p)) (.val (.tuple (nats (cut w s p)))))) :=
    tru_ok (call_ok (cons_ok (n_val rfl) (cons_ok (n_val rfl) nil_ok)) (stands_ok l (cut w s p) (by omega))) rfl
  cases hst : stand l (cut w s p) with
  | false =>
    have hh : holdB (fxB ps) l w s p = false := by unfold holdB; rw [hst]; rfl
    rw [hst] at c1
    refine ⟨x3, .val (.tuple (nats (cut w s p))), h3, ?_⟩
    rw [hh]
    unfold b1_holding
    rw [seq_nx a1, ifS_f (andT_f c1)]
    show some (Out.nx _) = _
    simp
  | true =>
    rw [hst] at c1
    have f1 : gFz (gCall m_fixed_books (Pf.gCons (gN 0) (Pf.gCons (gN 8) Pf.gNil))) (envH ps l w x3 acc (.val (natD s)) (.val (natD p)) (.val (.tuple (nats (cut w s p))))) = some (.ok (.list (nats ((cut w s p).filter (fxB ps))), envH ps l w x3 acc (.val (natD s)) (.val (natD p)) (.val (.tuple (nats (cut w s p)))))) :=
      fz_ok (call_ok (cons_ok (n_val rfl) (cons_ok (n_val rfl) nil_ok)) (fixed_books_ok hbc (by omega)))
    have f2 : gN 3 (envH ps l w x3 acc (.val (natD s)) (.val (natD p)) (.val (.tuple (nats (cut w s p))))) = some (.ok (.list (nats (w.filter (fxB ps))), envH ps l w (.val (.list (nats (w.filter (fxB ps))))) acc (.val (natD s)) (.val (natD p)) (.val (.tuple (nats (cut w s p)))))) := gN_isL rfl h3
    have t := (andT_t c1).trans (tst_ok f1 f2 (eqD_natsL _ _))
    have hh : holdB (fxB ps) l w s p = ((cut w s p).filter (fxB ps) == w.filter (fxB ps)) := by unfold holdB; rw [hst]; rfl
    refine ⟨.val (.list (nats (w.filter (fxB ps)))), .val (.tuple (nats (cut w s p))), .inr rfl, ?_⟩
    rw [hh]
    unfold b1_holding
    rw [seq_nx a1]
    cases hk : ((cut w s p).filter (fxB ps) == w.filter (fxB ps)) with
    | false =>
      rw [hk] at t
      rw [ifS_f t]
      show some (Out.nx _) = _
      simp
    | true =>
      rw [hk] at t
      rw [ifS_t t, app_own (ds := pairsD acc) (ds1 := pairsD acc) (x := pairD (s, p)) rfl rfl rfl (by rw [pairsD_len]; omega)]
      have e : pairsD acc ++ [pairD (s, p)] = pairsD (acc ++ [(s, p)]) := by simp [pairsD]
      rw [e]
      rfl
abbrev holdAt (ps : List (Option Nat)) (l w : List Nat) (s : Nat) : List (Nat × Nat) := ((List.range' (s + 1) (w.length - s)).filter fun p => holdB (fxB ps) l w s p).map fun p => (s, p)
theorem hold_row (hb : ∀ b ∈ w, b < ps.length) (hl : l.length < 1000) (hw : w.length < 1000) {s : Nat} (hs : s < w.length) (acc : List (Nat × Nat)) (ha : acc.length < 900000) (x3 x7 x8 : Sl) (h3 : isL x3 (nats (w.filter (fxB ps)))) :
    ∃ x3' x7' x8', isL x3' (nats (w.filter (fxB ps))) ∧ b2_holding (envH ps l w x3 acc (.val (natD s)) x7 x8) = some (.nx (envH ps l w x3' (acc ++ holdAt ps l w s) (.val (natD s)) x7' x8')) := by
  have hr : gR2 (gBin addD (gN 6) (gC (.int 1))) (gBin addD (gN 4) (gC (.int 1))) (envH ps l w x3 acc (.val (natD s)) x7 x8) = some (.ok ((List.range' (s + 1) (w.length - s)).map natD, envH ps l w x3 acc (.val (natD s)) x7 x8)) :=
    (bd_ok (bin_ok (f := addD) (n_val (d := natD s) rfl) rfl rfl)).trans ((bd_ok (bin_ok (f := addD) (n_val (d := natD w.length) rfl) rfl rfl)).trans (opt_ok (rng2_nats s w.length (by omega) (by omega))))
  obtain ⟨env', e1, y3, y7, y8, i1, rfl⟩ := loopL_inv natD (b := bN 7) (g := b1_holding) (fun done env => ∃ y3 y7 y8, isL y3 (nats (w.filter (fxB ps))) ∧ env = envH ps l w y3 (acc ++ (done.filter fun p => holdB (fxB ps) l w s p).map fun p => (s, p)) (.val (natD s)) y7 y8) (List.range' (s + 1) (w.length - s)) (envH ps l w x3 acc (.val (natD s)) x7 x8) ⟨x3, x7, x8, h3, by simp⟩ (by
      rintro done p post env hp ⟨y3, y7, y8, i1, rfl⟩
      have hm : p ∈ List.range' (s + 1) (w.length - s) := by rw [hp]; simp
      have hpr := List.mem_range'_1.mp hm
      have hlen := congrArg List.length hp
      simp only [List.length_range', List.length_append, List.length_cons] at hlen
      have hfl := List.length_filter_le (fun p => holdB (fxB ps) l w s p) done
      obtain ⟨z3, z8, k1, k2⟩ := hold_body (x8 := y8) hb hl hw (s := s) (p := p) (by omega) (by omega) (acc ++ (done.filter fun p => holdB (fxB ps) l w s p).map fun p => (s, p)) (by rw [List.length_append, List.length_map]; omega) y3 i1
      refine ⟨envH ps l w y3 (acc ++ (done.filter fun p => holdB (fxB ps) l w s p).map fun p => (s, p)) (.val (natD s)) (.val (natD p)) y8, _, rfl, .inl k2, z3, .val (natD p), z8, k1, ?_⟩
      have q : (acc ++ (done.filter fun p => holdB (fxB ps) l w s p).map fun p => (s, p)) ++ (if holdB (fxB ps) l w s p = true then [(s, p)] else []) = acc ++ ((done ++ [p]).filter fun p => holdB (fxB ps) l w s p).map fun p => (s, p) := by
        rw [List.append_assoc, List.filter_append, List.map_append]
        by_cases hh : holdB (fxB ps) l w s p = true <;> simp [hh]
      rw [q])
  refine ⟨y3, y7, y8, i1, ?_⟩
  unfold b2_holding
  rw [forG_ok hr]
  exact e1
theorem holding_ok (hb : ∀ b ∈ w, b < ps.length) (hl : l.length < 1000) (hw : w.length < 900) : m_holding [.tuple (pricesD ps), .tuple (nats l), .tuple (nats w)] = some (.ok (pairsD (holdingL (fxB ps) l w))) := by
  have a1 : gSetO 3 (gCall m_fixed_books (Pf.gCons (gN 0) (Pf.gCons (gN 2) Pf.gNil))) [.val (.tuple (pricesD ps)), .val (.tuple (nats l)), .val (.tuple (nats w)), .no, .no, .no, .no, .no, .no] = some (.nx [.val (.tuple (pricesD ps)), .val (.tuple (nats l)), .val (.tuple (nats w)), .own (nats (w.filter (fxB ps))), .no, .no, .no, .no, .no]) :=
    (setO_ok (call_ok (cons_ok (n_val rfl) (cons_ok (n_val rfl) nil_ok)) (fixed_books_ok hb (by omega)))).trans rfl
  have a2 : gSet 4 (gLenP 2) [.val (.tuple (pricesD ps)), .val (.tuple (nats l)), .val (.tuple (nats w)), .own (nats (w.filter (fxB ps))), .no, .no, .no, .no, .no] = some (.nx [.val (.tuple (pricesD ps)), .val (.tuple (nats l)), .val (.tuple (nats w)), .own (nats (w.filter (fxB ps))), .val (natD w.length), .no, .no, .no, .no]) := by
    have z : gLenP 2 [.val (.tuple (pricesD ps)), .val (.tuple (nats l)), .val (.tuple (nats w)), .own (nats (w.filter (fxB ps))), .no, .no, .no, .no, .no] = some (.ok (.int (nats w).length, [.val (.tuple (pricesD ps)), .val (.tuple (nats l)), .val (.tuple (nats w)), .own (nats (w.filter (fxB ps))), .no, .no, .no, .no, .no])) := rfl
    rw [nats_len] at z
    exact (set_ok z).trans rfl
  have a3 : gSetO 5 (Pf.gLst Pf.gNil) [.val (.tuple (pricesD ps)), .val (.tuple (nats l)), .val (.tuple (nats w)), .own (nats (w.filter (fxB ps))), .val (natD w.length), .no, .no, .no, .no] = some (.nx (envH ps l w (.own (nats (w.filter (fxB ps)))) [] .no .no .no)) := rfl
  obtain ⟨env', e1, y3, y6, y7, y8, i1, rfl⟩ := loopL_inv natD (b := bN 6) (g := b2_holding) (fun done env => ∃ y3 y6 y7 y8, isL y3 (nats (w.filter (fxB ps))) ∧ env = envH ps l w y3 (done.flatMap (holdAt ps l w)) y6 y7 y8) (List.range w.length) (envH ps l w (.own (nats (w.filter (fxB ps)))) [] .no .no .no) ⟨_, .no, .no, .no, .inl rfl, rfl⟩ (by
      rintro done s post env hs ⟨y3, y6, y7, y8, i1, rfl⟩
      have hm : s ∈ List.range w.length := by rw [hs]; simp
      have hsr := List.mem_range.mp hm
      have hlen := congrArg List.length hs
      simp only [List.length_range, List.length_append, List.length_cons] at hlen
      have hfl : ∀ d : List Nat, (d.flatMap (holdAt ps l w)).length ≤ d.length * 1000 := fun d => by
        induction d with
        | nil => exact Nat.zero_le _
        | cons x r ih =>
          rw [List.flatMap_cons, List.length_append, List.length_cons]
          have h1 := List.length_filter_le (fun p => holdB (fxB ps) l w x p) (List.range' (x + 1) (w.length - x))
          rw [List.length_range'] at h1
          have h2 : (holdAt ps l w x).length ≤ 1000 := by rw [List.length_map]; omega
          omega
      have := hfl done
      obtain ⟨z3, z7, z8, k1, k2⟩ := hold_row (x7 := y7) (x8 := y8) hb hl (by omega) hsr (done.flatMap (holdAt ps l w)) (by omega) y3 i1
      refine ⟨envH ps l w y3 (done.flatMap (holdAt ps l w)) (.val (natD s)) y7 y8, _, rfl, .inl k2, z3, .val (natD s), z7, z8, k1, ?_⟩
      have q : (done ++ [s]).flatMap (holdAt ps l w) = done.flatMap (holdAt ps l w) ++ holdAt ps l w s := by simp
      rw [q])
  have a4 : gForR1 (gN 4) (bN 6) b2_holding (envH ps l w (.own (nats (w.filter (fxB ps)))) [] .no .no .no) = some (.nx (envH ps l w y3 ((List.range w.length).flatMap (holdAt ps l w)) y6 y7 y8)) := by
    rw [forR1_ok (n := w.length) (n_val rfl) (by omega), ← List.range_eq_range']
    exact e1
  refine fnO_ro (r := [.val (.tuple (pricesD ps)), .val (.tuple (nats l)), .val (.tuple (nats w)), y3, .val (natD w.length), .no, y6, y7, y8]) ?_
  show G_holding [.val (.tuple (pricesD ps)), .val (.tuple (nats l)), .val (.tuple (nats w)), .no, .no, .no, .no, .no, .no] = _
  unfold G_holding
  rw [seq_nx a1, seq_nx a2, seq_nx a3, seq_nx a4]
  rfl
end
end Q
/-! part C20 -/
set_option Elab.async false
set_option linter.all false
set_option maxRecDepth 100000
set_option maxHeartbeats 2000000
namespace Q
open PySem PySem.Spec L2
open Pf
theorem set_back2 {env : En} {i j : Nat} {u v : Sl} (hij : i ≠ j) (h1 : env[i]? = some .no) (h2 : env[j]? = some .no) : wipeE [i, j] ((env.set i u).set j v) = env := by
  show (((env.set i u).set j v).set j .no).set i .no = env
  rw [List.set_set]
  apply List.ext_getElem?
  intro k
  have l1 := (List.getElem?_eq_some_iff.mp h1).1
  have l2 := (List.getElem?_eq_some_iff.mp h2).1
  by_cases e : k = i
  · subst e
    rw [List.getElem?_set_self (by simpa using l1), h1]
  · rw [List.getElem?_set_ne (Ne.symm e)]
    by_cases e2 : k = j
    · subst e2
      rw [List.getElem?_set_self (by simpa using l2), h2]
    · rw [List.getElem?_set_ne (Ne.symm e2), List.getElem?_set_ne (Ne.symm e)]
theorem wipe_no2 {env : En} {i j : Nat} (hij : i ≠ j) (h1 : env[i]? = some .no) (h2 : env[j]? = some .no) : wipeE [i, j] env = env := by
  have h : wipeE [j] env = env := wipe_no h2
  show (wipeE [j] env).set i .no = env
  rw [h]
  exact wipe_no h1
theorem back_no2 {env : En} {i j : Nat} (h1 : env[i]? = some .no) (h2 : env[j]? = some .no) : backE env [i, j] env = env := by
  have h : backE env [j] env = env := back_no h2
  show (backE env [j] env).set i (match env[i]? with
    | some (.val d) => .val d
    | _ => .no) = env
  rw [h]
  exact back_no h1
section
variable {α : Type} (A B : α → PyData) (t : α → Bool) (e : α → PyData) {gt : M Bool} {ge : M PyData} {gi : M (List PyData)} {env env1 : En} {i j : Nat} (xs : List α)
theorem lcG2 (hij : i ≠ j) (hg : gi env = some (.ok (xs.map (fun x => PyData.tuple [A x, B x]), env1))) (h1 : env1[i]? = some .no) (h2 : env1[j]? = some .no) (ht : ∀ x ∈ xs, gt ((env1.set i (.val (A x))).set j (.val (B x))) = some (.ok (t x, (env1.set i (.val (A x))).set j (.val (B x))))) (he : ∀ x ∈ xs, t x = true → ge ((env1.set i (.val (A x))).set j (.val (B x))) = some (.ok (e x, (env1.set i (.val (A x))).set j (.val (B x))))) (hl : xs.length < 16777216) :
    gLcG [i, j] (bTup 2 (bCons (bN i) (bCons (bN j) bNil))) gt ge gi env = some (.ok ((xs.filter t).map e, env1)) :=
  lcG_fm (fun x => PyData.tuple [A x, B x]) t e xs hg (wipe_no2 hij h1 h2) (fun x hx => ⟨_, _, rfl, ht x hx, fun _ => set_back2 hij h1 h2, fun h => ⟨_, he x hx h, set_back2 hij h1 h2⟩⟩) hl (back_no2 h1 h2)
end
theorem filter_yes {α : Type} (xs : List α) : xs.filter (fun _ => true) = xs := List.filter_eq_self.mpr fun _ _ => rfl
theorem maxOr_nats {α : Type} (f : α → Nat) (xs : List α) : maxOr 0 (xs.map fun x => (f x : Int)) = (((xs.map f).foldl max 0 : Nat) : Int) := by
  have key : ∀ (r : List α) (n : Nat), (r.map fun x => (f x : Int)).foldl max (n : Int) = (((r.map f).foldl max n : Nat) : Int) := by
    intro r
    induction r with
    | nil => intro n; rfl
    | cons x r ih =>
      intro n
      simp only [List.map_cons, List.foldl_cons]
      have : max (n : Int) (f x : Int) = ((max n (f x) : Nat) : Int) := by omega
      rw [this, ih]
  cases xs with
  | nil => rfl
  | cons x r =>
    simp only [List.map_cons, maxOr, List.foldl_cons]
    rw [key, Nat.zero_max]
theorem zipD_map {α : Type} (A B : α → PyData) : ∀ xs : List α, zipD (xs.map A) (xs.map B) = xs.map fun x => PyData.tuple [A x, B x]
  | [] => rfl
  | x :: xs => congrArg (List.cons _) (zipD_map A B xs)
theorem eqD_int2 (a b : Nat) : eqD (natD a) (natD b) = some (a == b) := by
  have : eqD (natD a) (natD b) = some (decide ((a : Int) = (b : Int))) := rfl
  rw [this]
  congr 1
  rw [Bool.eq_iff_iff]
  simp
  omega
section
variable {ps : List (Option Nat)} {l w : List Nat}
theorem hold_le {sp : Nat × Nat} (h : sp ∈ holdingL (fxB ps) l w) : sp.1 ≤ sp.2 ∧ sp.2 ≤ w.length := by
  obtain ⟨s, p⟩ := sp
  obtain ⟨h1, h2, _⟩ := mem_holding.mp h
  exact ⟨Nat.le_of_lt h1, h2⟩
theorem hold_len (hw : w.length < 900) : (holdingL (fxB ps) l w).length ≤ 810000 := by
  have hfl : ∀ d : List Nat, (d.flatMap (holdAt ps l w)).length ≤ d.length * 900 := fun d => by
    induction d with
    | nil => exact Nat.zero_le _
    | cons x r ih =>
      rw [List.flatMap_cons, List.length_append, List.length_cons]
      have h1 := List.length_filter_le (fun p => holdB (fxB ps) l w x p) (List.range' (x + 1) (w.length - x))
      rw [List.length_range'] at h1
      have h2 : (holdAt ps l w x).length ≤ 900 := by rw [List.length_map]; omega
      omega
  have := hfl (List.range w.length)
  rw [List.length_range] at this
  show ((List.range w.length).flatMap (holdAt ps l w)).length ≤ _
  omega
abbrev envDr (ps : List (Option Nat)) (l w : List Nat) (x3 x4 x5 : Sl) : En := [.val (.tuple (pricesD ps)), .val (.tuple (nats l)), .val (.tuple (nats w)), x3, x4, x5, .no, .no, .no, .no]
theorem dearest_ok (hb : ∀ b ∈ w, b < ps.length) (hl : l.length < 1000) (hw : w.length < 900) : m_dearest [.tuple (pricesD ps), .tuple (nats l), .tuple (nats w)] = some (.ok (pairsD (dearestL (prB ps) (fxB ps) l w))) := by
  have hlen := hold_len (ps := ps) (l := l) hw
  have a1 : gSetO 3 (gCall m_holding (Pf.gCons (gN 0) (Pf.gCons (gN 1) (Pf.gCons (gN 2) Pf.gNil)))) (envDr ps l w .no .no .no) = some (.nx (envDr ps l w (.own (pairsD (holdingL (fxB ps) l w))) .no .no)) :=
    (setO_ok (call_ok (cons_ok (n_val rfl) (cons_ok (n_val rfl) (cons_ok (n_val rfl) nil_ok))) (holding_ok hb hl hw))).trans rfl
  have c1 : gLcG [6, 7] (bTup 2 (bCons (bN 6) (bCons (bN 7) bNil))) gYes e1_dearest (gLl (gN 3)) (envDr ps l w (.own (pairsD (holdingL (fxB ps) l w))) .no .no) = some (.ok (((holdingL (fxB ps) l w).filter fun _ => true).map fun sp => natD (sumP (prB ps) (cut w sp.1 sp.2)), envDr ps l w (.val (.list (pairsD (holdingL (fxB ps) l w)))) .no .no)) := by
    refine lcG2 (fun sp : Nat × Nat => natD sp.1) (fun sp => natD sp.2) (fun _ => true) (fun sp => natD (sumP (prB ps) (cut w sp.1 sp.2))) (holdingL (fxB ps) l w) (by decide) ?_ rfl rfl (fun _ _ => rfl) (fun sp hsp _ => ?_) (by omega)
    · exact (bd_ok (n_own (ds := pairsD (holdingL (fxB ps) l w)) rfl)).trans rfl
    · obtain ⟨h1, h2⟩ := hold_le hsp
      have q : gSlT (gN 2) (gPt (gN 6)) (gPt (gN 7)) [.val (.tuple (pricesD ps)), .val (.tuple (nats l)), .val (.tuple (nats w)), .val (.list (pairsD (holdingL (fxB ps) l w))), .no, .no, .val (natD sp.1), .val (natD sp.2), .no, .no] = some (.ok (.tuple (cutD (nats w) (some (sp.1 : Int)) (some (sp.2 : Int))), [.val (.tuple (pricesD ps)), .val (.tuple (nats l)), .val (.tuple (nats w)), .val (.list (pairsD (holdingL (fxB ps) l w))), .no, .no, .val (natD sp.1), .val (natD sp.2), .no, .no])) := rfl
      rw [cutD_nats w sp.1 sp.2 (by omega) h2] at q
      have hcut : (cut w sp.1 sp.2).length ≤ w.length := by unfold cut; rw [List.length_take, List.length_drop]; omega
      exact call_ok (m := m_price_of) (cons_ok (n_val (i := 0) (d := .tuple (pricesD ps)) rfl) (cons_ok q nil_ok)) (price_of_ok (fun b hm => hb b (List.mem_of_mem_drop (List.mem_of_mem_take hm))) (by omega))
  rw [filter_yes] at c1
  have a2 : gSetO 4 (gLcG [6, 7] (bTup 2 (bCons (bN 6) (bCons (bN 7) bNil))) gYes e1_dearest (gLl (gN 3))) (envDr ps l w (.own (pairsD (holdingL (fxB ps) l w))) .no .no) = some (.nx (envDr ps l w (.val (.list (pairsD (holdingL (fxB ps) l w)))) (.own ((holdingL (fxB ps) l w).map fun sp => natD (sumP (prB ps) (cut w sp.1 sp.2)))) .no)) := by
    rw [setO_ok c1]
    rfl
  have a3 : gSet 5 (gMxD (gN 4) (gC (.int 0))) (envDr ps l w (.val (.list (pairsD (holdingL (fxB ps) l w)))) (.own ((holdingL (fxB ps) l w).map fun sp => natD (sumP (prB ps) (cut w sp.1 sp.2)))) .no) = some (.nx (envDr ps l w (.val (.list (pairsD (holdingL (fxB ps) l w)))) (.val (.list ((holdingL (fxB ps) l w).map fun sp => natD (sumP (prB ps) (cut w sp.1 sp.2))))) (.val (natD (best (prB ps) w (holdingL (fxB ps) l w)))))) := by
    have q : maxDefO (.list ((holdingL (fxB ps) l w).map fun sp => natD (sumP (prB ps) (cut w sp.1 sp.2)))) (.int 0) = some (natD (best (prB ps) w (holdingL (fxB ps) l w))) := by
      unfold maxDefO
      simp only
      rw [intsO_nats (fun sp : Nat × Nat => sumP (prB ps) (cut w sp.1 sp.2)), Option.map_some, maxOr_nats]
      rfl
    have z : gMxD (gN 4) (gC (.int 0)) (envDr ps l w (.val (.list (pairsD (holdingL (fxB ps) l w)))) (.own ((holdingL (fxB ps) l w).map fun sp => natD (sumP (prB ps) (cut w sp.1 sp.2)))) .no) = _ := (bd_ok (n_own (ds := (holdingL (fxB ps) l w).map fun sp => natD (sumP (prB ps) (cut w sp.1 sp.2))) rfl)).trans (opt_ok q)
    rw [set_ok z]
    rfl
  have c2 : gLcG [8, 9] (bTup 2 (bCons (bN 8) (bCons (bN 9) bNil))) t2_dearest e3_dearest (gZp (gN 3) (gN 4)) (envDr ps l w (.val (.list (pairsD (holdingL (fxB ps) l w)))) (.val (.list ((holdingL (fxB ps) l w).map fun sp => natD (sumP (prB ps) (cut w sp.1 sp.2))))) (.val (natD (best (prB ps) w (holdingL (fxB ps) l w))))) = some (.ok ((dearestL (prB ps) (fxB ps) l w).map pairD, envDr ps l w (.val (.list (pairsD (holdingL (fxB ps) l w)))) (.val (.list ((holdingL (fxB ps) l w).map fun sp => natD (sumP (prB ps) (cut w sp.1 sp.2))))) (.val (natD (best (prB ps) w (holdingL (fxB ps) l w)))))) := by
    refine lcG2 pairD (fun sp => natD (sumP (prB ps) (cut w sp.1 sp.2))) (fun sp => sumP (prB ps) (cut w sp.1 sp.2) == best (prB ps) w (holdingL (fxB ps) l w)) pairD (holdingL (fxB ps) l w) (by decide) ?_ rfl rfl (fun sp hsp => ?_) (fun sp hsp _ => rfl) (by omega)
    · have q : zipO (.list (pairsD (holdingL (fxB ps) l w))) (.list ((holdingL (fxB ps) l w).map fun sp => natD (sumP (prB ps) (cut w sp.1 sp.2)))) = some ((holdingL (fxB ps) l w).map fun sp => PyData.tuple [pairD sp, natD (sumP (prB ps) (cut w sp.1 sp.2))]) := by
        have hl : (pairsD (holdingL (fxB ps) l w)).all looseP = true := loose_map pairD (fun _ => rfl) _
        unfold zipO
        simp only
        rw [if_pos hl]
        rw [show pairsD (holdingL (fxB ps) l w) = (holdingL (fxB ps) l w).map pairD from rfl, zipD_map]
      exact opt_ok q
    · exact opt_ok (eqD_int2 _ _)
  refine fnO_ro (r := envDr ps l w (.val (.list (pairsD (holdingL (fxB ps) l w)))) (.val (.list ((holdingL (fxB ps) l w).map fun sp => natD (sumP (prB ps) (cut w sp.1 sp.2))))) (.val (natD (best (prB ps) w (holdingL (fxB ps) l w))))) ?_
  show G_dearest (envDr ps l w .no .no .no) = _
  unfold G_dearest
  rw [seq_nx a1, seq_nx a2, seq_nx a3, retO_ok c2]
  rfl
theorem splits_ok (hb : ∀ b ∈ w, b < ps.length) (hl : l.length < 1000) (hw : w.length < 900) : m_splits [.tuple (pricesD ps), .tuple (nats l), .tuple (nats w)] = some (.ok (.list (pairsD (splitsL (prB ps) (fxB ps) l w)))) := by
  have a1 : gSetO 3 (gCall m_dearest (Pf.gCons (gN 0) (Pf.gCons (gN 1) (Pf.gCons (gN 2) Pf.gNil)))) [.val (.tuple (pricesD ps)), .val (.tuple (nats l)), .val (.tuple (nats w)), .no, .no] = some (.nx [.val (.tuple (pricesD ps)), .val (.tuple (nats l)), .val (.tuple (nats w)), .own (pairsD (dearestL (prB ps) (fxB ps) l w)), .no]) :=
    (setO_ok (call_ok (cons_ok (n_val rfl) (cons_ok (n_val rfl) (cons_ok (n_val rfl) nil_ok))) (dearest_ok hb hl hw))).trans rfl
  have t1 : gTru (gN 3) [.val (.tuple (pricesD ps)), .val (.tuple (nats l)), .val (.tuple (nats w)), .own (pairsD (dearestL (prB ps) (fxB ps) l w)), .no] = some (.ok (!(pairsD (dearestL (prB ps) (fxB ps) l w)).isEmpty, [.val (.tuple (pricesD ps)), .val (.tuple (nats l)), .val (.tuple (nats w)), .val (.list (pairsD (dearestL (prB ps) (fxB ps) l w))), .no])) := rfl
  have t2 : gTru (gFz (gCall m_fixed_books (Pf.gCons (gN 0) (Pf.gCons (gN 2) Pf.gNil)))) [.val (.tuple (pricesD ps)), .val (.tuple (nats l)), .val (.tuple (nats w)), .val (.list (pairsD (dearestL (prB ps) (fxB ps) l w))), .no] = some (.ok (!(nats (w.filter (fxB ps))).isEmpty, [.val (.tuple (pricesD ps)), .val (.tuple (nats l)), .val (.tuple (nats w)), .val (.list (pairsD (dearestL (prB ps) (fxB ps) l w))), .no])) :=
    tru_ok (fz_ok (call_ok (cons_ok (n_val rfl) (cons_ok (n_val rfl) nil_ok)) (fixed_books_ok hb (by omega)))) rfl
  refine fnD_rt (r := [.val (.tuple (pricesD ps)), .val (.tuple (nats l)), .val (.tuple (nats w)), .val (.list (pairsD (dearestL (prB ps) (fxB ps) l w))), .no]) ?_
  show G_splits [.val (.tuple (pricesD ps)), .val (.tuple (nats l)), .val (.tuple (nats w)), .no, .no] = _
  unfold G_splits
  rw [seq_nx a1]
  unfold splitsL
  by_cases hd : dearestL (prB ps) (fxB ps) l w = []
  · have e1 : (pairsD (dearestL (prB ps) (fxB ps) l w)).isEmpty = true := by rw [hd]; rfl
    rw [e1] at t1
    by_cases hf : w.filter (fxB ps) = []
    · have e2 : (nats (w.filter (fxB ps))).isEmpty = true := by rw [hf]; rfl
      rw [e2] at t2
      rw [if_pos ⟨hd, hf⟩]
      have i1 : gIfS (gOrT (gTru (gN 3)) (gTru (gFz (gCall m_fixed_books (Pf.gCons (gN 0) (Pf.gCons (gN 2) Pf.gNil)))))) (gRet (gN 3)) gNx [.val (.tuple (pricesD ps)), .val (.tuple (nats l)), .val (.tuple (nats w)), .own (pairsD (dearestL (prB ps) (fxB ps) l w)), .no] = some (.nx [.val (.tuple (pricesD ps)), .val (.tuple (nats l)), .val (.tuple (nats w)), .val (.list (pairsD (dearestL (prB ps) (fxB ps) l w))), .no]) := by
        rw [ifS_f ((orT_f t1).trans t2)]; rfl
      rw [seq_nx i1]
      have hn : gBin addD (gLenP 2) (gC (.int 1)) [.val (.tuple (pricesD ps)), .val (.tuple (nats l)), .val (.tuple (nats w)), .val (.list (pairsD (dearestL (prB ps) (fxB ps) l w))), .no] = some (.ok (.int ((w.length + 1 : Nat) : Int), [.val (.tuple (pricesD ps)), .val (.tuple (nats l)), .val (.tuple (nats w)), .val (.list (pairsD (dearestL (prB ps) (fxB ps) l w))), .no])) := by
        have z : gLenP 2 [.val (.tuple (pricesD ps)), .val (.tuple (nats l)), .val (.tuple (nats w)), .val (.list (pairsD (dearestL (prB ps) (fxB ps) l w))), .no] = some (.ok (.int (nats w).length, [.val (.tuple (pricesD ps)), .val (.tuple (nats l)), .val (.tuple (nats w)), .val (.list (pairsD (dearestL (prB ps) (fxB ps) l w))), .no])) := rfl
        rw [nats_len] at z
        exact bin_ok (f := addD) z rfl rfl
      have c := lcR1 (gt := gYes) (ge := e1_splits) (j := 4) (fun _ => true) (fun a => pairD (a, a)) hn (by omega) rfl (fun _ _ => rfl) (fun _ _ _ => rfl)
      rw [filter_yes] at c
      have qq : ((List.range (w.length + 1)).map fun a => pairD (a, a)) = pairsD ((List.range (w.length + 1)).map fun a => (a, a)) := by
        unfold pairsD
        rw [List.map_map]
        rfl
      rw [qq] at c
      exact ret_ok (fz_ok c)
    · have e2 : (nats (w.filter (fxB ps))).isEmpty = false := by
        cases h : w.filter (fxB ps) with
        | nil => exact absurd h hf
        | cons a r => rfl
      rw [e2] at t2
      rw [if_neg fun h => hf h.2]
      have i1 : gIfS (gOrT (gTru (gN 3)) (gTru (gFz (gCall m_fixed_books (Pf.gCons (gN 0) (Pf.gCons (gN 2) Pf.gNil)))))) (gRet (gN 3)) gNx [.val (.tuple (pricesD ps)), .val (.tuple (nats l)), .val (.tuple (nats w)), .own (pairsD (dearestL (prB ps) (fxB ps) l w)), .no] = some (.rt (.list (pairsD (dearestL (prB ps) (fxB ps) l w))) [.val (.tuple (pricesD ps)), .val (.tuple (nats l)), .val (.tuple (nats w)), .val (.list (pairsD (dearestL (prB ps) (fxB ps) l w))), .no]) := by
        rw [ifS_t ((orT_f t1).trans t2)]; rfl
      unfold gSeq
      rw [i1]
  · have e1 : (pairsD (dearestL (prB ps) (fxB ps) l w)).isEmpty = false := by
      cases h : dearestL (prB ps) (fxB ps) l w with
      | nil => exact absurd h hd
      | cons a r => rfl
    rw [e1] at t1
    rw [if_neg fun h => hd h.1]
    have i1 : gIfS (gOrT (gTru (gN 3)) (gTru (gFz (gCall m_fixed_books (Pf.gCons (gN 0) (Pf.gCons (gN 2) Pf.gNil)))))) (gRet (gN 3)) gNx [.val (.tuple (pricesD ps)), .val (.tuple (nats l)), .val (.tuple (nats w)), .own (pairsD (dearestL (prB ps) (fxB ps) l w)), .no] = some (.rt (.list (pairsD (dearestL (prB ps) (fxB ps) l w))) [.val (.tuple (pricesD ps)), .val (.tuple (nats l)), .val (.tuple (nats w)), .val (.list (pairsD (dearestL (prB ps) (fxB ps) l w))), .no]) := by
      rw [ifS_t (orT_t t1)]; rfl
    unfold gSeq
    rw [i1]
end
end Q
/-! part C21 -/
set_option Elab.async false
set_option linter.all false
set_option maxRecDepth 100000
set_option maxHeartbeats 2000000
namespace Q
open PySem PySem.Spec L2
open Pf
structure GoalOk (ps : List (Option Nat)) (ls goal : List (List Nat)) : Prop where
  len : goal.length = ls.length
  perm : goal.flatten.Perm (List.range ps.length)
def ddD (d : Dd) : PyData := .tuple [natD d.1, natD d.2.1, endD d.2.2]
def ddsD (ds : List Dd) : List PyData := ds.map ddD
theorem ddsD_app (a b : List Dd) : ddsD (a ++ b) = ddsD a ++ ddsD b := List.map_append ..
theorem ddsD_len (a : List Dd) : (ddsD a).length = a.length := List.length_map ..
def lotT (l : List Nat) : PyData := .tuple (nats l)
theorem zip_lots (A B : List Nat → PyData) : ∀ ls ws : List (List Nat), zipD (ls.map A) (ws.map B) = (ls.zip ws).map fun z => PyData.tuple [A z.1, B z.2]
  | [], _ => rfl
  | _ :: _, [] => rfl
  | l :: ls, w :: ws => congrArg (List.cons _) (zip_lots A B ls ws)
section
variable {ps : List (Option Nat)} {ls goal : List (List Nat)}
theorem GoalOk.lt (h : GoalOk ps ls goal) {w : List Nat} (hw : w ∈ goal) {b : Nat} (hb : b ∈ w) : b < ps.length :=
  List.mem_range.mp (h.perm.mem_iff.mp (List.mem_flatten.mpr ⟨w, hw, hb⟩))
theorem GoalOk.small (h : GoalOk ps ls goal) {w : List Nat} (hw : w ∈ goal) : w.length ≤ ps.length := by
  have h1 : w.length ≤ goal.flatten.length := (List.sublist_flatten_of_mem hw).length_le
  have h2 := h.perm.length_eq
  rw [List.length_range] at h2
  omega
abbrev splS (ps : List (Option Nat)) (z : List Nat × List Nat) : PyData := .list (pairsD (splitsL (prB ps) (fxB ps) z.1 z.2))
theorem splits_by_lot_ok (hg : ∀ w ∈ goal, (∀ b ∈ w, b < ps.length) ∧ w.length < 900) (hl : ∀ l ∈ ls, l.length < 1000) (hn : ls.length < 1000) : m_splits_by_lot [shelfD ps ls, .tuple (lotsD goal)] = some (.ok ((ls.zip goal).map (splS ps))) := by
  have a1 : gAsg (bTup 2 (bCons (bN 2) (bCons (bN 3) bNil))) (gN 0) [.val (shelfD ps ls), .val (.tuple (lotsD goal)), .no, .no, .no, .no] = some (.nx [.val (shelfD ps ls), .val (.tuple (lotsD goal)), .val (.tuple (pricesD ps)), .val (.tuple (lotsD ls)), .no, .no]) := rfl
  have z : gZp (gN 3) (gN 1) [.val (shelfD ps ls), .val (.tuple (lotsD goal)), .val (.tuple (pricesD ps)), .val (.tuple (lotsD ls)), .no, .no] = some (.ok ((ls.zip goal).map (fun z => PyData.tuple [lotT z.1, lotT z.2]), [.val (shelfD ps ls), .val (.tuple (lotsD goal)), .val (.tuple (pricesD ps)), .val (.tuple (lotsD ls)), .no, .no])) := by
    have q : zipO (.tuple (lotsD ls)) (.tuple (lotsD goal)) = some ((ls.zip goal).map fun z => PyData.tuple [lotT z.1, lotT z.2]) := by
      have hl : (lotsD ls).all looseP = true := loose_map lotT (fun _ => rfl) _
      unfold zipO
      simp only
      rw [if_pos hl]
      congr 1
      exact zip_lots lotT lotT ls goal
    exact opt_ok q
  have c := lcG2 (gt := gYes) (ge := e1_splits_by_lot) (i := 4) (j := 5) (fun z : List Nat × List Nat => lotT z.1) (fun z => lotT z.2) (fun _ => true) (splS ps) (ls.zip goal) (by decide) z rfl rfl (fun _ _ => rfl) (fun x hx _ => by
    have h1 := (List.of_mem_zip hx).1
    have h2 := (List.of_mem_zip hx).2
    have cc : gCall m_splits (Pf.gCons (gN 2) (Pf.gCons (gN 4) (Pf.gCons (gN 5) Pf.gNil))) [.val (shelfD ps ls), .val (.tuple (lotsD goal)), .val (.tuple (pricesD ps)), .val (.tuple (lotsD ls)), .val (lotT x.1), .val (lotT x.2)] = some (.ok (splS ps x, [.val (shelfD ps ls), .val (.tuple (lotsD goal)), .val (.tuple (pricesD ps)), .val (.tuple (lotsD ls)), .val (lotT x.1), .val (lotT x.2)])) :=
      call_ok (cons_ok (n_val rfl) (cons_ok (n_val rfl) (cons_ok (n_val rfl) nil_ok))) (splits_ok (hg _ h2).1 (hl _ h1) (hg _ h2).2)
    exact cc) (by rw [List.length_zip]; omega)
  rw [filter_yes] at c
  refine fnO_ro (r := [.val (shelfD ps ls), .val (.tuple (lotsD goal)), .val (.tuple (pricesD ps)), .val (.tuple (lotsD ls)), .no, .no]) ?_
  show G_splits_by_lot [.val (shelfD ps ls), .val (.tuple (lotsD goal)), .no, .no, .no, .no] = _
  unfold G_splits_by_lot
  rw [seq_nx a1]
  exact retO_ok c
theorem deeds_around_ok (k : Nat) (w : List Nat) (sp : Nat × Nat) (h1 : sp.1 ≤ w.length) (h2 : sp.2 ≤ w.length) (hw : w.length < 900) : m_deeds_around [natD k, .tuple (nats w), pairD sp] = some (.ok (ddsD (aroundD k w sp))) := by
  have a1 : gAsg (bTup 2 (bCons (bN 3) (bCons (bN 4) bNil))) (gN 2) [.val (natD k), .val (.tuple (nats w)), .val (pairD sp), .no, .no, .no, .no] = some (.nx [.val (natD k), .val (.tuple (nats w)), .val (pairD sp), .val (natD sp.1), .val (natD sp.2), .no, .no]) := rfl
  have q1 : gSlT (gN 1) gNoPt (gPt (gN 3)) [.val (natD k), .val (.tuple (nats w)), .val (pairD sp), .val (natD sp.1), .val (natD sp.2), .no, .no] = some (.ok (.tuple (cutD (nats w) none (some (sp.1 : Int))), [.val (natD k), .val (.tuple (nats w)), .val (pairD sp), .val (natD sp.1), .val (natD sp.2), .no, .no])) := rfl
  rw [cutD_to w sp.1 h1] at q1
  have r1 : gRv (gSlT (gN 1) gNoPt (gPt (gN 3))) [.val (natD k), .val (.tuple (nats w)), .val (pairD sp), .val (natD sp.1), .val (natD sp.2), .no, .no] = some (.ok ((w.take sp.1).reverse.map natD, [.val (natD k), .val (.tuple (nats w)), .val (pairD sp), .val (natD sp.1), .val (natD sp.2), .no, .no])) := by
    refine (bd_ok q1).trans (opt_ok ?_)
    show some (nats (w.take sp.1)).reverse = _
    congr 1
    exact (List.map_reverse ..).symm
  have c1 := lcG1 (gt := gYes) (ge := e1_deeds_around) (j := 6) natD (fun _ => true) (fun b => ddD (b, k, true)) (w.take sp.1).reverse r1 rfl (fun _ _ => rfl) (fun x hx _ => rfl) (by rw [List.length_reverse, List.length_take]; omega)
  rw [filter_yes] at c1
  have a2 := setO_ok (i := 5) c1
  have q2 : gSlT (gN 1) (gPt (gN 4)) gNoPt [.val (natD k), .val (.tuple (nats w)), .val (pairD sp), .val (natD sp.1), .val (natD sp.2), .no, .no] = some (.ok (.tuple (cutD (nats w) (some (sp.2 : Int)) none), [.val (natD k), .val (.tuple (nats w)), .val (pairD sp), .val (natD sp.1), .val (natD sp.2), .no, .no])) := rfl
  rw [cutD_from w sp.2 h2] at q2
  have c2 := lcT1 (gt := gYes) (ge := e2_deeds_around) (j := 6) natD (fun _ => true) (fun b => ddD (b, k, false)) (w.drop sp.2) q2 rfl (fun _ _ => rfl) (fun x hx _ => rfl) (by rw [List.length_drop]; omega)
  rw [filter_yes] at c2
  have e : ((w.take sp.1).reverse.map fun b => ddD (b, k, true)) ++ ((w.drop sp.2).map fun b => ddD (b, k, false)) = ddsD (aroundD k w sp) := by
    unfold aroundD ddsD
    rw [List.map_append, List.map_map, List.map_map]
    rfl
  have c3 : gCat (gNO 5) (gLcT [6] 6 gYes e2_deeds_around (gSlT (gN 1) (gPt (gN 4)) gNoPt)) [.val (natD k), .val (.tuple (nats w)), .val (pairD sp), .val (natD sp.1), .val (natD sp.2), .own ((w.take sp.1).reverse.map fun b => ddD (b, k, true)), .no] = some (.ok (ddsD (aroundD k w sp), [.val (natD k), .val (.tuple (nats w)), .val (pairD sp), .val (natD sp.1), .val (natD sp.2), .no, .no])) := by
    have n5 : gNO 5 [.val (natD k), .val (.tuple (nats w)), .val (pairD sp), .val (natD sp.1), .val (natD sp.2), .own ((w.take sp.1).reverse.map fun b => ddD (b, k, true)), .no] = some (.ok ((w.take sp.1).reverse.map fun b => ddD (b, k, true), [.val (natD k), .val (.tuple (nats w)), .val (pairD sp), .val (natD sp.1), .val (natD sp.2), .no, .no])) := rfl
    refine (bd_ok n5).trans ((bd_ok c2).trans (opt_ok ?_))
    rw [if_pos (by simp only [List.length_map, List.length_reverse, List.length_take, List.length_drop]; omega), e]
  refine fnO_ro (r := [.val (natD k), .val (.tuple (nats w)), .val (pairD sp), .val (natD sp.1), .val (natD sp.2), .no, .no]) ?_
  show G_deeds_around [.val (natD k), .val (.tuple (nats w)), .val (pairD sp), .no, .no, .no, .no] = _
  unfold G_deeds_around
  rw [seq_nx a1, seq_nx a2]
  exact retO_ok c3
end
end Q
/-! part C22 -/
set_option Elab.async false
set_option linter.all false
set_option maxRecDepth 100000
set_option maxHeartbeats 2000000
namespace Q
open PySem PySem.Spec L2
open Pf
abbrev envLw (ps : List (Option Nat)) (ls goal : List (List Nat)) (way : List Dd) (x4 x5 : Sl) : En := [.val (shelfD ps ls), .val (.tuple (lotsD goal)), .val (.tuple (pricesD ps)), .own (ddsD way), x4, x5, .no]
theorem ext_own {i : Nat} {go : M (List PyData)} {env env1 : En} {ds ds1 es : List PyData} (h0 : env[i]? = some (.own ds)) (h1 : go env = some (.ok (es, env1))) (h2 : env1[i]? = some (.own ds1)) (hl : ds1.length + es.length ≤ 16777216) : gExt i go env = some (.nx (env1.set i (.own (ds1 ++ es)))) := by
  unfold gExt
  rw [gE_ok (held_own h0), gE_ok h1, gE_ok (held_own h2), if_pos hl, gE_ok (put_own h2 _)]
  rfl
theorem around_len (k : Nat) (w : List Nat) (sp : Nat × Nat) : (aroundD k w sp).length ≤ 2 * w.length := by
  unfold aroundD
  simp only [List.length_append, List.length_map, List.length_reverse, List.length_take, List.length_drop]
  omega
theorem ixP_lst {env env1 : En} {i : Nat} {ds ds1 : List PyData} {x : PyData} {gb : M PyData} {k : Nat} (h0 : env[i]? = some (.val (.list ds))) (h1 : gb env = some (.ok (.int k, env1))) (h2 : env1[i]? = some (.val (.list ds1))) (hx : ds1[k]? = some x) : gIxP i gb env = some (.ok (x, env1)) := by
  unfold gIxP
  rw [bd_ok (peek_lst h0), bd_ok h1, bd_ok (peek_lst h2)]
  exact opt_ok (atI_nat hx)
section
variable {ps : List (Option Nat)} {ls goal : List (List Nat)}
theorem lw_loop (hg : ∀ w ∈ goal, w.length < 900) : ∀ (zs : List (List Nat × List Nat)) (k : Nat) (acc : List Dd) (x4 x5 : Sl), (∀ i : Nat, (zs.map (·.2))[i]? = goal[k + i]?) → acc.length + 2000 * zs.length < 1000000 →
    match leastK (prB ps) (fxB ps) k (zs.map (·.1)) (zs.map (·.2)) with
    | none => ∃ e, loopL (bTup 2 (bCons (bN 4) (bCons (bN 5) bNil))) b1_least_way (enumK k (zs.map (splS ps))) (envLw ps ls goal acc x4 x5) = some (.rt .none e)
    | some way => ∃ y4 y5, loopL (bTup 2 (bCons (bN 4) (bCons (bN 5) bNil))) b1_least_way (enumK k (zs.map (splS ps))) (envLw ps ls goal acc x4 x5) = some (.nx (envLw ps ls goal (acc ++ way) y4 y5))
  | [], k, acc, x4, x5, _, _ => ⟨x4, x5, by rw [List.append_nil]; rfl⟩
  | z :: zs, k, acc, x4, x5, hi, hl => by
    obtain ⟨l, w⟩ := z
    have hw : goal[k]? = some w := by
      have := hi 0
      simpa using this.symm
    have hwm : w.length < 900 := hg w (List.mem_of_getElem? hw)
    have step : loopL (bTup 2 (bCons (bN 4) (bCons (bN 5) bNil))) b1_least_way (enumK k (((l, w) :: zs).map (splS ps))) (envLw ps ls goal acc x4 x5) = (match b1_least_way (envLw ps ls goal acc (.val (natD k)) (.val (splS ps (l, w)))) with
      | some (.nx env2) => loopL (bTup 2 (bCons (bN 4) (bCons (bN 5) bNil))) b1_least_way (enumK (k + 1) (zs.map (splS ps))) env2
      | some (.ct env2) => loopL (bTup 2 (bCons (bN 4) (bCons (bN 5) bNil))) b1_least_way (enumK (k + 1) (zs.map (splS ps))) env2
      | some (.bk env2) => some (.nx env2)
      | o => o) := rfl
    rw [step]
    simp only [List.map_cons, leastK]
    cases hs : splitsL (prB ps) (fxB ps) l w with
    | nil =>
      have e : splS ps (l, w) = .list [] := by show PyData.list (pairsD (splitsL (prB ps) (fxB ps) l w)) = _; rw [hs]; rfl
      rw [e]
      have b : b1_least_way (envLw ps ls goal acc (.val (natD k)) (.val (.list []))) = some (.rt .none (envLw ps ls goal acc (.val (natD k)) (.val (.list [])))) := rfl
      rw [b]
      exact ⟨_, rfl⟩
    | cons sp sps =>
      have hm : sp ∈ splitsL (prB ps) (fxB ps) l w := by rw [hs]; exact List.mem_cons_self
      obtain ⟨i1, i2, _, _⟩ := split_is hm
      have e : splS ps (l, w) = .list (pairD sp :: pairsD sps) := by show PyData.list (pairsD (splitsL (prB ps) (fxB ps) l w)) = _; rw [hs]; rfl
      rw [e]
      have f1 : gIfS (gNotT (gTru (gN 5))) (gRet (gC .none)) gNx (envLw ps ls goal acc (.val (natD k)) (.val (.list (pairD sp :: pairsD sps)))) = some (.nx (envLw ps ls goal acc (.val (natD k)) (.val (.list (pairD sp :: pairsD sps))))) := rfl
      have g1 : gIxP 1 (gN 4) (envLw ps ls goal acc (.val (natD k)) (.val (.list (pairD sp :: pairsD sps)))) = some (.ok (lotT w, envLw ps ls goal acc (.val (natD k)) (.val (.list (pairD sp :: pairsD sps))))) :=
        ixP_tup (ds := lotsD goal) (ds1 := lotsD goal) (k := k) rfl rfl rfl (by show (goal.map _)[k]? = _; rw [List.getElem?_map, hw]; rfl)
      have g2 : gIxP 5 (gC (.int 0)) (envLw ps ls goal acc (.val (natD k)) (.val (.list (pairD sp :: pairsD sps)))) = some (.ok (pairD sp, envLw ps ls goal acc (.val (natD k)) (.val (.list (pairD sp :: pairsD sps))))) :=
        ixP_lst (ds := pairD sp :: pairsD sps) (ds1 := pairD sp :: pairsD sps) (k := 0) rfl rfl rfl rfl
      have c : gCall m_deeds_around (Pf.gCons (gN 4) (Pf.gCons (gIxP 1 (gN 4)) (Pf.gCons (gIxP 5 (gC (.int 0))) Pf.gNil))) (envLw ps ls goal acc (.val (natD k)) (.val (.list (pairD sp :: pairsD sps)))) = some (.ok (ddsD (aroundD k w sp), envLw ps ls goal acc (.val (natD k)) (.val (.list (pairD sp :: pairsD sps))))) :=
        call_ok (cons_ok (n_val rfl) (cons_ok g1 (cons_ok g2 nil_ok))) (deeds_around_ok k w sp (by omega) i2 hwm)
      have hal := around_len k w sp
      simp only [List.length_cons] at hl
      have x : gExt 3 (gCall m_deeds_around (Pf.gCons (gN 4) (Pf.gCons (gIxP 1 (gN 4)) (Pf.gCons (gIxP 5 (gC (.int 0))) Pf.gNil)))) (envLw ps ls goal acc (.val (natD k)) (.val (.list (pairD sp :: pairsD sps)))) = some (.nx (envLw ps ls goal (acc ++ aroundD k w sp) (.val (natD k)) (.val (.list (pairD sp :: pairsD sps))))) := by
        rw [ext_own (ds := ddsD acc) (ds1 := ddsD acc) rfl c rfl (by rw [ddsD_len, ddsD_len]; omega), ← ddsD_app]
        rfl
      have b : b1_least_way (envLw ps ls goal acc (.val (natD k)) (.val (.list (pairD sp :: pairsD sps)))) = some (.nx (envLw ps ls goal (acc ++ aroundD k w sp) (.val (natD k)) (.val (.list (pairD sp :: pairsD sps))))) := by
        unfold b1_least_way
        rw [seq_nx f1, x]
      rw [b]
      have ih := lw_loop hg zs (k + 1) (acc ++ aroundD k w sp) (.val (natD k)) (.val (.list (pairD sp :: pairsD sps))) (fun i => by
        have := hi (i + 1)
        simp only [List.map_cons, List.getElem?_cons_succ] at this
        rw [this]
        congr 1
        omega) (by rw [List.length_append]; omega)
      cases hk : leastK (prB ps) (fxB ps) (k + 1) (zs.map (·.1)) (zs.map (·.2)) with
      | none => rw [hk] at ih; exact ih
      | some r =>
        rw [hk] at ih
        obtain ⟨y4, y5, ih⟩ := ih
        refine ⟨y4, y5, ?_⟩
        rw [List.append_assoc] at ih
        exact ih
theorem leastK_len (pr : Nat → Nat) (fx : Nat → Bool) : ∀ (ls ws : List (List Nat)) (k : Nat) (way : List Dd), leastK pr fx k ls ws = some way → way.length ≤ 2 * ws.flatten.length
  | [], ws, k, way, h => by cases ws <;> (cases h; exact Nat.zero_le _)
  | l :: ls, [], k, way, h => by cases h; exact Nat.zero_le _
  | l :: ls, w :: ws, k, way, h => by
    simp only [leastK] at h
    cases hs : splitsL pr fx l w with
    | nil => rw [hs] at h; cases h
    | cons sp sps =>
      rw [hs] at h
      simp only [Option.map_eq_some_iff] at h
      obtain ⟨r, hr, rfl⟩ := h
      have ih := leastK_len pr fx ls ws (k + 1) r hr
      have := around_len k w sp
      simp only [List.flatten_cons, List.length_append]
      omega
def leastD (ps : List (Option Nat)) (ls goal : List (List Nat)) : PyData := match leastK (prB ps) (fxB ps) 0 ls goal with
  | none => .none
  | some way => .tuple [natD (sumP (prB ps) (tk way)), .list (ddsD way)]
theorem least_way_ok (hp : ps.length < 100) (hn : ls.length < 100) (hperm : ls.flatten.Perm (List.range ps.length)) (hg : GoalOk ps ls goal) : m_least_way [shelfD ps ls, .tuple (lotsD goal)] = some (.ok (leastD ps ls goal)) := by
  have hw : ∀ w ∈ goal, (∀ b ∈ w, b < ps.length) ∧ w.length < 900 := fun w hw => ⟨fun b hb => hg.lt hw hb, by have := hg.small hw; omega⟩
  have hlen := hperm.length_eq
  rw [List.length_range] at hlen
  have hl : ∀ l ∈ ls, l.length < 1000 := fun l hm => by have := (List.sublist_flatten_of_mem hm).length_le; omega
  have hnd : ls.flatten.Nodup := hperm.symm.nodup List.nodup_range
  have a1 : gSet 2 (gIxP 0 (gC (.int 0))) [.val (shelfD ps ls), .val (.tuple (lotsD goal)), .no, .no, .no, .no, .no] = some (.nx [.val (shelfD ps ls), .val (.tuple (lotsD goal)), .val (.tuple (pricesD ps)), .no, .no, .no, .no]) := rfl
  have a2 : gSetO 3 (Pf.gLst Pf.gNil) [.val (shelfD ps ls), .val (.tuple (lotsD goal)), .val (.tuple (pricesD ps)), .no, .no, .no, .no] = some (.nx (envLw ps ls goal [] .no .no)) := rfl
  have c : gFz (gCall m_splits_by_lot (Pf.gCons (gN 0) (Pf.gCons (gN 1) Pf.gNil))) (envLw ps ls goal [] .no .no) = some (.ok (.list ((ls.zip goal).map (splS ps)), envLw ps ls goal [] .no .no)) :=
    fz_ok (call_ok (cons_ok (n_val rfl) (cons_ok (n_val rfl) nil_ok)) (splits_by_lot_ok hw hl (by omega)))
  have z1 : (ls.zip goal).map (·.1) = ls := by rw [List.map_fst_zip]; rw [hg.len]; exact Nat.le_refl _
  have z2 : (ls.zip goal).map (·.2) = goal := by rw [List.map_snd_zip]; rw [hg.len]; exact Nat.le_refl _
  have lp := lw_loop (ps := ps) (ls := ls) (goal := goal) (fun w hm => (hw w hm).2) (ls.zip goal) 0 [] .no .no (fun i => by rw [z2, Nat.zero_add]) (by rw [List.length_zip]; simp; omega)
  rw [z1, z2] at lp
  unfold leastD
  cases hk : leastK (prB ps) (fxB ps) 0 ls goal with
  | none =>
    rw [hk] at lp
    obtain ⟨e, lp⟩ := lp
    refine fnD_rt (r := e) ?_
    show G_least_way [.val (shelfD ps ls), .val (.tuple (lotsD goal)), .no, .no, .no, .no, .no] = _
    unfold G_least_way
    rw [seq_nx a1, seq_nx a2]
    unfold gSeq
    rw [forEL_ok c (loose_map _ (fun _ => rfl) _), lp]
  | some way =>
    rw [hk] at lp
    obtain ⟨y4, y5, lp⟩ := lp
    rw [List.nil_append] at lp
    have snd := least_sound hk hg.len (hg.perm.trans hperm.symm) hnd
    have wl := leastK_len _ _ _ _ _ _ hk
    have gl := hg.perm.length_eq
    rw [List.length_range] at gl
    have c3 : gLcL [6] 6 gYes e2_least_way (gN 3) (envLw ps ls goal way y4 y5) = some (.ok (way.map fun d => natD (prB ps d.1), [.val (shelfD ps ls), .val (.tuple (lotsD goal)), .val (.tuple (pricesD ps)), .val (.list (ddsD way)), y4, y5, .no])) := by
      have q := lcL1 (gt := gYes) (ge := e2_least_way) (ga := gN 3) (j := 6) (env := envLw ps ls goal way y4 y5) (env1 := [.val (shelfD ps ls), .val (.tuple (lotsD goal)), .val (.tuple (pricesD ps)), .val (.list (ddsD way)), y4, y5, .no]) ddD (fun _ => true) (fun d => natD (prB ps d.1)) way (n_own (ds := ddsD way) rfl) rfl (fun _ _ => rfl) (fun d hd _ => by
        have hx : d.1 ∈ tk way := List.mem_map.mpr ⟨d, hd, rfl⟩
        obtain ⟨f1, f2⟩ := snd.2.2.2 d.1 hx
        have hb : d.1 < ps.length := List.mem_range.mp (hg.perm.mem_iff.mp f2)
        have g0 : gIxP 6 (gC (.int 0)) [.val (shelfD ps ls), .val (.tuple (lotsD goal)), .val (.tuple (pricesD ps)), .val (.list (ddsD way)), y4, y5, .val (ddD d)] = some (.ok (natD d.1, [.val (shelfD ps ls), .val (.tuple (lotsD goal)), .val (.tuple (pricesD ps)), .val (.list (ddsD way)), y4, y5, .val (ddD d)])) := rfl
        have g1 : gIxP 2 (gIxP 6 (gC (.int 0))) [.val (shelfD ps ls), .val (.tuple (lotsD goal)), .val (.tuple (pricesD ps)), .val (.list (ddsD way)), y4, y5, .val (ddD d)] = some (.ok (priceD ps[d.1], [.val (shelfD ps ls), .val (.tuple (lotsD goal)), .val (.tuple (pricesD ps)), .val (.list (ddsD way)), y4, y5, .val (ddD d)])) :=
          ixP_tup (ds := pricesD ps) (ds1 := pricesD ps) (k := d.1) rfl g0 rfl (price_at hb)
        refine g1.trans ?_
        rw [fxB_at hb] at f1
        rw [prB_at hb]
        cases h : ps[d.1]'hb with
        | none => rw [h] at f1; cases f1
        | some p => rfl) (by omega)
      rw [filter_yes] at q
      exact q
    have s3 : gBlt sumK (Pf.gCons (gFz (gLcL [6] 6 gYes e2_least_way (gN 3))) Pf.gNil) (envLw ps ls goal way y4 y5) = some (.ok (natD (sumP (prB ps) (tk way)), [.val (shelfD ps ls), .val (.tuple (lotsD goal)), .val (.tuple (pricesD ps)), .val (.list (ddsD way)), y4, y5, .no])) := by
      refine (bd_ok (cons_ok (fz_ok c3) nil_ok)).trans (opt_ok ?_)
      rw [sumK_nats (fun d : Dd => prB ps d.1)]
      unfold sumP tk
      rw [List.map_map]
      rfl
    have r := ret_ok (ga := Pf.gTup (Pf.gCons (gBlt sumK (Pf.gCons (gFz (gLcL [6] 6 gYes e2_least_way (gN 3))) Pf.gNil)) (Pf.gCons (gN 3) Pf.gNil))) ((bd_ok (cons_ok s3 (cons_ok (n_val (i := 3) (d := .list (ddsD way)) rfl) nil_ok))).trans (opt_ok (a := .tuple [natD (sumP (prB ps) (tk way)), .list (ddsD way)]) rfl))
    refine fnD_rt (r := [.val (shelfD ps ls), .val (.tuple (lotsD goal)), .val (.tuple (pricesD ps)), .val (.list (ddsD way)), y4, y5, .no]) ?_
    show G_least_way [.val (shelfD ps ls), .val (.tuple (lotsD goal)), .no, .no, .no, .no, .no] = _
    unfold G_least_way
    rw [seq_nx a1, seq_nx a2, seq_nx ((forEL_ok c (loose_map _ (fun _ => rfl) _)).trans lp)]
    exact r
end
end Q
/-! part C23 -/
set_option Elab.async false
set_option linter.all false
set_option maxRecDepth 100000
set_option maxHeartbeats 2000000
namespace Q
open PySem PySem.Spec L2
open Pf
theorem ex_ok {α : Type} {env env1 : En} {ga : M α} {d : α} (h : ga env = some (.ok (d, env1))) : gEx ga env = some (.nx env1) := (gE_ok h).trans rfl
section
variable {ps : List (Option Nat)} {ls goal : List (List Nat)}
theorem check_goal_ok (hs : ShelfOk ps ls) (hg : GoalOk ps ls goal) : m_check_goal [shelfD ps ls, .tuple (lotsD goal)] = some (.ok .none) := by
  have hp2 := hs.p2
  have gl := hg.perm.length_eq
  rw [List.length_range] at gl
  have hlen := hg.len
  have hl2 := hs.l2
  have lp : (pricesD ps).length = ps.length := List.length_map ..
  have a1 : gAsg (bTup 2 (bCons (bN 2) (bCons (bN 3) bNil))) (gN 0) [.val (shelfD ps ls), .val (.tuple (lotsD goal)), .no, .no, .no, .no] = some (.nx [.val (shelfD ps ls), .val (.tuple (lotsD goal)), .val (.tuple (pricesD ps)), .val (.tuple (lotsD ls)), .no, .no]) := rfl
  have a2 : gSet 4 (gLenP 3) [.val (shelfD ps ls), .val (.tuple (lotsD goal)), .val (.tuple (pricesD ps)), .val (.tuple (lotsD ls)), .no, .no] = some (.nx [.val (shelfD ps ls), .val (.tuple (lotsD goal)), .val (.tuple (pricesD ps)), .val (.tuple (lotsD ls)), .val (natD ls.length), .no]) := by
    have z : gLenP 3 [.val (shelfD ps ls), .val (.tuple (lotsD goal)), .val (.tuple (pricesD ps)), .val (.tuple (lotsD ls)), .no, .no] = some (.ok (.int (lotsD ls).length, [.val (shelfD ps ls), .val (.tuple (lotsD goal)), .val (.tuple (pricesD ps)), .val (.tuple (lotsD ls)), .no, .no])) := rfl
    rw [lotsD_len] at z
    exact (set_ok z).trans rfl
  have l2 : ∀ x5, gLenP 2 [.val (shelfD ps ls), .val (.tuple (lotsD goal)), .val (.tuple (pricesD ps)), .val (.tuple (lotsD ls)), .val (natD ls.length), x5] = some (.ok (natD ps.length, [.val (shelfD ps ls), .val (.tuple (lotsD goal)), .val (.tuple (pricesD ps)), .val (.tuple (lotsD ls)), .val (natD ls.length), x5])) := fun x5 => by
    have z : gLenP 2 [.val (shelfD ps ls), .val (.tuple (lotsD goal)), .val (.tuple (pricesD ps)), .val (.tuple (lotsD ls)), .val (natD ls.length), x5] = some (.ok (.int (pricesD ps).length, [.val (shelfD ps ls), .val (.tuple (lotsD goal)), .val (.tuple (pricesD ps)), .val (.tuple (lotsD ls)), .val (natD ls.length), x5])) := rfl
    rw [lp] at z
    exact z
  have wl := wrong_lot_ok goal ps.length ls.length ls.length (fun b hb => List.mem_range.mp (hg.perm.mem_iff.mp hb)) (hg.perm.symm.nodup List.nodup_range) (by omega) (by omega) (by omega)
  have mb := missing_book_ok goal ps.length (by omega) (fun b hb => hg.perm.mem_iff.mpr (List.mem_range.mpr hb))
  have a3 : gSet 5 (gCall m_wrong_lot (Pf.gCons (gN 1) (Pf.gCons (gLenP 2) (Pf.gCons (gN 4) (Pf.gCons (gN 4) Pf.gNil))))) [.val (shelfD ps ls), .val (.tuple (lotsD goal)), .val (.tuple (pricesD ps)), .val (.tuple (lotsD ls)), .val (natD ls.length), .no] = some (.nx [.val (shelfD ps ls), .val (.tuple (lotsD goal)), .val (.tuple (pricesD ps)), .val (.tuple (lotsD ls)), .val (natD ls.length), .val .none]) :=
    (set_ok (call_ok (cons_ok (n_val (i := 1) (d := .tuple (lotsD goal)) rfl) (cons_ok (l2 .no) (cons_ok (n_val (i := 4) (d := natD ls.length) rfl) (cons_ok (n_val (i := 4) (d := natD ls.length) rfl) nil_ok)))) wl)).trans rfl
  have a4 : gIfS (gTst isnD (gN 5) (gC .none)) (gRaise "BadGoal" ["number"] (Pf.gCons (gN 5) Pf.gNil)) gNx [.val (shelfD ps ls), .val (.tuple (lotsD goal)), .val (.tuple (pricesD ps)), .val (.tuple (lotsD ls)), .val (natD ls.length), .val .none] = some (.nx [.val (shelfD ps ls), .val (.tuple (lotsD goal)), .val (.tuple (pricesD ps)), .val (.tuple (lotsD ls)), .val (natD ls.length), .val .none]) := rfl
  have c5 : gCall m_missing_book (Pf.gCons (gN 1) (Pf.gCons (gLenP 2) Pf.gNil)) [.val (shelfD ps ls), .val (.tuple (lotsD goal)), .val (.tuple (pricesD ps)), .val (.tuple (lotsD ls)), .val (natD ls.length), .val .none] = some (.ok (.none, [.val (shelfD ps ls), .val (.tuple (lotsD goal)), .val (.tuple (pricesD ps)), .val (.tuple (lotsD ls)), .val (natD ls.length), .val .none])) :=
    call_ok (cons_ok (n_val (i := 1) (d := .tuple (lotsD goal)) rfl) (cons_ok (l2 _) nil_ok)) mb
  have t5 := tst_ok (f := isnD) (gb := gC .none) c5 rfl (show isnD .none .none = some false from rfl)
  refine fnD_nx (r := [.val (shelfD ps ls), .val (.tuple (lotsD goal)), .val (.tuple (pricesD ps)), .val (.tuple (lotsD ls)), .val (natD ls.length), .val .none]) ?_
  show G_check_goal [.val (shelfD ps ls), .val (.tuple (lotsD goal)), .no, .no, .no, .no] = _
  unfold G_check_goal
  rw [seq_nx a1, seq_nx a2, seq_nx a3, seq_nx a4, ifS_f t5]
  rfl
theorem least_ok (hs : ShelfOk ps ls) (hg : GoalOk ps ls goal) : m_least [shelfD ps ls, .tuple (lotsD goal)] = some (.ok (leastD ps ls goal)) := by
  have hp2 := hs.p2
  have hl2 := hs.l2
  have a1 := ex_ok (call_ok (env := [.val (shelfD ps ls), .val (.tuple (lotsD goal))]) (gl := Pf.gCons (gN 0) Pf.gNil) (cons_ok (n_val rfl) nil_ok) (check_shelf_ok ps ls hs))
  have a2 := ex_ok (call_ok (env := [.val (shelfD ps ls), .val (.tuple (lotsD goal))]) (gl := Pf.gCons (gN 0) (Pf.gCons (gN 1) Pf.gNil)) (cons_ok (n_val rfl) (cons_ok (n_val rfl) nil_ok)) (check_goal_ok hs hg))
  have a3 := ret_ok (call_ok (env := [.val (shelfD ps ls), .val (.tuple (lotsD goal))]) (gl := Pf.gCons (gN 0) (Pf.gCons (gN 1) Pf.gNil)) (cons_ok (n_val rfl) (cons_ok (n_val rfl) nil_ok)) (least_way_ok (by omega) (by omega) hs.perm hg))
  refine fnD_rt (r := [.val (shelfD ps ls), .val (.tuple (lotsD goal))]) ?_
  show G_least [.val (shelfD ps ls), .val (.tuple (lotsD goal))] = _
  unfold G_least
  rw [seq_nx a1, seq_nx a2, a3]
end
end Q
/-! part Bm -/
set_option Elab.async false
set_option linter.all false
namespace Q
theorem strip_flatten (b : Nat) : ∀ ls : List (List Nat), (ls.map (strip b)).flatten = strip b ls.flatten
  | [] => rfl
  | l :: ls => by
    have ih := strip_flatten b ls
    simp only [List.map_cons, List.flatten_cons, ih]
    unfold strip
    rw [List.filter_append]
theorem set_perm (b : Nat) (f : Bool) : ∀ (L : List (List Nat)) (k : Nat), k < L.length → (L.set k (putEnd f b ((L[k]?).getD []))).flatten.Perm (b :: L.flatten)
  | [], k, h => absurd h (Nat.not_lt_zero _)
  | l :: L, 0, _ => by
    simp only [List.set_cons_zero, List.flatten_cons, List.getElem?_cons_zero, Option.getD_some]
    cases f with
    | true => exact List.Perm.refl _
    | false =>
      show ((l ++ [b]) ++ L.flatten).Perm _
      rw [List.append_assoc]
      exact List.perm_middle
  | l :: L, k + 1, h => by
    have ih := set_perm b f L k (by simpa using h)
    simp only [List.set_cons_succ, List.flatten_cons, List.getElem?_cons_succ]
    exact (ih.append_left l).trans List.perm_middle
theorem placed_perm {ls : List (List Nat)} {b k : Nat} {f : Bool} (hn : ls.flatten.Nodup) (hb : b ∈ ls.flatten) (hk : k < ls.length) : (placed ls b k f).flatten.Perm ls.flatten := by
  unfold placed
  refine (set_perm b f (ls.map (strip b)) k (by simpa using hk)).trans ?_
  rw [strip_flatten]
  have e : strip b ls.flatten = ls.flatten.erase b := by
    rw [hn.erase_eq_filter]
    rfl
  rw [e]
  exact (List.perm_cons_erase hb).symm
end Q
/-! part D17a -/
set_option Elab.async false
set_option linter.all false
namespace Q
end Q
/-! part D17b -/
set_option Elab.async false
set_option linter.all false
set_option maxRecDepth 100000
set_option maxHeartbeats 4000000
namespace Q
open PySem PySem.Spec L2
open Pf
abbrev envGo (ps : List (Option Nat)) (ls : List (List Nat)) (s : Stt) (x2 x3 x4 x5 x6 x7 : Sl) : En := [.bor (enc s), .val (shelfD ps ls), x2, x3, x4, x5, x6, x7]
theorem pick2 {env : En} {s : Stt} {d1 d2 : PyData} {ga gb : M PyData} (h0 : env[0]? = some (.bor (enc s))) (ha : ga env = some (.ok (d1, env))) (hb : gb env = some (.ok (d2, env))) : ∃ (k : Bool) (s' : Stt), gBin atD (gFz (Pf.gLst (Pf.gCons ga (Pf.gCons gb Pf.gNil)))) (gCallB 0 (Pf.gCons (gC (.int 2)) Pf.gNil) m__law_drawn) env = some (.ok (if k = true then d1 else d2, env.set 0 (.bor (enc s')))) := by
  obtain ⟨d, s', hd, e⟩ := drawn_call (s := s) (n := 2) (gl := Pf.gCons (gC (.int 2)) Pf.gNil) (env := env) (by decide) (by decide) h0 rfl
  have l : gFz (Pf.gLst (Pf.gCons ga (Pf.gCons gb Pf.gNil))) env = some (.ok (.list [d1, d2], env)) := fz_ok ((bd_ok (cons_ok ha (cons_ok hb nil_ok))).trans rfl)
  match d, hd with
  | 0, _ => exact ⟨true, s', bin_ok l e (atI_nat (j := 0) rfl)⟩
  | 1, _ => exact ⟨false, s', bin_ok l e (atI_nat (j := 1) rfl)⟩
section
variable {ps : List (Option Nat)} {ls cur : List (List Nat)}
theorem endD_if (k : Bool) : (if k = true then PyData.str "first" else .str "last") = endD k := by cases k <;> rfl
theorem goal_body (hp : ps.length ≤ 12) (hp1 : 1 ≤ ps.length) (hl : ls.length ≤ 5) (hl1 : 1 ≤ ls.length) (hc : GoalOk ps ls cur) (s : Stt) (way t : Nat) (x6 x7 : Sl) :
    ∃ (s' : Stt) (cur' : List (List Nat)) (y6 y7 : Sl), GoalOk ps ls cur' ∧ b1__law_goal (envGo ps ls s (.val (.tuple (pricesD ps))) (.val (.tuple (lotsD cur))) (.val (natD way)) (.val (natD t)) x6 x7) = some (.nx (envGo ps ls s' (.val (.tuple (pricesD ps))) (.val (.tuple (lotsD cur'))) (.val (natD way)) (.val (natD t)) y6 y7)) := by
  obtain ⟨b, s1, hb, e1⟩ := drawn_call (s := s) (n := ps.length) (gl := Pf.gCons (gLenP 2) Pf.gNil) (env := (envGo ps ls s (.val (.tuple (pricesD ps))) (.val (.tuple (lotsD cur))) (.val (natD way)) (.val (natD t)) x6 x7)) (by omega) (by omega) rfl (by
    have z : Pf.gCons (gLenP 2) Pf.gNil (envGo ps ls s (.val (.tuple (pricesD ps))) (.val (.tuple (lotsD cur))) (.val (natD way)) (.val (natD t)) x6 x7) = some (.ok ([.int (pricesD ps).length], (envGo ps ls s (.val (.tuple (pricesD ps))) (.val (.tuple (lotsD cur))) (.val (natD way)) (.val (natD t)) x6 x7))) := rfl
    rw [show (pricesD ps).length = ps.length from List.length_map ..] at z
    exact z)
  have e1 : gCallB 0 (Pf.gCons (gLenP 2) Pf.gNil) m__law_drawn (envGo ps ls s (.val (.tuple (pricesD ps))) (.val (.tuple (lotsD cur))) (.val (natD way)) (.val (natD t)) x6 x7) = some (.ok (natD b, (envGo ps ls s1 (.val (.tuple (pricesD ps))) (.val (.tuple (lotsD cur))) (.val (natD way)) (.val (natD t)) x6 x7))) := e1
  obtain ⟨j, s2, hj, e2⟩ := drawn_call (s := s1) (n := ls.length) (gl := Pf.gCons (gLenP 3) Pf.gNil) (env := (envGo ps ls s1 (.val (.tuple (pricesD ps))) (.val (.tuple (lotsD cur))) (.val (natD way)) (.val (natD t)) x6 x7)) (by omega) (by omega) rfl (by
    have z : Pf.gCons (gLenP 3) Pf.gNil (envGo ps ls s1 (.val (.tuple (pricesD ps))) (.val (.tuple (lotsD cur))) (.val (natD way)) (.val (natD t)) x6 x7) = some (.ok ([.int (lotsD cur).length], (envGo ps ls s1 (.val (.tuple (pricesD ps))) (.val (.tuple (lotsD cur))) (.val (natD way)) (.val (natD t)) x6 x7))) := rfl
    rw [lotsD_len, hc.len] at z
    exact z)
  have e2 : gCallB 0 (Pf.gCons (gLenP 3) Pf.gNil) m__law_drawn (envGo ps ls s1 (.val (.tuple (pricesD ps))) (.val (.tuple (lotsD cur))) (.val (natD way)) (.val (natD t)) x6 x7) = some (.ok (natD j, (envGo ps ls s2 (.val (.tuple (pricesD ps))) (.val (.tuple (lotsD cur))) (.val (natD way)) (.val (natD t)) x6 x7))) := e2
  have a1 : gE (Pf.gCons (gCallB 0 (Pf.gCons (gLenP 2) Pf.gNil) m__law_drawn) (Pf.gCons (gCallB 0 (Pf.gCons (gLenP 3) Pf.gNil) m__law_drawn) Pf.gNil)) (gPar 6 7) (envGo ps ls s (.val (.tuple (pricesD ps))) (.val (.tuple (lotsD cur))) (.val (natD way)) (.val (natD t)) x6 x7) = some (.nx (envGo ps ls s2 (.val (.tuple (pricesD ps))) (.val (.tuple (lotsD cur))) (.val (natD way)) (.val (natD t)) (.val (natD b)) (.val (natD j)))) := by
    rw [gE_ok (cons_ok e1 (cons_ok e2 nil_ok))]
    rfl
  have g1 : gIxP 2 (gN 6) (envGo ps ls s2 (.val (.tuple (pricesD ps))) (.val (.tuple (lotsD cur))) (.val (natD way)) (.val (natD t)) (.val (natD b)) (.val (natD j))) = some (.ok (priceD ps[b], (envGo ps ls s2 (.val (.tuple (pricesD ps))) (.val (.tuple (lotsD cur))) (.val (natD way)) (.val (natD t)) (.val (natD b)) (.val (natD j))))) := ix_price rfl rfl hb
  have t1 := tst_ok (f := isnD) (gb := gC .none) g1 rfl (isnD_price _)
  have t2 : gTst eqD (gN 4) (gC (.int 1)) (envGo ps ls s2 (.val (.tuple (pricesD ps))) (.val (.tuple (lotsD cur))) (.val (natD way)) (.val (natD t)) (.val (natD b)) (.val (natD j))) = some (.ok (way == 1, (envGo ps ls s2 (.val (.tuple (pricesD ps))) (.val (.tuple (lotsD cur))) (.val (natD way)) (.val (natD t)) (.val (natD b)) (.val (natD j))))) := tst_ok (n_val (d := natD way) rfl) (show gC (.int 1) _ = some (.ok (natD 1, _)) from rfl) (eqD_int2 way 1)
  have t3 : gTst eqD (gN 5) (gC (.int 2)) (envGo ps ls s2 (.val (.tuple (pricesD ps))) (.val (.tuple (lotsD cur))) (.val (natD way)) (.val (natD t)) (.val (natD b)) (.val (natD j))) = some (.ok (t == 2, (envGo ps ls s2 (.val (.tuple (pricesD ps))) (.val (.tuple (lotsD cur))) (.val (natD way)) (.val (natD t)) (.val (natD b)) (.val (natD j))))) := tst_ok (n_val (d := natD t) rfl) (show gC (.int 2) _ = some (.ok (natD 2, _)) from rfl) (eqD_int2 t 2)
  have tt : ∃ k, gOrT (gTst isnD (gIxP 2 (gN 6)) (gC .none)) (gAndT (gTst eqD (gN 4) (gC (.int 1))) (gTst eqD (gN 5) (gC (.int 2)))) (envGo ps ls s2 (.val (.tuple (pricesD ps))) (.val (.tuple (lotsD cur))) (.val (natD way)) (.val (natD t)) (.val (natD b)) (.val (natD j))) = some (.ok (k, (envGo ps ls s2 (.val (.tuple (pricesD ps))) (.val (.tuple (lotsD cur))) (.val (natD way)) (.val (natD t)) (.val (natD b)) (.val (natD j))))) := by
    cases h1 : (!(ps[b]).isNone) with
    | true => rw [h1] at t1; exact ⟨true, orT_t t1⟩
    | false =>
      rw [h1] at t1
      cases h2 : (way == 1) with
      | true => rw [h2] at t2; exact ⟨_, (orT_f t1).trans ((andT_t t2).trans t3)⟩
      | false => rw [h2] at t2; exact ⟨_, (orT_f t1).trans (andT_f t2)⟩
  obtain ⟨k, tk⟩ := tt
  cases k with
  | false =>
    refine ⟨s2, cur, (.val (natD b)), (.val (natD j)), hc, ?_⟩
    unfold b1__law_goal
    exact seq_to a1 ((ifS_f tk).trans rfl)
  | true =>
    obtain ⟨f, s3, e3⟩ := pick2 (s := s2) (env := (envGo ps ls s2 (.val (.tuple (pricesD ps))) (.val (.tuple (lotsD cur))) (.val (natD way)) (.val (natD t)) (.val (natD b)) (.val (natD j)))) (ga := gC (.str "first")) (gb := gC (.str "last")) rfl rfl rfl
    rw [endD_if] at e3
    have e3 : gBin atD (gFz (Pf.gLst (Pf.gCons (gC (.str "first")) (Pf.gCons (gC (.str "last")) Pf.gNil)))) (gCallB 0 (Pf.gCons (gC (.int 2)) Pf.gNil) m__law_drawn) (envGo ps ls s2 (.val (.tuple (pricesD ps))) (.val (.tuple (lotsD cur))) (.val (natD way)) (.val (natD t)) (.val (natD b)) (.val (natD j))) = some (.ok (endD f, (envGo ps ls s3 (.val (.tuple (pricesD ps))) (.val (.tuple (lotsD cur))) (.val (natD way)) (.val (natD t)) (.val (natD b)) (.val (natD j))))) := e3
    have hlen := hc.perm.length_eq
    rw [List.length_range] at hlen
    have lp := law_placed_ok cur b j f (by rw [hc.len]; exact hj) (by rw [hc.len]; omega) (fun l hm => by have := (List.sublist_flatten_of_mem hm).length_le; omega)
    have c := call_ok (m := m__law_placed) (gl := Pf.gCons (gN 3) (Pf.gCons (gN 6) (Pf.gCons (gN 7) (Pf.gCons (gBin atD (gFz (Pf.gLst (Pf.gCons (gC (.str "first")) (Pf.gCons (gC (.str "last")) Pf.gNil)))) (gCallB 0 (Pf.gCons (gC (.int 2)) Pf.gNil) m__law_drawn)) Pf.gNil)))) (env := (envGo ps ls s2 (.val (.tuple (pricesD ps))) (.val (.tuple (lotsD cur))) (.val (natD way)) (.val (natD t)) (.val (natD b)) (.val (natD j)))) (cons_ok (n_val (d := .tuple (lotsD cur)) rfl) (cons_ok (n_val (d := natD b) rfl) (cons_ok (n_val (d := natD j) rfl) (cons_ok e3 nil_ok)))) lp
    have hnd : cur.flatten.Nodup := hc.perm.symm.nodup List.nodup_range
    refine ⟨s3, placed cur b j f, (.val (natD b)), (.val (natD j)), ⟨(placed_len cur b j f).trans hc.len, (placed_perm hnd (hc.perm.mem_iff.mpr (List.mem_range.mpr hb)) (by rw [hc.len]; exact hj)).trans hc.perm⟩, ?_⟩
    unfold b1__law_goal
    refine seq_to a1 ((ifS_t tk).trans ?_)
    rw [set_ok c]
    rfl
theorem goal_loop (hp : ps.length ≤ 12) (hp1 : 1 ≤ ps.length) (hl : ls.length ≤ 5) (hl1 : 1 ≤ ls.length) (way : Nat) : ∀ (m k : Nat) (cur : List (List Nat)) (s : Stt) (x5 x6 x7 : Sl), GoalOk ps ls cur →
    ∃ (s' : Stt) (cur' : List (List Nat)) (y5 y6 y7 : Sl), GoalOk ps ls cur' ∧ loopL (bN 5) b1__law_goal (nats (List.range' k m)) (envGo ps ls s (.val (.tuple (pricesD ps))) (.val (.tuple (lotsD cur))) (.val (natD way)) x5 x6 x7) = some (.nx (envGo ps ls s' (.val (.tuple (pricesD ps))) (.val (.tuple (lotsD cur'))) (.val (natD way)) y5 y6 y7))
  | 0, k, cur, s, x5, x6, x7, hc => ⟨s, cur, x5, x6, x7, hc, rfl⟩
  | m + 1, k, cur, s, x5, x6, x7, hc => by
    obtain ⟨s1, c1, y6, y7, h1, e1⟩ := goal_body hp hp1 hl hl1 hc s way k x6 x7
    obtain ⟨s', c2, z5, z6, z7, h2, e2⟩ := goal_loop hp hp1 hl hl1 way m (k + 1) c1 s1 (.val (natD k)) y6 y7 h1
    refine ⟨s', c2, z5, z6, z7, h2, ?_⟩
    have step : loopL (bN 5) b1__law_goal (nats (List.range' k (m + 1))) (envGo ps ls s (.val (.tuple (pricesD ps))) (.val (.tuple (lotsD cur))) (.val (natD way)) x5 x6 x7) = (match b1__law_goal (envGo ps ls s (.val (.tuple (pricesD ps))) (.val (.tuple (lotsD cur))) (.val (natD way)) (.val (natD k)) x6 x7) with
      | some (.nx env2) => loopL (bN 5) b1__law_goal (nats (List.range' (k + 1) m)) env2
      | some (.ct env2) => loopL (bN 5) b1__law_goal (nats (List.range' (k + 1) m)) env2
      | some (.bk env2) => some (.nx env2)
      | o => o) := rfl
    rw [step, e1]
    exact e2
theorem goal_ok (hs : ShelfOk ps ls) (s : Stt) : ∃ (s' : Stt) (goal : List (List Nat)), GoalOk ps ls goal ∧ m__law_goal (enc s) [shelfD ps ls] = some (.ok (.tuple (lotsD goal), enc s')) := by
  have hp := hs.p2
  have hp1 := hs.p1
  have hl := hs.l2
  have hl1 := hs.l1
  have a1 : gAsg (bTup 2 (bCons (bN 2) (bCons (bN 3) bNil))) (gN 1) (envGo ps ls s .no .no .no .no .no .no) = some (.nx (envGo ps ls s (.val (.tuple (pricesD ps))) (.val (.tuple (lotsD ls))) .no .no .no .no)) := rfl
  obtain ⟨way, s1, hw, e1⟩ := drawn_call (s := s) (n := 6) (gl := Pf.gCons (gC (.int 6)) Pf.gNil) (env := (envGo ps ls s (.val (.tuple (pricesD ps))) (.val (.tuple (lotsD ls))) .no .no .no .no)) (by decide) (by decide) rfl rfl
  have a2 : gSet 4 (gCallB 0 (Pf.gCons (gC (.int 6)) Pf.gNil) m__law_drawn) (envGo ps ls s (.val (.tuple (pricesD ps))) (.val (.tuple (lotsD ls))) .no .no .no .no) = some (.nx (envGo ps ls s1 (.val (.tuple (pricesD ps))) (.val (.tuple (lotsD ls))) (.val (natD way)) .no .no .no)) := by
    rw [set_ok e1]
    rfl
  have t0 : gTst eqD (gN 4) (gC (.int 0)) (envGo ps ls s1 (.val (.tuple (pricesD ps))) (.val (.tuple (lotsD ls))) (.val (natD way)) .no .no .no) = some (.ok (way == 0, (envGo ps ls s1 (.val (.tuple (pricesD ps))) (.val (.tuple (lotsD ls))) (.val (natD way)) .no .no .no))) := tst_ok (n_val (d := natD way) rfl) (show gC (.int 0) _ = some (.ok (natD 0, _)) from rfl) (eqD_int2 way 0)
  have l2 : ∀ s x4 x5 x6 x7, gLenP 2 (envGo ps ls s (.val (.tuple (pricesD ps))) (.val (.tuple (lotsD ls))) x4 x5 x6 x7) = some (.ok (natD ps.length, (envGo ps ls s (.val (.tuple (pricesD ps))) (.val (.tuple (lotsD ls))) x4 x5 x6 x7))) := fun s x4 x5 x6 x7 => by
    have z : gLenP 2 (envGo ps ls s (.val (.tuple (pricesD ps))) (.val (.tuple (lotsD ls))) x4 x5 x6 x7) = some (.ok (.int (pricesD ps).length, (envGo ps ls s (.val (.tuple (pricesD ps))) (.val (.tuple (lotsD ls))) x4 x5 x6 x7))) := rfl
    rw [show (pricesD ps).length = ps.length from List.length_map ..] at z
    exact z
  have l3 : ∀ s x4 x5 x6 x7, gLenP 3 (envGo ps ls s (.val (.tuple (pricesD ps))) (.val (.tuple (lotsD ls))) x4 x5 x6 x7) = some (.ok (natD ls.length, (envGo ps ls s (.val (.tuple (pricesD ps))) (.val (.tuple (lotsD ls))) x4 x5 x6 x7))) := fun s x4 x5 x6 x7 => by
    have z : gLenP 3 (envGo ps ls s (.val (.tuple (pricesD ps))) (.val (.tuple (lotsD ls))) x4 x5 x6 x7) = some (.ok (.int (lotsD ls).length, (envGo ps ls s (.val (.tuple (pricesD ps))) (.val (.tuple (lotsD ls))) x4 x5 x6 x7))) := rfl
    rw [lotsD_len] at z
    exact z
  have eG : m__law_goal (enc s) [shelfD ps ls] = fnB G__law_goal 8 (enc s) [shelfD ps ls] := rfl
  have eE : envB 8 (enc s) [shelfD ps ls] = (envGo ps ls s .no .no .no .no .no .no) := rfl
  rw [eG]
  cases hz : (way == 0) with
  | true =>
    rw [hz] at t0
    obtain ⟨s2, goal, g1, g2, e2⟩ := lots_ok s1 ps.length ls.length (by omega) (by omega) (by omega)
    have c : gCallB 0 (Pf.gCons (gLenP 2) (Pf.gCons (gLenP 3) Pf.gNil)) m__law_lots (envGo ps ls s1 (.val (.tuple (pricesD ps))) (.val (.tuple (lotsD ls))) (.val (natD way)) .no .no .no) = some (.ok (.tuple (lotsD goal), (envGo ps ls s2 (.val (.tuple (pricesD ps))) (.val (.tuple (lotsD ls))) (.val (natD way)) .no .no .no))) :=
      callB_bor (st := enc s1) (ds := enc s1) rfl (cons_ok (l2 _ _ _ _ _) (cons_ok (l3 _ _ _ _ _) nil_ok)) rfl e2
    refine ⟨s2, goal, ⟨g1, g2⟩, fnB_rt (r := [.val (shelfD ps ls), (.val (.tuple (pricesD ps))), (.val (.tuple (lotsD ls))), (.val (natD way)), .no, .no, .no]) ?_⟩
    rw [eE]
    unfold G__law_goal
    rw [seq_nx a1, seq_nx a2]
    have r : gIfS (gTst eqD (gN 4) (gC (.int 0))) (gRet (gCallB 0 (Pf.gCons (gLenP 2) (Pf.gCons (gLenP 3) Pf.gNil)) m__law_lots)) gNx (envGo ps ls s1 (.val (.tuple (pricesD ps))) (.val (.tuple (lotsD ls))) (.val (natD way)) .no .no .no) = some (.rt (.tuple (lotsD goal)) (envGo ps ls s2 (.val (.tuple (pricesD ps))) (.val (.tuple (lotsD ls))) (.val (natD way)) .no .no .no)) := (ifS_t t0).trans (ret_ok c)
    unfold gSeq
    rw [r]
  | false =>
    rw [hz] at t0
    have a3 : gIfS (gTst eqD (gN 4) (gC (.int 0))) (gRet (gCallB 0 (Pf.gCons (gLenP 2) (Pf.gCons (gLenP 3) Pf.gNil)) m__law_lots)) gNx (envGo ps ls s1 (.val (.tuple (pricesD ps))) (.val (.tuple (lotsD ls))) (.val (natD way)) .no .no .no) = some (.nx (envGo ps ls s1 (.val (.tuple (pricesD ps))) (.val (.tuple (lotsD ls))) (.val (natD way)) .no .no .no)) := (ifS_f t0).trans rfl
    have many : gBin addD (gBin mulD (gC (.int 2)) (gLenP 2)) (gC (.int 1)) (envGo ps ls s1 (.val (.tuple (pricesD ps))) (.val (.tuple (lotsD ls))) (.val (natD way)) .no .no .no) = some (.ok (natD (2 * ps.length + 1), (envGo ps ls s1 (.val (.tuple (pricesD ps))) (.val (.tuple (lotsD ls))) (.val (natD way)) .no .no .no))) := by
      refine bin_ok (d := natD (2 * ps.length)) (e := natD 1) (bin_ok (d := natD 2) (e := natD ps.length) rfl (l2 _ _ _ _ _) ?_) rfl rfl
      show mulD (.int 2) (.int ps.length) = _
      unfold mulD
      simp only
      rw [if_pos (.inl ⟨by decide, by decide⟩)]
      rfl
    obtain ⟨k, s2, e2⟩ := pick2 (s := s1) (env := (envGo ps ls s1 (.val (.tuple (pricesD ps))) (.val (.tuple (lotsD ls))) (.val (natD way)) .no .no .no)) (ga := gC (.int 4)) rfl rfl many
    have hv : (if k = true then PyData.int 4 else natD (2 * ps.length + 1)) = natD (if k = true then 4 else 2 * ps.length + 1) := by cases k <;> rfl
    rw [hv] at e2
    have hpos : 0 < (if k = true then 4 else 2 * ps.length + 1) := by cases k <;> simp
    have hsm : (if k = true then 4 else 2 * ps.length + 1) < 1000 := by cases k <;> simp <;> omega
    generalize (if k = true then 4 else 2 * ps.length + 1) = c at e2 hpos hsm
    have e2 : gBin atD (gFz (Pf.gLst (Pf.gCons (gC (.int 4)) (Pf.gCons (gBin addD (gBin mulD (gC (.int 2)) (gLenP 2)) (gC (.int 1))) Pf.gNil)))) (gCallB 0 (Pf.gCons (gC (.int 2)) Pf.gNil) m__law_drawn) (envGo ps ls s1 (.val (.tuple (pricesD ps))) (.val (.tuple (lotsD ls))) (.val (natD way)) .no .no .no) = some (.ok (natD c, (envGo ps ls s2 (.val (.tuple (pricesD ps))) (.val (.tuple (lotsD ls))) (.val (natD way)) .no .no .no))) := e2
    obtain ⟨n, s3, hn, e3⟩ := drawn_ok s2 c hpos (by omega)
    have c3 : gCallB 0 (Pf.gCons (gBin atD (gFz (Pf.gLst (Pf.gCons (gC (.int 4)) (Pf.gCons (gBin addD (gBin mulD (gC (.int 2)) (gLenP 2)) (gC (.int 1))) Pf.gNil)))) (gCallB 0 (Pf.gCons (gC (.int 2)) Pf.gNil) m__law_drawn)) Pf.gNil) m__law_drawn (envGo ps ls s1 (.val (.tuple (pricesD ps))) (.val (.tuple (lotsD ls))) (.val (natD way)) .no .no .no) = some (.ok (natD n, (envGo ps ls s3 (.val (.tuple (pricesD ps))) (.val (.tuple (lotsD ls))) (.val (natD way)) .no .no .no))) :=
      callB_bor (st := enc s1) (ds := enc s2) rfl (cons_ok e2 nil_ok) rfl e3
    obtain ⟨s4, goal, y5, y6, y7, g, e4⟩ := goal_loop hp hp1 hl hl1 way n 0 ls s3 .no .no .no ⟨rfl, hs.perm⟩
    have f := (forR1_ok (b := bN 5) (g := b1__law_goal) c3 (by omega)).trans e4
    refine ⟨s4, goal, g, fnB_rt (r := [.val (shelfD ps ls), (.val (.tuple (pricesD ps))), (.val (.tuple (lotsD goal))), (.val (natD way)), y5, y6, y7]) ?_⟩
    rw [eE]
    unfold G__law_goal
    rw [seq_nx a1, seq_nx a2, seq_nx a3, seq_nx f]
    exact ret_ok (n_val rfl)
end
end Q
/-! part C24 -/
set_option Elab.async false
set_option linter.all false
set_option maxRecDepth 100000
set_option maxHeartbeats 4000000
namespace Q
open PySem PySem.Spec L2
open Pf
def nob (s : Sl) : Bool := match s with
  | .obj _ => false
  | _ => true
theorem noObj_all (env : En) : noObj env = env.all nob := by
  unfold noObj
  congr 1
def pl (x : Sl) : Prop := x = .no ∨ ∃ d, x = .val d
theorem nob_val (d : PyData) : nob (.val d) = true := rfl
theorem nob_own (d : List PyData) : nob (.own d) = true := rfl
theorem nob_tab (T : List (Addr × Str)) : nob (.tab T) = true := rfl
theorem seq_rt {g h : S} {env env1 : En} {d : PyData} (h1 : g env = some (.rt d env1)) : gSeq g h env = some (.rt d env1) := by unfold gSeq; rw [h1]
theorem seq_er {g h : S} {env env1 : En} {x : Xc} (h1 : g env = some (.er x env1)) : gSeq g h env = some (.er x env1) := by unfold gSeq; rw [h1]
abbrev LK (ps : List (Option Nat)) (ls goal : List (List Nat)) : Option (List Dd) := leastK (prB ps) (fxB ps) 0 ls goal
abbrev costN (ps : List (Option Nat)) (w : List Dd) : Nat := sumP (prB ps) (tk w)
theorem leastD_none {ps : List (Option Nat)} {ls goal : List (List Nat)} (h : LK ps ls goal = none) : leastD ps ls goal = .none := by
  have h : leastK (prB ps) (fxB ps) 0 ls goal = none := h
  unfold leastD; rw [h]
theorem leastD_some {ps : List (Option Nat)} {ls goal : List (List Nat)} {w : List Dd} (h : LK ps ls goal = some w) : leastD ps ls goal = .tuple [natD (costN ps w), .list (ddsD w)] := by
  have h : leastK (prB ps) (fxB ps) 0 ls goal = some w := h
  unfold leastD; rw [h]
theorem leastD_isNone (ps : List (Option Nat)) (ls goal : List (List Nat)) : isNoneD (leastD ps ls goal) = (LK ps ls goal).isNone := by
  cases h : LK ps ls goal with
  | none => rw [leastD_none h]; rfl
  | some w => rw [leastD_some h]; rfl
theorem cut_take (ds : List PyData) (s : Nat) : cutD ds none (some (s : Int)) = ds.take s := by
  unfold cutD
  rw [HT.sIx_nat]
  show (ds.drop 0).take (min s ds.length - 0) = _
  rw [List.drop_zero, Nat.sub_zero]
  by_cases h : s ≤ ds.length
  · rw [Nat.min_eq_left h]
  · rw [Nat.min_eq_right (by omega), List.take_length, List.take_of_length_le (by omega)]
theorem cut_drop (ds : List PyData) (s : Nat) : cutD ds (some (s : Int)) none = ds.drop s := by
  unfold cutD
  rw [HT.sIx_nat]
  show (ds.drop (min s ds.length)).take (ds.length - min s ds.length) = _
  have e : ds.drop (min s ds.length) = ds.drop s := by
    by_cases h : s ≤ ds.length
    · rw [Nat.min_eq_left h]
    · rw [Nat.min_eq_right (by omega), List.drop_length, List.drop_of_length_le (by omega)]
  rw [e, List.take_of_length_le]
  rw [List.length_drop]
  omega
theorem same_int (n : Nat) (k : Int) : m__law_same (n + 1) [.int k, .int k] = some (.ok (.bool true)) := by
  refine fnD_rt (r := [.val (.int k), .val (.int k), .val (.bool true), .no]) ?_
  have a1 : gIfS (gTru (gIsa2 "tuple" "list" (gN 1))) (gSeq (gIfS (gOrT (gNotT (gTru (gIsa2 "tuple" "list" (gN 0)))) (gTst neD (gIsa "list" (gN 0)) (gIsa "list" (gN 1)))) (gRet (gC (.bool false))) gNx)
    (gSeq (gIfS (gTst neD (gLenP 0) (gLenP 1)) (gRet (gC (.bool false))) gNx)
    (gRet (gCmp eqD (gFz (gLcR [3] 3 (t1__law_same (m__law_same n)) (e2__law_same (m__law_same n)) (gLenP 1))) (gFz (Pf.gLst Pf.gNil)))))) gNx [.val (.int k), .val (.int k), .no, .no] = some (.nx [.val (.int k), .val (.int k), .no, .no]) := rfl
  have a2 : gSet 2 (gAnd (gCmp eqD (gIsa "bool" (gN 0)) (gIsa "bool" (gN 1))) (gCmp eqD (gIsa "int" (gN 0)) (gIsa "int" (gN 1)))) [.val (.int k), .val (.int k), .no, .no] = some (.nx [.val (.int k), .val (.int k), .val (.bool true), .no]) := rfl
  have a3 : gRet (gAnd (gN 2) (gCmp eqD (gN 0) (gN 1))) [.val (.int k), .val (.int k), .val (.bool true), .no] = some (.rt (.bool true) [.val (.int k), .val (.int k), .val (.bool true), .no]) := by
    have e : eqD (.int k) (.int k) = some true := by rw [eqD_int]; simp
    have c : gCmp eqD (gN 0) (gN 1) [.val (.int k), .val (.int k), .val (.bool true), .no] = some (.ok (.bool true, [.val (.int k), .val (.int k), .val (.bool true), .no])) := (bd_ok (n_val (i := 0) (d := .int k) rfl)).trans ((bd_ok (n_val (i := 1) (d := .int k) rfl)).trans (opt_ok (by rw [e]; rfl)))
    exact ret_ok ((bd_ok (n_val (i := 2) (d := .bool true) rfl)).trans c)
  show G__law_same (m__law_same n) [.val (.int k), .val (.int k), .no, .no] = _
  unfold G__law_same
  exact seq_to a1 (seq_to a2 a3)
theorem same_list (n : Nat) (L : List PyData) (hl : L.length < 1000000) (h : ∀ x ∈ L, m__law_same n [x, x] = some (.ok (.bool true))) : m__law_same (n + 1) [.list L, .list L] = some (.ok (.bool true)) := by
  refine fnD_rt (r := [.val (.list L), .val (.list L), .no, .no]) ?_
  have t1 : gOrT (gNotT (gTru (gIsa2 "tuple" "list" (gN 0)))) (gTst neD (gIsa "list" (gN 0)) (gIsa "list" (gN 1))) [.val (.list L), .val (.list L), .no, .no] = some (.ok (false, [.val (.list L), .val (.list L), .no, .no])) := rfl
  have t2 : gTst neD (gLenP 0) (gLenP 1) [.val (.list L), .val (.list L), .no, .no] = some (.ok (false, [.val (.list L), .val (.list L), .no, .no])) := by
    refine tst_ok (d := .int L.length) (e := .int L.length) rfl rfl ?_
    rw [neD_int]
    simp
  have c := lcR1 (j := 3) (gt := t1__law_same (m__law_same n)) (ge := e2__law_same (m__law_same n)) (ga := gLenP 1) (env := [.val (.list L), .val (.list L), .no, .no]) (env1 := [.val (.list L), .val (.list L), .no, .no]) (n := L.length) (fun _ => false) (fun x => natD x) rfl hl rfl (fun x hx => by
    have i0 : gIxP 0 (gN 3) [.val (.list L), .val (.list L), .no, .val (.int (x : Nat))] = some (.ok (L[x], [.val (.list L), .val (.list L), .no, .val (.int (x : Nat))])) := ixP_lst (k := x) rfl rfl rfl (List.getElem?_eq_getElem hx)
    have i1 : gIxP 1 (gN 3) [.val (.list L), .val (.list L), .no, .val (.int (x : Nat))] = some (.ok (L[x], [.val (.list L), .val (.list L), .no, .val (.int (x : Nat))])) := ixP_lst (k := x) rfl rfl rfl (List.getElem?_eq_getElem hx)
    exact (bd_ok (tru_ok (call_ok (cons_ok i0 (cons_ok i1 nil_ok)) (h _ (List.getElem_mem hx))) rfl)).trans rfl) (fun x _ h => by cases h)
  have e : (List.range L.length).filter (fun _ => false) = [] := by simp
  rw [e] at c
  have r : gRet (gCmp eqD (gFz (gLcR [3] 3 (t1__law_same (m__law_same n)) (e2__law_same (m__law_same n)) (gLenP 1))) (gFz (Pf.gLst Pf.gNil))) [.val (.list L), .val (.list L), .no, .no] = some (.rt (.bool true) [.val (.list L), .val (.list L), .no, .no]) := by
    refine ret_ok ((bd_ok (fz_ok c)).trans ?_)
    have q : eqD (.list []) (.list []) = some true := by
      have h1 : okD 1 (.list []) := okD_list (k := 0) (by simp)
      rw [eqD_ok h1 h1 (by decide) (by decide)]
      simp [PyData.eqv, PyData.eqvAll]
    exact (bd_ok (a := .list []) (env1 := [.val (.list L), .val (.list L), .no, .no]) rfl).trans (opt_ok (by
      show (eqD (.list []) (.list [])).map PyData.bool = _
      rw [q]
      rfl))
  have b : gSeq (gIfS (gOrT (gNotT (gTru (gIsa2 "tuple" "list" (gN 0)))) (gTst neD (gIsa "list" (gN 0)) (gIsa "list" (gN 1)))) (gRet (gC (.bool false))) gNx)
    (gSeq (gIfS (gTst neD (gLenP 0) (gLenP 1)) (gRet (gC (.bool false))) gNx)
    (gRet (gCmp eqD (gFz (gLcR [3] 3 (t1__law_same (m__law_same n)) (e2__law_same (m__law_same n)) (gLenP 1))) (gFz (Pf.gLst Pf.gNil))))) [.val (.list L), .val (.list L), .no, .no] = some (.rt (.bool true) [.val (.list L), .val (.list L), .no, .no]) :=
    seq_to ((ifS_f t1).trans rfl) (seq_to ((ifS_f t2).trans rfl) r)
  show G__law_same (m__law_same n) [.val (.list L), .val (.list L), .no, .no] = _
  unfold G__law_same
  exact seq_rt ((ifS_t (g := gTru (gIsa2 "tuple" "list" (gN 1))) (env := [.val (.list L), .val (.list L), .no, .no]) rfl).trans b)
theorem same_nats (L : List Nat) (hl : L.length < 1000000) : m__law_same 4 [.list (nats L), .list (nats L)] = some (.ok (.bool true)) := same_list 3 (nats L) (by rw [nats_len]; exact hl) fun x hx => by
  obtain ⟨b, _, rfl⟩ := List.mem_map.mp hx
  exact same_int 2 _
end Q
/-! part Bn -/
set_option Elab.async false
set_option linter.all false
namespace Q
def Valid (fx : Nat → Bool) (l w : List Nat) (sp : Nat × Nat) : Prop := sp.1 ≤ sp.2 ∧ sp.2 ≤ w.length ∧ stand l (cut w sp.1 sp.2) = true ∧ (cut w sp.1 sp.2).filter fx = w.filter fx
def outP (pr : Nat → Nat) (w : List Nat) (sp : Nat × Nat) : Nat := sumP pr (w.take sp.1) + sumP pr (w.drop sp.2)
theorem out_parts (pr : Nat → Nat) (w : List Nat) {sp : Nat × Nat} (h : sp.1 ≤ sp.2) : sumP pr w = outP pr w sp + sumP pr (cut w sp.1 sp.2) := by
  have := split_parts pr w sp.1 sp.2 h
  unfold outP
  omega
theorem valid_of {pr : Nat → Nat} {fx : Nat → Bool} {l w : List Nat} {sp : Nat × Nat} (h : sp ∈ splitsL pr fx l w) : Valid fx l w sp := split_is h
theorem valid_free {fx : Nat → Bool} {l w : List Nat} {sp : Nat × Nat} (h : Valid fx l w sp) : (∀ x ∈ w.take sp.1, fx x = false) ∧ ∀ x ∈ w.drop sp.2, fx x = false := by
  obtain ⟨h1, h2, h3, h4⟩ := h
  have e := parts w sp.1 sp.2 h1
  rw [← e, List.filter_append, List.filter_append] at h4
  rw [parts w sp.1 sp.2 h1] at h4
  have hl := congrArg List.length h4
  simp only [List.length_append] at hl
  have a : ((w.take sp.1).filter fx).length = 0 := by omega
  have b : ((w.drop sp.2).filter fx).length = 0 := by omega
  constructor
  · intro x hx
    refine Bool.eq_false_iff.mpr fun q => ?_
    have := List.mem_filter.mpr ⟨hx, q⟩
    rw [List.length_eq_zero_iff.mp a] at this
    cases this
  · intro x hx
    refine Bool.eq_false_iff.mpr fun q => ?_
    have := List.mem_filter.mpr ⟨hx, q⟩
    rw [List.length_eq_zero_iff.mp b] at this
    cases this
theorem valid_best {pr : Nat → Nat} {fx : Nat → Bool} {l w : List Nat} {sp : Nat × Nat} (h : Valid fx l w sp) : splitsL pr fx l w ≠ [] ∧ ∀ sq ∈ splitsL pr fx l w, sumP pr (cut w sp.1 sp.2) ≤ sumP pr (cut w sq.1 sq.2) := by
  obtain ⟨f1, f2⟩ := valid_free h
  have := split_best (pr := pr) (l := l) (M := cut w sp.1 sp.2) h.2.2.1 f1 f2
  rw [parts w sp.1 sp.2 h.1] at this
  exact this
theorem valid_least {pr : Nat → Nat} {fx : Nat → Bool} {l w : List Nat} {sp sq : Nat × Nat} (h : Valid fx l w sp) (hq : sq ∈ splitsL pr fx l w) : outP pr w sq ≤ outP pr w sp := by
  have a := (valid_best (pr := pr) h).2 sq hq
  have b := out_parts pr w h.1
  have c := out_parts pr w (valid_of hq).1
  omega
theorem valid_in {pr : Nat → Nat} {fx : Nat → Bool} {l w : List Nat} {sp sq : Nat × Nat} (h : Valid fx l w sp) (hlt : sp.1 < sp.2) (hq : sq ∈ splitsL pr fx l w) (he : outP pr w sp ≤ outP pr w sq) : sp ∈ splitsL pr fx l w := by
  have inH : sp ∈ holdingL fx l w := by
    obtain ⟨s, p⟩ := sp
    refine mem_holding.mpr ⟨hlt, h.2.1, ?_⟩
    unfold holdB
    rw [h.2.2.1, h.2.2.2]
    simp
  have ne : dearestL pr fx l w ≠ [] := fun z => by
    have := dearest_nil z
    rw [this] at inH
    cases inH
  have es : splitsL pr fx l w = dearestL pr fx l w := by
    unfold splitsL
    rw [if_neg fun z => ne z.1]
  rw [es] at hq ⊢
  obtain ⟨q1, q2⟩ := List.mem_filter.mp hq
  have q2 : sumP pr (cut w sq.1 sq.2) = best pr w (holdingL fx l w) := by simpa using q2
  refine List.mem_filter.mpr ⟨inH, ?_⟩
  have g := best_ge (pr := pr) (w := w) inH
  have b := out_parts pr w h.1
  have hsq : sq.1 ≤ sq.2 := by
    obtain ⟨s, p⟩ := sq
    exact Nat.le_of_lt (mem_holding.mp q1).1
  have c := out_parts pr w hsq
  have : sumP pr (cut w sp.1 sp.2) = best pr w (holdingL fx l w) := by omega
  simpa using this
def fxb (b : Nat) (fx : Nat → Bool) (x : Nat) : Bool := fx x || x == b
def prb (b : Nat) (pr : Nat → Nat) (x : Nat) : Nat := if x = b then 0 else pr x
theorem sum_prb (b : Nat) (pr : Nat → Nat) : ∀ l : List Nat, b ∉ l → sumP (prb b pr) l = sumP pr l
  | [], _ => rfl
  | x :: l, h => by
    have h1 : x ≠ b := fun e => h (by rw [e]; exact List.mem_cons_self)
    rw [sumP_cons, sumP_cons, sum_prb b pr l fun q => h (List.mem_cons_of_mem _ q)]
    unfold prb
    rw [if_neg h1]
section
variable {pr : Nat → Nat} {fx : Nat → Bool} {l w : List Nat} {b : Nat}
theorem cut_out {sp : Nat × Nat} (hn : w.Nodup) (h : sp.1 ≤ sp.2) (hb : b ∈ cut w sp.1 sp.2) : b ∉ w.take sp.1 ∧ b ∉ w.drop sp.2 := by
  rw [← parts w sp.1 sp.2 h, List.nodup_append] at hn
  obtain ⟨_, n2, n3⟩ := hn
  rw [List.nodup_append] at n2
  exact ⟨fun q => n3 b q b (List.mem_append_left _ hb) rfl, fun q => n2.2.2 b hb b q rfl⟩
theorem out_prb {sp : Nat × Nat} (hn : w.Nodup) (h : sp.1 ≤ sp.2) (hb : b ∈ cut w sp.1 sp.2) : outP (prb b pr) w sp = outP pr w sp := by
  obtain ⟨a, c⟩ := cut_out hn h hb
  unfold outP
  rw [sum_prb b pr _ a, sum_prb b pr _ c]
theorem valid_b {sp : Nat × Nat} (hw : b ∈ w) (h : Valid (fxb b fx) l w sp) : Valid fx l w sp ∧ b ∈ cut w sp.1 sp.2 := by
  obtain ⟨h1, h2, h3, h4⟩ := h
  have key : ∀ L : List Nat, (L.filter (fxb b fx)).filter fx = L.filter fx := fun L => by
    rw [List.filter_filter]
    refine List.filter_congr fun x _ => ?_
    unfold fxb
    cases fx x <;> simp
  refine ⟨⟨h1, h2, h3, ?_⟩, ?_⟩
  · rw [← key (cut w sp.1 sp.2), h4, key]
  · have : b ∈ w.filter (fxb b fx) := List.mem_filter.mpr ⟨hw, by unfold fxb; simp⟩
    rw [← h4] at this
    exact (List.mem_filter.mp this).1
theorem b_valid {sp : Nat × Nat} (hn : w.Nodup) (h : Valid fx l w sp) (hb : b ∈ cut w sp.1 sp.2) : Valid (fxb b fx) l w sp := by
  obtain ⟨f1, f2⟩ := valid_free h
  obtain ⟨a, c⟩ := cut_out hn h.1 hb
  refine ⟨h.1, h.2.1, h.2.2.1, ?_⟩
  have e : w.filter (fxb b fx) = (w.take sp.1 ++ (cut w sp.1 sp.2 ++ w.drop sp.2)).filter (fxb b fx) := by rw [parts w sp.1 sp.2 h.1]
  rw [e, List.filter_append, List.filter_append]
  have z1 : (w.take sp.1).filter (fxb b fx) = [] := List.filter_eq_nil_iff.mpr fun x hx => by
    unfold fxb
    rw [f1 x hx]
    have : x ≠ b := fun q => a (by rw [← q]; exact hx)
    simp [this]
  have z2 : (w.drop sp.2).filter (fxb b fx) = [] := List.filter_eq_nil_iff.mpr fun x hx => by
    unfold fxb
    rw [f2 x hx]
    have : x ≠ b := fun q => c (by rw [← q]; exact hx)
    simp [this]
  rw [z1, z2]
  simp
theorem one_lot {sp0 : Nat × Nat} (hn : w.Nodup) (hw : b ∈ w) (h0 : sp0 ∈ splitsL pr fx l w) :
    (∃ sp ∈ splitsL pr fx l w, b ∈ cut w sp.1 sp.2) → splitsL (prb b pr) (fxb b fx) l w ≠ [] ∧ ∀ sp' ∈ splitsL (prb b pr) (fxb b fx) l w, outP (prb b pr) w sp' = outP pr w sp0 := fun ⟨sp, hsp, hb⟩ => by
  have v := valid_of hsp
  have v' := b_valid hn v hb
  refine ⟨(valid_best (pr := prb b pr) v').1, fun sp' hs' => ?_⟩
  have a := valid_least v' hs'
  obtain ⟨c, hb'⟩ := valid_b hw (valid_of hs')
  have d := valid_least c h0
  have e := valid_least (valid_of h0) hsp
  rw [out_prb hn v.1 hb] at a
  rw [out_prb hn c.1 hb'] at a ⊢
  omega
theorem one_lot' {sp0 sp' : Nat × Nat} (hn : w.Nodup) (hw : b ∈ w) (h0 : sp0 ∈ splitsL pr fx l w) (hs' : sp' ∈ splitsL (prb b pr) (fxb b fx) l w) (he : outP (prb b pr) w sp' ≤ outP pr w sp0) : ∃ sp ∈ splitsL pr fx l w, b ∈ cut w sp.1 sp.2 := by
  obtain ⟨c, hb'⟩ := valid_b hw (valid_of hs')
  rw [out_prb hn c.1 hb'] at he
  refine ⟨sp', valid_in c ?_ h0 he, hb'⟩
  refine Nat.lt_of_le_of_ne c.1 fun q => ?_
  unfold cut at hb'
  rw [q, Nat.sub_self] at hb'
  simp at hb'
end
end Q
/-! part Bo -/
set_option Elab.async false
set_option linter.all false
namespace Q
theorem sumP_same {pr pr' : Nat → Nat} {L : List Nat} (h : ∀ x ∈ L, pr x = pr' x) : sumP pr L = sumP pr' L := by
  unfold sumP
  rw [List.map_congr_left h]
theorem cut_sub {w : List Nat} {s p x : Nat} (h : x ∈ cut w s p) : x ∈ w := List.mem_of_mem_drop (List.mem_of_mem_take h)
section
variable {pr pr' : Nat → Nat} {fx fx' : Nat → Bool}
theorem hold_same {l w : List Nat} (h2 : ∀ x ∈ w, fx x = fx' x) : holdingL fx l w = holdingL fx' l w := by
  have e : ∀ s p, holdB fx l w s p = holdB fx' l w s p := fun s p => by
    unfold holdB
    rw [List.filter_congr (l := cut w s p) (fun x hx => h2 x (cut_sub hx)), List.filter_congr h2]
  unfold holdingL
  simp only [e]
theorem split_same {l w : List Nat} (h1 : ∀ x ∈ w, pr x = pr' x) (h2 : ∀ x ∈ w, fx x = fx' x) : splitsL pr fx l w = splitsL pr' fx' l w := by
  have c : ∀ sp : Nat × Nat, sumP pr (cut w sp.1 sp.2) = sumP pr' (cut w sp.1 sp.2) := fun sp => sumP_same fun x hx => h1 x (cut_sub hx)
  have b : best pr w (holdingL fx' l w) = best pr' w (holdingL fx' l w) := by
    unfold best
    simp only [c]
  have d : dearestL pr fx l w = dearestL pr' fx' l w := by
    unfold dearestL
    rw [hold_same h2, b]
    simp only [c]
  unfold splitsL
  rw [d, List.filter_congr h2]
theorem least_same : ∀ (ls ws : List (List Nat)) (k : Nat), (∀ x ∈ ws.flatten, pr x = pr' x) → (∀ x ∈ ws.flatten, fx x = fx' x) → leastK pr fx k ls ws = leastK pr' fx' k ls ws
  | [], ws, k, _, _ => by cases ws <;> rfl
  | l :: ls, [], k, _, _ => rfl
  | l :: ls, w :: ws, k, h1, h2 => by
    simp only [List.flatten_cons, List.mem_append] at h1 h2
    have e := split_same (l := l) (fun x hx => h1 x (.inl hx)) (fun x hx => h2 x (.inl hx))
    have r := least_same ls ws (k + 1) (fun x hx => h1 x (.inr hx)) (fun x hx => h2 x (.inr hx))
    unfold leastK
    rw [e, r]
end
theorem cost_around (pr : Nat → Nat) (k : Nat) (w : List Nat) (sp : Nat × Nat) : sumP pr (tk (aroundD k w sp)) = outP pr w sp := by
  rw [tk_around, sumP_app, sumP_rev]
  rfl
theorem tk_least {pr : Nat → Nat} {fx : Nat → Bool} : ∀ (ls ws : List (List Nat)) (k : Nat) (way : List Dd), leastK pr fx k ls ws = some way → ∀ x ∈ tk way, x ∈ ws.flatten
  | [], ws, k, way, h => by cases ws <;> (cases h; intro x hx; cases hx)
  | l :: ls, [], k, way, h => by cases h; intro x hx; cases hx
  | l :: ls, w :: ws, k, way, h => by
    simp only [leastK] at h
    cases hs : splitsL pr fx l w with
    | nil => rw [hs] at h; cases h
    | cons sp sps =>
      rw [hs] at h
      simp only [Option.map_eq_some_iff] at h
      obtain ⟨r, hr, rfl⟩ := h
      intro x hx
      rw [tk_app, tk_around] at hx
      rw [List.flatten_cons, List.mem_append]
      rcases List.mem_append.mp hx with hx | hx
      · left
        rcases List.mem_append.mp hx with hx | hx
        · exact List.mem_of_mem_take (List.mem_reverse.mp hx)
        · exact List.mem_of_mem_drop hx
      · exact .inr (tk_least ls ws (k + 1) r hr x hx)
def Kept (pr : Nat → Nat) (fx : Nat → Bool) (b : Nat) (ls ws : List (List Nat)) : Prop := ∃ z ∈ ls.zip ws, ∃ sp ∈ splitsL pr fx z.1 z.2, b ∈ cut z.2 sp.1 sp.2
theorem kept_iff {pr : Nat → Nat} {fx : Nat → Bool} {b : Nat} : ∀ (ls ws : List (List Nat)) (k : Nat) (way : List Dd), ls.length = ws.length → ws.flatten.Nodup → b ∈ ws.flatten → leastK pr fx k ls ws = some way →
    (Kept pr fx b ls ws ↔ ∃ way', leastK (prb b pr) (fxb b fx) k ls ws = some way' ∧ sumP (prb b pr) (tk way') = sumP pr (tk way))
  | [], [], k, way, _, _, hb, _ => by simp at hb
  | [], _ :: _, _, _, h, _, _, _ => by simp at h
  | _ :: _, [], _, _, h, _, _, _ => by simp at h
  | l :: ls, w :: ws, k, way, hl, hn, hb, h => by
    rw [List.flatten_cons, List.nodup_append] at hn
    obtain ⟨n1, n2, n3⟩ := hn
    simp only [leastK] at h
    cases hs : splitsL pr fx l w with
    | nil => rw [hs] at h; cases h
    | cons sp0 sps =>
      rw [hs] at h
      simp only [Option.map_eq_some_iff] at h
      obtain ⟨r, hr, rfl⟩ := h
      have h0 : sp0 ∈ splitsL pr fx l w := by rw [hs]; exact List.mem_cons_self
      rw [List.flatten_cons, List.mem_append] at hb
      rcases hb with hb | hb
      · -- the book is wished in this lot
        have far : ∀ x ∈ ws.flatten, x ≠ b := fun x hx e => n3 b hb x hx e.symm
        have e1 : ∀ x ∈ ws.flatten, prb b pr x = pr x := fun x hx => by unfold prb; rw [if_neg (far x hx)]
        have e2 : ∀ x ∈ ws.flatten, fxb b fx x = fx x := fun x hx => by unfold fxb; simp [far x hx]
        have er := least_same (fx := fxb b fx) (fx' := fx) (pr := prb b pr) (pr' := pr) ls ws (k + 1) e1 e2
        have cr : sumP (prb b pr) (tk r) = sumP pr (tk r) := sumP_same fun x hx => e1 x (tk_least ls ws (k + 1) r hr x hx)
        constructor
        · rintro ⟨z, hz, sp, hsp, hc⟩
          rw [List.zip_cons_cons] at hz
          rcases List.mem_cons.mp hz with rfl | hz
          · obtain ⟨o1, o2⟩ := one_lot n1 hb h0 ⟨sp, hsp, hc⟩
            cases hs' : splitsL (prb b pr) (fxb b fx) l w with
            | nil => exact absurd hs' o1
            | cons sp' t =>
              have := o2 sp' (by rw [hs']; exact List.mem_cons_self)
              refine ⟨aroundD k w sp' ++ r, ?_, ?_⟩
              · simp only [leastK]
                rw [hs', er, hr]
                rfl
              · rw [tk_app, tk_app, sumP_app, sumP_app, cost_around, cost_around, this, cr]
          · exact absurd rfl (far b (List.mem_flatten.mpr ⟨z.2, (List.of_mem_zip hz).2, cut_sub hc⟩))
        · rintro ⟨way', hw', hc⟩
          simp only [leastK] at hw'
          cases hs' : splitsL (prb b pr) (fxb b fx) l w with
          | nil => rw [hs'] at hw'; cases hw'
          | cons sp' t =>
            rw [hs', er, hr] at hw'
            simp only [Option.map_some, Option.some.injEq] at hw'
            subst hw'
            rw [tk_app, tk_app, sumP_app, sumP_app, cost_around, cost_around, cr] at hc
            obtain ⟨sp, hsp, hbc⟩ := one_lot' n1 hb h0 (by rw [hs']; exact List.mem_cons_self) (by omega)
            exact ⟨(l, w), by rw [List.zip_cons_cons]; exact List.mem_cons_self, sp, hsp, hbc⟩
      · -- in another one
        have far : ∀ x ∈ w, x ≠ b := fun x hx e => n3 x hx b hb e
        have e1 : ∀ x ∈ w, prb b pr x = pr x := fun x hx => by unfold prb; rw [if_neg (far x hx)]
        have e2 : ∀ x ∈ w, fxb b fx x = fx x := fun x hx => by unfold fxb; simp [far x hx]
        have es := split_same (l := l) (fx := fxb b fx) (fx' := fx) (pr := prb b pr) (pr' := pr) e1 e2
        have c0 : outP (prb b pr) w sp0 = outP pr w sp0 := by
          unfold outP
          rw [sumP_same fun x hx => e1 x (List.mem_of_mem_take hx), sumP_same fun x hx => e1 x (List.mem_of_mem_drop hx)]
        have ih := kept_iff ls ws (k + 1) r (by simpa using hl) n2 hb hr
        constructor
        · rintro ⟨z, hz, sp, hsp, hc⟩
          rw [List.zip_cons_cons] at hz
          rcases List.mem_cons.mp hz with rfl | hz
          · exact absurd rfl (far b (cut_sub hc))
          · obtain ⟨r', hr', hc'⟩ := ih.mp ⟨z, hz, sp, hsp, hc⟩
            refine ⟨aroundD k w sp0 ++ r', ?_, ?_⟩
            · simp only [leastK]
              rw [es, hs, hr']
              rfl
            · rw [tk_app, tk_app, sumP_app, sumP_app, cost_around, cost_around, c0, hc']
        · rintro ⟨way', hw', hc⟩
          simp only [leastK] at hw'
          rw [es, hs] at hw'
          simp only [Option.map_eq_some_iff] at hw'
          obtain ⟨r', hr', rfl⟩ := hw'
          rw [tk_app, tk_app, sumP_app, sumP_app, cost_around, cost_around, c0] at hc
          obtain ⟨z, hz, sp, hsp, hbc⟩ := ih.mpr ⟨r', hr', by omega⟩
          exact ⟨z, by rw [List.zip_cons_cons]; exact List.mem_cons_of_mem _ hz, sp, hsp, hbc⟩
end Q
/-! part D09a -/
set_option Elab.async false
set_option linter.all false
set_option maxRecDepth 100000
set_option maxHeartbeats 4000000
namespace Q
open PySem PySem.Spec L2
open Pf
theorem numT_nats (l : List Nat) : numT (.tuple (nats l)) = some (.tuple (nats l)) := by
  unfold numT
  simp only
  rw [if_pos (List.all_eq_true.mpr fun x hx => by
    obtain ⟨y, _, rfl⟩ := List.mem_map.mp hx
    rfl)]
theorem nats_app (a b : List Nat) : nats (a ++ b) = nats a ++ nats b := List.map_append ..
theorem hold_len2 (fx : Nat → Bool) (l w : List Nat) : (holdingL fx l w).length ≤ w.length * w.length := by
  have hfl : ∀ d : List Nat, (d.flatMap fun s => ((List.range' (s + 1) (w.length - s)).filter fun p => holdB fx l w s p).map fun p => (s, p)).length ≤ d.length * w.length := fun d => by
    induction d with
    | nil => exact Nat.zero_le _
    | cons x r ih =>
      rw [List.flatMap_cons, List.length_append, List.length_cons, Nat.succ_mul]
      have h1 := List.length_filter_le (fun p => holdB fx l w x p) (List.range' (x + 1) (w.length - x))
      rw [List.length_range'] at h1
      have h2 : (((List.range' (x + 1) (w.length - x)).filter fun p => holdB fx l w x p).map fun p => (x, p)).length ≤ w.length := by rw [List.length_map]; omega
      omega
  have := hfl (List.range w.length)
  rw [List.length_range] at this
  exact this
theorem splits_len (pr : Nat → Nat) (fx : Nat → Bool) {l w : List Nat} (hw : w.length ≤ 12) : (splitsL pr fx l w).length ≤ 200 := by
  have h1 := hold_len2 fx l w
  have h2 : w.length * w.length ≤ 12 * 12 := Nat.mul_le_mul hw hw
  have h3 : (dearestL pr fx l w).length ≤ (holdingL fx l w).length := List.length_filter_le ..
  unfold splitsL
  split
  · rw [List.length_map, List.length_range]; omega
  · omega
def keptOf (ps : List (Option Nat)) (z : List Nat × List Nat) : List Nat := (splitsL (prB ps) (fxB ps) z.1 z.2).flatMap fun sp => cut z.2 sp.1 sp.2
def spareL (ps : List (Option Nat)) (ls goal : List (List Nat)) : List Nat := (ls.zip goal).flatMap (keptOf ps)
theorem mem_spare {ps : List (Option Nat)} {ls goal : List (List Nat)} {b : Nat} : b ∈ spareL ps ls goal ↔ Kept (prB ps) (fxB ps) b ls goal := by
  unfold spareL keptOf Kept
  simp only [List.mem_flatMap]
theorem least_none {pr : Nat → Nat} {fx : Nat → Bool} : ∀ (ls ws : List (List Nat)) (k : Nat), leastK pr fx k ls ws = none ↔ ∃ z ∈ ls.zip ws, splitsL pr fx z.1 z.2 = []
  | [], ws, k => by cases ws <;> simp [leastK]
  | l :: ls, [], k => by simp [leastK]
  | l :: ls, w :: ws, k => by
    have ih := least_none (pr := pr) (fx := fx) ls ws (k + 1)
    simp only [leastK, List.zip_cons_cons, List.mem_cons, exists_eq_or_imp]
    cases hs : splitsL pr fx l w with
    | nil => simp
    | cons sp sps => simp only [Option.map_eq_none_iff, ih]; simp
section
variable {ps : List (Option Nat)} {ls goal : List (List Nat)}
abbrev foundD (ps : List (Option Nat)) (ls goal : List (List Nat)) : List PyData := (ls.zip goal).map (splS ps)
theorem splS_ok (z : List Nat × List Nat) : okD 3 (splS ps z) := okD_list fun x hx => by
  obtain ⟨p, _, rfl⟩ := List.mem_map.mp hx
  exact okD_tuple fun y hy => by
    simp only [pairD, List.mem_cons, List.not_mem_nil, or_false] at hy
    rcases hy with rfl | rfl <;> exact okD_int _
theorem in_found : inE (.list []) (.list (foundD ps ls goal)) = some ((ls.zip goal).any fun z => (splitsL (prB ps) (fxB ps) z.1 z.2).isEmpty) := by
  have h1 : okD 1 (.list []) := okD_list (k := 0) (by simp)
  have h2 : okD 4 (.list (foundD ps ls goal)) := okD_list fun x hx => by
    obtain ⟨z, _, rfl⟩ := List.mem_map.mp hx
    exact splS_ok z
  unfold inE
  simp only
  rw [if_pos ⟨h1.shaped (by decide), h2.shaped (by decide)⟩, List.any_map]
  congr 2
  funext z
  show PyData.eqv (.list (pairsD _)) (.list []) = _
  cases splitsL (prB ps) (fxB ps) z.1 z.2 with
  | nil => simp [PyData.eqv, PyData.eqvAll, pairsD]
  | cons a r => simp [PyData.eqv, PyData.eqvAll, pairsD]
theorem found_any : ((ls.zip goal).any fun z => (splitsL (prB ps) (fxB ps) z.1 z.2).isEmpty) = (leastK (prB ps) (fxB ps) 0 ls goal).isNone := by
  rw [Bool.eq_iff_iff, List.any_eq_true, Option.isNone_iff_eq_none, least_none]
  simp only [List.isEmpty_iff]
theorem sp_step (acc w : List Nat) (sp : Nat × Nat) (x6 : Sl) (h1 : sp.1 ≤ w.length) (h2 : sp.2 ≤ w.length) (hl : acc.length + w.length ≤ 16777216) :
    b1_spare [.val (shelfD ps ls), .val (.tuple (lotsD goal)), .val (.list ((ls.zip goal).map (splS ps))), .val (.tuple (pricesD ps)), .own (nats acc), .val (lotT w), x6, .val (natD sp.1), .val (natD sp.2), .no] = some (.nx [.val (shelfD ps ls), .val (.tuple (lotsD goal)), .val (.list ((ls.zip goal).map (splS ps))), .val (.tuple (pricesD ps)), .own (nats (acc ++ cut w sp.1 sp.2)), .val (lotT w), x6, .val (natD sp.1), .val (natD sp.2), .no]) := by
  have q : gSlT (gN 5) (gPt (gN 7)) (gPt (gN 8)) [.val (shelfD ps ls), .val (.tuple (lotsD goal)), .val (.list ((ls.zip goal).map (splS ps))), .val (.tuple (pricesD ps)), .own (nats acc), .val (lotT w), x6, .val (natD sp.1), .val (natD sp.2), .no] = some (.ok (.tuple (cutD (nats w) (some (sp.1 : Int)) (some (sp.2 : Int))), [.val (shelfD ps ls), .val (.tuple (lotsD goal)), .val (.list ((ls.zip goal).map (splS ps))), .val (.tuple (pricesD ps)), .own (nats acc), .val (lotT w), x6, .val (natD sp.1), .val (natD sp.2), .no])) := rfl
  rw [cutD_nats w sp.1 sp.2 h1 h2] at q
  have cl : (cut w sp.1 sp.2).length ≤ w.length := by unfold cut; rw [List.length_take, List.length_drop]; omega
  unfold b1_spare gExtT
  rw [gE_ok (held_own (i := 4) (ds := nats acc) rfl), gE_ok q, gE_ok (held_own (i := 4) (ds := nats acc) rfl), numT_nats]
  simp only
  rw [if_pos (by rw [nats_len, nats_len]; omega), gE_ok (put_own (i := 4) (ds := nats acc) rfl _), ← nats_app]
  rfl
theorem sp_inner (w : List Nat) (hw : w.length ≤ 12) (x6 : Sl) : ∀ (sps : List (Nat × Nat)) (acc : List Nat) (x7 x8 : Sl), (∀ sp ∈ sps, sp.1 ≤ w.length ∧ sp.2 ≤ w.length) → acc.length + 12 * sps.length ≤ 1000000 →
    ∃ y7 y8, loopL (bTup 2 (bCons (bN 7) (bCons (bN 8) bNil))) b1_spare (pairsD sps) [.val (shelfD ps ls), .val (.tuple (lotsD goal)), .val (.list ((ls.zip goal).map (splS ps))), .val (.tuple (pricesD ps)), .own (nats acc), .val (lotT w), x6, x7, x8, .no] = some (.nx [.val (shelfD ps ls), .val (.tuple (lotsD goal)), .val (.list ((ls.zip goal).map (splS ps))), .val (.tuple (pricesD ps)), .own (nats (acc ++ sps.flatMap fun sp => cut w sp.1 sp.2)), .val (lotT w), x6, y7, y8, .no])
  | [], acc, x7, x8, _, _ => ⟨x7, x8, by simp only [List.flatMap_nil, List.append_nil]; rfl⟩
  | sp :: sps, acc, x7, x8, h, hl => by
    obtain ⟨h1, h2⟩ := h sp List.mem_cons_self
    simp only [List.length_cons] at hl
    have cl : (cut w sp.1 sp.2).length ≤ w.length := by unfold cut; rw [List.length_take, List.length_drop]; omega
    have st := sp_step (ps := ps) (ls := ls) (goal := goal) acc w sp x6 h1 h2 (by omega)
    obtain ⟨y7, y8, ih⟩ := sp_inner w hw x6 sps (acc ++ cut w sp.1 sp.2) (.val (natD sp.1)) (.val (natD sp.2)) (fun x hx => h x (List.mem_cons_of_mem _ hx)) (by rw [List.length_append]; omega)
    refine ⟨y7, y8, ?_⟩
    have step : loopL (bTup 2 (bCons (bN 7) (bCons (bN 8) bNil))) b1_spare (pairsD (sp :: sps)) [.val (shelfD ps ls), .val (.tuple (lotsD goal)), .val (.list ((ls.zip goal).map (splS ps))), .val (.tuple (pricesD ps)), .own (nats acc), .val (lotT w), x6, x7, x8, .no] = (match b1_spare [.val (shelfD ps ls), .val (.tuple (lotsD goal)), .val (.list ((ls.zip goal).map (splS ps))), .val (.tuple (pricesD ps)), .own (nats acc), .val (lotT w), x6, .val (natD sp.1), .val (natD sp.2), .no] with
      | some (.nx env2) => loopL (bTup 2 (bCons (bN 7) (bCons (bN 8) bNil))) b1_spare (pairsD sps) env2
      | some (.ct env2) => loopL (bTup 2 (bCons (bN 7) (bCons (bN 8) bNil))) b1_spare (pairsD sps) env2
      | some (.bk env2) => some (.nx env2)
      | o => o) := rfl
    rw [step, st]
    simp only [List.flatMap_cons]
    rw [← List.append_assoc]
    exact ih
theorem sp_outer : ∀ (zs : List (List Nat × List Nat)) (acc : List Nat) (x5 x6 x7 x8 : Sl), (∀ z ∈ zs, z.2.length ≤ 12) → acc.length + 2400 * zs.length ≤ 900000 →
    ∃ y5 y6 y7 y8, loopL (bTup 2 (bCons (bN 5) (bCons (bN 6) bNil))) b2_spare (zs.map fun z => PyData.tuple [lotT z.2, splS ps z]) [.val (shelfD ps ls), .val (.tuple (lotsD goal)), .val (.list ((ls.zip goal).map (splS ps))), .val (.tuple (pricesD ps)), .own (nats acc), x5, x6, x7, x8, .no] = some (.nx [.val (shelfD ps ls), .val (.tuple (lotsD goal)), .val (.list ((ls.zip goal).map (splS ps))), .val (.tuple (pricesD ps)), .own (nats (acc ++ zs.flatMap (keptOf ps))), y5, y6, y7, y8, .no])
  | [], acc, x5, x6, x7, x8, _, _ => ⟨x5, x6, x7, x8, by simp only [List.flatMap_nil, List.append_nil]; rfl⟩
  | z :: zs, acc, x5, x6, x7, x8, h, hl => by
    have hw := h z List.mem_cons_self
    simp only [List.length_cons] at hl
    have sl := splits_len (prB ps) (fxB ps) (l := z.1) hw
    have hi : ∀ sp ∈ splitsL (prB ps) (fxB ps) z.1 z.2, sp.1 ≤ z.2.length ∧ sp.2 ≤ z.2.length := fun sp hm => by
      obtain ⟨i1, i2, _⟩ := split_is hm
      exact ⟨by omega, i2⟩
    obtain ⟨y7, y8, inn⟩ := sp_inner (ps := ps) (ls := ls) (goal := goal) z.2 hw (.val (splS ps z)) (splitsL (prB ps) (fxB ps) z.1 z.2) acc x7 x8 hi (by omega)
    have kl : ∀ sps : List (Nat × Nat), (sps.flatMap fun sp => cut z.2 sp.1 sp.2).length ≤ 12 * sps.length := fun sps => by
      induction sps with
      | nil => exact Nat.zero_le _
      | cons a r ih =>
        rw [List.flatMap_cons, List.length_append, List.length_cons]
        have : (cut z.2 a.1 a.2).length ≤ z.2.length := by unfold cut; rw [List.length_take, List.length_drop]; omega
        omega
    have := kl (splitsL (prB ps) (fxB ps) z.1 z.2)
    obtain ⟨u5, u6, u7, u8, ih⟩ := sp_outer zs (acc ++ keptOf ps z) (.val (lotT z.2)) (.val (splS ps z)) y7 y8 (fun x hx => h x (List.mem_cons_of_mem _ hx)) (by unfold keptOf; rw [List.length_append]; omega)
    refine ⟨u5, u6, u7, u8, ?_⟩
    have b : b2_spare [.val (shelfD ps ls), .val (.tuple (lotsD goal)), .val (.list ((ls.zip goal).map (splS ps))), .val (.tuple (pricesD ps)), .own (nats acc), .val (lotT z.2), .val (splS ps z), x7, x8, .no] = some (.nx [.val (shelfD ps ls), .val (.tuple (lotsD goal)), .val (.list ((ls.zip goal).map (splS ps))), .val (.tuple (pricesD ps)), .own (nats (acc ++ keptOf ps z)), .val (lotT z.2), .val (splS ps z), y7, y8, .no]) := by
      unfold b2_spare gForL
      rw [gE_ok (n_val (i := 6) (d := splS ps z) rfl)]
      exact inn
    have step : loopL (bTup 2 (bCons (bN 5) (bCons (bN 6) bNil))) b2_spare ((z :: zs).map fun z => PyData.tuple [lotT z.2, splS ps z]) [.val (shelfD ps ls), .val (.tuple (lotsD goal)), .val (.list ((ls.zip goal).map (splS ps))), .val (.tuple (pricesD ps)), .own (nats acc), x5, x6, x7, x8, .no] = (match b2_spare [.val (shelfD ps ls), .val (.tuple (lotsD goal)), .val (.list ((ls.zip goal).map (splS ps))), .val (.tuple (pricesD ps)), .own (nats acc), .val (lotT z.2), .val (splS ps z), x7, x8, .no] with
      | some (.nx env2) => loopL (bTup 2 (bCons (bN 5) (bCons (bN 6) bNil))) b2_spare (zs.map fun z => PyData.tuple [lotT z.2, splS ps z]) env2
      | some (.ct env2) => loopL (bTup 2 (bCons (bN 5) (bCons (bN 6) bNil))) b2_spare (zs.map fun z => PyData.tuple [lotT z.2, splS ps z]) env2
      | some (.bk env2) => some (.nx env2)
      | o => o) := rfl
    rw [step, b]
    simp only [List.flatMap_cons]
    rw [← List.append_assoc]
    exact ih
def spareD (ps : List (Option Nat)) (ls goal : List (List Nat)) : List Nat := (List.range ps.length).filter fun b => !fxB ps b && decide (b ∈ spareL ps ls goal)
theorem spare_srt (hp : ps.length ≤ 12) (hb : ∀ b ∈ spareL ps ls goal, b < ps.length) : (srtI (((spareL ps ls goal).filter (fun b => !fxB ps b)).map fun b : Nat => ((b : Nat) : Int))).map PyData.int = nats (spareD ps ls goal) := by
  have e : srtI (((spareL ps ls goal).filter (fun b => !fxB ps b)).map fun b : Nat => ((b : Nat) : Int)) = (spareD ps ls goal).map fun b : Nat => ((b : Nat) : Int) := by
    refine sorted_same (srtI_sorted _) ?_ fun k => ?_
    · rw [List.pairwise_map]
      have := (List.pairwise_lt_range (n := ps.length)).filter (fun b => !fxB ps b && decide (b ∈ spareL ps ls goal))
      exact this.imp fun h => by omega
    · rw [mem_srtI]
      · simp only [spareD, List.mem_map, List.mem_filter, List.mem_range, Bool.and_eq_true, decide_eq_true_eq]
        constructor
        · rintro ⟨b, ⟨h1, h2⟩, rfl⟩; exact ⟨b, ⟨hb b h1, h2, h1⟩, rfl⟩
        · rintro ⟨b, ⟨h1, h2, h3⟩, rfl⟩; exact ⟨b, ⟨h3, h2⟩, rfl⟩
      · intro k hk
        obtain ⟨b, hm, rfl⟩ := List.mem_map.mp hk
        have := hb b (List.mem_filter.mp hm).1
        exact ⟨by omega, by omega⟩
  rw [e, List.map_map]
  rfl
theorem spare_mem (hg : GoalOk ps ls goal) : ∀ b ∈ spareL ps ls goal, b < ps.length := fun b hb => by
  obtain ⟨z, hz, sp, hsp, hc⟩ := mem_spare.mp hb
  exact hg.lt (List.of_mem_zip hz).2 (cut_sub hc)
theorem spare_len (hg : GoalOk ps ls goal) (hp : ps.length ≤ 12) (hl : ls.length < 100) : (spareL ps ls goal).length < 1000000 := by
  have one : ∀ z ∈ ls.zip goal, (keptOf ps z).length ≤ 2400 := fun z hz => by
    have hw := hg.small (List.of_mem_zip hz).2
    have sl := splits_len (prB ps) (fxB ps) (l := z.1) (w := z.2) (by omega)
    have kl : ∀ sps : List (Nat × Nat), (sps.flatMap fun sp => cut z.2 sp.1 sp.2).length ≤ 12 * sps.length := fun sps => by
      induction sps with
      | nil => exact Nat.zero_le _
      | cons a r ih =>
        rw [List.flatMap_cons, List.length_append, List.length_cons]
        have : (cut z.2 a.1 a.2).length ≤ z.2.length := by unfold cut; rw [List.length_take, List.length_drop]; omega
        omega
    have := kl (splitsL (prB ps) (fxB ps) z.1 z.2)
    unfold keptOf
    omega
  have all : ∀ zs : List (List Nat × List Nat), (∀ z ∈ zs, (keptOf ps z).length ≤ 2400) → (zs.flatMap (keptOf ps)).length ≤ 2400 * zs.length := fun zs => by
    induction zs with
    | nil => intro _; exact Nat.zero_le _
    | cons a r ih =>
      intro h
      rw [List.flatMap_cons, List.length_append, List.length_cons]
      have := h a List.mem_cons_self
      have := ih fun z hz => h z (List.mem_cons_of_mem _ hz)
      omega
  have := all _ one
  rw [List.length_zip] at this
  unfold spareL
  omega
theorem spare_ok (hs : ShelfOk ps ls) (hg : GoalOk ps ls goal) : m_spare [shelfD ps ls, .tuple (lotsD goal)] = match leastK (prB ps) (fxB ps) 0 ls goal with
    | none => some (.error ⟨"NoWay", none⟩)
    | some _ => some (.ok (nats (spareD ps ls goal))) := by
  have hp := hs.p2
  have hl2 := hs.l2
  have hw : ∀ w ∈ goal, (∀ b ∈ w, b < ps.length) ∧ w.length < 900 := fun w hw => ⟨fun b hb => hg.lt hw hb, by have := hg.small hw; omega⟩
  have hlen := hs.perm.length_eq
  rw [List.length_range] at hlen
  have hl : ∀ l ∈ ls, l.length < 1000 := fun l hm => by have := (List.sublist_flatten_of_mem hm).length_le; omega
  have a1 := ex_ok (call_ok (env := [.val (shelfD ps ls), .val (.tuple (lotsD goal)), .no, .no, .no, .no, .no, .no, .no, .no]) (gl := Pf.gCons (gN 0) Pf.gNil) (cons_ok (n_val rfl) nil_ok) (check_shelf_ok ps ls hs))
  have a2 := ex_ok (call_ok (env := [.val (shelfD ps ls), .val (.tuple (lotsD goal)), .no, .no, .no, .no, .no, .no, .no, .no]) (gl := Pf.gCons (gN 0) (Pf.gCons (gN 1) Pf.gNil)) (cons_ok (n_val rfl) (cons_ok (n_val rfl) nil_ok)) (check_goal_ok hs hg))
  have a3 : gSetO 2 (gCall m_splits_by_lot (Pf.gCons (gN 0) (Pf.gCons (gN 1) Pf.gNil))) [.val (shelfD ps ls), .val (.tuple (lotsD goal)), .no, .no, .no, .no, .no, .no, .no, .no] = some (.nx [.val (shelfD ps ls), .val (.tuple (lotsD goal)), .own (foundD ps ls goal), .no, .no, .no, .no, .no, .no, .no]) :=
    (setO_ok (call_ok (cons_ok (n_val rfl) (cons_ok (n_val rfl) nil_ok)) (splits_by_lot_ok hw hl (by omega)))).trans rfl
  have t4 : gTst inE (gFz (Pf.gLst Pf.gNil)) (gN 2) [.val (shelfD ps ls), .val (.tuple (lotsD goal)), .own (foundD ps ls goal), .no, .no, .no, .no, .no, .no, .no] = some (.ok ((leastK (prB ps) (fxB ps) 0 ls goal).isNone, [.val (shelfD ps ls), .val (.tuple (lotsD goal)), .val (.list (foundD ps ls goal)), .no, .no, .no, .no, .no, .no, .no])) :=
    tst_ok (d := .list []) (e := .list (foundD ps ls goal)) rfl (n_own (i := 2) (ds := foundD ps ls goal) rfl) (by rw [in_found, found_any])
  cases hk : leastK (prB ps) (fxB ps) 0 ls goal with
  | none =>
    rw [hk] at t4
    refine fnO_er (r := [.val (shelfD ps ls), .val (.tuple (lotsD goal)), .val (.list (foundD ps ls goal)), .no, .no, .no, .no, .no, .no, .no]) ?_
    show G_spare [.val (shelfD ps ls), .val (.tuple (lotsD goal)), .no, .no, .no, .no, .no, .no, .no, .no] = _
    unfold G_spare
    rw [seq_nx a1, seq_nx a2, seq_nx a3]
    exact seq_er ((ifS_t t4).trans rfl)
  | some way =>
    rw [hk] at t4
    have a4 : gIfS (gTst inE (gFz (Pf.gLst Pf.gNil)) (gN 2)) (gRaise0 "NoWay") gNx [.val (shelfD ps ls), .val (.tuple (lotsD goal)), .own (foundD ps ls goal), .no, .no, .no, .no, .no, .no, .no] = some (.nx [.val (shelfD ps ls), .val (.tuple (lotsD goal)), .val (.list (foundD ps ls goal)), .no, .no, .no, .no, .no, .no, .no]) := (ifS_f t4).trans rfl
    have a5 : gSet 3 (gIxP 0 (gC (.int 0))) [.val (shelfD ps ls), .val (.tuple (lotsD goal)), .val (.list (foundD ps ls goal)), .no, .no, .no, .no, .no, .no, .no] = some (.nx [.val (shelfD ps ls), .val (.tuple (lotsD goal)), .val (.list (foundD ps ls goal)), .val (.tuple (pricesD ps)), .no, .no, .no, .no, .no, .no]) := rfl
    have a6 : gSetO 4 (Pf.gLst Pf.gNil) [.val (shelfD ps ls), .val (.tuple (lotsD goal)), .val (.list (foundD ps ls goal)), .val (.tuple (pricesD ps)), .no, .no, .no, .no, .no, .no] = some (.nx [.val (shelfD ps ls), .val (.tuple (lotsD goal)), .val (.list ((ls.zip goal).map (splS ps))), .val (.tuple (pricesD ps)), .own (nats []), .no, .no, .no, .no, .no]) := rfl
    have zp : gZpA (gN 1) (gN 2) [.val (shelfD ps ls), .val (.tuple (lotsD goal)), .val (.list ((ls.zip goal).map (splS ps))), .val (.tuple (pricesD ps)), .own (nats []), .no, .no, .no, .no, .no] = some (.ok ((ls.zip goal).map fun z => PyData.tuple [lotT z.2, splS ps z], [.val (shelfD ps ls), .val (.tuple (lotsD goal)), .val (.list ((ls.zip goal).map (splS ps))), .val (.tuple (pricesD ps)), .own (nats []), .no, .no, .no, .no, .no])) := by
      have q : zipTL (.tuple (lotsD goal)) (.list (foundD ps ls goal)) = some ((ls.zip goal).map fun z => PyData.tuple [lotT z.2, splS ps z]) := by
        have hl : (lotsD goal).all looseP = true := loose_map lotT (fun _ => rfl) _
        unfold zipTL
        simp only
        rw [if_pos hl]
        congr 1
        have z2 : (ls.zip goal).map (·.2) = goal := by rw [List.map_snd_zip]; rw [hg.len]; exact Nat.le_refl _
        have : lotsD goal = (ls.zip goal).map fun z => lotT z.2 := by
          show goal.map lotT = _
          conv => lhs; rw [← z2]
          rw [List.map_map]
          rfl
        rw [this]
        exact zipD_map (fun z : List Nat × List Nat => lotT z.2) (splS ps) (ls.zip goal)
      exact opt_ok q
    have hz : ∀ z ∈ ls.zip goal, z.2.length ≤ 12 := fun z hz => by have := hg.small (List.of_mem_zip hz).2; omega
    obtain ⟨y5, y6, y7, y8, lp⟩ := sp_outer (ps := ps) (ls := ls) (goal := goal) (ls.zip goal) [] .no .no .no .no hz (by rw [List.length_zip]; simp; omega)
    rw [List.nil_append] at lp
    have a7 : gForG (gZpA (gN 1) (gN 2)) (bTup 2 (bCons (bN 5) (bCons (bN 6) bNil))) b2_spare [.val (shelfD ps ls), .val (.tuple (lotsD goal)), .val (.list ((ls.zip goal).map (splS ps))), .val (.tuple (pricesD ps)), .own (nats []), .no, .no, .no, .no, .no] = some (.nx [.val (shelfD ps ls), .val (.tuple (lotsD goal)), .val (.list ((ls.zip goal).map (splS ps))), .val (.tuple (pricesD ps)), .own (nats (spareL ps ls goal)), y5, y6, y7, y8, .no]) := (forG_ok zp).trans lp
    have lc : loopC [9] (bN 9) t3_spare e4_spare (nats (spareL ps ls goal)) [] (wipeE [9] [.val (shelfD ps ls), .val (.tuple (lotsD goal)), .val (.list ((ls.zip goal).map (splS ps))), .val (.tuple (pricesD ps)), .val (.list (nats (spareL ps ls goal))), y5, y6, y7, y8, .no]) = some ((((spareL ps ls goal).filter (fun b => !fxB ps b)).map fun b => PyData.int ((b : Nat) : Int)), [.val (shelfD ps ls), .val (.tuple (lotsD goal)), .val (.list ((ls.zip goal).map (splS ps))), .val (.tuple (pricesD ps)), .val (.list (nats (spareL ps ls goal))), y5, y6, y7, y8, .no]) := by
      have q := loopC_fm (fun b : Nat => PyData.int (b : Int)) (fun b => !fxB ps b) (fun b : Nat => PyData.int (b : Int)) (vs := [9]) (b := bN 9) (gt := t3_spare) (ge := e4_spare) (env0 := [.val (shelfD ps ls), .val (.tuple (lotsD goal)), .val (.list ((ls.zip goal).map (splS ps))), .val (.tuple (pricesD ps)), .val (.list (nats (spareL ps ls goal))), y5, y6, y7, y8, .no]) (spareL ps ls goal) [] (fun b hm => by
        have hb := spare_mem hg b hm
        have g : gIxP 3 (gN 9) [.val (shelfD ps ls), .val (.tuple (lotsD goal)), .val (.list ((ls.zip goal).map (splS ps))), .val (.tuple (pricesD ps)), .val (.list (nats (spareL ps ls goal))), y5, y6, y7, y8, .val (.int (b : Nat))] = some (.ok (priceD ps[b], [.val (shelfD ps ls), .val (.tuple (lotsD goal)), .val (.list ((ls.zip goal).map (splS ps))), .val (.tuple (pricesD ps)), .val (.list (nats (spareL ps ls goal))), y5, y6, y7, y8, .val (.int (b : Nat))])) := ix_price rfl rfl hb
        refine ⟨[.val (shelfD ps ls), .val (.tuple (lotsD goal)), .val (.list ((ls.zip goal).map (splS ps))), .val (.tuple (pricesD ps)), .val (.list (nats (spareL ps ls goal))), y5, y6, y7, y8, .val (.int (b : Nat))], [.val (shelfD ps ls), .val (.tuple (lotsD goal)), .val (.list ((ls.zip goal).map (splS ps))), .val (.tuple (pricesD ps)), .val (.list (nats (spareL ps ls goal))), y5, y6, y7, y8, .val (.int (b : Nat))], rfl, ?_, fun _ => rfl, fun _ => ⟨[.val (shelfD ps ls), .val (.tuple (lotsD goal)), .val (.list ((ls.zip goal).map (splS ps))), .val (.tuple (pricesD ps)), .val (.list (nats (spareL ps ls goal))), y5, y6, y7, y8, .val (.int (b : Nat))], rfl, rfl⟩⟩
        have t : t3_spare [.val (shelfD ps ls), .val (.tuple (lotsD goal)), .val (.list ((ls.zip goal).map (splS ps))), .val (.tuple (pricesD ps)), .val (.list (nats (spareL ps ls goal))), y5, y6, y7, y8, .val (.int (b : Nat))] = some (.ok (!ps[b].isNone, [.val (shelfD ps ls), .val (.tuple (lotsD goal)), .val (.list ((ls.zip goal).map (splS ps))), .val (.tuple (pricesD ps)), .val (.list (nats (spareL ps ls goal))), y5, y6, y7, y8, .val (.int (b : Nat))])) := tst_ok (f := isnD) g rfl (isnD_price _)
        rw [fxB_at hb]
        exact t) (by
        have := spare_len hg hp (by omega)
        simp; omega)
      exact q
    have io : intsOf (((spareL ps ls goal).filter (fun b => !fxB ps b)).map fun b => PyData.int ((b : Nat) : Int)) = some (((spareL ps ls goal).filter (fun b => !fxB ps b)).map fun b => ((b : Nat) : Int)) := by
      rw [← intsOf_map, List.map_map]
      rfl
    have hin : ∀ k ∈ ((spareL ps ls goal).filter (fun b => !fxB ps b)).map (fun b => ((b : Nat) : Int)), inN k := fun k hk => by
      obtain ⟨b, hm, rfl⟩ := List.mem_map.mp hk
      have := spare_mem hg b (List.mem_filter.mp hm).1
      exact ⟨by omega, by omega⟩
    have s8 : gSortS [9] 9 t3_spare e4_spare (gN 4) [.val (shelfD ps ls), .val (.tuple (lotsD goal)), .val (.list ((ls.zip goal).map (splS ps))), .val (.tuple (pricesD ps)), .own (nats (spareL ps ls goal)), y5, y6, y7, y8, .no] = some (.ok (nats (spareD ps ls goal), [.val (shelfD ps ls), .val (.tuple (lotsD goal)), .val (.list ((ls.zip goal).map (splS ps))), .val (.tuple (pricesD ps)), .val (.list (nats (spareL ps ls goal))), y5, y6, y7, y8, .no])) := by
      unfold gSortS
      rw [bd_ok (n_own (i := 4) (ds := nats (spareL ps ls goal)) rfl)]
      refine (bd_ok (a := nats (spareL ps ls goal)) (env1 := [.val (shelfD ps ls), .val (.tuple (lotsD goal)), .val (.list ((ls.zip goal).map (splS ps))), .val (.tuple (pricesD ps)), .val (.list (nats (spareL ps ls goal))), y5, y6, y7, y8, .no]) rfl).trans ?_
      rw [lc]
      simp only
      rw [io]
      simp only
      rw [if_pos hin]
      rw [spare_srt hp (spare_mem hg)]
      rfl
    refine fnO_ro (r := [.val (shelfD ps ls), .val (.tuple (lotsD goal)), .val (.list ((ls.zip goal).map (splS ps))), .val (.tuple (pricesD ps)), .val (.list (nats (spareL ps ls goal))), y5, y6, y7, y8, .no]) ?_
    show G_spare [.val (shelfD ps ls), .val (.tuple (lotsD goal)), .no, .no, .no, .no, .no, .no, .no, .no] = _
    unfold G_spare
    rw [seq_nx a1, seq_nx a2, seq_nx a3, seq_nx a4, seq_nx a5, seq_nx a6, seq_nx a7]
    exact retO_ok s8
end
end Q
/-! part D09b -/
set_option Elab.async false
set_option linter.all false
set_option maxRecDepth 100000
set_option maxHeartbeats 4000000
namespace Q
open PySem PySem.Spec L2
open Pf
abbrev E9 (a : PyData) (s : Stt) (x2 x3 x4 x5 x6 x7 x8 x9 x10 x11 : Sl) (T : List (Addr × Str)) : En := [.val a, .own (enc s), x2, x3, x4, x5, x6, x7, x8, x9, x10, x11, .tab T]
abbrev T9 (Pt : Addr) : List (Addr × Str) := [(Pt, qLam)]
theorem kind_er9 {env env' : En} {i : Nat} {T : List (Addr × Str)} {gB : M PyData} {x : Xc} {d : PyData} (h : env[i]? = some (.tab T)) (hn : noObj env = true) (hb : gB env = some (.error (x, env'))) (hx : kindX x = some d) : gKind i T kindX gB env = some (.ok (d, env')) := by
  unfold gKind
  rw [h]
  simp only
  rw [if_pos ⟨trivial, hn⟩, hb]
  simp only
  rw [hx]
theorem fz_er {gl : M (List PyData)} {env env1 : En} {x : Xc} (h : gl env = some (.error (x, env1))) : gFz gl env = some (.error (x, env1)) := by
  show M.bd gl _ env = _
  unfold M.bd
  rw [h]
section
variable {ps : List (Option Nat)} {ls goal : List (List Nat)} {b : Nat}
theorem pr_set (hb : b < ps.length) : prB (ps.set b none) = prb b (prB ps) := by
  funext x
  unfold prB prb
  by_cases e : x = b
  · subst e; rw [List.getElem?_set_self hb, if_pos rfl]; rfl
  · rw [List.getElem?_set_ne (Ne.symm e), if_neg e]
theorem fx_set (hb : b < ps.length) : fxB (ps.set b none) = fxb b (fxB ps) := by
  funext x
  unfold fxB fxb
  by_cases e : x = b
  · subst e; rw [List.getElem?_set_self hb]; simp
  · rw [List.getElem?_set_ne (Ne.symm e)]; simp [e]
theorem shelf_set (hs : ShelfOk ps ls) : ShelfOk (ps.set b none) ls where
  p1 := by rw [List.length_set]; exact hs.p1
  p2 := by rw [List.length_set]; exact hs.p2
  pr := fun p hp => by
    rcases List.mem_or_eq_of_mem_set hp with h | rfl
    · exact hs.pr p h
    · intro q e
      cases e
  l1 := hs.l1
  l2 := hs.l2
  perm := by rw [List.length_set]; exact hs.perm
theorem goal_set (hg : GoalOk ps ls goal) : GoalOk (ps.set b none) ls goal := ⟨hg.len, by rw [List.length_set]; exact hg.perm⟩
theorem prices_set (hb : b < ps.length) : (pricesD ps).take b ++ [.none] ++ (pricesD ps).drop (b + 1) = pricesD (ps.set b none) := by
  have : pricesD (ps.set b none) = (pricesD ps).set b .none := List.map_set ..
  rw [this, List.set_eq_take_append_cons_drop, if_pos (by rw [show (pricesD ps).length = ps.length from List.length_map ..]; exact hb), List.append_assoc]
  rfl
def dueB (ps : List (Option Nat)) (ls goal : List (List Nat)) (b : Nat) : Bool := !fxB ps b && decide (b ∈ spareL ps ls goal)
theorem spareD_eq : spareD ps ls goal = (List.range ps.length).filter (dueB ps ls goal) := rfl
theorem due_iff (hs : ShelfOk ps ls) (hg : GoalOk ps ls goal) (hb : b < ps.length) {w : List Dd} (h : LK ps ls goal = some w) :
    dueB ps ls goal b = (!fxB ps b && (match LK (ps.set b none) ls goal with
      | none => false
      | some w' => costN (ps.set b none) w' == costN ps w)) := by
  unfold dueB
  congr 1
  have bm : b ∈ goal.flatten := hg.perm.mem_iff.mpr (List.mem_range.mpr hb)
  have nd : goal.flatten.Nodup := hg.perm.symm.nodup List.nodup_range
  have k := kept_iff (pr := prB ps) (fx := fxB ps) (b := b) ls goal 0 w hg.len.symm nd bm h
  rw [← mem_spare] at k
  rw [Bool.eq_iff_iff, decide_eq_true_eq, k]
  have e1 := pr_set hb
  have e2 := fx_set hb
  show (∃ way', leastK (prb b (prB ps)) (fxb b (fxB ps)) 0 ls goal = some way' ∧ _) ↔ (match leastK (prB (ps.set b none)) (fxB (ps.set b none)) 0 ls goal with
      | none => false
      | some w' => sumP (prB (ps.set b none)) (tk w') == sumP (prB ps) (tk w)) = true
  rw [e1, e2]
  cases leastK (prb b (prB ps)) (fxb b (fxB ps)) 0 ls goal with
  | none => simp
  | some w' => simp
end
def r1 : S := gSet 11 (gCallB 1 (Pf.gCons (gC (.int 12)) (Pf.gCons (gC (.int 5)) Pf.gNil)) m__law_shelf)
def r2 : S := gSet 10 (gCallB 1 (Pf.gCons (gN 11) Pf.gNil) m__law_goal)
def r3 : S := gParVO 3 4 (gCall m_least (Pf.gCons (gN 11) (Pf.gCons (gN 10) Pf.gNil))) (Pf.gLst Pf.gNil)
def askS (Pt : Addr) : M PyData := gKind 12 [(Pt, qLam)] kindX (gFz (gCall m_spare (Pf.gCons (gN 11) (Pf.gCons (gN 10) Pf.gNil))))
def r4 (Pt : Addr) : S := gIfS (gTst neD (askS Pt) (gC (.str "NoWay"))) (gRet (gC (.bool false))) gNx
def r5 (Pt : Addr) : S := gForR1 (gBlt lenK (Pf.gCons (gIxP 11 (gC (.int 0))) Pf.gNil)) (bN 5) (b1_law Pt)
def r6 (Pt : Addr) : S := gForR1 (gC (.int 2)) (bN 8) (b2_law Pt)
theorem b3_is (Pt : Addr) : b3_law Pt = gSeq r1 (gSeq r2 (gSeq r3 (gIfS (gTst isD (gN 3) (gC .none)) (r4 Pt) (gSeq (r5 Pt) (r6 Pt))))) := rfl
def p1 : S := gSet 6 (gBin addD (gBin addD (gSlT (gIxP 11 (gC (.int 0))) gNoPt (gPt (gN 5))) (Pf.gTup (Pf.gCons (gC .none) Pf.gNil))) (gSlT (gIxP 11 (gC (.int 0))) (gPt (gBin addD (gN 5) (gC (.int 1)))) gNoPt))
def p2 : S := gSet 7 (gCall m_least (Pf.gCons (Pf.gTup (Pf.gCons (gN 6) (Pf.gCons (gIxP 11 (gC (.int 1))) Pf.gNil))) (Pf.gCons (gN 10) Pf.gNil)))
def p3t : M Bool := gAndT (gTst isnD (gBin atD (gIxP 11 (gC (.int 0))) (gN 5)) (gC .none)) (gAndT (gTst isnD (gN 7) (gC .none)) (gTst eqD (gIxP 7 (gC (.int 0))) (gIxP 3 (gC (.int 0)))))
def p3 : S := gIfS p3t (gApp 4 (gN 5)) gNx
theorem b1_is (Pt : Addr) : b1_law Pt = gSeq p1 (gSeq p2 p3) := rfl
def d1 : S := gSetO 9 (gCall m_spare (Pf.gCons (gN 11) (Pf.gCons (gN 10) Pf.gNil)))
def d2 : S := gIfS (gNotT (gTru (gCallPk (m__law_same 4) 9 4))) (gRet (gC (.bool false))) gNx
def d3 : S := gApp 9 (gC (.int 0))
theorem b2_is (Pt : Addr) : b2_law Pt = gSeq d1 (gSeq d2 d3) := rfl
section
variable {ps : List (Option Nat)} {ls goal : List (List Nat)} {a : PyData} {x2 x3 x4 x5 x6 x7 x8 x9 x10 x11 : Sl} {T : List (Addr × Str)}
theorem r1_ok (s : Stt) : ∃ (s' : Stt) (ps : List (Option Nat)) (ls : List (List Nat)), ShelfOk ps ls ∧ r1 (E9 a s x2 x3 x4 x5 x6 x7 x8 x9 x10 x11 T) = some (.nx (E9 a s' x2 x3 x4 x5 x6 x7 x8 x9 x10 (.val (shelfD ps ls)) T)) := by
  obtain ⟨s', ps, ls, h, e⟩ := shelf_ok s
  refine ⟨s', ps, ls, h, ?_⟩
  have c : gCallB 1 (Pf.gCons (gC (.int 12)) (Pf.gCons (gC (.int 5)) Pf.gNil)) m__law_shelf (E9 a s x2 x3 x4 x5 x6 x7 x8 x9 x10 x11 T) = some (.ok (shelfD ps ls, (E9 a s' x2 x3 x4 x5 x6 x7 x8 x9 x10 x11 T))) :=
    callB_own (st := enc s) (ds := enc s) rfl (as := [.int 12, .int 5]) (env1 := (E9 a s x2 x3 x4 x5 x6 x7 x8 x9 x10 x11 T)) rfl rfl e
  unfold r1
  rw [set_ok c]
  rfl
theorem r2_ok (hs : ShelfOk ps ls) (s : Stt) : ∃ (s' : Stt) (goal : List (List Nat)), GoalOk ps ls goal ∧ r2 (E9 a s x2 x3 x4 x5 x6 x7 x8 x9 x10 (.val (shelfD ps ls)) T) = some (.nx (E9 a s' x2 x3 x4 x5 x6 x7 x8 x9 (.val (.tuple (lotsD goal))) (.val (shelfD ps ls)) T)) := by
  obtain ⟨s', goal, h, e⟩ := goal_ok hs s
  refine ⟨s', goal, h, ?_⟩
  have c : gCallB 1 (Pf.gCons (gN 11) Pf.gNil) m__law_goal (E9 a s x2 x3 x4 x5 x6 x7 x8 x9 x10 (.val (shelfD ps ls)) T) = some (.ok (.tuple (lotsD goal), (E9 a s' x2 x3 x4 x5 x6 x7 x8 x9 x10 (.val (shelfD ps ls)) T))) :=
    callB_own (st := enc s) (ds := enc s) rfl (as := [shelfD ps ls]) (env1 := (E9 a s x2 x3 x4 x5 x6 x7 x8 x9 x10 (.val (shelfD ps ls)) T)) rfl rfl e
  unfold r2
  rw [set_ok c]
  rfl
theorem r3_ok (hs : ShelfOk ps ls) (hg : GoalOk ps ls goal) (s : Stt) : r3 (E9 a s x2 x3 x4 x5 x6 x7 x8 x9 (.val (.tuple (lotsD goal))) (.val (shelfD ps ls)) T) = some (.nx (E9 a s x2 (.val (leastD ps ls goal)) (.own []) x5 x6 x7 x8 x9 (.val (.tuple (lotsD goal))) (.val (shelfD ps ls)) T)) := by
  have c := call_ok (m := m_least) (gl := Pf.gCons (gN 11) (Pf.gCons (gN 10) Pf.gNil)) (env := (E9 a s x2 x3 x4 x5 x6 x7 x8 x9 (.val (.tuple (lotsD goal))) (.val (shelfD ps ls)) T)) (cons_ok (n_val rfl) (cons_ok (n_val rfl) nil_ok)) (least_ok hs hg)
  unfold r3 gParVO
  rw [gE_ok c]
  rfl
theorem r4_ok (hs : ShelfOk ps ls) (hg : GoalOk ps ls goal) (hk : LK ps ls goal = none) (Pt : Addr) (s : Stt) (n2 : nob x2 = true) (n5 : nob x5 = true) (n6 : nob x6 = true) (n7 : nob x7 = true) (n8 : nob x8 = true) (n9 : nob x9 = true) :
    r4 Pt (E9 a s x2 (.val .none) (.own []) x5 x6 x7 x8 x9 (.val (.tuple (lotsD goal))) (.val (shelfD ps ls)) (T9 Pt)) = some (.nx (E9 a s x2 (.val .none) (.own []) x5 x6 x7 x8 x9 (.val (.tuple (lotsD goal))) (.val (shelfD ps ls)) (T9 Pt))) := by
  have hk : leastK (prB ps) (fxB ps) 0 ls goal = none := hk
  have sp := spare_ok hs hg
  rw [hk] at sp
  have c := call_er (m := m_spare) (gl := Pf.gCons (gN 11) (Pf.gCons (gN 10) Pf.gNil)) (env := (E9 a s x2 (.val .none) (.own []) x5 x6 x7 x8 x9 (.val (.tuple (lotsD goal))) (.val (shelfD ps ls)) (T9 Pt))) (cons_ok (n_val rfl) (cons_ok (n_val rfl) nil_ok)) sp
  have no : noObj (E9 a s x2 (.val .none) (.own []) x5 x6 x7 x8 x9 (.val (.tuple (lotsD goal))) (.val (shelfD ps ls)) (T9 Pt)) = true := by
    rw [noObj_all]
    simp [nob_val, nob_own, nob_tab, n2, n5, n6, n7, n8, n9]
  have k : askS Pt (E9 a s x2 (.val .none) (.own []) x5 x6 x7 x8 x9 (.val (.tuple (lotsD goal))) (.val (shelfD ps ls)) (T9 Pt)) = some (.ok (.str "NoWay", (E9 a s x2 (.val .none) (.own []) x5 x6 x7 x8 x9 (.val (.tuple (lotsD goal))) (.val (shelfD ps ls)) (T9 Pt)))) := kind_er9 (i := 12) rfl no (fz_er c) rfl
  have ne : neD (.str "NoWay") (.str "NoWay") = some false := by decide +kernel
  unfold r4
  rw [ifS_f (tst_ok k rfl ne)]
  rfl
theorem p1_ok (hs : ShelfOk ps ls) {b : Nat} (hb : b < ps.length) (s : Stt) : p1 (E9 a s x2 x3 x4 (.val (natD b)) x6 x7 x8 x9 (.val (.tuple (lotsD goal))) (.val (shelfD ps ls)) T) = some (.nx (E9 a s x2 x3 x4 (.val (natD b)) (.val (.tuple (pricesD (ps.set b none)))) x7 x8 x9 (.val (.tuple (lotsD goal))) (.val (shelfD ps ls)) T)) := by
  have hp := hs.p2
  have lp : (pricesD ps).length = ps.length := List.length_map ..
  have i0 : gIxP 11 (gC (.int 0)) (E9 a s x2 x3 x4 (.val (natD b)) x6 x7 x8 x9 (.val (.tuple (lotsD goal))) (.val (shelfD ps ls)) T) = some (.ok (.tuple (pricesD ps), (E9 a s x2 x3 x4 (.val (natD b)) x6 x7 x8 x9 (.val (.tuple (lotsD goal))) (.val (shelfD ps ls)) T))) := rfl
  have s1 : gSlT (gIxP 11 (gC (.int 0))) gNoPt (gPt (gN 5)) (E9 a s x2 x3 x4 (.val (natD b)) x6 x7 x8 x9 (.val (.tuple (lotsD goal))) (.val (shelfD ps ls)) T) = some (.ok (.tuple (cutD (pricesD ps) none (some (b : Int))), (E9 a s x2 x3 x4 (.val (natD b)) x6 x7 x8 x9 (.val (.tuple (lotsD goal))) (.val (shelfD ps ls)) T))) := rfl
  have s2 : gSlT (gIxP 11 (gC (.int 0))) (gPt (gBin addD (gN 5) (gC (.int 1)))) gNoPt (E9 a s x2 x3 x4 (.val (natD b)) x6 x7 x8 x9 (.val (.tuple (lotsD goal))) (.val (shelfD ps ls)) T) = some (.ok (.tuple (cutD (pricesD ps) (some ((b + 1 : Nat) : Int)) none), (E9 a s x2 x3 x4 (.val (natD b)) x6 x7 x8 x9 (.val (.tuple (lotsD goal))) (.val (shelfD ps ls)) T))) := rfl
  rw [cut_take] at s1
  rw [cut_drop] at s2
  have tp : Pf.gTup (Pf.gCons (gC .none) Pf.gNil) (E9 a s x2 x3 x4 (.val (natD b)) x6 x7 x8 x9 (.val (.tuple (lotsD goal))) (.val (shelfD ps ls)) T) = some (.ok (.tuple [.none], (E9 a s x2 x3 x4 (.val (natD b)) x6 x7 x8 x9 (.val (.tuple (lotsD goal))) (.val (shelfD ps ls)) T))) := rfl
  have a1 := bin_ok (f := addD) (r := .tuple ((pricesD ps).take b ++ [.none])) s1 tp (by
    unfold addD
    simp only
    rw [if_pos]
    rw [List.length_take, sizeLine_eq]
    show _ + 1 ≤ _
    omega)
  have a2 := bin_ok (f := addD) (r := .tuple ((pricesD ps).take b ++ [.none] ++ (pricesD ps).drop (b + 1))) a1 s2 (by
    unfold addD
    simp only
    rw [if_pos]
    rw [List.length_append, List.length_take, List.length_drop, sizeLine_eq]
    show _ + 1 + _ ≤ _
    omega)
  rw [prices_set hb] at a2
  unfold p1
  rw [set_ok a2]
  rfl
theorem p2_ok (hs : ShelfOk ps ls) (hg : GoalOk ps ls goal) {b : Nat} (s : Stt) : p2 (E9 a s x2 x3 x4 (.val (natD b)) (.val (.tuple (pricesD (ps.set b none)))) x7 x8 x9 (.val (.tuple (lotsD goal))) (.val (shelfD ps ls)) T) = some (.nx (E9 a s x2 x3 x4 (.val (natD b)) (.val (.tuple (pricesD (ps.set b none)))) (.val (leastD (ps.set b none) ls goal)) x8 x9 (.val (.tuple (lotsD goal))) (.val (shelfD ps ls)) T)) := by
  have sh : Pf.gTup (Pf.gCons (gN 6) (Pf.gCons (gIxP 11 (gC (.int 1))) Pf.gNil)) (E9 a s x2 x3 x4 (.val (natD b)) (.val (.tuple (pricesD (ps.set b none)))) x7 x8 x9 (.val (.tuple (lotsD goal))) (.val (shelfD ps ls)) T) = some (.ok (shelfD (ps.set b none) ls, (E9 a s x2 x3 x4 (.val (natD b)) (.val (.tuple (pricesD (ps.set b none)))) x7 x8 x9 (.val (.tuple (lotsD goal))) (.val (shelfD ps ls)) T))) := rfl
  have c := call_ok (m := m_least) (cons_ok sh (cons_ok (n_val (i := 10) (d := .tuple (lotsD goal)) rfl) nil_ok)) (least_ok (shelf_set (b := b) hs) (goal_set hg))
  unfold p2
  rw [set_ok c]
  rfl
theorem p3_ok (hs : ShelfOk ps ls) (hg : GoalOk ps ls goal) {w : List Dd} (hk : LK ps ls goal = some w) {b : Nat} (hb : b < ps.length) {due : List Nat} (hd : due.length < 1000) (s : Stt) :
    p3 (E9 a s x2 (.val (.tuple [natD (costN ps w), .list (ddsD w)])) (.own (nats due)) (.val (natD b)) (.val (.tuple (pricesD (ps.set b none)))) (.val (leastD (ps.set b none) ls goal)) x8 x9 (.val (.tuple (lotsD goal))) (.val (shelfD ps ls)) T) = some (.nx (E9 a s x2 (.val (.tuple [natD (costN ps w), .list (ddsD w)])) (.own (nats (due ++ if dueB ps ls goal b = true then [b] else []))) (.val (natD b)) (.val (.tuple (pricesD (ps.set b none)))) (.val (leastD (ps.set b none) ls goal)) x8 x9 (.val (.tuple (lotsD goal))) (.val (shelfD ps ls)) T)) := by
  have di := due_iff hs hg hb hk
  have ia : gBin atD (gIxP 11 (gC (.int 0))) (gN 5) (E9 a s x2 (.val (.tuple [natD (costN ps w), .list (ddsD w)])) (.own (nats due)) (.val (natD b)) (.val (.tuple (pricesD (ps.set b none)))) (.val (leastD (ps.set b none) ls goal)) x8 x9 (.val (.tuple (lotsD goal))) (.val (shelfD ps ls)) T) = some (.ok (priceD ps[b], (E9 a s x2 (.val (.tuple [natD (costN ps w), .list (ddsD w)])) (.own (nats due)) (.val (natD b)) (.val (.tuple (pricesD (ps.set b none)))) (.val (leastD (ps.set b none) ls goal)) x8 x9 (.val (.tuple (lotsD goal))) (.val (shelfD ps ls)) T))) :=
    bin_ok (f := atD) (d := .tuple (pricesD ps)) (e := natD b) rfl rfl (atI_nat (price_at hb))
  have t1 := tst_ok (f := isnD) ia (show gC .none (E9 a s x2 (.val (.tuple [natD (costN ps w), .list (ddsD w)])) (.own (nats due)) (.val (natD b)) (.val (.tuple (pricesD (ps.set b none)))) (.val (leastD (ps.set b none) ls goal)) x8 x9 (.val (.tuple (lotsD goal))) (.val (shelfD ps ls)) T) = some (.ok (.none, (E9 a s x2 (.val (.tuple [natD (costN ps w), .list (ddsD w)])) (.own (nats due)) (.val (natD b)) (.val (.tuple (pricesD (ps.set b none)))) (.val (leastD (ps.set b none) ls goal)) x8 x9 (.val (.tuple (lotsD goal))) (.val (shelfD ps ls)) T))) from rfl) (isnD_price _)
  have i7 : gTst isnD (gN 7) (gC .none) (E9 a s x2 (.val (.tuple [natD (costN ps w), .list (ddsD w)])) (.own (nats due)) (.val (natD b)) (.val (.tuple (pricesD (ps.set b none)))) (.val (leastD (ps.set b none) ls goal)) x8 x9 (.val (.tuple (lotsD goal))) (.val (shelfD ps ls)) T) = some (.ok (!isNoneD (leastD (ps.set b none) ls goal), (E9 a s x2 (.val (.tuple [natD (costN ps w), .list (ddsD w)])) (.own (nats due)) (.val (natD b)) (.val (.tuple (pricesD (ps.set b none)))) (.val (leastD (ps.set b none) ls goal)) x8 x9 (.val (.tuple (lotsD goal))) (.val (shelfD ps ls)) T))) := rfl
  rw [leastD_isNone] at i7
  rw [← fxB_at hb] at t1
  have t : p3t (E9 a s x2 (.val (.tuple [natD (costN ps w), .list (ddsD w)])) (.own (nats due)) (.val (natD b)) (.val (.tuple (pricesD (ps.set b none)))) (.val (leastD (ps.set b none) ls goal)) x8 x9 (.val (.tuple (lotsD goal))) (.val (shelfD ps ls)) T) = some (.ok (dueB ps ls goal b, (E9 a s x2 (.val (.tuple [natD (costN ps w), .list (ddsD w)])) (.own (nats due)) (.val (natD b)) (.val (.tuple (pricesD (ps.set b none)))) (.val (leastD (ps.set b none) ls goal)) x8 x9 (.val (.tuple (lotsD goal))) (.val (shelfD ps ls)) T))) := by
    rw [di]
    cases hf : fxB ps b with
    | true =>
      rw [hf] at t1
      exact andT_f t1
    | false =>
      rw [hf] at t1
      refine (andT_t t1).trans ?_
      cases h2 : LK (ps.set b none) ls goal with
      | none =>
        rw [h2] at i7
        exact andT_f i7
      | some w2 =>
        rw [h2] at i7
        refine (andT_t i7).trans ?_
        rw [leastD_some h2]
        have k7 : gIxP 7 (gC (.int 0)) (E9 a s x2 (.val (.tuple [natD (costN ps w), .list (ddsD w)])) (.own (nats due)) (.val (natD b)) (.val (.tuple (pricesD (ps.set b none)))) (.val (.tuple [natD (costN (ps.set b none) w2), .list (ddsD w2)])) x8 x9 (.val (.tuple (lotsD goal))) (.val (shelfD ps ls)) T) = some (.ok (natD (costN (ps.set b none) w2), (E9 a s x2 (.val (.tuple [natD (costN ps w), .list (ddsD w)])) (.own (nats due)) (.val (natD b)) (.val (.tuple (pricesD (ps.set b none)))) (.val (.tuple [natD (costN (ps.set b none) w2), .list (ddsD w2)])) x8 x9 (.val (.tuple (lotsD goal))) (.val (shelfD ps ls)) T))) := rfl
        have k3 : gIxP 3 (gC (.int 0)) (E9 a s x2 (.val (.tuple [natD (costN ps w), .list (ddsD w)])) (.own (nats due)) (.val (natD b)) (.val (.tuple (pricesD (ps.set b none)))) (.val (.tuple [natD (costN (ps.set b none) w2), .list (ddsD w2)])) x8 x9 (.val (.tuple (lotsD goal))) (.val (shelfD ps ls)) T) = some (.ok (natD (costN ps w), (E9 a s x2 (.val (.tuple [natD (costN ps w), .list (ddsD w)])) (.own (nats due)) (.val (natD b)) (.val (.tuple (pricesD (ps.set b none)))) (.val (.tuple [natD (costN (ps.set b none) w2), .list (ddsD w2)])) x8 x9 (.val (.tuple (lotsD goal))) (.val (shelfD ps ls)) T))) := rfl
        exact tst_ok k7 k3 (eqD_int2 _ _)
  unfold p3
  cases hdb : dueB ps ls goal b with
  | false =>
    rw [hdb] at t
    rw [ifS_f t]
    simp
    rfl
  | true =>
    rw [hdb] at t
    rw [ifS_t t, app_own (i := 4) (ds := nats due) (ds1 := nats due) rfl (n_val (i := 5) (d := natD b) rfl) rfl (by rw [nats_len]; omega)]
    show some (Out.nx _) = some (Out.nx _)
    rw [if_pos rfl, nats_app]
    rfl
theorem for1_ok (Pt : Addr) (hs : ShelfOk ps ls) (hg : GoalOk ps ls goal) {w : List Dd} (hk : LK ps ls goal = some w) (s : Stt) : ∀ (n b : Nat) (due : List Nat) (x5 x6 x7 : Sl), b + n ≤ ps.length → due.length + n < 900 → nob x5 = true → nob x6 = true → nob x7 = true →
    ∃ y5 y6 y7, nob y5 = true ∧ nob y6 = true ∧ nob y7 = true ∧ loopL (bN 5) (b1_law Pt) (nats (List.range' b n)) (E9 a s x2 (.val (.tuple [natD (costN ps w), .list (ddsD w)])) (.own (nats due)) x5 x6 x7 x8 x9 (.val (.tuple (lotsD goal))) (.val (shelfD ps ls)) T) = some (.nx (E9 a s x2 (.val (.tuple [natD (costN ps w), .list (ddsD w)])) (.own (nats (due ++ ((List.range' b n).filter (dueB ps ls goal))))) (y5) (y6) (y7) x8 x9 (.val (.tuple (lotsD goal))) (.val (shelfD ps ls)) T))
  | 0, b, due, x5, x6, x7, _, _, n5, n6, n7 => ⟨x5, x6, x7, n5, n6, n7, by simp only [List.range'_zero, List.filter_nil, List.append_nil]; rfl⟩
  | n + 1, b, due, x5, x6, x7, hb, hd, n5, n6, n7 => by
    have q1 := p1_ok (ps := ps) (ls := ls) (goal := goal) (a := a) (x2 := x2) (x3 := .val (.tuple [natD (costN ps w), .list (ddsD w)])) (x4 := .own (nats due)) (x6 := x6) (x7 := x7) (x8 := x8) (x9 := x9) (T := T) (b := b) hs (by omega) s
    have q2 := p2_ok (ps := ps) (ls := ls) (goal := goal) (a := a) (x2 := x2) (x3 := .val (.tuple [natD (costN ps w), .list (ddsD w)])) (x4 := .own (nats due)) (x7 := x7) (x8 := x8) (x9 := x9) (T := T) (b := b) hs hg s
    have q3 := p3_ok (ps := ps) (ls := ls) (goal := goal) (a := a) (x2 := x2) (x8 := x8) (x9 := x9) (T := T) (b := b) (due := due) hs hg hk (by omega) (by omega) s
    have bl : (due ++ if dueB ps ls goal b = true then [b] else []).length ≤ due.length + 1 := by
      rw [List.length_append]
      split <;> simp
    obtain ⟨y5, y6, y7, m5, m6, m7, ih⟩ := for1_ok Pt hs hg hk s n (b + 1) (due ++ if dueB ps ls goal b = true then [b] else []) (.val (natD b)) (.val (.tuple (pricesD (ps.set b none)))) (.val (leastD (ps.set b none) ls goal)) (by omega) (by omega) rfl rfl rfl
    refine ⟨y5, y6, y7, m5, m6, m7, ?_⟩
    have bd : b1_law Pt (E9 a s x2 (.val (.tuple [natD (costN ps w), .list (ddsD w)])) (.own (nats due)) (.val (natD b)) x6 x7 x8 x9 (.val (.tuple (lotsD goal))) (.val (shelfD ps ls)) T) = some (.nx (E9 a s x2 (.val (.tuple [natD (costN ps w), .list (ddsD w)])) (.own (nats (due ++ if dueB ps ls goal b = true then [b] else []))) (.val (natD b)) (.val (.tuple (pricesD (ps.set b none)))) (.val (leastD (ps.set b none) ls goal)) x8 x9 (.val (.tuple (lotsD goal))) (.val (shelfD ps ls)) T)) := by
      rw [b1_is]
      exact seq_to q1 (seq_to q2 q3)
    have step : loopL (bN 5) (b1_law Pt) (nats (List.range' b (n + 1))) (E9 a s x2 (.val (.tuple [natD (costN ps w), .list (ddsD w)])) (.own (nats due)) x5 x6 x7 x8 x9 (.val (.tuple (lotsD goal))) (.val (shelfD ps ls)) T) = (match b1_law Pt (E9 a s x2 (.val (.tuple [natD (costN ps w), .list (ddsD w)])) (.own (nats due)) (.val (natD b)) x6 x7 x8 x9 (.val (.tuple (lotsD goal))) (.val (shelfD ps ls)) T) with
      | some (.nx env2) => loopL (bN 5) (b1_law Pt) (nats (List.range' (b + 1) n)) env2
      | some (.ct env2) => loopL (bN 5) (b1_law Pt) (nats (List.range' (b + 1) n)) env2
      | some (.bk env2) => some (.nx env2)
      | o => o) := rfl
    rw [step, bd]
    have e : due ++ (List.range' b (n + 1)).filter (dueB ps ls goal) = (due ++ if dueB ps ls goal b = true then [b] else []) ++ (List.range' (b + 1) n).filter (dueB ps ls goal) := by
      rw [List.range'_succ, List.filter_cons, List.append_assoc]
      cases dueB ps ls goal b <;> simp
    rw [e]
    exact ih
theorem b2_ok (Pt : Addr) (hs : ShelfOk ps ls) (hg : GoalOk ps ls goal) {w : List Dd} (hk : LK ps ls goal = some w) (s : Stt) : b2_law Pt (E9 a s x2 (.val (.tuple [natD (costN ps w), .list (ddsD w)])) (.own (nats (spareD ps ls goal))) x5 x6 x7 x8 x9 (.val (.tuple (lotsD goal))) (.val (shelfD ps ls)) T) = some (.nx (E9 a s x2 (.val (.tuple [natD (costN ps w), .list (ddsD w)])) (.own (nats (spareD ps ls goal))) x5 x6 x7 x8 (.own (nats (spareD ps ls goal) ++ [.int 0])) (.val (.tuple (lotsD goal))) (.val (shelfD ps ls)) T)) := by
  have hk : leastK (prB ps) (fxB ps) 0 ls goal = some w := hk
  have sp := spare_ok hs hg
  rw [hk] at sp
  have hp := hs.p2
  have dl : (spareD ps ls goal).length ≤ 12 := by
    have := List.length_filter_le (fun b => !fxB ps b && decide (b ∈ spareL ps ls goal)) (List.range ps.length)
    rw [List.length_range] at this
    unfold spareD
    omega
  have c := call_ok (m := m_spare) (gl := Pf.gCons (gN 11) (Pf.gCons (gN 10) Pf.gNil)) (env := (E9 a s x2 (.val (.tuple [natD (costN ps w), .list (ddsD w)])) (.own (nats (spareD ps ls goal))) x5 x6 x7 x8 x9 (.val (.tuple (lotsD goal))) (.val (shelfD ps ls)) T)) (cons_ok (n_val rfl) (cons_ok (n_val rfl) nil_ok)) sp
  have q1 : d1 (E9 a s x2 (.val (.tuple [natD (costN ps w), .list (ddsD w)])) (.own (nats (spareD ps ls goal))) x5 x6 x7 x8 x9 (.val (.tuple (lotsD goal))) (.val (shelfD ps ls)) T) = some (.nx (E9 a s x2 (.val (.tuple [natD (costN ps w), .list (ddsD w)])) (.own (nats (spareD ps ls goal))) x5 x6 x7 x8 (.own (nats (spareD ps ls goal))) (.val (.tuple (lotsD goal))) (.val (shelfD ps ls)) T)) := by
    unfold d1
    rw [setO_ok c]
    rfl
  have pk : gCallPk (m__law_same 4) 9 4 (E9 a s x2 (.val (.tuple [natD (costN ps w), .list (ddsD w)])) (.own (nats (spareD ps ls goal))) x5 x6 x7 x8 (.own (nats (spareD ps ls goal))) (.val (.tuple (lotsD goal))) (.val (shelfD ps ls)) T) = some (.ok (.bool true, (E9 a s x2 (.val (.tuple [natD (costN ps w), .list (ddsD w)])) (.own (nats (spareD ps ls goal))) x5 x6 x7 x8 (.own (nats (spareD ps ls goal))) (.val (.tuple (lotsD goal))) (.val (shelfD ps ls)) T))) := by
    have sm := same_nats (spareD ps ls goal) (by omega)
    unfold gCallPk
    show (match m__law_same 4 [.list (nats (spareD ps ls goal)), .list (nats (spareD ps ls goal))] with
      | some (.ok r) => if flatD r = true then some (Except.ok (r, (E9 a s x2 (.val (.tuple [natD (costN ps w), .list (ddsD w)])) (.own (nats (spareD ps ls goal))) x5 x6 x7 x8 (.own (nats (spareD ps ls goal))) (.val (.tuple (lotsD goal))) (.val (shelfD ps ls)) T))) else none
      | _ => none) = _
    rw [sm]
    rfl
  have q2 : d2 (E9 a s x2 (.val (.tuple [natD (costN ps w), .list (ddsD w)])) (.own (nats (spareD ps ls goal))) x5 x6 x7 x8 (.own (nats (spareD ps ls goal))) (.val (.tuple (lotsD goal))) (.val (shelfD ps ls)) T) = some (.nx (E9 a s x2 (.val (.tuple [natD (costN ps w), .list (ddsD w)])) (.own (nats (spareD ps ls goal))) x5 x6 x7 x8 (.own (nats (spareD ps ls goal))) (.val (.tuple (lotsD goal))) (.val (shelfD ps ls)) T)) := by
    unfold d2
    rw [ifS_f (notT_ok (tru_ok pk rfl))]
    rfl
  have q3 : d3 (E9 a s x2 (.val (.tuple [natD (costN ps w), .list (ddsD w)])) (.own (nats (spareD ps ls goal))) x5 x6 x7 x8 (.own (nats (spareD ps ls goal))) (.val (.tuple (lotsD goal))) (.val (shelfD ps ls)) T) = some (.nx (E9 a s x2 (.val (.tuple [natD (costN ps w), .list (ddsD w)])) (.own (nats (spareD ps ls goal))) x5 x6 x7 x8 (.own (nats (spareD ps ls goal) ++ [.int 0])) (.val (.tuple (lotsD goal))) (.val (shelfD ps ls)) T)) := by
    unfold d3
    rw [app_own (i := 9) (ds := nats (spareD ps ls goal)) (ds1 := nats (spareD ps ls goal)) (x := .int 0) rfl rfl rfl (by rw [nats_len]; omega)]
    rfl
  rw [b2_is]
  exact seq_to q1 (seq_to q2 q3)
theorem for2_ok (Pt : Addr) (hs : ShelfOk ps ls) (hg : GoalOk ps ls goal) {w : List Dd} (hk : LK ps ls goal = some w) (s : Stt) : ∀ (ks : List PyData) (x8 x9 : Sl), nob x8 = true → nob x9 = true →
    ∃ y8 y9, nob y8 = true ∧ nob y9 = true ∧ loopL (bN 8) (b2_law Pt) ks (E9 a s x2 (.val (.tuple [natD (costN ps w), .list (ddsD w)])) (.own (nats (spareD ps ls goal))) x5 x6 x7 x8 x9 (.val (.tuple (lotsD goal))) (.val (shelfD ps ls)) T) = some (.nx (E9 a s x2 (.val (.tuple [natD (costN ps w), .list (ddsD w)])) (.own (nats (spareD ps ls goal))) x5 x6 x7 (y8) (y9) (.val (.tuple (lotsD goal))) (.val (shelfD ps ls)) T))
  | [], x8, x9, n8, n9 => ⟨x8, x9, n8, n9, rfl⟩
  | k :: ks, x8, x9, n8, n9 => by
    have bd := b2_ok (ps := ps) (ls := ls) (goal := goal) (a := a) (x2 := x2) (x5 := x5) (x6 := x6) (x7 := x7) (x8 := .val k) (x9 := x9) (T := T) Pt hs hg hk s
    obtain ⟨y8, y9, m8, m9, ih⟩ := for2_ok Pt hs hg hk s ks (.val k) (.own (nats (spareD ps ls goal) ++ [.int 0])) rfl rfl
    refine ⟨y8, y9, m8, m9, ?_⟩
    have step : loopL (bN 8) (b2_law Pt) (k :: ks) (E9 a s x2 (.val (.tuple [natD (costN ps w), .list (ddsD w)])) (.own (nats (spareD ps ls goal))) x5 x6 x7 x8 x9 (.val (.tuple (lotsD goal))) (.val (shelfD ps ls)) T) = (match b2_law Pt (E9 a s x2 (.val (.tuple [natD (costN ps w), .list (ddsD w)])) (.own (nats (spareD ps ls goal))) x5 x6 x7 (.val k) x9 (.val (.tuple (lotsD goal))) (.val (shelfD ps ls)) T) with
      | some (.nx env2) => loopL (bN 8) (b2_law Pt) ks env2
      | some (.ct env2) => loopL (bN 8) (b2_law Pt) ks env2
      | some (.bk env2) => some (.nx env2)
      | o => o) := rfl
    rw [step, bd]
    exact ih
theorem turn9 (Pt : Addr) (s : Stt) (n2 : nob x2 = true) (n5 : nob x5 = true) (n6 : nob x6 = true) (n7 : nob x7 = true) (n8 : nob x8 = true) (n9 : nob x9 = true) : ∃ (s' : Stt) (y3 y4 y5 y6 y7 y8 y9 y10 y11 : Sl), nob y5 = true ∧ nob y6 = true ∧ nob y7 = true ∧ nob y8 = true ∧ nob y9 = true ∧ b3_law Pt (E9 a s x2 x3 x4 x5 x6 x7 x8 x9 x10 x11 (T9 Pt)) = some (.nx (E9 a s' x2 y3 y4 y5 y6 y7 y8 y9 y10 y11 (T9 Pt))) := by
  obtain ⟨s1, ps, ls, hs, q1⟩ := r1_ok (a := a) (x2 := x2) (x3 := x3) (x4 := x4) (x5 := x5) (x6 := x6) (x7 := x7) (x8 := x8) (x9 := x9) (x10 := x10) (x11 := x11) (T := T9 Pt) s
  obtain ⟨s2, goal, hg, q2⟩ := r2_ok (a := a) (x2 := x2) (x3 := x3) (x4 := x4) (x5 := x5) (x6 := x6) (x7 := x7) (x8 := x8) (x9 := x9) (x10 := x10) (T := T9 Pt) hs s1
  have q3 := r3_ok (a := a) (x2 := x2) (x3 := x3) (x4 := x4) (x5 := x5) (x6 := x6) (x7 := x7) (x8 := x8) (x9 := x9) (T := T9 Pt) hs hg s2
  have t : gTst isD (gN 3) (gC .none) (E9 a s2 x2 (.val (leastD ps ls goal)) (.own []) x5 x6 x7 x8 x9 (.val (.tuple (lotsD goal))) (.val (shelfD ps ls)) (T9 Pt)) = some (.ok (isNoneD (leastD ps ls goal), (E9 a s2 x2 (.val (leastD ps ls goal)) (.own []) x5 x6 x7 x8 x9 (.val (.tuple (lotsD goal))) (.val (shelfD ps ls)) (T9 Pt)))) := rfl
  rw [leastD_isNone] at t
  cases hk : LK ps ls goal with
  | none =>
    rw [hk] at t
    have d := leastD_none hk
    have q4 := r4_ok (a := a) (x2 := x2) (x5 := x5) (x6 := x6) (x7 := x7) (x8 := x8) (x9 := x9) hs hg hk Pt s2 n2 n5 n6 n7 n8 n9
    refine ⟨s2, .val .none, .own [], x5, x6, x7, x8, x9, .val (.tuple (lotsD goal)), .val (shelfD ps ls), n5, n6, n7, n8, n9, ?_⟩
    rw [b3_is]
    refine seq_to q1 (seq_to q2 (seq_to q3 ((ifS_t t).trans ?_)))
    rw [d]
    exact q4
  | some w =>
    rw [hk] at t
    have d := leastD_some hk
    obtain ⟨y5, y6, y7, m5, m6, m7, f1⟩ := for1_ok (a := a) (x2 := x2) (x8 := x8) (x9 := x9) (T := T9 Pt) Pt hs hg hk s2 ps.length 0 [] x5 x6 x7 (by omega) (by have := hs.p2; simp; omega) n5 n6 n7
    rw [List.nil_append, ← List.range_eq_range', ← spareD_eq] at f1
    obtain ⟨y8, y9, m8, m9, f2⟩ := for2_ok (a := a) (x2 := x2) (x5 := y5) (x6 := y6) (x7 := y7) (T := T9 Pt) Pt hs hg hk s2 (nats (List.range' 0 2)) x8 x9 n8 n9
    refine ⟨s2, .val (.tuple [natD (costN ps w), .list (ddsD w)]), .own (nats (spareD ps ls goal)), y5, y6, y7, y8, y9, .val (.tuple (lotsD goal)), .val (shelfD ps ls), m5, m6, m7, m8, m9, ?_⟩
    rw [b3_is]
    refine seq_to q1 (seq_to q2 (seq_to q3 ((ifS_f t).trans ?_)))
    rw [d]
    have ln : gBlt lenK (Pf.gCons (gIxP 11 (gC (.int 0))) Pf.gNil) (E9 a s2 x2 (.val (.tuple [natD (costN ps w), .list (ddsD w)])) (.own (nats [])) x5 x6 x7 x8 x9 (.val (.tuple (lotsD goal))) (.val (shelfD ps ls)) (T9 Pt)) = some (.ok (.int ps.length, (E9 a s2 x2 (.val (.tuple [natD (costN ps w), .list (ddsD w)])) (.own (nats [])) x5 x6 x7 x8 x9 (.val (.tuple (lotsD goal))) (.val (shelfD ps ls)) (T9 Pt)))) := by
      have z : gBlt lenK (Pf.gCons (gIxP 11 (gC (.int 0))) Pf.gNil) (E9 a s2 x2 (.val (.tuple [natD (costN ps w), .list (ddsD w)])) (.own (nats [])) x5 x6 x7 x8 x9 (.val (.tuple (lotsD goal))) (.val (shelfD ps ls)) (T9 Pt)) = some (.ok (.int (pricesD ps).length, (E9 a s2 x2 (.val (.tuple [natD (costN ps w), .list (ddsD w)])) (.own (nats [])) x5 x6 x7 x8 x9 (.val (.tuple (lotsD goal))) (.val (shelfD ps ls)) (T9 Pt)))) := rfl
      rw [show (pricesD ps).length = ps.length from List.length_map ..] at z
      exact z
    have hp := hs.p2
    refine seq_to (g := r5 Pt) ((forR1_ok ln (by omega)).trans ?_) ((forR1_ok (n := 2) rfl (by decide)).trans f2)
    rw [List.range_eq_range'] at f1
    exact f1
theorem turns9 (Pt : Addr) : ∀ (ks : List PyData) (s : Stt) (x2 x3 x4 x5 x6 x7 x8 x9 x10 x11 : Sl), nob x5 = true → nob x6 = true → nob x7 = true → nob x8 = true → nob x9 = true → ∃ env, loopL (bN 2) (b3_law Pt) ks (E9 a s x2 x3 x4 x5 x6 x7 x8 x9 x10 x11 (T9 Pt)) = some (.nx env)
  | [], s, x2, x3, x4, x5, x6, x7, x8, x9, x10, x11, _, _, _, _, _ => ⟨_, rfl⟩
  | k :: ks, s, x2, x3, x4, x5, x6, x7, x8, x9, x10, x11, n5, n6, n7, n8, n9 => by
    obtain ⟨s', y3, y4, y5, y6, y7, y8, y9, y10, y11, m5, m6, m7, m8, m9, e⟩ := turn9 (a := a) (x2 := .val k) (x3 := x3) (x4 := x4) (x5 := x5) (x6 := x6) (x7 := x7) (x8 := x8) (x9 := x9) (x10 := x10) (x11 := x11) Pt s rfl n5 n6 n7 n8 n9
    obtain ⟨env, e2⟩ := turns9 Pt ks s' (.val k) y3 y4 y5 y6 y7 y8 y9 y10 y11 m5 m6 m7 m8 m9
    refine ⟨env, ?_⟩
    have step : loopL (bN 2) (b3_law Pt) (k :: ks) (E9 a s x2 x3 x4 x5 x6 x7 x8 x9 x10 x11 (T9 Pt)) = (match b3_law Pt (E9 a s (.val k) x3 x4 x5 x6 x7 x8 x9 x10 x11 (T9 Pt)) with
      | some (.nx env2) => loopL (bN 2) (b3_law Pt) ks env2
      | some (.ct env2) => loopL (bN 2) (b3_law Pt) ks env2
      | some (.bk env2) => some (.nx env2)
      | o => o) := rfl
    rw [step, e]
    exact e2
end
theorem math (Pt : Addr) : ∀ ns : List Int, scriptOk ns → ∃ env, G_law Pt (envL Pt ns) = some (.rt (.bool true) env) := fun ns _ => by
  obtain ⟨m, e1⟩ := start_ok ns
  obtain ⟨env, e2⟩ := turns9 (a := .list (ns.map PyData.int)) Pt (nats (List.range' 0 3)) ⟨ns, 0, m, 0⟩ .no .no .no .no .no .no .no .no .no .no rfl rfl rfl rfl rfl
  refine ⟨env, ?_⟩
  have z1 : gSetO 1 (gCall m__law_start (Pf.gCons (gN 0) Pf.gNil)) (envL Pt ns) = some (.nx (E9 (.list (ns.map PyData.int)) ⟨ns, 0, m, 0⟩ .no .no .no .no .no .no .no .no .no .no (T9 Pt))) := by
    rw [setO_ok (call_ok (cons_ok (n_val (d := .list (ns.map PyData.int)) rfl) nil_ok) e1)]
    rfl
  have z2 : gForR1 (gC (.int 3)) (bN 2) (b3_law Pt) (E9 (.list (ns.map PyData.int)) ⟨ns, 0, m, 0⟩ .no .no .no .no .no .no .no .no .no .no (T9 Pt)) = some (.nx env) := by
    rw [forR1_ok (n := 3) rfl (by decide)]
    exact e2
  unfold G_law
  exact seq_to z1 (seq_to z2 rfl)
end Q
/-! part E09 -/
open PySem PySem.W PyProof.Rows
set_option Elab.async false
set_option linter.all false
set_option maxRecDepth 100000 in
set_option maxHeartbeats 0 in
theorem PySem.Challenge.cw_pinshelf_k09_whole_books_spared_holds : PySem.Challenge.rw_pinshelf_k09_whole_books_spared.Holds := by
  w_on; o_law; k_head; (case hw => w_witness2)
  k_fill
  refine LamX.walk_ofTs (l := PySem.Challenge.rw_pinshelf_k09_whole_books_spared) (n := 63) (k := 12) (x := "_law_script") (CX := fun w => L2.CX PySem.Challenge.pw_pinshelf_k09_whole_books_spared w) rfl (by decide) rfl ⟨rfl, by decide, by decide⟩ (fun w h Y => PySem.W.km_in_of Y) ?F (fun w H s e s2 z => by obtain ⟨_, _, _, _, _, _, _, _, _, _, _, _, z⟩ := z; exact z)
  case F =>
    intro w mg fa h Y KX G hmg
    have tt := PySem.W.km_tabs_of Y
    refine' Q.law_at (tt _ (List.Mem.head _)) KX G hmg ?nb_ValueError ?nb_bool ?nb_enumerate ?nb_int ?nb_isinstance ?nb_len ?nb_list ?nb_max ?nb_range ?nb_reversed ?nb_set ?nb_sorted ?nb_sum ?nb_tuple ?nb_zip ?gl_FIRST ?gl_LAST ?gl_MOST_BOOKS ?gl_MOST_LOTS ?gl_MOST_PRICE ?kt ?cl_1 ?cl_2 ?cl_3 ?cl_4 ?cl_5 ?cl_6 ?cl_7 ?cl_8 ?cl_9 ?cl_10 ?bg_1 ?br_1 ?bf_1 ?xl_2 ?sa_2 ?ex_2 ?ty_2 ?kc_2 ?ic_2 ?ti_2 ?li_2 ?cc_2 ?kk_2 ?nf_2_part ?nf_2_number ?xl_3 ?sa_3 ?ex_3 ?ty_3 ?kc_3 ?ic_3 ?ti_3 ?li_3 ?cc_3 ?kk_3 ?nf_3_number ?xe_6 ?ex_6 ?ty_6 ?kc_6 ?ga_6 ?gg_6 ?hd_6 ?ha_6 ?hm_6 ?em_6 ?hn ?ht ?kt_NoWay_BadGoal ?kt_NoWay_BadName ?kt_NoWay_BadShelf ?kt_NoWay_BadText ?kt_NoWay_BadWay ?kt_NoWay_BadWish ?kt_NoWay_Halted ?kt_NoWay_NoPoint ?kt_NoWay_NoWay ?kb_NoWay_ValueError ?fa_15 ?fl_15 ?fc_15 ?fk_15 ?fa_16 ?fl_16 ?fc_16 ?fk_16 ?fa_17 ?fl_17 ?fc_17 ?fk_17 ?fa_18 ?fl_18 ?fc_18 ?fk_18 ?fa_19 ?fl_19 ?fc_19 ?fk_19 ?fa_20 ?fl_20 ?fc_20 ?fk_20 ?fa_21 ?fl_21 ?fc_21 ?fk_21 ?fa_22 ?fl_22 ?fc_22 ?fk_22 ?fa_23 ?fl_23 ?fc_23 ?fk_23 ?fa_27 ?fl_27 ?fc_27 ?fk_27 ?fa_28 ?fl_28 ?fc_28 ?fk_28 ?fa_29 ?fl_29 ?fc_29 ?fk_29 ?fa_30 ?fl_30 ?fc_30 ?fk_30 ?fa_31 ?fl_31 ?fc_31 ?fk_31 ?fa_33 ?fl_33 ?fc_33 ?fk_33 ?fa_34 ?fl_34 ?fc_34 ?fk_34 ?fa_35 ?fl_35 ?fc_35 ?fk_35 ?fa_36 ?fl_36 ?fc_36 ?fk_36 ?fa_37 ?fl_37 ?fc_37 ?fk_37 ?fa_38 ?fl_38 ?fc_38 ?fk_38 ?fa_40 ?fl_40 ?fc_40 ?fk_40 ?fa_41 ?fl_41 ?fc_41 ?fk_41 ?fa_42 ?fl_42 ?fc_42 ?fk_42 ?fa_44 ?fl_44 ?fc_44 ?fk_44 ?fa_45 ?fl_45 ?fc_45 ?fk_45 ?fa_46 ?fl_46 ?fc_46 ?fk_46 ?fa_47 ?fl_47 ?fc_47 ?fk_47 ?fa_48 ?fl_48 ?fc_48 ?fk_48 ?fa_43 ?fl_43 ?fc_43 ?fk_43 ?la ?ll ?lc ?lt ?ln (Q.math _)
    (case nb_ValueError => k_is)
    (case nb_bool => k_is)
    (case nb_enumerate => k_is)
    (case nb_int => k_is)
    (case nb_isinstance => k_is)
    (case nb_len => k_is)
    (case nb_list => k_is)
    (case nb_max => k_is)
    (case nb_range => k_is)
    (case nb_reversed => k_is)
    (case nb_set => k_is)
    (case nb_sorted => k_is)
    (case nb_sum => k_is)
    (case nb_tuple => k_is)
    (case nb_zip => k_is)
    (case gl_FIRST => k_is)
    (case gl_LAST => k_is)
    (case gl_MOST_BOOKS => k_is)
    (case gl_MOST_LOTS => k_is)
    (case gl_MOST_PRICE => k_is)
    (case kt => exact Pf.kt_of (by first | rfl | kernel_rfl | decide +kernel))
    (case cl_1 => k_is)
    (case cl_2 => k_is)
    (case cl_3 => k_is)
    (case cl_4 => k_is)
    (case cl_5 => k_is)
    (case cl_6 => k_is)
    (case cl_7 => k_is)
    (case cl_8 => k_is)
    (case cl_9 => k_is)
    (case cl_10 => k_is)
    (case bg_1 => k_is)
    (case br_1 => k_is)
    (case bf_1 => k_is)
    (case xl_2 => k_is)
    (case sa_2 => k_is)
    (case ex_2 => k_is)
    (case ty_2 => k_is)
    (case kc_2 => k_is)
    (case ic_2 => k_is)
    (case ti_2 => k_is)
    (case li_2 => k_is)
    (case cc_2 => k_is)
    (case kk_2 => k_is)
    (case nf_2_part => k_is)
    (case nf_2_number => k_is)
    (case xl_3 => k_is)
    (case sa_3 => k_is)
    (case ex_3 => k_is)
    (case ty_3 => k_is)
    (case kc_3 => k_is)
    (case ic_3 => k_is)
    (case ti_3 => k_is)
    (case li_3 => k_is)
    (case cc_3 => k_is)
    (case kk_3 => k_is)
    (case nf_3_number => k_is)
    (case xe_6 => first | k_is | rfl | kernel_rfl)
    (case ex_6 => k_is)
    (case ty_6 => k_is)
    (case kc_6 => k_is)
    (case ga_6 => k_is)
    (case gg_6 => k_is)
    (case hd_6 => k_is)
    (case ha_6 => k_is)
    (case hm_6 => k_is)
    (case em_6 => first | k_is | rfl | kernel_rfl)
    (case hn => k_is)
    (case ht => k_is)
    (case kt_NoWay_BadGoal => first | k_is | rfl | kernel_rfl)
    (case kt_NoWay_BadName => first | k_is | rfl | kernel_rfl)
    (case kt_NoWay_BadShelf => first | k_is | rfl | kernel_rfl)
    (case kt_NoWay_BadText => first | k_is | rfl | kernel_rfl)
    (case kt_NoWay_BadWay => first | k_is | rfl | kernel_rfl)
    (case kt_NoWay_BadWish => first | k_is | rfl | kernel_rfl)
    (case kt_NoWay_Halted => first | k_is | rfl | kernel_rfl)
    (case kt_NoWay_NoPoint => first | k_is | rfl | kernel_rfl)
    (case kt_NoWay_NoWay => first | k_is | rfl | kernel_rfl)
    (case kb_NoWay_ValueError => first | k_is | rfl | kernel_rfl)
    (case fa_15 => k_is)
    (case fl_15 => k_is)
    (case fc_15 => k_is)
    (case fk_15 => k_is)
    (case fa_16 => k_is)
    (case fl_16 => k_is)
    (case fc_16 => k_is)
    (case fk_16 => k_is)
    (case fa_17 => k_is)
    (case fl_17 => k_is)
    (case fc_17 => k_is)
    (case fk_17 => k_is)
    (case fa_18 => k_is)
    (case fl_18 => k_is)
    (case fc_18 => k_is)
    (case fk_18 => k_is)
    (case fa_19 => k_is)
    (case fl_19 => k_is)
    (case fc_19 => k_is)
    (case fk_19 => k_is)
    (case fa_20 => k_is)
    (case fl_20 => k_is)
    (case fc_20 => k_is)
    (case fk_20 => k_is)
    (case fa_21 => k_is)
    (case fl_21 => k_is)
    (case fc_21 => k_is)
    (case fk_21 => k_is)
    (case fa_22 => k_is)
    (case fl_22 => k_is)
    (case fc_22 => k_is)
    (case fk_22 => k_is)
    (case fa_23 => k_is)
    (case fl_23 => k_is)
    (case fc_23 => k_is)
    (case fk_23 => k_is)
    (case fa_27 => k_is)
    (case fl_27 => k_is)
    (case fc_27 => k_is)
    (case fk_27 => k_is)
    (case fa_28 => k_is)
    (case fl_28 => k_is)
    (case fc_28 => k_is)
    (case fk_28 => k_is)
    (case fa_29 => k_is)
    (case fl_29 => k_is)
    (case fc_29 => k_is)
    (case fk_29 => k_is)
    (case fa_30 => k_is)
    (case fl_30 => k_is)
    (case fc_30 => k_is)
    (case fk_30 => k_is)
    (case fa_31 => k_is)
    (case fl_31 => k_is)
    (case fc_31 => k_is)
    (case fk_31 => k_is)
    (case fa_33 => k_is)
    (case fl_33 => k_is)
    (case fc_33 => k_is)
    (case fk_33 => k_is)
    (case fa_34 => k_is)
    (case fl_34 => k_is)
    (case fc_34 => k_is)
    (case fk_34 => k_is)
    (case fa_35 => k_is)
    (case fl_35 => k_is)
    (case fc_35 => k_is)
    (case fk_35 => k_is)
    (case fa_36 => k_is)
    (case fl_36 => k_is)
    (case fc_36 => k_is)
    (case fk_36 => k_is)
    (case fa_37 => k_is)
    (case fl_37 => k_is)
    (case fc_37 => k_is)
    (case fk_37 => k_is)
    (case fa_38 => k_is)
    (case fl_38 => k_is)
    (case fc_38 => k_is)
    (case fk_38 => k_is)
    (case fa_40 => k_is)
    (case fl_40 => k_is)
    (case fc_40 => k_is)
    (case fk_40 => k_is)
    (case fa_41 => k_is)
    (case fl_41 => k_is)
    (case fc_41 => k_is)
    (case fk_41 => k_is)
    (case fa_42 => k_is)
    (case fl_42 => k_is)
    (case fc_42 => k_is)
    (case fk_42 => k_is)
    (case fa_44 => k_is)
    (case fl_44 => k_is)
    (case fc_44 => k_is)
    (case fk_44 => k_is)
    (case fa_45 => k_is)
    (case fl_45 => k_is)
    (case fc_45 => k_is)
    (case fk_45 => k_is)
    (case fa_46 => k_is)
    (case fl_46 => k_is)
    (case fc_46 => k_is)
    (case fk_46 => k_is)
    (case fa_47 => k_is)
    (case fl_47 => k_is)
    (case fc_47 => k_is)
    (case fk_47 => k_is)
    (case fa_48 => k_is)
    (case fl_48 => k_is)
    (case fc_48 => k_is)
    (case fk_48 => k_is)
    (case fa_43 => k_is)
    (case fl_43 => k_is)
    (case fc_43 => k_is)
    (case fk_43 => k_is)
    (case la => k_is)
    (case ll => k_is)
    (case lc => k_is)
    (case lt => kernel_rfl)
    (case ln => first | rfl | kernel_rfl | k_is)
