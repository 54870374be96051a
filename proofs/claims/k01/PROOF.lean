import PyProof.Rows.All
import Wide.All
import OpenK.AllK
import Wide.FinOn
import HandS.ForExc
import HandS.ExcInit
import HandS.TupAny
import HandS.Conv
import KE.KIndexOf
import KE.DataFind
import HandS.ForMost
import HandS.Evl
import HandS.Lambda
import KE.KDflt
import HandS.IsInst
import HandS.Style
import HandS.Flow
import HandS.More
import KE.GoesEnum
import KE.GoesMore
import HandS.Iter
import HandS.FStr
import HandS.SetKeys
import HandS.ExcIs
import HandS.ExcField
import HandS.SetFor
import HandS.MapJoin
import HandS.EndTab
import HandS.Zip
import HandS.Rev
import HandS.SortKw
import KE.DataMinMax
import HandS.Strs
import HandS.Deep
import HandS.ExcOwn
import PyProof.ExcBaseAll.ValueError
import HandS.SetBool
import HandS.Dict
import HandS.DictSub
import KE.KMathGC
import HandS.Walk
import HandS.Sort
import KE.KDictSum
import KE.KRevSl
import HandS.SortRule
import HandS.TupMul
import KE.KTupSum
import HandS.Star
import HandS.Text
import PyProof.StrBlockL
import KE.KNestM
import PySem.Challenge.RW_pinshelf_k01_shelves_refused
/-! part PfX0 -/
set_option Elab.async false
set_option linter.all false
set_option maxRecDepth 100000
set_option maxHeartbeats 4000000
namespace PySem
namespace PfX
open PySem.W PySem.Calls PyProof.Rows PySem.HandSPX
section
variable {M : Model} {prog : Program} {w : World} {A : Around} {E : Value → Shared → Prop} {R : Result → Shared → Prop} {h : Heap} {g : Array GenState} {d : Drawn} {t : Nat} {os : OsState}
variable {nm q : Str} {C N : Addr} {bs bm bmB : List Value} {hdct : Bool} {sn : List Str} {sub : List Value} {ab : Bool} {col : Option Bool} {dd : Option Addr} {k0 k1 k2 k3 k5 : Option Value} {B newId initId : String} {kw : List (Str × Value)}
theorem check_newK (F : ExcBaseFacts B newId initId bmB) (hT : ∀ X : String, bm.contains (.type X) = bmB.contains (.type X)) {Q : Unit → Shared → Prop}
    (hC : h.get? C = some (excClassObj nm q C N bs bm hdct sn sub ab col dd k0 k1 k2 k3 k5 newId)) (hq : Q () ⟨h, g, d, t, os⟩) : wpAny M A (checkBuiltinCall newId ⟨[.ref C], kw⟩) Q E ⟨h, g, d, t, os⟩ := by
  have inB : (Value.ref C :: bm).contains (.type B) = true := by rw [List.contains_cons, hT, F.hasB, Bool.or_true]
  have st := F.noStar
  simp only [checkBuiltinCall, F.newKind, F.newSplit, F.newRow]
  repeat (first | refine wpAny_loadPart_at hC ?_ | (refine wpAny_isSubtype_exc hC ?_; rw [inB]) | refine wpAny_staticBase_exc hC ?_ | refine wpAny_madeBy_exc hC ?_ | simp only [bne_self_eq_false, Bool.false_eq_true, if_false] | wp_step)
  exact hq
theorem new_K (F : ExcBaseFacts B newId initId bmB) (hT : ∀ X : String, bm.contains (.type X) = bmB.contains (.type X))
    (hC : h.get? C = some (excClassObj nm q C N bs bm hdct sn sub ab col dd k0 k1 k2 k3 k5 newId))
    (hq : R (.ok (.ret (.ref (h.objs.size + 1)))) ⟨(h.push { cls := .type "tuple", data := .seq #[] }).push { cls := .ref C, data := .fields #[.ref h.objs.size, .none, .none, .none, .bool false, .none] }, g, d, t, os⟩) :
    codeAny (model prog w) A (.builtin newId ⟨[.ref C], kw⟩) R ⟨h, g, d, t, os⟩ := by
  have en := F.ends
  have inB : (Value.ref C :: bm).contains (.type B) = true := by rw [List.contains_cons, hT, F.hasB, Bool.or_true]
  have inA : (Value.ref C :: bm).contains (.type "AttributeError") = false := by rw [List.contains_cons, hT, F.noAttr]; rfl
  have inN : (Value.ref C :: bm).contains (.type "NameError") = false := by rw [List.contains_cons, hT, F.noName]; rfl
  refine codeAny_builtinAt F.entry ?_
  unfold Builtin.«BaseException.__new__»
  refine wpAt_bind (show wpAt _ _ _ (stack >>= _) _ _ _ from wpAt_bind (wpAt_stack fun p below => wpAt_of_wpAny ?_))
  wp_walk
  refine wpAt_of_wpAny ?_
  rw [F.owner]
  repeat (first | with_reducible refine wpAny_madeHere_exc F.canon hC ?_ | with_reducible refine wpAny_loadPart_at hC ?_ | (with_reducible refine wpAny_isSubtype_exc hC ?_; first | rw [inB] | rw [inA] | rw [inN]) | wp_step)
  show R _ _
  rw [Heap.size_push]
  exact hq
theorem type_callK (F : ExcBaseFacts B newId initId bmB) (hT : ∀ X : String, bm.contains (.type X) = bmB.contains (.type X)) {fI : Addr} {Q : Fin → Shared → Prop}
    (hC : h.get? C = some (excClassObj nm q C N bs bm hdct sn sub ab col dd k0 k1 k2 k3 k5 newId))
    (hi : W.Looks (model prog w) h (typeLookup (.ref C) "__init__") (some (.ref fI))) (hb : ∀ self, W.Looks (model prog w) h (bindSpecial (.ref fI) self) (.ref fI, [self]))
    (hq : codeAny (model prog w) A (.call (.ref fI) ⟨[.ref (h.objs.size + 1)], kw⟩) (fun r s' => match r with | .ok (.ret v) => v = .none ∧ Q (.done (.ret (.ref (h.objs.size + 1)))) s' | .ok _ => False | .error e => E e s')
      ⟨(h.push (W.kdv_tup [])).push (excO C h.objs.size), g, d, t, os⟩) :
    wpAny (model prog w) A (Builtin.«type.__call__» ⟨[.ref C], kw⟩) Q E ⟨h, g, d, t, os⟩ := by
  repeat (first | with_reducible refine wpAny_loadPart_at hC ?_ | with_reducible refine wpAny_madeBy_exc hC ?_ | wp_step)
  refine codeAny_call_builtin_code (Code.quiet_builtin _ F.quiet) (check_newK F hT hC (new_K F hT hC ?_))
  show wpAny _ _ _ _ _ _
  have kp : ∀ b o, h.get? b = some o → ((h.push (W.kdv_tup [])).push (excO C h.objs.size)).get? b = some o := fun b o e => Heap.get?_push_of_some _ (Heap.get?_push_of_some _ e)
  have hC₁ := kp _ _ hC
  have hnew : ((h.push (W.kdv_tup [])).push (excO C h.objs.size)).get? (h.objs.size + 1) = some (excO C h.objs.size) := by heap_get
  have inC : (Value.ref C :: bm).contains (.ref C) = true := by simp
  have i1 := hi.keeps kp
  have b1 := (hb (.ref (h.objs.size + 1))).keeps kp
  unfold isInstance
  repeat (first | with_reducible refine wpAny_loadPart_at hnew ?_ | (with_reducible refine wpAny_isSubtype_exc hC₁ ?_; rw [inC]) | wp_step)
  show wpAny _ _ (typeLookup (.ref C) _) _ _ _
  refine i1.at (wpAny_holding (wpAny_bind (b1.at (wpAny_bind (wpAny_call (codeAny_mono hq fun r s' z => ?_))))))
  rcases r with e | (v | _ | _ | _) <;> first | exact z | exact z.elim | skip
  obtain ⟨rfl, z⟩ := z
  first
    | exact wpAny_pure (wpAny_pure z)
    | (wp_walk; exact z)
theorem call_K (F : ExcBaseFacts B newId initId bmB) (hT : ∀ X : String, bm.contains (.type X) = bmB.contains (.type X)) {fI : Addr}
    (hC : h.get? C = some (excClassObj nm q C N bs bm hdct sn sub ab col dd k0 k1 k2 k3 k5 newId))
    (hi : W.Looks (model prog w) h (typeLookup (.ref C) "__init__") (some (.ref fI))) (hb : ∀ self, W.Looks (model prog w) h (bindSpecial (.ref fI) self) (.ref fI, [self]))
    (hq : codeAny (model prog w) (A.under (.builtin "type.__call__" ⟨[.ref C], kw⟩)) (.call (.ref fI) ⟨[.ref (h.objs.size + 1)], kw⟩) (W.InitBack (h.objs.size + 1) R) ⟨(h.push (W.kdv_tup [])).push (excO C h.objs.size), g, d, t, os⟩) :
    codeAny (model prog w) A (.call (.ref C) ⟨[], kw⟩) R ⟨h, g, d, t, os⟩ := by
  have f1 := tc_lookup
  have f2 := tc_bind (.ref C)
  have hTy : (⟨h, g, d, t, os⟩ : Shared).TypeIs (.ref C) "type" := ⟨_, hC, rfl⟩
  refine codeAny_of_tree (show wpAny _ _ (callAny (.ref C) _) _ _ _ from ?_)
  repeat (any_goals (first | assumption | with_reducible refine wpAny_loadPart_at hC ?_ | wp_step))
  refine ⟨rfl, codeAny_call_builtin_at (Code.quiet_builtin _ (by decide +kernel)) entry_typeCall (wpAny_check_type_call_sub hC (type_callK F hT hC hi hb (codeAny_mono hq fun r s' z => ?_)))⟩
  rcases r with e | (v | _ | _ | _) <;> exact z
end
end PfX
end PySem
/-! part Pf0 -/
set_option Elab.async false
set_option linter.all false
set_option maxRecDepth 100000
set_option maxHeartbeats 4000000
namespace Pf
open PySem PySem.Spec PyProof.Rows L2
def NewT (Q : VK) (G : Hp) (ws : List V) : Prop := ∀ (p : Addr) (ob : Obj), (ob.dict = none ∧ ob.slots = #[]) → G p = none → Q (.ref p) (upd G p (.frz ob (.tup ws)))
section
variable {X : Cx}
theorem laidT {pins : List (Addr × Obj)} {σ : L2.St} {G : Hp} {st : Shared} {Q : VK} {ws : List V} {us : List Value} (I : Inv X pins σ G st) (r : Vals ws us) (hz : ws.length ≤ sizeLine) (q : NewT Q G ws) :
    EP X pins σ Q (.ref st.heap.objs.size) { st with heap := st.heap.push { cls := .type "tuple", data := .seq us.toArray } } :=
  ⟨.ref st.heap.objs.size, upd G st.heap.objs.size (.frz { cls := .type "tuple", data := .seq us.toArray } (.tup ws)),
    I.laid (t' := st.toks) (fun _ _ z => Heap.get?_push_of_some _ z) (Nat.le_refl _) (show ObjOk X.prog X.w _ _ _ (.frz _ (.tup ws)) from ⟨Heap.get?_push_size _ rfl, hz, us, r, IsTup.new _ _⟩),
    rfl, q _ _ ⟨rfl, rfl⟩ (I.hok.fresh (Nat.le_refl _))⟩
def tTupF (t : TA) : TE := fun σ G Q => t σ G fun ws G1 => ws.length ≤ sizeLine ∧ NewT Q G1 ws
theorem pe_tupF {x1 : Nat} {es : List Expr} {t : TA} {pos : Pos} (h : PA X es t) : PE X (.Tuple es x1 pos) (tTupF t) := by
  constructor
  intro pins st σ G Q I hq
  refine wpAny_Tuple_spliced (thn (h.run pos pins st σ G _ I hq) ?_)
  rintro us st1 ⟨ws, G1, I1, r, hz, q⟩
  exact ⟨r.length ▸ hz, laidT I1 r hz q⟩
def rCatF (K : PySem.W.Frag) : R2 := fun x y G Q => ∃ a b ws vs, x = .ref a ∧ y = .ref b ∧ SqT K G a ws ∧ SqT K G b vs ∧ ws.length + vs.length ≤ sizeLine ∧
  (ws = [] → Q (.ref b) G) ∧ (ws ≠ [] → vs = [] → Q (.ref a) G) ∧ (ws ≠ [] → vs ≠ [] → NewT Q G (ws ++ vs))
theorem op_catF : OpR X (binaryOp .Add) (rCatF X.K) := by
  intro pins st σ G x y v u Q I rx ry h
  obtain ⟨a, b, ws, vs, e1, e2, ta, tb, hz, q0, q1, q2⟩ := h
  subst e1 e2
  by_cases hx : ws = []
  · exact op_catA pins st σ G _ _ v u Q I rx ry ⟨a, b, ws, vs, rfl, rfl, ta, tb, hz, q0, q1, fun n => absurd hx n⟩
  · cases rx
    cases ry
    obtain ⟨i1, r1, p1, _⟩ := I.tuple ta
    obtain ⟨i2, r2, p2, _⟩ := I.tuple tb
    have hn1 : ¬ i1 = [] := fun z => hx (r1.nil_iff.mp z)
    refine HT.cat_tup p1 p2 hn1 (fun z => ⟨.ref a, G, I, rfl, q1 hx (r2.nil_iff.mp z)⟩) (fun z => ?_) (by rw [← r1.length, ← r2.length]; exact hz)
    exact laidT I (r1.append r2) (by rw [List.length_append]; exact hz) (q2 hx fun n => z (r2.nil_iff.mpr n))
theorem op_catL : OpR X (binaryOp .Add) (fun x y G Q => ∃ a b ws vs, x = .ref a ∧ y = .ref b ∧ SqL X.K G a ws ∧ SqL X.K G b vs ∧ ws.length + vs.length ≤ sizeLine ∧ ∀ p, G p = none → Q (.ref p) (upd G p (.lst (ws ++ vs)))) := by
  intro pins st σ G x y v u Q I rx ry h
  obtain ⟨a, b, ws, vs, e1, e2, ta, tb, hz, q⟩ := h
  subst e1 e2
  cases rx
  cases ry
  obtain ⟨i1, r1, ⟨⟨cls, dd, data, sl⟩, n, ho, hc, hdn, hd⟩, _⟩ := I.list ta
  obtain ⟨i2, r2, ⟨⟨cls2, dd2, data2, sl2⟩, n2, ho2, hc2, hdn2, hd2⟩, _⟩ := I.list tb
  simp only at hc hd hc2 hd2
  subst hc hd hc2 hd2
  have l1 := r1.length
  have l2 := r2.length
  have ea : i1.toArray ++ i2.toArray = (i1 ++ i2).toArray := by simp
  refine concat_meets ⟨_, ho, rfl⟩ ⟨_, ho2, rfl⟩ noFill_list_add seq_list_add PySem.F.slot_list_add PySem.F.entry_list_add (PySem.F.args_list_add_2 _ _) (list_addW a b i1.toArray i2.toArray n n2 dd dd2 sl sl2 (by rw [List.size_toArray, List.size_toArray, ← l1, ← l2]; exact hz)) ⟨ho, ho2, ?_⟩
  rw [ea]
  exact ⟨.ref _, _, I.lnew (t' := st.toks) (r1.append r2) (by rw [List.length_append]; exact hz), rfl, q _ I.fresh⟩
def rCutF (K : PySem.W.Frag) : V → Option Int → Option Int → Hp → VK → Prop := fun x lo hi G Q => ∃ a ws, x = .ref a ∧ SqT K G a ws ∧
  (HT.sIx ws.length 0 lo = 0 ∧ HT.sIx ws.length ws.length hi = ws.length → Q (.ref a) G) ∧ (¬ (HT.sIx ws.length 0 lo = 0 ∧ HT.sIx ws.length ws.length hi = ws.length) → NewT Q G (cutV ws lo hi))
theorem sl_cutF : SlR X (rCutF X.K) := by
  intro pins st σ G x v vl vu lo hi sl Q I rx hs pl pu h
  obtain ⟨a, ws, e, ha, q1, q2⟩ := h
  subst e
  by_cases hw : HT.sIx ws.length 0 lo = 0 ∧ HT.sIx ws.length ws.length hi = ws.length
  · exact sl_tupA pins st σ G _ v vl vu lo hi sl Q I rx hs pl pu ⟨a, ws, rfl, ha, q1, fun n => absurd hw n⟩
  · cases rx
    obtain ⟨i1, r1, p1, hz⟩ := I.tuple ha
    have hl : i1.toArray.size = ws.length := by rw [List.size_toArray]; exact r1.length.symm
    refine ⟨"tuple", _, PyProof.Rows.slot_tuple_getitem.lookup, p1.typeIs, HT.getItem_tuple_cut p1 hs pl pu (by rw [hl]; exact hw) ?_ (by rw [hl]; exact hz)⟩
    rw [hl]
    exact laidT I ((r1.drop _).take _) (Nat.le_trans (cutV_length ws lo hi) hz) (q2 hw)
theorem cr_tupF : CallR X (.type "tuple") (fun vs G Q => ∃ p ws, vs = [.ref p] ∧ ((SqL X.K G p ws ∧ NewT Q G ws) ∨ (SqT X.K G p ws ∧ Q (.ref p) G))) := by
  intro pins st σ G vs us Q I r h
  obtain ⟨p, ws, e, h⟩ := h
  rcases h with ⟨hl, q⟩ | ⟨ht, q⟩
  · subst e
    obtain ⟨u, rfl, rx⟩ := vals1 r
    cases rx
    obtain ⟨i1, r1, p1, hz⟩ := I.list hl
    have hn := r1.length
    refine call_tuple_list p1.isList (fun h' kp => ?_) (by simp only [List.size_toArray] <;> omega)
    exact laidT (I.kept (t' := st.toks) kp) r1 hz q
  · exact call_tuple_of pins st σ G vs us Q I r ⟨p, ws, e, .inr ⟨ht, q⟩⟩
end
end Pf
/-! part Pf1 -/
set_option Elab.async false
set_option linter.all false
set_option maxRecDepth 100000
set_option maxHeartbeats 2000000
namespace L2
open PySem PySem.Spec
theorem DpAll.len {K : PySem.W.Frag} {H : Hp} : ∀ {vs : List V} {ds : List PyData}, DpAll K H vs ds → vs.length = ds.length
  | _, _, .nil => rfl
  | _, _, .cons _ r => by simp [DpAll.len r]
theorem DpAll.get {K : PySem.W.Frag} {H : Hp} : ∀ {vs : List V} {ds : List PyData} {i : Nat} {d : PyData}, DpAll K H vs ds → ds[i]? = some d → ∃ v, vs[i]? = some v ∧ Dp K H v d
  | _, _, _, _, .nil, h => by simp at h
  | _, _, 0, _, .cons a _, h => by simp at h; subst h; exact ⟨_, rfl, a⟩
  | _, _, i + 1, _, .cons _ r, h => by
    obtain ⟨v, e, x⟩ := DpAll.get (i := i) r (by simpa using h)
    exact ⟨v, by simpa using e, x⟩
theorem DpAll.app {K : PySem.W.Frag} {H : Hp} : ∀ {vs ws : List V} {ds es : List PyData}, DpAll K H vs ds → DpAll K H ws es → DpAll K H (vs ++ ws) (ds ++ es)
  | _, _, _, _, .nil, s => s
  | _, _, _, _, .cons a r, s => .cons a (DpAll.app r s)
theorem DpAll.take {K : PySem.W.Frag} {H : Hp} : ∀ {vs : List V} {ds : List PyData} (n : Nat), DpAll K H vs ds → DpAll K H (vs.take n) (ds.take n)
  | _, _, 0, _ => .nil
  | _, _, _ + 1, .nil => .nil
  | _, _, n + 1, .cons a r => .cons a (DpAll.take n r)
theorem DpAll.drop {K : PySem.W.Frag} {H : Hp} : ∀ {vs : List V} {ds : List PyData} (n : Nat), DpAll K H vs ds → DpAll K H (vs.drop n) (ds.drop n)
  | _, _, 0, r => r
  | _, _, _ + 1, .nil => .nil
  | _, _, n + 1, .cons _ r => DpAll.drop n r
theorem DpAll.set {K : PySem.W.Frag} {H : Hp} {v : V} {d : PyData} (h : Dp K H v d) : ∀ {vs : List V} {ds : List PyData} (n : Nat), DpAll K H vs ds → DpAll K H (vs.set n v) (ds.set n d)
  | _, _, _, .nil => .nil
  | _, _, 0, .cons _ r => .cons h r
  | _, _, n + 1, .cons a r => .cons a (DpAll.set h n r)
theorem DpAll.erase {K : PySem.W.Frag} {H : Hp} : ∀ {vs : List V} {ds : List PyData} (n : Nat), DpAll K H vs ds → DpAll K H (vs.eraseIdx n) (ds.eraseIdx n)
  | _, _, _, .nil => .nil
  | _, _, 0, .cons _ r => r
  | _, _, n + 1, .cons a r => .cons a (DpAll.erase n r)
theorem DpAll.reverse {K : PySem.W.Frag} {H : Hp} : ∀ {vs : List V} {ds : List PyData}, DpAll K H vs ds → DpAll K H vs.reverse ds.reverse
  | _, _, .nil => .nil
  | _, _, .cons a r => by simp only [List.reverse_cons]; exact DpAll.app (DpAll.reverse r) (.cons a .nil)
end L2
namespace Pf
open PySem PySem.Spec L2 Evl
mutual
theorem dp_mono {K : PySem.W.Frag} {H H' : Hp} (e : Ex H H') : ∀ {v : V} {d : PyData}, Dp K H v d → Dp K H' v d
  | _, _, .non => .non
  | _, _, .bl b => .bl b
  | _, _, .int i => .int i
  | _, _, .str x => .str x
  | _, _, .lst h r => .lst (ex_l e h) (dps_mono e r)
  | _, _, .tup h r => .tup (ex_t e h) (dps_mono e r)
theorem dps_mono {K : PySem.W.Frag} {H H' : Hp} (e : Ex H H') : ∀ {vs : List V} {ds : List PyData}, DpAll K H vs ds → DpAll K H' vs ds
  | _, _, .nil => .nil
  | _, _, .cons a r => .cons (dp_mono e a) (dps_mono e r)
end
def FsOk (K : PySem.W.Frag) (F : Hp) : List (Str × V) → List (Str × PyData) → Prop
  | [], [] => True
  | (f, v) :: r, (g, d) :: r' => f = g ∧ Dp K F v d ∧ FsOk K F r r'
  | _, _ => False
theorem fs_mono {K : PySem.W.Frag} {F F' : Hp} (e : Ex F F') : ∀ {a : List (Str × V)} {b : List (Str × PyData)}, FsOk K F a b → FsOk K F' a b
  | [], [], _ => trivial
  | [], _ :: _, h => h.elim
  | _ :: _, [], h => by simp [FsOk] at h
  | (f, v) :: a, (g, d) :: b, ⟨h1, h2, h3⟩ => ⟨h1, dp_mono e h2, fs_mono e h3⟩
structure Lm where
  id : Nat
  prm : Arguments
  bd : Expr
  sc : Scope
  cl : List (Str × Addr)
  q : Str
  df : Bool
def FunO (f : Addr) (o : Obj) : HO := .ext fun h => h.get? f = some o
def lmObj (l : Lm) (dV doc pm : Value) (c' : Addr) (ctv : Value) : Obj := PySem.W.kdv_obj "<lambda>" l.q l.prm (.expr l.bd) l.sc l.cl dV doc pm c' ctv
def DfOk (F : Hp) (df : Bool) (dV : Value) : Prop := match df with
  | false => dV = .none
  | true => ∃ (d : Addr) (u : Value), dV = .ref d ∧ F d = some (FunO d (PySem.W.kdv_tup [u]))
def LmOk (F H : Hp) (v : V) (l : Lm) : Prop := ∃ (f c' : Addr) (dV doc pm ctv : Value), v = .ref f ∧ F f = some (FunO f (lmObj l dV doc pm c' ctv)) ∧ H c' = some (LamX.CodeO c' l.q) ∧ DfOk F l.df dV
def LmsOk (F H : Hp) : List V → List Lm → Prop
  | [], [] => True
  | v :: vs, l :: ls => LmOk F H v l ∧ LmsOk F H vs ls
  | _, _ => False
def LamSl (F H : Hp) (x : Option (Option V)) : Bool → List Lm → Prop
  | true, ls => ∃ p vs, x = some (some (.ref p)) ∧ F p = some (.lst vs) ∧ LmsOk F H vs ls
  | false, ls => ∃ v, x = some (some v) ∧ LmsOk F H [v] ls
def CodeKept (H H' : Hp) : Prop := ∀ c q, H c = some (LamX.CodeO c q) → H' c = some (LamX.CodeO c q)
theorem codeKept_refl (H : Hp) : CodeKept H H := fun _ _ h => h
theorem codeKept_all {H H' : Hp} (k : ∀ a o, H a = some o → H' a = some o) : CodeKept H H' := fun c _ h => k c _ h
theorem codeKept_ne {H H' : Hp} {p : Addr} {o : HO} (h : H p = some o) (hn : ∀ c q, o ≠ LamX.CodeO c q) (k : ∀ a o, a ≠ p → H a = some o → H' a = some o) : CodeKept H H' := fun c q e => k c _ (fun z => by subst z; rw [h] at e; exact hn _ _ (Option.some.inj e)) e
theorem lst_code {xs : List V} (c : Addr) (q : Str) : HO.lst xs ≠ LamX.CodeO c q := fun z => by unfold LamX.CodeO at z; cases z
theorem dfOk_mono {F F' : Hp} (e : Ex F F') {df : Bool} {dV : Value} (h : DfOk F df dV) : DfOk F' df dV := by
  cases df with
  | false => exact h
  | true => obtain ⟨d, u, h1, h2⟩ := h; exact ⟨d, u, h1, e _ _ h2⟩
theorem lmOk_mono {F F' H H' : Hp} (e : Ex F F') (k : CodeKept H H') {v : V} {l : Lm} (h : LmOk F H v l) : LmOk F' H' v l := by
  obtain ⟨f, c', dV, doc, pm, ctv, h1, h2, h3, h4⟩ := h
  exact ⟨f, c', dV, doc, pm, ctv, h1, e _ _ h2, k _ _ h3, dfOk_mono e h4⟩
theorem lmsOk_mono {F F' H H' : Hp} (e : Ex F F') (k : CodeKept H H') : ∀ {vs : List V} {ls : List Lm}, LmsOk F H vs ls → LmsOk F' H' vs ls
  | [], [], _ => trivial
  | _ :: _, _ :: _, ⟨h1, h2⟩ => ⟨lmOk_mono e k h1, lmsOk_mono e k h2⟩
  | [], _ :: _, h => h.elim
  | _ :: _, [], h => h.elim
theorem lamSl_mono {F F' H H' : Hp} (e : Ex F F') (k : CodeKept H H') {x : Option (Option V)} {b : Bool} {ls : List Lm} (h : LamSl F H x b ls) : LamSl F' H' x b ls := by
  cases b with
  | true => obtain ⟨p, vs, h1, h2, h3⟩ := h; exact ⟨p, vs, h1, e _ _ h2, lmsOk_mono e k h3⟩
  | false => obtain ⟨v, h1, h2⟩ := h; exact ⟨v, h1, lmsOk_mono e k h2⟩
inductive Sl where
  | no
  | val (d : PyData)
  | own (ds : List PyData)
  | bor (ds : List PyData)
  | obj (o : HO)
  | raw (v : V)
  | exc (a dd : Addr) (fs : List (Str × PyData))
  | tab (T : List (Addr × Str))
  | lam (b : Bool) (ls : List Lm)
abbrev En := List Sl
structure Cn where
  F : Hp
  H : Hp
  B : List Addr
  T : List (Addr × Str) := []
def SlOk (K : PySem.W.Frag) (C : Cn) (F H : Hp) (x : Option (Option V)) : Sl → Prop
  | .no => True
  | .val d => ∃ v, x = some (some v) ∧ Dp K F v d
  | .own ds => ∃ p vs, x = some (some (.ref p)) ∧ F p = none ∧ C.H p = none ∧ H p = some (.lst vs) ∧ DpAll K F vs ds
  | .bor ds => ∃ p vs, x = some (some (.ref p)) ∧ F p = none ∧ p ∈ C.B ∧ H p = some (.lst vs) ∧ DpAll K F vs ds
  | .obj o => ∃ p, x = some (some (.ref p)) ∧ F p = none ∧ C.H p = none ∧ H p = some o
  | .raw v => x = some (some v)
  | .exc a dd fs => x = some (some (.ref a)) ∧ ∃ vs, F dd = some (.xd vs) ∧ FsOk K F vs fs
  | .tab T => (C.T = T ∧ ∀ b ∈ C.B, ∃ q, (b, q) ∈ T) ∧ ∀ a ps, C.H a = some (.tbl ps) → a ∈ C.B
  | .lam b ls => LamSl F H x b ls
def isOwn : Sl → Bool
  | .own _ => true
  | .bor _ => true
  | .obj _ => true
  | _ => false
def Owned (σ : St) (env : En) (i : Nat) (p : Addr) : Prop := ∃ s, env[i]? = some s ∧ isOwn s = true ∧ σ[i]? = some (some (.ref p))
theorem tabs_lst {T : List (Addr × Str)} {H H' : Hp} {p : Addr} {vs : List V} (t : LamX.Tabs T H) (h : H p = some (.lst vs)) (k : ∀ a o, a ≠ p → H a = some o → H' a = some o) : LamX.Tabs T H' := fun q hq => by
  obtain ⟨ps, h1, h2, h3⟩ := t q hq
  refine ⟨ps, k _ _ (fun e => ?_) h1, h2, fun pos cv hc => ?_⟩
  · rw [e, h] at h1; cases h1
  · obtain ⟨c, e1, e2⟩ := h3 pos cv hc
    refine ⟨c, e1, k _ _ (fun e => ?_) e2⟩
    rw [e, h] at e2
    have e2 := Option.some.inj e2
    unfold LamX.CodeO at e2
    cases e2
def looseV : V → Bool
  | .non => false
  | .int _ => false
  | _ => true
def okNew : HO → Prop
  | .tbl _ => False
  | .tup xs => xs.any looseV = true
  | .frz ob (.tup _) => ob.dict = none ∧ ob.slots = #[]
  | _ => True
def NT (F : Hp) : Prop := ∀ a o, F a = some o → okNew o
theorem NT.upd {F : Hp} (h : NT F) {p : Addr} {o : HO} (ho : okNew o) : NT (upd F p o) := fun a u e => by
  by_cases z : a = p
  · subst z; rw [upd_same] at e; cases e; exact ho
  · rw [upd_ne z] at e; exact h a u e
theorem NT.tbl {F : Hp} (h : NT F) (a : Addr) (ps : Array Value) : F a ≠ some (.tbl ps) := fun e => h a _ e
structure Rel (K : PySem.W.Frag) (C : Cn) (F : Hp) (σ : St) (H : Hp) (env : En) : Prop where
  fh : Ex F H
  cf : Ex C.F F
  new : ∀ a, C.F a = none → F a ≠ none → C.H a = none
  pres : ∀ a o, C.H a = some o → a ∉ C.B → H a = some o
  bd : ∀ b ∈ C.B, H b ≠ none ∧ C.F b = none ∧ C.H b ≠ none
  sl : ∀ (i : Nat) s, env[i]? = some s → SlOk K C F H σ[i]? s
  dis : ∀ (i j : Nat) p, Owned σ env i p → Owned σ env j p → i = j
  len : env.length = σ.length
  tb : LamX.Tabs C.T H
  nt : NT F
section
variable {K : PySem.W.Frag} {C : Cn} {F F' : Hp} {σ : St} {H H' : Hp} {env : En}
theorem Rel.grow (r : Rel K C F σ H env) (e : Ex F F') (e' : Ex F' H') (k : ∀ a o, H a = some o → H' a = some o)
    (new : ∀ a, F a = none → F' a ≠ none → H a = none) (nt : NT F') : Rel K C F' σ H' env where
  fh := e'
  cf := r.cf.trans e
  new := fun a h1 h2 => by
    by_cases h : F a = none
    · have := new a h h2
      cases q : C.H a with
      | none => rfl
      | some o =>
        by_cases hb : a ∈ C.B
        · exact absurd this (r.bd a hb).1
        · rw [r.pres a o q hb] at this; cases this
    · exact r.new a h1 h
  pres := fun a o h hb => k a o (r.pres a o h hb)
  bd := fun b hb => by
    obtain ⟨h1, h2, h3⟩ := r.bd b hb
    refine ⟨?_, h2, h3⟩
    cases q : H b with
    | none => exact absurd q h1
    | some o => rw [k b o q]; simp
  sl := fun i s h => by
    have q := r.sl i s h
    have nf : ∀ p o, F p = none → H p = some o → F' p = none := fun p vs h1 h2 => by
      cases q : F' p with
      | none => rfl
      | some o => have z := new p h1 (by rw [q]; simp); rw [h2] at z; cases z
    cases s with
    | no => trivial
    | val d => obtain ⟨v, h1, h2⟩ := q; exact ⟨v, h1, dp_mono e h2⟩
    | own ds => obtain ⟨p, vs, h1, h2, h3, h4, h5⟩ := q; exact ⟨p, vs, h1, nf p _ h2 h4, h3, k _ _ h4, dps_mono e h5⟩
    | bor ds => obtain ⟨p, vs, h1, h2, h3, h4, h5⟩ := q; exact ⟨p, vs, h1, nf p _ h2 h4, h3, k _ _ h4, dps_mono e h5⟩
    | obj ob => obtain ⟨p, h1, h2, h3, h4⟩ := q; exact ⟨p, h1, nf p _ h2 h4, h3, k _ _ h4⟩
    | raw v => exact q
    | exc a dd fs => obtain ⟨z1, z2, z3, z4⟩ := q; exact ⟨z1, z2, e _ _ z3, fs_mono e z4⟩
    | tab T => exact q
    | lam b ls => exact lamSl_mono e (codeKept_all k) q
  dis := r.dis
  len := r.len
  tb := r.tb.ext k
  nt := nt
theorem Rel.fresh (r : Rel K C F σ H env) {p : Addr} (h : H p = none) : F p = none ∧ C.H p = none := by
  constructor
  · cases q : F p with
    | none => rfl
    | some o => rw [r.fh p o q] at h; cases h
  · cases q : C.H p with
    | none => rfl
    | some o =>
      by_cases hb : p ∈ C.B
      · exact absurd h (r.bd p hb).1
      · rw [r.pres p o q hb] at h; cases h
theorem Rel.newF (r : Rel K C F σ H env) {p : Addr} {o : HO} (h : H p = none) (hn : okNew o := by trivial) : Rel K C (upd F p o) σ (upd H p o) env := by
  have hf := (r.fresh h).1
  refine r.grow (Ex.new hf) (fun a u q => ?_) (fun a u q => ?_) (fun a h1 h2 => ?_) (r.nt.upd hn)
  · by_cases ha : a = p
    · subst ha; rw [upd_same] at q ⊢; exact q
    · rw [upd_ne ha] at q ⊢; exact r.fh a u q
  · rw [upd_ne (ne_of_none q h)]; exact q
  · by_cases ha : a = p
    · subst ha; exact h
    · rw [upd_ne ha] at h2; exact absurd h1 h2
theorem Rel.newH (r : Rel K C F σ H env) {p : Addr} {o : HO} (h : H p = none) : Rel K C F σ (upd H p o) env := by
  have hf := (r.fresh h).1
  refine r.grow (Ex.refl _) (fun a u q => ?_) (fun a u q => ?_) (fun a h1 h2 => absurd h1 h2) r.nt
  · rw [upd_ne (ne_of_none q hf)]; exact r.fh a u q
  · rw [upd_ne (ne_of_none q h)]; exact q
def Cn.guard (C : Cn) (p : Addr) (o : HO) : Cn := { C with H := upd C.H p o }
theorem Rel.guard (r : Rel K C F σ H env) {p : Addr} {o : HO} (h1 : F p = none) (h2 : C.H p = none) (h3 : H p = some o) (h4 : ∀ i, ¬ Owned σ env i p) (ho : ∀ ps, o ≠ .tbl ps := by intro _ z; cases z) : Rel K (C.guard p o) F σ H env where
  fh := r.fh
  cf := r.cf
  new := fun a q1 q2 => by
    have ne : a ≠ p := fun e => by subst e; exact q2 h1
    show upd C.H p o a = none
    rw [upd_ne ne]; exact r.new a q1 q2
  pres := fun a u q hb => by
    have q : upd C.H p o a = some u := q
    by_cases ne : a = p
    · subst ne; rw [upd_same] at q; rw [← q]; exact h3
    · rw [upd_ne ne] at q; exact r.pres a u q hb
  bd := fun b hb => by
    obtain ⟨a1, a2, a3⟩ := r.bd b hb
    refine ⟨a1, a2, ?_⟩
    show upd C.H p o b ≠ none
    by_cases ne : b = p
    · subst ne; rw [upd_same]; simp
    · rw [upd_ne ne]; exact a3
  sl := fun i s hs => by
    have q := r.sl i s hs
    cases s with
    | no => trivial
    | val d => exact q
    | own ds =>
      obtain ⟨p', vs, a1, a2, a3, a4, a5⟩ := q
      have ne : p' ≠ p := fun e => h4 i ⟨_, hs, rfl, by rw [← e]; exact a1⟩
      exact ⟨p', vs, a1, a2, by show upd C.H p o p' = none; rw [upd_ne ne]; exact a3, a4, a5⟩
    | obj ob =>
      obtain ⟨p', a1, a2, a3, a4⟩ := q
      have ne : p' ≠ p := fun e => h4 i ⟨_, hs, rfl, by rw [← e]; exact a1⟩
      exact ⟨p', a1, a2, by show upd C.H p o p' = none; rw [upd_ne ne]; exact a3, a4⟩
    | bor ds => exact q
    | raw v => exact q
    | exc a dd fs => exact q
    | tab T =>
      refine ⟨q.1, fun a ps z => ?_⟩
      have z : upd C.H p o a = some (.tbl ps) := z
      by_cases e : a = p
      · subst e; rw [upd_same] at z; exact absurd (Option.some.inj z) (ho ps)
      · rw [upd_ne e] at z; exact q.2 a ps z
    | lam b ls => exact q
  dis := r.dis
  len := r.len
  tb := r.tb
  nt := r.nt
theorem Rel.unguard {F0 H0 : Hp} {σ0 : St} {env0 : En} (r0 : Rel K C F0 σ0 H0 env0) {p : Addr} {o : HO} (h2 : C.H p = none) (r : Rel K (C.guard p o) F σ H env) : Rel K C F σ H env where
  fh := r.fh
  cf := r.cf
  new := fun a q1 q2 => by
    have q : upd C.H p o a = none := r.new a q1 q2
    by_cases ne : a = p
    · subst ne; exact h2
    · rw [upd_ne ne] at q; exact q
  pres := fun a u q hb => r.pres a u (by show upd C.H p o a = some u; rw [upd_ne (ne_of_none q h2)]; exact q) hb
  bd := fun b hb => ⟨(r.bd b hb).1, (r0.bd b hb).2⟩
  sl := fun i s hs => by
    have q := r.sl i s hs
    cases s with
    | own ds =>
      obtain ⟨p', vs, a1, a2, a3, a4, a5⟩ := q
      have a3 : upd C.H p o p' = none := a3
      refine ⟨p', vs, a1, a2, ?_, a4, a5⟩
      by_cases ne : p' = p
      · subst ne; exact h2
      · rw [upd_ne ne] at a3; exact a3
    | obj ob =>
      obtain ⟨p', a1, a2, a3, a4⟩ := q
      have a3 : upd C.H p o p' = none := a3
      refine ⟨p', a1, a2, ?_, a4⟩
      by_cases ne : p' = p
      · subst ne; exact h2
      · rw [upd_ne ne] at a3; exact a3
    | no => trivial
    | val d => exact q
    | bor ds => exact q
    | raw v => exact q
    | exc a dd fs => exact q
    | tab T => exact ⟨q.1, fun a ps z => q.2 a ps (by show upd C.H p o a = some (.tbl ps); rw [upd_ne (ne_of_none z h2)]; exact z)⟩
    | lam b ls => exact q
  dis := r.dis
  len := r.len
  tb := r.tb
  nt := r.nt
theorem Rel.guarded {p : Addr} {o : HO} (r0 : ∀ b ∈ C.B, C.H b ≠ none) (h2 : C.H p = none) (r : Rel K (C.guard p o) F σ H env) : H p = some o :=
  r.pres p o upd_same fun hb => r0 p hb h2
end
end Pf
/-! part Pf2 -/
set_option Elab.async false
set_option linter.all false
set_option maxRecDepth 100000
set_option maxHeartbeats 2000000
namespace Pf
open PySem PySem.Spec L2 Evl
structure Xc where
  cls : Str
  fs : Option (List (Str × PyData))
abbrev Rs (α : Type) := Option (Except (Xc × En) (α × En))
abbrev M (α : Type) := En → Rs α
def M.ok {α : Type} (a : α) : M α := fun env => some (.ok (a, env))
def M.bd {α β : Type} (m : M α) (f : α → M β) : M β := fun env => match m env with
  | none => none
  | some (.error x) => some (.error x)
  | some (.ok (a, env')) => f a env'
def M.no {α : Type} : M α := fun _ => none
def M.opt {α : Type} (o : Option α) : M α := fun env => match o with
  | none => none
  | some a => some (.ok (a, env))
section
variable (K : PySem.W.Frag) (mg : Str → Option Value)
def XOk (F H : Hp) (cls : Value) (dx : Option Addr) (x : Xc) : Prop := mg x.cls = some cls ∧ match x.fs with
  | none => dx = none
  | some gs => ∃ d fs, dx = some d ∧ F d = some (.xd fs) ∧ FsOk K F fs gs
abbrev OkR (α β : Type) := Cn → Hp → St → Hp → En → α → β → Prop
def okV : OkR PyData V := fun _ F _ _ _ d v => Dp K F v d
def okB : OkR Bool Bool := fun _ _ _ _ _ a b => b = a
def okA : OkR (List PyData) (List V) := fun _ F _ _ _ ds vs => DpAll K F vs ds
def okO : OkR (List PyData) V := fun C F σ H env ds v => ∃ p vs, v = .ref p ∧ F p = none ∧ C.H p = none ∧ H p = some (.lst vs) ∧ DpAll K F vs ds ∧ ∀ i, ¬ Owned σ env i p
def dkI (D : List (Int × Int)) : List (Key × V) := D.map fun p => (Sum.inl p.1, V.int p.2)
def okK : OkR (List (Int × Int)) V := fun C F σ H env D v => ∃ p, v = .ref p ∧ F p = none ∧ C.H p = none ∧ H p = some (.dK (dkI D)) ∧ ∀ i, ¬ Owned σ env i p
def okPr : OkR (PyData × List PyData) V := fun C F σ H env z v => ∃ t l ob vs v0, v = .ref t ∧ F t = none ∧ C.H t = none ∧ H t = some (.frz ob (.tup [v0, .ref l])) ∧ Dp K F v0 z.1 ∧ F l = none ∧ C.H l = none ∧ H l = some (.lst vs) ∧ DpAll K F vs z.2 ∧ (∀ i, ¬ Owned σ env i l) ∧ ∀ i, ¬ Owned σ env i t
def After {α β : Type} (ok : OkR α β) (W : WX) (C : Cn) (F : Hp) (σ : St) (r : Rs α) (Q : β → Hp → Prop) : Prop := match r with
  | none => False
  | some (.ok (a, env')) => ∀ b F' H', Rel K C F' σ H' env' → Ex F F' → ok C F' σ H' env' a b → Q b H'
  | some (.error (x, env')) => ∀ F' H' cls dx, Rel K C F' σ H' env' → Ex F F' → XOk K mg F' H' cls dx x → W cls dx σ H'
def tG {α β : Type} (ok : OkR α β) (W : WX) (g : M α) : St → Hp → (β → Hp → Prop) → Prop := fun σ H Q =>
  ∃ C F env, Rel K C F σ H env ∧ After K mg ok W C F σ (g env) Q
end
abbrev SG {α : Type} (X : Cx) (ok : OkR α V) (W : WX) (e : Expr) (g : M α) : Prop := PE X e (tG X.K X.mg ok W g)
abbrev SV (X : Cx) (W : WX) (e : Expr) (g : M PyData) : Prop := PE X e (tG X.K X.mg (okV X.K) W g)
abbrev SO (X : Cx) (W : WX) (e : Expr) (g : M (List PyData)) : Prop := PE X e (tG X.K X.mg (okO X.K) W g)
abbrev ST (X : Cx) (W : WX) (e : Expr) (g : M Bool) : Prop := PT X e (tG X.K X.mg okB W g)
abbrev SW (X : Cx) (W : WX) (e : Expr) (g : M Bool) : Prop := PW X e (tG X.K X.mg okB W g)
abbrev SA (X : Cx) (W : WX) (es : List Expr) (g : M (List PyData)) : Prop := PA X es (tG X.K X.mg (okA X.K) W g)
section
variable {X : Cx} {t t' : TE} {u u' : TT} {a a' : TA} {e : Expr} {es : List Expr}
theorem pe_imp (h : PE X e t) (k : ∀ σ H Q, t' σ H Q → t σ H Q) : PE X e t' := ⟨fun pins s σ H Q I q => h.run pins s σ H Q I (k σ H Q q)⟩
theorem pt_imp (h : PT X e u) (k : ∀ σ H Q, u' σ H Q → u σ H Q) : PT X e u' := ⟨fun pins s σ H Q I q => h.run pins s σ H Q I (k σ H Q q)⟩
theorem pw_imp (h : PW X e u) (k : ∀ σ H Q, u' σ H Q → u σ H Q) : PW X e u' := ⟨fun wh pins s σ H Q I q => h.run wh pins s σ H Q I (k σ H Q q)⟩
theorem pa_imp (h : PA X es a) (k : ∀ σ H Q, a' σ H Q → a σ H Q) : PA X es a' := ⟨fun pos pins s σ H Q I q => h.run pos pins s σ H Q I (k σ H Q q)⟩
end
section
variable {K : PySem.W.Frag} {mg : Str → Option Value} {W : WX} {σ : St} {H : Hp} {C : Cn} {F F' : Hp} {env : En} {α β γ δ : Type} {ok : OkR α β} {ok' : OkR γ δ}
theorem After.up {r : Rs α} {Q : β → Hp → Prop} (h : After K mg ok W C F σ r Q) (e : Ex F F') : After K mg ok W C F' σ r Q := by
  cases r with
  | none => exact h
  | some r =>
    cases r with
    | error x => obtain ⟨x, env'⟩ := x; exact fun F2 H2 cls dx R e2 => h F2 H2 cls dx R (e.trans e2)
    | ok y => obtain ⟨y, env'⟩ := y; exact fun b F2 H2 R e2 => h b F2 H2 R (e.trans e2)
theorem tG_bd' {C' : Cn} {g : M α} {f : α → M γ} {Q : δ → Hp → Prop} {Q1 : β → Hp → Prop} (R : Rel K C' F σ H env) (back : ∀ F' H' env', Rel K C' F' σ H' env' → Rel K C F' σ H' env')
    (h : After K mg ok' W C F σ (M.bd g f env) Q)
    (k : ∀ d env' b F' H', Rel K C' F' σ H' env' → Ex F F' → ok C' F' σ H' env' d b → After K mg ok' W C F' σ (f d env') Q → Q1 b H') : tG K mg ok W g σ H Q1 := by
  refine ⟨C', F, env, R, ?_⟩
  unfold M.bd at h
  cases q : g env with
  | none => rw [q] at h; exact h
  | some r =>
    rw [q] at h
    cases r with
    | error x => obtain ⟨x, env'⟩ := x; exact fun F' H' cls dx R' => h F' H' cls dx (back _ _ _ R')
    | ok y =>
      obtain ⟨d, env'⟩ := y
      exact fun b F' H' R' e o => k d env' b F' H' R' e o (After.up h e)
theorem tG_bd {g : M α} {f : α → M γ} {Q : δ → Hp → Prop} {Q1 : β → Hp → Prop} (R : Rel K C F σ H env) (h : After K mg ok' W C F σ (M.bd g f env) Q)
    (k : ∀ d env' b F' H', Rel K C F' σ H' env' → Ex F F' → ok C F' σ H' env' d b → After K mg ok' W C F' σ (f d env') Q → Q1 b H') : tG K mg ok W g σ H Q1 :=
  tG_bd' R (fun _ _ _ r => r) h k
theorem aft {a : α} {Q : β → Hp → Prop} {b : β} (h : After K mg ok W C F σ (M.ok a env) Q) (R : Rel K C F σ H env) (o : ok C F σ H env a b) : Q b H := h b F H R (Ex.refl F) o
theorem aft' {a : α} {H' : Hp} {Q : β → Hp → Prop} {b : β} (h : After K mg ok W C F σ (M.ok a env) Q) (R : Rel K C F' σ H' env) (e : Ex F F') (o : ok C F' σ H' env a b) : Q b H' := h b F' H' R e o
theorem After.of_opt {o : Option α} {Q : β → Hp → Prop} (h : After K mg ok W C F σ (M.opt o env) Q) : ∃ a, o = some a ∧ After K mg ok W C F σ (M.ok a env) Q := by
  cases o with
  | none => exact h.elim
  | some a => exact ⟨a, rfl, h⟩
end
def gC (d : PyData) : M PyData := M.ok d
def gN (i : Nat) : M PyData := fun env => match env[i]? with
  | some (.val d) => some (.ok (d, env))
  | some (.own ds) => some (.ok (.list ds, env.set i (.val (.list ds))))
  | _ => none
def gNO (i : Nat) : M (List PyData) := fun env => match env[i]? with
  | some (.own ds) => some (.ok (ds, env.set i .no))
  | _ => none
section
variable {K : PySem.W.Frag} {C : Cn} {F : Hp} {σ : St} {H : Hp} {env : En} {i : Nat} {p : Addr} {s : Sl}
theorem set_at {l : En} {i j : Nat} {s s' : Sl} (h : (l.set i s)[j]? = some s') : (j = i ∧ s' = s ∧ i < l.length) ∨ (j ≠ i ∧ l[j]? = some s') := by
  by_cases e : j = i
  · subst e
    by_cases q : j < l.length
    · rw [List.getElem?_set_self q] at h; exact .inl ⟨rfl, (Option.some.inj h).symm, q⟩
    · rw [List.getElem?_eq_none (by simpa using q)] at h; cases h
  · rw [List.getElem?_set_ne (Ne.symm e)] at h; exact .inr ⟨e, h⟩
theorem Rel.slot (r : Rel K C F σ H env) (s : Sl) (hs : isOwn s = false) (ok : SlOk K C F H σ[i]? s) : Rel K C F σ H (env.set i s) where
  fh := r.fh
  cf := r.cf
  new := r.new
  pres := r.pres
  bd := r.bd
  sl := fun j s' h => by
    rcases set_at h with ⟨rfl, rfl, _⟩ | ⟨ne, h⟩
    · exact ok
    · exact r.sl j s' h
  dis := fun j k q h1 h2 => by
    obtain ⟨s1, e1, o1, a1⟩ := h1
    obtain ⟨s2, e2, o2, a2⟩ := h2
    rcases set_at e1 with ⟨rfl, rfl, _⟩ | ⟨ne1, e1⟩
    · rw [hs] at o1; cases o1
    · rcases set_at e2 with ⟨rfl, rfl, _⟩ | ⟨ne2, e2⟩
      · rw [hs] at o2; cases o2
      · exact r.dis j k q ⟨s1, e1, o1, a1⟩ ⟨s2, e2, o2, a2⟩
  len := by rw [List.length_set]; exact r.len
  tb := r.tb
  nt := r.nt
theorem Rel.freeze {ds : List PyData} (r : Rel K C F σ H env) (h : env[i]? = some (.own ds)) :
    ∃ p vs, σ[i]? = some (some (.ref p)) ∧ Ex F (upd F p (.lst vs)) ∧ Dp K (upd F p (.lst vs)) (.ref p) (.list ds) ∧ Rel K C (upd F p (.lst vs)) σ H (env.set i (.val (.list ds))) := by
  obtain ⟨p, vs, h1, h2, h3, h4, h5⟩ := r.sl i _ h
  have ex : Ex F (upd F p (.lst vs)) := Ex.new h2
  have dp : Dp K (upd F p (.lst vs)) (.ref p) (.list ds) := .lst (SqL.of upd_same) (dps_mono ex h5)
  refine ⟨p, vs, h1, ex, dp, ?_⟩
  have nb : ∀ j, j ≠ i → ¬ Owned σ env j p := fun j ne o => ne (r.dis j i p o ⟨_, h, rfl, h1⟩)
  exact {
    fh := fun a o q => by
      by_cases ha : a = p
      · subst ha; rw [upd_same] at q; cases q; exact h4
      · rw [upd_ne ha] at q; exact r.fh a o q
    cf := r.cf.trans ex
    new := fun a q1 q2 => by
      by_cases ha : a = p
      · subst ha; exact h3
      · rw [upd_ne ha] at q2; exact r.new a q1 q2
    pres := r.pres
    bd := r.bd
    sl := fun j s hj => by
      rcases set_at hj with ⟨rfl, rfl, _⟩ | ⟨ne, hj⟩
      · exact ⟨_, h1, dp⟩
      · have q := r.sl j s hj
        cases s with
        | no => trivial
        | val d => obtain ⟨v, a1, a2⟩ := q; exact ⟨v, a1, dp_mono ex a2⟩
        | own es =>
          obtain ⟨p', ws, a1, a2, a3, a4, a5⟩ := q
          have np : p' ≠ p := fun e => nb j ne ⟨_, hj, rfl, by rw [← e]; exact a1⟩
          exact ⟨p', ws, a1, by rw [upd_ne np]; exact a2, a3, a4, dps_mono ex a5⟩
        | bor es =>
          obtain ⟨p', ws, a1, a2, a3, a4, a5⟩ := q
          have np : p' ≠ p := fun e => nb j ne ⟨_, hj, rfl, by rw [← e]; exact a1⟩
          exact ⟨p', ws, a1, by rw [upd_ne np]; exact a2, a3, a4, dps_mono ex a5⟩
        | obj ob =>
          obtain ⟨p', a1, a2, a3, a4⟩ := q
          have np : p' ≠ p := fun e => nb j ne ⟨_, hj, rfl, by rw [← e]; exact a1⟩
          exact ⟨p', a1, by rw [upd_ne np]; exact a2, a3, a4⟩
        | raw v => exact q
        | exc a dd fs => obtain ⟨z1, z2, z3, z4⟩ := q; exact ⟨z1, z2, ex _ _ z3, fs_mono ex z4⟩
        | tab T => exact q
        | lam b ls => exact lamSl_mono ex (codeKept_refl _) q
    dis := fun j k q o1 o2 => by
      obtain ⟨s1, e1, o1, a1⟩ := o1
      obtain ⟨s2, e2, o2, a2⟩ := o2
      rcases set_at e1 with ⟨rfl, rfl, _⟩ | ⟨ne1, e1⟩
      · cases o1
      · rcases set_at e2 with ⟨rfl, rfl, _⟩ | ⟨ne2, e2⟩
        · cases o2
        · exact r.dis j k q ⟨s1, e1, o1, a1⟩ ⟨s2, e2, o2, a2⟩
    len := by rw [List.length_set]; exact r.len
    tb := r.tb
    nt := r.nt.upd (by trivial) }
end
section
variable {X : Cx} {W : WX}
theorem sv_n {x : Str} {pos : Pos} (i : Nat) (hN : X.N[i]? = some x := by rfl) (hv : Vis X.env.scope x := by first | exact Or.inl rfl | exact Or.inr (Or.inl rfl) | exact Or.inr (Or.inr rfl))
    (hd : (x == ("__debug__" : Str)) = false := by decide) (hcd : (x == ("__classdict__" : Str)) = false := by decide) : SV X W (.Name x pos) (gN i) :=
  pe_imp (pe_var hN hv hd hcd) fun σ H Q ⟨C, F, env, R, h⟩ => by
    unfold gN at h
    cases q : env[i]? with
    | none => rw [q] at h; exact h.elim
    | some s =>
      rw [q] at h
      cases s with
      | no => exact h.elim
      | val d =>
        obtain ⟨v, a1, a2⟩ := R.sl i _ q
        exact ⟨v, a1, h v F H R (Ex.refl F) a2⟩
      | own ds =>
        obtain ⟨p, vs, a1, ex, dp, R'⟩ := R.freeze q
        exact ⟨.ref p, a1, h _ _ H R' ex dp⟩
      | bor ds => exact h.elim
      | obj ob => exact h.elim
      | raw v => exact h.elim
      | exc a dd fs => exact h.elim
      | tab T => exact h.elim
      | lam b ls => exact h.elim
theorem so_n {x : Str} {pos : Pos} (i : Nat) (hN : X.N[i]? = some x := by rfl) (hv : Vis X.env.scope x := by first | exact Or.inl rfl | exact Or.inr (Or.inl rfl) | exact Or.inr (Or.inr rfl))
    (hd : (x == ("__debug__" : Str)) = false := by decide) (hcd : (x == ("__classdict__" : Str)) = false := by decide) : SO X W (.Name x pos) (gNO i) :=
  pe_imp (pe_var hN hv hd hcd) fun σ H Q ⟨C, F, env, R, h⟩ => by
    unfold gNO at h
    cases q : env[i]? with
    | none => rw [q] at h; exact h.elim
    | some s =>
      rw [q] at h
      cases s with
      | own ds =>
        obtain ⟨p, vs, a1, a2, a3, a4, a5⟩ := R.sl i _ q
        refine ⟨.ref p, a1, h _ F H (R.slot (i := i) .no rfl trivial) (Ex.refl F) ⟨p, vs, rfl, a2, a3, a4, a5, fun j o => ?_⟩⟩
        obtain ⟨s, e1, o1, b1⟩ := o
        rcases set_at e1 with ⟨rfl, rfl, _⟩ | ⟨ne, e1⟩
        · cases o1
        · exact ne (R.dis j i p ⟨s, e1, o1, b1⟩ ⟨_, q, rfl, a1⟩)
      | _ => exact h.elim
theorem sv_int {i : Int} {j pos} : SV X W (.Constant (.int i) j pos) (gC (.int i)) := pe_imp pe_int fun _ _ _ ⟨_, _, _, R, h⟩ => h _ _ _ R (Ex.refl _) (.int i)
theorem sv_str {x : Str} {j pos} : SV X W (.Constant (.str x) j pos) (gC (.str x)) := pe_imp pe_str fun _ _ _ ⟨_, _, _, R, h⟩ => h _ _ _ R (Ex.refl _) (.str x)
theorem sv_bl {b : Bool} {j pos} : SV X W (.Constant (.bool b) j pos) (gC (.bool b)) := pe_imp pe_bl fun _ _ _ ⟨_, _, _, R, h⟩ => h _ _ _ R (Ex.refl _) (.bl b)
theorem sv_non {j pos} : SV X W (.Constant .none j pos) (gC .none) := pe_imp pe_non fun _ _ _ ⟨_, _, _, R, h⟩ => h _ _ _ R (Ex.refl _) .non
end
end Pf
/-! part Pf3 -/
set_option Elab.async false
set_option linter.all false
set_option maxRecDepth 100000
set_option maxHeartbeats 2000000
namespace Pf
open PySem PySem.Spec L2 Evl
def seqD : PyData → Option (List PyData)
  | .list ds => some ds
  | .tuple ds => some ds
  | _ => none
def addD : PyData → PyData → Option PyData
  | .int a, .int b => some (.int (a + b))
  | .str a, .str b => if a.length + b.length ≤ sizeLine then some (.str (a ++ b)) else none
  | .tuple xs, .tuple ys => if xs.length + ys.length ≤ sizeLine then some (.tuple (xs ++ ys)) else none
  | .list xs, .list ys => if xs.length + ys.length ≤ sizeLine then some (.list (xs ++ ys)) else none
  | _, _ => none
def subD : PyData → PyData → Option PyData
  | .int a, .int b => some (.int (a - b))
  | _, _ => none
def mulD : PyData → PyData → Option PyData
  | .int a, .int b => if (-(2 ^ 64) < a ∧ a < 2 ^ 64) ∨ (-(2 ^ 64) < b ∧ b < 2 ^ 64) then some (.int (a * b)) else none
  | _, _ => none
def modD : PyData → PyData → Option PyData
  | .int a, .int b => if b = 0 then none else some (.int (a.fmod b))
  | _, _ => none
def divD : PyData → PyData → Option PyData
  | .int a, .int b => if b ≠ 0 ∧ b.natAbs < 1073741824 then some (.int (a.fdiv b)) else none
  | _, _ => none
def powD : PyData → PyData → Option PyData
  | .int a, .int b => if 0 ≤ b ∧ b ≤ 1000000 ∧ a.natAbs < 2 ^ 64 then some (.int (a ^ b.toNat)) else none
  | _, _ => none
def negD : PyData → Option PyData
  | .int a => some (.int (-a))
  | _ => none
def flatD : PyData → Bool
  | .none => true
  | .bool _ => true
  | .int _ => true
  | .str _ => true
  | _ => false
def cmpD (p : Int → Int → Bool) : PyData → PyData → Option Bool
  | .int a, .int b => some (p a b)
  | _, _ => none
def eqD (a b : PyData) : Option Bool := if SeqAt.shaped a = true ∧ SeqAt.shaped b = true then some (PyData.eqv a b) else none
def neD (a b : PyData) : Option Bool := if SeqAt.shaped a = true ∧ SeqAt.shaped b = true then some (!PyData.eqv a b) else none
def inD (x ys : PyData) : Option Bool := match seqD ys with
  | some ys => if flatD x = true ∧ ys.all flatD = true then some (ys.any fun y => PyData.eqv y x) else none
  | none => none
def isNoneD : PyData → Bool
  | .none => true
  | _ => false
def tyD : PyData → String
  | .none => "NoneType"
  | .bool _ => "bool"
  | .int _ => "int"
  | .str _ => "str"
  | .list _ => "list"
  | .tuple _ => "tuple"
  | .dict _ => "dict"
def truD : PyData → Option Bool
  | .none => some false
  | .bool b => some b
  | .int i => some (i != 0)
  | .str y => if y.length ≤ sizeLine then some ((y.length : Int) != 0) else none
  | .list xs => some (!xs.isEmpty)
  | .tuple xs => some (!xs.isEmpty)
  | .dict _ => none
def atD : PyData → PyData → Option PyData
  | .list xs, .int i => atI xs i
  | .tuple xs, .int i => atI xs i
  | .str z, .int i => if z.length ≤ sizeLine then (atI z.cps.toList i).map fun c => .str ⟨#[c]⟩ else none
  | _, _ => none
def lenD : PyData → Option PyData
  | .list xs => some (.int xs.length)
  | .tuple xs => some (.int xs.length)
  | .str z => if z.length ≤ sizeLine then some (.int z.length) else none
  | _ => none
def cutD (ds : List PyData) (lo hi : Option Int) : List PyData := (ds.drop (HT.sIx ds.length 0 lo)).take (HT.sIx ds.length ds.length hi - HT.sIx ds.length 0 lo)
section
variable {K : PySem.W.Frag} {F H : Hp} {v w : V} {d e : PyData}
theorem dp_flat (h : Dp K H v d) (f : flatD d = true) : flatV v = true := by
  cases h <;> first | rfl | cases f
theorem dps_flat : ∀ {vs : List V} {ds : List PyData}, DpAll K H vs ds → ds.all flatD = true → vs.all flatV = true
  | _, _, .nil, _ => rfl
  | _, _, .cons a r, f => by
    simp only [List.all_cons, Bool.and_eq_true] at f ⊢
    exact ⟨dp_flat a f.1, dps_flat r f.2⟩
theorem eqV_of (h : Dp K H v d) (h' : Dp K H w e) (f : flatD d = true) (f' : flatD e = true) : eqV v w = PyData.eqv d e := by
  cases h <;> cases h' <;> first | rfl | cases f | cases f' | (simp only [eqV, PyData.eqv])
theorem any_of (h' : Dp K H w e) (f' : flatD e = true) : ∀ {vs : List V} {ds : List PyData}, DpAll K H vs ds → ds.all flatD = true → inV w vs = ds.any fun y => PyData.eqv y e
  | _, _, .nil, _ => rfl
  | _, _, .cons a r, f => by
    simp only [List.all_cons, Bool.and_eq_true] at f
    unfold inV
    rw [List.any_cons, List.any_cons, eqV_of a h' f.1 f']
    have := any_of h' f' r f.2
    unfold inV at this
    rw [this]
theorem dp_seq {ds : List PyData} (h : Dp K H v d) (s : seqD d = some ds) : ∃ p vs, v = .ref p ∧ (SqL K H p vs ∨ SqT K H p vs) ∧ DpAll K H vs ds := by
  cases h with
  | lst a b => cases s; exact ⟨_, _, rfl, .inl a, b⟩
  | tup a b => cases s; exact ⟨_, _, rfl, .inr a, b⟩
  | _ => cases s
theorem atI_dps {vs : List V} {ds : List PyData} {i : Int} (h : DpAll K H vs ds) (e : atI ds i = some d) : ∃ v, atI vs i = some v ∧ Dp K H v d := by
  unfold atI at e ⊢
  rw [h.len]
  cases q : ixN ds.length i with
  | none => rw [q] at e; cases e
  | some j =>
    rw [q] at e
    exact h.get e
theorem cut_dps {vs : List V} {ds : List PyData} (lo hi : Option Int) (h : DpAll K H vs ds) : DpAll K H (cutV vs lo hi) (cutD ds lo hi) := by
  unfold cutV cutD
  rw [h.len]
  exact (h.drop _).take _
end
section
variable {X : Cx} {W : WX} {a b c : Expr} {ga gb : M PyData} {pos : Pos} {α : Type}
theorem sg_op {op : Operator} {r : R2} {ok : OkR α V} {f : PyData → PyData → M α} (ho : OpR X (binaryOp op) r) (ha : SV X W a ga) (hb : SV X W b gb)
    (hr : ∀ C F σ H env v w d e Q, Rel X.K C F σ H env → Dp X.K F v d → Dp X.K F w e → After X.K X.mg ok W C F σ (f d e env) Q → r v w H Q) :
    SG X ok W (.BinOp a op b pos) (M.bd ga fun d => M.bd gb fun e => f d e) :=
  pe_imp (pe_op ho ha hb) fun σ H Q ⟨C, F, env, R, h⟩ =>
    tG_bd R h fun d env1 v F1 H1 R1 e1 o1 h1 => tG_bd R1 h1 fun e env2 w F2 H2 R2 e2 o2 h2 => hr C F2 σ H2 env2 v w d e Q R2 (dp_mono e2 o1) o2 h2
theorem sv_add (ha : SV X W a ga) (hb : SV X W b gb) : SV X W (.BinOp a .Add b pos) (M.bd ga fun d => M.bd gb fun e => M.opt (addD d e)) :=
  sg_op (op_add.or (op_add_str.or (op_catF.or op_catL))) ha hb fun C F σ H env v w d e Q R hv hw h => by
    obtain ⟨z, hz, h⟩ := h.of_opt
    unfold addD at hz
    split at hz
    · cases hv; cases hw; cases hz
      exact .inl ⟨_, _, rfl, rfl, aft h R (.int _)⟩
    · split at hz
      · rename_i hl
        cases hv; cases hw; cases hz
        exact .inr (.inl ⟨_, _, rfl, rfl, hl, aft h R (.str _)⟩)
      · cases hz
    · split at hz
      · rename_i xs ys hl
        cases hv with
        | tup s1 r1 =>
          cases hw with
          | tup s2 r2 =>
            cases hz
            have l1 := r1.len
            have l2 := r2.len
            refine .inr (.inr (.inl ⟨_, _, _, _, rfl, rfl, ex_t R.fh s1, ex_t R.fh s2, by omega, fun e1 => ?_, fun _ e2 => ?_, fun _ _ p ob hob hp => ?_⟩))
            · subst e1
              cases r1
              exact aft h R (.tup s2 r2)
            · subst e2
              cases r2
              simp only [List.append_nil] at h
              exact aft h R (.tup s1 r1)
            · have hf := (R.fresh hp).1
              exact aft' h (R.newF hp hob) (Ex.new hf) (.tup (.inl (.inr ⟨ob, upd_same⟩)) (dps_mono (Ex.new hf) (r1.app r2)))
      · cases hz
    · split at hz
      · rename_i xs ys hl
        cases hv with
        | lst s1 r1 =>
          cases hw with
          | lst s2 r2 =>
            cases hz
            have l1 := r1.len
            have l2 := r2.len
            refine .inr (.inr (.inr ⟨_, _, _, _, rfl, rfl, ex_l R.fh s1, ex_l R.fh s2, by omega, fun p hp => ?_⟩))
            have hf := (R.fresh hp).1
            exact aft' h (R.newF hp) (Ex.new hf) (.lst (SqL.of upd_same) (dps_mono (Ex.new hf) (r1.app r2)))
      · cases hz
    · cases hz
theorem sv_ints {op : Operator} {Cc : Int → Int → Prop} {g : Int → Int → Int} {f : PyData → PyData → Option PyData} (ho : OpR X (binaryOp op) (rI Cc fun i j => .int (g i j)))
    (hf : ∀ d e z, f d e = some z → ∃ i j, d = .int i ∧ e = .int j ∧ Cc i j ∧ z = .int (g i j)) (ha : SV X W a ga) (hb : SV X W b gb) :
    SV X W (.BinOp a op b pos) (M.bd ga fun d => M.bd gb fun e => M.opt (f d e)) :=
  sg_op ho ha hb fun C F σ H env v w d e Q R hv hw h => by
    obtain ⟨z, hz, h⟩ := h.of_opt
    obtain ⟨i, j, rfl, rfl, hc, rfl⟩ := hf d e z hz
    cases hv; cases hw
    exact ⟨_, _, rfl, rfl, hc, aft h R (.int _)⟩
theorem op_subC : OpR X (binaryOp .Sub) (rI (fun _ _ => True) fun i j => .int (i - j)) := fun pins s σ H x y v u Q I r1 r2 ⟨i, j, e1, e2, _, q⟩ => op_sub pins s σ H x y v u Q I r1 r2 ⟨i, j, e1, e2, q⟩
theorem sv_sub (ha : SV X W a ga) (hb : SV X W b gb) : SV X W (.BinOp a .Sub b pos) (M.bd ga fun d => M.bd gb fun e => M.opt (subD d e)) :=
  sv_ints op_subC (fun d e z h => by unfold subD at h; split at h <;> cases h; exact ⟨_, _, rfl, rfl, trivial, rfl⟩) ha hb
theorem sv_mul (ha : SV X W a ga) (hb : SV X W b gb) : SV X W (.BinOp a .Mult b pos) (M.bd ga fun d => M.bd gb fun e => M.opt (mulD d e)) :=
  sv_ints op_mul (fun d e z h => by
    unfold mulD at h
    split at h
    · split at h
      · rename_i hc; cases h; exact ⟨_, _, rfl, rfl, hc, rfl⟩
      · cases h
    · cases h) ha hb
theorem sv_mod (ha : SV X W a ga) (hb : SV X W b gb) : SV X W (.BinOp a .Mod b pos) (M.bd ga fun d => M.bd gb fun e => M.opt (modD d e)) :=
  sv_ints op_modN (fun d e z h => by
    unfold modD at h
    split at h
    · split at h
      · cases h
      · rename_i hc; cases h; exact ⟨_, _, rfl, rfl, hc, rfl⟩
    · cases h) ha hb
theorem sv_div (ha : SV X W a ga) (hb : SV X W b gb) : SV X W (.BinOp a .FloorDiv b pos) (M.bd ga fun d => M.bd gb fun e => M.opt (divD d e)) :=
  sv_ints op_fdivN (fun d e z h => by
    unfold divD at h
    split at h
    · split at h
      · rename_i hc; cases h; exact ⟨_, _, rfl, rfl, hc, rfl⟩
      · cases h
    · cases h) ha hb
theorem sv_pow (ha : SV X W a ga) (hb : SV X W b gb) : SV X W (.BinOp a .Pow b pos) (M.bd ga fun d => M.bd gb fun e => M.opt (powD d e)) :=
  sv_ints op_pow (fun d e z h => by
    unfold powD at h
    split at h
    · split at h
      · rename_i hc; cases h; exact ⟨_, _, rfl, rfl, hc, rfl⟩
      · cases h
    · cases h) ha hb
theorem sv_neg (ha : SV X W a ga) : SV X W (.UnaryOp .USub a pos) (M.bd ga fun d => M.opt (negD d)) :=
  pe_imp (pe_un un_neg ha) fun σ H Q ⟨C, F, env, R, h⟩ => tG_bd R h fun d env1 v F1 H1 R1 e1 o1 h1 => by
    obtain ⟨z, hz, h1⟩ := h1.of_opt
    unfold negD at hz
    split at hz <;> cases hz
    cases o1
    exact ⟨_, rfl, aft h1 R1 (.int _)⟩
def CmpR (X : Cx) (op : CmpOp) (f : PyData → PyData → Option Bool) : Prop := ∃ r : R2, OpR X (compareOp op) r ∧
  ∀ C F σ H env v w d e b Q, Rel X.K C F σ H env → Dp X.K F v d → Dp X.K F w e → f d e = some b → Q (.bl b) H → r v w H Q
theorem cm_ints {op : CmpOp} {p : Int → Int → Bool} (ho : OpR X (compareOp op) (rI0 fun i j => .bl (p i j))) : CmpR X op (cmpD p) :=
  ⟨_, ho, fun C F σ H env v w d e b Q R hv hw h q => by
    unfold cmpD at h
    split at h <;> cases h
    cases hv; cases hw
    exact ⟨_, _, rfl, rfl, q⟩⟩
theorem cm_lt : CmpR X .Lt (cmpD fun i j => decide (i < j)) := cm_ints op_lt
theorem cm_le : CmpR X .LtE (cmpD fun i j => decide (i ≤ j)) := cm_ints op_le
theorem cm_gt : CmpR X .Gt (cmpD fun i j => decide (j < i)) := cm_ints op_gt
theorem cm_ge : CmpR X .GtE (cmpD fun i j => decide (j ≤ i)) := cm_ints op_ge
theorem cm_eq (hu : X.A.units + 64 < cLine) : CmpR X .Eq eqD :=
  ⟨_, op_eqD hu, fun C F σ H env v w d e b Q R hv hw h q => by
    unfold eqD at h
    split at h
    · rename_i hs; cases h
      exact ⟨d, e, dp_mono R.fh hv, dp_mono R.fh hw, hs.1, hs.2, q⟩
    · cases h⟩
theorem cm_ne (hu : X.A.units + 64 < cLine) : CmpR X .NotEq neD :=
  ⟨_, op_neD hu, fun C F σ H env v w d e b Q R hv hw h q => by
    unfold neD at h
    split at h
    · rename_i hs; cases h
      exact ⟨d, e, dp_mono R.fh hv, dp_mono R.fh hw, hs.1, hs.2, q⟩
    · cases h⟩
theorem in_facts {K : PySem.W.Frag} {H : Hp} {v w : V} {d e : PyData} {b : Bool} (hv : Dp K H v d) (hw : Dp K H w e) (h : inD d e = some b) :
    ∃ p xs, w = .ref p ∧ (SqL K H p xs ∨ SqT K H p xs) ∧ flatV v = true ∧ xs.all flatV = true ∧ inV v xs = b := by
  unfold inD at h
  split at h
  · rename_i ys hs
    split at h
    · rename_i hf
      cases h
      obtain ⟨p, vs, rfl, hq, hr⟩ := dp_seq hw hs
      exact ⟨p, vs, rfl, hq, dp_flat hv hf.1, dps_flat hr hf.2, any_of hv hf.1 hr hf.2⟩
    · cases h
  · cases h
theorem cm_in : CmpR X .In inD :=
  ⟨_, op_in_seq, fun C F σ H env v w d e b Q R hv hw h q => by
    obtain ⟨p, xs, rfl, h1, h2, h3, rfl⟩ := in_facts (dp_mono R.fh hv) (dp_mono R.fh hw) h
    exact ⟨p, xs, rfl, h1, h2, h3, q⟩⟩
def ninD (d e : PyData) : Option Bool := match inD d e with
  | none => none
  | some b => some (!b)
def isD (d e : PyData) : Option Bool := match e with
  | .none => some (isNoneD d)
  | _ => none
def isnD (d e : PyData) : Option Bool := match e with
  | .none => some (!isNoneD d)
  | _ => none
theorem dp_none {K : PySem.W.Frag} {H : Hp} {v : V} {d : PyData} (h : Dp K H v d) : decide (v = .non) = isNoneD d := by
  cases h <;> simp [isNoneD]
theorem cm_is : CmpR X .Is isD :=
  ⟨_, op_isN, fun C F σ H env v w d e b Q R hv hw h q => by
    unfold isD at h
    split at h <;> cases h
    cases hw
    exact ⟨rfl, by rw [dp_none hv]; exact q⟩⟩
theorem cm_isn : CmpR X .IsNot isnD :=
  ⟨_, op_notN, fun C F σ H env v w d e b Q R hv hw h q => by
    unfold isnD at h
    split at h <;> cases h
    cases hw
    exact ⟨rfl, by rw [dp_none hv]; exact q⟩⟩
theorem sv_cmp {op : CmpOp} {f : PyData → PyData → Option Bool} (hc : CmpR X op f) (ha : SV X W a ga) (hb : SV X W b gb) (hm : behindInMarks op b = false := by rfl) :
    SV X W (.Compare a [op] [b] pos) (M.bd ga fun d => M.bd gb fun e => M.opt ((f d e).map .bool)) := by
  obtain ⟨r, ho, hr⟩ := hc
  refine pe_imp (pe_cmpR ho ha hb hm) fun σ H Q ⟨C, F, env, R, h⟩ => ?_
  refine tG_bd R h fun d env1 v F1 H1 R1 e1 o1 h1 => tG_bd R1 h1 fun e env2 w F2 H2 R2 e2 o2 h2 => ?_
  obtain ⟨z, hz, h2⟩ := h2.of_opt
  cases hb : f d e with
  | none => rw [hb] at hz; cases hz
  | some k => rw [hb] at hz; cases hz; exact hr C F2 σ H2 env2 v w d e k Q R2 (dp_mono e2 o1) o2 hb (aft h2 R2 (.bl k))
theorem st_cmp {op : CmpOp} {f : PyData → PyData → Option Bool} (hc : CmpR X op f) (ha : SV X W a ga) (hb : SV X W b gb) (hm : behindInMarks op b = false := by rfl) :
    ST X W (.Compare a [op] [b] pos) (M.bd ga fun d => M.bd gb fun e => M.opt (f d e)) := by
  obtain ⟨r, ho, hr⟩ := hc
  refine pt_imp (pt_cmpR ho ha hb hm) fun σ H Q ⟨C, F, env, R, h⟩ => ?_
  refine tG_bd R h fun d env1 v F1 H1 R1 e1 o1 h1 => tG_bd R1 h1 fun e env2 w F2 H2 R2 e2 o2 h2 => ?_
  obtain ⟨k, hb, h2⟩ := h2.of_opt
  exact hr C F2 σ H2 env2 v w d e k _ R2 (dp_mono e2 o1) o2 hb ⟨k, rfl, aft h2 R2 rfl⟩
end
end Pf
/-! part Pf4 -/
set_option Elab.async false
set_option linter.all false
set_option maxRecDepth 100000
set_option maxHeartbeats 2000000
namespace Pf
open PySem PySem.Spec L2 Evl
section
variable {X : Cx} {W : WX} {a b c e : Expr} {es rest : List Expr} {ga gb gc : M PyData} {gt : M Bool} {gl : M (List PyData)} {pos : Pos} {α : Type}
theorem tru_of {K : PySem.W.Frag} {H : Hp} {v : V} {d : PyData} {k : Bool} (h : Dp K H v d) (e : truD d = some k) : TruV K v H k := by
  cases h with
  | non => cases e; rfl
  | bl b => cases e; rfl
  | int i => cases e; rfl
  | str x =>
    unfold truD at e
    split at e <;> first | cases e | skip
    all_goals first | (rename_i q; cases q; done) | skip
    split at e
    · rename_i z q hl
      cases e
      cases q
      exact ⟨hl, rfl⟩
    · cases e
  | lst a r => 
    have l := r.len
    cases e
    refine .inl ⟨_, a, ?_⟩
    cases r <;> rfl
  | tup a r =>
    cases e
    refine .inr (.inl ⟨_, a, ?_⟩)
    cases r <;> rfl
theorem st_val (h : SV X W a ga) (he : ∀ whole, isTrue a X.env whole = (do let v ← whole; standAt a.pos; holding [v] (truthy v)) := by intro _; rfl) :
    ST X W a (M.bd ga fun d => M.opt (truD d)) :=
  pt_imp (pt_truth h he) fun σ H Q ⟨C, F, env, R, h⟩ => tG_bd R h fun d env1 v F1 H1 R1 e1 o1 h1 => by
    obtain ⟨k, hk, h1⟩ := h1.of_opt
    exact ⟨k, tru_of (dp_mono R1.fh o1) hk, aft h1 R1 rfl⟩
theorem sv_glob {x : Str} {v : V} {u : Value} {d : PyData} (hm : X.mg x = some u) (r : RelV v u) (hd : ∀ F, Dp X.K F v d) (hg : Gl X x := by rfl) (hdb : (x == ("__debug__" : Str)) = false := by decide) : SV X W (.Name x pos) (gC d) :=
  pe_imp (pe_glob hg hm r hdb) fun σ H Q ⟨C, F, env, R, h⟩ => h _ F H R (Ex.refl F) (hd F)
theorem st_not {gt : M Bool} (h : ST X W a gt) : ST X W (.UnaryOp .Not a pos) (M.bd gt fun b => M.ok (!b)) :=
  pt_imp (pt_not h) fun σ H Q ⟨C, F, env, R, h⟩ => tG_bd R h fun d env1 v F1 H1 R1 e1 o1 h1 => by
    cases o1
    exact aft h1 R1 rfl
def gAndT (ga gb : M Bool) : M Bool := M.bd ga fun b => if b = true then gb else M.ok false
def gOrT (ga gb : M Bool) : M Bool := M.bd ga fun b => if b = true then M.ok true else gb
theorem sw_and1 {g : M Bool} (h : ST X W a g) : SW X W (.BoolOp .And [a] pos) g := pw_and1 h
theorem sw_or1 {g : M Bool} (h : ST X W a g) : SW X W (.BoolOp .Or [a] pos) g := pw_or1 h
theorem sw_and {g g' : M Bool} (h : ST X W a g) (h' : SW X W (.BoolOp .And (b :: rest) pos) g') : SW X W (.BoolOp .And (a :: b :: rest) pos) (gAndT g g') :=
  pw_imp (pw_and h h') fun σ H Q ⟨C, F, env, R, h⟩ => tG_bd R h fun d env1 v F1 H1 R1 e1 o1 h1 => by
    cases o1
    cases d with
    | true => exact ⟨C, F1, env1, R1, h1⟩
    | false => exact aft h1 R1 rfl
theorem sw_or {g g' : M Bool} (h : ST X W a g) (h' : SW X W (.BoolOp .Or (b :: rest) pos) g') : SW X W (.BoolOp .Or (a :: b :: rest) pos) (gOrT g g') :=
  pw_imp (pw_or h h') fun σ H Q ⟨C, F, env, R, h⟩ => tG_bd R h fun d env1 v F1 H1 R1 e1 o1 h1 => by
    cases o1
    cases d with
    | false => exact ⟨C, F1, env1, R1, h1⟩
    | true => exact aft h1 R1 rfl
theorem st_w {g : M Bool} (h : SW X W a g) : ST X W a g := h.pt
def gAnd (ga gb : M PyData) : M PyData := M.bd ga fun d => match truD d with
  | some true => gb
  | some false => M.ok d
  | none => M.no
def gOr (ga gb : M PyData) : M PyData := M.bd ga fun d => match truD d with
  | some true => M.ok d
  | some false => gb
  | none => M.no
theorem sv_one {op} (h : SV X W a ga) : SV X W (.BoolOp op [a] pos) ga := pe_one h
theorem sv_and (h : SV X W a ga) (h' : SV X W (.BoolOp .And (b :: rest) pos) gb) : SV X W (.BoolOp .And (a :: b :: rest) pos) (gAnd ga gb) :=
  pe_imp (pe_andT h h') fun σ H Q ⟨C, F, env, R, h⟩ => tG_bd R h fun d env1 v F1 H1 R1 e1 o1 h1 => by
    cases hd : truD d with
    | none => simp only [hd] at h1; exact h1.elim
    | some k =>
      refine ⟨k, tru_of (dp_mono R1.fh o1) hd, ?_⟩
      cases k with
      | true => simp only [hd] at h1; exact ⟨C, F1, env1, R1, h1⟩
      | false => simp only [hd] at h1; exact aft h1 R1 o1
theorem sv_or (h : SV X W a ga) (h' : SV X W (.BoolOp .Or (b :: rest) pos) gb) : SV X W (.BoolOp .Or (a :: b :: rest) pos) (gOr ga gb) :=
  pe_imp (pe_orT h h') fun σ H Q ⟨C, F, env, R, h⟩ => tG_bd R h fun d env1 v F1 H1 R1 e1 o1 h1 => by
    cases hd : truD d with
    | none => simp only [hd] at h1; exact h1.elim
    | some k =>
      refine ⟨k, tru_of (dp_mono R1.fh o1) hd, ?_⟩
      cases k with
      | false => simp only [hd] at h1; exact ⟨C, F1, env1, R1, h1⟩
      | true => simp only [hd] at h1; exact aft h1 R1 o1
theorem sv_not (h : SV X W a ga) : SV X W (.UnaryOp .Not a pos) (M.bd ga fun d => M.opt ((truD d).map fun b => .bool (!b))) :=
  pe_imp (pe_notT h) fun σ H Q ⟨C, F, env, R, h⟩ => tG_bd R h fun d env1 v F1 H1 R1 e1 o1 h1 => by
    obtain ⟨z, hz, h1⟩ := h1.of_opt
    cases hd : truD d with
    | none => rw [hd] at hz; cases hz
    | some k => rw [hd] at hz; cases hz; exact ⟨k, tru_of (dp_mono R1.fh o1) hd, aft h1 R1 (.bl _)⟩
def gIf {α : Type} (gt : M Bool) (ga gb : M α) : M α := M.bd gt fun b => if b = true then ga else gb
theorem sg_ifE {ok : OkR α V} {g1 g2 : M α} (ht : ST X W c gt) (ha : SG X ok W a g1) (hb : SG X ok W b g2) : SG X ok W (.IfExp c a b pos) (gIf gt g1 g2) :=
  pe_imp (pe_ifExp ht ha hb) fun σ H Q ⟨C, F, env, R, h⟩ => tG_bd R h fun d env1 v F1 H1 R1 e1 o1 h1 => by
    cases o1
    cases d with
    | true => exact ⟨C, F1, env1, R1, h1⟩
    | false => exact ⟨C, F1, env1, R1, h1⟩
def gChain (ga gb gc : M PyData) (f f' : PyData → PyData → Option Bool) : M PyData := M.bd ga fun d => M.bd gb fun e => M.bd (M.opt (f d e)) fun k =>
  if k = true then M.bd gc fun z => M.opt ((f' e z).map .bool) else M.ok (.bool false)
theorem bd_opt {K : PySem.W.Frag} {mg : Str → Option Value} {β γ δ : Type} {C : Cn} {F : Hp} {σ : St} {env : En} {ok : OkR γ δ} {o : Option β} {f : β → M γ} {Q : δ → Hp → Prop} (h : After K mg ok W C F σ (M.bd (M.opt o) f env) Q) : ∃ b, o = some b ∧ After K mg ok W C F σ (f b env) Q := by
  cases o with
  | none => exact h.elim
  | some b => exact ⟨b, rfl, h⟩
theorem sv_chain {op op' : CmpOp} {f f' : PyData → PyData → Option Bool} (h1 : CmpR X op f) (h2 : CmpR X op' f') (ha : SV X W a ga) (hb : SV X W b gb) (hc : SV X W c gc)
    (hm : lastMarks [op, op'] [b, c] = false := by with_unfolding_all rfl) : SV X W (.Compare a [op, op'] [b, c] pos) (gChain ga gb gc f f') := by
  obtain ⟨r, ho, hr⟩ := h1
  obtain ⟨r', ho', hr'⟩ := h2
  refine pe_imp (pe_chain ho ho' ha hb hc hm) fun σ H Q ⟨C, F, env, R, h⟩ => ?_
  refine tG_bd R h fun d env1 v F1 H1 R1 e1 o1 h1 => tG_bd R1 h1 fun e env2 w F2 H2 R2 e2 o2 h2 => ?_
  obtain ⟨k, hk, h2⟩ := bd_opt h2
  refine hr C F2 σ H2 env2 v w d e k _ R2 (dp_mono e2 o1) o2 hk ⟨k, rfl, ?_⟩
  cases k with
  | false => exact aft h2 R2 (.bl _)
  | true =>
    refine tG_bd R2 h2 fun z env3 x F3 H3 R3 e3 o3 h3 => ?_
    obtain ⟨q, hq, h3⟩ := h3.of_opt
    cases hb : f' e z with
    | none => rw [hb] at hq; cases hq
    | some k' => rw [hb] at hq; cases hq; exact hr' C F3 σ H3 env3 w x e z k' Q R3 (dp_mono e3 o2) o3 hb (aft h3 R3 (.bl _))
theorem sa_nil : SA X W [] (M.ok []) := pa_imp pa_nil fun σ H Q ⟨C, F, env, R, h⟩ => aft h R .nil
theorem sa_cons (ha : SV X W e ga) (hr : SA X W es gl) (hs : starEach (e :: es) X.env = (false, eval e X.env) :: starEach es X.env := by rfl) : SA X W (e :: es) (M.bd ga fun d => M.bd gl fun ds => M.ok (d :: ds)) :=
  pa_imp (pa_cons ha hr hs) fun σ H Q ⟨C, F, env, R, h⟩ => tG_bd R h fun d env1 v F1 H1 R1 e1 o1 h1 => tG_bd R1 h1 fun ds env2 vs F2 H2 R2 e2 o2 h2 =>
    aft h2 R2 (.cons (dp_mono e2 o1) o2)
def tupD (ds : List PyData) : Option PyData := if ds.length ≤ 1000 then some (.tuple ds) else none
def lstD (ds : List PyData) : Option (List PyData) := if ds.length ≤ 1000 then some ds else none
theorem sv_tup {x1} (h : SA X W es gl) : SV X W (.Tuple es x1 pos) (M.bd gl fun ds => M.opt (tupD ds)) :=
  pe_imp (pe_tupF h) fun σ H Q ⟨C, F, env, R, h⟩ => tG_bd R h fun ds env1 vs F1 H1 R1 e1 o1 h1 => by
    obtain ⟨z, hz, h1⟩ := h1.of_opt
    unfold tupD at hz
    split at hz
    · rename_i hl
      cases hz
      have o1 : DpAll X.K F1 vs ds := o1
      have l := o1.len
      refine ⟨Nat.le_of_lt (small1000 (by omega)), fun p ob hob hp => ?_⟩
      have hf := (R1.fresh hp).1
      exact aft' h1 (R1.newF hp hob) (Ex.new hf) (.tup (.inl (.inr ⟨ob, upd_same⟩)) (dps_mono (Ex.new hf) o1))
    · cases hz
theorem okO_new {K : PySem.W.Frag} {C : Cn} {F : Hp} {σ : St} {H : Hp} {env : En} {p : Addr} {vs : List V} {ds : List PyData} (R : Rel K C F σ H env) (hp : H p = none) (h : DpAll K F vs ds) : okO K C F σ (upd H p (.lst vs)) env ds (.ref p) :=
  ⟨p, vs, rfl, (R.fresh hp).1, (R.fresh hp).2, upd_same, h, fun i ⟨s, e1, e2, e3⟩ => by
    have q := R.sl i s e1
    cases s with
    | own es => obtain ⟨p', ws, a1, a2, a3, a4, a5⟩ := q; rw [e3] at a1; cases a1; rw [hp] at a4; cases a4
    | bor es => obtain ⟨p', ws, a1, a2, a3, a4, a5⟩ := q; rw [e3] at a1; cases a1; rw [hp] at a4; cases a4
    | obj ob => obtain ⟨p', a1, a2, a3, a4⟩ := q; rw [e3] at a1; cases a1; rw [hp] at a4; cases a4
    | _ => cases e2⟩
theorem so_lst (h : SA X W es gl) : SO X W (.List es pos) (M.bd gl fun ds => M.opt (lstD ds)) :=
  pe_imp (pe_lst h) fun σ H Q ⟨C, F, env, R, h⟩ => tG_bd R h fun ds env1 vs F1 H1 R1 e1 o1 h1 => by
    obtain ⟨z, hz, h1⟩ := h1.of_opt
    unfold lstD at hz
    split at hz
    · rename_i hl
      cases hz
      have o1 : DpAll X.K F1 vs ds := o1
      have l := o1.len
      exact ⟨Nat.le_of_lt (small1000 (by omega)), fun p hp => aft' h1 (R1.newH hp) (Ex.refl _) (okO_new R1 hp o1)⟩
    · cases hz
theorem Rel.freezeO {K : PySem.W.Frag} {C : Cn} {F : Hp} {σ : St} {H : Hp} {env : En} {ds : List PyData} {v : V} (R : Rel K C F σ H env) (o : okO K C F σ H env ds v) :
    ∃ p vs, v = .ref p ∧ Ex F (upd F p (.lst vs)) ∧ Rel K C (upd F p (.lst vs)) σ H env ∧ Dp K (upd F p (.lst vs)) v (.list ds) := by
  obtain ⟨p, vs, rfl, h1, h2, h3, h4, h5⟩ := o
  have ex : Ex F (upd F p (.lst vs)) := Ex.new h1
  refine ⟨p, vs, rfl, ex, ?_, .lst (SqL.of upd_same) (dps_mono ex h4)⟩
  exact {
    fh := fun a o q => by
      by_cases ha : a = p
      · subst ha; rw [upd_same] at q; cases q; exact h3
      · rw [upd_ne ha] at q; exact R.fh a o q
    cf := R.cf.trans ex
    new := fun a q1 q2 => by
      by_cases ha : a = p
      · subst ha; exact h2
      · rw [upd_ne ha] at q2; exact R.new a q1 q2
    pres := R.pres
    bd := R.bd
    sl := fun j s hj => by
      have q := R.sl j s hj
      cases s with
      | no => trivial
      | val d => obtain ⟨v, a1, a2⟩ := q; exact ⟨v, a1, dp_mono ex a2⟩
      | own es =>
        obtain ⟨p', ws, a1, a2, a3, a4, a5⟩ := q
        have np : p' ≠ p := fun e => h5 j ⟨_, hj, rfl, by rw [← e]; exact a1⟩
        exact ⟨p', ws, a1, by rw [upd_ne np]; exact a2, a3, a4, dps_mono ex a5⟩
      | bor es =>
        obtain ⟨p', ws, a1, a2, a3, a4, a5⟩ := q
        have np : p' ≠ p := fun e => h5 j ⟨_, hj, rfl, by rw [← e]; exact a1⟩
        exact ⟨p', ws, a1, by rw [upd_ne np]; exact a2, a3, a4, dps_mono ex a5⟩
      | obj ob =>
        obtain ⟨p', a1, a2, a3, a4⟩ := q
        have np : p' ≠ p := fun e => h5 j ⟨_, hj, rfl, by rw [← e]; exact a1⟩
        exact ⟨p', a1, by rw [upd_ne np]; exact a2, a3, a4⟩
      | raw v => exact q
      | exc a dd fs => obtain ⟨z1, z2, z3, z4⟩ := q; exact ⟨z1, z2, ex _ _ z3, fs_mono ex z4⟩
      | tab T => exact q
      | lam b ls => exact lamSl_mono ex (codeKept_refl _) q
    dis := R.dis
    len := R.len
    tb := R.tb
    nt := R.nt.upd (by trivial) }
theorem sv_o {g : M (List PyData)} (h : SO X W a g) : SV X W a (M.bd g fun ds => M.ok (.list ds)) :=
  pe_imp h fun σ H Q ⟨C, F, env, R, h⟩ => tG_bd R h fun ds env1 v F1 H1 R1 e1 o1 h1 => by
    obtain ⟨p, vs, rfl, ex, R2, dp⟩ := R1.freezeO o1
    exact aft' h1 R2 ex dp
theorem sv_ix (ha : SV X W a ga) (hb : SV X W b gb) (hs : PlainIx b := by exact fun _ _ => rfl) : SV X W (.Subscript a b pos) (M.bd ga fun d => M.bd gb fun e => M.opt (atD d e)) :=
  pe_imp (pe_ix ix_seq ha hb hs) fun σ H Q ⟨C, F, env, R, h⟩ =>
    tG_bd R h fun d env1 v F1 H1 R1 e1 o1 h1 => tG_bd R1 h1 fun e env2 w F2 H2 R2 e2 o2 h2 => by
      obtain ⟨z, hz, h3⟩ := h2.of_opt
      clear h2
      have o1 : Dp X.K F2 v d := dp_mono e2 o1
      unfold atD at hz
      split at hz
      · cases o2
        cases o1 with
        | lst s r =>
          obtain ⟨x, hx, dx⟩ := atI_dps r hz
          exact .inl ⟨_, _, _, _, rfl, rfl, ex_l R2.fh s, hx, aft (ok := okV X.K) h3 R2 dx⟩
      · cases o2
        cases o1 with
        | tup s r =>
          obtain ⟨x, hx, dx⟩ := atI_dps r hz
          exact .inr (.inl ⟨_, _, _, _, rfl, rfl, ex_t R2.fh s, hx, aft (ok := okV X.K) h3 R2 dx⟩)
      · split at hz
        · rename_i hl
          cases o2
          cases o1
          cases hq : atI _ _ with
          | none => rw [hq] at hz; cases hz
          | some c => rw [hq] at hz; cases hz; exact .inr (.inr ⟨_, _, _, rfl, rfl, hl, hq, aft h3 R2 (.str _)⟩)
        · cases hz
      · cases hz
def gPeek (i : Nat) : M (List PyData) := fun env => match env[i]? with
  | some (.own ds) => some (.ok (ds, env))
  | some (.bor ds) => some (.ok (ds, env))
  | some (.val (.list ds)) => some (.ok (ds, env))
  | some (.val (.tuple ds)) => some (.ok (ds, env))
  | _ => none
end
end Pf
/-! part Pf5 -/
set_option Elab.async false
set_option linter.all false
set_option maxRecDepth 100000
set_option maxHeartbeats 2000000
namespace Pf
open PySem PySem.Spec L2 Evl
section
variable {K : PySem.W.Frag} {mg : Str → Option Value} {W : WX} {C : Cn} {F : Hp} {σ : St} {H : Hp} {env : En} {i : Nat} {ds ds' : List PyData}
theorem peek_of {env' : En} (R : Rel K C F σ H env) (h : gPeek i env = some (.ok (ds, env'))) : env' = env ∧ ∃ p vs, σ[i]? = some (some (.ref p)) ∧ (SqL K H p vs ∨ SqT K H p vs) ∧ DpAll K F vs ds := by
  unfold gPeek at h
  split at h
  · rename_i q; cases h; obtain ⟨p, vs, a1, _, _, a4, a5⟩ := R.sl i _ q; exact ⟨rfl, p, vs, a1, .inl (SqL.of a4), a5⟩
  · rename_i q; cases h; obtain ⟨p, vs, a1, _, _, a4, a5⟩ := R.sl i _ q; exact ⟨rfl, p, vs, a1, .inl (SqL.of a4), a5⟩
  · rename_i q; cases h; obtain ⟨v, a1, a2⟩ := R.sl i _ q
    cases a2 with
    | lst s r => exact ⟨rfl, _, _, a1, .inl (ex_l R.fh s), r⟩
  · rename_i q; cases h; obtain ⟨v, a1, a2⟩ := R.sl i _ q
    cases a2 with
    | tup s r => exact ⟨rfl, _, _, a1, .inr (ex_t R.fh s), r⟩
  · cases h
theorem bd_peek {γ δ : Type} {ok : OkR γ δ} {f : List PyData → M γ} {Q : δ → Hp → Prop} (R : Rel K C F σ H env) (h : After K mg ok W C F σ (M.bd (gPeek i) f env) Q) :
    ∃ ds p vs, gPeek i env = some (.ok (ds, env)) ∧ σ[i]? = some (some (.ref p)) ∧ (SqL K H p vs ∨ SqT K H p vs) ∧ DpAll K F vs ds ∧ After K mg ok W C F σ (f ds env) Q := by
  unfold M.bd at h
  cases q : gPeek i env with
  | none => rw [q] at h; exact h.elim
  | some r =>
    rw [q] at h
    cases r with
    | error x =>
      unfold gPeek at q
      split at q <;> cases q
    | ok y =>
      obtain ⟨ds, env'⟩ := y
      obtain ⟨rfl, p, vs, a1, a2, a3⟩ := peek_of R q
      exact ⟨ds, p, vs, rfl, a1, a2, a3, h⟩
def gHeld (i : Nat) : M (List PyData) := fun env => match env[i]? with
  | some (.own ds) => some (.ok (ds, env))
  | some (.bor ds) => some (.ok (ds, env))
  | _ => none
def putS (ds : List PyData) : Sl → Sl
  | .own _ => .own ds
  | .bor _ => .bor ds
  | .obj _ => .own ds
  | s => s
def gPut (i : Nat) (ds : List PyData) : M Unit := fun env => match env[i]? with
  | some s => some (.ok ((), env.set i (putS ds s)))
  | none => none
theorem bd_held {γ δ : Type} {ok : OkR γ δ} {f : List PyData → M γ} {Q : δ → Hp → Prop} (R : Rel K C F σ H env) (h : After K mg ok W C F σ (M.bd (gHeld i) f env) Q) :
    ∃ ds p vs s, env[i]? = some s ∧ (isOwn s = true ∧ ∀ o, s ≠ .obj o) ∧ σ[i]? = some (some (.ref p)) ∧ H p = some (.lst vs) ∧ DpAll K F vs ds ∧ After K mg ok W C F σ (f ds env) Q := by
  unfold M.bd at h
  unfold gHeld at h
  cases q : env[i]? with
  | none => rw [q] at h; exact h.elim
  | some s =>
    rw [q] at h
    cases s with
    | own ds => obtain ⟨p, vs, a1, _, _, a4, a5⟩ := R.sl i _ q; exact ⟨ds, p, vs, _, rfl, ⟨rfl, fun _ z => by cases z⟩, a1, a4, a5, h⟩
    | bor ds => obtain ⟨p, vs, a1, _, _, a4, a5⟩ := R.sl i _ q; exact ⟨ds, p, vs, _, rfl, ⟨rfl, fun _ z => by cases z⟩, a1, a4, a5, h⟩
    | _ => exact h.elim
theorem Rel.write {p : Addr} {vs : List V} {s : Sl} (R : Rel K C F σ H env) (h : env[i]? = some s) (ho : isOwn s = true) (hp : σ[i]? = some (some (.ref p))) (hd : DpAll K F vs ds) (hno : ∀ o, s ≠ .obj o) :
    Rel K C F σ (upd H p (.lst vs)) (env.set i (putS ds s)) := by
  have facts : F p = none ∧ (C.H p = none ∨ p ∈ C.B) ∧ H p ≠ none := by
    have q := R.sl i s h
    cases s with
    | own es => obtain ⟨p', ws, a1, a2, a3, a4, a5⟩ := q; rw [hp] at a1; cases a1; exact ⟨a2, .inl a3, by rw [a4]; simp⟩
    | bor es => obtain ⟨p', ws, a1, a2, a3, a4, a5⟩ := q; rw [hp] at a1; cases a1; exact ⟨a2, .inr a3, by rw [a4]; simp⟩
    | obj ob => obtain ⟨p', a1, a2, a3, a4⟩ := q; rw [hp] at a1; cases a1; exact ⟨a2, .inl a3, by rw [a4]; simp⟩
    | _ => cases ho
  have hps : isOwn (putS ds s) = true := by cases s <;> first | rfl | cases ho
  exact {
    fh := R.fh.mut facts.1
    cf := R.cf
    new := R.new
    pres := fun a o q hb => by
      have ne : a ≠ p := fun e => by
        subst e
        rcases facts.2.1 with z | z
        · rw [z] at q; cases q
        · exact hb z
      rw [upd_ne ne]; exact R.pres a o q hb
    bd := fun b hb => by
      refine ⟨?_, (R.bd b hb).2⟩
      by_cases ne : b = p
      · subst ne; rw [upd_same]; simp
      · rw [upd_ne ne]; exact (R.bd b hb).1
    sl := fun j s' hj => by
      rcases set_at hj with ⟨rfl, rfl, _⟩ | ⟨ne, hj⟩
      · have q := R.sl j s h
        cases s with
        | own es => obtain ⟨p', ws, a1, a2, a3, a4, a5⟩ := q; rw [hp] at a1; cases a1; exact ⟨p, vs, hp, a2, a3, upd_same, hd⟩
        | bor es => obtain ⟨p', ws, a1, a2, a3, a4, a5⟩ := q; rw [hp] at a1; cases a1; exact ⟨p, vs, hp, a2, a3, upd_same, hd⟩
        | obj ob => obtain ⟨p', a1, a2, a3, a4⟩ := q; rw [hp] at a1; cases a1; exact ⟨p, vs, hp, a2, a3, upd_same, hd⟩
        | _ => cases ho
      · have q := R.sl j s' hj
        have np : ∀ p', isOwn s' = true → σ[j]? = some (some (.ref p')) → p' ≠ p := fun p' o a e => ne (R.dis j i p ⟨s', hj, o, by rw [← e]; exact a⟩ ⟨s, h, ho, hp⟩)
        cases s' with
        | no => trivial
        | val d => exact q
        | own es => obtain ⟨p', ws, a1, a2, a3, a4, a5⟩ := q; exact ⟨p', ws, a1, a2, a3, by rw [upd_ne (np p' rfl a1)]; exact a4, a5⟩
        | bor es => obtain ⟨p', ws, a1, a2, a3, a4, a5⟩ := q; exact ⟨p', ws, a1, a2, a3, by rw [upd_ne (np p' rfl a1)]; exact a4, a5⟩
        | obj ob => obtain ⟨p', a1, a2, a3, a4⟩ := q; exact ⟨p', a1, a2, a3, by rw [upd_ne (np p' rfl a1)]; exact a4⟩
        | raw v => exact q
        | exc a dd fs => exact q
        | tab T => exact q
        | lam b ls =>
          refine lamSl_mono (Ex.refl _) ?_ q
          have q := R.sl i s h
          cases s with
          | own es => obtain ⟨p', ws, a1, a2, a3, a4, a5⟩ := q; rw [hp] at a1; cases a1; exact codeKept_ne a4 lst_code fun a o ne e => by rw [upd_ne ne]; exact e
          | bor es => obtain ⟨p', ws, a1, a2, a3, a4, a5⟩ := q; rw [hp] at a1; cases a1; exact codeKept_ne a4 lst_code fun a o ne e => by rw [upd_ne ne]; exact e
          | obj ob => exact absurd rfl (hno ob)
          | _ => cases ho
    dis := fun j k q o1 o2 => by
      have back : ∀ {j : Nat}, Owned σ (env.set i (putS ds s)) j q → Owned σ env j q := fun {j} o => by
        obtain ⟨s1, e1, b1, a1⟩ := o
        rcases set_at e1 with ⟨rfl, rfl, _⟩ | ⟨ne1, e1⟩
        · exact ⟨s, h, ho, a1⟩
        · exact ⟨s1, e1, b1, a1⟩
      exact R.dis j k q (back o1) (back o2)
    len := by rw [List.length_set]; exact R.len
    nt := R.nt
    tb := by
      have q := R.sl i s h
      cases s with
      | own es => obtain ⟨p', ws, a1, a2, a3, a4, a5⟩ := q; rw [hp] at a1; cases a1; exact tabs_lst R.tb a4 fun a o ne e => by rw [upd_ne ne]; exact e
      | bor es => obtain ⟨p', ws, a1, a2, a3, a4, a5⟩ := q; rw [hp] at a1; cases a1; exact tabs_lst R.tb a4 fun a o ne e => by rw [upd_ne ne]; exact e
      | obj ob => exact absurd rfl (hno ob)
      | _ => cases ho }
end
section
variable {X : Cx} {W : WX} {a b c e : Expr} {es : List Expr} {ga gb : M PyData} {gl : M (List PyData)} {pos p1 p2 apos : Pos} {x : Str}
def gIxP (i : Nat) (gb : M PyData) : M PyData := M.bd (gPeek i) fun _ => M.bd gb fun e => M.bd (gPeek i) fun ds => match e with
  | .int k => M.opt (atI ds k)
  | _ => M.no
theorem sv_ixP (i : Nat) (hb : SV X W b gb) (hs : PlainIx b := by exact fun _ _ => rfl) (hN : X.N[i]? = some x := by rfl) (hv : Vis X.env.scope x := by first | exact Or.inl rfl | exact Or.inr (Or.inl rfl) | exact Or.inr (Or.inr rfl))
    (hd : (x == ("__debug__" : Str)) = false := by decide) (hcd : (x == ("__classdict__" : Str)) = false := by decide) : SV X W (.Subscript (.Name x p1) b pos) (gIxP i gb) :=
  pe_imp (pe_ix ix_seq (pe_var hN hv hd hcd) hb hs) fun σ H Q ⟨C, F, env, R, h⟩ => by
    obtain ⟨_, p, vs, _, a1, a2, _, h⟩ := bd_peek R h
    refine ⟨.ref p, a1, ?_⟩
    refine tG_bd R h fun e env2 w F2 H2 R2 e2 o2 h2 => ?_
    obtain ⟨ds, p', vs', _, b1, b2, b3, h3⟩ := bd_peek R2 h2
    rw [a1] at b1
    cases b1
    cases o2 with
    | int k =>
      obtain ⟨d, hd, h4⟩ := h3.of_opt
      obtain ⟨v, hv, dv⟩ := atI_dps b3 hd
      rcases b2 with s | s
      · exact .inl ⟨_, _, _, _, rfl, rfl, s, hv, aft (ok := okV X.K) h4 R2 dv⟩
      · exact .inr (.inl ⟨_, _, _, _, rfl, rfl, s, hv, aft (ok := okV X.K) h4 R2 dv⟩)
    | _ => exact h3.elim
def gLenP (i : Nat) : M PyData := M.bd (gPeek i) fun ds => M.ok (.int ds.length)
theorem sv_lenP (i : Nat) (hg : Gl X "len") (hm : X.mg "len" = none) (hN : X.N[i]? = some x := by rfl) (hv : Vis X.env.scope x := by first | exact Or.inl rfl | exact Or.inr (Or.inl rfl) | exact Or.inr (Or.inr rfl))
    (hd : (x == ("__debug__" : Str)) = false := by decide) (hcd : (x == ("__classdict__" : Str)) = false := by decide) (hs : starEach [.Name x p1] X.env = (false, eval (.Name x p1) X.env) :: starEach [] X.env := by rfl)
    (hpl : (backTo pos (starEach [] X.env)).any (·.1) = false := by rfl) : SV X W (.Call (.Name "len" p2) [.Name x p1] [] pos) (gLenP i) :=
  pe_imp (pe_callB call_len_seq hg hm PySem.boot_len (pa_cons (pe_var hN hv hd hcd) pa_nil hs) (by decide) (by decide) hs hpl) fun σ H Q ⟨C, F, env, R, h⟩ => by
    obtain ⟨ds, p, vs, _, a1, a2, a3, h⟩ := bd_peek R h
    refine ⟨.ref p, a1, p, vs, rfl, a2, ?_⟩
    rw [a3.len]
    exact aft (ok := okV X.K) h R (.int _)
def CallD (X : Cx) (f : Value) (k : List PyData → Option PyData) : Prop := ∃ r : List V → Hp → VK → Prop, CallR X f r ∧
  ∀ C F σ H env vs ds d Q, Rel X.K C F σ H env → DpAll X.K F vs ds → k ds = some d → (∀ v F' H', Rel X.K C F' σ H' env → Ex F F' → Dp X.K F' v d → Q v H') → r vs H Q
theorem cd_len : CallD X (.builtin "len") (fun ds => match ds with
    | [d] => lenD d
    | _ => none) :=
  ⟨_, CallR.or call_len_seq call_len_str, fun C F σ H env vs ds d Q R hv hk q => by
    cases hv with
    | nil => cases hk
    | cons h1 hr =>
      cases hr with
      | cons _ _ => cases hk
      | nil =>
        cases h1 with
        | lst s r => cases hk; exact .inl ⟨_, _, rfl, .inl (ex_l R.fh s), by rw [r.len]; exact q _ _ _ R (Ex.refl _) (.int _)⟩
        | tup s r => cases hk; exact .inl ⟨_, _, rfl, .inr (ex_t R.fh s), by rw [r.len]; exact q _ _ _ R (Ex.refl _) (.int _)⟩
        | str z =>
          simp only [lenD] at hk
          split at hk
          · rename_i hl; cases hk; exact .inr ⟨z, rfl, hl, q _ _ _ R (Ex.refl _) (.int _)⟩
          · cases hk
        | _ => cases hk⟩
theorem cd_tuple : CallD X (.type "tuple") (fun ds => match ds with
    | [d] => (seqD d).map .tuple
    | _ => none) :=
  ⟨_, cr_tupF, fun C F σ H env vs ds d Q R hv hk q => by
    cases hv with
    | nil => cases hk
    | cons h1 hr =>
      cases hr with
      | cons _ _ => cases hk
      | nil =>
        cases h1 with
        | lst s r =>
          cases hk
          refine ⟨_, _, rfl, .inl ⟨ex_l R.fh s, fun l ob hob hl => ?_⟩⟩
          have hf := (R.fresh hl).1
          exact q _ _ _ (R.newF hl hob) (Ex.new hf) (.tup (.inl (.inr ⟨ob, upd_same⟩)) (dps_mono (Ex.new hf) r))
        | tup s r => cases hk; exact ⟨_, _, rfl, .inr ⟨ex_t R.fh s, q _ _ _ R (Ex.refl _) (.tup s r)⟩⟩
        | _ => cases hk⟩
theorem sv_callB {f : Str} {id : String} {k : List PyData → Option PyData} (hc : CallD X (.builtin id) k) (hg : Gl X f) (hm : X.mg f = none) (hv : bootBuiltins f = some (.builtin id)) (ha : SA X W (e :: es) gl) (hn : f ≠ "__name__" := by decide) (hdb : (f == ("__debug__" : Str)) = false := by decide)
    (he : starEach (e :: es) X.env = (false, eval e X.env) :: starEach es X.env := by rfl) (hpl : (backTo pos (starEach es X.env)).any (·.1) = false := by rfl) : SV X W (.Call (.Name f p2) (e :: es) [] pos) (M.bd gl fun ds => M.opt (k ds)) := by
  obtain ⟨r, hr, hk⟩ := hc
  refine pe_imp (pe_callB hr hg hm hv ha hn hdb he hpl) fun σ H Q ⟨C, F, env, R, h⟩ => tG_bd R h fun ds env1 vs F1 H1 R1 e1 o1 h1 => ?_
  obtain ⟨d, hd, h2⟩ := h1.of_opt
  exact hk C F1 σ H1 env1 vs ds d Q R1 o1 hd fun v F' H' R' ex dv => aft' (ok := okV X.K) h2 R' ex dv
theorem sv_callT {f : Str} {T : String} {k : List PyData → Option PyData} (hc : CallD X (.type T) k) (hg : Gl X f) (hm : X.mg f = none) (hv : bootBuiltins f = some (.type T)) (ha : SA X W (e :: es) gl) (hn : f ≠ "__name__" := by decide) (hdb : (f == ("__debug__" : Str)) = false := by decide)
    (he : starEach (e :: es) X.env = (false, eval e X.env) :: starEach es X.env := by rfl) (hpl : (backTo pos (starEach es X.env)).any (·.1) = false := by rfl) : SV X W (.Call (.Name f p2) (e :: es) [] pos) (M.bd gl fun ds => M.opt (k ds)) := by
  obtain ⟨r, hr, hk⟩ := hc
  refine pe_imp (pe_callTy hr hg hm hv ha hn hdb he hpl) fun σ H Q ⟨C, F, env, R, h⟩ => tG_bd R h fun ds env1 vs F1 H1 R1 e1 o1 h1 => ?_
  obtain ⟨d, hd, h2⟩ := h1.of_opt
  exact hk C F1 σ H1 env1 vs ds d Q R1 o1 hd fun v F' H' R' ex dv => aft' (ok := okV X.K) h2 R' ex dv
theorem so_list (hg : Gl X "list") (hm : X.mg "list" = none) (ha : SV X W e ga) (hs : starEach [e] X.env = (false, eval e X.env) :: starEach [] X.env := by rfl) (hpl : (backTo pos (starEach [] X.env)).any (·.1) = false := by rfl) :
    SO X W (.Call (.Name "list" p2) [e] [] pos) (M.bd ga fun d => M.opt (seqD d)) :=
  pe_imp (pe_callTy call_list_of hg hm (by decide +kernel) (pa_cons ha pa_nil hs) (by decide) (by decide) hs hpl) fun σ H Q ⟨C, F, env, R, h⟩ => tG_bd R h fun d env1 v F1 H1 R1 e1 o1 h1 => by
    obtain ⟨ds, hd, h2⟩ := h1.of_opt
    obtain ⟨p, vs, rfl, hq, hr⟩ := dp_seq o1 hd
    refine ⟨p, vs, rfl, ?_, fun l hl => aft' (ok := okO X.K) h2 (R1.newH hl) (Ex.refl _) (okO_new R1 hl hr)⟩
    rcases hq with s | s
    · exact .inl (ex_l R1.fh s)
    · exact .inr (ex_t R1.fh s)
end
end Pf
/-! part Pf6 -/
set_option Elab.async false
set_option linter.all false
set_option maxRecDepth 100000
set_option maxHeartbeats 2000000
namespace Pf
open PySem PySem.Spec L2 Evl
inductive Out where
  | nx (env : En)
  | rt (d : PyData) (env : En)
  | ro (ds : List PyData) (env : En)
  | rk (D : List (Int × Int)) (env : En)
  | rp (d : PyData) (ds : List PyData) (env : En)
  | bk (env : En)
  | ct (env : En)
  | er (x : Xc) (env : En)
abbrev S := En → Option Out
section
variable (K : PySem.W.Frag) (mg : Str → Option Value)
def AftS (W : WX) (C : Cn) (F : Hp) (o : Option Out) (D : Ends) : Prop := match o with
  | none => False
  | some (.nx env) => ∀ σ F' H, Rel K C F' σ H env → Ex F F' → D.nx σ H
  | some (.rt d env) => ∀ v σ F' H, Rel K C F' σ H env → Ex F F' → Dp K F' v d → D.rt v H
  | some (.ro ds env) => ∀ v σ F' H, Rel K C F' σ H env → Ex F F' → okO K C F' σ H env ds v → D.rt v H
  | some (.rp d ds env) => ∀ v σ F' H, Rel K C F' σ H env → Ex F F' → okPr K C F' σ H env (d, ds) v → D.rt v H
  | some (.rk t env) => ∀ v σ F' H, Rel K C F' σ H env → Ex F F' → okK C F' σ H env t v → D.rt v H
  | some (.bk env) => ∀ σ F' H, Rel K C F' σ H env → Ex F F' → D.bk σ H
  | some (.ct env) => ∀ σ F' H, Rel K C F' σ H env → Ex F F' → D.ct σ H
  | some (.er x env) => ∀ σ F' H cls dx, Rel K C F' σ H env → Ex F F' → XOk K mg F' H cls dx x → W cls dx σ H
def tS (W : WX) (G : S) : TS := fun D σ H => ∃ C F env, Rel K C F σ H env ∧ AftS K mg W C F (G env) D
end
abbrev SS (X : Cx) (W : WX) (st : Stmt) (G : S) : Prop := PS X st (tS X.K X.mg W G)
abbrev SSs (X : Cx) (W : WX) (sts : List Stmt) (G : S) : Prop := PSs X sts (tS X.K X.mg W G)
theorem ps_imp {X : Cx} {st : Stmt} {t t' : TS} (h : PS X st t) (k : ∀ D σ H, t' D σ H → t D σ H) : PS X st t' := ⟨fun pins s σ H D I q => h.run pins s σ H D I (k D σ H q)⟩
theorem pss_imp {X : Cx} {sts : List Stmt} {t t' : TS} (h : PSs X sts t) (k : ∀ D σ H, t' D σ H → t D σ H) : PSs X sts t' := ⟨fun pins s σ H D I q => h.run pins s σ H D I (k D σ H q)⟩
def gE {α : Type} (m : M α) (k : α → S) : S := fun env => match m env with
  | none => none
  | some (.error (x, env')) => some (.er x env')
  | some (.ok (a, env')) => k a env'
def gSeq (g h : S) : S := fun env => match g env with
  | some (.nx env') => h env'
  | o => o
def gNx : S := fun env => some (.nx env)
section
variable {K : PySem.W.Frag} {mg : Str → Option Value} {W : WX} {σ : St} {H : Hp} {C : Cn} {F : Hp} {env : En} {α β : Type} {ok : OkR α β}
theorem AftS.up {F' : Hp} {o : Option Out} {D : Ends} (h : AftS K mg W C F o D) (e : Ex F F') : AftS K mg W C F' o D := by
  cases o with
  | none => exact h
  | some o =>
    cases o with
    | nx env => exact fun σ F2 H R e2 => h σ F2 H R (e.trans e2)
    | rt d env => exact fun v σ F2 H R e2 => h v σ F2 H R (e.trans e2)
    | ro d env => exact fun v σ F2 H R e2 => h v σ F2 H R (e.trans e2)
    | rk d env => exact fun v σ F2 H R e2 => h v σ F2 H R (e.trans e2)
    | rp d ds env => exact fun v σ F2 H R e2 => h v σ F2 H R (e.trans e2)
    | bk env => exact fun σ F2 H R e2 => h σ F2 H R (e.trans e2)
    | ct env => exact fun σ F2 H R e2 => h σ F2 H R (e.trans e2)
    | er x env => exact fun σ F2 H cls dx R e2 => h σ F2 H cls dx R (e.trans e2)
theorem tE_bd {g : M α} {f : α → S} {D : Ends} {Q1 : β → Hp → Prop} (R : Rel K C F σ H env) (h : AftS K mg W C F (gE g f env) D)
    (k : ∀ d env' b F' H', Rel K C F' σ H' env' → Ex F F' → ok C F' σ H' env' d b → AftS K mg W C F' (f d env') D → Q1 b H') : tG K mg ok W g σ H Q1 := by
  refine ⟨C, F, env, R, ?_⟩
  unfold gE at h
  cases q : g env with
  | none => rw [q] at h; exact h
  | some r =>
    rw [q] at h
    cases r with
    | error x => obtain ⟨x, env'⟩ := x; exact fun F' H' cls dx R' e xo => h σ F' H' cls dx R' e xo
    | ok y => obtain ⟨d, env'⟩ := y; exact fun b F' H' R' e o => k d env' b F' H' R' e o (h.up e)
theorem AftS.seq {g : S} {h : S} {D : Ends} (q : AftS K mg W C F (gSeq g h env) D) : AftS K mg W C F (g env) { D with nx := fun σ H => ∃ F' env', Rel K C F' σ H env' ∧ Ex F F' ∧ AftS K mg W C F' (h env') D } := by
  unfold gSeq at q
  cases e : g env with
  | none => rw [e] at q; exact q
  | some o =>
    rw [e] at q
    cases o with
    | nx env' => exact fun σ F' H R ex => ⟨F', env', R, ex, q.up ex⟩
    | rt d env' => exact q
    | ro d env' => exact q
    | rk d env' => exact q
    | rp d ds env' => exact q
    | bk env' => exact q
    | ct env' => exact q
    | er x env' => exact q
theorem AftS.imp {o : Option Out} {D D' : Ends} (h : AftS K mg W C F o D) (k1 : ∀ σ H, D.nx σ H → D'.nx σ H) (k2 : ∀ v H, D.rt v H → D'.rt v H) (k3 : ∀ σ H, D.bk σ H → D'.bk σ H) (k4 : ∀ σ H, D.ct σ H → D'.ct σ H) : AftS K mg W C F o D' := by
  cases o with
  | none => exact h
  | some o =>
    cases o with
    | nx env => exact fun σ F2 H R e2 => k1 _ _ (h σ F2 H R e2)
    | rt d env => exact fun v σ F2 H R e2 q => k2 _ _ (h v σ F2 H R e2 q)
    | ro d env => exact fun v σ F2 H R e2 q => k2 _ _ (h v σ F2 H R e2 q)
    | rk d env => exact fun v σ F2 H R e2 q => k2 _ _ (h v σ F2 H R e2 q)
    | rp d ds env => exact fun v σ F2 H R e2 q => k2 _ _ (h v σ F2 H R e2 q)
    | bk env => exact fun σ F2 H R e2 => k3 _ _ (h σ F2 H R e2)
    | ct env => exact fun σ F2 H R e2 => k4 _ _ (h σ F2 H R e2)
    | er x env => exact h
end
section
variable {X : Cx} {W : WX} {st : Stmt} {rest : List Stmt} {g g' : S} {e c a b : Expr} {ga gb gc : M PyData} {gt : M Bool} {gl : M (List PyData)} {pos pos' p1 p2 : Pos} {x y : Str}
theorem ss_nil : SSs X W [] gNx := pss_imp pss_nil fun D σ H ⟨C, F, env, R, h⟩ => h σ F H R (Ex.refl F)
theorem ss_cons (h1 : SS X W st g) (h2 : SSs X W rest g') : SSs X W (st :: rest) (gSeq g g') := pss_imp (pss_cons h1 h2) fun D σ H ⟨C, F, env, R, h⟩ => ⟨C, F, env, R, h.seq.imp (fun σ H ⟨F', env', R', _, q⟩ => ⟨C, F', env', R', q⟩) (fun _ _ z => z) (fun _ _ z => z) (fun _ _ z => z)⟩
theorem ss_one (h : SS X W st g) : SSs X W [st] g := pss_one h
theorem ss_expr {α : Type} {ok : OkR α V} {ga : M α} (h : SG X ok W e ga) (hs : swapsWith e none pos.line X.env = pure false := by rfl) : SS X W (.Expr e pos) (gE ga fun _ => gNx) :=
  ps_imp (ps_expr h hs) fun D σ H ⟨C, F, env, R, h⟩ => tE_bd R h fun d env1 v F1 H1 R1 e1 o1 h1 => h1 σ F1 H1 R1 (Ex.refl _)
def gRt (d : PyData) : S := fun env => some (.rt d env)
def gRo (ds : List PyData) : S := fun env => some (.ro ds env)
theorem ss_ret (h : SV X W e ga) : SS X W (.Return (some e) pos) (gE ga gRt) :=
  ps_imp (ps_ret h) fun D σ H ⟨C, F, env, R, h⟩ => tE_bd R h fun d env1 v F1 H1 R1 e1 o1 h1 => h1 v σ F1 H1 R1 (Ex.refl _) o1
theorem ss_retO (h : SO X W e gl) : SS X W (.Return (some e) pos) (gE gl gRo) :=
  ps_imp (ps_ret h) fun D σ H ⟨C, F, env, R, h⟩ => tE_bd R h fun d env1 v F1 H1 R1 e1 o1 h1 => h1 v σ F1 H1 R1 (Ex.refl _) o1
def gIfS (gt : M Bool) (g g' : S) : S := gE gt fun b => if b = true then g else g'
theorem ss_if {sa sb : List Stmt} (ht : ST X W c gt) (ha : SSs X W sa g) (hb : SSs X W sb g') : SS X W (.If c sa sb pos) (gIfS gt g g') :=
  ps_imp (ps_if ht ha hb) fun D σ H ⟨C, F, env, R, h⟩ => tE_bd R h fun d env1 v F1 H1 R1 e1 o1 h1 => by
    cases o1
    cases d with
    | true => exact ⟨C, F1, env1, R1, h1⟩
    | false => exact ⟨C, F1, env1, R1, h1⟩
theorem _root_.Pf.Rel.store {K : PySem.W.Frag} {C : Cn} {F : Hp} {σ : St} {H : Hp} {env : En} {v : V} {d : PyData} (R : Rel K C F σ H env) (i : Nat) (h : Dp K F v d) : Rel K C F (σ.set i (some v)) H (env.set i (.val d)) where
  fh := R.fh
  cf := R.cf
  new := R.new
  pres := R.pres
  bd := R.bd
  sl := fun j s hj => by
    rcases set_at hj with ⟨rfl, rfl, hl⟩ | ⟨ne, hj⟩
    · rw [List.getElem?_set_self (by rw [← R.len]; exact hl)]; exact ⟨v, rfl, h⟩
    · rw [List.getElem?_set_ne (Ne.symm ne)]; exact R.sl j s hj
  dis := fun j k q o1 o2 => by
    obtain ⟨s1, e1, b1, a1⟩ := o1
    obtain ⟨s2, e2, b2, a2⟩ := o2
    rcases set_at e1 with ⟨rfl, rfl, _⟩ | ⟨n1, e1⟩
    · cases b1
    · rcases set_at e2 with ⟨rfl, rfl, _⟩ | ⟨n2, e2⟩
      · cases b2
      · rw [List.getElem?_set_ne (Ne.symm n1)] at a1
        rw [List.getElem?_set_ne (Ne.symm n2)] at a2
        exact R.dis j k q ⟨s1, e1, b1, a1⟩ ⟨s2, e2, b2, a2⟩
  len := by rw [List.length_set, List.length_set]; exact R.len
  tb := R.tb
  nt := R.nt
theorem _root_.Pf.Rel.storeO {K : PySem.W.Frag} {C : Cn} {F : Hp} {σ : St} {H : Hp} {env : En} {v : V} {ds : List PyData} (R : Rel K C F σ H env) (i : Nat) (h : okO K C F σ H env ds v) : Rel K C F (σ.set i (some v)) H (env.set i (.own ds)) := by
  obtain ⟨p, vs, rfl, h1, h2, h3, h4, h5⟩ := h
  exact {
    fh := R.fh
    cf := R.cf
    new := R.new
    pres := R.pres
    bd := R.bd
    sl := fun j s hj => by
      rcases set_at hj with ⟨rfl, rfl, hl⟩ | ⟨ne, hj⟩
      · rw [List.getElem?_set_self (by rw [← R.len]; exact hl)]; exact ⟨p, vs, rfl, h1, h2, h3, h4⟩
      · rw [List.getElem?_set_ne (Ne.symm ne)]; exact R.sl j s hj
    dis := fun j k q o1 o2 => by
      obtain ⟨s1, e1, b1, a1⟩ := o1
      obtain ⟨s2, e2, b2, a2⟩ := o2
      rcases set_at e1 with ⟨rfl, rfl, l1⟩ | ⟨n1, f1⟩
      · rw [List.getElem?_set_self (by rw [← R.len]; exact l1)] at a1
        cases a1
        rcases set_at e2 with ⟨rfl, rfl, _⟩ | ⟨n2, f2⟩
        · rfl
        · rw [List.getElem?_set_ne (Ne.symm n2)] at a2
          exact absurd ⟨s2, f2, b2, a2⟩ (h5 k)
      · rw [List.getElem?_set_ne (Ne.symm n1)] at a1
        rcases set_at e2 with ⟨rfl, rfl, l2⟩ | ⟨n2, f2⟩
        · rw [List.getElem?_set_self (by rw [← R.len]; exact l2)] at a2
          cases a2
          exact absurd ⟨s1, f1, b1, a1⟩ (h5 j)
        · rw [List.getElem?_set_ne (Ne.symm n2)] at a2
          exact R.dis j k q ⟨s1, f1, b1, a1⟩ ⟨s2, f2, b2, a2⟩
    len := by rw [List.length_set, List.length_set]; exact R.len
    tb := R.tb
    nt := R.nt }
def gSt (i : Nat) (d : PyData) : S := fun env => some (.nx (env.set i (.val d)))
def gStO (i : Nat) (ds : List PyData) : S := fun env => some (.nx (env.set i (.own ds)))
theorem ss_set (i : Nat) (he : SV X W e ga) (hN : X.N.Nodup) (hi : X.N[i]? = some x := by rfl) (hx : Loc X.env.scope x := by first | exact Or.inl rfl | exact Or.inr rfl) (hs : swapsWith e (some (.Name x pos')) pos.line X.env = pure false := by rfl)
    (hf : X.fn x = true ∨ X.env.scope.names.lookup x = some .local := by first | exact .inl rfl | exact .inr rfl | assumption) : SS X W (.Assign [.Name x pos'] e pos) (gE ga (gSt i)) :=
  ps_imp (ps_set hN hi hx he hs hf) fun D σ H ⟨C, F, env, R, h⟩ => tE_bd R h fun d env1 v F1 H1 R1 e1 o1 h1 => h1 _ F1 H1 (R1.store i o1) (Ex.refl _)
theorem ss_setO (i : Nat) (he : SO X W e gl) (hN : X.N.Nodup) (hi : X.N[i]? = some x := by rfl) (hx : Loc X.env.scope x := by first | exact Or.inl rfl | exact Or.inr rfl) (hs : swapsWith e (some (.Name x pos')) pos.line X.env = pure false := by rfl)
    (hf : X.fn x = true ∨ X.env.scope.names.lookup x = some .local := by first | exact .inl rfl | exact .inr rfl | assumption) : SS X W (.Assign [.Name x pos'] e pos) (gE gl (gStO i)) :=
  ps_imp (ps_set hN hi hx he hs hf) fun D σ H ⟨C, F, env, R, h⟩ => tE_bd R h fun d env1 v F1 H1 R1 e1 o1 h1 => h1 _ F1 H1 (R1.storeO i o1) (Ex.refl _)
def SGt (X : Cx) (tg : Expr) (b : PyData → En → Option En) : Prop := ∃ t : TG, PG X tg t ∧ ∀ C F σ H env env' v d Q, Rel X.K C F σ H env → Dp X.K F v d → b d env = some env' → (∀ σ', Rel X.K C F σ' H env' → Q σ' H) → t v σ H Q
def SGts (X : Cx) (tgs : List Expr) (b : List PyData → En → Option En) : Prop := ∃ t : TGs, PGs X tgs t ∧ ∀ C F σ H env env' vs ds Q, Rel X.K C F σ H env → DpAll X.K F vs ds → b ds env = some env' → (∀ σ', Rel X.K C F σ' H env' → Q σ' H) → t vs σ H Q
def bN (i : Nat) : PyData → En → Option En := fun d env => some (env.set i (.val d))
def bNil : List PyData → En → Option En := fun ds env => match ds with
  | [] => some env
  | _ => none
def bCons (b : PyData → En → Option En) (bs : List PyData → En → Option En) : List PyData → En → Option En := fun ds env => match ds with
  | d :: r => (b d env).bind fun env' => bs r env'
  | [] => none
def bTup (n : Nat) (bs : List PyData → En → Option En) : PyData → En → Option En := fun d env => match d with
  | .tuple ds => if ds.length = n then bs ds env else none
  | _ => none
theorem sg_n (i : Nat) (hN : X.N.Nodup) (hi : X.N[i]? = some x := by rfl) (hx : Loc X.env.scope x := by first | exact Or.inl rfl | exact Or.inr rfl)
    (hf : X.fn x = true ∨ X.env.scope.names.lookup x = some .local := by first | exact .inl rfl | exact .inr rfl | assumption) : SGt X (.Name x pos) (bN i) :=
  ⟨_, pg_name hN hi hx hf, fun C F σ H env env' v d Q R hv hb q => by cases hb; exact q _ (R.store i hv)⟩
theorem sgs_nil : SGts X [] bNil :=
  ⟨_, pgs_nil, fun C F σ H env env' vs ds Q R hv hb q => by
    cases hv with
    | nil => cases hb; exact ⟨rfl, q _ R⟩
    | cons _ _ => cases hb⟩
theorem sgs_cons {tg : Expr} {tgs : List Expr} {b bs} (h1 : SGt X tg b) (h2 : SGts X tgs bs) (hs : (assignEach (tg :: tgs) X.env).map (·.2) = assign tg X.env :: (assignEach tgs X.env).map (·.2) := by rfl) : SGts X (tg :: tgs) (bCons b bs) := by
  obtain ⟨t, p, k⟩ := h1
  obtain ⟨ts, ps, ks⟩ := h2
  refine ⟨_, pgs_cons p ps hs, fun C F σ H env env' vs ds Q R hv hb q => ?_⟩
  cases hv with
  | nil => cases hb
  | cons a r =>
    unfold bCons at hb
    simp only at hb
    cases e : b _ env with
    | none => rw [e] at hb; cases hb
    | some env1 => rw [e] at hb; exact ⟨_, _, rfl, k C F σ H env env1 _ _ _ R a e fun σ' R' => ks C F σ' H env1 env' _ _ _ R' r hb q⟩
theorem sg_tup {tgs : List Expr} {k : Nat} {bs} {n : Nat} (hc : X.calm = true) (h : SGts X tgs bs) (hn : (assignEach tgs X.env).length = n := by rfl) (hst : (assignEach tgs X.env).findIdx? (·.1) = none := by rfl) : SGt X (.Tuple tgs k pos) (bTup n bs) := by
  obtain ⟨ts, ps, ks⟩ := h
  refine ⟨_, pg_tup hc ps hn hst, fun C F σ H env env' v d Q R hv hb q => ?_⟩
  unfold bTup at hb
  split at hb
  · split at hb
    · rename_i hl
      cases hv with
      | tup s r => exact ⟨_, _, rfl, ex_t R.fh s, by rw [r.len]; exact hl, ks C F σ H env env' _ _ _ R r hb q⟩
    · cases hb
  · cases hb
def gAs (b : PyData → En → Option En) (d : PyData) : S := fun env => (b d env).map .nx
theorem ss_asg {tg : Expr} {b} (he : SV X W e ga) (hg : SGt X tg b) (hs : swapsWithSole [tg] e pos.line X.env = pure false := by rfl) (hw : swappedStores [tg] e X.env = pure none := by rfl)
    (h1 : (assignEach [tg] X.env).map (·.2) = [assign tg X.env] := by rfl) : SS X W (.Assign [tg] e pos) (gE ga (gAs b)) := by
  obtain ⟨t, p, k⟩ := hg
  refine ps_imp (ps_asg he p hs hw h1) fun D σ H ⟨C, F, env, R, h⟩ => tE_bd R h fun d env1 v F1 H1 R1 e1 o1 h1 => ?_
  unfold gAs at h1
  cases q : b d env1 with
  | none => rw [q] at h1; exact h1.elim
  | some env2 => rw [q] at h1; exact k C F1 σ H1 env1 env2 v d _ R1 o1 q fun σ' R' => h1 σ' F1 H1 R' (Ex.refl _)
def gPar (i j : Nat) (ds : List PyData) : S := fun env => match ds with
  | [d, e] => some (.nx ((env.set i (.val d)).set j (.val e)))
  | _ => none
theorem ss_par {i j : Nat} {px py pt : Pos} {kt k2 pt2} (hc : X.calm = true) (hN : X.N.Nodup) (hi : X.N[i]? = some x) (hj : X.N[j]? = some y) (hij : i ≠ j)
    (hx : X.env.scope.names.lookup x = some .local) (hy : X.env.scope.names.lookup y = some .local) (ha : SA X W [a, b] gl)
    (hw : swappedStores [.Tuple [.Name x px, .Name y py] kt pt] (.Tuple [a, b] k2 pt2) X.env = pure (some [x, y]))
    (hs : swapsWithSole [.Tuple [.Name x px, .Name y py] kt pt] (.Tuple [a, b] k2 pt2) pos.line X.env = pure false := by rfl) :
    SS X W (.Assign [.Tuple [.Name x px, .Name y py] kt pt] (.Tuple [a, b] k2 pt2) pos) (gE gl (gPar i j)) :=
  ps_imp (ps_par hc hN hi hj hij hx hy ha hw hs) fun D σ H ⟨C, F, env, R, h⟩ => tE_bd R h fun ds env1 vs F1 H1 R1 e1 o1 h1 => by
    have o1 : DpAll X.K F1 vs ds := o1
    cases o1 with
    | nil => exact h1.elim
    | cons a1 r1 =>
      cases r1 with
      | nil => exact h1.elim
      | cons a2 r2 =>
        cases r2 with
        | nil => exact ⟨_, _, rfl, h1 _ F1 H1 ((R1.store i a1).store j a2) (Ex.refl _)⟩
        | cons _ _ => exact h1.elim
def gAug (i : Nat) (f : Int → Int → Int) (gb : M PyData) : S := fun env => match env[i]? with
  | some (.val (.int _)) => gE gb (fun e env1 => match env[i]?, e with
    | some (.val (.int a)), .int b => some (.nx (env1.set i (.val (.int (f a b)))))
    | _, _ => none) env
  | _ => none
theorem ss_aug {op : Operator} {f : Int → Int → Int} (i : Nat) (ho : PIp X op (ipI f)) (he : SV X W e gb) (hN : X.N.Nodup) (hi : X.N[i]? = some x := by rfl) (hx : Loc X.env.scope x := by first | exact Or.inl rfl | exact Or.inr rfl)
    (hf : X.fn x = true ∨ X.env.scope.names.lookup x = some .local := by first | exact .inl rfl | exact .inr rfl | assumption) : SS X W (.AugAssign (.Name x pos') op e pos) (gAug i f gb) :=
  ps_imp (ps_aug hN hi hx he ho hf) fun D σ H ⟨C, F, env, R, h⟩ => by
    unfold gAug at h
    split at h
    · rename_i k q
      obtain ⟨v, a1, a2⟩ := R.sl i _ q
      cases a2
      refine ⟨_, a1, tE_bd R h fun d env1 v F1 H1 R1 e1 o1 h1 => ?_⟩
      rw [q] at h1
      cases o1 with
      | int j => exact ⟨_, _, rfl, rfl, h1 _ F1 H1 (R1.store i (.int _)) (Ex.refl _)⟩
      | _ => exact h1.elim
    · exact h.elim
def gSetIx (i : Nat) (gv gi : M PyData) : S := gE gv fun d => gE (gHeld i) fun _ => gE gi fun e => gE (gHeld i) fun ds => match e with
  | .int k => fun env => match ixN ds.length k with
    | some j => gE (gPut i (ds.set j d)) (fun _ => gNx) env
    | none => none
  | _ => fun _ => none
end
end Pf
/-! part Pf7 -/
set_option Elab.async false
set_option linter.all false
set_option maxRecDepth 100000
set_option maxHeartbeats 2000000
namespace Pf
open PySem PySem.Spec L2 Evl
section
variable {K : PySem.W.Frag} {mg : Str → Option Value} {W : WX} {σ : St} {H : Hp} {C : Cn} {F : Hp} {env : En} {α β : Type} {ok : OkR α β} {i : Nat}
theorem tE_held {f : List PyData → S} {D : Ends} (R : Rel K C F σ H env) (h : AftS K mg W C F (gE (gHeld i) f env) D) :
    ∃ ds p vs s, env[i]? = some s ∧ (isOwn s = true ∧ ∀ o, s ≠ .obj o) ∧ σ[i]? = some (some (.ref p)) ∧ H p = some (.lst vs) ∧ DpAll K F vs ds ∧ AftS K mg W C F (f ds env) D := by
  unfold gE gHeld at h
  cases q : env[i]? with
  | none => rw [q] at h; exact h.elim
  | some s =>
    rw [q] at h
    cases s with
    | own ds => obtain ⟨p, vs, a1, _, _, a4, a5⟩ := R.sl i _ q; exact ⟨ds, p, vs, _, rfl, ⟨rfl, fun _ z => by cases z⟩, a1, a4, a5, h⟩
    | bor ds => obtain ⟨p, vs, a1, _, _, a4, a5⟩ := R.sl i _ q; exact ⟨ds, p, vs, _, rfl, ⟨rfl, fun _ z => by cases z⟩, a1, a4, a5, h⟩
    | _ => exact h.elim
theorem put_nx {ds : List PyData} {s : Sl} {D : Ends} (q : env[i]? = some s) (h : AftS K mg W C F (gE (gPut i ds) (fun _ => gNx) env) D) : ∀ σ F' H, Rel K C F' σ H (env.set i (putS ds s)) → Ex F F' → D.nx σ H := by
  unfold gE gPut at h
  rw [q] at h
  exact h
end
section
variable {X : Cx} {W : WX} {e e1 e2 : Expr} {ga gb gv gi : M PyData} {pos p1 p2 p3 apos : Pos} {x : Str}
theorem ss_setIx (i : Nat) (hv : SV X W e gv) (hi : SV X W e1 gi) (hN : X.N[i]? = some x := by rfl) (hvis : Vis X.env.scope x := by first | exact Or.inl rfl | exact Or.inr (Or.inl rfl) | exact Or.inr (Or.inr rfl))
    (hd : (x == ("__debug__" : Str)) = false := by decide) (hcd : (x == ("__classdict__" : Str)) = false := by decide)
    (hs : swapsWithSole [.Subscript (.Name x p1) e1 p2] e pos.line X.env = pure false := by rfl) (hw : swappedStores [.Subscript (.Name x p1) e1 p2] e X.env = pure none := by rfl)
    (h1 : (assignEach [.Subscript (.Name x p1) e1 p2] X.env).map (·.2) = [assign (.Subscript (.Name x p1) e1 p2) X.env] := by rfl)
    (ha : ∀ v, assign (.Subscript (.Name x p1) e1 p2) X.env v = (do
      let ov ← holding [v] (eval (.Name x p1) X.env)
      let iv ← holding [v, ov] (eval e1 X.env)
      standAt p2
      holding [v, ov, iv] (setItem ov iv v)
      release [v, ov, iv] []) := by intro _; rfl) :
    SS X W (.Assign [.Subscript (.Name x p1) e1 p2] e pos) (gSetIx i gv gi) :=
  ps_imp (ps_asg hv (pg_sub (pe_var hN hvis hd hcd) hi set_list ha) hs hw h1) fun D σ H ⟨C, F, env, R, h⟩ => by
    refine tE_bd R h fun d env1 v F1 H1 R1 ex1 o1 h1 => ?_
    obtain ⟨_, p, _, _, _, _, a1, _, _, h2⟩ := tE_held R1 h1
    refine ⟨.ref p, a1, tE_bd R1 h2 fun k env2 w F2 H2 R2 ex2 o2 h3 => ?_⟩
    obtain ⟨ds, p', vs, s, q, qo, b1, b2, b3, h4⟩ := tE_held R2 h3
    rw [a1] at b1
    cases b1
    cases o2 with
    | int k =>
      simp only at h4
      cases hj : ixN ds.length k with
      | none => rw [hj] at h4; exact h4.elim
      | some j =>
        rw [hj] at h4
        refine ⟨p, vs, k, j, rfl, rfl, b2, by rw [b3.len]; exact hj, ?_⟩
        exact put_nx q h4 _ F2 _ (R2.write q qo.1 a1 (DpAll.set (dp_mono ex2 o1) j b3) qo.2) (Ex.refl _)
    | _ => exact h4.elim
def gApp (i : Nat) (gb : M PyData) : S := gE (gHeld i) fun _ => gE gb fun d => gE (gHeld i) fun ds env => if ds.length < 16777216 then gE (gPut i (ds ++ [d])) (fun _ => gNx) env else none
theorem ss_app (i : Nat) (hb : SV X W e gb) (hN : X.N[i]? = some x := by rfl) (hvis : Vis X.env.scope x := by first | exact Or.inl rfl | exact Or.inr (Or.inl rfl) | exact Or.inr (Or.inr rfl))
    (hd : (x == ("__debug__" : Str)) = false := by decide) (hcd : (x == ("__classdict__" : Str)) = false := by decide)
    (hbase : attributeBase (.Name x p1) "append" X.env (eval (.Name x p1) X.env) = eval (.Name x p1) X.env := by rfl)
    (hfew : ((backTo p2 (starEach [e] X.env)).all (fun x => !x.1) && (backToKw p2 (keywordEach [] X.env)).all (fun x => x.1.isSome)
      && decide ([e].length + ([] : List Keyword).length + (if ([] : List Keyword).isEmpty then 0 else 1) < 30)) = true := by rfl)
    (hline : (apos.endLine == p2.line) = true := by rfl) (hs : starEach [e] X.env = (false, eval e X.env) :: starEach [] X.env := by rfl) (hplain : (backTo p2 (starEach [] X.env)).any (·.1) = false := by rfl)
    (hsw : swapsWith (.Call (.Attribute (.Name x p1) "append" apos) [e] [] p2) none pos.line X.env = pure false := by rfl) :
    SS X W (.Expr (.Call (.Attribute (.Name x p1) "append" apos) [e] [] p2) pos) (gApp i gb) :=
  ps_imp (ps_expr (pe_bm PySem.F.plainAttrs_list PySem.F.slot_list_append PySem.F.type_list_append mt_append (pe_var hN hvis hd hcd) (pa_cons hb pa_nil hs) hbase hfew hline hs hplain) hsw) fun D σ H ⟨C, F, env, R, h⟩ => by
    obtain ⟨_, p, vs0, _, _, _, a1, a2, _, h2⟩ := tE_held R h
    refine ⟨.ref p, a1, .inl ⟨rfl, _, SqL.of a2⟩, tE_bd R h2 fun d env2 w F2 H2 R2 ex2 o2 h3 => ?_⟩
    obtain ⟨ds, p', vs, s, q, qo, b1, b2, b3, h4⟩ := tE_held R2 h3
    rw [a1] at b1
    cases b1
    split at h4
    · rename_i hl
      refine ⟨p, vs, w, rfl, rfl, b2, by rw [b3.len, sizeLine_eq]; exact hl, ?_⟩
      exact put_nx q h4 _ F2 _ (R2.write q qo.1 a1 (b3.app (.cons o2 .nil)) qo.2) (Ex.refl _)
    · exact h4.elim
def gPopAt (i : Nat) (gb : M PyData) : M PyData := M.bd (gHeld i) fun _ => M.bd gb fun d => M.bd (gHeld i) fun ds => match d with
  | .int k => if -(2 ^ 63) ≤ k ∧ k < 2 ^ 63 then match seqIndex? k ds.length with
    | some j => match ds[j]? with
      | some y => M.bd (gPut i (ds.eraseIdx j)) fun _ => M.ok y
      | none => M.no
    | none => M.no else M.no
  | _ => M.no
theorem put_bd {K : PySem.W.Frag} {mg : Str → Option Value} {C : Cn} {F : Hp} {σ : St} {env : En} {i : Nat} {ds : List PyData} {s : Sl} {γ δ : Type} {ok : OkR γ δ} {f : Unit → M γ} {Q : δ → Hp → Prop} (q : env[i]? = some s) (h : After K mg ok W C F σ (M.bd (gPut i ds) f env) Q) :
    After K mg ok W C F σ (f () (env.set i (putS ds s))) Q := by
  unfold M.bd gPut at h
  rw [q] at h
  exact h
theorem sv_popAt (i : Nat) (hb : SV X W e gb) (hN : X.N[i]? = some x := by rfl) (hvis : Vis X.env.scope x := by first | exact Or.inl rfl | exact Or.inr (Or.inl rfl) | exact Or.inr (Or.inr rfl))
    (hd : (x == ("__debug__" : Str)) = false := by decide) (hcd : (x == ("__classdict__" : Str)) = false := by decide)
    (hbase : attributeBase (.Name x p1) "pop" X.env (eval (.Name x p1) X.env) = eval (.Name x p1) X.env := by rfl)
    (hfew : ((backTo p2 (starEach [e] X.env)).all (fun x => !x.1) && (backToKw p2 (keywordEach [] X.env)).all (fun x => x.1.isSome)
      && decide ([e].length + ([] : List Keyword).length + (if ([] : List Keyword).isEmpty then 0 else 1) < 30)) = true := by rfl)
    (hline : (apos.endLine == p2.line) = true := by rfl) (hs : starEach [e] X.env = (false, eval e X.env) :: starEach [] X.env := by rfl) (hplain : (backTo p2 (starEach [] X.env)).any (·.1) = false := by rfl) :
    SV X W (.Call (.Attribute (.Name x p1) "pop" apos) [e] [] p2) (gPopAt i gb) :=
  pe_imp (pe_bm PySem.F.plainAttrs_list PySem.F.slot_list_pop PySem.F.type_list_pop mt_popAt (pe_var hN hvis hd hcd) (pa_cons hb pa_nil hs) hbase hfew hline hs hplain) fun σ H Q ⟨C, F, env, R, h⟩ => by
    obtain ⟨_, p, vs0, _, _, _, a1, a2, _, h2⟩ := bd_held R h
    refine ⟨.ref p, a1, .inl ⟨rfl, _, SqL.of a2⟩, tG_bd R h2 fun d env2 w F2 H2 R2 ex2 o2 h3 => ?_⟩
    obtain ⟨ds, p', vs, s, q, qo, b1, b2, b3, h4⟩ := bd_held R2 h3
    rw [a1] at b1
    cases b1
    cases o2 with
    | int k =>
      by_cases hk : -(2 ^ 63) ≤ k ∧ k < 2 ^ 63
      · simp only [hk, and_self, if_true] at h4
        cases hj : seqIndex? k ds.length with
        | none => simp only [hj] at h4; exact h4.elim
        | some j =>
          simp only [hj] at h4
          cases hy : ds[j]? with
          | none => simp only [hy] at h4; exact h4.elim
          | some y =>
            simp only [hy] at h4
            obtain ⟨v, hv, dv⟩ := b3.get hy
            refine ⟨p, vs, k, j, v, rfl, rfl, b2, hk.1, hk.2, by rw [b3.len]; exact hj, hv, ?_⟩
            exact aft (ok := okV X.K) (put_bd q h4) (R2.write q qo.1 a1 (b3.erase j) qo.2) dv
      · simp only [hk, if_false] at h4
        exact h4.elim
    | _ => exact h4.elim
end
def loopL (b : PyData → En → Option En) (g : S) : List PyData → S
  | [] => gNx
  | d :: r => fun env => match b d env with
    | none => none
    | some env1 => match g env1 with
      | some (.nx env2) => loopL b g r env2
      | some (.ct env2) => loopL b g r env2
      | some (.bk env2) => some (.nx env2)
      | o => o
section
variable {K : PySem.W.Frag} {mg : Str → Option Value} {W : WX} {C : Cn} {F : Hp} {env : En} {b : PyData → En → Option En} {g : S} {D : Ends}
def Btw (K : PySem.W.Frag) (mg : Str → Option Value) (W : WX) (C : Cn) (F : Hp) (g : S) (D : Ends) : St → Hp → Prop := fun σ H => ∃ F' env', Rel K C F' σ H env' ∧ Ex F F' ∧ AftS K mg W C F' (g env') D
theorem loop_nil {σ : St} {H : Hp} (h : Btw K mg W C F (loopL b g []) D σ H) : D.nx σ H := by
  obtain ⟨F', env', R, ex, h⟩ := h
  exact h σ F' H R (Ex.refl _)
theorem loop_cons {d : PyData} {r : List PyData} (h : AftS K mg W C F (loopL b g (d :: r) env) D) :
    ∃ env1, b d env = some env1 ∧ AftS K mg W C F (g env1) { D with nx := Btw K mg W C F (loopL b g r) D, ct := Btw K mg W C F (loopL b g r) D, bk := D.nx } := by
  have e : loopL b g (d :: r) env = match b d env with
    | none => none
    | some env1 => match g env1 with
      | some (.nx env2) => loopL b g r env2
      | some (.ct env2) => loopL b g r env2
      | some (.bk env2) => some (.nx env2)
      | o => o := rfl
  rw [e] at h
  cases q : b d env with
  | none => rw [q] at h; exact h.elim
  | some env1 =>
    rw [q] at h
    refine ⟨env1, rfl, ?_⟩
    simp only at h
    cases q2 : g env1 with
    | none => rw [q2] at h; exact h
    | some o =>
      rw [q2] at h
      cases o with
      | nx env2 => exact fun σ F' H R ex => ⟨F', env2, R, ex, h.up ex⟩
      | ct env2 => exact fun σ F' H R ex => ⟨F', env2, R, ex, h.up ex⟩
      | bk env2 => exact h
      | rt d env2 => exact h
      | ro d env2 => exact h
      | rk d env2 => exact h
      | rp d ds env2 => exact h
      | er x env2 => exact h
theorem drop_at {α : Type} {l : List α} {i : Nat} {x : α} (h : l[i]? = some x) : l.drop i = x :: l.drop (i + 1) := by
  obtain ⟨hl, e⟩ := List.getElem?_eq_some_iff.mp h
  rw [List.drop_eq_getElem_cons hl, e]
theorem DpAll_at {K : PySem.W.Frag} {H : Hp} : ∀ {vs : List V} {ds : List PyData} {i : Nat} {v : V}, DpAll K H vs ds → vs[i]? = some v → ∃ d, ds[i]? = some d ∧ Dp K H v d
  | _, _, _, _, .nil, h => by simp at h
  | _, _, 0, _, .cons a _, h => by simp at h; subst h; exact ⟨_, rfl, a⟩
  | _, _, i + 1, _, .cons _ r, h => by
    obtain ⟨v, e, x⟩ := DpAll_at (i := i) r (by simpa using h)
    exact ⟨v, by simpa using e, x⟩
end
section
variable {X : Cx} {W : WX} {iter tg a1 a2 : Expr} {body : List Stmt} {ga gb : M PyData} {b : PyData → En → Option En} {g : S} {pos p1 p2 : Pos}
def gForT (ga : M PyData) (b : PyData → En → Option En) (g : S) : S := gE ga fun d => match d with
  | .tuple ds => loopL b g ds
  | _ => fun _ => none
def gForL (ga : M PyData) (b : PyData → En → Option En) (g : S) : S := gE ga fun d => match d with
  | .list ds => loopL b g ds
  | _ => fun _ => none
theorem ss_forT (hp : PassesOwn (model X.prog X.w) X.A X.env X.xe) (hc : X.calm = true) (hi : SV X W iter ga) (hg : SGt X tg b) (hb : SSs X W body g) (hs : ∀ x, foldedSetIterable iter X.env x = pure x := by intro _; rfl) :
    SS X W (.For tg iter body [] pos) (gForT ga b g) := by
  obtain ⟨t, pt, kt⟩ := hg
  refine ps_imp (ps_for hp hc (pi_tup hi) pt hb hs) fun D σ H ⟨C, F, env, R, h⟩ => tE_bd R h fun d env1 v F1 H1 R1 e1 o1 h1 => ?_
  cases o1 with
  | tup s r =>
    rename_i a xs ds
    refine ⟨a, rfl, ⟨xs, ex_t R1.fh s⟩, for_tup (xs := xs) (fun i => Btw X.K X.mg W C F1 (loopL b g (ds.drop i)) D) ⟨F1, env1, R1, Ex.refl _, h1⟩ (fun i σ H _ ⟨F', env', R', ex, _⟩ => ex_t (ex.trans R'.fh) s) (fun i x σ H hx ⟨F', env', R', ex, h2⟩ => ?_) (fun σ H hB => ?_)⟩
    · obtain ⟨d, hd, dd⟩ := DpAll_at r hx
      rw [drop_at hd] at h2
      obtain ⟨env2, hb2, h3⟩ := loop_cons h2
      refine kt C F' σ H env' env2 x d _ R' (dp_mono ex dd) hb2 fun σ2 R2 => ⟨C, F', env2, R2, ?_⟩
      exact h3.imp (fun _ _ ⟨F2, env3, R3, ex3, q⟩ => ⟨F2, env3, R3, ex.trans ex3, q⟩) (fun _ _ z => z) (fun _ _ z => z) (fun _ _ ⟨F2, env3, R3, ex3, q⟩ => ⟨F2, env3, R3, ex.trans ex3, q⟩)
    · have e : ds.drop xs.length = [] := List.drop_eq_nil_of_le (Nat.le_of_eq r.len.symm)
      rw [e] at hB
      exact loop_nil hB
  | _ => exact h1.elim
theorem ss_forL (hp : PassesOwn (model X.prog X.w) X.A X.env X.xe) (hc : X.calm = true) (hi : SV X W iter ga) (hg : SGt X tg b) (hb : SSs X W body g) (hs : ∀ x, foldedSetIterable iter X.env x = pure x := by intro _; rfl) :
    SS X W (.For tg iter body [] pos) (gForL ga b g) := by
  obtain ⟨t, pt, kt⟩ := hg
  refine ps_imp (ps_for hp hc (pi_list hi) pt hb hs) fun D σ H ⟨C, F, env, R, h⟩ => tE_bd R h fun d env1 v F1 H1 R1 e1 o1 h1 => ?_
  cases o1 with
  | lst s r =>
    rename_i a xs ds
    refine ⟨a, rfl, ⟨xs, ex_l R1.fh s⟩, for_list (xs := xs) (fun i => Btw X.K X.mg W C F1 (loopL b g (ds.drop i)) D) ⟨F1, env1, R1, Ex.refl _, h1⟩ (fun i σ H _ ⟨F', env', R', ex, _⟩ => ex_l (ex.trans R'.fh) s) (fun i x σ H hx ⟨F', env', R', ex, h2⟩ => ?_) (fun σ H hB => ?_)⟩
    · obtain ⟨d, hd, dd⟩ := DpAll_at r hx
      rw [drop_at hd] at h2
      obtain ⟨env2, hb2, h3⟩ := loop_cons h2
      refine kt C F' σ H env' env2 x d _ R' (dp_mono ex dd) hb2 fun σ2 R2 => ⟨C, F', env2, R2, ?_⟩
      exact h3.imp (fun _ _ ⟨F2, env3, R3, ex3, q⟩ => ⟨F2, env3, R3, ex.trans ex3, q⟩) (fun _ _ z => z) (fun _ _ z => z) (fun _ _ ⟨F2, env3, R3, ex3, q⟩ => ⟨F2, env3, R3, ex.trans ex3, q⟩)
    · have e : ds.drop xs.length = [] := List.drop_eq_nil_of_le (Nat.le_of_eq r.len.symm)
      rw [e] at hB
      exact loop_nil hB
  | _ => exact h1.elim
def rngD (lo : Int) (n : Nat) : List PyData := (List.range n).map fun (i : Nat) => .int (lo + (i : Int))
theorem rngD_len {lo : Int} {n : Nat} : (rngD lo n).length = n := by unfold rngD; rw [List.length_map, List.length_range]
theorem rngD_at {lo : Int} {n i : Nat} (h : i < n) : (rngD lo n)[i]? = some (.int (lo + (i : Int))) := by
  unfold rngD
  rw [List.getElem?_map, List.getElem?_range h]
  rfl
def gForR1 (ga : M PyData) (b : PyData → En → Option En) (g : S) : S := gE ga fun d => match d with
  | .int n => if -(2 ^ 62) ≤ n ∧ n < 2 ^ 62 then loopL b g (rngD 0 n.toNat) else fun _ => none
  | _ => fun _ => none
theorem ss_forR1 (hp : PassesOwn (model X.prog X.w) X.A X.env X.xe) (hc : X.calm = true) (hgl : Gl X "range") (hm : X.mg "range" = none) (hi : SV X W a1 ga) (hg : SGt X tg b) (hb : SSs X W body g)
    (h1 : starEach [a1] X.env = [(false, eval a1 X.env)] := by rfl) (h2 : starEach [a1] X.env = (false, eval a1 X.env) :: starEach [] X.env := by rfl) (hs : ∀ x, foldedSetIterable (.Call (.Name "range" p1) [a1] [] p2) X.env x = pure x := by intro _; rfl) :
    SS X W (.For tg (.Call (.Name "range" p1) [a1] [] p2) body [] pos) (gForR1 ga b g) := by
  obtain ⟨t, pt, kt⟩ := hg
  refine ps_imp (ps_for hp hc (pi_range1 hgl hm (pa_cons hi pa_nil h2) h1) pt hb hs) fun D σ H ⟨C, F, env, R, h⟩ => tE_bd R h fun d env1 v F1 H1 R1 e1 o1 h1 => ?_
  cases o1 with
  | int n =>
    simp only at h1
    split at h1
    · rename_i hn
      refine ⟨n, rfl, hn.1, hn.2, for_range (lo := 0) (n := n.toNat) (fun i => Btw X.K X.mg W C F1 (loopL b g ((rngD 0 n.toNat).drop i)) D) ⟨F1, env1, R1, Ex.refl _, h1⟩ (fun i σ H hx ⟨F', env', R', ex, h2⟩ => ?_) (fun σ H hB => ?_)⟩
      · rw [drop_at (rngD_at hx)] at h2
        obtain ⟨env2, hb2, h3⟩ := loop_cons h2
        refine kt C F' σ H env' env2 _ _ _ R' (.int _) hb2 fun σ2 R2 => ⟨C, F', env2, R2, ?_⟩
        exact h3.imp (fun _ _ ⟨F2, env3, R3, ex3, q⟩ => ⟨F2, env3, R3, ex.trans ex3, q⟩) (fun _ _ z => z) (fun _ _ z => z) (fun _ _ ⟨F2, env3, R3, ex3, q⟩ => ⟨F2, env3, R3, ex.trans ex3, q⟩)
      · have e : (rngD 0 n.toNat).drop n.toNat = [] := List.drop_eq_nil_of_le (by rw [rngD_len]; exact Nat.le_refl _)
        rw [e] at hB
        exact loop_nil hB
    · exact h1.elim
  | _ => exact h1.elim
def loopW (gt : M Bool) (g : S) : Nat → S
  | 0 => fun _ => none
  | n + 1 => gE gt fun k => if k = true then fun env => match g env with
      | some (.nx env2) => loopW gt g n env2
      | some (.ct env2) => loopW gt g n env2
      | some (.bk env2) => some (.nx env2)
      | o => o else gNx
theorem ss_while {c : Expr} {gt : M Bool} (n : Nat) (hp : PassesOwn (model X.prog X.w) X.A X.env X.xe) (hc : ST X W c gt) (hb : SSs X W body g) : SS X W (.While c body [] pos) (loopW gt g n) :=
  ps_imp (ps_while hp hc hb) fun D σ H ⟨C, F, env, R, h⟩ => by
    refine ⟨fun m => Btw X.K X.mg W C F (loopW gt g m) D, ⟨n, F, env, R, Ex.refl _, h⟩, fun m σ H ⟨F', env', R', ex, h2⟩ => ?_⟩
    cases m with
    | zero => exact h2.elim
    | succ m =>
      have h2 : AftS X.K X.mg W C F' (gE gt (fun k => if k = true then fun env => match g env with
        | some (.nx env2) => loopW gt g m env2
        | some (.ct env2) => loopW gt g m env2
        | some (.bk env2) => some (.nx env2)
        | o => o else gNx) env') D := h2
      refine tE_bd R' h2 fun k env2 k' F2 H2 R2 ex2 o2 h3 => ?_
      cases o2
      cases k with
      | false => exact h3 σ F2 H2 R2 (Ex.refl _)
      | true =>
        rw [if_pos rfl]
        refine ⟨Btw X.K X.mg W C F (loopW gt g m) D, fun σ' H' q => ⟨m, Nat.lt_succ_self m, q⟩, C, F2, env2, R2, ?_⟩
        simp only [if_true] at h3
        cases q2 : g env2 with
        | none => rw [q2] at h3; exact h3
        | some o =>
          rw [q2] at h3
          cases o with
          | nx env3 => exact fun σ F' H R ex3 => ⟨F', env3, R, (ex.trans ex2).trans ex3, h3.up ex3⟩
          | ct env3 => exact fun σ F' H R ex3 => ⟨F', env3, R, (ex.trans ex2).trans ex3, h3.up ex3⟩
          | bk env2 => exact h3
          | rt d env2 => exact h3
          | ro d env2 => exact h3
          | rk d env2 => exact h3
          | rp d ds env2 => exact h3
          | er x env2 => exact h3
end
end Pf
/-! part Pf8 -/
set_option Elab.async false
set_option linter.all false
set_option maxRecDepth 100000
set_option maxHeartbeats 2000000
namespace Pf
open PySem PySem.Spec L2 Evl
def wipeE : List Nat → En → En
  | [], env => env
  | v :: vs, env => (wipeE vs env).set v .no
def backE (env0 : En) : List Nat → En → En
  | [], env => env
  | v :: vs, env => (backE env0 vs env).set v (match env0[v]? with
    | some (.val d) => .val d
    | _ => .no)
theorem wipeE_at {env : En} {i : Nat} {s : Sl} : ∀ {vs : List Nat}, (wipeE vs env)[i]? = some s → (i ∈ vs ∧ s = .no) ∨ (i ∉ vs ∧ env[i]? = some s)
  | [], h => .inr ⟨by simp, h⟩
  | v :: vs, h => by
    unfold wipeE at h
    rcases set_at h with ⟨rfl, rfl, _⟩ | ⟨ne, h⟩
    · exact .inl ⟨List.mem_cons_self, rfl⟩
    · rcases wipeE_at h with ⟨a, b⟩ | ⟨a, b⟩
      · exact .inl ⟨List.mem_cons_of_mem _ a, b⟩
      · exact .inr ⟨by simp only [List.mem_cons, not_or]; exact ⟨ne, a⟩, b⟩
theorem backE_at {env0 env : En} {i : Nat} {s : Sl} : ∀ {vs : List Nat}, (backE env0 vs env)[i]? = some s → (i ∈ vs ∧ (s = .no ∨ ∃ d, s = .val d ∧ env0[i]? = some (.val d))) ∨ (i ∉ vs ∧ env[i]? = some s)
  | [], h => .inr ⟨by simp, h⟩
  | v :: vs, h => by
    unfold backE at h
    rcases set_at h with ⟨rfl, rfl, _⟩ | ⟨ne, h⟩
    · refine .inl ⟨List.mem_cons_self, ?_⟩
      split
      · rename_i d q; exact .inr ⟨d, rfl, q⟩
      · exact .inl rfl
    · rcases backE_at h with ⟨a, b⟩ | ⟨a, b⟩
      · exact .inl ⟨List.mem_cons_of_mem _ a, b⟩
      · exact .inr ⟨by simp only [List.mem_cons, not_or]; exact ⟨ne, a⟩, b⟩
theorem wipeE_len (env : En) : ∀ vs : List Nat, (wipeE vs env).length = env.length
  | [] => rfl
  | v :: vs => by unfold wipeE; rw [List.length_set, wipeE_len env vs]
theorem backE_len (env0 env : En) : ∀ vs : List Nat, (backE env0 vs env).length = env.length
  | [] => rfl
  | v :: vs => by unfold backE; rw [List.length_set, backE_len env0 env vs]
section
variable {K : PySem.W.Frag} {mg : Str → Option Value} {W : WX} {C : Cn} {F : Hp} {σ : St} {H : Hp} {env : En} {vs : List Nat}
theorem Rel.wipe (R : Rel K C F σ H env) (vs : List Nat) : Rel K C F (L2.wipe σ vs) H (wipeE vs env) where
  fh := R.fh
  cf := R.cf
  new := R.new
  pres := R.pres
  bd := R.bd
  sl := fun i s h => by
    rcases wipeE_at h with ⟨_, rfl⟩ | ⟨ne, h⟩
    · trivial
    · rw [wipe_out ne]; exact R.sl i s h
  dis := fun i j p o1 o2 => by
    have back : ∀ {i : Nat}, Owned (L2.wipe σ vs) (wipeE vs env) i p → Owned σ env i p := fun {i} ⟨s, e, b, a⟩ => by
      rcases wipeE_at e with ⟨_, rfl⟩ | ⟨ne, e⟩
      · cases b
      · exact ⟨s, e, b, by rw [wipe_out ne] at a; exact a⟩
    exact R.dis i j p (back o1) (back o2)
  len := by rw [wipeE_len, wipe_length]; exact R.len
  tb := R.tb
  nt := R.nt
theorem Rel.rewipe {σ2 : St} (R : Rel K C F σ2 H env) (e : L2.wipe σ2 vs = L2.wipe σ vs) : Rel K C F (L2.wipe σ vs) H (wipeE vs env) := by
  rw [← e]; exact R.wipe vs
theorem Rel.back {F0 H0 : Hp} {env0 : En} (R0 : Rel K C F0 σ H0 env0) (R : Rel K C F (L2.wipe σ vs) H env) (ex : Ex F0 F) : Rel K C F σ H (backE env0 vs env) where
  fh := R.fh
  cf := R.cf
  new := R.new
  pres := R.pres
  bd := R.bd
  sl := fun i s h => by
    rcases backE_at h with ⟨_, rfl | ⟨d, rfl, q⟩⟩ | ⟨ne, h⟩
    · trivial
    · obtain ⟨v, a1, a2⟩ := R0.sl i _ q
      exact ⟨v, a1, dp_mono ex a2⟩
    · have q := R.sl i s h
      rw [wipe_out ne] at q
      exact q
  dis := fun i j p o1 o2 => by
    have back : ∀ {i : Nat}, Owned σ (backE env0 vs env) i p → Owned (L2.wipe σ vs) env i p := fun {i} ⟨s, e, b, a⟩ => by
      rcases backE_at e with ⟨_, rfl | ⟨d, rfl, q⟩⟩ | ⟨ne, e⟩
      · cases b
      · cases b
      · exact ⟨s, e, b, by rw [wipe_out ne]; exact a⟩
    exact R.dis i j p (back o1) (back o2)
  len := by rw [backE_len, R.len, wipe_length]
  tb := R.tb
  nt := R.nt
theorem Rel.reguard {F0 H0 : Hp} {σ0 : St} {env0 : En} (R0 : Rel K C F0 σ0 H0 env0) {p : Addr} {xs ys : List V} (h2 : C.H p = none) (h3 : C.F p = none) (R : Rel K (C.guard p (.lst xs)) F σ H env) : F p = none ∧ Rel K (C.guard p (.lst ys)) F σ (upd H p (.lst ys)) env := by
  have hf : F p = none := by
    cases q : F p with
    | none => rfl
    | some u => have z : upd C.H p (.lst xs) p = none := R.new p h3 (by rw [q]; simp); rw [upd_same] at z; cases z
  have U := Rel.unguard R0 h2 R
  have ownne : ∀ i q, Owned σ env i q → q ≠ p := fun i q ⟨s, e, b, a⟩ z => by
    subst z
    have t := R.sl i s e
    cases s with
    | own es => obtain ⟨p', ws, a1, a2, a3, _⟩ := t; rw [a] at a1; cases a1; have a3 : upd C.H q (.lst xs) q = none := a3; rw [upd_same] at a3; cases a3
    | bor es => obtain ⟨p', ws, a1, a2, a3, _⟩ := t; rw [a] at a1; cases a1; exact (R0.bd q a3).2.2 h2
    | obj ob => obtain ⟨p', a1, a2, a3, _⟩ := t; rw [a] at a1; cases a1; have a3 : upd C.H q (.lst xs) q = none := a3; rw [upd_same] at a3; cases a3
    | _ => cases b
  refine ⟨hf, ?_⟩
  have G : Rel K C F σ (upd H p (.lst ys)) env := {
    fh := U.fh.mut hf
    cf := U.cf
    new := U.new
    pres := fun a u q hb => by rw [upd_ne (ne_of_none q h2)]; exact U.pres a u q hb
    bd := fun b hb => by
      refine ⟨?_, (U.bd b hb).2⟩
      have ne : b ≠ p := fun e => (R0.bd b hb).2.2 (by rw [e]; exact h2)
      rw [upd_ne ne]; exact (U.bd b hb).1
    sl := fun i s hs => by
      have q := U.sl i s hs
      cases s with
      | no => trivial
      | val d => exact q
      | own es => obtain ⟨p', ws, a1, a2, a3, a4, a5⟩ := q; exact ⟨p', ws, a1, a2, a3, by rw [upd_ne (ownne i p' ⟨_, hs, rfl, a1⟩)]; exact a4, a5⟩
      | bor es => obtain ⟨p', ws, a1, a2, a3, a4, a5⟩ := q; exact ⟨p', ws, a1, a2, a3, by rw [upd_ne (ownne i p' ⟨_, hs, rfl, a1⟩)]; exact a4, a5⟩
      | obj ob => obtain ⟨p', a1, a2, a3, a4⟩ := q; exact ⟨p', a1, a2, a3, by rw [upd_ne (ownne i p' ⟨_, hs, rfl, a1⟩)]; exact a4⟩
      | raw v => exact q
      | exc a dd fs => exact q
      | tab T => exact q
      | lam b ls => exact lamSl_mono (Ex.refl _) (codeKept_ne (Rel.guarded (fun b hb => (R0.bd b hb).2.2) h2 R) lst_code fun a o ne e => by rw [upd_ne ne]; exact e) q
    dis := U.dis
    len := U.len
    nt := U.nt
    tb := tabs_lst U.tb (Rel.guarded (fun b hb => (R0.bd b hb).2.2) h2 R) fun a o ne e => by rw [upd_ne ne]; exact e }
  exact G.guard hf h2 upd_same fun i o => ownne i p o rfl
end
def loopC (vs : List Nat) (b : PyData → En → Option En) (gt : M Bool) (ge : M PyData) : List PyData → List PyData → En → Option (List PyData × En)
  | [], acc, env => some (acc, env)
  | d :: r, acc, env => match b d env with
    | none => none
    | some env1 => match gt env1 with
      | some (.ok (true, env2)) => match ge env2 with
        | some (.ok (y, env3)) => if acc.length < 16777216 then loopC vs b gt ge r (acc ++ [y]) (wipeE vs env3) else none
        | _ => none
      | some (.ok (false, env2)) => loopC vs b gt ge r acc (wipeE vs env2)
      | _ => none
def gLc (vs : List Nat) (b : PyData → En → Option En) (gt : M Bool) (ge : M PyData) (ds : List PyData) : M (List PyData) := fun env => match loopC vs b gt ge ds [] (wipeE vs env) with
  | none => none
  | some (acc, env') => some (.ok (acc, backE env vs env'))
def gYes : M Bool := M.ok true
abbrev W0 : WX := fun _ _ _ _ => False
section
variable {K : PySem.W.Frag} {mg : Str → Option Value} {W : WX} {C : Cn} {F0 F1 : Hp} {σ : St} {H1 : Hp} {env1 : En} {vs : List Nat} {b : PyData → En → Option En} {gt : M Bool} {ge : M PyData} {ds : List PyData} {Q : VK} {g : TG}
def BtwC (K : PySem.W.Frag) (C : Cn) (F1 : Hp) (σ : St) (vs : List Nat) (b : PyData → En → Option En) (gt : M Bool) (ge : M PyData) (D : Addr) (out : List PyData × En) (r : List PyData) (H : Hp) : Prop :=
  ∃ F env accV acc, Rel K (C.guard D (.lst accV)) F (wipe σ vs) H env ∧ Ex F1 F ∧ DpAll K F accV acc ∧ loopC vs b gt ge r acc env = some out
theorem btw_start {D : Addr} {out} (R : Rel K C F1 σ H1 env1) (hD : H1 D = none) (h : loopC vs b gt ge ds [] (wipeE vs env1) = some out) : BtwC K C F1 σ vs b gt ge D out ds (upd H1 D (.lst [])) := by
  have f := R.fresh hD
  refine ⟨F1, _, [], [], ?_, Ex.refl _, .nil, h⟩
  have R' := (R.newH (o := .lst []) hD).wipe vs
  exact R'.guard f.1 f.2 upd_same fun i o => by
    obtain ⟨s, e, o, a⟩ := o
    have q := R'.sl i s e
    rcases wipeE_at e with ⟨_, rfl⟩ | ⟨ne, e⟩
    · cases o
    · have q := R.sl i s e
      rw [wipe_out ne] at a
      cases s with
      | own es => obtain ⟨p', ws, a1, a2, a3, a4, a5⟩ := q; rw [a] at a1; cases a1; rw [hD] at a4; cases a4
      | bor es => obtain ⟨p', ws, a1, a2, a3, a4, a5⟩ := q; rw [a] at a1; cases a1; rw [hD] at a4; cases a4
      | obj ob => obtain ⟨p', a1, a2, a3, a4⟩ := q; rw [a] at a1; cases a1; rw [hD] at a4; cases a4
      | _ => cases o
theorem btw_turn {D : Addr} {out} {H : Hp} {x : V} {d : PyData} {r : List PyData} {j : Nat} (R0 : Rel K C F1 σ H1 env1) (hD : H1 D = none) (hj : j ∈ vs) (hb : b = bN j) (hx : Dp K F1 x d) (h : BtwC K C F1 σ vs b gt ge D out (d :: r) H) :
    wipe ((wipe σ vs).set j (some x)) vs = wipe σ vs ∧ tG K mg okB W0 gt ((wipe σ vs).set j (some x)) H fun k H3 => if k = true then tG K mg (okV K) W0 ge ((wipe σ vs).set j (some x)) H3 fun y H4 => ∃ acc, H4 D = some (.lst acc) ∧ acc.length < sizeLine ∧ BtwC K C F1 σ vs b gt ge D out r (upd H4 D (.lst (acc ++ [y])))
      else BtwC K C F1 σ vs b gt ge D out r H3 := by
  have f := R0.fresh hD
  have hw : wipe ((wipe σ vs).set j (some x)) vs = wipe σ vs := by
    have key : ∀ (τ : St) (ws : List Nat), (∀ i, i ∉ ws → τ[i]? = σ[i]?) → τ.length = σ.length → ∀ us : List Nat, us ⊆ ws → ∀ i, (i ∈ us ∨ i ∉ ws) → (wipe τ us)[i]? = (wipe σ us)[i]? := by
      intro τ ws ht hl us
      induction us with
      | nil =>
        intro _ i hi
        rcases hi with hi | hi
        · cases hi
        · exact ht i hi
      | cons u us ih =>
        intro hs i hi
        unfold wipe
        by_cases e : u = i
        · subst e
          by_cases hu : u < σ.length
          · rw [List.getElem?_set_self (by rw [wipe_length, hl]; exact hu), List.getElem?_set_self (by rw [wipe_length]; exact hu)]
          · rw [List.getElem?_eq_none (by rw [List.length_set, wipe_length, hl]; omega), List.getElem?_eq_none (by rw [List.length_set, wipe_length]; omega)]
        · rw [List.getElem?_set_ne e, List.getElem?_set_ne e]
          refine ih (fun z hz => hs (List.mem_cons_of_mem _ hz)) i ?_
          rcases hi with hi | hi
          · rcases List.mem_cons.mp hi with rfl | hi
            · exact absurd rfl e
            · exact .inl hi
          · exact .inr hi
    have same : ∀ (τ : St), (∀ i, i ∉ vs → τ[i]? = σ[i]?) → τ.length = σ.length → wipe τ vs = wipe σ vs := fun τ ht hl => by
      apply List.ext_getElem?
      intro i
      by_cases hi : i ∈ vs
      · exact key τ vs ht hl vs (fun _ z => z) i (.inl hi)
      · exact key τ vs ht hl vs (fun _ z => z) i (.inr hi)
    refine same _ (fun i hi => ?_) (by rw [List.length_set, wipe_length])
    rw [List.getElem?_set_ne (fun e => hi (by rw [← e]; exact hj)), wipe_out hi]
  refine ⟨hw, ?_⟩
  obtain ⟨F, env, accV, acc, R, ex, ha, hl⟩ := h
  subst hb
  have hl : (match gt (env.set j (.val d)) with
      | some (.ok (true, env2)) => match ge env2 with
        | some (.ok (y, env3)) => if acc.length < 16777216 then loopC vs (bN j) gt ge r (acc ++ [y]) (wipeE vs env3) else none
        | _ => none
      | some (.ok (false, env2)) => loopC vs (bN j) gt ge r acc (wipeE vs env2)
      | _ => none) = some out := hl
  refine ⟨_, F, env.set j (.val d), R.store j (dp_mono ex hx), ?_⟩
  cases q : gt (env.set j (.val d)) with
  | none => rw [q] at hl; cases hl
  | some z =>
    rw [q] at hl
    cases z with
    | error z => cases hl
    | ok z =>
      obtain ⟨k, env2⟩ := z
      intro k' F3 H3 R3 ex3 ek
      cases ek
      cases k with
      | false => exact ⟨F3, _, accV, acc, R3.rewipe hw, ex.trans ex3, dps_mono ex3 ha, hl⟩
      | true =>
        simp only [if_true] at hl ⊢
        refine ⟨_, F3, env2, R3, ?_⟩
        cases q2 : ge env2 with
        | none => rw [q2] at hl; cases hl
        | some z =>
          rw [q2] at hl
          cases z with
          | error z => cases hl
          | ok z =>
            obtain ⟨y, env3⟩ := z
            intro v F4 H4 R4 ex4 dv
            simp only at hl
            split at hl
            · rename_i hlen
              have hG : H4 D = some (.lst accV) := R4.guarded (fun b hb => (R0.bd b hb).2.2) f.2
              have hcf : C.F D = none := by
                cases z : C.F D with
                | none => rfl
                | some u => have := R0.cf D u z; rw [f.1] at this; cases this
              obtain ⟨hf4, R5⟩ := Rel.reguard (ys := (accV ++ [v])) R0 f.2 hcf R4
              have ha4 := dps_mono ex4 (dps_mono ex3 ha)
              refine ⟨accV, hG, by rw [ha4.len, sizeLine_eq]; exact hlen, F4, _, accV ++ [v], acc ++ [y], R5.rewipe hw, (ex.trans ex3).trans ex4, ha4.app (.cons dv .nil), hl⟩
            · cases hl
theorem btw_end {D : Addr} {acc : List PyData} {env' : En} {H : Hp} (R0 : Rel K C F1 σ H1 env1) (hD : H1 D = none) (h : BtwC K C F1 σ vs b gt ge D (acc, env') [] H) :
    ∃ F, Rel K C F σ H (backE env1 vs env') ∧ Ex F1 F ∧ okO K C F σ H (backE env1 vs env') acc (.ref D) := by
  have f := R0.fresh hD
  obtain ⟨F, env, accV, acc', R, ex, ha, hl⟩ := h
  have e : (acc', env) = (acc, env') := Option.some.inj hl
  cases e
  have hG : H D = some (.lst accV) := R.guarded (fun b hb => (R0.bd b hb).2.2) f.2
  have hcf : C.F D = none := by
    cases z : C.F D with
    | none => rfl
    | some u => have := R0.cf D u z; rw [f.1] at this; cases this
  have hf := (Rel.reguard (ys := accV) R0 f.2 hcf R).1
  have U := Rel.unguard R0 f.2 R
  have B := R0.back U ex
  refine ⟨F, B, ex, D, accV, rfl, hf, f.2, hG, ha, fun i ⟨s, e1, e2, e3⟩ => ?_⟩
  rcases backE_at e1 with ⟨_, rfl | ⟨d, rfl, _⟩⟩ | ⟨ne, e1⟩
  · cases e2
  · cases e2
  · have q := R.sl i s e1
    rw [wipe_out ne, e3] at q
    cases s with
    | own es => obtain ⟨p', ws, a1, a2, a3, _⟩ := q; cases a1; have a3 : upd C.H D (.lst accV) D = none := a3; rw [upd_same] at a3; cases a3
    | bor es => obtain ⟨p', ws, a1, a2, a3, _⟩ := q; cases a1; exact (R0.bd D a3).2.2 f.2
    | obj ob => obtain ⟨p', a1, a2, a3, _⟩ := q; cases a1; have a3 : upd C.H D (.lst accV) D = none := a3; rw [upd_same] at a3; cases a3
    | _ => cases e2
theorem lc_out {env : En} {ds : List PyData} (h : After K mg (okO K) W C F1 σ (gLc vs b gt ge ds env) Q) : ∃ out, loopC vs b gt ge ds [] (wipeE vs env) = some out ∧ After K mg (okO K) W C F1 σ (M.ok out.1 (backE env vs out.2)) Q := by
  unfold gLc at h
  cases q : loopC vs b gt ge ds [] (wipeE vs env) with
  | none => rw [q] at h; exact h.elim
  | some o => rw [q] at h; exact ⟨o, rfl, h⟩
end
section
variable {X : Cx} {W : WX} {elt iter a1 a2 : Expr} {ifs : List Expr} {scope : Scope} {own : List (Str × Nat)} {ga gb : M PyData} {gt : M Bool} {ge : M PyData} {pos p0 p1 p2 : Pos} {x : Str} {j : Nat}
def tupO (d : PyData) : Option (List PyData) := match d with
  | .tuple ds => some ds
  | _ => none
def lstO (d : PyData) : Option (List PyData) := match d with
  | .list ds => some ds
  | _ => none
def rngO (d : PyData) : Option (List PyData) := match d with
  | .int n => if -(2 ^ 62) ≤ n ∧ n < 2 ^ 62 then some (rngD 0 n.toNat) else none
  | _ => none
abbrev STs (X : Cx) (W : WX) (ifs : List Expr) (g : M Bool) : Prop := PTs X ifs (tG X.K X.mg okB W g)
theorem sts_nil : STs X W [] gYes := ⟨fun pins s σ H Q I ⟨C, F, env, R, h⟩ => pts_nil.run pins s σ H Q I (aft (ok := okB) h R rfl)⟩
theorem sts_one {c : Expr} {g : M Bool} (h : ST X W c g) : STs X W [c] g := pts_one h
theorem so_lcT (hc : X.calm = true) (hN : X.N.Nodup) (hi : SV X W iter ga) (ok : BlkOk X.N X.env.scope scope own) (hj : j ∈ own.map (·.2))
    (hg : ∀ (s : Shared) (H : Hp) (C : Addr) (cl : List (Str × Addr)) (fp : List Addr), PG (X.blk s H scope (compEnvC scope cl C X.env) fp) (.Name x p1) (gName j)) (ht : ∀ (s : Shared) (H : Hp) (C : Addr) (cl : List (Str × Addr)) (fp : List Addr), STs (X.blk s H scope (compEnvC scope cl C X.env) fp) W0 ifs gt)
    (he : ∀ (s : Shared) (H : Hp) (C : Addr) (cl : List (Str × Addr)) (fp : List Addr), SV (X.blk s H scope (compEnvC scope cl C X.env) fp) W0 elt ge) (hs : ∀ x, foldedSetIterable iter X.env x = pure x := by intro _; rfl) :
    SO X W (.ListComp elt [⟨.Name x p1, iter, ifs, 0⟩] scope pos) (M.bd ga fun d => M.bd (M.opt (tupO d)) fun ds => gLc (own.map (·.2)) (bN j) gt ge ds) :=
  pe_imp (pe_lc (tt := tG X.K X.mg okB W0 gt) (te := tG X.K X.mg (okV X.K) W0 ge) hc hN (pi_tup hi) ok hg ht he hs) fun σ H Q ⟨C, F, env, R, h⟩ => tG_bd R h fun d env1 v F1 H1 R1 e1 o1 h1 => by
    obtain ⟨ds, hds, h2⟩ := bd_opt h1
    obtain ⟨out, hl, h3⟩ := lc_out h2
    cases o1 with
    | tup s r =>
      cases hds
      rename_i a xs
      refine ⟨a, rfl, ⟨xs, ex_t R1.fh s⟩, fun D hD => lc_tup (xs := xs) (fun i => BtwC X.K C F1 σ (own.map (·.2)) (bN j) gt ge D out (ds.drop i)) (btw_start R1 hD hl) (fun i H _ ⟨F, env, accV, acc, R, ex, _⟩ => ex_t (ex.trans R.fh) s) (fun i x H hx hB => ?_) (fun H hB => ?_)⟩
      · obtain ⟨d, hd, dd⟩ := DpAll_at r hx
        rw [drop_at hd] at hB
        exact btw_turn (mg := X.mg) R1 hD hj rfl dd hB
      · rw [List.drop_eq_nil_of_le (Nat.le_of_eq r.len.symm)] at hB
        obtain ⟨F2, R2, ex2, o2⟩ := btw_end R1 hD hB
        exact aft' (ok := okO X.K) h3 R2 ex2 o2
    | _ => cases hds
theorem so_lcL (hc : X.calm = true) (hN : X.N.Nodup) (hi : SV X W iter ga) (ok : BlkOk X.N X.env.scope scope own) (hj : j ∈ own.map (·.2))
    (hg : ∀ (s : Shared) (H : Hp) (C : Addr) (cl : List (Str × Addr)) (fp : List Addr), PG (X.blk s H scope (compEnvC scope cl C X.env) fp) (.Name x p1) (gName j)) (ht : ∀ (s : Shared) (H : Hp) (C : Addr) (cl : List (Str × Addr)) (fp : List Addr), STs (X.blk s H scope (compEnvC scope cl C X.env) fp) W0 ifs gt)
    (he : ∀ (s : Shared) (H : Hp) (C : Addr) (cl : List (Str × Addr)) (fp : List Addr), SV (X.blk s H scope (compEnvC scope cl C X.env) fp) W0 elt ge) (hs : ∀ x, foldedSetIterable iter X.env x = pure x := by intro _; rfl) :
    SO X W (.ListComp elt [⟨.Name x p1, iter, ifs, 0⟩] scope pos) (M.bd ga fun d => M.bd (M.opt (lstO d)) fun ds => gLc (own.map (·.2)) (bN j) gt ge ds) :=
  pe_imp (pe_lc (tt := tG X.K X.mg okB W0 gt) (te := tG X.K X.mg (okV X.K) W0 ge) hc hN (pi_list hi) ok hg ht he hs) fun σ H Q ⟨C, F, env, R, h⟩ => tG_bd R h fun d env1 v F1 H1 R1 e1 o1 h1 => by
    obtain ⟨ds, hds, h2⟩ := bd_opt h1
    obtain ⟨out, hl, h3⟩ := lc_out h2
    cases o1 with
    | lst s r =>
      cases hds
      rename_i a xs
      refine ⟨a, rfl, ⟨xs, ex_l R1.fh s⟩, fun D hD => lc_list (xs := xs) (fun i => BtwC X.K C F1 σ (own.map (·.2)) (bN j) gt ge D out (ds.drop i)) (btw_start R1 hD hl) (fun i H _ ⟨F, env, accV, acc, R, ex, _⟩ => ex_l (ex.trans R.fh) s) (fun i x H hx hB => ?_) (fun H hB => ?_)⟩
      · obtain ⟨d, hd, dd⟩ := DpAll_at r hx
        rw [drop_at hd] at hB
        exact btw_turn (mg := X.mg) R1 hD hj rfl dd hB
      · rw [List.drop_eq_nil_of_le (Nat.le_of_eq r.len.symm)] at hB
        obtain ⟨F2, R2, ex2, o2⟩ := btw_end R1 hD hB
        exact aft' (ok := okO X.K) h3 R2 ex2 o2
    | _ => cases hds
theorem so_lcR1 (hc : X.calm = true) (hN : X.N.Nodup) (hgl : Gl X "range") (hm : X.mg "range" = none) (hi : SV X W a1 ga) (ok : BlkOk X.N X.env.scope scope own) (hj : j ∈ own.map (·.2))
    (hg : ∀ (s : Shared) (H : Hp) (C : Addr) (cl : List (Str × Addr)) (fp : List Addr), PG (X.blk s H scope (compEnvC scope cl C X.env) fp) (.Name x p1) (gName j)) (ht : ∀ (s : Shared) (H : Hp) (C : Addr) (cl : List (Str × Addr)) (fp : List Addr), STs (X.blk s H scope (compEnvC scope cl C X.env) fp) W0 ifs gt)
    (he : ∀ (s : Shared) (H : Hp) (C : Addr) (cl : List (Str × Addr)) (fp : List Addr), SV (X.blk s H scope (compEnvC scope cl C X.env) fp) W0 elt ge)
    (h1 : starEach [a1] X.env = [(false, eval a1 X.env)] := by rfl) (h2 : starEach [a1] X.env = (false, eval a1 X.env) :: starEach [] X.env := by rfl) (hs : ∀ x, foldedSetIterable (.Call (.Name "range" p0) [a1] [] p2) X.env x = pure x := by intro _; rfl) :
    SO X W (.ListComp elt [⟨.Name x p1, .Call (.Name "range" p0) [a1] [] p2, ifs, 0⟩] scope pos) (M.bd ga fun d => M.bd (M.opt (rngO d)) fun ds => gLc (own.map (·.2)) (bN j) gt ge ds) :=
  pe_imp (pe_lc (tt := tG X.K X.mg okB W0 gt) (te := tG X.K X.mg (okV X.K) W0 ge) hc hN (pi_range1 hgl hm (pa_cons hi pa_nil h2) h1) ok hg ht he hs) fun σ H Q ⟨C, F, env, R, h⟩ => tG_bd R h fun d env1 v F1 H1 R1 e1 o1 h1 => by
    obtain ⟨ds, hds, h2⟩ := bd_opt h1
    obtain ⟨out, hl, h3⟩ := lc_out h2
    cases o1 with
    | int n =>
      simp only [rngO] at hds
      split at hds
      · rename_i hn
        cases hds
        refine ⟨n, rfl, hn.1, hn.2, fun D hD => lc_range (lo := 0) (n := n.toNat) (fun i => BtwC X.K C F1 σ (own.map (·.2)) (bN j) gt ge D out ((rngD 0 n.toNat).drop i)) (btw_start R1 hD hl) (fun i H hx hB => ?_) (fun H hB => ?_)⟩
        · rw [drop_at (rngD_at hx)] at hB
          exact btw_turn (mg := X.mg) R1 hD hj rfl (.int _) hB
        · rw [List.drop_eq_nil_of_le (by rw [rngD_len]; exact Nat.le_refl _)] at hB
          obtain ⟨F2, R2, ex2, o2⟩ := btw_end R1 hD hB
          exact aft' (ok := okO X.K) h3 R2 ex2 o2
      · cases hds
    | _ => cases hds
end
end Pf
/-! part Pf9 -/
set_option Elab.async false
set_option linter.all false
set_option maxRecDepth 100000
set_option maxHeartbeats 2000000
namespace Pf
open PySem PySem.Spec L2 Evl
structure Exit (F H : Hp) (B : List Addr) (F' H' : Hp) : Prop where
  ff : Ex F F'
  fh : Ex F' H'
  new : ∀ a, F a = none → F' a ≠ none → H a = none
  pres : ∀ a o, H a = some o → a ∉ B → H' a = some o
  nt : NT F'
abbrev Rf (α : Type) := Option (Except Xc α)
section
variable (K : PySem.W.Frag) (mg : Str → Option Value)
def SpD (n : Nat) (f : List PyData → Rf PyData) : Sp := fun vs H Q E => ∃ F ds, (Ex F H ∧ NT F) ∧ DpAll K F vs ds ∧ ds.length = n ∧ match f ds with
  | none => False
  | some (.ok d) => ∀ v F' H', Exit F H [] F' H' → Dp K F' v d → Q v H'
  | some (.error x) => ∀ F' H' cls dx, Exit F H [] F' H' → XOk K mg F' H' cls dx x → E cls dx H'
def SpO (n : Nat) (f : List PyData → Rf (List PyData)) : Sp := fun vs H Q E => ∃ F ds, (Ex F H ∧ NT F) ∧ DpAll K F vs ds ∧ ds.length = n ∧ match f ds with
  | none => False
  | some (.ok es) => ∀ p ws F' H', Exit F H [] F' H' → F' p = none → H p = none → H' p = some (.lst ws) → DpAll K F' ws es → Q (.ref p) H'
  | some (.error x) => ∀ F' H' cls dx, Exit F H [] F' H' → XOk K mg F' H' cls dx x → E cls dx H'
def SpB (n : Nat) (f : List PyData → List PyData → Rf (PyData × List PyData)) : Sp := fun vs H Q E => ∃ F p ws st vs' ds, vs = .ref p :: vs' ∧ (Ex F H ∧ NT F) ∧ F p = none ∧ H p = some (.lst ws) ∧ DpAll K F ws st ∧ DpAll K F vs' ds ∧ ds.length = n ∧ match f st ds with
  | none => False
  | some (.ok (d, st')) => ∀ v F' H' ws', Exit F H [p] F' H' → F' p = none → H' p = some (.lst ws') → DpAll K F' ws' st' → Dp K F' v d → Q v H'
  | some (.error x) => False
def SpBO (n : Nat) (f : List PyData → List PyData → Rf (List PyData × List PyData)) : Sp := fun vs H Q E => ∃ F p ws st vs' ds, vs = .ref p :: vs' ∧ (Ex F H ∧ NT F) ∧ F p = none ∧ H p = some (.lst ws) ∧ DpAll K F ws st ∧ DpAll K F vs' ds ∧ ds.length = n ∧ match f st ds with
  | none => False
  | some (.ok (es, st')) => ∀ q us F' H' ws', Exit F H [p] F' H' → F' p = none → H' p = some (.lst ws') → DpAll K F' ws' st' → F' q = none → H q = none → H' q = some (.lst us) → DpAll K F' us es → Q (.ref q) H'
  | some (.error x) => False
end
def envD (N : Nat) (ds : List PyData) : En := ds.map .val ++ List.replicate (N - ds.length) .no
def fnD (G : S) (N : Nat) (ds : List PyData) : Rf PyData := match G (envD N ds) with
  | some (.rt d _) => some (.ok d)
  | some (.nx _) => some (.ok .none)
  | some (.ro es _) => some (.ok (.list es))
  | some (.er x _) => some (.error x)
  | _ => none
def fnO (G : S) (N : Nat) (ds : List PyData) : Rf (List PyData) := match G (envD N ds) with
  | some (.ro es _) => some (.ok es)
  | some (.er x _) => some (.error x)
  | _ => none
def envB (N : Nat) (st ds : List PyData) : En := .bor st :: (ds.map .val ++ List.replicate (N - 1 - ds.length) .no)
def fnB (G : S) (N : Nat) (st ds : List PyData) : Rf (PyData × List PyData) := match G (envB N st ds) with
  | some (.rt d (.bor st' :: _)) => some (.ok (d, st'))
  | some (.nx (.bor st' :: _)) => some (.ok (.none, st'))
  | some (.ro es (.bor st' :: _)) => some (.ok (.list es, st'))
  | _ => none
def fnBO (G : S) (N : Nat) (st ds : List PyData) : Rf (List PyData × List PyData) := match G (envB N st ds) with
  | some (.ro es (.bor st' :: _)) => some (.ok (es, st'))
  | _ => none
section
variable {K : PySem.W.Frag} {mg : Str → Option Value} {F H F' H' : Hp} {σ : St} {env : En} {B : List Addr}
theorem Rel.exit (R : Rel K ⟨F, H, B, []⟩ F' σ H' env) : Exit F H B F' H' := ⟨R.cf, R.fh, R.new, R.pres, R.nt⟩
theorem Exit.freezeO {v : V} {es : List PyData} (R : Rel K ⟨F, H, B, []⟩ F' σ H' env) (o : okO K ⟨F, H, B, []⟩ F' σ H' env es v) : ∃ F2, Exit F H B F2 H' ∧ Ex F' F2 ∧ Dp K F2 v (.list es) ∧ Rel K ⟨F, H, B, []⟩ F2 σ H' env := by
  obtain ⟨p, vs, rfl, ex, R2, dp⟩ := R.freezeO o
  exact ⟨_, R2.exit, ex, dp, R2⟩
theorem rel_start {N : List Str} {vs : List V} {ds : List PyData} (hF : Ex F H ∧ NT F) (h : DpAll K F vs ds) (hl : ds.length ≤ N.length) : Rel K ⟨F, H, [], []⟩ F (L2.start N vs) H (envD N.length ds) where
  fh := hF.1
  nt := hF.2
  cf := Ex.refl _
  new := fun a h1 h2 => absurd h1 h2
  pres := fun a o q _ => q
  bd := fun b hb => by cases hb
  sl := fun i s hs => by
    unfold envD at hs
    have hv := h.len
    by_cases hi : i < ds.length
    · rw [List.getElem?_append_left (by simpa using hi), List.getElem?_map] at hs
      cases q : ds[i]? with
      | none => rw [q] at hs; cases hs
      | some d =>
        rw [q] at hs
        cases hs
        obtain ⟨v, e, dv⟩ := h.get q
        refine ⟨v, ?_, dv⟩
        unfold L2.start
        rw [List.getElem?_append_left (by simp; omega), List.getElem?_map, e]
        rfl
    · rw [List.getElem?_append_right (by simpa using hi)] at hs
      rw [List.getElem?_replicate] at hs
      split at hs
      · cases hs; trivial
      · cases hs
  dis := fun i j p o _ => by
    obtain ⟨s, e, b, _⟩ := o
    unfold envD at e
    by_cases hi : i < ds.length
    · rw [List.getElem?_append_left (by simpa using hi), List.getElem?_map] at e
      cases q : ds[i]? with
      | none => rw [q] at e; cases e
      | some d => rw [q] at e; cases e; cases b
    · rw [List.getElem?_append_right (by simpa using hi), List.getElem?_replicate] at e
      split at e
      · cases e; cases b
      · cases e
  len := by
    unfold envD L2.start
    have hv := h.len
    simp only [List.length_append, List.length_map, List.length_replicate, hv]
  tb := fun q hq => nomatch hq
theorem rel_startB {N : List Str} {vs ws : List V} {st ds : List PyData} {p : Addr} (hF : Ex F H ∧ NT F) (hp : F p = none) (hH : H p = some (.lst ws)) (hs : DpAll K F ws st) (h : DpAll K F vs ds) (hl : ds.length + 1 ≤ N.length) :
    Rel K ⟨F, H, [p], []⟩ F (L2.start N (.ref p :: vs)) H (envB N.length st ds) where
  fh := hF.1
  nt := hF.2
  cf := Ex.refl _
  new := fun a h1 h2 => absurd h1 h2
  pres := fun a o q _ => q
  bd := fun b hb => by
    have e : b = p := by simpa using hb
    subst e
    exact ⟨by rw [hH]; simp, hp, by show H b ≠ none; rw [hH]; simp⟩
  sl := fun i s hi => by
    unfold envB at hi
    unfold L2.start
    have hv := h.len
    cases i with
    | zero =>
      have e : Sl.bor st = s := by simpa using hi
      subst e
      exact ⟨p, ws, rfl, hp, List.mem_cons_self, hH, hs⟩
    | succ i =>
      have hi : (ds.map Sl.val ++ List.replicate (N.length - 1 - ds.length) Sl.no)[i]? = some s := by simpa using hi
      by_cases hl : i < ds.length
      · rw [List.getElem?_append_left (by simpa using hl), List.getElem?_map] at hi
        cases q : ds[i]? with
        | none => rw [q] at hi; cases hi
        | some d =>
          rw [q] at hi
          cases hi
          obtain ⟨v, e, dv⟩ := h.get q
          refine ⟨v, ?_, dv⟩
          rw [List.getElem?_append_left (by simp; omega)]
          simp [e]
      · rw [List.getElem?_append_right (by simpa using hl), List.getElem?_replicate] at hi
        split at hi
        · cases hi; trivial
        · cases hi
  dis := fun i j q o1 o2 => by
    have z : ∀ {i : Nat}, Owned (L2.start N (.ref p :: vs)) (envB N.length st ds) i q → i = 0 := fun {i} o => by
      obtain ⟨s, e, b, _⟩ := o
      cases i with
      | zero => rfl
      | succ i =>
        have hi : (ds.map Sl.val ++ List.replicate (N.length - 1 - ds.length) Sl.no)[i]? = some s := by simpa [envB] using e
        by_cases hl : i < ds.length
        · rw [List.getElem?_append_left (by simpa using hl), List.getElem?_map] at hi
          cases q : ds[i]? with
          | none => rw [q] at hi; cases hi
          | some d => rw [q] at hi; cases hi; cases b
        · rw [List.getElem?_append_right (by simpa using hl), List.getElem?_replicate] at hi
          split at hi
          · cases hi; cases b
          · cases hi
    rw [z o1, z o2]
  len := by
    unfold envB L2.start
    have hv := h.len
    simp only [List.length_cons, List.length_append, List.length_map, List.length_replicate, hv]
    omega
  tb := fun q hq => nomatch hq
theorem lent {p : Addr} {st' : List PyData} {r : En} (R : Rel K ⟨F, H, [p], []⟩ F' σ H' (.bor st' :: r)) : F' p = none ∧ ∃ ws', H' p = some (.lst ws') ∧ DpAll K F' ws' st' := by
  obtain ⟨q, ws, a1, a2, a3, a4, a5⟩ := R.sl 0 (.bor st') rfl
  have e : q = p := by simpa using a3
  subst e
  exact ⟨a2, ws, a4, a5⟩
end
section
variable {P : Program} {w : World} {K : PySem.W.Frag} {mg : Str → Option Value} {base : Heap}
abbrev WE0 (E : XK) : WX := fun cls d _ H => E cls d H
theorem ok_fnD {x qual : Str} {st : Stmt} {f : Addr} {fd : FuncData} {N ps : List Str} {k : Nat} {G : S} (Fn : Fun K x qual st f fd) (Sc : FnScope N ps (defScope st)) (hl : ps.length ≤ N.length)
    (hbody : ∀ (cdv : Value) (A : Around) (outer : List PySem.Env) (s : Shared) (H : Hp) (E : XK), Room k (A.deeper (PyProof.Rows.envOfC qual (defScope st) s.heap.objs.size f cdv)) →
      SSs (cxOf (L2.CX P w) P w K mg base N qual (defScope st) f cdv A outer s H E) (WE0 E) (defBody st) G) :
    FnOk P w K mg base (L2.CX P w) (k + 1) f fd ps (SpD K mg ps.length (fnD G N.length)) := by
  refine Fn.okX Sc (fun vs H Q E ⟨F, ds, _, h, e, _⟩ => by rw [h.len]; exact e) fun cdv A outer s H vs Q E hr ⟨F, ds, hF, h, e, hm⟩ => ⟨_, hbody cdv A outer s H E hr, ⟨F, H, [], []⟩, F, _, rel_start hF h (by omega), ?_⟩
  show AftS K mg (WE0 E) _ _ _ _
  unfold fnD at hm
  cases q : G (envD N.length ds) with
  | none => rw [q] at hm; exact hm
  | some o =>
    rw [q] at hm
    cases o with
    | nx env' => exact fun σ F' H' R ex => hm .non F' H' R.exit .non
    | rt d env' => exact fun v σ F' H' R ex dv => hm v F' H' R.exit dv
    | ro es env' => exact fun v σ F' H' R ex o => by obtain ⟨F2, e1, e2, dp, _⟩ := Exit.freezeO R o; exact hm v F2 H' e1 dp
    | rk t env' => exact hm.elim
    | rp d ds env' => exact hm.elim
    | bk env' => exact hm.elim
    | ct env' => exact hm.elim
    | er x env' => exact fun σ F' H' cls dx R ex xo => hm F' H' cls dx R.exit xo
theorem ok_fnO {x qual : Str} {st : Stmt} {f : Addr} {fd : FuncData} {N ps : List Str} {k : Nat} {G : S} (Fn : Fun K x qual st f fd) (Sc : FnScope N ps (defScope st)) (hl : ps.length ≤ N.length)
    (hbody : ∀ (cdv : Value) (A : Around) (outer : List PySem.Env) (s : Shared) (H : Hp) (E : XK), Room k (A.deeper (PyProof.Rows.envOfC qual (defScope st) s.heap.objs.size f cdv)) →
      SSs (cxOf (L2.CX P w) P w K mg base N qual (defScope st) f cdv A outer s H E) (WE0 E) (defBody st) G) :
    FnOk P w K mg base (L2.CX P w) (k + 1) f fd ps (SpO K mg ps.length (fnO G N.length)) := by
  refine Fn.okX Sc (fun vs H Q E ⟨F, ds, _, h, e, _⟩ => by rw [h.len]; exact e) fun cdv A outer s H vs Q E hr ⟨F, ds, hF, h, e, hm⟩ => ⟨_, hbody cdv A outer s H E hr, ⟨F, H, [], []⟩, F, _, rel_start hF h (by omega), ?_⟩
  show AftS K mg (WE0 E) _ _ _ _
  unfold fnO at hm
  cases q : G (envD N.length ds) with
  | none => rw [q] at hm; exact hm
  | some o =>
    rw [q] at hm
    cases o with
    | ro es env' => exact fun v σ F' H' R ex o => by obtain ⟨p, ws, rfl, a1, a2, a3, a4, _⟩ := o; exact hm p ws F' H' R.exit a1 a2 a3 a4
    | er x env' => exact fun σ F' H' cls dx R ex xo => hm F' H' cls dx R.exit xo
    | _ => exact hm.elim
theorem ok_fnB {x qual y : Str} {st : Stmt} {f : Addr} {fd : FuncData} {N ps : List Str} {k : Nat} {G : S} (Fn : Fun K x qual st f fd) (Sc : FnScope N (y :: ps) (defScope st)) (hl : ps.length + 1 ≤ N.length)
    (hbody : ∀ (cdv : Value) (A : Around) (outer : List PySem.Env) (s : Shared) (H : Hp) (E : XK), Room k (A.deeper (PyProof.Rows.envOfC qual (defScope st) s.heap.objs.size f cdv)) →
      SSs (cxOf (L2.CX P w) P w K mg base N qual (defScope st) f cdv A outer s H E) (WE0 E) (defBody st) G) :
    FnOk P w K mg base (L2.CX P w) (k + 1) f fd (y :: ps) (SpB K ps.length (fnB G N.length)) := by
  refine Fn.okX Sc (fun vs H Q E ⟨F, p, ws, st, vs', ds, e, _, _, _, _, h, e2, _⟩ => by rw [e, List.length_cons, List.length_cons, h.len, e2]) fun cdv A outer s H vs Q E hr ⟨F, p, ws, st, vs', ds, e, hF, hp, hH, hst, h, e2, hm⟩ => ?_
  subst e
  refine ⟨_, hbody cdv A outer s H E hr, ⟨F, H, [p], []⟩, F, _, rel_startB hF hp hH hst h (by omega), ?_⟩
  show AftS K mg (WE0 E) _ _ _ _
  unfold fnB at hm
  cases q : G (envB N.length st ds) with
  | none => rw [q] at hm; exact hm
  | some o =>
    rw [q] at hm
    cases o with
    | nx env' =>
      intro σ F' H' R ex
      cases env' with
      | nil => exact hm.elim
      | cons s0 r0 =>
        cases s0 with
        | bor st' => obtain ⟨a1, ws', a2, a3⟩ := lent R; exact hm .non F' H' ws' R.exit a1 a2 a3 .non
        | _ => exact hm.elim
    | rt d env' =>
      intro v σ F' H' R ex dv
      cases env' with
      | nil => exact hm.elim
      | cons s0 r0 =>
        cases s0 with
        | bor st' => obtain ⟨a1, ws', a2, a3⟩ := lent R; exact hm v F' H' ws' R.exit a1 a2 a3 dv
        | _ => exact hm.elim
    | ro es env' =>
      intro v σ F' H' R ex o
      cases env' with
      | nil => exact hm.elim
      | cons s0 r0 =>
        cases s0 with
        | bor st' =>
          obtain ⟨F2, e1, e2, dp, R2⟩ := Exit.freezeO R o
          obtain ⟨a1, ws', a2, a3⟩ := lent R2
          exact hm v F2 H' ws' e1 a1 a2 a3 dp
        | _ => exact hm.elim
    | _ => exact hm.elim
theorem ok_fnBO {x qual y : Str} {st : Stmt} {f : Addr} {fd : FuncData} {N ps : List Str} {k : Nat} {G : S} (Fn : Fun K x qual st f fd) (Sc : FnScope N (y :: ps) (defScope st)) (hl : ps.length + 1 ≤ N.length)
    (hbody : ∀ (cdv : Value) (A : Around) (outer : List PySem.Env) (s : Shared) (H : Hp) (E : XK), Room k (A.deeper (PyProof.Rows.envOfC qual (defScope st) s.heap.objs.size f cdv)) →
      SSs (cxOf (L2.CX P w) P w K mg base N qual (defScope st) f cdv A outer s H E) (WE0 E) (defBody st) G) :
    FnOk P w K mg base (L2.CX P w) (k + 1) f fd (y :: ps) (SpBO K ps.length (fnBO G N.length)) := by
  refine Fn.okX Sc (fun vs H Q E ⟨F, p, ws, st, vs', ds, e, _, _, _, _, h, e2, _⟩ => by rw [e, List.length_cons, List.length_cons, h.len, e2]) fun cdv A outer s H vs Q E hr ⟨F, p, ws, st, vs', ds, e, hF, hp, hH, hst, h, e2, hm⟩ => ?_
  subst e
  refine ⟨_, hbody cdv A outer s H E hr, ⟨F, H, [p], []⟩, F, _, rel_startB hF hp hH hst h (by omega), ?_⟩
  show AftS K mg (WE0 E) _ _ _ _
  unfold fnBO at hm
  cases q : G (envB N.length st ds) with
  | none => rw [q] at hm; exact hm
  | some o =>
    rw [q] at hm
    cases o with
    | ro es env' =>
      intro v σ F' H' R ex o
      cases env' with
      | nil => exact hm.elim
      | cons s0 r0 =>
        cases s0 with
        | bor st' =>
          obtain ⟨a1, ws', a2, a3⟩ := lent R
          obtain ⟨q, us, rfl, b1, b2, b3, b4, _⟩ := o
          exact hm q us F' H' ws' R.exit a1 a2 a3 b1 b2 b3 b4
        | _ => exact hm.elim
    | _ => exact hm.elim
end
def gLift {α : Type} (r : Rf α) : M α := fun env => match r with
  | none => none
  | some (.ok a) => some (.ok (a, env))
  | some (.error x) => some (.error (x, env))
section
variable {K : PySem.W.Frag} {C : Cn} {F H F' H' : Hp} {σ : St} {env : En}
theorem Rel.call (R : Rel K C F σ H env) (x : Exit F H [] F' H') : Rel K C F' σ H' env := R.grow x.ff x.fh (fun a o q => x.pres a o q (by simp)) x.new x.nt
theorem Rel.callB {i : Nat} {p : Addr} {s : Sl} {ws' : List V} {st' : List PyData} (R : Rel K C F σ H env) (h : env[i]? = some s) (ho : isOwn s = true) (hno : ∀ o, s ≠ .obj o) (hp : σ[i]? = some (some (.ref p)))
    (x : Exit F H [p] F' H') (hF : F' p = none) (hH : H' p = some (.lst ws')) (hd : DpAll K F' ws' st') : Rel K C F' σ H' (env.set i (putS st' s)) := by
  have facts : (C.H p = none ∨ p ∈ C.B) ∧ H p ≠ none := by
    have q := R.sl i s h
    cases s with
    | own es => obtain ⟨p', ws, a1, a2, a3, a4, a5⟩ := q; rw [hp] at a1; cases a1; exact ⟨.inl a3, by rw [a4]; simp⟩
    | bor es => obtain ⟨p', ws, a1, a2, a3, a4, a5⟩ := q; rw [hp] at a1; cases a1; exact ⟨.inr a3, by rw [a4]; simp⟩
    | obj ob => obtain ⟨p', a1, a2, a3, a4⟩ := q; rw [hp] at a1; cases a1; exact ⟨.inl a3, by rw [a4]; simp⟩
    | _ => cases ho
  have kp : ∀ a o, a ≠ p → H a = some o → H' a = some o := fun a o ne q => x.pres a o q (by simpa using ne)
  have nf : ∀ q, H q ≠ none → F q = none → F' q = none := fun q hq hf => by
    cases z : F' q with
    | none => rfl
    | some o => exact absurd (x.new q hf (by rw [z]; simp)) hq
  have hps : isOwn (putS st' s) = true := by cases s <;> first | rfl | cases ho
  exact {
    fh := x.fh
    nt := x.nt
    cf := R.cf.trans x.ff
    new := fun a h1 h2 => by
      by_cases hf : F a = none
      · have hn := x.new a hf h2
        cases q : C.H a with
        | none => rfl
        | some o =>
          by_cases hb : a ∈ C.B
          · exact absurd hn (R.bd a hb).1
          · rw [R.pres a o q hb] at hn; cases hn
      · exact R.new a h1 hf
    pres := fun a o q hb => by
      have ne : a ≠ p := fun e => by
        subst e
        rcases facts.1 with z | z
        · rw [z] at q; cases q
        · exact hb z
      exact kp a o ne (R.pres a o q hb)
    bd := fun b hb => by
      refine ⟨?_, (R.bd b hb).2⟩
      by_cases ne : b = p
      · subst ne; rw [hH]; simp
      · cases q : H b with
        | none => exact absurd q (R.bd b hb).1
        | some o => rw [kp b o ne q]; simp
    sl := fun j s' hj => by
      rcases set_at hj with ⟨rfl, rfl, _⟩ | ⟨ne, hj⟩
      · have q := R.sl j s h
        cases s with
        | own es => obtain ⟨p', ws, a1, a2, a3, a4, a5⟩ := q; rw [hp] at a1; cases a1; exact ⟨p, ws', hp, hF, a3, hH, hd⟩
        | bor es => obtain ⟨p', ws, a1, a2, a3, a4, a5⟩ := q; rw [hp] at a1; cases a1; exact ⟨p, ws', hp, hF, a3, hH, hd⟩
        | obj ob => obtain ⟨p', a1, a2, a3, a4⟩ := q; rw [hp] at a1; cases a1; exact ⟨p, ws', hp, hF, a3, hH, hd⟩
        | _ => cases ho
      · have q := R.sl j s' hj
        have np : ∀ p', isOwn s' = true → σ[j]? = some (some (.ref p')) → p' ≠ p := fun p' o a e => ne (R.dis j i p ⟨s', hj, o, by rw [← e]; exact a⟩ ⟨s, h, ho, hp⟩)
        cases s' with
        | no => trivial
        | val d => obtain ⟨v, a1, a2⟩ := q; exact ⟨v, a1, dp_mono x.ff a2⟩
        | own es => obtain ⟨p', ws, a1, a2, a3, a4, a5⟩ := q; exact ⟨p', ws, a1, nf p' (by rw [a4]; simp) a2, a3, kp p' _ (np p' rfl a1) a4, dps_mono x.ff a5⟩
        | bor es => obtain ⟨p', ws, a1, a2, a3, a4, a5⟩ := q; exact ⟨p', ws, a1, nf p' (by rw [a4]; simp) a2, a3, kp p' _ (np p' rfl a1) a4, dps_mono x.ff a5⟩
        | obj ob => obtain ⟨p', a1, a2, a3, a4⟩ := q; exact ⟨p', a1, nf p' (by rw [a4]; simp) a2, a3, kp p' _ (np p' rfl a1) a4⟩
        | raw v => exact q
        | exc a dd fs => obtain ⟨z1, z2, z3, z4⟩ := q; exact ⟨z1, z2, x.ff _ _ z3, fs_mono x.ff z4⟩
        | tab T => exact q
        | lam b ls =>
          refine lamSl_mono x.ff ?_ q
          have q := R.sl i s h
          cases s with
          | own es => obtain ⟨p', ws, a1, a2, a3, a4, a5⟩ := q; rw [hp] at a1; cases a1; exact codeKept_ne a4 lst_code kp
          | bor es => obtain ⟨p', ws, a1, a2, a3, a4, a5⟩ := q; rw [hp] at a1; cases a1; exact codeKept_ne a4 lst_code kp
          | obj ob => exact absurd rfl (hno ob)
          | _ => cases ho
    dis := fun j k q o1 o2 => by
      have back : ∀ {j : Nat}, Owned σ (env.set i (putS st' s)) j q → Owned σ env j q := fun {j} o => by
        obtain ⟨s1, e1, b1, a1⟩ := o
        rcases set_at e1 with ⟨rfl, rfl, _⟩ | ⟨ne1, e1⟩
        · exact ⟨s, h, ho, a1⟩
        · exact ⟨s1, e1, b1, a1⟩
      exact R.dis j k q (back o1) (back o2)
    len := by rw [List.length_set]; exact R.len
    tb := by
      have q := R.sl i s h
      cases s with
      | own es => obtain ⟨p', ws, a1, a2, a3, a4, a5⟩ := q; rw [hp] at a1; cases a1; exact tabs_lst R.tb a4 kp
      | bor es => obtain ⟨p', ws, a1, a2, a3, a4, a5⟩ := q; rw [hp] at a1; cases a1; exact tabs_lst R.tb a4 kp
      | obj ob => exact absurd rfl (hno ob)
      | _ => cases ho }
end
section
variable {X : Cx} {W : WX} {k : Nat} {f : Addr} {fd : FuncData} {ps : List Str} {x y : Str} {p p1 pos : Pos} {e : Expr} {es : List Expr} {gl : M (List PyData)} {i : Nat}
theorem sv_call {n : Nat} {m : List PyData → Rf PyData} (Fk : FnOk X.prog X.w X.K X.mg X.base (L2.CX X.prog X.w) k f fd ps (SpD X.K X.mg n m)) (hr : Room k X.A) (hm : X.mg x = some (.ref f)) (hk : PySem.W.keepIn X.K (.ref f) = true) (hb : Binds X.K fd ps []) (tk : Takes X W)
    (ha : SA X W (e :: es) gl) (hn : ∀ env ds env', gl env = some (.ok (ds, env')) → ds.length = n) (hg : Gl X x := by rfl) (hdb : (x == ("__debug__" : Str)) = false := by decide) (he : starEach (e :: es) X.env = (false, eval e X.env) :: starEach es X.env := by rfl) (hpl : (backTo pos (starEach es X.env)).any (·.1) = false := by rfl) :
    SV X W (.Call (.Name x p) (e :: es) [] pos) (M.bd gl fun ds => gLift (m ds)) :=
  pe_imp (pe_callS Fk hr hg hm hk hb (fun σ => passAt tk σ) ha hdb he hpl) fun σ H Q ⟨C, F, env, R, h⟩ => by
    refine ⟨C, F, env, R, ?_⟩
    unfold M.bd at h
    cases q : gl env with
    | none => rw [q] at h; exact h
    | some r =>
      rw [q] at h
      cases r with
      | error z => exact h
      | ok z =>
        obtain ⟨ds, env1⟩ := z
        intro vs F1 H1 R1 e1 o1
        refine ⟨F1, ds, ⟨R1.fh, R1.nt⟩, o1, hn _ _ _ q, ?_⟩
        unfold gLift at h
        cases q2 : m ds with
        | none => simp only [q2] at h; exact h
        | some r =>
          simp only [q2] at h
          cases r with
          | ok d => exact fun v F' H' x dv => h v F' H' (R1.call x) (e1.trans x.ff) dv
          | error z => exact fun F' H' cls dx x xo => h F' H' cls dx (R1.call x) (e1.trans x.ff) xo
end
end Pf
/-! part Pf10 -/
set_option Elab.async false
set_option linter.all false
set_option maxRecDepth 100000
set_option maxHeartbeats 2000000
namespace Pf
open PySem PySem.Spec L2 Evl
def LenA (gl : M (List PyData)) (n : Nat) : Prop := ∀ env ds env', gl env = some (.ok (ds, env')) → ds.length = n
theorem len_nil : LenA (M.ok []) 0 := fun env ds env' h => by cases h; rfl
theorem len_cons {ga : M PyData} {gl : M (List PyData)} {n : Nat} (h : LenA gl n) : LenA (M.bd ga fun d => M.bd gl fun ds => M.ok (d :: ds)) (n + 1) := fun env ds env' q => by
  unfold M.bd at q
  cases e1 : ga env with
  | none => simp only [e1] at q; cases q
  | some r =>
    simp only [e1] at q
    cases r with
    | error z => cases q
    | ok z =>
      obtain ⟨d, env1⟩ := z
      simp only at q
      cases e2 : gl env1 with
      | none => simp only [e2] at q; cases q
      | some r =>
        simp only [e2] at q
        cases r with
        | error z => cases q
        | ok z =>
          obtain ⟨ds', env2⟩ := z
          have e : M.ok (d :: ds') env2 = some (.ok (ds, env')) := q
          cases e
          rw [List.length_cons, h _ _ _ e2]
section
variable {X : Cx} {W : WX} {k : Nat} {f : Addr} {fd : FuncData} {ps : List Str} {x y : Str} {p p0 p1 p2 pos : Pos} {a b e : Expr} {es : List Expr} {ga gb : M PyData} {gl : M (List PyData)} {i : Nat}
theorem so_call {n : Nat} {m : List PyData → Rf (List PyData)} (Fk : FnOk X.prog X.w X.K X.mg X.base (L2.CX X.prog X.w) k f fd ps (SpO X.K X.mg n m)) (hr : Room k X.A) (hm : X.mg x = some (.ref f)) (hk : PySem.W.keepIn X.K (.ref f) = true) (hb : Binds X.K fd ps []) (tk : Takes X W)
    (ha : SA X W (e :: es) gl) (hn : LenA gl n) (hg : Gl X x := by rfl) (hdb : (x == ("__debug__" : Str)) = false := by decide) (he : starEach (e :: es) X.env = (false, eval e X.env) :: starEach es X.env := by rfl) (hpl : (backTo pos (starEach es X.env)).any (·.1) = false := by rfl) :
    SO X W (.Call (.Name x p) (e :: es) [] pos) (M.bd gl fun ds => gLift (m ds)) :=
  pe_imp (pe_callS Fk hr hg hm hk hb (fun σ => passAt tk σ) ha hdb he hpl) fun σ H Q ⟨C, F, env, R, h⟩ => by
    refine ⟨C, F, env, R, ?_⟩
    unfold M.bd at h
    cases q : gl env with
    | none => rw [q] at h; exact h
    | some r =>
      rw [q] at h
      cases r with
      | error z => exact h
      | ok z =>
        obtain ⟨ds, env1⟩ := z
        intro vs F1 H1 R1 e1 o1
        refine ⟨F1, ds, ⟨R1.fh, R1.nt⟩, o1, hn _ _ _ q, ?_⟩
        unfold gLift at h
        cases q2 : m ds with
        | none => simp only [q2] at h; exact h
        | some r =>
          simp only [q2] at h
          cases r with
          | ok d =>
            intro p' ws F' H' x a1 a2 a3 a4
            have R2 := R1.call x
            refine h (.ref p') F' H' R2 (e1.trans x.ff) ⟨p', ws, rfl, a1, (R1.fresh a2).2, a3, a4, fun i ⟨s, b1, b2, b3⟩ => ?_⟩
            have q := R1.sl i s b1
            cases s with
            | own es => obtain ⟨p2, ws2, c1, c2, c3, c4, c5⟩ := q; rw [b3] at c1; cases c1; rw [a2] at c4; cases c4
            | bor es => obtain ⟨p2, ws2, c1, c2, c3, c4, c5⟩ := q; rw [b3] at c1; cases c1; rw [a2] at c4; cases c4
            | obj ob => obtain ⟨p2, c1, c2, c3, c4⟩ := q; rw [b3] at c1; cases c1; rw [a2] at c4; cases c4
            | _ => cases b2
          | error z => exact fun F' H' cls dx x xo => h F' H' cls dx (R1.call x) (e1.trans x.ff) xo
def gCallB {α : Type} (i : Nat) (gl : M (List PyData)) (m : List PyData → List PyData → Rf (α × List PyData)) : M α := M.bd (gHeld i) fun _ => M.bd gl fun ds => M.bd (gHeld i) fun st => match m st ds with
  | some (.ok (d, st')) => M.bd (gPut i st') fun _ => M.ok d
  | _ => M.no
theorem sv_callB' {n : Nat} {m : List PyData → List PyData → Rf (PyData × List PyData)} (i : Nat) (Fk : FnOk X.prog X.w X.K X.mg X.base (L2.CX X.prog X.w) k f fd ps (SpB X.K n m)) (hr : Room k X.A) (hm : X.mg x = some (.ref f)) (hk : PySem.W.keepIn X.K (.ref f) = true) (hb : Binds X.K fd ps []) (tk : Takes X W)
    (ha : SA X W es gl) (hn : LenA gl n) (hg : Gl X x := by rfl) (hN : X.N[i]? = some y := by rfl) (hv : Vis X.env.scope y := by first | exact Or.inl rfl | exact Or.inr (Or.inl rfl) | exact Or.inr (Or.inr rfl))
    (hd : (y == ("__debug__" : Str)) = false := by decide) (hcd : (y == ("__classdict__" : Str)) = false := by decide) (hdb : (x == ("__debug__" : Str)) = false := by decide)
    (he : starEach (.Name y p1 :: es) X.env = (false, eval (.Name y p1) X.env) :: starEach es X.env := by rfl) (hpl : (backTo pos (starEach es X.env)).any (·.1) = false := by rfl) :
    SV X W (.Call (.Name x p) (.Name y p1 :: es) [] pos) (gCallB i gl m) :=
  pe_imp (pe_callS Fk hr hg hm hk hb (fun σ => passAt tk σ) (pa_cons (pe_var hN hv hd hcd) ha he) hdb he hpl) fun σ H Q ⟨C, F, env, R, h⟩ => by
    obtain ⟨_, p, _, _, _, _, a1, _, _, h2⟩ := bd_held R h
    refine ⟨.ref p, a1, ?_⟩
    refine ⟨C, F, env, R, ?_⟩
    unfold M.bd at h2
    cases q : gl env with
    | none => rw [q] at h2; exact h2
    | some r =>
      rw [q] at h2
      cases r with
      | error z => exact h2
      | ok z =>
        obtain ⟨ds, env1⟩ := z
        intro vs F1 H1 R1 e1 o1
        obtain ⟨st, p', ws, s, b0, bo, b1, b2, b3, h3⟩ := bd_held R1 (After.up h2 e1)
        rw [a1] at b1
        cases b1
        have hF : F1 p = none := by
          have t := R1.sl i s b0
          cases s with
          | own es => obtain ⟨p2, ws2, c1, c2, _⟩ := t; rw [a1] at c1; cases c1; exact c2
          | bor es => obtain ⟨p2, ws2, c1, c2, _⟩ := t; rw [a1] at c1; cases c1; exact c2
          | obj ob => obtain ⟨p2, c1, c2, _⟩ := t; rw [a1] at c1; cases c1; exact c2
          | _ => cases bo.1
        refine ⟨F1, p, ws, st, vs, ds, rfl, ⟨R1.fh, R1.nt⟩, hF, b2, b3, o1, hn _ _ _ q, ?_⟩
        cases q2 : m st ds with
        | none => simp only [q2] at h3; exact h3
        | some r =>
          simp only [q2] at h3
          cases r with
          | error z => exact h3
          | ok z =>
            obtain ⟨d, st'⟩ := z
            intro v F' H' ws' x c1 c2 c3 dv
            exact aft' (ok := okV X.K) (put_bd b0 h3) (R1.callB b0 bo.1 bo.2 a1 x c1 c2 c3) x.ff dv
theorem so_callB' {n : Nat} {m : List PyData → List PyData → Rf (List PyData × List PyData)} (i : Nat) (Fk : FnOk X.prog X.w X.K X.mg X.base (L2.CX X.prog X.w) k f fd ps (SpBO X.K n m)) (hr : Room k X.A) (hm : X.mg x = some (.ref f)) (hk : PySem.W.keepIn X.K (.ref f) = true) (hb : Binds X.K fd ps []) (tk : Takes X W)
    (ha : SA X W es gl) (hn : LenA gl n) (hg : Gl X x := by rfl) (hN : X.N[i]? = some y := by rfl) (hv : Vis X.env.scope y := by first | exact Or.inl rfl | exact Or.inr (Or.inl rfl) | exact Or.inr (Or.inr rfl))
    (hd : (y == ("__debug__" : Str)) = false := by decide) (hcd : (y == ("__classdict__" : Str)) = false := by decide) (hdb : (x == ("__debug__" : Str)) = false := by decide)
    (he : starEach (.Name y p1 :: es) X.env = (false, eval (.Name y p1) X.env) :: starEach es X.env := by rfl) (hpl : (backTo pos (starEach es X.env)).any (·.1) = false := by rfl) :
    SO X W (.Call (.Name x p) (.Name y p1 :: es) [] pos) (gCallB i gl m) :=
  pe_imp (pe_callS Fk hr hg hm hk hb (fun σ => passAt tk σ) (pa_cons (pe_var hN hv hd hcd) ha he) hdb he hpl) fun σ H Q ⟨C, F, env, R, h⟩ => by
    obtain ⟨_, p, _, _, _, _, a1, _, _, h2⟩ := bd_held R h
    refine ⟨.ref p, a1, ?_⟩
    refine ⟨C, F, env, R, ?_⟩
    unfold M.bd at h2
    cases q : gl env with
    | none => rw [q] at h2; exact h2
    | some r =>
      rw [q] at h2
      cases r with
      | error z => exact h2
      | ok z =>
        obtain ⟨ds, env1⟩ := z
        intro vs F1 H1 R1 e1 o1
        obtain ⟨st, p', ws, s, b0, bo, b1, b2, b3, h3⟩ := bd_held R1 (After.up h2 e1)
        rw [a1] at b1
        cases b1
        have hF : F1 p = none := by
          have t := R1.sl i s b0
          cases s with
          | own es => obtain ⟨p2, ws2, c1, c2, _⟩ := t; rw [a1] at c1; cases c1; exact c2
          | bor es => obtain ⟨p2, ws2, c1, c2, _⟩ := t; rw [a1] at c1; cases c1; exact c2
          | obj ob => obtain ⟨p2, c1, c2, _⟩ := t; rw [a1] at c1; cases c1; exact c2
          | _ => cases bo.1
        refine ⟨F1, p, ws, st, vs, ds, rfl, ⟨R1.fh, R1.nt⟩, hF, b2, b3, o1, hn _ _ _ q, ?_⟩
        cases q2 : m st ds with
        | none => simp only [q2] at h3; exact h3
        | some r =>
          simp only [q2] at h3
          cases r with
          | error z => exact h3
          | ok z =>
            obtain ⟨d, st'⟩ := z
            intro q us F' H' ws' x c1 c2 c3 d1 d2 d3 d4
            have R2 := R1.callB b0 bo.1 bo.2 a1 x c1 c2 c3
            refine aft' (ok := okO X.K) (put_bd b0 h3) R2 x.ff ⟨q, us, rfl, d1, (R1.fresh d2).2, d3, d4, fun j ⟨s', g1, g2, g3⟩ => ?_⟩
            have t : Owned σ env1 j q := by
              rcases set_at g1 with ⟨rfl, rfl, _⟩ | ⟨ne, g1⟩
              · exact ⟨s, b0, bo.1, g3⟩
              · exact ⟨s', g1, g2, g3⟩
            obtain ⟨s2, g1, g2, g3⟩ := t
            have t := R1.sl j s2 g1
            cases s2 with
            | own es => obtain ⟨p2, ws2, c1, c2, c3, c4, c5⟩ := t; rw [g3] at c1; cases c1; rw [d2] at c4; cases c4
            | bor es => obtain ⟨p2, ws2, c1, c2, c3, c4, c5⟩ := t; rw [g3] at c1; cases c1; rw [d2] at c4; cases c4
            | obj ob => obtain ⟨p2, c1, c2, c3, c4⟩ := t; rw [g3] at c1; cases c1; rw [d2] at c4; cases c4
            | _ => cases g2
def isaT (a b : String) : Bool := a == b || (a == "bool" && b == "int")
def isTy (d : PyData) (b : String) : Option Bool := match d with
  | .dict _ => none
  | d => some (isaT (tyD d) b)
theorem tyx_of {K : PySem.W.Frag} {H : Hp} {v : V} {d : PyData} (h : Dp K H v d) (hd : ∀ kvs, d ≠ .dict kvs) : TyX K H v (.type (tyD d)) := by
  cases h with
  | non => exact .base .non
  | bl b => exact .base (.bl b)
  | int i => exact .base (.int i)
  | str x => exact .base (.str x)
  | lst s r =>
    rcases s with (s | ⟨o, s⟩) | ⟨o, its, n, s, c, _⟩
    · exact .base (.lst s)
    · exact .base (.frz s)
    · exact .kList s c
  | tup s r =>
    rcases s with (s | ⟨o, s⟩) | ⟨o, its, n, s, c, _⟩
    · exact .base (.tup s)
    · exact .fTuple s
    · exact .kTuple s c
def tyNames : List String := ["int", "bool", "str", "list", "tuple"]
theorem kit_tys : ∀ a ∈ ["NoneType", "bool", "int", "str", "list", "tuple"], ∀ b ∈ tyNames, kitB a b = some (isaT a b) := by decide +kernel
theorem tyD_mem {d : PyData} (hd : ∀ kvs, d ≠ .dict kvs) : tyD d ∈ ["NoneType", "bool", "int", "str", "list", "tuple"] := by
  cases d <;> first | (simp [tyD]; done) | exact absurd rfl (hd _)
theorem is_ty {K : PySem.W.Frag} {d : PyData} {b : String} {r : Bool} (hb : b ∈ tyNames) (h : isTy d b = some r) : (∀ kvs, d ≠ .dict kvs) ∧ PySem.W.kitOne K (.type (tyD d)) (.type b) = some r := by
  have hd : ∀ kvs, d ≠ .dict kvs := fun kvs e => by subst e; cases h
  refine ⟨hd, kit_ty ?_⟩
  rw [kit_tys _ (tyD_mem hd) b hb]
  unfold isTy at h
  split at h
  · exact absurd rfl (hd _)
  · exact h
theorem sv_isa {T : Str} {b : String} (hg : Gl X "isinstance") (hm : X.mg "isinstance" = none) (hT : Gl X T) (hmT : X.mg T = none) (hv : bootBuiltins T = some (.type b)) (hb : b ∈ tyNames) (ha : SV X W a ga) (hn : T ≠ "__name__" := by decide) (hdT : (T == ("__debug__" : Str)) = false := by decide)
    (hs1 : starEach [.Name T p1] X.env = (false, eval (.Name T p1) X.env) :: starEach [] X.env := by rfl) (hs : starEach [a, .Name T p1] X.env = (false, eval a X.env) :: starEach [.Name T p1] X.env := by rfl) (hpl : (backTo pos (starEach [.Name T p1] X.env)).any (·.1) = false := by rfl) :
    SV X W (.Call (.Name "isinstance" p) [a, .Name T p1] [] pos) (M.bd ga fun d => M.opt ((isTy d b).map .bool)) :=
  pe_imp (pe_callB call_isi hg hm PyProof.Rows.boot_isinstance (pa_cons ha (pa_cons (pe_bltn (v := .ty b) hT hmT hv rfl hn hdT) pa_nil hs1) hs) (by decide) (by decide) hs hpl) fun σ H Q ⟨C, F, env, R, h⟩ => tG_bd R h fun d env1 v F1 H1 R1 e1 o1 h1 => by
    obtain ⟨z, hz, h2⟩ := h1.of_opt
    cases hi : isTy d b with
    | none => rw [hi] at hz; cases hz
    | some r =>
      rw [hi] at hz
      cases hz
      obtain ⟨hd, hk⟩ := is_ty (K := X.K) hb hi
      exact ⟨v, .ty b, _, _, r, rfl, .ty b, tyx_of (dp_mono R1.fh o1) hd, hk, aft (ok := okV X.K) h2 R1 (.bl r)⟩
theorem so_listR (hc : X.calm = true) (hg : Gl X "list") (hm : X.mg "list" = none) (hg2 : Gl X "range") (hm2 : X.mg "range" = none) (ha : SV X W a ga) (na : starEach [a] X.env = (false, eval a X.env) :: starEach [] X.env := by rfl)
    (nb : starEach [.Call (.Name "range" p1) [a] [] p2] X.env = (false, eval (.Call (.Name "range" p1) [a] [] p2) X.env) :: starEach [] X.env := by rfl) :
    SO X W (.Call (.Name "list" p) [.Call (.Name "range" p1) [a] [] p2] [] pos) (M.bd ga fun d => M.opt (match d with
      | .int n => if 0 ≤ n ∧ n ≤ 16777216 then some (rngD 0 n.toNat) else none
      | _ => none)) :=
  pe_imp (pe_listRg hc hg hm (prg_1 hg2 hm2 ha na) nb) fun σ H Q ⟨C, F, env, R, h⟩ => tG_bd R h fun d env1 v F1 H1 R1 e1 o1 h1 => by
    obtain ⟨z, hz, h2⟩ := h1.of_opt
    cases o1 with
    | int n =>
      simp only at hz
      split at hz
      · rename_i hn
        cases hz
        refine ⟨n, rfl, RgOk.of_le (Int.le_refl _) hn.2 (by omega) hn.1, fun q hq => aft' (ok := okO X.K) h2 (R1.newH hq) (Ex.refl _) (okO_new R1 hq ?_)⟩
        unfold rgV rngD
        rw [Int.sub_zero]
        have key : ∀ l : List Nat, DpAll X.K F1 (l.map fun i => V.int (0 + (i : Nat))) (l.map fun (i : Nat) => PyData.int (0 + (i : Int))) := fun l => by
          induction l with
          | nil => exact .nil
          | cons a r ih => exact .cons (.int _) ih
        exact key _
      · cases hz
    | _ => cases hz
theorem so_rep {gl : M (List PyData)} (ha : SO X W a gl) (hb : SV X W b gb) : SO X W (.BinOp a .Mult b pos) (M.bd gl fun ds => M.bd gb fun e => M.opt (match e with
    | .int k => if -(2 ^ 63) ≤ k ∧ k < 2 ^ 63 ∧ ds.length * k.toNat ≤ 16777216 then some (List.replicate k.toNat ds).flatten else none
    | _ => none)) :=
  pe_imp (pe_op op_rep ha hb) fun σ H Q ⟨C, F, env, R, h⟩ => tG_bd R h fun ds env1 v F1 H1 R1 e1 o1 h1 => by
    obtain ⟨p, vs, rfl, a1, a2, a3, a4, a5⟩ := o1
    refine tG_bd' (R1.guard a1 a2 a3 a5) (fun F' H' env' r => Rel.unguard R1 a2 r) h1 fun e env2 w F2 H2 R2 e2 o2 h2 => ?_
    obtain ⟨z, hz, h3⟩ := h2.of_opt
    cases o2 with
    | int k =>
      simp only at hz
      split at hz
      · rename_i hk
        cases hz
        have hH : H2 p = some (.lst vs) := R2.guarded (fun b hb => (R1.bd b hb).2.2) a2
        have R3 := Rel.unguard R1 a2 R2
        refine ⟨p, k, vs, rfl, rfl, hH, hk.1, hk.2.1, by rw [a4.len, sizeLine_eq]; exact hk.2.2, fun q hq => aft' (ok := okO X.K) h3 (R3.newH hq) (Ex.refl _) (okO_new R3 hq ?_)⟩
        have key : ∀ n : Nat, DpAll X.K F2 (List.replicate n vs).flatten (List.replicate n ds).flatten := fun n => by
          induction n with
          | zero => exact .nil
          | succ n ih =>
            rw [List.replicate_succ, List.replicate_succ, List.flatten_cons, List.flatten_cons]
            exact (dps_mono e2 a4).app ih
        exact key _
      · cases hz
    | _ => cases hz
theorem so_cat {gl gl' : M (List PyData)} (ha : SO X W a gl) (hb : SO X W b gl') : SO X W (.BinOp a .Add b pos) (M.bd gl fun ds => M.bd gl' fun es => M.opt (if ds.length + es.length ≤ 16777216 then some (ds ++ es) else none)) :=
  pe_imp (pe_op op_cat ha hb) fun σ H Q ⟨C, F, env, R, h⟩ => tG_bd R h fun ds env1 v F1 H1 R1 e1 o1 h1 => by
    obtain ⟨p, vs, rfl, a1, a2, a3, a4, a5⟩ := o1
    refine tG_bd' (R1.guard a1 a2 a3 a5) (fun F' H' env' r => Rel.unguard R1 a2 r) h1 fun e env2 w F2 H2 R2 e2 o2 h2 => ?_
    obtain ⟨z, hz, h3⟩ := h2.of_opt
    obtain ⟨q, ws, rfl, b1, b2, b3, b4, b5⟩ := o2
    split at hz
    · rename_i hl
      cases hz
      have hH : H2 p = some (.lst vs) := R2.guarded (fun b hb => (R1.bd b hb).2.2) a2
      have R3 := Rel.unguard R1 a2 R2
      have a4' := dps_mono e2 a4
      exact ⟨p, q, vs, ws, rfl, rfl, hH, b3, by rw [a4.len, b4.len, sizeLine_eq]; exact hl, fun r hr => aft' (ok := okO X.K) h3 (R3.newH hr) (Ex.refl _) (okO_new R3 hr (a4'.app b4))⟩
    · cases hz
theorem po_imp {o : Option Expr} {t t' : TO} (h : PO X o t) (k : ∀ σ H Q, t' σ H Q → t σ H Q) : PO X o t' := ⟨fun pins s σ H Q I q => h.run pins s σ H Q I (k σ H Q q)⟩
end
end Pf
/-! part Pf11 -/
set_option Elab.async false
set_option linter.all false
set_option maxRecDepth 100000
set_option maxHeartbeats 2000000
namespace Pf
open PySem PySem.Spec L2 Evl
abbrev gBin (f : PyData → PyData → Option PyData) (ga gb : M PyData) : M PyData := M.bd ga fun d => M.bd gb fun e => M.opt (f d e)
abbrev gUn (f : PyData → Option PyData) (ga : M PyData) : M PyData := M.bd ga fun d => M.opt (f d)
abbrev gCmp (f : PyData → PyData → Option Bool) (ga gb : M PyData) : M PyData := M.bd ga fun d => M.bd gb fun e => M.opt ((f d e).map .bool)
abbrev gTst (f : PyData → PyData → Option Bool) (ga gb : M PyData) : M Bool := M.bd ga fun d => M.bd gb fun e => M.opt (f d e)
abbrev gTru (ga : M PyData) : M Bool := M.bd ga fun d => M.opt (truD d)
abbrev gNotT (gt : M Bool) : M Bool := M.bd gt fun b => M.ok (!b)
abbrev gNot (ga : M PyData) : M PyData := M.bd ga fun d => M.opt ((truD d).map fun b => .bool (!b))
abbrev gNil : M (List PyData) := M.ok []
abbrev gCons (ga : M PyData) (gl : M (List PyData)) : M (List PyData) := M.bd ga fun d => M.bd gl fun ds => M.ok (d :: ds)
abbrev gTup (gl : M (List PyData)) : M PyData := M.bd gl fun ds => M.opt (tupD ds)
abbrev gLst (gl : M (List PyData)) : M (List PyData) := M.bd gl fun ds => M.opt (lstD ds)
abbrev gFz (gl : M (List PyData)) : M PyData := M.bd gl fun ds => M.ok (.list ds)
abbrev gIsa (b : String) (ga : M PyData) : M PyData := M.bd ga fun d => M.opt ((isTy d b).map .bool)
abbrev gBlt (k : List PyData → Option PyData) (gl : M (List PyData)) : M PyData := M.bd gl fun ds => M.opt (k ds)
abbrev gCall {α : Type} (m : List PyData → Rf α) (gl : M (List PyData)) : M α := M.bd gl fun ds => gLift (m ds)
abbrev gList (ga : M PyData) : M (List PyData) := M.bd ga fun d => M.opt (seqD d)
def rngN (d : PyData) : Option (List PyData) := match d with
  | .int n => if 0 ≤ n ∧ n ≤ 16777216 then some (rngD 0 n.toNat) else none
  | _ => none
def repD (ds : List PyData) (e : PyData) : Option (List PyData) := match e with
  | .int k => if -(2 ^ 63) ≤ k ∧ k < 2 ^ 63 ∧ ds.length * k.toNat ≤ 16777216 then some (List.replicate k.toNat ds).flatten else none
  | _ => none
abbrev gListR (ga : M PyData) : M (List PyData) := M.bd ga fun d => M.opt (rngN d)
abbrev gRep (gl : M (List PyData)) (gb : M PyData) : M (List PyData) := M.bd gl fun ds => M.bd gb fun e => M.opt (repD ds e)
abbrev gCat (gl gl' : M (List PyData)) : M (List PyData) := M.bd gl fun ds => M.bd gl' fun es => M.opt (if ds.length + es.length ≤ 16777216 then some (ds ++ es) else none)
abbrev gLcT (vs : List Nat) (j : Nat) (gt : M Bool) (ge : M PyData) (ga : M PyData) : M (List PyData) := M.bd ga fun d => M.bd (M.opt (tupO d)) fun ds => gLc vs (bN j) gt ge ds
abbrev gLcL (vs : List Nat) (j : Nat) (gt : M Bool) (ge : M PyData) (ga : M PyData) : M (List PyData) := M.bd ga fun d => M.bd (M.opt (lstO d)) fun ds => gLc vs (bN j) gt ge ds
abbrev gLcR (vs : List Nat) (j : Nat) (gt : M Bool) (ge : M PyData) (ga : M PyData) : M (List PyData) := M.bd ga fun d => M.bd (M.opt (rngO d)) fun ds => gLc vs (bN j) gt ge ds
def lenK (ds : List PyData) : Option PyData := match ds with
  | [d] => lenD d
  | _ => none
def tupK (ds : List PyData) : Option PyData := match ds with
  | [d] => (seqD d).map .tuple
  | _ => none
abbrev gSet (i : Nat) (ga : M PyData) : S := gE ga (gSt i)
abbrev gSetO (i : Nat) (ga : M (List PyData)) : S := gE ga (gStO i)
abbrev gAsg (b : PyData → En → Option En) (ga : M PyData) : S := gE ga (gAs b)
abbrev gRet (ga : M PyData) : S := gE ga gRt
abbrev gRetO (ga : M (List PyData)) : S := gE ga gRo
abbrev gEx {α : Type} (ga : M α) : S := gE ga fun _ => gNx
section
variable {X : Cx} {W : WX} {a b c e elt iter a1 : Expr} {es rest : List Expr} {ga gb gc : M PyData} {gl : M (List PyData)} {gt : M Bool} {ge : M PyData} {pos spos p p0 p1 p2 py : Pos} {x y : Str} {i j : Nat} {ifs : List Expr} {scope : Scope} {own : List (Str × Nat)}
theorem sv_len (hg : Gl X "len") (hm : X.mg "len" = none) (ha : SA X W (e :: es) gl) (he : starEach (e :: es) X.env = (false, eval e X.env) :: starEach es X.env := by rfl) (hpl : (backTo pos (starEach es X.env)).any (·.1) = false := by rfl) :
    SV X W (.Call (.Name "len" p2) (e :: es) [] pos) (gBlt lenK gl) := sv_callB cd_len hg hm PySem.boot_len ha (by decide) (by decide) he hpl
theorem sv_tupleOf (hg : Gl X "tuple") (hm : X.mg "tuple" = none) (ha : SA X W (e :: es) gl) (he : starEach (e :: es) X.env = (false, eval e X.env) :: starEach es X.env := by rfl) (hpl : (backTo pos (starEach es X.env)).any (·.1) = false := by rfl) :
    SV X W (.Call (.Name "tuple" p2) (e :: es) [] pos) (gBlt tupK gl) := sv_callT cd_tuple hg hm (by decide +kernel) ha (by decide) (by decide) he hpl
theorem ss_setLcR (hc : X.calm = true) (hN : X.N.Nodup) (hy : X.N[i]? = some y) (hyl : X.env.scope.names.lookup y = some .local)
    (hsw : swapsWith (.ListComp elt [⟨.Name x p1, .Call (.Name "range" p0) [a1] [] p2, ifs, 0⟩] scope pos) (some (.Name y py)) spos.line X.env = pure true) (hgl : Gl X "range") (hm : X.mg "range" = none) (hi : SV X W a1 ga) (ok : BlkOk X.N X.env.scope scope own) (hj : j ∈ own.map (·.2))
    (hg : ∀ (s : Shared) (H : Hp) (C : Addr) (cl : List (Str × Addr)) (fp : List Addr), PG (X.blk s H scope (compEnvC scope cl C X.env) fp) (.Name x p1) (gName j)) (ht : ∀ (s : Shared) (H : Hp) (C : Addr) (cl : List (Str × Addr)) (fp : List Addr), STs (X.blk s H scope (compEnvC scope cl C X.env) fp) W0 ifs gt)
    (he : ∀ (s : Shared) (H : Hp) (C : Addr) (cl : List (Str × Addr)) (fp : List Addr), SV (X.blk s H scope (compEnvC scope cl C X.env) fp) W0 elt ge)
    (h1 : starEach [a1] X.env = [(false, eval a1 X.env)] := by rfl) (h2 : starEach [a1] X.env = (false, eval a1 X.env) :: starEach [] X.env := by rfl) (hs : ∀ x, foldedSetIterable (.Call (.Name "range" p0) [a1] [] p2) X.env x = pure x := by intro _; rfl) :
    SS X W (.Assign [.Name y py] (.ListComp elt [⟨.Name x p1, .Call (.Name "range" p0) [a1] [] p2, ifs, 0⟩] scope pos) spos) (gSetO i (gLcR (own.map (·.2)) j gt ge ga)) :=
  ps_imp (ps_setLc (tt := tG X.K X.mg okB W0 gt) (te := tG X.K X.mg (okV X.K) W0 ge) hc hN hy hyl hsw (pi_range1 hgl hm (pa_cons hi pa_nil h2) h1) ok hg ht he hs) fun D σ H ⟨C, F, env, R, h⟩ => by
    have h : AftS X.K X.mg W C F (gE ga (fun d => gE (M.bd (M.opt (rngO d)) fun ds => gLc (own.map (·.2)) (bN j) gt ge ds) (gStO i)) env) D := by
      have e : gSetO i (gLcR (own.map (·.2)) j gt ge ga) env = gE ga (fun d => gE (M.bd (M.opt (rngO d)) fun ds => gLc (own.map (·.2)) (bN j) gt ge ds) (gStO i)) env := by
        simp only [gSetO, gE, M.bd]
        cases ga env with
        | none => rfl
        | some r => cases r <;> rfl
      rw [← e]; exact h
    refine tE_bd R h fun d env1 v F1 H1 R1 e1 o1 h1 => ?_
    have h1 : AftS X.K X.mg W C F1 (gE (M.bd (M.opt (rngO d)) fun ds => gLc (own.map (·.2)) (bN j) gt ge ds) (gStO i) env1) D := h1
    cases o1 with
    | int n =>
      by_cases hn : -(2 ^ 62) ≤ n ∧ n < 2 ^ 62
      · have ed : rngO (.int n) = some (rngD 0 n.toNat) := by simp only [rngO, hn, and_self, if_true]
        have h2 : AftS X.K X.mg W C F1 (gE (gLc (own.map (·.2)) (bN j) gt ge (rngD 0 n.toNat)) (gStO i) env1) D := by
          have := h1
          unfold M.bd M.opt at this
          rw [ed] at this
          exact this
        unfold gE gLc at h2
        cases hl : loopC (own.map (·.2)) (bN j) gt ge (rngD 0 n.toNat) [] (wipeE (own.map (·.2)) env1) with
        | none => rw [hl] at h2; exact h2.elim
        | some out =>
          rw [hl] at h2
          refine ⟨n, rfl, hn.1, hn.2, fun Da hD => lc_range (lo := 0) (n := n.toNat) (fun i => BtwC X.K C F1 σ (own.map (·.2)) (bN j) gt ge Da out ((rngD 0 n.toNat).drop i)) (btw_start R1 hD hl) (fun i H hx hB => ?_) (fun H hB => ?_)⟩
          · rw [drop_at (rngD_at hx)] at hB
            exact btw_turn (mg := X.mg) R1 hD hj rfl (.int _) hB
          · rw [List.drop_eq_nil_of_le (by rw [rngD_len]; exact Nat.le_refl _)] at hB
            obtain ⟨F2, R2, ex2, o2⟩ := btw_end R1 hD hB
            exact h2 _ F2 H (R2.storeO i o2) ex2
      · have ed : rngO (.int n) = none := by simp only [rngO, hn, if_false]
        have := h1
        unfold gE M.bd M.opt at this
        rw [ed] at this
        exact this.elim
    | _ => exact h1.elim
end
end Pf
/-! part PfE -/
set_option Elab.async false
set_option linter.all false
set_option maxRecDepth 100000
set_option maxHeartbeats 2000000
namespace Pf
open PySem PySem.Spec L2 Evl
theorem meets_enum1 {v : Value} {o : Obj} {Hx : Heap → Prop} (Bg : Begins v o Hx) :
    Meets (Builtin.«enumerate.__new__» ⟨[.type "enumerate", v], []⟩) (fun _ R s => Hx s.heap ∧
      R (.ok (.ret (.ref (s.heap.push o).objs.size))) { s with heap := (s.heap.push o).push { cls := .type "enumerate", data := .fields #[.none, .bool false, .ref s.heap.objs.size, rawInt 0, .none, .none] } }) := Meets.of_wp fun prog w A R s h => by
  obtain ⟨hp, gg, dd, tk, os⟩ := s
  obtain ⟨hx, h⟩ := h
  have hsub := sub_enumerate
  have it1 : ∀ {A' : Around} {E' : Value → Shared → Prop} {Q' : Value → Shared → Prop}, Q' (.ref hp.objs.size) ⟨hp.push o, gg, dd, tk, os⟩ → wpAny (model prog w) A' (pyIter v) Q' E' ⟨hp, gg, dd, tk, os⟩ := fun q => Bg.iter prog w _ _ ⟨hp, gg, dd, tk, os⟩ _ hx q
  wp_walk using it1
  refine wpAny_stack_any fun st => wpAny_pure ?_
  split
  · rename_i cl _ _ _ _ _
    cases (cl == Value.type "enumerate") <;> (wp_walk using it1; exact ⟨_, rfl, h⟩)
  · wp_walk using it1
    exact ⟨_, rfl, h⟩
theorem enum1_begins {prog : Program} {w : World} {A : Around} {E : Value → Shared → Prop} {s : Shared} {v : Value} {o : Obj} {Hx : Heap → Prop} {Q : Value → Shared → Prop} (Bg : Begins v o Hx) (hx : Hx s.heap)
    (h : ∀ h', IsEnum h' (s.heap.objs.size + 1) s.heap.objs.size 0 .none → h'.get? s.heap.objs.size = some o → (∀ b u, s.heap.get? b = some u → h'.get? b = some u) → Q (.ref (s.heap.objs.size + 1)) { s with heap := h' }) :
    wpAny (model prog w) A (call (.type "enumerate") [v]) Q E s := by
  refine callType_new F.called_enumerate (by decide) (F.typeCall_enumerate_1 _) (F.newCall_enumerate_1 _) (fun ob => F.args_object_init_2 ob _) F.entry_enumerate_new (meets_enum1 Bg) ⟨hx, ?_⟩
  have hz : (s.heap.push o).objs.size = s.heap.objs.size + 1 := Heap.size_push ..
  show _ ∧ _
  rw [hz]
  have he : IsEnum ((s.heap.push o).push { cls := .type "enumerate", data := .fields #[.none, .bool false, .ref s.heap.objs.size, rawInt 0, .none, .none] }) (s.heap.objs.size + 1) s.heap.objs.size 0 .none := by
    have q := Heap.get?_push_size (s.heap.push o) (o := { cls := .type "enumerate", data := .fields #[.none, .bool false, .ref s.heap.objs.size, rawInt 0, .none, .none] }) rfl
    rw [hz] at q
    exact q
  exact ⟨⟨_, he, rfl⟩, h _ he (Heap.get?_push_of_some _ (Heap.get?_push_size _ Bg.free)) fun b u x => Heap.get?_push_of_some _ (Heap.get?_push_of_some _ x)⟩
def Itet (K : PySem.W.Frag) (a : Addr) : It :=
  ⟨fun i H => ∃ xs x, SqT K H a xs ∧ xs[i]? = some x, fun i H v H' => ∃ T x ob, (ob.dict = none ∧ ob.slots = #[]) ∧ v = .ref T ∧ H T = none ∧ H' = upd H T (.frz ob (.tup [.int (i : Nat), x])) ∧ ∀ xs, SqT K H a xs → xs[i]? = some x, fun i H => ∃ xs, SqT K H a xs ∧ xs.length = i⟩
theorem turn_enumT {P : Program} {w : World} {K : PySem.W.Frag} {elts : List Expr} {kk : Nat} {tpos : Pos} (a e it : Addr) :
    Turn P w K (.Tuple elts kk tpos) (Itet K a) [e, it] e (fun i h => (∃ old, IsEnum h e it ((i : Nat) : Int) old) ∧ h.IsTupleIter it a i ∧ e ≠ it ∧ e ≠ a ∧ a ≠ it) where
  mem := List.mem_cons_self
  obj := fun i h st b hb => by
    obtain ⟨⟨old, he⟩, ⟨o, ho, _, hd⟩, _⟩ := st
    rcases List.mem_cons.mp hb with z | z
    · rw [z]; exact ⟨_, he, fun v q => nomatch q⟩
    · rw [List.mem_singleton.mp z]; exact ⟨o, ho, fun v q => by rw [hd] at q; cases q⟩
  keep := fun i h h' ⟨⟨old, he⟩, hi, n⟩ k => ⟨⟨old, k e List.mem_cons_self _ he⟩, hi.at fun o q => k it (by simp) o q, n⟩
  item := by
    intro X hP hw hK hc i pins s σ H E I hf st hg
    subst hP hw hK
    obtain ⟨⟨old, he⟩, hit, n1, n2, n3⟩ := st
    obtain ⟨xs, x, hq, hx⟩ := hg
    obtain ⟨its, rv, p, hz⟩ := I.tuple hq
    obtain ⟨u, hu, ru⟩ := rv.get hx
    have hilt : i < its.toArray.size := by
      have := (List.getElem?_eq_some_iff.mp hu).1
      simpa using this
    have hel : e < s.heap.objs.size := Heap.lt_size he
    have hil : it < s.heap.objs.size := by obtain ⟨_, q, _⟩ := hit; exact Heap.lt_size q
    refine wpAny_pyNext_enum_itemD (Draws.tuple (prog := X.prog) (w := X.w) (A := X.A.in1) (I.ok.hd hc) it a n3 its.toArray) he ⟨hit, p⟩ hilt n1 (by simp [n1, n2]) fun y h' tk hy ho hst hT hsz hk => ?_
    have ey : y = u := by
      have h1 : its.toArray[i]? = some y := hy
      have h2 : its.toArray[i]? = some u := by simpa using hu
      rw [h1] at h2
      exact Option.some.inj h2
    subst ey
    refine ⟨_, rfl, wpAny_letOwnedTupleGo_enum (s := { s with heap := h', toks := tk + 1 }) ho fun h'' he' sb => ?_⟩
    have hT2 : h''.get? s.heap.objs.size = some { cls := .type "tuple", data := .seq #[.int i tk, y] } := (sb.2 _ (Nat.ne_of_gt hel)).trans hT
    have new : ObjOk X.prog X.w (upd H s.heap.objs.size (.frz { cls := .type "tuple", data := .seq #[.int i tk, y] } (.tup [.int (i : Nat), x]))) h'' s.heap.objs.size (.frz { cls := .type "tuple", data := .seq #[.int i tk, y] } (.tup [.int (i : Nat), x])) :=
      ⟨hT2, by show 2 ≤ sizeLine; decide, [.int i tk, y], .cons ⟨_, rfl⟩ (.cons ru .nil), ⟨_, hT2, rfl, _, rfl⟩⟩
    have kk : ∀ b ob, b ∉ [e, it] → s.heap.get? b = some ob → h''.get? b = some ob := fun b ob hb q => by
      have b1 : b ≠ e := fun z => hb (by simp [z])
      have b2 : b ≠ it := fun z => hb (by simp [z])
      exact (sb.2 b b1).trans (hk b ob b1 b2 q)
    have I1 : Inv X pins σ (upd H s.heap.objs.size (.frz { cls := .type "tuple", data := .seq #[.int i tk, y] } (.tup [.int (i : Nat), x]))) { s with heap := h'', toks := tk + 1 } := I.turnedNew (t' := tk + 1) kk hf (Nat.le_refl _) new
    refine ⟨.ref s.heap.objs.size, _, I1, rfl, ⟨_, x, _, ⟨rfl, rfl⟩, rfl, I.hok.fresh (Nat.le_refl _), rfl, fun ys hy => by rw [I.tuple_inj hy hq]; exact hx⟩, ⟨⟨y, ?_⟩, hst.1.at fun o q => (sb.2 it (Ne.symm n1)).trans q, n1, n2, n3⟩, fun b hb => ?_⟩
    · have e1 : ((i + 1 : Nat) : Int) = (i : Int) + 1 := by omega
      rw [e1]
      exact he'
    · have hb' : b < s.heap.objs.size := by
        rcases List.mem_cons.mp hb with z | z
        · rw [z]; exact hel
        · rw [List.mem_singleton.mp z]; exact hil
      rw [upd_ne (Nat.ne_of_lt hb')]
      exact (hf b hb).1
  done := by
    intro X hP hw hK hc i pins s σ H E I hf st hg
    subst hP hw hK
    obtain ⟨⟨old, he⟩, hit, n1, n2, n3⟩ := st
    obtain ⟨xs, hq, hx⟩ := hg
    obtain ⟨its, rv, p, hz⟩ := I.tuple hq
    obtain ⟨f0, f1, f2, f3, f4, f5⟩ := hf it (by simp)
    have hl : its.toArray.size = i := by
      have := rv.length
      simp only [List.size_toArray]
      omega
    subst hl
    exact wpAny_pyNext_enum_endD (Draws.tuple (prog := X.prog) (w := X.w) (A := X.A.in1) (I.ok.hd hc) it a n3 its.toArray) he ⟨hit, p⟩ fun h' eb => ⟨rfl, I.turned (t' := s.toks) (fun b o hb q => eb b o hb q) f0 f1 f3 f4 f5⟩
  self := fun A i s Q E ⟨⟨_, he⟩, _⟩ h => wpAny_pyIter_enum he h
def iEnumT (K : PySem.W.Frag) (ta : TA) : TI := fun σ H R => ta σ H fun vs H1 => ∃ a xs, vs = [.ref a] ∧ SqT K H1 a xs ∧ R (Itet K a) H1
theorem pi_enumT {X : Cx} {e : Expr} {ta : TA} {p pos tpos : Pos} {elts : List Expr} {kk : Nat} (hg : Gl X "enumerate") (hm : X.mg "enumerate" = none) (ha : PA X [e] ta) (hs : starEach [e] X.env = [(false, eval e X.env)] := by rfl) :
    PI X (.Tuple elts kk tpos) (.Call (.Name "enumerate" p) [e] [] pos) (iEnumT X.K ta) := by
  refine ⟨fun pins s σ H R I h => PyProof.Rows.Call_ (ld_blt I hg hm PyProof.Rows.boot_enumerate (PyProof.Rows.callWith_type1 (thn (ha.run pos pins s σ H _ I h) fun us s1 ⟨vs, H1, I1, r1, a, xs, ex, hq, q⟩ => ?_) hs rfl))⟩
  subst ex
  cases r1 with
  | cons r rr =>
    cases rr
    cases r
    obtain ⟨its, rv, p', hz⟩ := I1.tuple hq
    have ha' : a < s1.heap.objs.size := by obtain ⟨_, q, _⟩ := p'; exact Heap.lt_size q
    refine enum1_begins (begins_tuple a its.toArray) p' fun h' he hit hk => wpAny_pyIter_enum he ?_
    have I2 : Inv X pins σ H1 { s1 with heap := h' } := I1.kept (t' := s1.toks) hk
    refine ⟨s1.heap.objs.size + 1, [s1.heap.objs.size + 1, s1.heap.objs.size], _, _, H1, rfl, I2, turn_enumT a (s1.heap.objs.size + 1) s1.heap.objs.size, ⟨⟨.none, he⟩, ⟨_, hit, rfl, rfl⟩, Nat.succ_ne_self _, Nat.ne_of_gt (Nat.lt_succ_of_lt ha'), Nat.ne_of_lt ha'⟩, fun b hb => ?_, q⟩
    have hle : s1.heap.objs.size ≤ b := by
      rcases List.mem_cons.mp hb with z | z
      · rw [z]; exact Nat.le_succ _
      · rw [List.mem_singleton.mp z]; exact Nat.le_refl _
    exact I1.fpOk hle (I1.hok.fresh hle)
def enumD (ds : List PyData) : List PyData := (List.range ds.length).zipWith (fun (i : Nat) d => .tuple [.int (i : Int), d]) ds
theorem enumD_len (ds : List PyData) : (enumD ds).length = ds.length := by unfold enumD; rw [List.length_zipWith, List.length_range, Nat.min_self]
theorem enumD_at {ds : List PyData} {i : Nat} {d : PyData} (h : ds[i]? = some d) : (enumD ds)[i]? = some (.tuple [.int (i : Int), d]) := by
  have hl := (List.getElem?_eq_some_iff.mp h).1
  unfold enumD
  rw [List.getElem?_zipWith, List.getElem?_range hl, h]
def gForET (ga : M PyData) (b : PyData → En → Option En) (g : S) : S := gE ga fun d => match d with
  | .tuple ds => loopL b g (enumD ds)
  | _ => fun _ => none
def looseP : PyData → Bool
  | .none => false
  | .int _ => false
  | _ => true
theorem dp_loose {K : PySem.W.Frag} {H : Hp} {v : V} {d : PyData} (h : Dp K H v d) (l : looseP d = true) : looseV v = true := by
  cases h <;> first | rfl | cases l
def gForEL (ga : M PyData) (b : PyData → En → Option En) (g : S) : S := gE ga fun d => match d with
  | .list ds => if ds.all looseP = true then loopL b g (enumD ds) else fun _ => none
  | _ => fun _ => none
section
variable {X : Cx} {W : WX} {e : Expr} {tgs : List Expr} {kk : Nat} {body : List Stmt} {ga : M PyData} {b : PyData → En → Option En} {g : S} {pos p1 p2 tpos : Pos}
theorem enum_turn {K : PySem.W.Frag} {mg : Str → Option Value} {C : Cn} {F1 : Hp} {ds : List PyData} {D : Ends} {i : Nat} {d : PyData} {x : V} {T : Addr} {σ : St} {H : Hp} {t : TG}
    (kt : ∀ C F σ H env env' v d Q, Rel K C F σ H env → Dp K F v d → b d env = some env' → (∀ σ', Rel K C F σ' H env' → Q σ' H) → t v σ H Q) (hd : ds[i]? = some d) (dd : Dp K F1 x d) {u : HO} (hu : okNew u) (hr : ∀ H, H T = some u → Rd H T (.tup [.int (i : Nat), x])) (hT : H T = none)
    (hB : Btw K mg W C F1 (loopL b g ((enumD ds).drop i)) D σ H) :
    t (.ref T) σ (upd H T u) fun σ2 H2 => tS K mg W g { D with nx := Btw K mg W C F1 (loopL b g ((enumD ds).drop (i + 1))) D, ct := Btw K mg W C F1 (loopL b g ((enumD ds).drop (i + 1))) D, bk := D.nx } σ2 H2 := by
  obtain ⟨F', env', R', ex, h2⟩ := hB
  rw [drop_at (enumD_at hd)] at h2
  obtain ⟨env2, hb2, h3⟩ := loop_cons h2
  have hf := (R'.fresh hT).1
  have exn : Ex F' (upd F' T u) := Ex.new hf
  refine kt C _ σ _ env' env2 _ _ _ (R'.newF hT hu) (.tup (.inl (hr _ upd_same)) (.cons (.int _) (.cons (dp_mono exn (dp_mono ex dd)) .nil))) hb2 fun σ2 R2 => ⟨C, _, env2, R2, ?_⟩
  exact (h3.up exn).imp (fun _ _ ⟨F2, env3, R3, ex3, q⟩ => ⟨F2, env3, R3, ex.trans ex3, q⟩) (fun _ _ z => z) (fun _ _ z => z) (fun _ _ ⟨F2, env3, R3, ex3, q⟩ => ⟨F2, env3, R3, ex.trans ex3, q⟩)
theorem ss_forET (hp : PassesOwn (model X.prog X.w) X.A X.env X.xe) (hc : X.calm = true) (hgl : Gl X "enumerate") (hm : X.mg "enumerate" = none) (hi : SV X W e ga) (hg : SGt X (.Tuple tgs kk tpos) b) (hb : SSs X W body g)
    (h1 : starEach [e] X.env = [(false, eval e X.env)] := by rfl) (h2 : starEach [e] X.env = (false, eval e X.env) :: starEach [] X.env := by rfl) (hs : ∀ x, foldedSetIterable (.Call (.Name "enumerate" p1) [e] [] p2) X.env x = pure x := by intro _; rfl) :
    SS X W (.For (.Tuple tgs kk tpos) (.Call (.Name "enumerate" p1) [e] [] p2) body [] pos) (gForET ga b g) := by
  obtain ⟨t, pt, kt⟩ := hg
  refine ps_imp (ps_for hp hc (pi_enumT hgl hm (pa_cons hi pa_nil h2) h1) pt hb hs) fun D σ H ⟨C, F, env, R, h⟩ => tE_bd R h fun d env1 v F1 H1 R1 e1 o1 h1 => ?_
  cases o1 with
  | @tup a xs ds s r =>
    refine ⟨a, xs, rfl, ex_t R1.fh s, fun i m σ H => m = ds.length - i ∧ i ≤ ds.length ∧ Btw X.K X.mg W C F1 (loopL b g ((enumD ds).drop i)) D σ H, ⟨ds.length, rfl, Nat.zero_le _, F1, env1, R1, Ex.refl _, h1⟩, ?_⟩
    rintro i m σ H ⟨rfl, hi, hB⟩
    have hq : SqT X.K H a xs := by obtain ⟨F', env', R', ex, _⟩ := hB; exact ex_t (ex.trans R'.fh) s
    by_cases hlt : i < ds.length
    · have hx : xs[i]? = some (xs[i]'(by rw [r.len]; exact hlt)) := List.getElem?_eq_getElem _
      obtain ⟨d, hd, dd⟩ := DpAll_at r hx
      refine .inr ⟨⟨xs, _, hq, hx⟩, _, fun σ' H' p' => ⟨ds.length - (i + 1), by omega, rfl, hlt, p'⟩, fun v H' ⟨T, x, ob, hob, ev, hT, eH, hy⟩ => ?_⟩
      have ex' : x = xs[i]'(by rw [r.len]; exact hlt) := by
        have := hy xs hq
        rw [hx] at this
        exact (Option.some.inj this).symm
      subst ev eH ex'
      exact enum_turn kt hd dd (u := .frz ob (.tup [.int (i : Nat), xs[i]'(by rw [r.len]; exact hlt)])) hob (fun _ q => .inr ⟨ob, q⟩) hT hB
    · have e' : i = ds.length := by omega
      subst e'
      refine .inl ⟨⟨xs, hq, r.len⟩, ?_⟩
      rw [List.drop_eq_nil_of_le (by rw [enumD_len]; exact Nat.le_refl _)] at hB
      exact loop_nil hB
  | _ => exact h1.elim
theorem ss_forEL (hp : PassesOwn (model X.prog X.w) X.A X.env X.xe) (hc : X.calm = true) (hgl : Gl X "enumerate") (hm : X.mg "enumerate" = none) (hi : SV X W e ga) (hg : SGt X (.Tuple tgs kk tpos) b) (hb : SSs X W body g)
    (h1 : starEach [e] X.env = [(false, eval e X.env)] := by rfl) (h2 : starEach [e] X.env = (false, eval e X.env) :: starEach [] X.env := by rfl) (hs : ∀ x, foldedSetIterable (.Call (.Name "enumerate" p1) [e] [] p2) X.env x = pure x := by intro _; rfl) :
    SS X W (.For (.Tuple tgs kk tpos) (.Call (.Name "enumerate" p1) [e] [] p2) body [] pos) (gForEL ga b g) := by
  obtain ⟨t, pt, kt⟩ := hg
  refine ps_imp (ps_for hp hc (pi_enum hgl hm (pa_cons hi pa_nil h2) h1) pt hb hs) fun D σ H ⟨C, F, env, R, h⟩ => tE_bd R h fun d env1 v F1 H1 R1 e1 o1 h1 => ?_
  cases o1 with
  | @lst a xs ds s r =>
    by_cases hall : ds.all looseP = true
    case neg =>
      simp only [if_neg hall] at h1
      exact h1.elim
    simp only [if_pos hall] at h1
    refine ⟨a, xs, rfl, ex_l R1.fh s, fun i m σ H => m = ds.length - i ∧ i ≤ ds.length ∧ Btw X.K X.mg W C F1 (loopL b g ((enumD ds).drop i)) D σ H, ⟨ds.length, rfl, Nat.zero_le _, F1, env1, R1, Ex.refl _, h1⟩, ?_⟩
    rintro i m σ H ⟨rfl, hi, hB⟩
    have hq : SqL X.K H a xs := by obtain ⟨F', env', R', ex, _⟩ := hB; exact ex_l (ex.trans R'.fh) s
    by_cases hlt : i < ds.length
    · have hx : xs[i]? = some (xs[i]'(by rw [r.len]; exact hlt)) := List.getElem?_eq_getElem _
      obtain ⟨d, hd, dd⟩ := DpAll_at r hx
      refine .inr ⟨⟨xs, _, hq, hx⟩, _, fun σ' H' p' => ⟨ds.length - (i + 1), by omega, rfl, hlt, p'⟩, fun v H' ⟨T, x, ev, hT, eH, hy⟩ => ?_⟩
      have ex' : x = xs[i]'(by rw [r.len]; exact hlt) := by
        have := hy xs hq
        rw [hx] at this
        exact (Option.some.inj this).symm
      subst ev eH ex'
      exact enum_turn kt hd dd (u := .tup [.int (i : Nat), xs[i]'(by rw [r.len]; exact hlt)]) (by
        have z := dp_loose dd (List.all_eq_true.mp hall d (List.mem_of_getElem? hd))
        show ([.int (i : Nat), xs[i]'(by rw [r.len]; exact hlt)] : List V).any looseV = true
        simp [z]) (fun _ q => .inl q) hT hB
    · have e' : i = ds.length := by omega
      subst e'
      refine .inl ⟨⟨xs, hq, Nat.le_of_eq r.len⟩, ?_⟩
      rw [List.drop_eq_nil_of_le (by rw [enumD_len]; exact Nat.le_refl _)] at hB
      exact loop_nil hB
  | _ => exact h1.elim
end
end Pf
/-! part PfX1 -/
set_option Elab.async false
set_option linter.all false
set_option maxRecDepth 100000
set_option maxHeartbeats 4000000
namespace Pf
open PySem PySem.Spec L2 Evl
structure BaseI (K : PySem.W.Frag) (mg : Str → Option Value) (b : Str) (CS : Addr) : Prop where
  g : mg b = some (.ref CS)
  ga : PySem.W.specialIn K (.ref CS) "__getattribute__" = some (some (.builtin "type.__getattribute__"))
  rd : PySem.W.readsIn K CS (.type "type") = true
  at_ : PySem.W.findCls K (.ref CS) (.type "type") "__init__" = some (.val (.builtin "ValueError.__init__"))
section
variable {X : Cx} {b x : Str} {CS C fI : Addr} {e : Expr} {es : List Expr} {ta : TA} {p p1 p2 pos pos2 : Pos}
theorem pe_binit {pl : Sem Bool} (Bi : BaseI X.K X.mg b CS) (ha : PA X (e :: es) ta) (hg : Gl X b := by rfl) (hdb : (b == ("__debug__" : Str)) = false := by decide)
    (hc : eval (.Call (.Attribute (.Name b p1) "__init__" p2) (e :: es) [] pos) X.env = (do
      let ov ← eval (.Name b p1) X.env
      standAt p2.atName
      let (f, first) ← holding [ov] (getMethod ov "__init__" pl)
      callWith pos f first (backTo pos (starEach (e :: es) X.env)) (backToKw pos (keywordEach [] X.env))) := by rfl)
    (he : starEach (e :: es) X.env = (false, eval e X.env) :: starEach es X.env := by rfl) (hpl : (backTo pos (starEach es X.env)).any (·.1) = false := by rfl) :
    PE X (.Call (.Attribute (.Name b p1) "__init__" p2) (e :: es) [] pos) (tVeI X.K ta) := by
  refine ⟨fun pins s σ H Q I h => PySem.W.methodCall_KW (ld_glob I hg Bi.g ?_ hdb) hc⟩
  refine PySem.W.method_cls I.kIn Bi.ga (PySem.W.cls_value I.kIn Bi.rd Bi.at_ (by decide +kernel) ?_)
  show wpAny _ _ (callWith pos (Value.builtin "ValueError.__init__") [] (backTo pos (starEach (e :: es) X.env)) []) _ _ _
  refine PyProof.Rows.callWith_method1 (thn (ha.run pos pins _ σ H _ (I.tok _) h) fun us s1 ⟨vs, H1, I1, r1, a, C, ws, ev, hl, T, ea, q⟩ => ?_) he hpl
  subst ev
  cases r1 with
  | @cons _ u0 _ ur ra rw' =>
    obtain rfl : u0 = Value.ref a := ra
    have hlen : ur.length ≤ sizeLine := by
      rw [← Paired.length rw', sizeLine_eq]
      omega
    exact oinit_ok T I1 ea hlen fun s' J => ⟨.non, H1, J, rfl, q⟩
def tMkK (C : Addr) (n : Nat) (sp : Sp) (tk : TA) : St → Hp → XK → Prop := fun σ H Q => tk σ H fun zs H1 => zs.length = n ∧ ∀ a, H1 a = none → sp (.ref a :: zs) (upd H1 a (exo a C none))
  (fun v H2 => v = .non ∧ ∃ (d : Addr) (fs : List (Str × V)), H2 a = some (exo a C (some d)) ∧ H2 d = some (exd d fs) ∧ H1 d = none ∧ Q (.ref C) (some d) (upd (del H2 a) d (.xd fs))) (fun _ _ _ => False)
theorem pmk_oexK {CX : CXT} {k : Nat} {fd : FuncData} {ps ks : List Str} {sp : Sp} {kws : List Keyword} {tk : TA} (T : OexC X.K C) (iC : PySem.W.findIn X.K (.ref C) "__init__" = some (some (.ref fI))) (tI : PySem.W.typeIn X.K (.ref fI) = some (.type "function"))
    (F1 : FnOk X.prog X.w X.K X.mg X.base CX k fI fd ps sp) (hr : Room (k + 1) X.A) (hb : ∀ (s : Shared) (u : Value) (ws : List Value), ws.length = ks.length → BindsTo s fd ⟨[u], ks.zip ws⟩ (ps.zip (u :: ws))) (hx : Passes CX X (fun _ _ _ => False)) (hm : X.mg x = some (.ref C)) (hkw : PK X kws tk)
    (hg : Gl X x := by rfl) (hdb : (x == ("__debug__" : Str)) = false := by decide) (hall : (backToKw pos (keywordEach kws X.env)).all (·.1.isSome) = true := by rfl) (hks : (backToKw pos (keywordEach kws X.env)).filterMap (·.1) = ks := by rfl)
    (hpl : ((backTo pos (starEach [] X.env)).any (·.1) || (backToKw pos (keywordEach kws X.env)).any (·.1.isNone)) = false := by rfl) :
    PMk X (.Call (.Name x p) [] kws pos) (tMkK C ks.length sp tk) := by
  intro pins s σ H Q I h
  obtain ⟨nm, q, N, bs, bm, sn, sub, ab, col, dd, k0, k1, k2, k3, k5, hC, hbm⟩ := T.cls
  refine wpAny_Call_Name_kw (ld_glob I hg hm (PySem.W.callWith_KW0 (h₀ := X.base) I.ok.mod.kin T.kC hall ?_ hpl) hdb)
  refine thn (hkw.run pos pins s σ H _ I h) fun ws s1 ⟨zs, H1, I1, rz, hzl, q1⟩ => ⟨I1.kIn, ?_⟩
  rw [hks]
  show wpAny _ _ (call (.ref C) [] (ks.zip ws)) _ _ _
  obtain ⟨hp, g, dr, tk', os⟩ := s1
  have hsz : hp.objs.size ≤ hp.objs.size + 1 := Nat.le_succ _
  have hn : H1 (hp.objs.size + 1) = none := I1.hok.fresh hsz
  have hq := q1 (hp.objs.size + 1) hn
  have kk : ∀ b o, hp.get? b = some o → ((hp.push (PySem.W.kdv_tup [])).push (PySem.HandSPX.excO C hp.objs.size)).get? b = some o := fun b o e => Heap.get?_push_of_some _ (Heap.get?_push_of_some _ e)
  have hget : ((hp.push (PySem.W.kdv_tup [])).push (PySem.HandSPX.excO C hp.objs.size)).get? (hp.objs.size + 1) = some (PySem.HandSPX.excO C hp.objs.size) := by heap_get
  have I2 : Inv X pins σ (upd H1 (hp.objs.size + 1) (exo (hp.objs.size + 1) C none)) ⟨(hp.push (PySem.W.kdv_tup [])).push (PySem.HandSPX.excO C hp.objs.size), g, dr, tk', os⟩ :=
    I1.laid (t' := tk') (a := hp.objs.size + 1) (o := exo (hp.objs.size + 1) C none) (h' := (hp.push (PySem.W.kdv_tup [])).push (PySem.HandSPX.excO C hp.objs.size)) kk hsz (exo_ok hget)
  have r2 : Vals (V.ref (hp.objs.size + 1) :: zs) (Value.ref (hp.objs.size + 1) :: ws) := .cons rfl rz
  have hwl : ws.length = ks.length := by rw [← Paired.length rz]; exact hzl
  refine wpAny_call (PySem.PfX.call_K F.excBase_ValueError (fun Y => PySem.HandSPX.refsVE_contains Y bm hbm) (I1.kIn _ _ hC) (PySem.W.looks_findIn I1.kIn iC) (fun self => PySem.W.bind_fn I1.kIn self tI)
    (codeAny_mono (F1.run _ X.stack _ _ ⟨[Value.ref (hp.objs.size + 1)], ks.zip ws⟩ (Value.ref (hp.objs.size + 1) :: ws) _ _ (fun _ _ _ => False) (hr.make C [] (ks.zip ws)) (I2.env0.make C [] (ks.zip ws)) (hb _ _ ws hwl) r2 hq) fun r s' hq' => ?_))
  cases r with
  | error er => exact hx pins σ _ _ er s' I2 hq'
  | ok fl =>
    cases fl with
    | ret u =>
      obtain ⟨v, H2, os2, bare2, un2, hok2, rv, ev, d, fs, ea, ed, hd1, q2⟩ := hq'
      subst ev
      obtain ⟨h2, g2, d2, t2, os'⟩ := s'
      exact ⟨rv, mk_end (raises_own T.exC T.tyC) I1 hsz kk un2 hok2 os2 bare2 ea ed hd1 q2⟩
    | next => exact hq'.elim
    | brk => exact hq'.elim
    | cont => exact hq'.elim
end
def printable : PyData → Bool
  | .int i => decide (i.natAbs.log2 < 1920)
  | .str x => decide (x.length ≤ 1000)
  | _ => false
def spInit (K : PySem.W.Frag) (C : Addr) (fs : List Str) : Sp := fun vs H Q _ => ∃ (a : Addr) (ws : List V) (F : Hp) (ds : List PyData), vs = .ref a :: ws ∧ OexC K C ∧ H a = some (exo a C none) ∧ F a = none ∧ Ex F H ∧ DpAll K F ws ds ∧ ds.length = fs.length ∧ ds.all printable = true ∧
  ∀ d, H d = none → d ≠ a → Q .non (upd (upd H d (exd d (fs.zip ws).reverse)) a (exo a C (some d)))
end Pf
/-! part PfX2 -/
set_option Elab.async false
set_option linter.all false
set_option maxRecDepth 100000
set_option maxHeartbeats 4000000
namespace Pf
open PySem PySem.Spec L2 Evl
theorem str_app_len (a b : Str) : (a ++ b).length = a.length + b.length := by
  first
    | exact PySem.Str.length_append a b
    | (show (a ++ b).cps.size = a.cps.size + b.cps.size; simp [HAppend.hAppend, Append.append, Array.size_append])
theorem tJs_run : ∀ (ts : List TE) {σ : St} {H : Hp} {Q : Str → Hp → Prop}, (∀ t ∈ ts, ∀ Q : VK, (∀ y : Str, y.length ≤ 2000 → Q (.str y) H) → t σ H Q) → ∀ acc : Str, acc.length + 2000 * ts.length ≤ 16777216 → (∀ out, Q out H) → tJs ts acc σ H Q
  | [], _, _, _, _, acc, _, q => q acc
  | t :: ts, σ, H, Q, h, acc, hl, q => by
    show t σ H fun x H1 => ∃ y : Str, x = .str y ∧ (acc ++ y).length ≤ sizeLine ∧ tJs ts (acc ++ y) σ H1 Q
    refine h t List.mem_cons_self _ fun y hy => ⟨y, rfl, ?_, tJs_run ts (fun t' ht => h t' (List.mem_cons_of_mem _ ht)) _ ?_ q⟩
    · rw [str_app_len, sizeLine_eq]
      rw [List.length_cons] at hl
      omega
    · rw [str_app_len]
      rw [List.length_cons] at hl
      omega
theorem j_const {x : Str} {σ : St} {H : Hp} (hx : x.length ≤ 2000) : ∀ Q : VK, (∀ y : Str, y.length ≤ 2000 → Q (.str y) H) → tC (.str x) σ H Q := fun Q q => q x hx
theorem j_slot {K : PySem.W.Frag} {F : Hp} {i : Nat} {v : V} {d : PyData} {σ : St} {H : Hp} (hs : σ[i]? = some (some v)) (hd : Dp K F v d) (hp : printable d = true) : ∀ Q : VK, (∀ y : Str, y.length ≤ 2000 → Q (.str y) H) → tFmt (tVar i) σ H Q := fun Q q => by
  refine ⟨v, hs, ?_⟩
  cases hd with
  | int k =>
    have hk : k.natAbs.log2 < 1920 := of_decide_eq_true hp
    refine .inr ⟨k, rfl, hk, q _ ?_⟩
    have e := int_text_length_le (k := 1920) (by decide) hk
    show (PySem.Str.ofString (toString k)).length ≤ 2000
    rw [ofString_length]
    omega
  | str x =>
    have hx : x.length ≤ 1000 := of_decide_eq_true hp
    exact .inl ⟨x, rfl, by rw [sizeLine_eq]; omega, q x (by omega)⟩
  | _ => cases hp
section
variable {P : Program} {w : World} {K : PySem.W.Frag} {mg : Str → Option Value} {base : Heap} {C CS : Addr} {b : Str}
theorem init2 {σ : St} {H F : Hp} {a : Addr} {v1 v2 : V} {d1 d2 : PyData} {f1 f2 : Str} {ts : List TE} {D : Ends} {Q : VK} (T : OexC K C) (n1 : PySem.W.findIn K (.ref C) f1 = some none) (n2 : PySem.W.findIn K (.ref C) f2 = some none)
    (s0 : σ[0]? = some (some (.ref a))) (s1 : σ[1]? = some (some v1)) (s2 : σ[2]? = some (some v2)) (ea : H a = some (exo a C none)) (hts : ∀ t ∈ ts, ∀ Q : VK, (∀ y : Str, y.length ≤ 2000 → Q (.str y) H) → t σ H Q) (hl : ts.length ≤ 20)
    (hq : ∀ d, H d = none → d ≠ a → D.nx σ (upd (upd H d (exd d [(f2, v2), (f1, v1)])) a (exo a C (some d)))) :
    tSeq (tDrop (tVeI K (tCons (tVar 0) (tCons (fun σ H Q => tJs ts Str.empty σ H fun out H1 => Q (.str out) H1) tNil)))) (tSeq (tOst K f1 (tVar 0) (tVar 1)) (tOst K f2 (tVar 0) (tVar 2))) D σ H := by
  refine ⟨.ref a, s0, tJs_run ts hts _ (by show 0 + _ ≤ _; omega) fun out => ⟨a, C, [.str out], rfl, by show 1 ≤ 1000; decide, T, ea, v1, s1, .ref a, s0, a, C, rfl, T, n1, .inl ⟨ea, fun d hd hda => ?_⟩⟩⟩
  refine ⟨v2, s2, .ref a, s0, a, C, rfl, T, n2, .inr ⟨d, [(f1, v1)], upd_same, by rw [upd_ne hda, upd_same], by show 1 ≤ 900; decide, ?_⟩⟩
  have e : upd (upd (upd H d (exd d [(f1, v1)])) a (exo a C (some d))) d (exd d [(f2, v2), (f1, v1)]) = upd (upd H d (exd d [(f2, v2), (f1, v1)])) a (exo a C (some d)) := by
    funext x
    by_cases h1 : x = d
    · subst h1; rw [upd_same, upd_ne hda, upd_same]
    · rw [upd_ne h1]
      by_cases h2 : x = a
      · subst h2; rw [upd_same, upd_same]
      · rw [upd_ne h2, upd_ne h2, upd_ne h1, upd_ne h1]
  rw [e]
  exact hq d hd hda
end
structure XCls (K : PySem.W.Frag) (mg : Str → Option Value) (x : Str) (C fI : Addr) : Prop where
  g : mg x = some (.ref C)
  oex : OexC K C
  iC : PySem.W.findIn K (.ref C) "__init__" = some (some (.ref fI))
  tI : PySem.W.typeIn K (.ref fI) = some (.type "function")
def gRaise (cls : Str) (fs : List Str) (gl : M (List PyData)) : S := gE gl fun ds env => if ds.length = fs.length ∧ ds.all printable = true then some (.er ⟨cls, some ((fs.zip ds).reverse)⟩ env) else none
abbrev SK (X : Cx) (W : WX) (kws : List Keyword) (g : M (List PyData)) : Prop := PK X kws (tG X.K X.mg (okA X.K) W g)
theorem pk_imp {X : Cx} {kws : List Keyword} {t t' : TA} (h : PK X kws t) (k : ∀ σ H Q, t' σ H Q → t σ H Q) : PK X kws t' := ⟨fun pos pins s σ H Q I q => h.run pos pins s σ H Q I (k σ H Q q)⟩
theorem fs_ok {K : PySem.W.Frag} {F : Hp} : ∀ {fs : List Str} {vs : List V} {ds : List PyData}, DpAll K F vs ds → FsOk K F (fs.zip vs) (fs.zip ds)
  | [], _, _, _ => by simp [FsOk]
  | _ :: _, _, _, .nil => by simp [FsOk]
  | f :: fs, _, _, .cons a r => ⟨rfl, a, fs_ok r⟩
theorem fs_app {K : PySem.W.Frag} {F : Hp} : ∀ {a a' : List (Str × V)} {b b' : List (Str × PyData)}, FsOk K F a b → FsOk K F a' b' → FsOk K F (a ++ a') (b ++ b')
  | [], _, [], _, _, h => h
  | [], _, _ :: _, _, h, _ => h.elim
  | _ :: _, _, [], _, h, _ => by simp [FsOk] at h
  | (f, v) :: a, _, (g, d) :: b, _, ⟨h1, h2, h3⟩, h => ⟨h1, h2, fs_app h3 h⟩
theorem fs_rev {K : PySem.W.Frag} {F : Hp} : ∀ {a : List (Str × V)} {b : List (Str × PyData)}, FsOk K F a b → FsOk K F a.reverse b.reverse
  | [], [], _ => trivial
  | [], _ :: _, h => h.elim
  | _ :: _, [], h => by simp [FsOk] at h
  | (f, v) :: a, (g, d) :: b, ⟨h1, h2, h3⟩ => by
    rw [List.reverse_cons, List.reverse_cons]
    exact fs_app (fs_rev h3) ⟨h1, h2, trivial⟩
section
variable {X : Cx} {W : WX} {e : Expr} {kws : List Keyword} {ga : M PyData} {gl : M (List PyData)} {nm : Option Str} {p kpos pos pos2 : Pos} {x : Str} {C fI : Addr}
theorem sk_nil : SK X W [] (M.ok []) := pk_imp pk_nil fun σ H Q ⟨C, F, env, R, h⟩ => aft (ok := okA X.K) h R .nil
theorem sk_cons (ha : SV X W e ga) (hr : SK X W kws gl) : SK X W (⟨nm, e, kpos⟩ :: kws) (M.bd ga fun d => M.bd gl fun ds => M.ok (d :: ds)) :=
  pk_imp (pk_cons ha hr) fun σ H Q ⟨C, F, env, R, h⟩ => tG_bd R h fun d env1 v F1 H1 R1 e1 o1 h1 => tG_bd R1 h1 fun ds env2 vs F2 H2 R2 e2 o2 h2 => aft (ok := okA X.K) h2 R2 (.cons (dp_mono e2 o1) o2)
theorem ss_raise {k : Nat} {fd : FuncData} {ps fs : List Str} (hc : X.calm = true) (tk : Takes X W) (Cl : XCls X.K X.mg x C fI) (F1 : FnOk X.prog X.w X.K X.mg X.base (L2.CX X.prog X.w) k fI fd ps (spInit X.K C fs)) (hr : Room (k + 1) X.A)
    (hb : ∀ (s : Shared) (u : Value) (ws : List Value), ws.length = fs.length → BindsTo s fd ⟨[u], fs.zip ws⟩ (ps.zip (u :: ws))) (hkw : SK X W kws gl)
    (hg : Gl X x := by rfl) (hdb : (x == ("__debug__" : Str)) = false := by decide) (hall : (backToKw pos (keywordEach kws X.env)).all (·.1.isSome) = true := by rfl) (hks : (backToKw pos (keywordEach kws X.env)).filterMap (·.1) = fs := by rfl)
    (hpl : ((backTo pos (starEach [] X.env)).any (·.1) || (backToKw pos (keywordEach kws X.env)).any (·.1.isNone)) = false := by rfl) :
    SS X W (.Raise (some (.Call (.Name x p) [] kws pos)) none pos2) (gRaise x fs gl) :=
  ps_imp (ps_raise hc tk (pmk_oexK Cl.oex Cl.iC Cl.tI F1 hr hb (fun _ _ _ _ _ _ _ c => by
      obtain ⟨_, _, _, _, _, _, _, _, _, _, _, _, z⟩ := c
      exact z.elim) Cl.g hkw hg hdb hall hks hpl)) fun D σ H ⟨Cn, F, env, R, h⟩ => tE_bd R h fun ds env1 vs F1 H1 R1 e1 o1 h1 => by
    have o1 : DpAll X.K F1 vs ds := o1
    split at h1
    · rename_i hd
      refine ⟨by rw [o1.len]; exact hd.1, fun a ha => ⟨a, vs, F1, ds, rfl, Cl.oex, upd_same, (R1.fresh ha).1, fun b o q => by rw [upd_ne (ne_of_none (R1.fh b o q) ha)]; exact R1.fh b o q, o1, hd.1, hd.2, fun d hdn hda => ⟨rfl, d, _, upd_same, by rw [upd_ne hda, upd_same], ?_, ?_⟩⟩⟩
      · have q : upd H1 a (exo a C none) d = none := hdn
        rw [upd_ne hda] at q
        exact q
      · have hd1 : H1 d = none := by
          have q : upd H1 a (exo a C none) d = none := hdn
          rw [upd_ne hda] at q
          exact q
        have e : upd (del (upd (upd (upd H1 a (exo a C none)) d (exd d (fs.zip vs).reverse)) a (exo a C (some d))) a) d (.xd (fs.zip vs).reverse) = upd H1 d (.xd (fs.zip vs).reverse) := by
          funext z
          by_cases h1 : z = d
          · subst h1; rw [upd_same, upd_same]
          · rw [upd_ne h1, upd_ne h1]
            by_cases h2 : z = a
            · subst h2; rw [del_same]; exact ha.symm
            · rw [del_ne h2, upd_ne h2, upd_ne h1, upd_ne h2]
        rw [e]
        have R2 := R1.newF (o := .xd (fs.zip vs).reverse) hd1
        have exd := Ex.new (o := .xd (fs.zip vs).reverse) (R1.fresh hd1).1
        exact h1 σ _ _ (.ref C) (some d) R2 exd ⟨Cl.g, d, _, rfl, upd_same, fs_rev (fs_ok (dps_mono exd o1))⟩
    · exact h1.elim
end
end Pf
/-! part PfP -/
set_option Elab.async false
set_option linter.all false
set_option maxRecDepth 100000
set_option maxHeartbeats 2000000
namespace Pf
open PySem PySem.Spec L2 Evl
theorem tE_bg {K : PySem.W.Frag} {mg : Str → Option Value} {W : WX} {C C' : Cn} {F : Hp} {σ : St} {H : Hp} {env : En} {α β : Type} {ok : OkR α β} {g : M α} {f : α → S} {D : Ends} {Q1 : β → Hp → Prop} (R : Rel K C' F σ H env) (back : ∀ F' H' env', Rel K C' F' σ H' env' → Rel K C F' σ H' env') (h : AftS K mg W C F (gE g f env) D)
    (k : ∀ d env' b F' H', Rel K C' F' σ H' env' → Ex F F' → ok C' F' σ H' env' d b → AftS K mg W C F' (f d env') D → Q1 b H') : tG K mg ok W g σ H Q1 := by
  refine ⟨C', F, env, R, ?_⟩
  unfold gE at h
  cases q : g env with
  | none => rw [q] at h; exact h
  | some r =>
    rw [q] at h
    cases r with
    | error x => obtain ⟨x, env'⟩ := x; exact fun F' H' cls dx R' => h σ F' H' cls dx (back _ _ _ R')
    | ok y =>
      obtain ⟨d, env'⟩ := y
      exact fun b F' H' R' e o => k d env' b F' H' R' e o (AftS.up h e)
section
variable {X : Cx} {W : WX} {a b c : Expr} {x y z : Str} {g1 g2 gl : M (List PyData)} {pos : Pos}
def gParOO (i j : Nat) (g1 g2 : M (List PyData)) : S := gE g1 fun ds => gE g2 fun es env => some (.nx ((env.set i (.own ds)).set j (.own es)))
theorem ss_parOO {i j : Nat} {px py pt : Pos} {kt k2 pt2} (hc : X.calm = true) (hN : X.N.Nodup) (hi : X.N[i]? = some x) (hj : X.N[j]? = some y) (hij : i ≠ j)
    (hx : X.env.scope.names.lookup x = some .local) (hy : X.env.scope.names.lookup y = some .local) (ha : SO X W a g1) (hb : SO X W b g2)
    (hw : swappedStores [.Tuple [.Name x px, .Name y py] kt pt] (.Tuple [a, b] k2 pt2) X.env = pure (some [x, y]))
    (hs : swapsWithSole [.Tuple [.Name x px, .Name y py] kt pt] (.Tuple [a, b] k2 pt2) pos.line X.env = pure false := by rfl)
    (h1 : starEach [a, b] X.env = (false, eval a X.env) :: starEach [b] X.env := by rfl) (h2 : starEach [b] X.env = (false, eval b X.env) :: starEach [] X.env := by rfl) :
    SS X W (.Assign [.Tuple [.Name x px, .Name y py] kt pt] (.Tuple [a, b] k2 pt2) pos) (gParOO i j g1 g2) :=
  ps_imp (ps_par hc hN hi hj hij hx hy (pa_cons ha (pa_cons hb pa_nil h2) h1) hw hs) fun D σ H ⟨C, F, env, R, h⟩ => tE_bd R h fun ds env1 v F1 H1 R1 e1 o1 h1 => by
    obtain ⟨p, vs, rfl, a1, a2, a3, a4, a5⟩ := o1
    refine tE_bg (R1.guard a1 a2 a3 a5) (fun F' H' env' r => Rel.unguard R1 a2 r) h1 fun es env2 w F2 H2 R2 e2 o2 h2 => ?_
    obtain ⟨q, ws, rfl, b1, b2, b3, b4, b5⟩ := o2
    have hH : H2 p = some (.lst vs) := R2.guarded (fun b hb => (R1.bd b hb).2.2) a2
    have R3 := Rel.unguard R1 a2 R2
    have b2' : upd C.H p (.lst vs) q = none := b2
    have npq : q ≠ p := fun e => by subst e; rw [upd_same] at b2'; cases b2'
    rw [upd_ne npq] at b2'
    have hf : F2 p = none := by
      cases z : F2 p with
      | none => rfl
      | some u =>
        have hcf : C.F p = none := by
          cases z : C.F p with
          | none => rfl
          | some u => have := R1.cf p u z; rw [a1] at this; cases this
        exact (by have := (Rel.reguard (ys := vs) R1 a2 hcf R2).1; exact this ▸ z ▸ rfl : some u = none).symm ▸ rfl
    have hno : ∀ k, ¬ Owned σ env2 k p := fun k ⟨s, e1, e2, e3⟩ => by
      have t := R2.sl k s e1
      cases s with
      | own es => obtain ⟨p', us, c1, c2, c3, _⟩ := t; rw [e3] at c1; cases c1; have c3 : upd C.H p (.lst vs) p = none := c3; rw [upd_same] at c3; cases c3
      | bor es => obtain ⟨p', us, c1, c2, c3, _⟩ := t; rw [e3] at c1; cases c1; exact (R1.bd p c3).2.2 a2
      | obj ob => obtain ⟨p', c1, c2, c3, _⟩ := t; rw [e3] at c1; cases c1; have c3 : upd C.H p (.lst vs) p = none := c3; rw [upd_same] at c3; cases c3
      | _ => cases e2
    have R4 := R3.storeO i (v := .ref p) (ds := ds) ⟨p, vs, rfl, hf, a2, hH, dps_mono e2 a4, hno⟩
    have hno2 : ∀ k, ¬ Owned (σ.set i (some (.ref p))) (env2.set i (.own ds)) k q := fun k ⟨s, e1, e2, e3⟩ => by
      rcases set_at e1 with ⟨rfl, rfl, _⟩ | ⟨ne, e1⟩
      · have hl : k < σ.length := by
          by_cases h : k < σ.length
          · exact h
          · rw [List.getElem?_eq_none (by rw [List.length_set]; omega)] at e3; cases e3
        rw [List.getElem?_set_self hl] at e3
        exact npq (by cases e3; rfl)
      · rw [List.getElem?_set_ne (fun h => ne h.symm)] at e3
        exact b5 k ⟨s, e1, e2, e3⟩
    have R5 := R4.storeO j (v := .ref q) (ds := es) ⟨q, ws, rfl, b1, b2', b3, b4, hno2⟩
    exact ⟨_, _, rfl, h2 _ F2 H2 R5 (Ex.refl _)⟩
end
end Pf
/-! part PfS -/
set_option Elab.async false
set_option linter.all false
set_option maxRecDepth 100000
set_option maxHeartbeats 2000000
namespace Pf
open PySem PySem.Spec L2 Evl
section
variable {X : Cx}
theorem seto_get {pins : List (Addr × Obj)} {σ : L2.St} {H : Hp} {s : Shared} {a : Addr} {S : Int → Bool} {n : Nat} (I : Inv X pins σ H s) (ha : H a = some (.set S n)) : s.heap.SetOf (intKind X.prog X.w) a S n := I.hok a _ ha
def rMkS : List V → Hp → VK → Prop := fun xs H Q => xs = [] ∧ ∀ p, H p = none → Q (.ref p) (upd H p (.set (fun _ => false) 0))
theorem cr_mkS : CallR X (.type "set") rMkS := by
  intro pins s σ H xs us Q I r h
  obtain ⟨rfl, q⟩ := h
  cases r
  refine L2.setR_new fun _ => ?_
  have new : (s.heap.push { cls := .type "set", dict := none, data := .set #[] 0 (.fresh 0 0 (!X.w.params.followText "set-order")) }).SetOf (intKind X.prog X.w) s.heap.objs.size (fun _ => false) 0 :=
    ⟨_, #[], 0, _, Heap.get?_push_size _ rfl, ⟨rfl, rfl, rfl⟩, rfl, (fun e he => by simp at he), (fun k => by simp), (by decide), (by rfl), rfl⟩
  exact ⟨.ref _, upd H s.heap.objs.size (.set (fun _ => false) 0), I.laid (t' := s.toks) (fun b u e => Heap.get?_push_of_some _ e) (Nat.le_refl _) new, rfl, q _ (I.hok.fresh (Nat.le_refl _))⟩
def addS (S : Int → Bool) (k : Int) : Int → Bool := fun j => S j || decide (j = k)
def cntS (S : Int → Bool) (n : Nat) (k : Int) : Nat := if S k = true then n else n + 1
def rPutS : V → List V → Hp → VK → Prop := fun x xs H Q => ∃ (a : Addr) (k : Int) (S : Int → Bool) (n : Nat), x = V.ref a ∧ xs = [V.int k] ∧ H a = some (.set S n) ∧ n + 1 < 4096 ∧ Q .non (upd H a (.set (addS S k) (cntS S n k)))
theorem mt_putS : MtR X "set.add" rPutS := by
  intro pins s σ H x xs v us Q I rx rxs h
  obtain ⟨a, k, S, n, rfl, rfl, ha, room, q⟩ := h
  cases rx
  cases rxs with
  | cons ry rt =>
    cases rt
    obtain ⟨tk, rfl⟩ := ry
    refine call_set_add (intKind_is _ _ _ _) rfl (seto_get I ha) room fun h' sb new => ?_
    have he : ∃ u, h'.get? a = some u := by
      have ⟨o, _, _, _, ho, _⟩ := new
      exact ⟨o, ho⟩
    exact ⟨.non, upd H a (.set (addS S k) (cntS S n k)), I.write (e := a) (t' := s.toks + 1) (by rw [ha]; trivial) (.inl rfl) (fun b u hb hu => (sb.2 b hb).trans hu) he new, rfl, q⟩
def tPutS (to : TE) (t : TA) : TE := fun σ H Q => to σ H fun x H1 => (∃ a S n, x = V.ref a ∧ H1 a = some (.set S n)) ∧ t σ H1 fun xs H2 => rPutS x xs H2 Q
variable {o e : Expr} {es : List Expr} {to : TE} {t : TA} {apos cpos : Pos}
theorem pe_putS (ho : PE X o to) (ha : PA X (e :: es) t)
    (hbase : attributeBase o "add" X.env (eval o X.env) = eval o X.env := by rfl)
    (hfew : ((backTo cpos (starEach (e :: es) X.env)).all (fun x => !x.1) && (backToKw cpos (keywordEach [] X.env)).all (fun x => x.1.isSome)
      && decide ((e :: es).length + ([] : List Keyword).length + (if ([] : List Keyword).isEmpty then 0 else 1) < 30)) = true := by rfl)
    (hline : (apos.endLine == cpos.line) = true := by rfl) (hs : starEach (e :: es) X.env = (false, eval e X.env) :: starEach es X.env := by rfl) (hplain : (backTo cpos (starEach es X.env)).any (·.1) = false := by rfl) :
    PE X (.Call (.Attribute o "add" apos) (e :: es) [] cpos) (tPutS to t) := by
  refine ⟨fun pins s σ H Q I h => ?_⟩
  refine wpAny_Call_method_late hbase hfew hline rfl (thn (ho.run pins s σ H _ I h) fun v s1 ⟨x, H1, I1, r1, ty, q1⟩ => ?_)
  obtain ⟨a, S, n, rfl, hka⟩ := ty
  have hS := seto_get I1 hka
  cases r1
  refine ⟨"set", "set.add", PySem.F.plainAttrs_set, PySem.F.slot_set_add, PySem.F.type_set_add, hS.typeIs, hS.noDict, ?_⟩
  have hA := ha.run cpos pins s1 σ H1 _ I1 q1
  rw [hs] at hA ⊢
  refine Calls.callWith_builtin (by show (false || (backTo cpos (starEach es X.env)).any (·.1)) = false; rw [hplain] <;> rfl) (Calls.evalArgs_plain ?_)
  exact thn hA fun us s2 ⟨vs, H2, I2, r2, q2⟩ => mt_putS pins s2 σ H2 (.ref a) vs (.ref a) us Q I2 rfl r2 q2
def rHasS (neg : Bool) : V → V → Hp → VK → Prop := fun x y H Q => ∃ (k : Int) (a : Addr) (S : Int → Bool) (n : Nat), x = V.int k ∧ y = V.ref a ∧ H a = some (.set S n) ∧ Q (.bl (if neg then !S k else S k)) H
theorem or_hasS : OpR X (compareOp .In) (rHasS false) := by
  intro pins s σ H x y v u Q I rx ry h
  obtain ⟨k, a, S, n, rfl, rfl, ha, q⟩ := h
  obtain ⟨tk, rfl⟩ := rx
  cases ry
  exact wpAny_inSet_of (intKind_is _ _ _ _) rfl (seto_get I ha) ⟨.bl (S k), H, I.tok _, rfl, q⟩
end
section
variable {K : PySem.W.Frag} {mg : Str → Option Value} {W : WX} {C : Cn} {F : Hp} {σ : L2.St} {H : Hp} {env : En} {i : Nat}
theorem Rel.storeB (R : Rel K C F σ H env) (i : Nat) {p : Addr} {o : HO} (h1 : F p = none) (h2 : C.H p = none) (h3 : H p = some o) (h5 : ∀ k, ¬ Owned σ env k p) : Rel K C F (σ.set i (some (.ref p))) H (env.set i (.obj o)) where
  fh := R.fh
  cf := R.cf
  new := R.new
  pres := R.pres
  bd := R.bd
  sl := fun j s hj => by
    rcases set_at hj with ⟨rfl, rfl, hl⟩ | ⟨ne, hj⟩
    · rw [List.getElem?_set_self (by rw [← R.len]; exact hl)]; exact ⟨p, rfl, h1, h2, h3⟩
    · rw [List.getElem?_set_ne (Ne.symm ne)]; exact R.sl j s hj
  dis := fun j k q o1 o2 => by
    obtain ⟨s1, e1, b1, a1⟩ := o1
    obtain ⟨s2, e2, b2, a2⟩ := o2
    rcases set_at e1 with ⟨rfl, rfl, l1⟩ | ⟨n1, f1⟩
    · rw [List.getElem?_set_self (by rw [← R.len]; exact l1)] at a1
      cases a1
      rcases set_at e2 with ⟨rfl, rfl, _⟩ | ⟨n2, f2⟩
      · rfl
      · rw [List.getElem?_set_ne (Ne.symm n2)] at a2
        exact absurd ⟨s2, f2, b2, a2⟩ (h5 k)
    · rw [List.getElem?_set_ne (Ne.symm n1)] at a1
      rcases set_at e2 with ⟨rfl, rfl, l2⟩ | ⟨n2, f2⟩
      · rw [List.getElem?_set_self (by rw [← R.len]; exact l2)] at a2
        cases a2
        exact absurd ⟨s1, f1, b1, a1⟩ (h5 j)
      · rw [List.getElem?_set_ne (Ne.symm n2)] at a2
        exact R.dis j k q ⟨s1, f1, b1, a1⟩ ⟨s2, f2, b2, a2⟩
  len := by rw [List.length_set, List.length_set]; exact R.len
  tb := R.tb
  nt := R.nt
theorem Rel.noOwn (R : Rel K C F σ H env) {p : Addr} (hp : H p = none) (k : Nat) : ¬ Owned σ env k p := fun ⟨s, e1, e2, e3⟩ => by
  have q := R.sl k s e1
  cases s with
  | own es => obtain ⟨p', ws, a1, a2, a3, a4, a5⟩ := q; rw [e3] at a1; cases a1; rw [hp] at a4; cases a4
  | bor es => obtain ⟨p', ws, a1, a2, a3, a4, a5⟩ := q; rw [e3] at a1; cases a1; rw [hp] at a4; cases a4
  | obj ob => obtain ⟨p', a1, a2, a3, a4⟩ := q; rw [e3] at a1; cases a1; rw [hp] at a4; cases a4
  | _ => cases e2
theorem Rel.storeNew (R : Rel K C F σ H env) (i : Nat) {p : Addr} {o : HO} (hp : H p = none) : Rel K C F (σ.set i (some (.ref p))) (upd H p o) (env.set i (.obj o)) := by
  have f := R.fresh hp
  exact (R.newH (o := o) hp).storeB i f.1 f.2 upd_same (R.noOwn hp)
theorem Rel.writeB {p : Addr} {o o' : HO} (R : Rel K C F σ H env) (h : env[i]? = some (.obj o)) (hp : σ[i]? = some (some (.ref p))) (hno : (∀ ps, o ≠ .tbl ps) ∧ ∀ c q, o ≠ LamX.CodeO c q) : Rel K C F σ (upd H p o') (env.set i (.obj o')) := by
  obtain ⟨p', b1, b2, b3, b4⟩ := R.sl i _ h
  rw [hp] at b1
  cases b1
  exact {
    fh := R.fh.mut b2
    cf := R.cf
    new := R.new
    pres := fun a u q hb => by
      have ne : a ≠ p := fun e => by subst e; rw [b3] at q; cases q
      rw [upd_ne ne]; exact R.pres a u q hb
    bd := fun b hb => by
      refine ⟨?_, (R.bd b hb).2⟩
      by_cases ne : b = p
      · subst ne; rw [upd_same]; simp
      · rw [upd_ne ne]; exact (R.bd b hb).1
    sl := fun j s' hj => by
      rcases set_at hj with ⟨rfl, rfl, _⟩ | ⟨ne, hj⟩
      · exact ⟨p, hp, b2, b3, upd_same⟩
      · have q := R.sl j s' hj
        have np : ∀ p', isOwn s' = true → σ[j]? = some (some (.ref p')) → p' ≠ p := fun p' o a e => ne (R.dis j i p ⟨s', hj, o, by rw [← e]; exact a⟩ ⟨_, h, rfl, hp⟩)
        cases s' with
        | no => trivial
        | val d => exact q
        | own es => obtain ⟨p', ws, a1, a2, a3, a4, a5⟩ := q; exact ⟨p', ws, a1, a2, a3, by rw [upd_ne (np p' rfl a1)]; exact a4, a5⟩
        | bor es => obtain ⟨p', ws, a1, a2, a3, a4, a5⟩ := q; exact ⟨p', ws, a1, a2, a3, by rw [upd_ne (np p' rfl a1)]; exact a4, a5⟩
        | obj ob => obtain ⟨p', a1, a2, a3, a4⟩ := q; exact ⟨p', a1, a2, a3, by rw [upd_ne (np p' rfl a1)]; exact a4⟩
        | raw v => exact q
        | exc a dd fs => exact q
        | tab T => exact q
        | lam b ls => exact lamSl_mono (Ex.refl _) (codeKept_ne b4 hno.2 fun a u ne e => by rw [upd_ne ne]; exact e) q
    dis := fun j k q o1 o2 => by
      have back : ∀ {j : Nat}, Owned σ (env.set i (.obj o')) j q → Owned σ env j q := fun {j} o => by
        obtain ⟨s1, e1, b1, a1⟩ := o
        rcases set_at e1 with ⟨rfl, rfl, _⟩ | ⟨ne1, e1⟩
        · exact ⟨_, h, rfl, a1⟩
        · exact ⟨s1, e1, b1, a1⟩
      exact R.dis j k q (back o1) (back o2)
    len := by rw [List.length_set]; exact R.len
    nt := R.nt
    tb := fun q hq => by
      obtain ⟨ps, t1, t2, t3⟩ := R.tb q hq
      have ne : ∀ a u, H a = some u → u ≠ o → a ≠ p := fun a u e n z => by subst z; rw [b4] at e; cases e; exact n rfl
      refine ⟨ps, by rw [upd_ne (ne _ _ t1 (fun z => hno.1 _ z.symm))]; exact t1, t2, fun pos cv hc => ?_⟩
      obtain ⟨c, e1, e2⟩ := t3 pos cv hc
      exact ⟨c, e1, by rw [upd_ne (ne _ _ e2 (fun z => hno.2 _ _ z.symm))]; exact e2⟩ }
end
theorem set_plain (S : Int → Bool) (n : Nat) : (∀ ps, HO.set S n ≠ .tbl ps) ∧ ∀ c q, HO.set S n ≠ LamX.CodeO c q := ⟨(fun _ z => by cases z), fun _ _ z => by unfold LamX.CodeO at z; cases z⟩
def setAt (env : En) (i : Nat) : Option ((Int → Bool) × Nat) := match env[i]? with
  | some (.obj (.set S n)) => some (S, n)
  | _ => none
theorem setAt_some {env : En} {i : Nat} {S : Int → Bool} {n : Nat} (h : setAt env i = some (S, n)) : env[i]? = some (.obj (.set S n)) := by
  unfold setAt at h
  split at h
  · cases h; assumption
  · cases h
def gMkS (i : Nat) : S := fun env => some (.nx (env.set i (.obj (.set (fun _ => false) 0))))
def gHasS (i : Nat) (ga : M PyData) : M Bool := M.bd ga fun d env => match d, setAt env i with
  | .int k, some (S, _) => some (.ok (S k, env))
  | _, _ => none
def gAddS (i : Nat) (ga : M PyData) : S := fun env => match setAt env i with
  | none => none
  | some _ => gE ga (fun d env => match d, setAt env i with
    | .int k, some (S, n) => if n + 1 < 4096 then some (.nx (env.set i (.obj (.set (addS S k) (cntS S n k))))) else none
    | _, _ => none) env
section
variable {X : Cx} {W : WX} {e a : Expr} {ga : M PyData} {pos pos' p p1 p2 apos : Pos} {x : Str}
theorem ss_mkS (i : Nat) (hg : Gl X "set") (hm : X.mg "set" = none) (hN : X.N.Nodup) (hi : X.N[i]? = some x := by rfl) (hx : Loc X.env.scope x := by first | exact Or.inl rfl | exact Or.inr rfl) (hs : swapsWith (.Call (.Name "set" p) [] [] p1) (some (.Name x pos')) pos.line X.env = pure false := by rfl)
    (hf : X.fn x = true ∨ X.env.scope.names.lookup x = some .local := by first | exact .inl rfl | exact .inr rfl | assumption) : SS X W (.Assign [.Name x pos'] (.Call (.Name "set" p) [] [] p1) pos) (gMkS i) :=
  ps_imp (ps_set hN hi hx (pe_callTy0 cr_mkS hg hm (by decide +kernel)) hs hf) fun D σ H ⟨C, F, env, R, h⟩ => ⟨rfl, fun q hq => h _ F _ (R.storeNew i hq) (Ex.refl _)⟩
theorem st_hasS (i : Nat) (ha : SV X W a ga) (hN : X.N[i]? = some x := by rfl) (hv : Vis X.env.scope x := by first | exact Or.inl rfl | exact Or.inr (Or.inl rfl) | exact Or.inr (Or.inr rfl))
    (hd : (x == ("__debug__" : Str)) = false := by decide) (hcd : (x == ("__classdict__" : Str)) = false := by decide) (hm : behindInMarks .In (.Name x p) = false := by rfl) : ST X W (.Compare a [.In] [.Name x p] pos) (gHasS i ga) :=
  pt_imp (pt_cmpR or_hasS ha (pe_var hN hv hd hcd) hm) fun σ H Q ⟨C, F, env, R, h⟩ => tG_bd R h fun d env1 v F1 H1 R1 e1 o1 h1 => by
    cases o1 with
    | int k =>
      cases q : setAt env1 i with
      | none => rw [q] at h1; exact h1.elim
      | some z =>
        obtain ⟨S, n⟩ := z
        rw [q] at h1
        obtain ⟨r, a1, a2, a3, a4⟩ := R1.sl i _ (setAt_some q)
        exact ⟨.ref r, a1, k, r, S, n, rfl, rfl, a4, S k, rfl, aft (ok := okB) h1 R1 rfl⟩
    | _ => exact h1.elim
theorem ss_addS (i : Nat) (he : SV X W e ga) (hN : X.N[i]? = some x := by rfl) (hvis : Vis X.env.scope x := by first | exact Or.inl rfl | exact Or.inr (Or.inl rfl) | exact Or.inr (Or.inr rfl))
    (hd : (x == ("__debug__" : Str)) = false := by decide) (hcd : (x == ("__classdict__" : Str)) = false := by decide)
    (hbase : attributeBase (.Name x p1) "add" X.env (eval (.Name x p1) X.env) = eval (.Name x p1) X.env := by rfl)
    (hfew : ((backTo p2 (starEach [e] X.env)).all (fun x => !x.1) && (backToKw p2 (keywordEach [] X.env)).all (fun x => x.1.isSome)
      && decide ([e].length + ([] : List Keyword).length + (if ([] : List Keyword).isEmpty then 0 else 1) < 30)) = true := by rfl)
    (hline : (apos.endLine == p2.line) = true := by rfl) (hs : starEach [e] X.env = (false, eval e X.env) :: starEach [] X.env := by rfl) (hplain : (backTo p2 (starEach [] X.env)).any (·.1) = false := by rfl)
    (hsw : swapsWith (.Call (.Attribute (.Name x p1) "add" apos) [e] [] p2) none pos.line X.env = pure false := by rfl) :
    SS X W (.Expr (.Call (.Attribute (.Name x p1) "add" apos) [e] [] p2) pos) (gAddS i ga) :=
  ps_imp (ps_expr (pe_putS (pe_var hN hvis hd hcd) (pa_cons he pa_nil hs) hbase hfew hline hs hplain) hsw) fun D σ H ⟨C, F, env, R, h⟩ => by
    unfold gAddS at h
    cases q : setAt env i with
    | none => rw [q] at h; exact h.elim
    | some z =>
      obtain ⟨S, n⟩ := z
      rw [q] at h
      obtain ⟨r, a1, a2, a3, a4⟩ := R.sl i _ (setAt_some q)
      refine ⟨.ref r, a1, ⟨r, S, n, rfl, a4⟩, tE_bd R h fun d env1 v F1 H1 R1 e1 o1 h1 => ?_⟩
      cases o1 with
      | int k =>
        cases q1 : setAt env1 i with
        | none => rw [q1] at h1; exact h1.elim
        | some z =>
          obtain ⟨S1, n1⟩ := z
          rw [q1] at h1
          obtain ⟨r1, b1, b2, b3, b4⟩ := R1.sl i _ (setAt_some q1)
          rw [a1] at b1
          cases b1
          have h1 : AftS X.K X.mg W C F1 (if n1 + 1 < 4096 then some (.nx (env1.set i (.obj (.set (addS S1 k) (cntS S1 n1 k))))) else none) D := h1
          by_cases hl : n1 + 1 < 4096
          · rw [if_pos hl] at h1
            exact ⟨r, k, S1, n1, rfl, rfl, b4, hl, h1 _ F1 _ (R1.writeB (setAt_some q1) a1 (set_plain _ _)) (Ex.refl _)⟩
          · rw [if_neg hl] at h1
            exact h1.elim
      | _ => exact h1.elim
end
end Pf
/-! part PfR -/
set_option Elab.async false
set_option linter.all false
set_option maxRecDepth 100000
set_option maxHeartbeats 2000000
namespace Pf
open PySem PySem.Spec L2 Evl
def ovr (G H : Hp) : Hp := fun a => match G a with
  | some o => some o
  | none => H a
theorem ovr_some {G H : Hp} {a : Addr} {o : HO} (h : G a = some o) : ovr G H a = some o := by unfold ovr; rw [h]
theorem ovr_none {G H : Hp} {a : Addr} (h : G a = none) : ovr G H a = H a := by unfold ovr; rw [h]
def Cn.over (C : Cn) (G : Hp) : Cn := { C with H := ovr G C.H }
def GI (C : Cn) (G : Hp) : Prop := ∀ a o, G a = some o → C.H a = none ∧ C.F a = none
def CB (C : Cn) : Prop := ∀ b ∈ C.B, C.H b ≠ none
section
variable {K : PySem.W.Frag} {C : Cn} {F : Hp} {σ : L2.St} {H G : Hp} {env : En}
theorem Rel.cb (R : Rel K C F σ H env) : CB C := fun b hb => (R.bd b hb).2.2
theorem lst_upd {G : Hp} (l : ∀ a o, G a = some o → ∃ xs, o = .lst xs) (p : Addr) (ys : List V) : ∀ a o, upd G p (.lst ys) a = some o → ∃ xs, o = .lst xs := fun a o q => by
  by_cases e : a = p
  · subst e; rw [upd_same] at q; exact ⟨ys, (Option.some.inj q).symm⟩
  · rw [upd_ne e] at q; exact l a o q
theorem lst_nt {G : Hp} (l : ∀ a o, G a = some o → ∃ xs, o = HO.lst xs) : ∀ a o, G a = some o → okNew o := fun a o q => by
  obtain ⟨xs, e⟩ := l a o q
  subst e; trivial
theorem Rel.over (hL : ∀ a o, G a = some o → ∃ xs, o = HO.lst xs) (R : Rel K C F σ H env) (hG : ∀ a o, G a = some o → F a = none ∧ C.H a = none ∧ H a = some o ∧ ∀ i, ¬ Owned σ env i a) : Rel K (C.over G) F σ H env where
  fh := R.fh
  cf := R.cf
  new := fun a h1 h2 => by
    cases q : G a with
    | some o => exact absurd (hG a o q).1 h2
    | none => show ovr G C.H a = none; rw [ovr_none q]; exact R.new a h1 h2
  pres := fun a o h hb => by
    have h : ovr G C.H a = some o := h
    cases q : G a with
    | some o' => rw [ovr_some q] at h; cases h; exact (hG a _ q).2.2.1
    | none => rw [ovr_none q] at h; exact R.pres a o h hb
  bd := fun b hb => by
    obtain ⟨a1, a2, a3⟩ := R.bd b hb
    refine ⟨a1, a2, ?_⟩
    show ovr G C.H b ≠ none
    cases q : G b with
    | some o => rw [ovr_some q]; simp
    | none => rw [ovr_none q]; exact a3
  sl := fun i s hs => by
    have q := R.sl i s hs
    have key : ∀ p, isOwn s = true → σ[i]? = some (some (.ref p)) → C.H p = none → ovr G C.H p = none := fun p ho hp hc => by
      cases g : G p with
      | some o => exact absurd ⟨s, hs, ho, hp⟩ ((hG p o g).2.2.2 i)
      | none => rw [ovr_none g]; exact hc
    cases s with
    | no => trivial
    | val d => exact q
    | own ds => obtain ⟨p', vs, a1, a2, a3, a4, a5⟩ := q; exact ⟨p', vs, a1, a2, key p' rfl a1 a3, a4, a5⟩
    | bor ds => exact q
    | obj ob => obtain ⟨p', a1, a2, a3, a4⟩ := q; exact ⟨p', a1, a2, key p' rfl a1 a3, a4⟩
    | raw v => exact q
    | exc a dd fs => exact q
    | tab T =>
      refine ⟨q.1, fun a ps z => ?_⟩
      have z : ovr G C.H a = some (.tbl ps) := z
      cases e : G a with
      | some u => rw [ovr_some e] at z; obtain ⟨xs, e2⟩ := hL a u e; rw [e2] at z; cases z
      | none => rw [ovr_none e] at z; exact q.2 a ps z
    | lam b ls => exact q
  dis := R.dis
  len := R.len
  tb := R.tb
  nt := R.nt
theorem Rel.under (hb : CB C) (g : GI C G) (R : Rel K (C.over G) F σ H env) : Rel K C F σ H env where
  fh := R.fh
  cf := R.cf
  new := fun a h1 h2 => by
    have h : ovr G C.H a = none := R.new a h1 h2
    cases q : G a with
    | some o => exact (g a o q).1
    | none => rw [ovr_none q] at h; exact h
  pres := fun a o h hB => by
    have ng : G a = none := by
      cases q : G a with
      | some o' => have := (g a o' q).1; rw [this] at h; cases h
      | none => rfl
    exact R.pres a o (by show ovr G C.H a = some o; rw [ovr_none ng]; exact h) hB
  bd := fun b hB => ⟨(R.bd b hB).1, (R.bd b hB).2.1, hb b hB⟩
  sl := fun i s hs => by
    have q := R.sl i s hs
    have key : ∀ p, ovr G C.H p = none → C.H p = none := fun p hc => by
      cases g' : G p with
      | some o => rw [ovr_some g'] at hc; cases hc
      | none => rw [ovr_none g'] at hc; exact hc
    cases s with
    | no => trivial
    | val d => exact q
    | own ds => obtain ⟨p', vs, a1, a2, a3, a4, a5⟩ := q; exact ⟨p', vs, a1, a2, key p' a3, a4, a5⟩
    | bor ds => exact q
    | obj ob => obtain ⟨p', a1, a2, a3, a4⟩ := q; exact ⟨p', a1, a2, key p' a3, a4⟩
    | raw v => exact q
    | exc a dd fs => exact q
    | tab T =>
      refine ⟨q.1, fun a ps z => q.2 a ps ?_⟩
      show ovr G C.H a = some (.tbl ps)
      cases e : G a with
      | some w => rw [(g a w e).1] at z; cases z
      | none => rw [ovr_none e]; exact z
    | lam b ls => exact q
  dis := R.dis
  len := R.len
  tb := R.tb
  nt := R.nt
theorem Rel.inG (hb : CB C) (g : GI C G) (R : Rel K (C.over G) F σ H env) : ∀ a o, G a = some o → F a = none ∧ C.H a = none ∧ H a = some o ∧ ∀ i, ¬ Owned σ env i a := fun a o h => by
  have hc := g a o h
  have hB : a ∉ C.B := fun z => hb a z hc.1
  refine ⟨?_, hc.1, R.pres a o (ovr_some h) hB, fun i ⟨s, e1, e2, e3⟩ => ?_⟩
  · cases q : F a with
    | none => rfl
    | some u =>
      have z : ovr G C.H a = none := R.new a hc.2 (by rw [q]; simp)
      rw [ovr_some h] at z; cases z
  · have q := R.sl i s e1
    cases s with
    | own es => obtain ⟨p', ws, a1, a2, a3, _⟩ := q; rw [e3] at a1; cases a1; have a3 : ovr G C.H a = none := a3; rw [ovr_some h] at a3; cases a3
    | bor es => obtain ⟨p', ws, a1, a2, a3, _⟩ := q; rw [e3] at a1; cases a1; exact hB a3
    | obj ob => obtain ⟨p', a1, a2, a3, _⟩ := q; rw [e3] at a1; cases a1; have a3 : ovr G C.H a = none := a3; rw [ovr_some h] at a3; cases a3
    | _ => cases e2
theorem Rel.mut {p : Addr} {o : HO} {xs : List V} (R : Rel K C F σ H env) (hT : H p = some (.lst xs)) (hF : F p = none) (hC : C.H p = none) (hno : ∀ i, ¬ Owned σ env i p) : Rel K C F σ (upd H p o) env where
  fh := R.fh.mut hF
  cf := R.cf
  new := R.new
  pres := fun a u q hb => by rw [upd_ne (ne_of_none q hC)]; exact R.pres a u q hb
  bd := fun b hb => by
    refine ⟨?_, (R.bd b hb).2⟩
    have ne : b ≠ p := fun e => (R.bd b hb).2.2 (by rw [e]; exact hC)
    rw [upd_ne ne]; exact (R.bd b hb).1
  sl := fun i s hs => by
    have q := R.sl i s hs
    have np : ∀ p', isOwn s = true → σ[i]? = some (some (.ref p')) → p' ≠ p := fun p' ho a e => hno i ⟨s, hs, ho, by rw [← e]; exact a⟩
    cases s with
    | no => trivial
    | val d => exact q
    | own es => obtain ⟨p', ws, a1, a2, a3, a4, a5⟩ := q; exact ⟨p', ws, a1, a2, a3, by rw [upd_ne (np p' rfl a1)]; exact a4, a5⟩
    | bor es => obtain ⟨p', ws, a1, a2, a3, a4, a5⟩ := q; exact ⟨p', ws, a1, a2, a3, by rw [upd_ne (np p' rfl a1)]; exact a4, a5⟩
    | obj ob => obtain ⟨p', a1, a2, a3, a4⟩ := q; exact ⟨p', a1, a2, a3, by rw [upd_ne (np p' rfl a1)]; exact a4⟩
    | raw v => exact q
    | exc a dd fs => exact q
    | tab T => exact q
    | lam b ls => exact lamSl_mono (Ex.refl _) (codeKept_ne hT lst_code fun a u ne e => by rw [upd_ne ne]; exact e) q
  dis := R.dis
  len := R.len
  nt := R.nt
  tb := tabs_lst R.tb hT fun a u ne e => by rw [upd_ne ne]; exact e
theorem GI.upd {p : Addr} {o o' : HO} (g : GI C G) (h : G p = some o) : GI C (upd G p o') := fun a u q => by
  by_cases e : a = p
  · subst e; exact g a o h
  · rw [upd_ne e] at q; exact g a u q
theorem Rel.mutG {p : Addr} {xs ys : List V} (hL : ∀ a o, G a = some o → ∃ xs, o = HO.lst xs) (hb : CB C) (g : GI C G) (h : G p = some (.lst xs)) (R : Rel K (C.over G) F σ H env) : Rel K (C.over (upd G p (.lst ys))) F σ (upd H p (.lst ys)) env := by
  have f := R.inG hb g
  have fp := f p _ h
  refine Rel.over (lst_upd hL p ys) ((R.under hb g).mut (o := .lst ys) fp.2.2.1 fp.1 fp.2.1 fp.2.2.2) fun a u q => ?_
  by_cases e : a = p
  · subst e; rw [upd_same] at q; cases q; exact ⟨fp.1, fp.2.1, upd_same, fp.2.2.2⟩
  · rw [upd_ne e] at q ⊢; exact f a u q
theorem Rel.addG {ds : List PyData} {v : V} (hL : ∀ a o, G a = some o → ∃ xs, o = HO.lst xs) (hb : CB C) (g : GI C G) (R : Rel K (C.over G) F σ H env) (h : okO K (C.over G) F σ H env ds v) (hcf : Ex C.F F) :
    ∃ p vs, v = .ref p ∧ G p = none ∧ DpAll K F vs ds ∧ GI C (upd G p (.lst vs)) ∧ Rel K (C.over (upd G p (.lst vs))) F σ H env := by
  obtain ⟨p, vs, rfl, h1, h2, h3, h4, h5⟩ := h
  have h2 : ovr G C.H p = none := h2
  have gp : G p = none := by
    cases q : G p with
    | some o => rw [ovr_some q] at h2; cases h2
    | none => rfl
  rw [ovr_none gp] at h2
  have cp : C.F p = none := by
    cases q : C.F p with
    | none => rfl
    | some u => have := hcf p u q; rw [h1] at this; cases this
  have f := R.inG hb g
  refine ⟨p, vs, rfl, gp, h4, fun a u q => ?_, Rel.over (lst_upd hL p vs) (R.under hb g) fun a u q => ?_⟩
  · by_cases e : a = p
    · subst e; exact ⟨h2, cp⟩
    · rw [upd_ne e] at q; exact g a u q
  · by_cases e : a = p
    · subst e; rw [upd_same] at q; cases q; exact ⟨h1, h2, h3, h5⟩
    · rw [upd_ne e] at q; exact f a u q
theorem Rel.freezeG (hL : ∀ a o, G a = some o → okNew o) (hb : CB C) (g : GI C G) (R : Rel K (C.over G) F σ H env) : Ex F (ovr G F) ∧ Rel K C (ovr G F) σ H env := by
  have f := R.inG hb g
  have ex : Ex F (ovr G F) := fun a o q => by
    cases z : G a with
    | some u => rw [(f a u z).1] at q; cases q
    | none => rw [ovr_none z]; exact q
  have U := R.under hb g
  refine ⟨ex, ?_⟩
  exact {
    fh := fun a o q => by
      cases z : G a with
      | some u => rw [ovr_some z] at q; cases q; exact (f a _ z).2.2.1
      | none => rw [ovr_none z] at q; exact R.fh a o q
    cf := R.cf.trans ex
    new := fun a h1 h2 => by
      cases z : G a with
      | some u => exact (g a u z).1
      | none => rw [ovr_none z] at h2; exact U.new a h1 h2
    pres := U.pres
    bd := U.bd
    sl := fun i s hs => by
      have q := U.sl i s hs
      have key : ∀ p, isOwn s = true → σ[i]? = some (some (.ref p)) → F p = none → ovr G F p = none := fun p ho hp hc => by
        cases z : G p with
        | some o => exact absurd ⟨s, hs, ho, hp⟩ ((f p o z).2.2.2 i)
        | none => rw [ovr_none z]; exact hc
      cases s with
      | no => trivial
      | val d => obtain ⟨v, a1, a2⟩ := q; exact ⟨v, a1, dp_mono ex a2⟩
      | own ds => obtain ⟨p', vs, a1, a2, a3, a4, a5⟩ := q; exact ⟨p', vs, a1, key p' rfl a1 a2, a3, a4, dps_mono ex a5⟩
      | bor ds => obtain ⟨p', vs, a1, a2, a3, a4, a5⟩ := q; exact ⟨p', vs, a1, key p' rfl a1 a2, a3, a4, dps_mono ex a5⟩
      | obj ob => obtain ⟨p', a1, a2, a3, a4⟩ := q; exact ⟨p', a1, key p' rfl a1 a2, a3, a4⟩
      | raw v => exact q
      | exc a dd fs => obtain ⟨z1, z2, z3, z4⟩ := q; exact ⟨z1, z2, ex _ _ z3, fs_mono ex z4⟩
      | tab T => exact q
      | lam b ls => exact lamSl_mono ex (codeKept_refl _) q
    dis := R.dis
    len := R.len
    tb := R.tb
    nt := fun a o z => by
      cases q : G a with
      | some u => rw [ovr_some q] at z; cases z; exact hL a _ q
      | none => rw [ovr_none q] at z; exact R.nt a o z }
inductive Rws (K : PySem.W.Frag) (F G : Hp) : List Addr → List (List PyData) → Prop where
  | nil : Rws K F G [] []
  | cons {p : Addr} {vs : List V} {ds : List PyData} {ps : List Addr} {dss : List (List PyData)} (h : G p = some (.lst vs)) (d : DpAll K F vs ds) (r : Rws K F G ps dss) : Rws K F G (p :: ps) (ds :: dss)
theorem Rws.mono {F' G' : Hp} (ex : Ex F F') : ∀ {ps : List Addr} {dss : List (List PyData)}, (∀ p ∈ ps, ∀ o, G p = some o → G' p = some o) → Rws K F G ps dss → Rws K F' G' ps dss
  | _, _, _, .nil => .nil
  | _, _, k, .cons h d r => .cons (k _ List.mem_cons_self _ h) (dps_mono ex d) (r.mono ex fun p hp => k p (List.mem_cons_of_mem _ hp))
theorem Rws.snoc {p : Addr} {vs : List V} {ds : List PyData} (h : G p = some (.lst vs)) (d : DpAll K F vs ds) : ∀ {ps : List Addr} {dss : List (List PyData)}, Rws K F G ps dss → Rws K F G (ps ++ [p]) (dss ++ [ds])
  | _, _, .nil => .cons h d .nil
  | _, _, .cons h1 d1 r => .cons h1 d1 (r.snoc h d)
theorem Rws.mem : ∀ {ps : List Addr} {dss : List (List PyData)} {p : Addr}, Rws K F G ps dss → p ∈ ps → ∃ o, G p = some o
  | _, _, _, .nil, h => by cases h
  | _, _, _, .cons h _ r, hp => by
    rcases List.mem_cons.mp hp with rfl | hp
    · exact ⟨_, h⟩
    · exact r.mem hp
theorem Rws.len : ∀ {ps : List Addr} {dss : List (List PyData)}, Rws K F G ps dss → ps.length = dss.length
  | _, _, .nil => rfl
  | _, _, .cons _ _ r => by rw [List.length_cons, List.length_cons, r.len]
theorem Rws.get : ∀ {ps : List Addr} {dss : List (List PyData)} {j : Nat} {ds : List PyData}, Rws K F G ps dss → dss[j]? = some ds → ∃ p vs, ps[j]? = some p ∧ G p = some (.lst vs) ∧ DpAll K F vs ds
  | _, _, _, _, .nil, h => by simp at h
  | _, _, 0, _, .cons h d _, e => by simp at e; subst e; exact ⟨_, _, rfl, h, d⟩
  | _, _, j + 1, _, .cons _ _ r, e => by
    obtain ⟨p, vs, a, b⟩ := r.get (j := j) (by simpa using e)
    exact ⟨p, vs, by simpa using a, b⟩
theorem Rws.set {vs : List V} {ds : List PyData} (d : DpAll K F vs ds) : ∀ {ps : List Addr} {dss : List (List PyData)} {j : Nat} {p : Addr}, ps.Nodup → ps[j]? = some p → Rws K F G ps dss → Rws K F (upd G p (.lst vs)) ps (dss.set j ds)
  | _, _, _, _, _, h, .nil => by simp at h
  | _, _, 0, _, nd, h, .cons h1 d1 r => by
    simp at h; subst h
    obtain ⟨n1, n2⟩ := List.nodup_cons.mp nd
    exact .cons upd_same d (r.mono (Ex.refl _) fun q hq o z => by rw [upd_ne (fun e => n1 (by rw [← e]; exact hq))]; exact z)
  | _, _, j + 1, p, nd, h, .cons h1 d1 r => by
    obtain ⟨n1, n2⟩ := List.nodup_cons.mp nd
    have h : _ := (by simpa using h : _)
    have hp := List.mem_of_getElem? h
    exact .cons (by rw [upd_ne (fun e => n1 (by rw [e]; exact hp))]; exact h1) d1 (r.set d n2 h)
theorem Rws.data {F' : Hp} (ex : Ex F F') (k : ∀ a o, G a = some o → F' a = some o) : ∀ {ps : List Addr} {dss : List (List PyData)}, Rws K F G ps dss → DpAll K F' (ps.map V.ref) (dss.map PyData.list)
  | _, _, .nil => .nil
  | _, _, .cons h d r => .cons (.lst (SqL.of (k _ _ h)) (dps_mono ex d)) (r.data ex k)
end
def loopCO (vs : List Nat) (b : PyData → En → Option En) (gt : M Bool) (ge : M (List PyData)) : List PyData → List (List PyData) → En → Option (List (List PyData) × En)
  | [], acc, env => some (acc, env)
  | d :: r, acc, env => match b d env with
    | none => none
    | some env1 => match gt env1 with
      | some (.ok (true, env2)) => match ge env2 with
        | some (.ok (y, env3)) => if acc.length < 16777216 then loopCO vs b gt ge r (acc ++ [y]) (wipeE vs env3) else none
        | _ => none
      | some (.ok (false, env2)) => loopCO vs b gt ge r acc (wipeE vs env2)
      | _ => none
section
variable {K : PySem.W.Frag} {mg : Str → Option Value} {C : Cn} {F1 : Hp} {σ : L2.St} {H1 : Hp} {env1 : En} {vs : List Nat} {b : PyData → En → Option En} {gt : M Bool} {ge : M (List PyData)} {ds : List PyData}
structure RwG (K : PySem.W.Frag) (C : Cn) (F G : Hp) (D : Addr) (ps : List Addr) (dss : List (List PyData)) : Prop where
  g : GI C G
  d : G D = some (.lst (ps.map V.ref))
  r : Rws K F G ps dss
  nd : (D :: ps).Nodup
  l : ∀ a o, G a = some o → ∃ xs, o = .lst xs
def BtwR (K : PySem.W.Frag) (C : Cn) (F1 : Hp) (σ : L2.St) (vs : List Nat) (b : PyData → En → Option En) (gt : M Bool) (ge : M (List PyData)) (D : Addr) (out : List (List PyData) × En) (r : List PyData) (H : Hp) : Prop :=
  ∃ F env G ps acc, Rel K (C.over G) F (wipe σ vs) H env ∧ Ex F1 F ∧ RwG K C F G D ps acc ∧ loopCO vs b gt ge r acc env = some out
theorem btwR_start {D : Addr} {out} (R : Rel K C F1 σ H1 env1) (hD : H1 D = none) (h : loopCO vs b gt ge ds [] (wipeE vs env1) = some out) : BtwR K C F1 σ vs b gt ge D out ds (upd H1 D (.lst [])) := by
  have f := R.fresh hD
  have hcf : C.F D = none := by
    cases z : C.F D with
    | none => rfl
    | some u => have := R.cf D u z; rw [f.1] at this; cases this
  have R' := (R.newH (o := .lst []) hD).wipe vs
  refine ⟨F1, _, upd (fun _ => none) D (.lst []), [], [], Rel.over (lst_upd (fun _ _ z => by cases z) D []) R' fun a o q => ?_, Ex.refl _, ⟨fun a o q => ?_, upd_same, .nil, by simp, fun a o q => ?_⟩, h⟩
  · by_cases e : a = D
    · subst e
      rw [upd_same] at q
      cases q
      refine ⟨f.1, f.2, upd_same, fun i ⟨s, e1, e2, e3⟩ => ?_⟩
      rcases wipeE_at e1 with ⟨_, rfl⟩ | ⟨ne, e1⟩
      · cases e2
      · rw [wipe_out ne] at e3
        exact R.noOwn hD i ⟨s, e1, e2, e3⟩
    · rw [upd_ne e] at q; cases q
  · by_cases e : a = D
    · subst e; exact ⟨f.2, hcf⟩
    · rw [upd_ne e] at q; cases q
  · by_cases e : a = D
    · subst e; rw [upd_same] at q; exact ⟨[], (Option.some.inj q).symm⟩
    · rw [upd_ne e] at q; cases q
end
end Pf
/-! part PfR2 -/
set_option Elab.async false
set_option linter.all false
set_option maxRecDepth 100000
set_option maxHeartbeats 2000000
namespace Pf
open PySem PySem.Spec L2 Evl
theorem wipe_put {σ : L2.St} {vs : List Nat} {j : Nat} {x : Option V} (hj : j ∈ vs) : wipe ((wipe σ vs).set j x) vs = wipe σ vs := by
  apply List.ext_getElem?
  intro i
  by_cases hi : i ∈ vs
  · have key : ∀ (us : List Nat) (τ ρ : L2.St), τ.length = ρ.length → i ∈ us → (wipe τ us)[i]? = (wipe ρ us)[i]? := by
      intro us
      induction us with
      | nil => intro _ _ _ h; cases h
      | cons u us ih =>
        intro τ ρ hl hm
        unfold wipe
        by_cases e : u = i
        · subst e
          by_cases hu : u < ρ.length
          · rw [List.getElem?_set_self (by rw [wipe_length, hl]; exact hu), List.getElem?_set_self (by rw [wipe_length]; exact hu)]
          · rw [List.getElem?_eq_none (by rw [List.length_set, wipe_length, hl]; omega), List.getElem?_eq_none (by rw [List.length_set, wipe_length]; omega)]
        · rw [List.getElem?_set_ne e, List.getElem?_set_ne e]
          rcases List.mem_cons.mp hm with rfl | hm
          · exact absurd rfl e
          · exact ih τ ρ hl hm
    exact key vs _ _ (by rw [List.length_set, wipe_length]) hi
  · rw [wipe_out hi, wipe_out hi, List.getElem?_set_ne (fun e => hi (by rw [← e]; exact hj)), wipe_out hi]
section
variable {K : PySem.W.Frag} {mg : Str → Option Value} {C : Cn} {F1 : Hp} {σ : L2.St} {H1 : Hp} {env1 : En} {vs : List Nat} {b : PyData → En → Option En} {gt : M Bool} {ge : M (List PyData)} {ds : List PyData}
theorem btwR_turn {D : Addr} {out} {H : Hp} {x : V} {d : PyData} {r : List PyData} {j : Nat} (R0 : Rel K C F1 σ H1 env1) (hj : j ∈ vs) (hb : b = bN j) (hx : Dp K F1 x d) (h : BtwR K C F1 σ vs b gt ge D out (d :: r) H) :
    wipe ((wipe σ vs).set j (some x)) vs = wipe σ vs ∧ tG K mg okB W0 gt ((wipe σ vs).set j (some x)) H fun k H3 => if k = true then tG K mg (okO K) W0 ge ((wipe σ vs).set j (some x)) H3 fun y H4 => ∃ acc, H4 D = some (.lst acc) ∧ acc.length < sizeLine ∧ BtwR K C F1 σ vs b gt ge D out r (upd H4 D (.lst (acc ++ [y])))
      else BtwR K C F1 σ vs b gt ge D out r H3 := by
  have hw := wipe_put (σ := σ) (x := some x) hj
  have cb := R0.cb
  refine ⟨hw, ?_⟩
  obtain ⟨F, env, G, ps, acc, R, ex, rw0, hl⟩ := h
  subst hb
  have hl : (match gt (env.set j (.val d)) with
      | some (.ok (true, env2)) => match ge env2 with
        | some (.ok (y, env3)) => if acc.length < 16777216 then loopCO vs (bN j) gt ge r (acc ++ [y]) (wipeE vs env3) else none
        | _ => none
      | some (.ok (false, env2)) => loopCO vs (bN j) gt ge r acc (wipeE vs env2)
      | _ => none) = some out := hl
  refine ⟨_, F, env.set j (.val d), R.store j (dp_mono ex hx), ?_⟩
  cases q : gt (env.set j (.val d)) with
  | none => rw [q] at hl; cases hl
  | some z =>
    rw [q] at hl
    cases z with
    | error z => cases hl
    | ok z =>
      obtain ⟨k, env2⟩ := z
      intro k' F3 H3 R3 ex3 ek
      cases ek
      cases k with
      | false => exact ⟨F3, _, G, ps, acc, R3.rewipe hw, ex.trans ex3, ⟨rw0.g, rw0.d, rw0.r.mono ex3 (fun _ _ _ z => z), rw0.nd, rw0.l⟩, hl⟩
      | true =>
        simp only [if_true] at hl ⊢
        refine ⟨_, F3, env2, R3, ?_⟩
        cases q2 : ge env2 with
        | none => rw [q2] at hl; cases hl
        | some z =>
          rw [q2] at hl
          cases z with
          | error z => cases hl
          | ok z =>
            obtain ⟨y, env3⟩ := z
            intro v F4 H4 R4 ex4 dv
            simp only at hl
            split at hl
            · rename_i hlen
              obtain ⟨p, ws, rfl, gp, dw, g', R5⟩ := Rel.addG rw0.l cb rw0.g R4 dv (R4.cf)
              have npD : D ≠ p := fun e => by rw [← e, rw0.d] at gp; cases gp
              have hd' : upd G p (.lst ws) D = some (.lst (ps.map V.ref)) := by rw [upd_ne npD]; exact rw0.d
              have hDH := (R5.inG cb g' D _ hd').2.2.1
              have R6 := R5.rewipe hw
              have R7 := Rel.mutG (ys := (ps ++ [p]).map V.ref) (lst_upd rw0.l _ _) cb g' hd' R6
              have npm : p ∉ ps := fun hp => by obtain ⟨o, z⟩ := rw0.r.mem hp; rw [gp] at z; cases z
              have Dn := (List.nodup_cons.mp rw0.nd)
              have r' : Rws K F4 (upd G p (.lst ws)) ps acc := rw0.r.mono (ex3.trans ex4) (fun q hq o z => by rw [upd_ne (fun e => npm (by rw [← e]; exact hq))]; exact z)
              have r2 : Rws K F4 (upd G p (.lst ws)) (ps ++ [p]) (acc ++ [y]) := r'.snoc upd_same dw
              have r3 : Rws K F4 (upd (upd G p (.lst ws)) D (.lst ((ps ++ [p]).map V.ref))) (ps ++ [p]) (acc ++ [y]) := r2.mono (Ex.refl _) (fun q hq o z => by
                have : q ≠ D := fun e => by
                  subst e
                  rcases List.mem_append.mp hq with hq | hq
                  · exact Dn.1 hq
                  · rw [List.mem_singleton] at hq; exact npD hq
                rw [upd_ne this]; exact z)
              refine ⟨ps.map V.ref, hDH, by rw [List.length_map, rw0.r.len, sizeLine_eq]; exact hlen, F4, _, _, ps ++ [p], acc ++ [y], ?_, (ex.trans ex3).trans ex4, ⟨g'.upd hd', upd_same, r3, ?_, lst_upd (lst_upd rw0.l _ _) _ _⟩, hl⟩
              · rw [List.map_append] at R7 ⊢
                exact R7
              · rw [List.nodup_cons]
                refine ⟨fun h => ?_, ?_⟩
                · rcases List.mem_append.mp h with h | h
                  · exact Dn.1 h
                  · rw [List.mem_singleton] at h; exact npD h
                · rw [List.nodup_append]
                  refine ⟨Dn.2, by simp, fun a ha c hc e => ?_⟩
                  rw [List.mem_singleton] at hc
                  subst hc; subst e
                  exact npm ha
            · cases hl
theorem btwR_end {D : Addr} {acc : List (List PyData)} {env' : En} {H : Hp} (R0 : Rel K C F1 σ H1 env1) (h : BtwR K C F1 σ vs b gt ge D (acc, env') [] H) :
    ∃ F G ps, Rel K (C.over G) F σ H (backE env1 vs env') ∧ Ex F1 F ∧ RwG K C F G D ps acc := by
  have cb := R0.cb
  obtain ⟨F, env, G, ps, acc', R, ex, rw0, hl⟩ := h
  have e : (acc', env) = (acc, env') := Option.some.inj hl
  cases e
  have U := R.under cb rw0.g
  have B := R0.back U ex
  refine ⟨F, G, ps, Rel.over rw0.l B fun a o q => ?_, ex, rw0⟩
  have f := R.inG cb rw0.g a o q
  refine ⟨f.1, f.2.1, f.2.2.1, fun i ⟨s, e1, e2, e3⟩ => ?_⟩
  rcases backE_at e1 with ⟨_, rfl | ⟨d, rfl, _⟩⟩ | ⟨ne, e1⟩
  · cases e2
  · cases e2
  · exact f.2.2.2 i ⟨s, e1, e2, by rw [wipe_out ne]; exact e3⟩
end
theorem Rel.forget {K : PySem.W.Frag} {C : Cn} {F : Hp} {σ : L2.St} {H : Hp} {env : En} (R : Rel K C F σ H env) (i : Nat) (v : V) : Rel K C F (σ.set i (some v)) H (env.set i .no) where
  fh := R.fh
  cf := R.cf
  new := R.new
  pres := R.pres
  bd := R.bd
  sl := fun j s hj => by
    rcases set_at hj with ⟨rfl, rfl, hl⟩ | ⟨ne, hj⟩
    · trivial
    · rw [List.getElem?_set_ne (Ne.symm ne)]; exact R.sl j s hj
  dis := fun j k q o1 o2 => by
    have back : ∀ {j : Nat}, Owned (σ.set i (some v)) (env.set i .no) j q → Owned σ env j q := fun {j} ⟨s1, e1, b1, a1⟩ => by
      rcases set_at e1 with ⟨rfl, rfl, _⟩ | ⟨n1, f1⟩
      · cases b1
      · rw [List.getElem?_set_ne (Ne.symm n1)] at a1
        exact ⟨s1, f1, b1, a1⟩
    exact R.dis j k q (back o1) (back o2)
  len := by rw [List.length_set, List.length_set]; exact R.len
  tb := R.tb
  nt := R.nt
theorem Rel.tell {K : PySem.W.Frag} {C : Cn} {F : Hp} {σ : L2.St} {H : Hp} {env : En} {i : Nat} {v : V} {d : PyData} (R : Rel K C F σ H env) (hs : σ[i]? = some (some v)) (h : Dp K F v d) : Rel K C F σ H (env.set i (.val d)) := R.slot (i := i) (.val d) rfl ⟨v, hs, h⟩
def rowSet (ins : Bool) (ds : List PyData) (m : PyData) : List PyData := if ins = true then m :: ds else ds ++ [m]
def gRow (ins : Bool) (gk gm : M PyData) (dss : List (List PyData)) (k : List (List PyData) → S) : S := gE gk fun e => match e with
  | .int n => fun env => match ixN dss.length n with
    | none => none
    | some j => match dss[j]? with
      | none => none
      | some ds => gE gm (fun m => if ds.length < 16777216 then k (dss.set j (rowSet ins ds m)) else fun _ => none) env
  | _ => fun _ => none
def gRows (i : Nat) (vs : List Nat) (j : Nat) (gt : M Bool) (ge : M (List PyData)) (ga : M PyData) (gc : M Bool) (gk gm : M PyData) (g4 : S) : S := gE ga fun d env1 => match tupO d with
  | none => none
  | some ds => match loopCO vs (bN j) gt ge ds [] (wipeE vs env1) with
    | none => none
    | some (dss, env2) => if i < env1.length then gE gc (fun c => gRow c gk gm dss fun dss' env6 => g4 (env6.set i (.val (.list (dss'.map PyData.list))))) ((backE env1 vs env2).set i .no) else none
end Pf
/-! part PfR3 -/
set_option Elab.async false
set_option linter.all false
set_option maxRecDepth 100000
set_option maxHeartbeats 2000000
namespace Pf
open PySem PySem.Spec L2 Evl
theorem atI_ixN {α : Type} {xs : List α} {n : Int} {j : Nat} {v : α} (h : ixN xs.length n = some j) (e : xs[j]? = some v) : atI xs n = some v := by
  unfold atI
  rw [h]
  exact e
section
variable {K : PySem.W.Frag} {mg : Str → Option Value} {W : WX} {C : Cn} {F : Hp} {σ : L2.St} {H G : Hp} {env : En} {i : Nat} {Da : Addr} {ps : List Addr} {dss : List (List PyData)} {gk gm : M PyData} {k : List (List PyData) → S} {Dn : Ends} {ins : Bool}
theorem row_do (cb : CB C) (R : Rel K (C.over G) F σ H env) (rw0 : RwG K C F G Da ps dss) (hs : σ[i]? = some (some (.ref Da))) (h : AftS K mg W C F (gRow ins gk gm dss (fun dss' env6 => k dss' (env6.set i (.val (.list (dss'.map PyData.list))))) env) Dn)
    {r : V → List V → Hp → VK → Prop} {pre : List V} (hr : ∀ (p : Addr) (vs : List V) (v : V) (H : Hp) (Q : VK), H p = some (.lst vs) → vs.length < sizeLine → Q .non (upd H p (.lst (if ins = true then v :: vs else vs ++ [v]))) → r (.ref p) (pre ++ [v]) H Q) (QK : Hp → Prop)
    (hk : ∀ dss' F' H' env', Rel K C F' σ H' env' → Ex F F' → AftS K mg W C F' (k dss' env') Dn → QK H') :
    tOp (rIx K) (tVar i) (tG K mg (okV K) W gk) σ H fun x H1 => tyV K "list" x H1 ∧ tG K mg (okV K) W gm σ H1 fun v H2 => r x (pre ++ [v]) H2 fun _ H3 => QK H3 := by
  refine ⟨.ref Da, hs, ?_⟩
  unfold gRow at h
  refine tE_bg R (fun F' H' env' R' => R'.under cb rw0.g) h fun d env1 w F1 H1 R1 ex1 o1 h1 => ?_
  cases o1 with
  | int n =>
    simp only at h1
    cases hj : ixN dss.length n with
    | none => rw [hj] at h1; exact h1.elim
    | some j =>
      rw [hj] at h1
      simp only at h1
      cases hd : dss[j]? with
      | none => rw [hd] at h1; exact h1.elim
      | some ds =>
        rw [hd] at h1
        simp only at h1
        have r1 : Rws K F1 G ps dss := rw0.r.mono ex1 (fun _ _ _ z => z)
        obtain ⟨p, vs, hp, gp, dv⟩ := r1.get hd
        have hD := (R1.inG cb rw0.g Da _ rw0.d).2.2.1
        have hP := (R1.inG cb rw0.g p _ gp).2.2.1
        refine .inl ⟨Da, ps.map V.ref, n, .ref p, rfl, rfl, SqL.of hD, atI_ixN (by rw [List.length_map, r1.len]; exact hj) (by rw [List.getElem?_map, hp]; rfl), .inl ⟨rfl, _, SqL.of hP⟩, ?_⟩
        refine tE_bg R1 (fun F' H' env' R' => R'.under cb rw0.g) h1 fun m env2 v F2 H2 R2 ex2 o2 h2 => ?_
        have hP2 := (R2.inG cb rw0.g p _ gp).2.2.1
        have dv2 := dps_mono ex2 dv
        by_cases hl : ds.length < 16777216
        · rw [if_pos hl] at h2
          refine hr p vs v H2 _ hP2 (by rw [dv2.len, sizeLine_eq]; exact hl) ?_
          have Dn' := List.nodup_cons.mp rw0.nd
          have hm := List.mem_of_getElem? hp
          have neD : Da ≠ p := fun e => Dn'.1 (by rw [e]; exact hm)
          have dv3 : DpAll K F2 (if ins = true then v :: vs else vs ++ [v]) (rowSet ins ds m) := by
            unfold rowSet
            cases ins with
            | true => exact .cons o2 dv2
            | false => exact dv2.app (.cons o2 .nil)
          have R3 := Rel.mutG (ys := if ins = true then v :: vs else vs ++ [v]) rw0.l cb rw0.g gp R2
          have g3 : GI C (upd G p (.lst (if ins = true then v :: vs else vs ++ [v]))) := rw0.g.upd gp
          have r3 : Rws K F2 (upd G p (.lst (if ins = true then v :: vs else vs ++ [v]))) ps (dss.set j (rowSet ins ds m)) := (r1.mono ex2 (fun _ _ _ z => z)).set dv3 Dn'.2 hp
          obtain ⟨ex3, R4⟩ := R3.freezeG (lst_nt (lst_upd rw0.l _ _)) cb g3
          have hDa : upd G p (.lst (if ins = true then v :: vs else vs ++ [v])) Da = some (.lst (ps.map V.ref)) := by rw [upd_ne neD]; exact rw0.d
          have R5 := R4.tell hs (.lst (SqL.of (ovr_some hDa)) (r3.data ex3 fun a o z => ovr_some z))
          exact hk _ _ _ _ R5 ((ex1.trans ex2).trans ex3) (AftS.up h2 ex3)
        · rw [if_neg hl] at h2
          exact h2.elim
  | _ => exact h1.elim
end
section
variable {X : Cx} {W : WX} {elt iter c e m e' m' : Expr} {ifs : List Expr} {scope : Scope} {own : List (Str × Nat)} {ga gk gm : M PyData} {gc gt : M Bool} {ge : M (List PyData)} {pos p0 p1 p2 p3 p4 p5 p6 p7 p8 q1 q2 q3 q4 q5 q6 py spos ipos : Pos} {x y : Str} {i j : Nat} {kk : Nat} {rest : List Stmt} {g4 : S}
theorem pss_rows (i : Nat) (hc : X.calm = true) (hN : X.N.Nodup) (hy : X.N[i]? = some y) (hyl : X.env.scope.names.lookup y = some .local)
    (hsw : swapsWith (.ListComp elt [⟨.Name x p1, iter, ifs, 0⟩] scope pos) (some (.Name y py)) spos.line X.env = pure true) (hi : SV X W iter ga) (ok : BlkOk X.N X.env.scope scope own) (hj : j ∈ own.map (·.2))
    (hg : ∀ (s : Shared) (H : Hp) (C : Addr) (cl : List (Str × Addr)) (fp : List Addr), PG (X.blk s H scope (compEnvC scope cl C X.env) fp) (.Name x p1) (gName j)) (ht : ∀ (s : Shared) (H : Hp) (C : Addr) (cl : List (Str × Addr)) (fp : List Addr), STs (X.blk s H scope (compEnvC scope cl C X.env) fp) W0 ifs gt)
    (he : ∀ (s : Shared) (H : Hp) (C : Addr) (cl : List (Str × Addr)) (fp : List Addr), SO (X.blk s H scope (compEnvC scope cl C X.env) fp) W0 elt ge)
    (hcond : ST X W c gc) (hk : SV X W e gk) (hm : SV X W m gm) (hk' : SV X W e' gk) (hm' : SV X W m' gm) (h4 : SSs X W rest g4)
    (hpi : PlainIx e := by exact fun _ _ => rfl) (hpi' : PlainIx e' := by exact fun _ _ => rfl) (hvis : Vis X.env.scope y := by first | exact Or.inl rfl | exact Or.inr (Or.inl rfl) | exact Or.inr (Or.inr rfl)) (hd : (y == ("__debug__" : Str)) = false := by decide) (hcd : (y == ("__classdict__" : Str)) = false := by decide)
    (hb1 : attributeBase (.Subscript (.Name y p2) e p3) "insert" X.env (eval (.Subscript (.Name y p2) e p3) X.env) = eval (.Subscript (.Name y p2) e p3) X.env := by rfl)
    (hf1 : ((backTo p5 (starEach [.Constant (.int 0) kk p8, m] X.env)).all (fun x => !x.1) && (backToKw p5 (keywordEach [] X.env)).all (fun x => x.1.isSome)
      && decide ([.Constant (.int 0) kk p8, m].length + ([] : List Keyword).length + (if ([] : List Keyword).isEmpty then 0 else 1) < 30)) = true := by rfl)
    (hl1 : (p4.endLine == p5.line) = true := by rfl) (hs1 : starEach [.Constant (.int 0) kk p8, m] X.env = (false, eval (.Constant (.int 0) kk p8) X.env) :: starEach [m] X.env := by rfl) (hp1 : (backTo p5 (starEach [m] X.env)).any (·.1) = false := by rfl) (hs2 : starEach [m] X.env = (false, eval m X.env) :: starEach [] X.env := by rfl)
    (hw1 : swapsWith (.Call (.Attribute (.Subscript (.Name y p2) e p3) "insert" p4) [.Constant (.int 0) kk p8, m] [] p5) none p6.line X.env = pure false := by rfl)
    (hb2 : attributeBase (.Subscript (.Name y q1) e' q2) "append" X.env (eval (.Subscript (.Name y q1) e' q2) X.env) = eval (.Subscript (.Name y q1) e' q2) X.env := by rfl)
    (hf2 : ((backTo q4 (starEach [m'] X.env)).all (fun x => !x.1) && (backToKw q4 (keywordEach [] X.env)).all (fun x => x.1.isSome)
      && decide ([m'].length + ([] : List Keyword).length + (if ([] : List Keyword).isEmpty then 0 else 1) < 30)) = true := by rfl)
    (hs3 : starEach [m'] X.env = (false, eval m' X.env) :: starEach [] X.env := by rfl) (hl2 : (q3.endLine == q4.line) = true := by rfl) (hp2 : (backTo q4 (starEach [] X.env)).any (·.1) = false := by rfl)
    (hw2 : swapsWith (.Call (.Attribute (.Subscript (.Name y q1) e' q2) "append" q3) [m'] [] q4) none q5.line X.env = pure false := by rfl)
    (hs : ∀ x, foldedSetIterable iter X.env x = pure x := by intro _; rfl) :
    SSs X W (.Assign [.Name y py] (.ListComp elt [⟨.Name x p1, iter, ifs, 0⟩] scope pos) spos ::
      .If c [.Expr (.Call (.Attribute (.Subscript (.Name y p2) e p3) "insert" p4) [.Constant (.int 0) kk p8, m] [] p5) p6] [.Expr (.Call (.Attribute (.Subscript (.Name y q1) e' q2) "append" q3) [m'] [] q4) q5] ipos :: rest)
      (gRows i (own.map (·.2)) j gt ge ga gc gk gm g4) :=
  pss_imp (pss_cons (ps_setLc (tt := tG X.K X.mg okB W0 gt) (te := tG X.K X.mg (okO X.K) W0 ge) hc hN hy hyl hsw (pi_tup hi) ok hg ht he hs)
    (pss_cons (ps_if hcond (pss_one (ps_expr (pe_bm PySem.F.plainAttrs_list PySem.F.slot_list_insert PySem.F.type_list_insert mt_insert (pe_ix ix_seq (pe_var hy hvis hd hcd) hk hpi) (pa_cons pe_int (pa_cons hm pa_nil hs2) hs1) hb1 hf1 hl1 hs1 hp1) hw1))
      (pss_one (ps_expr (pe_bm PySem.F.plainAttrs_list PySem.F.slot_list_append PySem.F.type_list_append mt_append (pe_ix ix_seq (pe_var hy hvis hd hcd) hk' hpi') (pa_cons hm' pa_nil hs3) hb2 hf2 hl2 hs3 hp2) hw2))) h4)) fun D σ H ⟨C, F, env, R, h⟩ => by
    unfold gRows at h
    refine tE_bd R h fun d env1 v F1 H1 R1 e1 o1 h1 => ?_
    cases o1 with
    | @tup a xs ds s r =>
      have h1 : AftS X.K X.mg W C F1 (match loopCO (own.map (·.2)) (bN j) gt ge ds [] (wipeE (own.map (·.2)) env1) with
        | none => none
        | some (dss, env2) => if i < env1.length then gE gc (fun c => gRow c gk gm dss fun dss' env6 => g4 (env6.set i (.val (.list (dss'.map PyData.list))))) ((backE env1 (own.map (·.2)) env2).set i .no) else none) D := h1
      cases hl : loopCO (own.map (·.2)) (bN j) gt ge ds [] (wipeE (own.map (·.2)) env1) with
      | none => rw [hl] at h1; exact h1.elim
      | some out =>
        obtain ⟨dss, env2⟩ := out
        rw [hl] at h1
        by_cases hlen : i < env1.length
        · have h1 : AftS X.K X.mg W C F1 (gE gc (fun c => gRow c gk gm dss fun dss' env6 => g4 (env6.set i (.val (.list (dss'.map PyData.list))))) ((backE env1 (own.map (·.2)) env2).set i .no)) D := by
            have h1 : AftS X.K X.mg W C F1 (if i < env1.length then gE gc (fun c => gRow c gk gm dss fun dss' env6 => g4 (env6.set i (.val (.list (dss'.map PyData.list))))) ((backE env1 (own.map (·.2)) env2).set i .no) else none) D := h1
            rw [if_pos hlen] at h1
            exact h1
          refine ⟨a, rfl, ⟨xs, ex_t R1.fh s⟩, fun Da hD => lc_tup (xs := xs) (fun i => BtwR X.K C F1 σ (own.map (·.2)) (bN j) gt ge Da (dss, env2) (ds.drop i)) (btwR_start R1 hD hl) (fun i H _ ⟨F, env, G, ps, acc, R, ex, _⟩ => ex_t (ex.trans R.fh) s) (fun i x H hx hB => ?_) (fun H hB => ?_)⟩
          · obtain ⟨d, hd, dd⟩ := DpAll_at r hx
            rw [drop_at hd] at hB
            exact btwR_turn (mg := X.mg) R1 hj rfl dd hB
          · rw [List.drop_eq_nil_of_le (Nat.le_of_eq r.len.symm)] at hB
            obtain ⟨F2, G, ps, R2, ex2, rw2⟩ := btwR_end R1 hB
            have cb := R1.cb
            have R3 := R2.forget i (.ref Da)
            have hσ : (σ.set i (some (V.ref Da)))[i]? = some (some (.ref Da)) := List.getElem?_set_self (by rw [← R1.len]; exact hlen)
            refine tE_bg R3 (fun F' H' env' R' => R'.under cb rw2.g) (h1.up ex2) fun k env3 k' F3 H3 R4 ex4 o4 h4' => ?_
            cases o4
            have rw3 : RwG X.K C F3 G Da ps dss := ⟨rw2.g, rw2.d, rw2.r.mono ex4 (fun _ _ _ z => z), rw2.nd, rw2.l⟩
            cases k with
            | true =>
              rw [if_pos rfl]
              have := row_do (ins := true) (i := i) (k := fun dss' => g4) cb R4 rw3 hσ h4' (pre := [.int 0]) (r := fun x vs H Q => ∃ (l : Addr) (xs : List V) (i : Int) (y : V), x = .ref l ∧ vs = [.int i, y] ∧ H l = some (.lst xs) ∧ xs.length < sizeLine ∧ 0 ≤ i ∧ i < 2 ^ 63 ∧
                Q .non (upd H l (.lst (xs.take i.toNat ++ [y] ++ xs.drop i.toNat)))) (fun p vs v H Q e1 e2 q => ⟨p, vs, 0, v, rfl, rfl, e1, e2, by decide, by decide, q⟩)
                (fun H' => tS X.K X.mg W g4 D (σ.set i (some (V.ref Da))) H') (fun dss' F' H' env' R' ex' h' => ⟨C, F', env', R', h'⟩)
              exact this
            | false =>
              rw [if_neg (by decide)]
              have := row_do (ins := false) (i := i) (k := fun dss' => g4) cb R4 rw3 hσ h4' (pre := []) (r := rAppend) (fun p vs v H Q e1 e2 q => ⟨p, vs, v, rfl, rfl, e1, e2, q⟩)
                (fun H' => tS X.K X.mg W g4 D (σ.set i (some (V.ref Da))) H') (fun dss' F' H' env' R' ex' h' => ⟨C, F', env', R', h'⟩)
              exact this
        · have h1 : AftS X.K X.mg W C F1 (if i < env1.length then gE gc (fun c => gRow c gk gm dss fun dss' env6 => g4 (env6.set i (.val (.list (dss'.map PyData.list))))) ((backE env1 (own.map (·.2)) env2).set i .no) else none) D := h1
          rw [if_neg hlen] at h1
          exact h1.elim
    | _ => exact h1.elim
end
end Pf
/-! part PfK -/
set_option Elab.async false
set_option linter.all false
set_option maxRecDepth 100000
set_option maxHeartbeats 4000000
namespace PySem.W
open PySem PySem.Spec PySem.Calls PyProof.Rows
section
variable {prog : Program} {w : World} {A : Around} {E : Value → Shared → Prop} {s : Shared} {K : Frag} {x D : Addr} {ox od : Obj}
theorem own_class {Q : Option Value → Shared → Prop} (C : L2.ExcC K D) (X : K.In s.heap) (I : InstAt s.heap x ox D (some od)) (h : Q (some (.ref D)) { s with toks := s.toks + 1 }) : wpAny (model prog w) A (getAttr? (.ref x) "__class__") Q E s := by
  have hf : findObj K D (some od) "__class__" = some (.bind (.builtin "getset_descriptor.__get__") (.builtin "object.__class__")) := findObj_data (by obtain ⟨cd, hc, _⟩ := any_some C.hd; rw [hc]; rfl) C.ha C.hn C.ht
  obtain ⟨hp, g, d, t, os⟩ := s
  have T0 := I.type (M := model prog w)
  have T1 := looks_findIn (M := model prog w) X C.hg
  have T2 := looks_findIn (M := model prog w) X C.hk
  have T3 := looks_find (M := model prog w) X I hf
  have sb : Looks (model prog w) hp (isInstance (.ref x) (.type "BaseException")) true := T0.andThen (looks_subIn X C.hs)
  have y0 : (false && onTheHeap (Value.builtin "BaseException.__getattribute__")) = false := rfl
  have y1 : (onTheHeap (Value.ref D) && Value.builtin "BaseException.__getattribute__" == Value.builtin "object.__getattribute__") = false := by
    rw [show (Value.builtin "BaseException.__getattribute__" == Value.builtin "object.__getattribute__") = false by decide +kernel]; rfl
  unfold getAttr? getAttrBy? getAttrBy
  refine wpAny_bind (wpAny_mkText (wpAny_bind (wpAny_attempt (wpAny_holding (wpAny_bind (T0.at (wpAny_bind (T1.at ?_))))))))
  show wpAny _ _ (if (onTheHeap (Value.ref D) && Value.builtin "BaseException.__getattribute__" == Value.builtin "object.__getattribute__") = true then _ else _) _ _ _
  rw [y1, if_neg Bool.false_ne_true]; unfold getAttrByItsOwn hookBefore
  refine wpAny_bind ?_; rw [if_pos (show onTheHeap (Value.ref D) = true from rfl)]
  refine T2.at (wpAny_bind (wpAny_attempt (wpAny_holding ?_)))
  unfold callGetattribute; rw [y0, if_neg Bool.false_ne_true]; unfold boundAndCalled
  rw [PySem.F.excAttr_ValueError.ga.bind (.ref x)]; refine wpAny_bind (wpAny_pure ?_)
  show wpAny _ _ (call (.builtin "BaseException.__getattribute__") [.ref x, .str "__class__" t]) _ _ _
  refine wpAny_call (codeAny_call_builtin PySem.F.excAttr_ValueError.ga.plain PySem.F.entry_bexc_ga (@check_slot (model prog w) _ _ ⟨hp, g, d, t + 1, os⟩ "BaseException.__getattribute__" "BaseException" "__getattribute__" (.ref x) [.str "__class__" t] [] _ (by decide +kernel) (by decide +kernel) sb (PySem.F.args_bexc_ga (.ref x) (.str "__class__" t)) ?_))
  unfold Builtin.«object.__getattribute__»
  refine wpAny_bind (wpAny_of_eq (a := ((Value.ref x : Value), [Value.str "__class__" t])) (by first | rfl | (simp only [slotArgs]; rfl)) (wpAny_bind (wpAny_pure (wpAny_bind (T0.at (wpAny_bind (T3.at ?_)))))))
  show wpAny _ _ (holding [Value.builtin "object.__class__"] (call (.builtin "getset_descriptor.__get__") [.builtin "object.__class__", .ref x, .ref D]) >>= ret) _ _ _
  refine wpAny_bind (wpAny_holding (wpAny_call (class_get (s := ⟨hp, g, d, t + 1, os⟩) (ox := ox) (od := some od) X I C.hm (wpAny_pure ?_))))
  show wpAny _ _ (handedOut (.ref D)) _ _ _
  rw [handedOut_of (v := .ref D) rfl]
  first
    | exact wpAny_pure (wpAny_pure h)
    | exact wpAny_pure h
    | exact wpAny_pure (wpAny_bind (wpAny_pure (wpAny_pure h)))
theorem own_kit (C : L2.ExcC K D) : KitX K (.ref x) (.ref D) (fun h => ∃ od, InstAt h x ox D (some od)) where
  ty := fun _ _ _ ⟨_, I⟩ => I.type
  it := fun M h X _ => by
    obtain ⟨cd, hc, _⟩ := any_some C.hd
    unfold clsIn at hc
    split at hc
    · rename_i c1 d1 cd1 sl1 ho
      intro A2 Q2 E2 s2 kk qq; unfold isType loadHead; exact wpAny_bind (wpAny_loadPart (kk _ _ (X _ _ ho)) (wpAny_pure qq))
    · cases hc
  ne := (handS_kitx_exc (x := x) (ox := ox) C.hg C.hk C.hs C.hd C.ha C.hn C.ht C.hm).ne
  ca := fun X ⟨_, I⟩ k => own_class C X I k
end
end PySem.W
namespace Pf
open PySem PySem.Spec L2 Evl
def rIsK (K : PySem.W.Frag) (D a dd : Addr) : List V → Hp → VK → Prop := fun xs H Q => ∃ (c : V) (cv : Value) (b : Bool) (fs : List (Str × V)), xs = [.ref a, c] ∧ H dd = some (.xd fs) ∧ (∀ u, RelV c u → u = cv) ∧ PySem.W.kitOne K (.ref D) cv = some b ∧ Q (.bl b) H
theorem call_isK {X : Cx} {a D dd : Addr} {oe : Obj} {pn : List (Addr × Obj)} (C : ExcC X.K D) (hz : Zc (.ref D) (some dd) oe) (hf : ∃ vs, oe.data = .fields vs) : CallR (X.suite a ((a, oe) :: pn)) (.builtin "isinstance") (rIsK X.K D a dd) := by
  intro pins s σ H xs us Q I r h
  obtain ⟨c, cv, b, fs, rfl, hdd, hcv, e, q⟩ := h
  cases r with
  | cons rx rr =>
    cases rr with
    | cons rt rr =>
      cases rr
      cases rx
      have ec := hcv _ rt
      subst ec
      obtain ⟨hget, _⟩ := I.pin (a, oe) (List.mem_append.mpr (.inl List.mem_cons_self))
      obtain ⟨vs, hv⟩ := hf
      have hx : ObjOk X.prog X.w H s.heap dd (.xd fs) := I.hok dd _ hdd
      obtain ⟨mA, hns, hr⟩ := hx
      obtain ⟨od, ho, hl⟩ := lookIn_ns hns
      have J : PySem.W.InstAt s.heap a oe D (some od) := ⟨hget, hz.1, by unfold PySem.W.notCls; rw [hv] <;> rfl, by rw [hz.2]; exact ho⟩
      exact PySem.W.kia_one (PySem.W.own_kit C) I.kIn ⟨od, J⟩ e (fun z => nomatch z) fun tk => ⟨.bl b, H, I.kept (t' := tk) fun _ _ z => z, rfl, q⟩
def rCnt (K : PySem.W.Frag) : V → List V → Hp → VK → Prop := fun x xs H Q => ∃ (p : Addr) (ys : List V) (y : V), x = V.ref p ∧ xs = [y] ∧ SqL K H p ys ∧ flatV y = true ∧ ys.all flatV = true ∧ Q (.int ((ys.countP fun z => eqV z y : Nat) : Int)) H
theorem mt_cnt {X : Cx} : MtR X "list.count" (rCnt X.K) := by
  intro pins s σ H x xs v us Q I rx rxs h
  obtain ⟨p, ys, y, rfl, rfl, hs, fy, fys, q⟩ := h
  cases rx
  obtain ⟨u, rfl, ru⟩ := rxs.one
  obtain ⟨its, rv, ⟨⟨cls, dd, data, sl⟩, n, ho, hc, hdn, hd⟩, hlen⟩ := I.list hs
  simp only at hc hd
  subst hc hd
  refine call_meets PySem.F.slot_list_count ⟨_, ho, rfl⟩ PySem.F.entry_list_count (PySem.F.args_list_count_2 _ _)
    (SeqAt.list_countAt p its.toArray n dd sl u (eqU y)) ⟨ho, fun z hz => mem_eqAt ru fy rv fys z (by simpa using hz), ?_⟩
  have key : ∀ {ys : List V} {us : List Value}, Vals ys us → ys.all flatV = true → us.countP (eqU y) = ys.countP fun z => eqV z y := fun {ys us} r => by
    induction r with
    | nil => intro _; rfl
    | cons r0 rr ih =>
      intro f
      simp only [List.all_cons, Bool.and_eq_true] at f
      rw [List.countP_cons, List.countP_cons, ih f.2, eqU_of r0 f.1]
  have ec : its.toArray.toList.countP (eqU y) = ys.countP fun z => eqV z y := key rv fys
  refine ⟨.int ((ys.countP fun z => eqV z y : Nat) : Int), H, I.tok _, ⟨s.toks, ?_⟩, q⟩
  show Value.int ((its.toArray.toList.countP (eqU y) : Nat) : Int) s.toks = _
  rw [ec]
def cntD (ds : List PyData) (d : PyData) : Option PyData := if flatD d = true ∧ ds.all flatD = true then some (.int ((ds.countP fun z => PyData.eqv z d : Nat) : Int)) else none
def idxD (ds : List PyData) (d : PyData) : Option PyData := if flatD d = true ∧ ds.all flatD = true then match ds.findIdx? (fun z => PyData.eqv z d) with
  | some j => some (.int (j : Nat))
  | none => none else none
theorem cnt_of {K : PySem.W.Frag} {H : Hp} {w : V} {e : PyData} (h' : Dp K H w e) (f' : flatD e = true) : ∀ {vs : List V} {ds : List PyData}, DpAll K H vs ds → ds.all flatD = true → (vs.countP fun z => eqV z w) = ds.countP fun z => PyData.eqv z e
  | _, _, .nil, _ => rfl
  | _, _, .cons a r, f => by
    simp only [List.all_cons, Bool.and_eq_true] at f
    rw [List.countP_cons, List.countP_cons, cnt_of h' f' r f.2, eqV_of a h' f.1 f']
def gCount (i : Nat) (gb : M PyData) : M PyData := M.bd (gHeld i) fun _ => M.bd gb fun d => M.bd (gHeld i) fun ds => M.opt (cntD ds d)
def gIndex (i : Nat) (gb : M PyData) : M PyData := M.bd (gHeld i) fun _ => M.bd gb fun d => M.bd (gHeld i) fun ds => M.opt (idxD ds d)
def splitD : PyData → PyData → Option (List PyData)
  | .str a, .str b => if (b.length == 0) = false ∧ a.length ≤ 1000000 then some ((Txt.split a b).map .str) else none
  | _, _ => none
def gSplit (ga gb : M PyData) : M (List PyData) := M.bd ga fun d => match d with
  | .str a => M.bd gb fun e => M.opt (splitD (.str a) e)
  | _ => M.no
section
variable {X : Cx} {W : WX} {a b e : Expr} {ga gb : M PyData} {x : Str} {p p1 p2 pos apos : Pos}
theorem sv_count (i : Nat) (hb : SV X W e gb) (hN : X.N[i]? = some x := by rfl) (hvis : Vis X.env.scope x := by first | exact Or.inl rfl | exact Or.inr (Or.inl rfl) | exact Or.inr (Or.inr rfl))
    (hd : (x == ("__debug__" : Str)) = false := by decide) (hcd : (x == ("__classdict__" : Str)) = false := by decide)
    (hbase : attributeBase (.Name x p1) "count" X.env (eval (.Name x p1) X.env) = eval (.Name x p1) X.env := by rfl)
    (hfew : ((backTo p2 (starEach [e] X.env)).all (fun x => !x.1) && (backToKw p2 (keywordEach [] X.env)).all (fun x => x.1.isSome)
      && decide ([e].length + ([] : List Keyword).length + (if ([] : List Keyword).isEmpty then 0 else 1) < 30)) = true := by rfl)
    (hline : (apos.endLine == p2.line) = true := by rfl) (hs : starEach [e] X.env = (false, eval e X.env) :: starEach [] X.env := by rfl) (hplain : (backTo p2 (starEach [] X.env)).any (·.1) = false := by rfl) :
    SV X W (.Call (.Attribute (.Name x p1) "count" apos) [e] [] p2) (gCount i gb) :=
  pe_imp (pe_bm PySem.F.plainAttrs_list PySem.F.slot_list_count PySem.F.type_list_count mt_cnt (pe_var hN hvis hd hcd) (pa_cons hb pa_nil hs) hbase hfew hline hs hplain) fun σ H Q ⟨C, F, env, R, h⟩ => by
    obtain ⟨_, p, vs0, _, _, _, a1, a2, _, h2⟩ := bd_held R h
    refine ⟨.ref p, a1, .inl ⟨rfl, _, SqL.of a2⟩, tG_bd R h2 fun d env2 w F2 H2 R2 ex2 o2 h3 => ?_⟩
    obtain ⟨ds, p', vs, s, q, qo, b1, b2, b3, h4⟩ := bd_held R2 h3
    rw [a1] at b1
    cases b1
    obtain ⟨z, hz, h5⟩ := h4.of_opt
    unfold cntD at hz
    split at hz
    · rename_i hf
      cases hz
      refine ⟨p, vs, w, rfl, rfl, SqL.of b2, dp_flat o2 hf.1, dps_flat b3 hf.2, ?_⟩
      rw [cnt_of o2 hf.1 b3 hf.2]
      exact aft (ok := okV X.K) h5 R2 (.int _)
    · cases hz
theorem sv_index (i : Nat) (hb : SV X W e gb) (hN : X.N[i]? = some x := by rfl) (hvis : Vis X.env.scope x := by first | exact Or.inl rfl | exact Or.inr (Or.inl rfl) | exact Or.inr (Or.inr rfl))
    (hd : (x == ("__debug__" : Str)) = false := by decide) (hcd : (x == ("__classdict__" : Str)) = false := by decide)
    (hbase : attributeBase (.Name x p1) "index" X.env (eval (.Name x p1) X.env) = eval (.Name x p1) X.env := by rfl)
    (hfew : ((backTo p2 (starEach [e] X.env)).all (fun x => !x.1) && (backToKw p2 (keywordEach [] X.env)).all (fun x => x.1.isSome)
      && decide ([e].length + ([] : List Keyword).length + (if ([] : List Keyword).isEmpty then 0 else 1) < 30)) = true := by rfl)
    (hline : (apos.endLine == p2.line) = true := by rfl) (hs : starEach [e] X.env = (false, eval e X.env) :: starEach [] X.env := by rfl) (hplain : (backTo p2 (starEach [] X.env)).any (·.1) = false := by rfl) :
    SV X W (.Call (.Attribute (.Name x p1) "index" apos) [e] [] p2) (gIndex i gb) :=
  pe_imp (pe_bm PySem.F.plainAttrs_list PySem.F.slot_list_index PySem.F.type_list_index mt_index (pe_var hN hvis hd hcd) (pa_cons hb pa_nil hs) hbase hfew hline hs hplain) fun σ H Q ⟨C, F, env, R, h⟩ => by
    obtain ⟨_, p, vs0, _, _, _, a1, a2, _, h2⟩ := bd_held R h
    refine ⟨.ref p, a1, .inl ⟨rfl, _, SqL.of a2⟩, tG_bd R h2 fun d env2 w F2 H2 R2 ex2 o2 h3 => ?_⟩
    obtain ⟨ds, p', vs, s, q, qo, b1, b2, b3, h4⟩ := bd_held R2 h3
    rw [a1] at b1
    cases b1
    obtain ⟨z, hz, h5⟩ := h4.of_opt
    unfold idxD at hz
    split at hz
    · rename_i hf
      cases hj : ds.findIdx? (fun z => PyData.eqv z d) with
      | none => rw [hj] at hz; cases hz
      | some j =>
        rw [hj] at hz
        cases hz
        obtain ⟨hlt, hy, hno⟩ := List.findIdx?_eq_some_iff_getElem.mp hj
        have fa := List.all_eq_true.mp hf.2
        obtain ⟨v, hv, dv⟩ := b3.get (List.getElem?_eq_getElem hlt)
        refine ⟨p, vs, w, j, v, rfl, rfl, SqL.of b2, dp_flat o2 hf.1, dps_flat b3 hf.2, hv, ?_, fun m z' hm hz' => ?_, ?_⟩
        · rw [eqV_of dv o2 (fa _ (List.getElem_mem hlt)) hf.1]; exact hy
        · have hml : m < ds.length := by omega
          obtain ⟨v', hv', dv'⟩ := b3.get (List.getElem?_eq_getElem hml)
          rw [hv'] at hz'
          cases hz'
          rw [eqV_of dv' o2 (fa _ (List.getElem_mem hml)) hf.1]
          have := hno m hm
          simpa using this
        · exact aft (ok := okV X.K) h5 R2 (.int _)
    · cases hz
theorem so_split (ha : SV X W a ga) (hb : SV X W b gb) (hs : starEach [b] X.env = [(false, eval b X.env)] := by rfl) (hbase : attributeBase a "split" X.env (eval a X.env) = eval a X.env := by rfl) (hline : (apos.endLine == pos.line) = true := by rfl) :
    SO X W (.Call (.Attribute a "split" apos) [b] [] pos) (gSplit ga gb) :=
  pe_imp (pe_split ha hb hs hbase hline) fun σ H Q ⟨C, F, env, R, h⟩ => tG_bd R h fun d env1 v F1 H1 R1 e1 o1 h1 => by
    cases o1 with
    | str x =>
      refine ⟨⟨x, rfl⟩, tG_bd R1 h1 fun e env2 w F2 H2 R2 e2 o2 h2 => ?_⟩
      obtain ⟨z, hz, h3⟩ := h2.of_opt
      unfold splitD at hz
      split at hz
      · rename_i x' y hd
        cases hd
        split at hz
        · rename_i hc
          cases hz
          cases o2
          have sl := sizeLine_eq
          have key : ∀ l : List Str, DpAll X.K F2 (l.map V.str) (l.map PyData.str) := fun l => by
            induction l with
            | nil => exact .nil
            | cons a r ih => exact .cons (.str a) ih
          exact ⟨x, y, rfl, rfl, hc.1, by omega, fun q hq => aft' (ok := okO X.K) h3 (R2.newH hq) (Ex.refl _) (okO_new R2 hq (key _))⟩
        · cases hz
      · cases hz
    | _ => exact h1.elim
end
end Pf
/-! part PfL -/
set_option Elab.async false
set_option linter.all false
set_option maxRecDepth 100000
set_option maxHeartbeats 4000000
namespace Pf
open PySem PySem.Spec L2 Evl LamX
theorem fs_look {K : PySem.W.Frag} {F : Hp} {f : Str} {d : PyData} : ∀ {vs : List (Str × V)} {ds : List (Str × PyData)}, FsOk K F vs ds → ds.lookup f = some d → ∃ v, vs.lookup f = some v ∧ Dp K F v d
  | [], [], _, h => by simp at h
  | [], _ :: _, h, _ => h.elim
  | _ :: _, [], h, _ => by simp [FsOk] at h
  | (g, v) :: vs, (g', d') :: ds, ⟨h1, h2, h3⟩, h => by
    subst h1
    rw [List.lookup_cons] at h ⊢
    cases e : (f == g) with
    | true => rw [e] at h; cases h; exact ⟨v, rfl, h2⟩
    | false => rw [e] at h; exact fs_look h3 h
def gIsK (a dd : Addr) (i : Nat) (b : Bool) : M PyData := fun env => match env[i]? with
  | some (.exc a' dd' _) => if a' = a ∧ dd' = dd then some (.ok (.bool b, env)) else none
  | _ => none
def gXf (a dd : Addr) (i : Nat) (f : Str) : M PyData := fun env => match env[i]? with
  | some (.exc a' dd' fs) => if a' = a ∧ dd' = dd then (match fs.lookup f with
    | some d => some (.ok (d, env))
    | none => none) else none
  | _ => none
theorem exc_at {K : PySem.W.Frag} {C : Cn} {F : Hp} {σ : L2.St} {H : Hp} {env : En} {i : Nat} {a dd : Addr} {fs : List (Str × PyData)} (R : Rel K C F σ H env) (h : env[i]? = some (.exc a dd fs)) : σ[i]? = some (some (.ref a)) ∧ ∃ vs, F dd = some (.xd vs) ∧ FsOk K F vs fs := R.sl i _ h
section
variable {X : Cx} {W : WX} {a D dd CS : Addr} {oe : Obj} {pn : List (Addr × Obj)} {x c f : Str} {p p1 p2 pos apos : Pos} {b : Bool} {T : String}
theorem sv_isK (i : Nat) (C : ExcC X.K D) (hz : Zc (.ref D) (some dd) oe) (hf : ∃ vs, oe.data = .fields vs) (hgI : Gl X "isinstance") (hmI : X.mg "isinstance" = none) (hg : Gl X c) (hm : X.mg c = some (.ref CS)) (hk : PySem.W.kitOne X.K (.ref D) (.ref CS) = some b)
    (hN : X.N[i]? = some x := by rfl) (hv : Vis X.env.scope x := by first | exact Or.inl rfl | exact Or.inr (Or.inl rfl) | exact Or.inr (Or.inr rfl)) (hd : (x == ("__debug__" : Str)) = false := by decide) (hcd : (x == ("__classdict__" : Str)) = false := by decide) (hdc : (c == ("__debug__" : Str)) = false := by decide)
    (h1 : starEach [.Name c p2] X.env = (false, eval (.Name c p2) X.env) :: starEach [] X.env := by rfl) (h2 : starEach [.Name x p1, .Name c p2] X.env = (false, eval (.Name x p1) X.env) :: starEach [.Name c p2] X.env := by rfl) (hpl : (backTo pos (starEach [.Name c p2] X.env)).any (·.1) = false := by rfl) :
    SV (X.suite a ((a, oe) :: pn)) W (.Call (.Name "isinstance" p) [.Name x p1, .Name c p2] [] pos) (gIsK a dd i b) :=
  pe_imp (pe_callB (X := X.suite a ((a, oe) :: pn)) (call_isK C hz hf) hgI hmI PyProof.Rows.boot_isinstance (pa_cons (pe_var hN hv hd hcd) (pa_cons (pe_glob (v := .ref CS) hg hm rfl hdc) pa_nil h1) h2) (by decide) (by decide) h2 hpl) fun σ H Q ⟨C, F, env, R, h⟩ => by
    unfold gIsK at h
    split at h
    · rename_i a' dd' fs q
      split at h
      · rename_i e
        obtain ⟨rfl, rfl⟩ := e
        obtain ⟨s1, vs, s2, s3⟩ := exc_at R q
        exact ⟨.ref a', s1, .ref CS, .ref CS, b, vs, rfl, R.fh _ _ s2, fun u hu => hu, hk, aft (ok := okV X.K) h R (.bl b)⟩
      · exact h.elim
    · exact h.elim
theorem sv_isKT (i : Nat) (C : ExcC X.K D) (hz : Zc (.ref D) (some dd) oe) (hf : ∃ vs, oe.data = .fields vs) (hgI : Gl X "isinstance") (hmI : X.mg "isinstance" = none) (hg : Gl X c) (hm : X.mg c = none) (hb : bootBuiltins c = some (.type T)) (hn : c ≠ "__name__") (hk : PySem.W.kitOne X.K (.ref D) (.type T) = some b)
    (hN : X.N[i]? = some x := by rfl) (hv : Vis X.env.scope x := by first | exact Or.inl rfl | exact Or.inr (Or.inl rfl) | exact Or.inr (Or.inr rfl)) (hd : (x == ("__debug__" : Str)) = false := by decide) (hcd : (x == ("__classdict__" : Str)) = false := by decide) (hdc : (c == ("__debug__" : Str)) = false := by decide)
    (h1 : starEach [.Name c p2] X.env = (false, eval (.Name c p2) X.env) :: starEach [] X.env := by rfl) (h2 : starEach [.Name x p1, .Name c p2] X.env = (false, eval (.Name x p1) X.env) :: starEach [.Name c p2] X.env := by rfl) (hpl : (backTo pos (starEach [.Name c p2] X.env)).any (·.1) = false := by rfl) :
    SV (X.suite a ((a, oe) :: pn)) W (.Call (.Name "isinstance" p) [.Name x p1, .Name c p2] [] pos) (gIsK a dd i b) :=
  pe_imp (pe_callB (X := X.suite a ((a, oe) :: pn)) (call_isK C hz hf) hgI hmI PyProof.Rows.boot_isinstance (pa_cons (pe_var hN hv hd hcd) (pa_cons (pe_bltn (v := .ty T) hg hm hb rfl hn hdc) pa_nil h1) h2) (by decide) (by decide) h2 hpl) fun σ H Q ⟨C, F, env, R, h⟩ => by
    unfold gIsK at h
    split at h
    · rename_i a' dd' fs q
      split at h
      · rename_i e
        obtain ⟨rfl, rfl⟩ := e
        obtain ⟨s1, vs, s2, s3⟩ := exc_at R q
        exact ⟨.ref a', s1, .ty T, .type T, b, vs, rfl, R.fh _ _ s2, fun u hu => hu, hk, aft (ok := okV X.K) h R (.bl b)⟩
      · exact h.elim
    · exact h.elim
theorem sv_xf (i : Nat) (T : XfC X.K D) (hno : PySem.W.findIn X.K (.ref D) f = some none) (hz : Zc (.ref D) (some dd) oe) (hf : ∃ vs, oe.data = .fields vs)
    (hN : X.N[i]? = some x := by rfl) (hv : Vis X.env.scope x := by first | exact Or.inl rfl | exact Or.inr (Or.inl rfl) | exact Or.inr (Or.inr rfl)) (hd : (x == ("__debug__" : Str)) = false := by decide) (hcd : (x == ("__classdict__" : Str)) = false := by decide)
    (hb : attributeBase (.Name x p) f X.env (eval (.Name x p) X.env) = eval (.Name x p) X.env := by rfl) :
    SV (X.suite a ((a, oe) :: pn)) W (.Attribute (.Name x p) f pos) (gXf a dd i f) :=
  pe_imp (pe_xf T hno hz hf (pe_var (X := X.suite a ((a, oe) :: pn)) hN hv hd hcd) hb) fun σ H Q ⟨C, F, env, R, h⟩ => by
    unfold gXf at h
    split at h
    · rename_i a' dd' fs q
      split at h
      · rename_i e
        obtain ⟨rfl, rfl⟩ := e
        obtain ⟨s1, vs, s2, s3⟩ := exc_at R q
        cases hl : fs.lookup f with
        | none => rw [hl] at h; exact h.elim
        | some d =>
          rw [hl] at h
          obtain ⟨v, hv, dv⟩ := fs_look s3 hl
          exact ⟨.ref a', s1, rfl, rfl, dd', vs, v, rfl, R.fh _ _ s2, hv, aft (ok := okV X.K) h R dv⟩
      · exact h.elim
    · exact h.elim
end
def EK (K : PySem.W.Frag) (mg : Str → Option Value) (kind : Xc → Option PyData) (Q : VK) : XK := fun cls d H' => ∃ F' x dres, (Ex F' H' ∧ NT F') ∧ XOk K mg F' H' cls d x ∧ kind x = some dres ∧ ∀ F2 H2 v, Exit F' H' [] F2 H2 → Dp K F2 v dres → Q v H2
def TTk (K : PySem.W.Frag) (mg : Str → Option Value) (kind : Xc → Option PyData) : (XK → Hp → VK → Prop) → Hp → VK → Prop := fun tl H Q => tl (EK K mg kind Q) H Q
def envX (n i : Nat) (a dd : Addr) (gs : List (Str × PyData)) : En := (List.replicate n .no).set i (.exc a dd gs)
theorem rel_exc {K : PySem.W.Frag} {F H : Hp} {σ : L2.St} {n i : Nat} {a dd : Addr} {gs : List (Str × PyData)} {vs : List (Str × V)} (hF : Ex F H ∧ NT F) (hl : σ.length = n) (hi : i < n) (h : F dd = some (.xd vs)) (hg : FsOk K F vs gs) : Rel K ⟨F, H, [], []⟩ F (σ.set i (some (.ref a))) H (envX n i a dd gs) where
  fh := hF.1
  nt := hF.2
  cf := Ex.refl _
  new := fun a h1 h2 => absurd h1 h2
  pres := fun a o q _ => q
  bd := fun b hb => by cases hb
  sl := fun j s hs => by
    rcases set_at hs with ⟨rfl, rfl, _⟩ | ⟨ne, hs⟩
    · exact ⟨List.getElem?_set_self (by omega), vs, h, hg⟩
    · rw [List.getElem?_replicate] at hs
      split at hs
      · cases hs; trivial
      · cases hs
  dis := fun j k p ⟨s, e, b, _⟩ _ => by
    rcases set_at e with ⟨rfl, rfl, _⟩ | ⟨ne, e⟩
    · cases b
    · rw [List.getElem?_replicate] at e
      split at e
      · cases e; cases b
      · cases e
  len := by unfold envX; rw [List.length_set, List.length_set, List.length_replicate, hl]
  tb := fun q hq => nomatch hq
theorem takes_len {X : Cx} {W : WX} (tk : Takes X W) : Takes X (fun cls d σ H => σ.length = X.N.length → W cls d σ H) := fun u s' ⟨a, B, sI, pins, σ, H, cls, d, e, I, nb, up, sky, na, os, ag, w⟩ =>
  tk u s' ⟨a, B, sI, pins, σ, H, cls, d, e, I, nb, up, sky, na, os, ag, w I.len⟩
theorem kind_gives {X : Cx} {Ng : List Str} {x a en n q : Str} {sg : Scope} {g CS : Addr} {cdg : Value} {i : Nat} {b₀ : Stmt} {suite : List Stmt} {p1 p2 p3 p4 p6 p8 : Pos} (kind : Xc → Option PyData) (hN : Ng.Nodup) (hi : Ng[i]? = some n) (hln : sg.names.lookup n = some .local)
    (hge : sg.names.lookup en = some .globalImplicit) (hme : X.mg en = some (.ref CS)) (hde : (en == ("__debug__" : Str)) = false) (h0 : ∀ f : Addr, (L2.start Ng [V.ref f])[0]? = some (some (V.ref f)))
    (hsu : ∀ (s : Shared) (H : Hp) (xc : Xc) (dres : PyData) (cls : Value) (dd : Addr) (gs : List (Str × PyData)), kind xc = some dres → X.mg xc.cls = some cls → xc.fs = some gs → PySem.W.exmOne X.K cls (.ref CS) = some true ∧
      ∀ (a : Addr) (oe : Obj) (pn : List (Addr × Obj)), Zc cls (some dd) oe → (∃ vs, oe.data = .fields vs) → ∃ G : S, SSs ((cxOf C8.CX0 X.prog X.w X.K X.mg X.base Ng x sg g cdg X.A X.stack s H C8.E0).nox.suite a ((a, oe) :: pn)) W0 (b₀ :: suite) G ∧ ∃ env', G (envX Ng.length i a dd gs) = some (.rt dres env'))
    (hxc : ∀ xc dres, kind xc = some dres → ∃ gs, xc.fs = some gs) :
    GivesTo X Ng x sg g cdg [.Try [.Return (some (.Call (.Name a p1) [] [] p2)) p3] [.ExceptHandler (some (.Name en p4)) (some n) (b₀ :: suite) p6] [] [] p8] a q (TTk X.K X.mg kind) := by
  intro f c' s H Q tl act hc h
  have hgl : Gl (cxOf C8.CX0 X.prog X.w X.K X.mg X.base Ng x sg g cdg X.A X.stack s H C8.E0).nox en := hge
  have hil : i < Ng.length := (List.getElem?_eq_some_iff.mp hi).1
  refine ⟨_, pss_one (ps_try_as (X := (cxOf C8.CX0 X.prog X.w X.K X.mg X.base Ng x sg g cdg X.A X.stack s H C8.E0).nox) (c := .ref CS) (i := i)
      (tb := fun W D σ H => ∃ Ech : XK, (∀ cls d σ' H', σ'.length = Ng.length → Ech cls d H' → W cls d σ' H') ∧ σ[0]? = some (some (.ref f)) ∧ H c' = some (CodeO c' q) ∧ tl Ech H D.rt)
      (ts := fun a cls d D σ H => ∃ xc dres dd gs F', d = some dd ∧ xc.fs = some gs ∧ X.mg xc.cls = some cls ∧ kind xc = some dres ∧ Rel X.K ⟨F', H, [], []⟩ F' σ H (envX Ng.length i a dd gs) ∧ ∀ F2 H2 v, Exit F' H [] F2 H2 → Dp X.K F2 v dres → D.rt v H2)
      rfl rfl hN hi hln ⟨hgl, hde, .inl hme⟩ L2.takes0 (fun W pn xe tk _ => ?_) (fun a oe cls d pn hz hf => ?_)), ?_⟩
  · refine ⟨fun pins s' σ H' D I h' => ?_⟩
    obtain ⟨Ech, hW, h1, h2, h3⟩ := h'
    have hp := act _ pn xe Ech p1 p2 (takes_len tk) (fun cls d σ' H' e l => hW cls d σ' H' l e)
    have hq := pss_one (ps_ret (pos := p3) hp)
    exact hq.run pins s' σ H' D I ⟨h1, h2, h3⟩
  · refine ⟨fun pins s' σ H' D I h' => ?_⟩
    obtain ⟨xc, dres, dd, gs, F', rfl, e1, e2, e3, R, hq⟩ := h'
    obtain ⟨_, hs⟩ := hsu s H xc dres cls dd gs e3 e2 e1
    obtain ⟨G, hG, env', eG⟩ := hs a oe pn hz hf
    exact hG.run pins s' σ H' D I ⟨_, F', _, R, by rw [eG]; exact fun v σ2 F2 H2 R2 ex dv => hq F2 H2 v R2.exit dv⟩
  · refine ⟨EK X.K X.mg kind Q, fun cls d σ' H' hl ⟨F', xc, dres, hF, ⟨c1, c2⟩, hk, hq⟩ => ?_, h0 f, hc, h⟩
    obtain ⟨gs, egs⟩ := hxc xc dres hk
    rw [egs] at c2
    obtain ⟨dd, vs, ed, eF, hfs⟩ := c2
    subst ed
    obtain ⟨he, _⟩ := hsu s H xc dres cls dd gs hk c1 egs
    exact ⟨true, he, fun _ a ha => ⟨xc, dres, dd, gs, F', rfl, egs, c1, hk, rel_exc hF hl hil eF hfs, hq⟩, fun z => by cases z⟩
end Pf
/-! part PfM -/
set_option Elab.async false
set_option linter.all false
set_option maxRecDepth 100000
set_option maxHeartbeats 4000000
namespace Pf
open PySem PySem.Spec L2 Evl LamX
def noObj (env : En) : Bool := env.all fun s => match s with
  | .obj _ => false
  | _ => true
theorem Rel.extN {K : PySem.W.Frag} {C : Cn} {F : Hp} {σ : L2.St} {H H1 : Hp} {env : En} {i : Nat} {T : List (Addr × Str)} (R : Rel K C F σ H env) (ht : env[i]? = some (.tab T)) (hn : noObj env = true) (e : ExtN H H1) (t1 : Tabs T H1) : Rel K C F σ H1 env := by
  obtain ⟨⟨eT, eB⟩, eH⟩ := R.sl i _ ht
  exact {
    fh := fun a o q => e a o (R.fh a o q) fun ps z => R.nt.tbl a ps (by rw [q, z])
    cf := R.cf
    new := R.new
    pres := fun a o q hb => e a o (R.pres a o q hb) fun ps z => hb (eH a ps (by rw [q, z]))
    bd := fun b hb => by
      refine ⟨?_, (R.bd b hb).2⟩
      obtain ⟨q, hq⟩ := eB b hb
      obtain ⟨ps, h1, _⟩ := t1 _ hq
      rw [h1]; simp
    sl := fun j s hs => by
      have q := R.sl j s hs
      cases s with
      | no => trivial
      | val d => exact q
      | own es => obtain ⟨p', ws, a1, a2, a3, a4, a5⟩ := q; exact ⟨p', ws, a1, a2, a3, e _ _ a4 (fun ps z => by cases z), a5⟩
      | bor es => obtain ⟨p', ws, a1, a2, a3, a4, a5⟩ := q; exact ⟨p', ws, a1, a2, a3, e _ _ a4 (fun ps z => by cases z), a5⟩
      | obj ob =>
        have := List.all_eq_true.mp hn _ (List.mem_of_getElem? hs)
        cases this
      | raw v => exact q
      | exc a dd fs => exact q
      | tab T => exact q
      | lam b ls => exact lamSl_mono (Ex.refl _) (fun c q h => e _ _ h fun ps z => by unfold CodeO at z; cases z) q
    dis := R.dis
    len := R.len
    tb := by rw [eT]; exact t1
    nt := R.nt }
theorem takes_lam {X : Cx} {A : Around} {outer : List PySem.Env} {s : Shared} {H : Hp} {E : XK} {scope : Scope} {f c' : Addr} : Takes (lamCx X A outer s H E scope f c') (WE0 E) :=
  takes_of (X := lamCx X A outer s H E scope f c') (E := E) (E₁ := fun e' s'' => L2.CX X.prog X.w outer H s E e' s'') rfl rfl rfl rfl
def gKind (i : Nat) (T : List (Addr × Str)) (kind : Xc → Option PyData) (gB : M PyData) : M PyData := fun env => match env[i]? with
  | some (.tab T') => if T' = T ∧ noObj env = true then (match gB env with
    | some (.ok r) => some (.ok r)
    | some (.error (x, env')) => (match kind x with
      | some d => some (.ok (d, env'))
      | none => none)
    | none => none) else none
  | _ => none
section
variable {X : Cx} {W : WX}
theorem sv_lam {T : List (Addr × Str)} {kind : Xc → Option PyData} {gB : M PyData} {x a : Str} {g c P : Addr} {k : Nat} {pg : Arguments} {bg : List Stmt} {sg : Scope} {dV kV doc pm cdv ct oc : Value} {an od : Option Addr} {osl : Array (Option Value)} {Ng : List Str}
    {params : Arguments} {body : Expr} {scope : Scope} {p lpos pos : Pos} (i : Nat) (hg : Gl X x) (hm : X.mg x = some (.ref g)) (hk : PySem.W.keepIn X.K (.ref g) = true)
    (lk : X.K.lookup g = some ⟨oc, od, .func (PySem.W.fnOf x x pg bg sg dV kV doc pm an cdv ct), osl⟩) (hcg : PySem.W.codeIn X.K cdv x = true) (hb : L2.Binds X.K (PySem.W.fnOf x x pg bg sg dV kV doc pm an cdv ct) [a] []) (Sg : FnScope Ng [a] sg) (hNg : Ng[0]? = some a) (hva : Vis sg a)
    (hG : GivesTo X Ng x sg g cdv bg a (X.env.qual ++ "<lambda>") (TTk X.K X.mg kind))
    (TB : TabB X.base X.mg c P) (hcode : X.env.code = .ref c) (hmT : (P, X.env.qual ++ "<lambda>") ∈ T) (hu : ∀ p ∈ T, p.1 = P → p.2 = X.env.qual ++ "<lambda>") (hr : Room (k + 2) X.A) (L : LamS X.env.scope scope) (hdef : defaultsOf params X.env = ([], []))
    (hbind : ∀ (q : Str) (cl : List (Str × Addr)) (pm cv ctv : Value), bindArgs (PySem.W.kla_fn "<lambda>" q params body scope cl pm cv ctv) ⟨[], []⟩ = pure [])
    (hbody : ∀ (A : Around) (outer : List PySem.Env) (s : Shared) (H : Hp) (E : XK) (f c' : Addr), Room k (A.deeper (lamEnv X scope s.heap.objs.size f c')) → SV (lamCx X A outer s H E scope f c') (WE0 E) body gB)
    (hdb : (x == ("__debug__" : Str)) = false := by decide) (hd : (a == ("__debug__" : Str)) = false := by decide) (hcd : (a == ("__classdict__" : Str)) = false := by decide) :
    SV X W (.Call (.Name x p) [.Lambda params body scope lpos] [] pos) (gKind i T kind gB) :=
  pe_imp (pe_lamcall (T := T) (TT := TTk X.K X.mg kind) (t := fun E => tG X.K X.mg (okV X.K) (WE0 E) gB) hg hm hk lk hcg hb Sg hNg hva hG TB hcode hmT hu hr L hdef hbind (fun A outer s H E f c' hr' => hbody A outer s H E f c' hr') hdb hd hcd) fun σ H Q ⟨C, F, env, R, h⟩ => by
    unfold gKind at h
    split at h
    · rename_i T' q
      split at h
      · rename_i hc
        obtain ⟨rfl, hn⟩ := hc
        obtain ⟨⟨eT, eB⟩, eH⟩ := R.sl i _ q
        refine ⟨by rw [← eT]; exact R.tb, fun H1 ex t1 => ?_⟩
        refine ⟨C, F, env, R.extN q hn ex t1, ?_⟩
        cases hq : gB env with
        | none => rw [hq] at h; exact h.elim
        | some r =>
          rw [hq] at h
          cases r with
          | ok z => exact h
          | error z =>
            obtain ⟨xc, env'⟩ := z
            simp only at h
            cases hkx : kind xc with
            | none => rw [hkx] at h; exact h.elim
            | some d =>
              rw [hkx] at h
              exact fun F' H' cls dx R' e xo => ⟨F', xc, d, ⟨R'.fh, R'.nt⟩, xo, hkx, fun F2 H2 v x dv => h v F2 H2 (R'.call x) (e.trans x.ff) dv⟩
      · exact h.elim
    · exact h.elim
end
end Pf
/-! part PfN -/
set_option Elab.async false
set_option linter.all false
set_option maxRecDepth 100000
set_option maxHeartbeats 2000000
namespace Pf
open PySem PySem.Spec L2 Evl
def gLk (i : Nat) : M PyData := fun env => match env[i]? with
  | some (.own ds) => some (.ok (.list ds, env))
  | some (.bor ds) => some (.ok (.list ds, env))
  | some (.val d) => some (.ok (d, env))
  | _ => none
theorem bd_lk {K : PySem.W.Frag} {mg : Str → Option Value} {W : WX} {C : Cn} {F : Hp} {σ : L2.St} {H : Hp} {env : En} {i : Nat} {γ δ : Type} {ok : OkR γ δ} {f : PyData → M γ} {Q : δ → Hp → Prop} (R : Rel K C F σ H env) (h : After K mg ok W C F σ (M.bd (gLk i) f env) Q) :
    ∃ v d, σ[i]? = some (some v) ∧ Dp K H v d ∧ After K mg ok W C F σ (f d env) Q := by
  unfold M.bd gLk at h
  cases q : env[i]? with
  | none => rw [q] at h; exact h.elim
  | some s =>
    rw [q] at h
    cases s with
    | own ds => obtain ⟨p, vs, a1, _, _, a4, a5⟩ := R.sl i _ q; exact ⟨.ref p, .list ds, a1, .lst (SqL.of a4) (dps_mono R.fh a5), h⟩
    | bor ds => obtain ⟨p, vs, a1, _, _, a4, a5⟩ := R.sl i _ q; exact ⟨.ref p, .list ds, a1, .lst (SqL.of a4) (dps_mono R.fh a5), h⟩
    | val d => obtain ⟨v, a1, a2⟩ := R.sl i _ q; exact ⟨v, d, a1, dp_mono R.fh a2, h⟩
    | _ => exact h.elim
def gTstL (f : PyData → PyData → Option Bool) (i : Nat) (gb : M PyData) : M Bool := M.bd (gLk i) fun _ => M.bd gb fun e => M.bd (gLk i) fun d => M.opt (f d e)
section
variable {X : Cx} {W : WX} {b : Expr} {gb : M PyData} {pos p : Pos} {x : Str}
theorem st_neL (i : Nat) (hu : X.A.units + 64 < cLine) (hb : SV X W b gb) (hN : X.N[i]? = some x := by rfl) (hv : Vis X.env.scope x := by first | exact Or.inl rfl | exact Or.inr (Or.inl rfl) | exact Or.inr (Or.inr rfl))
    (hd : (x == ("__debug__" : Str)) = false := by decide) (hcd : (x == ("__classdict__" : Str)) = false := by decide) (hm : behindInMarks .NotEq b = false := by rfl) : ST X W (.Compare (.Name x p) [.NotEq] [b] pos) (gTstL neD i gb) :=
  pt_imp (pt_cmpR (op_neD hu) (pe_var hN hv hd hcd) hb hm) fun σ H Q ⟨C, F, env, R, h⟩ => by
    obtain ⟨v, d0, a1, _, h1⟩ := bd_lk R h
    refine ⟨v, a1, tG_bd R h1 fun e env2 w F2 H2 R2 e2 o2 h2 => ?_⟩
    obtain ⟨v', d, b1, b2, h3⟩ := bd_lk R2 h2
    rw [a1] at b1
    cases b1
    obtain ⟨k, hk, h4⟩ := h3.of_opt
    unfold neD at hk
    split at hk
    · rename_i hs; cases hk
      exact ⟨d, e, b2, dp_mono R2.fh o2, hs.1, hs.2, _, rfl, aft (ok := okB) h4 R2 rfl⟩
    · cases hk
end
end Pf
/-! part PfV -/
set_option Elab.async false
set_option linter.all false
set_option maxRecDepth 100000
set_option maxHeartbeats 1000000
namespace Pf
open PySem PySem.Spec L2 Evl
section
variable {env env1 env2 : En} {i : Nat} {ds ds1 st st' : List PyData} {d x : PyData}
theorem held_own (h : env[i]? = some (.own ds)) : gHeld i env = some (.ok (ds, env)) := by unfold gHeld; rw [h]
theorem held_bor (h : env[i]? = some (.bor ds)) : gHeld i env = some (.ok (ds, env)) := by unfold gHeld; rw [h]
theorem peek_own (h : env[i]? = some (.own ds)) : gPeek i env = some (.ok (ds, env)) := by unfold gPeek; rw [h]
theorem peek_lst (h : env[i]? = some (.val (.list ds))) : gPeek i env = some (.ok (ds, env)) := by unfold gPeek; rw [h]
theorem peek_tup (h : env[i]? = some (.val (.tuple ds))) : gPeek i env = some (.ok (ds, env)) := by unfold gPeek; rw [h]
theorem put_own (h : env[i]? = some (.own ds)) (es : List PyData) : gPut i es env = some (.ok ((), env.set i (.own es))) := by unfold gPut; rw [h]; rfl
theorem put_bor (h : env[i]? = some (.bor ds)) (es : List PyData) : gPut i es env = some (.ok ((), env.set i (.bor es))) := by unfold gPut; rw [h]; rfl
theorem bd_ok {α β : Type} {m : M α} {f : α → M β} {a : α} (h : m env = some (.ok (a, env1))) : M.bd m f env = f a env1 := by unfold M.bd; rw [h]
theorem gE_ok {α : Type} {m : M α} {f : α → S} {a : α} (h : m env = some (.ok (a, env1))) : gE m f env = f a env1 := by unfold gE; rw [h]
theorem seq_nx {g h : S} (e : g env = some (.nx env1)) : gSeq g h env = h env1 := by unfold gSeq; rw [e]
theorem opt_ok {α : Type} {o : Option α} {a : α} (h : o = some a) : M.opt o env = some (.ok (a, env)) := by unfold M.opt; rw [h]
theorem lenP_own (h : env[i]? = some (.own ds)) : gLenP i env = some (.ok (.int ds.length, env)) := by unfold gLenP; rw [bd_ok (peek_own h)]; rfl
theorem n_val (h : env[i]? = some (.val d)) : gN i env = some (.ok (d, env)) := by unfold gN; rw [h]
theorem n_own (h : env[i]? = some (.own ds)) : gN i env = some (.ok (.list ds, env.set i (.val (.list ds)))) := by unfold gN; rw [h]
theorem callB_bor {α : Type} {gl : M (List PyData)} {m : List PyData → List PyData → Rf (α × List PyData)} {as : List PyData} {a : α} (h0 : env[i]? = some (.bor st)) (h1 : gl env = some (.ok (as, env1))) (h2 : env1[i]? = some (.bor ds)) (h3 : m ds as = some (.ok (a, st'))) : gCallB i gl m env = some (.ok (a, env1.set i (.bor st'))) := by
  unfold gCallB
  rw [bd_ok (held_bor h0), bd_ok h1, bd_ok (held_bor h2)]
  simp only [h3]
  rw [bd_ok (put_bor h2 st')]
  rfl
theorem callB_own {α : Type} {gl : M (List PyData)} {m : List PyData → List PyData → Rf (α × List PyData)} {as : List PyData} {a : α} (h0 : env[i]? = some (.own st)) (h1 : gl env = some (.ok (as, env1))) (h2 : env1[i]? = some (.own ds)) (h3 : m ds as = some (.ok (a, st'))) : gCallB i gl m env = some (.ok (a, env1.set i (.own st'))) := by
  unfold gCallB
  rw [bd_ok (held_own h0), bd_ok h1, bd_ok (held_own h2)]
  simp only [h3]
  rw [bd_ok (put_own h2 st')]
  rfl
theorem popAt_own {gb : M PyData} {k : Nat} (h0 : env[i]? = some (.own ds)) (h1 : gb env = some (.ok (.int k, env1))) (h2 : env1[i]? = some (.own ds1)) (hk : k < ds1.length) (hl : ds1.length ≤ 16777216) (hx : ds1[k]? = some x) : gPopAt i gb env = some (.ok (x, env1.set i (.own (ds1.eraseIdx k)))) := by
  have hb : -(2 ^ 63) ≤ (k : Int) ∧ (k : Int) < 2 ^ 63 := by omega
  have hs : seqIndex? (k : Int) ds1.length = some k := (ixN_seq (ixN_nat hk)).1
  unfold gPopAt
  rw [bd_ok (held_own h0), bd_ok h1, bd_ok (held_own h2)]
  simp only
  rw [if_pos hb]
  simp only [hs, hx]
  rw [bd_ok (put_own h2 _)]
  rfl
theorem app_own {gb : M PyData} (h0 : env[i]? = some (.own ds)) (h1 : gb env = some (.ok (x, env1))) (h2 : env1[i]? = some (.own ds1)) (hl : ds1.length < 16777216) : gApp i gb env = some (.nx (env1.set i (.own (ds1 ++ [x])))) := by
  unfold gApp
  rw [gE_ok (held_own h0), gE_ok h1, gE_ok (held_own h2), if_pos hl, gE_ok (put_own h2 _)]
  rfl
theorem setIx_own {gv gi : M PyData} {k : Nat} (h0 : gv env = some (.ok (x, env1))) (h1 : env1[i]? = some (.own ds)) (h2 : gi env1 = some (.ok (.int k, env2))) (h3 : env2[i]? = some (.own ds1)) (hk : k < ds1.length) : gSetIx i gv gi env = some (.nx (env2.set i (.own (ds1.set k x)))) := by
  unfold gSetIx
  rw [gE_ok h0, gE_ok (held_own h1), gE_ok h2, gE_ok (held_own h3)]
  simp only [ixN_nat hk]
  rw [gE_ok (put_own h3 _)]
  rfl
theorem ixP_own {gb : M PyData} {k : Nat} (h0 : env[i]? = some (.own ds)) (h1 : gb env = some (.ok (.int k, env1))) (h2 : env1[i]? = some (.own ds1)) (hx : ds1[k]? = some x) : gIxP i gb env = some (.ok (x, env1)) := by
  unfold gIxP
  rw [bd_ok (peek_own h0), bd_ok h1, bd_ok (peek_own h2)]
  exact opt_ok (atI_nat hx)
theorem ixP_tup {gb : M PyData} {k : Nat} (h0 : env[i]? = some (.val (.tuple ds))) (h1 : gb env = some (.ok (.int k, env1))) (h2 : env1[i]? = some (.val (.tuple ds1))) (hx : ds1[k]? = some x) : gIxP i gb env = some (.ok (x, env1)) := by
  unfold gIxP
  rw [bd_ok (peek_tup h0), bd_ok h1, bd_ok (peek_tup h2)]
  exact opt_ok (atI_nat hx)
end
theorem repD_nat {ds : List PyData} {c : Nat} (h : ds.length * c ≤ 16777216) (h2 : c < 1000000) : repD ds (.int c) = some (List.replicate c ds).flatten := by
  unfold repD
  simp only
  rw [if_pos ⟨by omega, by omega, by rw [Int.toNat_natCast]; exact h⟩, Int.toNat_natCast]
theorem fnB_rt {G : S} {N : Nat} {st ds st' : List PyData} {d : PyData} {r : En} (h : G (envB N st ds) = some (.rt d (.bor st' :: r))) : fnB G N st ds = some (.ok (d, st')) := by unfold fnB; rw [h]
theorem fnD_rt {G : S} {N : Nat} {ds : List PyData} {d : PyData} {r : En} (h : G (envD N ds) = some (.rt d r)) : fnD G N ds = some (.ok d) := by unfold fnD; rw [h]
theorem fnD_nx {G : S} {N : Nat} {ds : List PyData} {r : En} (h : G (envD N ds) = some (.nx r)) : fnD G N ds = some (.ok .none) := by unfold fnD; rw [h]
theorem fnD_er {G : S} {N : Nat} {ds : List PyData} {x : Xc} {r : En} (h : G (envD N ds) = some (.er x r)) : fnD G N ds = some (.error x) := by unfold fnD; rw [h]
end Pf
/-! part PfQ1 -/
set_option Elab.async false
set_option linter.all false
set_option maxRecDepth 100000
set_option maxHeartbeats 2000000
namespace Pf
open PySem PySem.Spec L2 Evl
def Yields (K : PySem.W.Frag) (J : It) (F1 : Hp) (ds : List PyData) : Prop := ∀ (C : Cn) (F H : Hp) (σ : L2.St) (env : En) (i : Nat), Rel K C F σ H env → Ex F1 F →
  (i = ds.length → J.stop i H) ∧ ∀ d, ds[i]? = some d → J.go i H ∧ ∀ v H', J.yld i H v H' → ∃ F', Rel K C F' σ H' env ∧ Ex F F' ∧ Dp K F' v d
abbrev okY (K : PySem.W.Frag) : OkR (List PyData) It := fun _ F _ _ _ ds J => Yields K J F ds
end Pf
/-! part PfQ2 -/
set_option Elab.async false
set_option linter.all false
set_option maxRecDepth 100000
set_option maxHeartbeats 2000000
namespace Pf
open PySem PySem.Spec L2 Evl
end Pf
/-! part PfQ3 -/
set_option Elab.async false
set_option linter.all false
set_option maxRecDepth 100000
set_option maxHeartbeats 2000000
namespace Pf
open PySem PySem.Spec L2 Evl
section
variable {X : Cx} {W : WX} {a e : Expr} {es : List Expr} {lo hi : Option Expr} {ga gd : M PyData} {gl gh : M (Option Int)} {gs : M (List PyData)} {pos p1 p2 p3 apos kpos : Pos} {x : Str}
def okP : OkR (Option Int) (Option Int) := fun _ _ _ _ _ a b => b = a
abbrev SPt (X : Cx) (W : WX) (e : Option Expr) (g : M (Option Int)) : Prop := PO X e (tG X.K X.mg okP W g)
def gPt (ga : M PyData) : M (Option Int) := M.bd ga fun d => match d with
  | .int i => M.ok (some i)
  | _ => M.no
def gNoPt : M (Option Int) := M.ok none
theorem spt_no : SPt X W none gNoPt := po_imp po_none fun σ H Q ⟨C, F, env, R, h⟩ => h none F H R (Ex.refl _) rfl
theorem spt_is (h : SV X W e ga) : SPt X W (some e) (gPt ga) := po_imp (po_some h) fun σ H Q ⟨C, F, env, R, h⟩ => tG_bd R h fun d env1 v F1 H1 R1 e1 o1 h1 => by
  cases o1 with
  | int i => exact ⟨i, rfl, h1 (some i) F1 H1 R1 (Ex.refl _) rfl⟩
  | _ => exact h1.elim
def slT (d : PyData) (lo hi : Option Int) : Option PyData := match d with
  | .tuple ds => some (.tuple (cutD ds lo hi))
  | _ => none
abbrev gSlT (ga : M PyData) (gl gh : M (Option Int)) : M PyData := M.bd ga fun d => M.bd gl fun lo => M.bd gh fun hi => M.opt (slT d lo hi)
theorem cutD_whole {ds : List PyData} {lo hi : Option Int} (h : HT.sIx ds.length 0 lo = 0 ∧ HT.sIx ds.length ds.length hi = ds.length) : cutD ds lo hi = ds := by
  unfold cutD
  rw [h.1, h.2, List.drop_zero, Nat.sub_zero, List.take_length]
theorem sv_slT (ha : SV X W a ga) (hl : SPt X W lo gl) (hh : SPt X W hi gh) : SV X W (.Subscript a (.Slice lo hi none p2) pos) (gSlT ga gl gh) :=
  pe_imp (pe_slice sl_cutF ha hl hh) fun σ H Q ⟨C, F, env, R, h⟩ => tG_bd R h fun d env1 v F1 H1 R1 e1 o1 h1 => by
    refine tG_bd R1 h1 fun lo env2 lo' F2 H2 R2 e2 o2 h2 => ?_
    cases o2
    refine tG_bd R2 h2 fun hi env3 hi' F3 H3 R3 e3 o3 h3 => ?_
    cases o3
    obtain ⟨r, hr, h4⟩ := After.of_opt h3
    cases o1 with
    | @tup p vs ds s r1 =>
      cases hr
      have s3 := ex_t (e2.trans e3) s
      have r3 := dps_mono (e2.trans e3) r1
      refine ⟨_, vs, rfl, ex_t R3.fh s3, fun hw => ?_, fun hw p ob hob hp => ?_⟩
      · rw [r1.len] at hw
        rw [cutD_whole hw] at h4
        exact aft (ok := okV X.K) h4 R3 (.tup s3 r3)
      · have hf := (R3.fresh hp).1
        have exn : Ex F3 (upd F3 p (.frz ob (.tup (cutV vs lo hi)))) := Ex.new hf
        exact aft' (ok := okV X.K) h4 (R3.newF hp hob) exn (.tup (.inl (.inr ⟨ob, upd_same⟩)) (cut_dps lo hi (dps_mono exn r3)))
    | _ => cases hr
end
end Pf
namespace Pf
open PySem PySem.Spec L2 Evl
end Pf
/-! part PfQ4 -/
set_option Elab.async false
set_option linter.all false
set_option maxRecDepth 100000
set_option maxHeartbeats 2000000
namespace Pf
open PySem PySem.Spec L2 Evl
end Pf
/-! part PfQ5 -/
set_option Elab.async false
set_option linter.all false
set_option maxRecDepth 100000
set_option maxHeartbeats 2000000
namespace Pf
open PySem PySem.Spec L2 Evl
end Pf
/-! part PfQ6 -/
set_option Elab.async false
set_option linter.all false
set_option maxRecDepth 100000
set_option maxHeartbeats 4000000
namespace Pf
open PySem PySem.Spec PyProof.Rows L2 Evl
def KT (K : PySem.W.Frag) : Prop := ∀ p o, K.lookup p = some o → o.cls = .type "tuple" → o.dict = none ∧ o.slots = #[]
end Pf
/-! part PfQ7 -/
set_option Elab.async false
set_option linter.all false
set_option maxRecDepth 100000
set_option maxHeartbeats 4000000
namespace Pf
open PySem PySem.Spec PyProof.Rows L2 Evl
section
variable {X : Cx} {W : WX} {e : Expr} {ga : M PyData} {x : Str} {p1 p2 pos apos : Pos}
theorem tup_at {K : PySem.W.Frag} {C : Cn} {F G : Hp} {σ : L2.St} {env : En} {p : Addr} {ws : List V} {ds : List PyData} (kt : KT K) (R : Rel K C F σ G env) (s : SqT K F p ws) (r : DpAll K F ws ds) (hn : ds.all (fun d => !looseP d) = true) :
    ∃ ob, (G p = some (.frz ob (.tup ws)) ∨ (K.lookup p = some ob ∧ SqT K G p ws)) ∧ ob.dict = none ∧ ob.slots = #[] := by
  have s0 := ex_t R.fh s
  rcases s with (h | ⟨ob, h⟩) | ⟨ob, its, n, h, hc, _⟩
  · have z : ws.any looseV = true := R.nt p _ h
    obtain ⟨w, hw, hl⟩ := List.any_eq_true.mp z
    obtain ⟨i, hi, e⟩ := List.mem_iff_getElem.mp hw
    have hi' : i < ds.length := by rw [← r.len]; exact hi
    obtain ⟨w', hw', dw⟩ := r.get (List.getElem?_eq_getElem hi')
    rw [List.getElem?_eq_getElem hi] at hw'
    cases hw'
    have hd := List.all_eq_true.mp hn _ (List.getElem_mem hi')
    rw [e] at dw
    generalize ds[i] = d at dw hd
    cases dw <;> first | (simp [looseP] at hd; done) | (simp [looseV] at hl; done)
  · exact ⟨ob, .inl (R.fh p _ h), (R.nt p _ h).1, (R.nt p _ h).2⟩
  · exact ⟨ob, .inr ⟨h, s0⟩, (kt p ob h hc).1, (kt p ob h hc).2⟩
end
end Pf
/-! part PfX3 -/
set_option Elab.async false
set_option linter.all false
set_option maxRecDepth 100000
set_option maxHeartbeats 4000000
namespace Pf
open PySem PySem.Spec PyProof.Rows L2 Evl
structure XNo (K : PySem.W.Frag) (mg : Str → Option Value) (x : Str) (C : Addr) : Prop where
  g : mg x = some (.ref C)
  ex : PySem.W.excIn K C [.type "ValueError", .type "Exception", .type "BaseException", .type "object"] "ValueError.__new__" = true
  kC : PySem.W.keepIn K (.ref C) = true
  sub : PySem.W.subIn K (.ref C) (.type "BaseException") = some true
  ty : PySem.W.typeIn K (.ref C) = some (.type "type")
end Pf
/-! part PfQ8 -/
set_option Elab.async false
set_option linter.all false
set_option maxRecDepth 100000
set_option maxHeartbeats 4000000
namespace Pf
open PySem PySem.Spec L2 Evl
end Pf
/-! part PfL0 -/
set_option Elab.async false
set_option linter.all false
set_option maxRecDepth 100000
set_option maxHeartbeats 4000000
namespace Pf
open PySem PySem.Spec L2 Evl LamX
end Pf
/-! part PfSC -/
set_option Elab.async false
set_option linter.all false
set_option maxRecDepth 100000
set_option maxHeartbeats 4000000
namespace Pf
open PySem PySem.Spec PyProof.Rows L2 Evl
section
variable {K : PySem.W.Frag} {mg : Str → Option Value} {w : World} {W : WX} {C : Cn} {F F0 F1 H H0 H1 : Hp} {σ σ0 : L2.St} {env env0 env1 : En} {vs : List Nat}
def inN (k : Int) : Prop := 0 ≤ k ∧ k < 63
instance (k : Int) : Decidable (inN k) := inferInstanceAs (Decidable (0 ≤ k ∧ k < 63))
theorem one_more {p : Int → Bool} {z : Int} : ∀ {L : List Int}, L.Nodup → z ∈ L → (L.filter fun j => p j || decide (j = z)).length = if p z = true then (L.filter p).length else (L.filter p).length + 1 := by
  have none : ∀ {L : List Int}, z ∉ L → (L.filter fun j => p j || decide (j = z)) = L.filter p := by
    intro L hz
    apply List.filter_congr
    intro j hj
    have : j ≠ z := fun e => hz (e ▸ hj)
    simp [this]
  intro L
  induction L with
  | nil => intro _ h; cases h
  | cons y r ih =>
    intro nd hz
    obtain ⟨h1, h2⟩ := List.nodup_cons.mp nd
    by_cases e : y = z
    · subst e
      cases q : p y with
      | true => simp [q, none h1]
      | false => simp [q, none h1]
    · have hr : z ∈ r := by rcases List.mem_cons.mp hz with h | h; exact absurd h.symm e; exact h
      have i := ih h2 hr
      cases q : p y with
      | true =>
        simp only [List.filter_cons, q, Bool.true_or, if_true, List.length_cons, i]
        split <;> rfl
      | false =>
        simp only [List.filter_cons, q, e, decide_false, Bool.or_false, Bool.false_eq_true, if_false, i]
variable {b : PyData → En → Option En} {gt : M Bool} {ge : M PyData} {ds : List PyData}
end
end Pf
/-! part PfSD -/
set_option Elab.async false
set_option linter.all false
set_option maxRecDepth 100000
set_option maxHeartbeats 4000000
namespace Pf
open PySem PySem.Spec PyProof.Rows L2 Evl
end Pf
/-! part PfZ -/
set_option Elab.async false
set_option linter.all false
set_option maxRecDepth 100000
set_option maxHeartbeats 4000000
namespace Pf
open PySem PySem.Spec PyProof.Rows L2 Evl
structure Src (P : Program) (w : World) (i l : Addr) (At : Nat → Heap → Prop) (Is : Heap → Prop) (xs : Array Value) : Prop where
  keepAt : ∀ {k : Nat} {h h' : Heap}, At k h → (∀ o, h.get? i = some o → h'.get? i = some o) → At k h'
  keepIs : ∀ {h h' : Heap}, Is h → (∀ o, h.get? l = some o → h'.get? l = some o) → Is h'
  item : ∀ {A : Around} {E Q : Value → Shared → Prop} {s : Shared} {k : Nat} {x : Value}, At k s.heap → Is s.heap → xs[k]? = some x → (∀ h', At (k + 1) h' → Heap.SameBut i s.heap h' → Q x { s with heap := h' }) →
    wpAny (model P w) A (Builtin.SmallTypes.nextOf (.ref i)) Q E s
  stop : ∀ {A : Around} {E Q : Value → Shared → Prop} {s : Shared} {k : Nat}, A.handled = none → At k s.heap → Is s.heap → xs[k]? = none →
    (∀ h' e, Heap.ExtBut i s.heap h' → (∃ o, h'.get? e = some o ∧ o.cls = .type "StopIteration") → E (.ref e) { s with heap := h' }) → wpAny (model P w) A (Builtin.SmallTypes.nextOf (.ref i)) Q E s
end Pf
/-! part PfSE -/
set_option Elab.async false
set_option linter.all false
set_option maxRecDepth 100000
set_option maxHeartbeats 4000000
namespace Pf
open PySem PySem.Spec PyProof.Rows L2 Evl
end Pf
/-! part PfD1 -/
set_option Elab.async false
set_option linter.all false
set_option maxRecDepth 100000
set_option maxHeartbeats 4000000
namespace Pf
open PySem PySem.Spec PyProof.Rows L2 Evl
end Pf
/-! part PfD2 -/
set_option Elab.async false
set_option linter.all false
set_option maxRecDepth 100000
set_option maxHeartbeats 4000000
namespace Pf
open PySem PySem.Spec PyProof.Rows L2 Evl
def mulOk (a b : Int) : Prop := (-(2 ^ 64) < a ∧ a < 2 ^ 64) ∨ (-(2 ^ 64) < b ∧ b < 2 ^ 64)
instance (a b : Int) : Decidable (mulOk a b) := inferInstanceAs (Decidable (_ ∨ _))
def wovC (many here more there : Int) (D : List (Int × Int)) : Prop := mulOk here there ∧ mulOk (here * there) (PySem.W.mcComb (many + more) more) ∧ (0 ≤ many + more ∧ 0 ≤ more ∧ many + more ≤ 18000) ∧ D.length < 1000000
instance (a b c d : Int) (D : List (Int × Int)) : Decidable (wovC a b c d D) := inferInstanceAs (Decidable (_ ∧ _))
section
variable {K : PySem.W.Frag}
structure Wo (H0 : Hp) (p q b : Addr) (x y : HO) (D : List (Int × Int)) (σ : L2.St) (H : Hp) : Prop where
  len : σ.length = 8
  s0 : σ[0]? = some (some (.ref p))
  s1 : σ[1]? = some (some (.ref q))
  s2 : σ[2]? = some (some (.ref b))
  hp : H p = some x
  hq : H q = some y
  hb : H b = some (.dK (dkI D))
  old : ∀ a o, a ≠ p → a ≠ q → H0 a = some o → H a = some o
  pq : p ≠ q
  pb : p ≠ b
  qb : q ≠ b
  fb : H0 b = none
variable {H0 H : Hp} {p q b : Addr} {x y : HO} {D : List (Int × Int)} {σ : L2.St}
theorem Wo.new (w : Wo H0 p q b x y D σ H) {T : Addr} {o : HO} (h : H T = none) : Wo H0 p q b x y D σ (upd H T o) := by
  have n : ∀ a u, H a = some u → a ≠ T := fun a u e z => by subst z; rw [h] at e; cases e
  exact { w with
    hp := by rw [upd_ne (n _ _ w.hp)]; exact w.hp
    hq := by rw [upd_ne (n _ _ w.hq)]; exact w.hq
    hb := by rw [upd_ne (n _ _ w.hb)]; exact w.hb
    old := fun a u n1 n2 e => by rw [upd_ne (n _ _ (w.old a u n1 n2 e))]; exact w.old a u n1 n2 e }
theorem Wo.slot (w : Wo H0 p q b x y D σ H) {i : Nat} (v : V) (hi : 3 ≤ i) : Wo H0 p q b x y D (σ.set i (some v)) H := { w with
  len := by rw [List.length_set]; exact w.len
  s0 := by rw [List.getElem?_set_ne (by omega)]; exact w.s0
  s1 := by rw [List.getElem?_set_ne (by omega)]; exact w.s1
  s2 := by rw [List.getElem?_set_ne (by omega)]; exact w.s2 }
end
end Pf
/-! part PfD3 -/
set_option Elab.async false
set_option linter.all false
set_option maxRecDepth 100000
set_option maxHeartbeats 4000000
namespace Pf
open PySem PySem.Spec PyProof.Rows L2 Evl
end Pf
/-! part PfP2 -/
set_option Elab.async false
set_option linter.all false
set_option maxRecDepth 100000
set_option maxHeartbeats 4000000
namespace Pf
open PySem PySem.Spec PyProof.Rows L2 Evl
end Pf
/-! part PfP3 -/
set_option Elab.async false
set_option linter.all false
set_option maxRecDepth 100000
set_option maxHeartbeats 4000000
namespace Pf
open PySem PySem.Spec PyProof.Rows L2 Evl
end Pf
/-! part PfT1 -/
set_option Elab.async false
set_option linter.all false
set_option maxRecDepth 100000
set_option maxHeartbeats 4000000
namespace Pf
open PySem PySem.Spec PyProof.Rows L2 Evl
end Pf
/-! part RdC -/
set_option Elab.async false
set_option linter.all false
set_option maxRecDepth 100000
set_option maxHeartbeats 4000000
namespace Q
open PySem PySem.Spec L2 Evl Pf
def G_is_number : S :=
  (gRet (gAnd (gIsa "int" (gN 0)) (gNot (gIsa "bool" (gN 0)))))
def m_is_number : List PyData → Rf PyData := fnD G_is_number 1
def G_is_place : S :=
  (gRet (gAnd (gCall m_is_number (gCons (gN 0) gNil)) (gChain (gC (.int 0)) (gN 0) (gN 1) (cmpD fun i j => decide (i ≤ j)) (cmpD fun i j => decide (i < j)))))
def m_is_place : List PyData → Rf PyData := fnD G_is_place 2
def G_is_price : S :=
  (gRet (gOr (gCmp isD (gN 0) (gC .none)) (gAnd (gCall m_is_number (gCons (gN 0) gNil)) (gChain (gC (.int 1)) (gN 0) (gC (.int 99)) (cmpD fun i j => decide (i ≤ j)) (cmpD fun i j => decide (i ≤ j))))))
def m_is_price : List PyData → Rf PyData := fnD G_is_price 1
def b1_lot_of : S :=
  (gIfS (gTst inD (gN 1) (gN 3)) (gRet (gN 2)) gNx)
def G_lot_of : S :=
  (gSeq (gForET (gN 0) (bTup 2 (bCons (bN 2) (bCons (bN 3) bNil))) b1_lot_of)
  (gRet (gC .none)))
def m_lot_of : List PyData → Rf PyData := fnD G_lot_of 4
def b1_wrong_price : S :=
  (gIfS (gOrT (gTst eqD (gN 1) (gC (.int 12))) (gNotT (gTru (gCall m_is_price (gCons (gN 2) gNil))))) (gRet (gN 1)) gNx)
def G_wrong_price : S :=
  (gSeq (gIfS (gOrT (gNotT (gTru (gIsa "tuple" (gN 0)))) (gTst eqD (gLenP 0) (gC (.int 0)))) (gRet (gC (.int 0))) gNx)
  (gSeq (gForET (gN 0) (bTup 2 (bCons (bN 1) (bCons (bN 2) bNil))) b1_wrong_price)
  (gRet (gC .none))))
def m_wrong_price : List PyData → Rf PyData := fnD G_wrong_price 3
def b1_wrong_lot : S :=
  (gSeq (gIfS (gOrT (gNotT (gTru (gCall m_is_place (gCons (gN 7) (gCons (gN 1) gNil))))) (gHasS 4 (gN 7))) (gRet (gN 5)) gNx)
  (gAddS 4 (gN 7)))
def b2_wrong_lot : S :=
  (gSeq (gIfS (gOrT (gTst eqD (gN 5) (gN 3)) (gNotT (gTru (gIsa "tuple" (gN 6))))) (gRet (gN 5)) gNx)
  (gForT (gN 6) (bN 7) b1_wrong_lot))
def G_wrong_lot : S :=
  (gSeq (gIfS (gNotT (gTru (gIsa "tuple" (gN 0)))) (gRet (gC (.int 0))) gNx)
  (gSeq (gMkS 4)
  (gSeq (gForET (gN 0) (bTup 2 (bCons (bN 5) (bCons (bN 6) bNil))) b2_wrong_lot)
  (gSeq (gIfS (gTst (cmpD fun i j => decide (i < j)) (gLenP 0) (gN 2)) (gRet (gLenP 0)) gNx)
  (gRet (gC .none))))))
def m_wrong_lot : List PyData → Rf PyData := fnD G_wrong_lot 8
def b1_missing_book : S :=
  (gIfS (gTst isD (gCall m_lot_of (gCons (gN 0) (gCons (gN 2) gNil))) (gC .none)) (gRet (gN 2)) gNx)
def G_missing_book : S :=
  (gSeq (gForR1 (gN 1) (bN 2) b1_missing_book)
  (gRet (gC .none)))
def m_missing_book : List PyData → Rf PyData := fnD G_missing_book 3
def G_check_shelf : S :=
  (gSeq (gIfS (gOrT (gNotT (gTru (gIsa "tuple" (gN 0)))) (gTst neD (gLenP 0) (gC (.int 2)))) (gRaise "BadShelf" ["part", "number"] (gCons (gUn negD (gC (.int 1))) (gCons (gC (.int 0)) gNil))) gNx)
  (gSeq (gAsg (bTup 2 (bCons (bN 1) (bCons (bN 2) bNil))) (gN 0))
  (gSeq (gSet 3 (gCall m_wrong_price (gCons (gN 1) gNil)))
  (gSeq (gIfS (gTst isnD (gN 3) (gC .none)) (gRaise "BadShelf" ["part", "number"] (gCons (gC (.int 0)) (gCons (gN 3) gNil))) gNx)
  (gSeq (gSet 3 (gCall m_wrong_lot (gCons (gN 2) (gCons (gLenP 1) (gCons (gC (.int 1)) (gCons (gC (.int 5)) gNil))))))
  (gSeq (gIfS (gTst isnD (gN 3) (gC .none)) (gRaise "BadShelf" ["part", "number"] (gCons (gC (.int 1)) (gCons (gN 3) gNil))) gNx)
  (gSeq (gSet 3 (gCall m_missing_book (gCons (gN 2) (gCons (gLenP 1) gNil))))
  (gIfS (gTst isnD (gN 3) (gC .none)) (gRaise "BadShelf" ["part", "number"] (gCons (gC (.int 2)) (gCons (gN 3) gNil))) gNx))))))))
def m_check_shelf : List PyData → Rf PyData := fnD G_check_shelf 4
def G_is_deed : S :=
  (gSeq (gIfS (gOrT (gNotT (gTru (gIsa "tuple" (gN 1)))) (gTst neD (gLenP 1) (gC (.int 3)))) (gRet (gC (.bool false))) gNx)
  (gSeq (gAsg (bTup 2 (bCons (bN 2) (bCons (bN 3) bNil))) (gN 0))
  (gSeq (gAsg (bTup 3 (bCons (bN 4) (bCons (bN 5) (bCons (bN 6) bNil)))) (gN 1))
  (gRet (gAnd (gCall m_is_place (gCons (gN 4) (gCons (gLenP 2) gNil))) (gAnd (gCall m_is_place (gCons (gN 5) (gCons (gLenP 3) gNil))) (gCmp inD (gN 6) (gTup (gCons (gC (.str "first")) (gCons (gC (.str "last")) gNil))))))))))
def m_is_deed : List PyData → Rf PyData := fnD G_is_deed 7
def G_why_not : S :=
  (gSeq (gIfS (gNotT (gTru (gCall m_is_deed (gCons (gN 0) (gCons (gN 1) gNil))))) (gRet (gC (.str "form"))) gNx)
  (gSeq (gSet 2 (gIxP 0 (gC (.int 0))))
  (gSeq (gIfS (gTst isD (gIxP 2 (gIxP 1 (gC (.int 0)))) (gC .none)) (gRet (gC (.str "fixed"))) gNx)
  (gRet (gC .none)))))
def m_why_not : List PyData → Rf PyData := fnD G_why_not 3
def G_check_list : S :=
  (gIfS (gNotT (gTru (gIsa "list" (gN 0)))) (gRaise "BadWay" ["number", "why"] (gCons (gC (.int 0)) (gCons (gC (.str "form")) gNil))) gNx)
def m_check_list : List PyData → Rf PyData := fnD G_check_list 1
def b1_check_deeds : S :=
  (gSeq (gSet 4 (gCall m_why_not (gCons (gN 0) (gCons (gN 3) gNil))))
  (gIfS (gTst isnD (gN 4) (gC .none)) (gRaise "BadWay" ["number", "why"] (gCons (gN 2) (gCons (gN 4) gNil))) gNx))
def G_check_deeds : S :=
  (gSeq (gEx (gCall m_check_list (gCons (gN 1) gNil)))
  (gForEL (gN 1) (bTup 2 (bCons (bN 2) (bCons (bN 3) bNil))) b1_check_deeds))
def m_check_deeds : List PyData → Rf PyData := fnD G_check_deeds 5
def t1_lots_behind : M Bool :=
  (gTst neD (gN 7) (gN 2))
def e2_lots_behind : M PyData :=
  (gN 7)
def l3_lots_behind : M (List PyData) :=
  (gLcT [7] 7 t1_lots_behind e2_lots_behind (gN 6))
def e4_lots_behind : M PyData :=
  (gBlt tupK (gCons (gN 8) gNil))
def G_lots_behind : S :=
  (gSeq (gAsg (bTup 3 (bCons (bN 2) (bCons (bN 3) (bCons (bN 4) bNil)))) (gN 1))
  (gRows 5 [6] 6 gYes l3_lots_behind (gN 0) (gTst eqD (gN 4) (gC (.str "first"))) (gN 3) (gN 2)
  (gRet (gBlt tupK (gCons (gFz (gLcL [8] 8 gYes e4_lots_behind (gN 5))) gNil)))))
def m_lots_behind : List PyData → Rf PyData := fnD G_lots_behind 9
def b1_outcome : S :=
  (gSeq (gSet 3 (gCall m_lots_behind (gCons (gN 3) (gCons (gN 5) gNil))))
  (gAug 4 (fun i j => i + j) (gIxP 2 (gIxP 5 (gC (.int 0))))))
def G_outcome : S :=
  (gSeq (gAsg (bTup 2 (bCons (bN 2) (bCons (bN 3) bNil))) (gN 0))
  (gSeq (gSet 4 (gC (.int 0)))
  (gSeq (gForL (gN 1) (bN 5) b1_outcome)
  (gRet (gTup (gCons (gN 3) (gCons (gN 4) gNil)))))))
def m_outcome : List PyData → Rf PyData := fnD G_outcome 6
def G_done : S :=
  (gSeq (gEx (gCall m_check_shelf (gCons (gN 0) gNil)))
  (gSeq (gEx (gCall m_check_deeds (gCons (gN 0) (gCons (gN 1) gNil))))
  (gRet (gCall m_outcome (gCons (gN 0) (gCons (gN 1) gNil))))))
def m_done : List PyData → Rf PyData := fnD G_done 2
def b1__law_start : S :=
  (gSet 1 (gBin modD (gBin addD (gBin addD (gBin mulD (gN 1) (gC (.int 48271))) (gN 2)) (gC (.int 7))) (gC (.int 2147483647))))
def G__law_start : S :=
  (gSeq (gSet 1 (gC (.int 1)))
  (gSeq (gForL (gN 0) (bN 2) b1__law_start)
  (gRetO (gLst (gCons (gN 0) (gCons (gC (.int 0)) (gCons (gN 1) (gCons (gC (.int 0)) gNil))))))))
def m__law_start : List PyData → Rf (List PyData) := fnO G__law_start 3
def G__law_drawn : S :=
  (gSeq (gIfS (gTst (cmpD fun i j => decide (j < i)) (gIxP 0 (gC (.int 3))) (gC (.int 0))) (gSeq (gSet 2 (gBin modD (gIxP 0 (gC (.int 3))) (gN 1)))
  (gSeq (gSetIx 0 (gBin divD (gIxP 0 (gC (.int 3))) (gN 1)) (gC (.int 3)))
  (gRet (gN 2)))) gNx)
  (gSeq (gSetIx 0 (gBin addD (gIxP 0 (gC (.int 1))) (gC (.int 1))) (gC (.int 1)))
  (gSeq (gIfS (gTst (cmpD fun i j => decide (i ≤ j)) (gIxP 0 (gC (.int 1))) (gBlt lenK (gCons (gIxP 0 (gC (.int 0))) gNil))) (gSeq (gSet 3 (gBin atD (gIxP 0 (gC (.int 0))) (gBin subD (gIxP 0 (gC (.int 1))) (gC (.int 1)))))
  (gSeq (gSetIx 0 (gIf (gTst (cmpD fun i j => decide (j ≤ i)) (gN 3) (gBin powD (gC (.int 10)) (gC (.int 18)))) (gBin divD (gN 3) (gN 1)) (gC (.int 0))) (gC (.int 3)))
  (gRet (gBin modD (gN 3) (gN 1))))) gNx)
  (gSeq (gSetIx 0 (gBin modD (gBin addD (gBin mulD (gIxP 0 (gC (.int 2))) (gC (.int 48271))) (gC (.int 11))) (gC (.int 2147483647))) (gC (.int 2)))
  (gRet (gBin modD (gBin divD (gIxP 0 (gC (.int 2))) (gC (.int 7))) (gN 1)))))))
def m__law_drawn : List PyData → List PyData → Rf (PyData × List PyData) := fnB G__law_drawn 4
def t1__law_turned : M Bool :=
  (gTstL neD 2 (gFz (gLst gNil)))
def b2__law_turned : S :=
  (gApp 3 (gPopAt 2 (gCallB 0 (gCons (gLenP 2) gNil) m__law_drawn)))
def G__law_turned : S :=
  (gSeq (gParOO 2 3 (gListR (gN 1)) (gLst gNil))
  (gSeq (loopW t1__law_turned b2__law_turned 100)
  (gRetO (gNO 3))))
def m__law_turned : List PyData → List PyData → Rf (List PyData × List PyData) := fnBO G__law_turned 4
def b1__law_lots : S :=
  (gSeq (gSet 5 (gCallB 0 (gCons (gN 2) gNil) m__law_drawn))
  (gSetIx 3 (gBin addD (gIxP 3 (gN 5)) (gTup (gCons (gN 4) gNil))) (gN 5)))
def G__law_lots : S :=
  (gSeq (gSetO 3 (gRep (gLst (gCons (gTup gNil) gNil)) (gN 2)))
  (gSeq (gForL (gFz (gCallB 0 (gCons (gN 1) gNil) m__law_turned)) (bN 4) b1__law_lots)
  (gRet (gBlt tupK (gCons (gN 3) gNil)))))
def m__law_lots : List PyData → List PyData → Rf (PyData × List PyData) := fnB G__law_lots 6
def e1__law_shelf : M PyData :=
  (gIf (gTst eqD (gCallB 0 (gCons (gN 5) gNil) m__law_drawn) (gC (.int 0))) (gC .none) (gBin addD (gC (.int 1)) (gCallB 0 (gCons (gN 4) gNil) m__law_drawn)))
def G__law_shelf : S :=
  (gSeq (gAsg (bTup 2 (bCons (bN 3) (bCons (bN 4) bNil))) (gTup (gCons (gBin addD (gC (.int 1)) (gCallB 0 (gCons (gN 1) gNil) m__law_drawn)) (gCons (gBin atD (gFz (gLst (gCons (gC (.int 2)) (gCons (gC (.int 9)) (gCons (gC (.int 99)) gNil))))) (gCallB 0 (gCons (gC (.int 3)) gNil) m__law_drawn)) gNil))))
  (gSeq (gSet 5 (gBin atD (gFz (gLst (gCons (gC (.int 4)) (gCons (gC (.int 12)) (gCons (gC (.int 60)) gNil))))) (gCallB 0 (gCons (gC (.int 3)) gNil) m__law_drawn)))
  (gSeq (gSet 6 (gBlt tupK (gCons (gFz (gLcR [7] 7 gYes e1__law_shelf (gN 3))) gNil)))
  (gRet (gTup (gCons (gN 6) (gCons (gCallB 0 (gCons (gN 3) (gCons (gBin addD (gC (.int 1)) (gCallB 0 (gCons (gN 2) gNil) m__law_drawn)) gNil)) m__law_lots) gNil)))))))
def m__law_shelf : List PyData → List PyData → Rf (PyData × List PyData) := fnB G__law_shelf 8
def G__law_is : S :=
  (gRet (gAnd (gIsa "int" (gN 0)) (gAnd (gNot (gIsa "bool" (gN 0))) (gChain (gN 1) (gN 0) (gN 2) (cmpD fun i j => decide (i ≤ j)) (cmpD fun i j => decide (i ≤ j))))))
def m__law_is : List PyData → Rf PyData := fnD G__law_is 3
theorem neD_int (a b : Int) : neD (.int a) (.int b) = some (!decide (a = b)) := rfl
end Q
/-! part PfT2 -/
set_option Elab.async false
set_option linter.all false
set_option maxRecDepth 100000
set_option maxHeartbeats 4000000
namespace Pf
open PySem PySem.Spec PyProof.Rows L2 Evl
end Pf
/-! part PfT3 -/
set_option Elab.async false
set_option linter.all false
set_option maxRecDepth 100000
set_option maxHeartbeats 4000000
namespace Pf
open PySem PySem.Spec PyProof.Rows L2 Evl
inductive All2 {α β : Type} (R : α → β → Prop) : List α → List β → Prop where
  | nil : All2 R [] []
  | cons {a b as bs} : R a b → All2 R as bs → All2 R (a :: as) (b :: bs)
theorem All2.mem {α β : Type} {R : α → β → Prop} {as : List α} {bs : List β} (h : All2 R as bs) : ∀ a ∈ as, ∃ b ∈ bs, R a b := by
  induction h with
  | nil => intro a ha; cases ha
  | cons h1 h2 ih =>
    intro a ha
    rcases List.mem_cons.mp ha with rfl | ha
    · exact ⟨_, List.mem_cons_self, h1⟩
    · obtain ⟨b, m, r⟩ := ih a ha
      exact ⟨b, List.mem_cons_of_mem _ m, r⟩
theorem All2.map {α β : Type} {R : α → β → Prop} {k : α → β} {as : List α} {bs : List β} (h : All2 R as bs) (hk : ∀ a b, R a b → k a = b) : as.map k = bs := by
  induction h with
  | nil => rfl
  | cons h1 h2 ih => rw [List.map_cons, hk _ _ h1, ih]
end Pf
/-! part PfT4 -/
set_option Elab.async false
set_option linter.all false
set_option maxRecDepth 100000
set_option maxHeartbeats 4000000
namespace Pf
open PySem PySem.Spec PyProof.Rows L2 Evl
theorem mul_one_time (l : Addr) (items : Array Value) (n : Nat) (dd : Option Addr) (sl : Array (Option Value)) (u : Tok) :
    Meets (Builtin.«tuple.__mul__» ⟨[.ref l, .int 1 u], []⟩) (fun _ R s => s.heap.get? l = some { cls := .type "tuple", dict := dd, data := .seq items n, slots := sl } ∧ R (.ok (.ret (Value.ref l))) s) :=
  .of_wp fun prog w A R s h => by
    obtain ⟨hp, g, d, tk, os⟩ := s
    obtain ⟨hl, h⟩ := h
    have f1 := AutoSeq1.idx_int
    wp_walk using wpAny_loadPart' hl
    exact ⟨_, rfl, h⟩
section
variable {X : Cx} {W : WX} {a b : Expr} {ga gb : M PyData} {pos : Pos}
def rRepF (K : PySem.W.Frag) : R2 := fun x y G Q => ∃ l k ws, x = .ref l ∧ y = .int k ∧ SqT K G l ws ∧ ws ≠ [] ∧ 1 ≤ k ∧ k ≤ 1000 ∧ ws.length ≤ 1000 ∧ (k = 1 → Q (.ref l) G) ∧ (k ≠ 1 → NewT Q G (List.replicate k.toNat ws).flatten)
theorem op_repF : OpR X (binaryOp .Mult) (rRepF X.K) := by
  intro pins st σ G x y v u Q I rx ry h
  obtain ⟨l, k, ws, e1, e2, ht, ne, k1, k2, hz, q1, q2⟩ := h
  subst e1 e2
  cases rx
  obtain ⟨t, rfl⟩ := ry
  obtain ⟨us, r, ⟨⟨cls, dd, data, sl⟩, ho, hc, n, hd⟩, hs⟩ := I.tuple ht
  simp only at hc hd
  subst hc hd
  have ul : us.length = ws.length := r.length.symm
  by_cases one : k = 1
  · subst one
    refine wpAny_binaryOp_repeat_ref (T := "tuple") (U := "int") (by decide) ⟨_, ho, rfl⟩ (fun s' => typeIs_int s' 1 t) noFill_tuple_mul F.fills_int_mul F.slot_int_rmul repeat_tuple F.slot_int_index.lookup ?_
    refine call_meets F.slot_int_rmul (typeIs_int st 1 t) F.entry_int_rmul (F.args_int_rmul_2 _ _) (int_rmul_tuple 1 t l us.toArray n dd sl) ⟨ho, rfl, ⟨_, ho, rfl⟩, ?_⟩
    exact call_meets F.slot_tuple_mul ⟨_, ho, rfl⟩ F.entry_tuple_mul (F.args_tuple_mul_2 _ _) (mul_one_time l us.toArray n dd sl t) ⟨ho, .ref l, G, I, rfl, q1 rfl⟩
  · have un : us ≠ [] := fun e => ne (List.eq_nil_of_length_eq_zero (by rw [← ul, e]; rfl))
    have ui : us.toArray.isEmpty = false := by
      cases us with
      | nil => exact absurd rfl un
      | cons _ _ => rfl
    have us0 : us.toArray.size = ws.length := by rw [List.size_toArray, ul]
    have big : ((us.toArray.size : Nat) : Int) * k ≤ 1000000 := by
      rw [us0]
      have := Int.mul_le_mul_of_nonneg_right (a := ((ws.length : Nat) : Int)) (b := 1000) (c := k) (by omega) (by omega)
      omega
    have fl : (List.replicate k.toNat us).flatten.length ≤ sizeLine := by
      rw [PyProof.Rows.lm_len_rep_flat, ul, sizeLine_eq]
      have := Nat.mul_le_mul (show k.toNat ≤ 1000 by omega) hz
      omega
    have g0 : (decide (k < -(2 ^ 63)) || decide (k ≥ 2 ^ 63)) = false := by
      rw [decide_eq_false (by omega), decide_eq_false (by omega)]
      rfl
    have g1 : (us.toArray.isEmpty || k == 1) = false := by
      rw [ui, Bool.false_or]
      exact beq_eq_false_iff_ne.mpr one
    have g2 : (decide (k ≤ 0) || us.toArray.isEmpty) = false := by
      rw [ui, Bool.or_false]
      exact decide_eq_false (by omega)
    have g4 : Builtin.Tuple.tupleTooMany (((us.toArray.size : Nat) : Int) * k) = false := by
      unfold Builtin.Tuple.tupleTooMany
      rw [sizeLine_eq]
      exact decide_eq_false (by omega)
    refine wpAny_binaryOp_repeat_ref (T := "tuple") (U := "int") (by decide) ⟨_, ho, rfl⟩ (fun s' => typeIs_int s' k t) noFill_tuple_mul F.fills_int_mul F.slot_int_rmul repeat_tuple F.slot_int_index.lookup ?_
    refine call_meets F.slot_int_rmul (typeIs_int st k t) F.entry_int_rmul (F.args_int_rmul_2 _ _) (int_rmul_tuple k t l us.toArray n dd sl) ⟨ho, rfl, ⟨_, ho, rfl⟩, ?_⟩
    refine call_meets F.slot_tuple_mul ⟨_, ho, rfl⟩ F.entry_tuple_mul (F.args_tuple_mul_2 _ _) (tuple_mulW l us.toArray n dd sl k t g0 g1 g2 (by omega) g4 (by rw [size_rep, List.size_toArray]; exact fl)) ⟨ho, ?_⟩
    rw [size_rep]
    exact laidT I (r.rep k.toNat) (by rw [← (r.rep k.toNat).length] at fl; exact fl) (q2 one)
def repT (d e : PyData) : Option PyData := match d, e with
  | .tuple ds, .int k => if ds ≠ [] ∧ 1 ≤ k ∧ k ≤ 1000 ∧ ds.length ≤ 1000 then some (.tuple (List.replicate k.toNat ds).flatten) else none
  | _, _ => none
theorem sv_repT (ha : SV X W a ga) (hb : SV X W b gb) : SV X W (.BinOp a .Mult b pos) (M.bd ga fun d => M.bd gb fun e => M.opt (repT d e)) :=
  pe_imp (pe_op op_repF ha hb) fun σ H Q ⟨C, F, env, R, h⟩ => tG_bd R h fun d env1 v F1 H1 R1 e1 o1 h1 => by
    refine tG_bd R1 h1 fun e env2 u F2 H2 R2 e2 o2 h2 => ?_
    obtain ⟨z, hz, h3⟩ := h2.of_opt
    unfold repT at hz
    split at hz
    · rename_i ds k
      split at hz
      · rename_i hk
        cases hz
        obtain ⟨c1, c2, c3, c4⟩ := hk
        cases o1 with
        | @tup p vs _ s r =>
          cases o2 with
          | int =>
            have s2 := ex_t e2 s
            have r2 := dps_mono e2 r
            have key : ∀ (G : Hp), DpAll X.K G vs ds → ∀ n : Nat, DpAll X.K G (List.replicate n vs).flatten (List.replicate n ds).flatten := fun G r n => by
              induction n with
              | zero => exact .nil
              | succ n ih =>
                rw [List.replicate_succ, List.replicate_succ, List.flatten_cons, List.flatten_cons]
                exact r.app ih
            refine ⟨p, k, vs, rfl, rfl, ex_t R2.fh s2, fun e => c1 ?_, c2, c3, by rw [r.len]; exact c4, fun h1 => ?_, fun _ q ob hob hp => ?_⟩
            · subst e
              cases r2
              rfl
            · subst h1
              have e1 : (List.replicate (1 : Int).toNat ds).flatten = ds := by simp
              rw [e1] at h3
              exact aft (ok := okV X.K) h3 R2 (.tup s2 r2)
            · have hf := (R2.fresh hp).1
              have exn : Ex F2 (upd F2 q (.frz ob (.tup (List.replicate k.toNat vs).flatten))) := Ex.new hf
              exact aft' (ok := okV X.K) h3 (R2.newF hp hob) exn (.tup (.inl (.inr ⟨ob, upd_same⟩)) (key _ (dps_mono exn r2) _))
      · cases hz
    · cases hz
end
end Pf
/-! part PfT5 -/
set_option Elab.async false
set_option linter.all false
set_option maxRecDepth 100000
set_option maxHeartbeats 4000000
namespace Pf
open PySem PySem.Spec PyProof.Rows L2 Evl
end Pf
/-! part PfU1 -/
set_option Elab.async false
set_option linter.all false
set_option maxRecDepth 100000
set_option maxHeartbeats 4000000
namespace Pf
open PySem PySem.Spec PyProof.Rows L2 Evl LamX
end Pf
/-! part PfU2 -/
set_option Elab.async false
set_option linter.all false
set_option maxRecDepth 100000
set_option maxHeartbeats 4000000
namespace Pf
open PySem PySem.Spec PyProof.Rows L2 Evl LamX
structure LamP (N : List Str) (sc scope : Scope) (ps : List Str) : Prop where
  kind : scope.kind = .function
  co : scope.isCoroutine = false
  gen : scope.isGenerator = false
  own : ∀ y ∈ scope.names, y.2 ≠ .cell ∧ (y.2 = .local → y.1 ∉ N)
  par : ∀ y ∈ ps, scope.names.lookup y = some .local
  free : ∀ y ∈ scope.names, y.2 = .free → sc.names.lookup y.1 = some .cell ∨ sc.names.lookup y.1 = some .free
def lamPB (N : List Str) (sc scope : Scope) (ps : List Str) : Bool :=
  decide (scope.kind = .function) && !scope.isCoroutine && !scope.isGenerator && scope.names.all (fun y => !decide (y.2 = .cell) && (!decide (y.2 = .local) || !decide (y.1 ∈ N))) && ps.all (fun y => decide (scope.names.lookup y = some .local))
    && scope.names.all fun y => !decide (y.2 = .free) || decide (sc.names.lookup y.1 = some .cell) || decide (sc.names.lookup y.1 = some .free)
theorem lamP_by {N : List Str} {sc scope : Scope} {ps : List Str} (h : lamPB N sc scope ps = true) : LamP N sc scope ps := by
  unfold lamPB at h
  simp only [Bool.and_eq_true, Bool.or_eq_true, Bool.not_eq_true', decide_eq_true_eq, decide_eq_false_iff_not, List.all_eq_true] at h
  obtain ⟨⟨⟨⟨⟨h1, h2⟩, h3⟩, h4⟩, h5⟩, h6⟩ := h
  refine ⟨h1, h2, h3, fun y hy => ⟨(h4 y hy).1, fun e => (h4 y hy).2.elim (fun z => absurd e z) id⟩, h5, fun y hy e => ?_⟩
  rcases h6 y hy with (z | z) | z
  · exact absurd e z
  · exact .inl z
  · exact .inr z
section
variable {X : Cx} {pins : List (Addr × Obj)} {σ : L2.St} {H HZ : Hp} {s s1 : Shared}
theorem LamP.has {scope : Scope} {ps : List Str} (L : LamP X.N X.env.scope scope ps) (ok : X.Ok) {y : Str × NameKind} (hy : y ∈ scope.names) (e : y.2 = .free) : ∃ c, X.env.cells.lookup y.1 = some c :=
  (L.free y hy e).elim (fun k => ok.has _ (.inl k)) fun k => ok.has _ (.inr k)
theorem lam_startP {A : Around} {outer : List PySem.Env} {E : XK} {scope : Scope} {ps : List Str} {f c' : Addr} {h₁ : Heap} {tk : Nat} {binds : List (Str × Value)} (I : Inv X pins σ H s) (L : LamP X.N X.env.scope scope ps)
    (e0 : Env0 X.prog X.w X.K X.mg X.base A outer s1 HZ) (hd : A.handled = none) (un : Un (frs X.stack) [] H HZ s.heap s1.heap) (hns : h₁.Ns s1.heap.objs.size fun y => binds.reverse.lookup y) (kp : ∀ b o, s1.heap.get? b = some o → h₁.get? b = some o) :
    Inv (lamCx X A outer s1 HZ E scope f c') [] σ HZ { s1 with heap := h₁, toks := tk } := by
  generalize eY : lamCx X A outer s1 HZ E scope f c' = Y
  have ecl : Y.env.cells = cloFrom X.env.cells scope.names [] := by rw [← eY] <;> rfl
  have esc : Y.env.scope = scope := by rw [← eY] <;> rfl
  -- a captured name's cell is the maker's
  have up : ∀ {y : Str} {c : Addr}, Y.env.cells.lookup y = some c → X.env.cells.lookup y = some c := by
    intro y c e
    rw [ecl] at e
    rcases cloFrom_mem (PySem.mem_of_lookup e) with m | ⟨m, e2⟩
    · exact nomatch m
    · obtain ⟨c1, h1⟩ := L.has I.ok m rfl
      simp only at h1
      rw [h1] at e2
      exact h1.trans (congrArg some e2.symm)
  have down : ∀ {y : Str}, scope.names.lookup y = some .free → ∃ c, Y.env.cells.lookup y = some c := by
    intro y e
    rw [ecl]
    have m : (y, NameKind.free) ∈ scope.names := PySem.mem_of_lookup e
    exact mem_lookup (cloFrom_has (cells := X.env.cells) (acc := []) m)
  have stays : ∀ {c : Addr} {v : Option Value}, H c = none → s.heap.IsCell c v → h₁.IsCell c v := by
    rintro c v n ⟨o, ho, hcell⟩
    obtain ⟨sl, e⟩ := un.any ho n (fun z => nomatch z)
    exact ⟨_, kp _ _ e, hcell⟩
  have noex : ∀ b : Addr, b ∉ Y.ex := by intro b z; rw [← eY] at z; exact nomatch (show b ∈ ([] : List Addr) from z)
  have okY : Y.Ok := by
    have hasY : ∀ y, (Y.env.kindOf y = some .cell ∨ Y.env.kindOf y = some .free) → ∃ c, Y.env.cells.lookup y = some c := by
      intro y hy
      have hy : Y.env.scope.names.lookup y = some .cell ∨ Y.env.scope.names.lookup y = some .free := hy
      rw [esc] at hy
      exact hy.elim (fun z => absurd rfl (L.own _ (PySem.mem_of_lookup z)).1) down
    have injY : ∀ x y c, Y.env.cells.lookup x = some c → Y.env.cells.lookup y = some c → x = y := fun x y c e1 e2 => I.ok.inj x y c (up e1) (up e2)
    subst eY
    exact ⟨e0.mod, L.kind, rfl, rfl, Nat.le_refl _, injY, hasY, fun y c z => (nomatch (show false = true from z)), fun _ => hd, Around.frames_deeper e0.frames, .inr ⟨rfl, rfl⟩, fun b z => absurd z (noex b), e0.bs, e0.bsz, fun b _ _ => noex b, fun b z => absurd z (noex b), e0.funs, e0.frf⟩
  have locY : ∀ (i : Nat) (x : Str) (v : V), X.N[i]? = some x → σ[i]? = some (some v) → Vis scope x → ∃ u, RelV v u ∧ Look Y.env h₁ (fun y => binds.reverse.lookup y) x u := by
    intro i y v e1 e2 e3
    rcases e3 with k | k | k
    · exact absurd (List.mem_of_getElem? e1) ((L.own _ (PySem.mem_of_lookup k)).2 rfl)
    · exact absurd rfl (L.own _ (PySem.mem_of_lookup k)).1
    · obtain ⟨m, hn, hl⟩ := I.loc
      have fr := L.free _ (PySem.mem_of_lookup k) rfl
      obtain ⟨u, r, lk⟩ := hl i y v e1 e2 (fr.elim (fun z => .inr (.inl z)) fun z => .inr (.inr z))
      obtain ⟨c, hc⟩ := down k
      refine ⟨u, r, .inr ⟨.inr (by show Y.env.scope.names.lookup y = _; rw [esc]; exact k), c, hc, ?_⟩⟩
      have hX := up hc
      rcases lk with ⟨k', _⟩ | ⟨_, c2, e', z⟩
      · have k' : X.env.scope.names.lookup y = some .local := k'
        rcases fr with k2 | k2 <;> (rw [show X.env.scope.names.lookup y = _ from k2] at k'; cases k')
      · rw [hX] at e'
        cases e'
        exact stays (I.freeC y _ hX) z
  have cellY : ∀ y c, Y.env.cells.lookup y = some c → ∃ v, h₁.IsCell c v := fun y c e =>
    let ⟨v, z⟩ := I.cell y c (up e)
    ⟨v, stays (I.freeC y c (up e)) z⟩
  have freeY : ∀ y c, Y.env.cells.lookup y = some c → HZ c = none := by
    intro y c e
    obtain ⟨v, o, ho, _⟩ := I.cell y c (up e)
    exact un.free c o ho (I.freeC y c (up e)) fun z => nomatch z
  subst eY
  exact ⟨okY, rfl, e0.bare, Un.kept kp, ⟨_, hns, locY⟩, cellY, e0.hok.fresh (Nat.le_refl _), freeY, fun q hq => (nomatch (show q ∈ ([] : List (Addr × Obj)) ++ [] from hq)), e0.hok.kept kp, I.len⟩
end
end Pf
/-! part PfU3 -/
set_option Elab.async false
set_option linter.all false
set_option maxRecDepth 100000
set_option maxHeartbeats 4000000
namespace Pf
open PySem PySem.Spec PyProof.Rows L2 Evl LamX
abbrev lmOf (X : Cx) (id : Nat) (params : Arguments) (body : Expr) (scope : Scope) (df : Bool) : Lm := ⟨id, params, body, scope, cloFrom X.env.cells scope.names [], X.env.qual ++ "<lambda>", df⟩
theorem funO_ok {P : Program} {w : World} {H : Hp} {h : Heap} {f : Addr} {o : Obj} (e : h.get? f = some o) : ObjOk P w H h f (FunO f o) := ⟨e, ⟨o, e⟩, fun _ _ z st => st _ z⟩
theorem funO_at {P : Program} {w : World} {H : Hp} {h : Heap} {f : Addr} {o : Obj} (hok : HOk P w H h) (e : H f = some (FunO f o)) : h.get? f = some o := (hok f _ e).1
theorem extN_some {H H1 : Hp} (e : ExtN H H1) {b : Addr} {o : HO} (h : H b = some o) (t1 : ∀ ps, o = .tbl ps → ∃ qs, H1 b = some (.tbl qs)) : H1 b ≠ none := by
  intro z
  by_cases q : ∃ ps, o = .tbl ps
  · obtain ⟨ps, q⟩ := q
    obtain ⟨qs, e2⟩ := t1 ps q
    rw [e2] at z; cases z
  · rw [e b o h fun ps q' => q ⟨ps, q'⟩] at z; cases z
section
variable {X : Cx} {pins : List (Addr × Obj)} {σ : L2.St} {H : Hp} {s : Shared}
theorem mk_tail {T : List (Addr × Str)} {c P : Addr} {params : Arguments} {body : Expr} {scope : Scope} {pos : Pos} {E : Value → Shared → Prop} {Q : Value → Shared → Prop} {dV : Value} (I : Inv X pins σ H s) (TB : TabB X.base X.mg c P) (hcode : X.env.code = .ref c)
    (hm : (P, X.env.qual ++ "<lambda>") ∈ T) (hu : ∀ p ∈ T, p.1 = P → p.2 = X.env.qual ++ "<lambda>") (hT : Tabs T H) (hfree : ∀ y ∈ scope.names, y.2 = .free → ∃ c, X.env.cells.lookup y.1 = some c)
    (h : ∀ (f c' : Addr) (doc pm ctv : Value) (H1 : Hp) (s' : Shared), Inv X pins σ H1 s' → ExtN H H1 → Tabs T H1 → H f = none →
      H1 f = some (FunO f (PySem.W.kdv_obj "<lambda>" (X.env.qual ++ "<lambda>") params (.expr body) scope (cloFrom X.env.cells scope.names []) dV doc pm c' ctv)) → H1 c' = some (CodeO c' (X.env.qual ++ "<lambda>")) → Q (.ref f) s') :
    wpAny (model X.prog X.w) X.A (makeTail "<lambda>" (X.env.qual ++ "<lambda>") params (.expr body) scope X.env dV .none none pos pos.line) Q E s := by
  generalize eq : X.env.qual ++ ("<lambda>" : Str) = q at *
  obtain ⟨ps, hP, ht, told⟩ := hT _ hm
  have glob := I.mod.glob.keeps I.bk
  have heapP : s.heap.get? P = some { cls := .none, data := .fields ps } := I.hok P _ hP
  cases found : codeAmong pos ps.toList with
  | some cv =>
    obtain ⟨c', e, known⟩ := told pos cv found
    subst e
    refine PySem.W.kdv_makeTailHit (mg := X.mg) (c := c) (P := P) (ps := ps) (closure_ok hfree) I.ok.glob glob hcode (TB.code.keeps I.bk) heapP ht found (TB.bm.keeps I.bk) fun ctv doc g tk keeps size => ?_
    have Ig : Inv X pins σ H { s with heap := g, toks := tk } := I.kept keeps
    have new : H g.objs.size = none := Ig.hok.fresh (Nat.le_refl _)
    have only : ∀ b o, H b = some o → upd H g.objs.size (FunO g.objs.size (PySem.W.kdv_obj "<lambda>" q params (.expr body) scope (cloFrom X.env.cells scope.names []) dV doc ((X.mg "__name__").getD .none) c' ctv)) b = some o := fun b o z => by rw [upd_ne (ne_of_none z new)]; exact z
    exact h g.objs.size c' doc _ ctv _ _ (Ig.laid (t' := tk) (fun b u z => Heap.get?_push_of_some _ z) (Nat.le_refl _) (funO_ok (Heap.get?_push_size _ rfl))) (ExtN.of only) (hT.ext only) new upd_same (only _ _ known)
  | none =>
    refine PySem.W.kdv_makeTail (mg := X.mg) (c := c) (P := P) (ps := ps) (closure_ok hfree) I.ok.glob glob hcode (TB.code.keeps I.bk) heapP ht found TB.gP (TB.bm.keeps I.bk) fun c' ctv doc g tk but newc lt rec tab => ?_
    obtain ⟨c2, oc, vs, t, e2, hoc, hd, hv⟩ := rec
    cases e2
    have noc : H c' = none := I.hok.fresh newc
    have It := inv_table (t' := tk) (more := #[rawInt pos.line, rawInt pos.col, .ref c']) (h' := g) I hP (fun b o hb e => but b o hb e) tab newc ⟨oc, vs, t, hoc, hd, hv⟩
    generalize eT : upd (upd H P (.tbl (ps ++ #[rawInt pos.line, rawInt pos.col, .ref c']))) c' (CodeO c' q) = HT at It
    have atP : HT P = some (.tbl (ps ++ #[rawInt pos.line, rawInt pos.col, .ref c'])) := by rw [← eT, upd_ne (ne_of_none hP noc), upd_same]
    have atC : HT c' = some (CodeO c' q) := by rw [← eT, upd_same]
    have ext : ExtN H HT := by
      intro b o z no
      rw [← eT, upd_ne (ne_of_none z noc), upd_ne (fun w => by subst w; rw [hP] at z; exact no ps (Option.some.inj z).symm)]
      exact z
    have tabs : Tabs T HT := by
      intro p hp
      by_cases same : p.1 = P
      · rw [hu p hp same, same]
        have el : (ps ++ #[rawInt pos.line, rawInt pos.col, .ref c']).toList = ps.toList ++ [rawInt pos.line, rawInt pos.col, .ref c'] := by simp
        refine ⟨_, atP, ?_, ?_⟩
        · rw [el]; exact PySem.TriplesOk_snoc _ _ _ _ ht
        · intro p' cv hcv
          rw [el] at hcv
          rcases among_app _ ht hcv with z | z
          · obtain ⟨c0, e1, e2⟩ := told p' cv z
            exact ⟨c0, e1, ext _ _ e2 codeO_ne⟩
          · exact ⟨c', z, atC⟩
      · obtain ⟨qs, a1, a2, a3⟩ := hT p hp
        refine ⟨qs, ?_, a2, ?_⟩
        · rw [← eT, upd_ne (ne_of_none a1 noc), upd_ne same]; exact a1
        · intro p' cv hcv
          obtain ⟨c0, e1, e2⟩ := a3 p' cv hcv
          exact ⟨c0, e1, ext _ _ e2 codeO_ne⟩
    have new : HT g.objs.size = none := It.hok.fresh (Nat.le_refl _)
    have old : H g.objs.size = none := by
      cases z : H g.objs.size with
      | none => rfl
      | some u => exact absurd new (extN_some ext z fun qs w => by
          subst w
          by_cases e : g.objs.size = P
          · rw [e, atP]; exact ⟨_, rfl⟩
          · rw [← eT, upd_ne (ne_of_none z noc), upd_ne e]; exact ⟨_, z⟩)
    have only : ∀ b o, HT b = some o → upd HT g.objs.size (FunO g.objs.size (PySem.W.kdv_obj "<lambda>" q params (.expr body) scope (cloFrom X.env.cells scope.names []) dV doc ((X.mg "__name__").getD .none) c' ctv)) b = some o := fun b o z => by rw [upd_ne (ne_of_none z new)]; exact z
    exact h g.objs.size c' doc _ ctv _ _ (It.laid (t' := tk) (fun b u z => Heap.get?_push_of_some _ z) (Nat.le_refl _) (funO_ok (Heap.get?_push_size _ rfl))) (ext.trans (ExtN.of only)) (tabs.ext only) old upd_same (only _ _ atC)
def DfE (params : Arguments) (env : PySem.Env) (df : Bool) : Prop := match df with
  | false => defaultsOf params env = ([], [])
  | true => ∃ z j p, params.defaults = [.Constant (.int z) j p] ∧ params.kw_defaults = []
theorem lam_mk {T : List (Addr × Str)} {c P : Addr} {params : Arguments} {body : Expr} {scope : Scope} {pos : Pos} {E : Value → Shared → Prop} {Q : Value → Shared → Prop} {id : Nat} {df : Bool} (I : Inv X pins σ H s) (TB : TabB X.base X.mg c P) (hcode : X.env.code = .ref c)
    (hm : (P, X.env.qual ++ "<lambda>") ∈ T) (hu : ∀ p ∈ T, p.1 = P → p.2 = X.env.qual ++ "<lambda>") (hT : Tabs T H) (hfree : ∀ y ∈ scope.names, y.2 = .free → ∃ c, X.env.cells.lookup y.1 = some c) (hdf : DfE params X.env df)
    (h : ∀ (f c' : Addr) (dV doc pm ctv : Value) (G H1 : Hp) (s' : Shared), Inv X pins σ H1 s' → ExtN H H1 → Tabs T H1 → (∀ a o, G a = some o → H a = none ∧ H1 a = some o ∧ okNew o) →
      G f = some (FunO f (lmObj (lmOf X id params body scope df) dV doc pm c' ctv)) → H1 c' = some (CodeO c' (X.env.qual ++ "<lambda>")) → DfOk G df dV → Q (.ref f) s') :
    wpAny (model X.prog X.w) X.A (eval (.Lambda params body scope pos) X.env) Q E s := by
  cases df with
  | false =>
    refine PySem.W.kla_eval hdf ?_
    rw [makeFunction_eq]
    simp only [List.zip_nil_right, List.filterMap_nil, List.isEmpty_nil, if_true, pure_bind]
    refine mk_tail I TB hcode hm hu hT hfree fun f c' doc pm ctv H1 s' I1 e1 t1 nf hf hc => ?_
    refine h f c' .none doc pm ctv (upd (fun _ => none) f (FunO f _)) H1 s' I1 e1 t1 (fun a o z => ?_) upd_same hc rfl
    by_cases w : a = f
    · subst w
      rw [upd_same] at z
      cases z
      exact ⟨nf, hf, trivial⟩
    · rw [upd_ne w] at z
      cases z
  | true =>
    obtain ⟨z, j, p, hd, hk⟩ := hdf
    refine PySem.W.kdv_lam (by rw [hd]; rfl) hk ?_
    rw [hd]
    refine PySem.W.kdv_all1 (thn ((pe_int (X := X) (i := z) (j := j) (pos := p)).run pins s σ H (fun v H1 => v = .int z ∧ H1 = H) I ⟨rfl, rfl⟩) fun u s1 h1 => PySem.W.kdv_all0 ?_)
    obtain ⟨v, H1, I1, r1, rfl, rfl⟩ := h1
    rw [makeFunction_eq]
    simp only [List.zip_nil_right, List.filterMap_nil, List.isEmpty_nil, List.isEmpty_cons, if_true, pure_bind, Bool.false_eq_true, if_false]
    refine wpAny_bind (wpAny_newTextTuple ?_)
    generalize ed : s1.heap.objs.size = d
    have nd : H1 d = none := I1.hok.fresh (Nat.le_of_eq ed)
    have I2 : Inv X pins σ (upd H1 d (FunO d (PySem.W.kdv_tup [u]))) { s1 with heap := s1.heap.push (PySem.W.kdv_tup [u]) } :=
      I1.laid (t' := s1.toks) (fun b o z => Heap.get?_push_of_some _ z) (Nat.le_of_eq ed) (funO_ok (by rw [← ed]; exact Heap.get?_push_size _ rfl))
    have keep : ∀ b o, H1 b = some o → upd H1 d (FunO d (PySem.W.kdv_tup [u])) b = some o := fun b o z => by rw [upd_ne (ne_of_none z nd)]; exact z
    refine mk_tail I2 TB hcode hm hu (hT.ext keep) hfree fun f c' doc pm ctv H3 s' I3 e3 t3 nf hf hc => ?_
    have nfd : f ≠ d := fun w => by rw [w, upd_same] at nf; cases nf
    have atd : H3 d = some (FunO d (PySem.W.kdv_tup [u])) := e3 _ _ upd_same fun ps w => by unfold FunO at w; cases w
    refine h f c' (.ref d) doc pm ctv (upd (upd (fun _ => none) d (FunO d (PySem.W.kdv_tup [u]))) f (FunO f _)) H3 s' I3 ((ExtN.of keep).trans e3) t3 (fun a o z => ?_) upd_same hc ⟨d, u, rfl, by rw [upd_ne nfd.symm, upd_same]⟩
    by_cases w : a = f
    · subst w
      rw [upd_same] at z
      cases z
      exact ⟨(by rw [upd_ne nfd] at nf; exact nf), hf, trivial⟩
    · rw [upd_ne w] at z
      by_cases w2 : a = d
      · subst w2
        rw [upd_same] at z
        cases z
        exact ⟨nd, atd, trivial⟩
      · rw [upd_ne w2] at z
        cases z
end
end Pf
/-! part PfU4 -/
set_option Elab.async false
set_option linter.all false
set_option maxRecDepth 100000
set_option maxHeartbeats 4000000
namespace Pf
open PySem PySem.Spec PyProof.Rows L2 Evl LamX
abbrev fdOf (l : Lm) (dV doc pm cdv ctv : Value) : FuncData := PySem.W.kdv_fn "<lambda>" l.q l.prm (.expr l.bd) l.sc l.cl dV doc pm cdv ctv
def LamB (l : Lm) (ps : List Str) : Prop := match l.df with
  | false => ps = [] ∧ ∀ doc pm cdv ctv, bindArgs (fdOf l .none doc pm cdv ctv) ⟨[], []⟩ = pure []
  | true => ∃ a, ps = [a] ∧ ∀ (T : Addr) (doc pm cdv ctv : Value), ∃ k, bindArgs (fdOf l (.ref T) doc pm cdv ctv) ⟨[], []⟩ = seqItems? (.ref T) >>= k ∧ ∀ u, k (some #[u]) = pure [(a, u)]
theorem lam_binds {P : Program} {w : World} {H : Hp} {s : Shared} {l : Lm} {ps : List Str} {dV doc pm cdv ctv : Value} (B : LamB l ps) (hok : HOk P w H s.heap) (d : DfOk H l.df dV) :
    ∃ binds, BindsTo s (fdOf l dV doc pm cdv ctv) ⟨[], []⟩ binds ∧ ∀ y ∈ binds, y.1 ∈ ps := by
  unfold LamB at B
  cases e : l.df with
  | false =>
    rw [e] at B d
    obtain ⟨_, b⟩ := B
    have d : dV = .none := d
    subst d
    exact ⟨[], .of_eq (b _ _ _ _), fun y hy => nomatch hy⟩
  | true =>
    rw [e] at B d
    obtain ⟨a, rfl, b⟩ := B
    obtain ⟨t, u, rfl, ht⟩ := d
    obtain ⟨k, b1, b2⟩ := b t doc pm cdv ctv
    refine ⟨[(a, u)], .of_defaults rfl (funO_at hok ht) rfl b1 (b2 u), fun y hy => ?_⟩
    rw [List.mem_singleton.mp hy]
    exact List.mem_singleton.mpr rfl
section
variable {X : Cx} {pins : List (Addr × Obj)} {σ : L2.St} {H HZ : Hp} {s s1 : Shared}
theorem pe_actD {CXg : CXT} {Eg : XK} {Ng : List Str} {qg : Str} {sg : Scope} {g f c' : Addr} {cdg dV doc pm ctv : Value} {k i : Nat} {a : Str} {pn : List (Addr × Obj)} {xe : Value → Shared → Prop} {W : WX} {E : XK} {tb : TE} {p1 p2 : Pos} {ps : List Str}
    {id : Nat} {params : Arguments} {body : Expr} {scope : Scope} {df : Bool} (I : Inv X pins σ H s) (L : LamP X.N X.env.scope scope ps) (B : LamB (lmOf X id params body scope df) ps)
    (tk : Takes ((cxOf CXg X.prog X.w X.K X.mg X.base Ng qg sg g cdg X.A X.stack s H Eg).tr pn xe) W) (hW : ∀ cls d σ' H', E cls d H' → W cls d σ' H') (hr : Room (k + 1) (X.A.deeper (envOfC qg sg s.heap.objs.size g cdg)))
    (hbody : ∀ (A : Around) (outer : List PySem.Env) (s : Shared) (H : Hp), Room k (A.deeper (lamEnv X scope s.heap.objs.size f c')) → PE (lamCx X A outer s H E scope f c') body tb)
    (hN : Ng[i]? = some a) (hv : Vis sg a) (hd : (a == ("__debug__" : Str)) = false := by decide) (hcd : (a == ("__classdict__" : Str)) = false := by decide) :
    PE ((cxOf CXg X.prog X.w X.K X.mg X.base Ng qg sg g cdg X.A X.stack s H Eg).tr pn xe) (.Call (.Name a p1) [] [] p2)
      (fun σZ HZ Q => σZ[i]? = some (some (.ref f)) ∧ HZ c' = some (CodeO c' (X.env.qual ++ "<lambda>")) ∧ (HZ f = some (FunO f (lmObj (lmOf X id params body scope df) dV doc pm c' ctv)) ∧ DfOk HZ df dV) ∧ tb σ HZ Q) := by
  constructor
  intro pinsZ sZ σZ HZ Q IZ h
  obtain ⟨at_i, code, ⟨fun_, dflt⟩, ht⟩ := h
  refine wpAny_Call_Name_kw (thn ((pe_var (pos := p1) (i := i) hN hv hd hcd).run pinsZ sZ σZ HZ (fun v H1 => v = .ref f ∧ H1 = HZ) IZ ⟨.ref f, at_i, rfl, rfl⟩) fun u sY hY => ?_)
  obtain ⟨v, H1, IY, rY, ev, eH⟩ := hY
  subst ev
  subst eH
  cases rY
  have obj := funO_at IY.hok fun_
  refine PySem.W.callWith_F0 ⟨_, _, _, _, obj⟩ ?_
  have un : Un (frs X.stack) [] H H1 s.heap sY.heap := IY.base
  obtain ⟨⟨oc, vs, t, ho, hdata, hname⟩, _, _⟩ := IY.hok c' _ code
  obtain ⟨binds, bt, inps⟩ := lam_binds (s := sY) (doc := doc) (pm := pm) (cdv := .ref c') (ctv := ctv) B IY.hok dflt
  have run : codeAny (model X.prog X.w) (X.A.deeper (envOfC qg sg s.heap.objs.size g cdg)) (.call (.ref f) ⟨[], []⟩) (CR (L2.CX X.prog X.w) (envOfC qg sg s.heap.objs.size g cdg :: X.stack) X.prog X.w H1 sY Q E) sY := by
    refine PySem.W.kla_callFunE hr.depth obj rfl L.co L.gen rfl ⟨c', oc, vs, t, rfl, ho, hdata, hname⟩ (bt _ _ _ _ ?_)
    refine wpAny_newFunctionEnv (fun y hy => (L.own y hy).1) (fun y hy => L.par _ (inps y hy)) (fun h₁ hns hsb => ⟨IY.nolimit.fresh _ hsb, ?_⟩) L.kind
    show codeAny _ _ (.expr body (lamEnv X scope sY.heap.objs.size f c')) _ _
    have keeps : ∀ b o, sY.heap.get? b = some o → h₁.get? b = some o := fun b o z => hsb.extBut b o (Nat.ne_of_lt (Heap.lt_size z)) (Heap.get?_push_of_some _ z)
    have J : Inv (lamCx X (X.A.deeper (envOfC qg sg s.heap.objs.size g cdg)) (envOfC qg sg s.heap.objs.size g cdg :: X.stack) sY H1 E scope f c') [] σ H1 { sY with heap := h₁, toks := sY.toks + binds.length } :=
      lam_startP I L IY.env0 hr.hd un hns keeps
    refine PySem.W.kla_codeExpr (wpAny_mono ((hbody _ _ sY H1 (hr.deeper _)).run [] _ _ H1 Q J ht) (fun v s' hq => ?_) fun e s' hq => hq)
    obtain ⟨w', H', J', rv, q⟩ := hq
    exact ⟨w', H', J'.os, J'.bare, J'.base, J'.hok, rv, q⟩
  have pass : Passes (L2.CX X.prog X.w) ((cxOf CXg X.prog X.w X.K X.mg X.base Ng qg sg g cdg X.A X.stack s H Eg).tr pn xe) E := passes_call tk hW
  refine wpAny_call (codeAny_mono run fun r s' hq => ?_)
  match r, hq with
  | .error e, hq => exact pass pinsZ σZ H1 sY e s' IY hq
  | .ok (.ret u), hq => exact IY.after hq
end
def runK (kind : Xc → Option PyData) (gB : M PyData) : M PyData := fun env => match gB env with
  | some (.ok r) => some (.ok r)
  | some (.error (x, env')) => (match kind x with
    | some d => some (.ok (d, env'))
    | none => none)
  | none => none
structure LamR (X : Cx) (k : Nat) (l : Lm) (gB : M PyData) : Prop where
  ex : ∃ (params : Arguments) (body : Expr) (scope : Scope) (ps : List Str), l = lmOf X l.id params body scope l.df ∧ LamP X.N X.env.scope scope ps ∧ LamB l ps ∧
    ∀ (A : Around) (outer : List PySem.Env) (s : Shared) (H : Hp) (E : XK) (f c' : Addr), Room k (A.deeper (lamEnv X scope s.heap.objs.size f c')) → SV (lamCx X A outer s H E scope f c') (WE0 E) body gB
section
variable {X : Cx} {pins : List (Addr × Obj)} {σ : L2.St} {H : Hp} {s : Shared}
theorem runK_after {W : WX} {C : Cn} {F : Hp} {env : En} {kind : Xc → Option PyData} {gB : M PyData} {Q : VK} (h : After X.K X.mg (okV X.K) W C F σ (runK kind gB env) Q) (hW : ∀ (x : Xc × En), runK kind gB env ≠ some (.error x)) :
    After X.K X.mg (okV X.K) (WE0 (EK X.K X.mg kind Q)) C F σ (gB env) Q := by
  unfold runK at h
  cases e : gB env with
  | none => rw [e] at h; exact h.elim
  | some r =>
    rw [e] at h
    cases r with
    | ok z => exact h
    | error z =>
      obtain ⟨xc, env'⟩ := z
      simp only at h
      cases ek : kind xc with
      | none => rw [ek] at h; exact h.elim
      | some d =>
        rw [ek] at h
        exact fun F' H' cls dx R' ex xo => ⟨F', xc, d, ⟨R'.fh, R'.nt⟩, xo, ek, fun F2 H2 v x dv => h v F2 H2 (R'.call x) (ex.trans x.ff) dv⟩
theorem runK_noerr {kind : Xc → Option PyData} {gB : M PyData} {env : En} (x : Xc × En) : runK kind gB env ≠ some (.error x) := by
  unfold runK
  split
  · intro z; cases z
  · split <;> (intro z; cases z)
  · intro z; cases z
theorem kind_code {x a : Str} {g f : Addr} {k : Nat} {pg : Arguments} {bg : List Stmt} {sg : Scope} {dV kV doc pm cdv ct oc : Value} {an od : Option Addr} {osl : Array (Option Value)} {Ng : List Str} {kind : Xc → Option PyData} {Q : VK} {l : Lm} {gB : M PyData}
    (lk : X.K.lookup g = some ⟨oc, od, .func (PySem.W.fnOf x x pg bg sg dV kV doc pm an cdv ct), osl⟩) (hcg : PySem.W.codeIn X.K cdv x = true) (hb : L2.Binds X.K (PySem.W.fnOf x x pg bg sg dV kV doc pm an cdv ct) [a] []) (Sg : FnScope Ng [a] sg) (hNg : Ng[0]? = some a) (hva : Vis sg a)
    (hG : GivesTo X Ng x sg g cdv bg a (X.env.qual ++ "<lambda>") (TTk X.K X.mg kind)) (hr : Room (k + 2) X.A) (hd : (a == ("__debug__" : Str)) = false) (hcd : (a == ("__classdict__" : Str)) = false)
    (I : Inv X pins σ H s) (LR : LamR X k l gB) {W : WX} {C : Cn} {F : Hp} {env : En} (R : Rel X.K C F σ H env) (lo : LmOk F H (.ref f) l) (h : After X.K X.mg (okV X.K) W C F σ (runK kind gB env) Q) :
    codeAny (model X.prog X.w) X.A (.call (.ref g) ⟨[.ref f], []⟩) (CR C8.CX0 X.stack X.prog X.w H s Q C8.E0) s := by
  obtain ⟨params, body, scope, ps, el, LP, LB, hbody⟩ := LR.ex
  obtain ⟨f', c', dV', doc', pm', ctv, ef, hf, hc, hdf⟩ := lo
  cases ef
  have hl2 : l.q = X.env.qual ++ "<lambda>" := by rw [el]
  refine run_ofS (N := Ng) (ps := [a]) (us := [.ref f]) (vs := [.ref f]) lk hcg Sg hr I.env0 (hb s [.ref f] I.kIn rfl) (.cons rfl .nil) rfl fun hr' => ?_
  generalize edf : l.df = df at el hdf
  generalize eid : l.id = id at el
  subst el
  obtain ⟨t', ht', hq'⟩ := hG f c' s H Q (fun E H' Q' => (H' f = some (FunO f (lmObj (lmOf X id params body scope df) dV' doc' pm' c' ctv)) ∧ DfOk H' df dV') ∧ tG X.K X.mg (okV X.K) (WE0 E) gB σ H' Q')
    (fun W pn xe E p1 p2 tk hW => pe_actD (i := 0) (dV := dV') (doc := doc') (pm := pm') (ctv := ctv) I LP LB tk hW hr' (fun A outer s H hr2 => hbody A outer s H E f c' hr2) hNg hva hd hcd) (by rw [← hl2]; exact hc)
    ⟨⟨R.fh _ _ hf, dfOk_mono R.fh hdf⟩, C, F, env, R, runK_after h runK_noerr⟩
  exact ⟨t', ht'.nox, hq'⟩
end
end Pf
/-! part PfU5 -/
set_option Elab.async false
set_option linter.all false
set_option maxRecDepth 100000
set_option maxHeartbeats 4000000
namespace Pf
open PySem PySem.Spec PyProof.Rows L2 Evl LamX
theorem ovr_ex {F H : Hp} {G : Hp} (fh : Ex F H) (g : ∀ a o, G a = some o → H a = none) : Ex F (ovr G F) := fun a o h => by
  cases q : G a with
  | some u => have := g a u q; rw [fh a o h] at this; cases this
  | none => rw [ovr_none q]; exact h
theorem Rel.extG {K : PySem.W.Frag} {C : Cn} {F : Hp} {σ : L2.St} {H H1 G : Hp} {env : En} {i : Nat} {T : List (Addr × Str)} (R : Rel K C F σ H env) (ht : env[i]? = some (.tab T)) (hn : noObj env = true) (e : ExtN H H1) (t1 : Tabs T H1)
    (g : ∀ a o, G a = some o → H a = none ∧ H1 a = some o ∧ okNew o) : Rel K C (ovr G F) σ H1 env := by
  have ex : Ex F (ovr G F) := ovr_ex R.fh fun a o q => (g a o q).1
  have R1 := R.extN ht hn e t1
  exact {
    fh := fun a o q => by
      cases z : G a with
      | some u => rw [ovr_some z] at q; cases q; exact (g a _ z).2.1
      | none => rw [ovr_none z] at q; exact R1.fh a o q
    cf := R.cf.trans ex
    new := fun a h1 h2 => by
      cases z : G a with
      | some u => exact (R.fresh (g a u z).1).2
      | none => rw [ovr_none z] at h2; exact R.new a h1 h2
    pres := R1.pres
    bd := R1.bd
    sl := fun j s hs => by
      have q0 := R.sl j s hs
      have q := R1.sl j s hs
      have nf : ∀ p o, F p = none → H p = some o → ovr G F p = none := fun p o h1 h2 => by
        cases z : G p with
        | some u => have := (g p u z).1; rw [h2] at this; cases this
        | none => rw [ovr_none z]; exact h1
      cases s with
      | no => trivial
      | val d => obtain ⟨v, a1, a2⟩ := q; exact ⟨v, a1, dp_mono ex a2⟩
      | own ds => obtain ⟨p, vs, a1, a2, a3, a4, a5⟩ := q0; exact ⟨p, vs, a1, nf p _ a2 a4, a3, e _ _ a4 (fun ps z => by cases z), dps_mono ex a5⟩
      | bor ds => obtain ⟨p, vs, a1, a2, a3, a4, a5⟩ := q0; exact ⟨p, vs, a1, nf p _ a2 a4, a3, e _ _ a4 (fun ps z => by cases z), dps_mono ex a5⟩
      | obj ob =>
        have z := List.all_eq_true.mp hn _ (List.mem_of_getElem? hs)
        cases z
      | raw v => exact q
      | exc a dd fs => obtain ⟨z1, z2, z3, z4⟩ := q; exact ⟨z1, z2, ex _ _ z3, fs_mono ex z4⟩
      | tab T => exact q
      | lam b ls => exact lamSl_mono ex (codeKept_refl _) q
    dis := R1.dis
    len := R1.len
    tb := R1.tb
    nt := fun a o z => by
      cases q : G a with
      | some u => rw [ovr_some q] at z; cases z; exact (g a _ q).2.2
      | none => rw [ovr_none q] at z; exact R.nt a o z }
theorem Rel.tabs {K : PySem.W.Frag} {C : Cn} {F : Hp} {σ : L2.St} {H : Hp} {env : En} {i : Nat} {T : List (Addr × Str)} (R : Rel K C F σ H env) (ht : env[i]? = some (.tab T)) : Tabs T H := by
  obtain ⟨⟨eT, _⟩, _⟩ := R.sl i _ ht
  rw [← eT]
  exact R.tb
section
variable {X : Cx} {W : WX}
theorem LmsOk.len {F H : Hp} : ∀ {vs : List V} {ls : List Lm}, LmsOk F H vs ls → vs.length = ls.length
  | [], [], _ => rfl
  | _ :: _, _ :: _, ⟨_, h⟩ => congrArg Nat.succ (LmsOk.len h)
  | [], _ :: _, h => h.elim
  | _ :: _, [], h => h.elim
theorem LmsOk.app {F H : Hp} : ∀ {vs ws : List V} {ls ms : List Lm}, LmsOk F H vs ls → LmsOk F H ws ms → LmsOk F H (vs ++ ws) (ls ++ ms)
  | [], _, [], _, _, h => h
  | _ :: _, _, _ :: _, _, ⟨a, r⟩, h => ⟨a, LmsOk.app r h⟩
  | [], _, _ :: _, _, h, _ => h.elim
  | _ :: _, _, [], _, h, _ => h.elim
theorem LmsOk.get {F H : Hp} : ∀ {vs : List V} {ls : List Lm} {k : Nat} {v : V}, LmsOk F H vs ls → vs[k]? = some v → ∃ l, ls[k]? = some l ∧ LmOk F H v l
  | [], _, _, _, _, h => by simp at h
  | _ :: _, l :: _, 0, v, ⟨a, _⟩, h => by simp at h; subst h; exact ⟨l, rfl, a⟩
  | _ :: _, _ :: _, k + 1, v, ⟨_, r⟩, h => by
    obtain ⟨l, h1, h2⟩ := LmsOk.get (k := k) r (by simpa using h)
    exact ⟨l, by simpa using h1, h2⟩
  | _ :: _, [], _, _, h, _ => h.elim
end
end Pf
/-! part PfU6 -/
set_option Elab.async false
set_option linter.all false
set_option maxRecDepth 100000
set_option maxHeartbeats 4000000
namespace Pf
open PySem PySem.Spec PyProof.Rows L2 Evl LamX
section
variable {X : Cx} {W : WX}
theorem sv_lamD {T : List (Addr × Str)} {kind : Xc → Option PyData} {gB : M PyData} {x a : Str} {g c P : Addr} {k : Nat} {pg : Arguments} {bg : List Stmt} {sg : Scope} {dV kV doc pm cdv ct oc : Value} {an od : Option Addr} {osl : Array (Option Value)} {Ng : List Str}
    {params : Arguments} {body : Expr} {scope : Scope} {p lpos pos : Pos} {ps : List Str} {df : Bool} (i : Nat) (hg : Gl X x) (hm : X.mg x = some (.ref g)) (hk : PySem.W.keepIn X.K (.ref g) = true)
    (lk : X.K.lookup g = some ⟨oc, od, .func (PySem.W.fnOf x x pg bg sg dV kV doc pm an cdv ct), osl⟩) (hcg : PySem.W.codeIn X.K cdv x = true) (hb : L2.Binds X.K (PySem.W.fnOf x x pg bg sg dV kV doc pm an cdv ct) [a] []) (Sg : FnScope Ng [a] sg) (hNg : Ng[0]? = some a) (hva : Vis sg a)
    (hG : GivesTo X Ng x sg g cdv bg a (X.env.qual ++ "<lambda>") (TTk X.K X.mg kind))
    (TB : TabB X.base X.mg c P) (hcode : X.env.code = .ref c) (hmT : (P, X.env.qual ++ "<lambda>") ∈ T) (hu : ∀ p ∈ T, p.1 = P → p.2 = X.env.qual ++ "<lambda>") (hr : Room (k + 2) X.A) (L : LamP X.N X.env.scope scope ps) (hdef : DfE params X.env df)
    (hbind : LamB (lmOf X 0 params body scope df) ps)
    (hbody : ∀ (A : Around) (outer : List PySem.Env) (s : Shared) (H : Hp) (E : XK) (f c' : Addr), Room k (A.deeper (lamEnv X scope s.heap.objs.size f c')) → SV (lamCx X A outer s H E scope f c') (WE0 E) body gB)
    (hdb : (x == ("__debug__" : Str)) = false := by decide) (hd : (a == ("__debug__" : Str)) = false := by decide) (hcd : (a == ("__classdict__" : Str)) = false := by decide) :
    SV X W (.Call (.Name x p) [.Lambda params body scope lpos] [] pos) (gKind i T kind gB) := by
  constructor
  intro pins s σ H Q I h
  obtain ⟨C, F, env, R, h⟩ := h
  unfold gKind at h
  split at h
  · rename_i T' q
    split at h
    · rename_i hc
      obtain ⟨rfl, hn⟩ := hc
      refine wpAny_Call_Name_kw (ld_glob I hg hm ?_ hdb)
      refine PySem.W.callWith_K (h₀ := X.base) I.ok.mod.kin hk ?_ (by rfl) (by rfl)
      show wpAny _ _ (spliced ((false, eval (.Lambda params body scope lpos) X.env) :: backTo pos (starEach [] X.env))) _ _ s
      refine Calls.spliced_cons (lam_mk (id := 0) I TB hcode hmT hu (R.tabs q) (fun y hy e => L.has I.ok hy e) hdef fun f c' dV' doc' pm' ctv G H1 s' I1 e1 t1 hGG hf hco hd' => ?_)
      refine Calls.spliced_nil ⟨I1.kIn, ?_⟩
      have R1 := R.extG q hn e1 t1 hGG
      have gx : Ex G (ovr G F) := fun a o z => ovr_some z
      have lo : LmOk (ovr G F) H1 (.ref f) (lmOf X 0 params body scope df) := ⟨f, c', dV', doc', pm', ctv, rfl, gx _ _ hf, hco, dfOk_mono gx hd'⟩
      have h' : After X.K X.mg (okV X.K) W C (ovr G F) σ (runK kind gB env) Q := by
        refine After.up (F := F) ?_ (ovr_ex R.fh fun a o z => (hGG a o z).1)
        unfold runK
        exact h
      have rc := kind_code (Q := Q) (l := lmOf X 0 params body scope df) lk hcg hb Sg hNg hva hG hr hd hcd I1 ⟨params, body, scope, ps, rfl, L, hbind, hbody⟩ R1 lo h'
      refine wpAny_call (codeAny_mono rc fun r s2 hq => ?_)
      match r, hq with
      | .error e, hq => exact (show False from hq).elim
      | .ok (.ret u), hq => exact I1.after hq
    · exact h.elim
  · exact h.elim
end
end Pf
/-! part PfU7 -/
set_option Elab.async false
set_option linter.all false
set_option maxRecDepth 100000
set_option maxHeartbeats 4000000
namespace Pf
open PySem PySem.Spec PyProof.Rows L2 Evl LamX
end Pf
/-! part PfU8 -/
set_option Elab.async false
set_option linter.all false
set_option maxRecDepth 100000
set_option maxHeartbeats 4000000
namespace Pf
open PySem PySem.Spec PyProof.Rows L2 Evl LamX
theorem dfE1 {params : Arguments} {env : PySem.Env} {z : Int} {j : Nat} {p : Pos} (h : params.defaults = [.Constant (.int z) j p]) (h2 : params.kw_defaults = []) : DfE params env true := ⟨z, j, p, h, h2⟩
theorem lamB1 {id : Nat} {params : Arguments} {body : Expr} {scope : Scope} {cl : List (Str × Addr)} {q a : Str} (h : ∀ (T : Addr) (doc pm cdv ctv : Value), ∃ k, bindArgs (fdOf ⟨id, params, body, scope, cl, q, true⟩ (.ref T) doc pm cdv ctv) ⟨[], []⟩ = seqItems? (.ref T) >>= k ∧ ∀ u, k (some #[u]) = pure [(a, u)]) :
    LamB ⟨id, params, body, scope, cl, q, true⟩ [a] := ⟨a, rfl, h⟩
end Pf
namespace Pf
noncomputable instance lmDec : DecidableEq Lm := fun a b => Classical.propDecidable (a = b)
end Pf
/-! part PfV1 -/
set_option Elab.async false
set_option linter.all false
set_option maxRecDepth 100000
set_option maxHeartbeats 4000000
namespace Pf
open PySem PySem.Spec L2 Evl
def okR (K : PySem.W.Frag) : OkR (List (List PyData)) V := fun C F σ H env dss v => ∃ G D ps, v = .ref D ∧ RwG K C F G D ps dss ∧ ∀ a o, G a = some o → F a = none ∧ C.H a = none ∧ H a = some o ∧ ∀ i, ¬ Owned σ env i a
def AftR (K : PySem.W.Frag) (mg : Str → Option Value) (W : WX) (C : Cn) (F : Hp) (r : Rs (List (List PyData))) (D : Ends) : Prop := match r with
  | none => False
  | some (.ok (dss, env')) => ∀ v σ F' H', Rel K C F' σ H' env' → Ex F F' → okR K C F' σ H' env' dss v → D.rt v H'
  | some (.error (x, env')) => ∀ σ F' H' cls dx, Rel K C F' σ H' env' → Ex F F' → XOk K mg F' H' cls dx x → W cls dx σ H'
theorem AftR.up {K : PySem.W.Frag} {mg : Str → Option Value} {W : WX} {C : Cn} {F F' : Hp} {r : Rs (List (List PyData))} {D : Ends} (h : AftR K mg W C F r D) (e : Ex F F') : AftR K mg W C F' r D := by
  cases r with
  | none => exact h
  | some r =>
    cases r with
    | error x => obtain ⟨x, env'⟩ := x; exact fun σ F2 H2 cls dx R e2 => h σ F2 H2 cls dx R (e.trans e2)
    | ok y => obtain ⟨y, env'⟩ := y; exact fun v σ F2 H2 R e2 => h v σ F2 H2 R (e.trans e2)
end Pf
/-! part PfV2 -/
set_option Elab.async false
set_option linter.all false
set_option maxRecDepth 100000
set_option maxHeartbeats 4000000
namespace Pf
open PySem PySem.Spec L2 Evl
end Pf
namespace Pf
open PySem PySem.Spec L2 Evl
def gInL (i : Nat) (ga : M PyData) : M Bool := M.bd ga fun d => M.bd (gLk i) fun e => M.opt (inD d e)
def gNinL (i : Nat) (ga : M PyData) : M Bool := M.bd ga fun d => M.bd (gLk i) fun e => M.opt (ninD d e)
section
variable {X : Cx} {W : WX} {a : Expr} {ga : M PyData} {x : Str} {p pos : Pos}
theorem st_inL (i : Nat) (ha : SV X W a ga) (hN : X.N[i]? = some x := by rfl) (hv : Vis X.env.scope x := by first | exact Or.inl rfl | exact Or.inr (Or.inl rfl) | exact Or.inr (Or.inr rfl))
    (hd : (x == ("__debug__" : Str)) = false := by decide) (hcd : (x == ("__classdict__" : Str)) = false := by decide) (hm : behindInMarks .In (.Name x p) = false := by rfl) : ST X W (.Compare a [.In] [.Name x p] pos) (gInL i ga) :=
  pt_imp (pt_cmpR op_in_seq ha (pe_var hN hv hd hcd) hm) fun σ H Q ⟨C, F, env, R, h⟩ => tG_bd R h fun d env1 v F1 H1 R1 e1 o1 h1 => by
    obtain ⟨w, e, b1, b2, h2⟩ := bd_lk R1 h1
    obtain ⟨k, hk, h3⟩ := h2.of_opt
    obtain ⟨q, xs, rfl, f1, f2, f3, rfl⟩ := in_facts (dp_mono R1.fh o1) b2 hk
    exact ⟨.ref q, b1, q, xs, rfl, f1, f2, f3, _, rfl, aft (ok := okB) h3 R1 rfl⟩
theorem st_ninL (i : Nat) (ha : SV X W a ga) (hN : X.N[i]? = some x := by rfl) (hv : Vis X.env.scope x := by first | exact Or.inl rfl | exact Or.inr (Or.inl rfl) | exact Or.inr (Or.inr rfl))
    (hd : (x == ("__debug__" : Str)) = false := by decide) (hcd : (x == ("__classdict__" : Str)) = false := by decide) (hm : behindInMarks .NotIn (.Name x p) = false := by rfl) : ST X W (.Compare a [.NotIn] [.Name x p] pos) (gNinL i ga) :=
  pt_imp (pt_cmpR op_notIn_seq ha (pe_var hN hv hd hcd) hm) fun σ H Q ⟨C, F, env, R, h⟩ => tG_bd R h fun d env1 v F1 H1 R1 e1 o1 h1 => by
    obtain ⟨w, e, b1, b2, h2⟩ := bd_lk R1 h1
    obtain ⟨k, hk, h3⟩ := h2.of_opt
    unfold ninD at hk
    split at hk
    · cases hk
    · rename_i k' hi
      cases hk
      obtain ⟨q, xs, rfl, f1, f2, f3, rfl⟩ := in_facts (dp_mono R1.fh o1) b2 hi
      exact ⟨.ref q, b1, q, xs, rfl, f1, f2, f3, _, rfl, aft (ok := okB) h3 R1 rfl⟩
end
end Pf
/-! part PfW1 -/
set_option Elab.async false
set_option linter.all false
set_option maxRecDepth 100000
set_option maxHeartbeats 4000000
namespace Pf
open PySem PySem.Spec L2 Evl
def strK (ds : List PyData) : Option PyData := match ds with
  | [.int i] => if i.natAbs.log2 < 1920 then some (.str (toString i)) else none
  | _ => none
theorem cd_str {X : Cx} : CallD X (.type "str") strK :=
  ⟨_, call_str_int, fun C F σ H env vs ds d Q R hv hk q => by
    unfold strK at hk
    split at hk
    · rename_i i
      split at hk
      · rename_i hz
        cases hk
        cases hv with
        | cons h1 hr =>
          cases hr
          cases h1
          exact ⟨i, rfl, hz, q _ _ _ R (Ex.refl _) (.str _)⟩
      · cases hk
    · cases hk⟩
def strsD : List PyData → Option (List Str)
  | [] => some []
  | .str x :: r => (strsD r).map fun l => x :: l
  | _ :: _ => none
theorem strs_vs {K : PySem.W.Frag} {F : Hp} : ∀ {vs : List V} {ds : List PyData} {l : List Str}, DpAll K F vs ds → strsD ds = some l → vs = l.map V.str
  | [], [], l, _, h => by cases h; rfl
  | [], _ :: _, _, h, _ => by cases h
  | _ :: _, [], _, h, _ => by cases h
  | v :: vs, d :: ds, l, h, e => by
    cases h with
    | cons h1 hr =>
      cases d with
      | str x =>
        unfold strsD at e
        cases z : strsD ds with
        | none => rw [z] at e; cases e
        | some l' =>
          rw [z] at e
          cases e
          cases h1
          rw [List.map_cons, ← strs_vs hr z]
      | _ => cases e
def joinD (a : Str) (d : PyData) : Option PyData := match seqD d with
  | some ds => (match strsD ds with
    | some ys => if (ys.map (·.length)).sum + ys.length * a.length ≤ 16777216 then some (.str (Txt.join a ys)) else none
    | none => none)
  | none => none
def gJoin (ga gb : M PyData) : M PyData := M.bd ga fun d => match d with
  | .str a => M.bd gb fun e => M.opt (joinD a e)
  | _ => M.no
section
variable {X : Cx} {W : WX} {a b e : Expr} {ga gb : M PyData} {x : Str} {p p1 p2 pos apos : Pos}
theorem sv_join (ha : SV X W a ga) (hb : SV X W b gb) (hs : starEach [b] X.env = [(false, eval b X.env)] := by rfl) (hbase : attributeBase a "join" X.env (eval a X.env) = eval a X.env := by rfl) (hline : (apos.endLine == pos.line) = true := by rfl) :
    SV X W (.Call (.Attribute a "join" apos) [b] [] pos) (gJoin ga gb) :=
  pe_imp (pe_join ha hb hs hbase hline) fun σ H Q ⟨C, F, env, R, h⟩ => tG_bd R h fun d env1 v F1 H1 R1 e1 o1 h1 => by
    cases o1 with
    | str x =>
      refine ⟨⟨x, rfl⟩, tG_bd R1 h1 fun e env2 w F2 H2 R2 e2 o2 h2 => ?_⟩
      obtain ⟨z, hz, h3⟩ := h2.of_opt
      unfold joinD at hz
      cases hq : seqD e with
      | none => rw [hq] at hz; cases hz
      | some ds =>
        rw [hq] at hz
        simp only at hz
        cases hy : strsD ds with
        | none => rw [hy] at hz; cases hz
        | some ys =>
          rw [hy] at hz
          simp only at hz
          split at hz
          · rename_i hl
            cases hz
            have fin := aft (ok := okV X.K) h3 R2 (.str (Txt.join x ys))
            cases o2 with
            | lst s r =>
              cases hq
              exact ⟨x, _, ys, rfl, rfl, .inl (strs_vs r hy ▸ ex_l R2.fh s), hl, fin⟩
            | tup s r =>
              cases hq
              exact ⟨x, _, ys, rfl, rfl, .inr (strs_vs r hy ▸ ex_t R2.fh s), hl, fin⟩
            | _ => cases hq
          · cases hz
    | _ => exact h1.elim
theorem sv_strOf (hg : Gl X "str") (hm : X.mg "str" = none) (hv : bootBuiltins "str" = some (.type "str")) (ha : SA X W (e :: []) gl) (he : starEach (e :: []) X.env = (false, eval e X.env) :: starEach [] X.env := by rfl) (hpl : (backTo pos (starEach [] X.env)).any (·.1) = false := by rfl) :
    SV X W (.Call (.Name "str" p2) (e :: []) [] pos) (M.bd gl fun ds => M.opt (strK ds)) := sv_callT cd_str hg hm hv ha (by decide) (by decide) he hpl
def gLstS (ga gb : M PyData) : M (List PyData) := M.bd ga fun d => M.bd gb fun e => match seqD e with
  | some ds => M.opt (lstD (d :: ds))
  | none => M.no
theorem so_lstS (ha : SV X W a ga) (hb : SV X W b gb) (h1 : starEach [a, .Starred b p] X.env = (false, eval a X.env) :: starEach [.Starred b p] X.env := by rfl) (h2 : starEach [.Starred b p] X.env = (true, eval b X.env) :: starEach [] X.env := by rfl) : SO X W (.List [a, .Starred b p] pos) (gLstS ga gb) :=
  pe_imp (pe_lst (pa_cons ha (StX.pa_star hb pa_nil h2) h1)) fun σ H Q ⟨C, F, env, R, h⟩ => tG_bd R h fun d env1 v F1 H1 R1 e1 o1 h1 => tG_bd R1 h1 fun e env2 w F2 H2 R2 e2 o2 h2 => by
    cases hq : seqD e with
    | none => rw [hq] at h2; exact h2.elim
    | some ds =>
      rw [hq] at h2
      obtain ⟨z, hz, h3⟩ := h2.of_opt
      unfold lstD at hz
      split at hz
      · rename_i hl
        cases hz
        have o1' := dp_mono e2 o1
        have fin : ∀ {xs : List V}, DpAll X.K F2 xs ds → (v :: (xs ++ [])).length ≤ sizeLine ∧ ∀ p, H2 p = none → Q (.ref p) (upd H2 p (.lst (v :: (xs ++ [])))) := fun {xs} r => by
          rw [List.append_nil]
          have o : DpAll X.K F2 (v :: xs) (d :: ds) := .cons o1' r
          have l := o.len
          exact ⟨Nat.le_of_lt (small1000 (by omega)), fun p hp => aft' h3 (R2.newH hp) (Ex.refl _) (okO_new R2 hp o)⟩
        cases o2 with
        | lst s r =>
          cases hq
          exact ⟨_, _, rfl, .inr (ex_l R2.fh s), fin r⟩
        | tup s r =>
          cases hq
          exact ⟨_, _, rfl, .inl (ex_t R2.fh s), fin r⟩
        | _ => cases hq
      · cases hz
end
end Pf
/-! part Rd01 -/
set_option Elab.async false
set_option linter.all false
set_option maxRecDepth 100000
set_option maxHeartbeats 4000000
namespace Q
open PySem PySem.Spec L2 Evl Pf
def G_row_of : S :=
  (gRet (gJoin (gC (.str " ")) (gFz (gLstS (gN 0) (gN 1)))))
def m_row_of : List PyData → Rf PyData := fnD G_row_of 2
def e1_written : M PyData :=
  (gIf (gTst isD (gN 5) (gC .none)) (gC (.str "-")) (gBlt strK (gCons (gN 5) gNil)))
def e2_written : M PyData :=
  (gBlt strK (gCons (gN 6) gNil))
def b3_written : S :=
  (gApp 3 (gCall m_row_of (gCons (gC (.str "lot")) (gCons (gFz (gLcT [6] 6 gYes e2_written (gN 4))) gNil))))
def G_written : S :=
  (gSeq (gEx (gCall m_check_shelf (gCons (gN 0) gNil)))
  (gSeq (gAsg (bTup 2 (bCons (bN 1) (bCons (bN 2) bNil))) (gN 0))
  (gSeq (gSetO 3 (gLst (gCons (gCall m_row_of (gCons (gC (.str "prices")) (gCons (gFz (gLcT [5] 5 gYes e1_written (gN 1))) gNil))) gNil)))
  (gSeq (gForT (gN 2) (bN 4) b3_written)
  (gRet (gJoin (gC (.str "
")) (gN 3)))))))
def m_written : List PyData → Rf PyData := fnD G_written 7
def b1__law_bad : S :=
  (gIfS (gOrT (gTst eqD (gN 3) (gC (.int 12))) (gNotT (gOrT (gTst isD (gIxP 1 (gN 3)) (gC .none)) (gTru (gCall m__law_is (gCons (gIxP 1 (gN 3)) (gCons (gC (.int 1)) (gCons (gC (.int 99)) gNil)))))))) (gRet (gTup (gCons (gC (.int 0)) (gCons (gN 3) gNil)))) gNx)
def b2__law_bad : S :=
  (gSeq (gIfS (gOrT (gNotT (gTru (gCall m__law_is (gCons (gN 5) (gCons (gC (.int 0)) (gCons (gBin subD (gLenP 1) (gC (.int 1))) gNil)))))) (gInL 4 (gN 5))) (gRet (gTup (gCons (gC (.int 1)) (gCons (gN 3) gNil)))) gNx)
  (gApp 4 (gN 5)))
def b3__law_bad : S :=
  (gSeq (gIfS (gOrT (gTst eqD (gN 3) (gC (.int 5))) (gNotT (gTru (gIsa "tuple" (gIxP 2 (gN 3)))))) (gRet (gTup (gCons (gC (.int 1)) (gCons (gN 3) gNil)))) gNx)
  (gForT (gIxP 2 (gN 3)) (bN 5) b2__law_bad))
def t4__law_bad : M Bool :=
  (gNinL 4 (gN 5))
def e5__law_bad : M PyData :=
  (gN 5)
def G__law_bad : S :=
  (gSeq (gIfS (gOrT (gNotT (gTru (gIsa "tuple" (gN 0)))) (gTst neD (gLenP 0) (gC (.int 2)))) (gRet (gTup (gCons (gBin subD (gC (.int 0)) (gC (.int 1))) (gCons (gC (.int 0)) gNil)))) gNx)
  (gSeq (gAsg (bTup 2 (bCons (bN 1) (bCons (bN 2) bNil))) (gN 0))
  (gSeq (gIfS (gOrT (gNotT (gTru (gIsa "tuple" (gN 1)))) (gTst eqD (gN 1) (gTup gNil))) (gRet (gTup (gCons (gC (.int 0)) (gCons (gC (.int 0)) gNil)))) gNx)
  (gSeq (gForR1 (gLenP 1) (bN 3) b1__law_bad)
  (gSeq (gIfS (gOrT (gNotT (gTru (gIsa "tuple" (gN 2)))) (gTst eqD (gN 2) (gTup gNil))) (gRet (gTup (gCons (gC (.int 1)) (gCons (gC (.int 0)) gNil)))) gNx)
  (gSeq (gSetO 4 (gLst gNil))
  (gSeq (gForR1 (gLenP 2) (bN 3) b3__law_bad)
  (gSeq (gSetO 6 (gLcR [5] 5 t4__law_bad e5__law_bad (gLenP 1)))
  (gRet (gIf (gTst neD (gN 6) (gFz (gLst gNil))) (gTup (gCons (gC (.int 2)) (gCons (gIxP 6 (gC (.int 0))) gNil))) (gC .none)))))))))))
def m__law_bad : List PyData → Rf PyData := fnD G__law_bad 7
def G__law_changed : S :=
  (gSeq (gAsg (bTup 2 (bCons (bN 2) (bCons (bN 3) bNil))) (gN 1))
  (gSeq (gE (gCons (gCallB 0 (gCons (gC (.int 12)) gNil) m__law_drawn) (gCons (gBin atD (gFz (gLst (gCons (gBin subD (gC (.int 0)) (gC (.int 1))) (gCons (gC (.int 0)) (gCons (gC (.int 99)) (gCons (gC (.int 100)) (gCons (gC (.int 12)) (gCons (gC (.bool true)) (gCons (gC .none) (gCons (gC (.str "3")) (gCons (gBin powD (gC (.int 10)) (gC (.int 20))) (gCons (gTup (gCons (gC (.int 1)) gNil)) gNil)))))))))))) (gCallB 0 (gCons (gC (.int 10)) gNil) m__law_drawn)) gNil)) (gPar 4 5))
  (gSeq (gIfS (gTst eqD (gN 4) (gC (.int 0))) (gRet (gBin atD (gFz (gLst (gCons (gTup (gCons (gN 2) gNil)) (gCons (gBin addD (gN 1) (gTup (gCons (gC (.int 1)) gNil))) (gCons (gFz (gList (gN 1))) (gCons (gC .none) (gCons (gC (.str "row")) (gCons (gTup gNil) gNil)))))))) (gCallB 0 (gCons (gC (.int 6)) gNil) m__law_drawn))) gNx)
  (gSeq (gIfS (gTst (cmpD fun i j => decide (i < j)) (gN 4) (gC (.int 4))) (gSeq (gSet 6 (gCallB 0 (gCons (gBin addD (gLenP 2) (gC (.int 1))) gNil) m__law_drawn))
  (gSeq (gSetO 7 (gLst (gCons (gBin addD (gBin addD (gSlT (gN 2) gNoPt (gPt (gN 6))) (gTup (gCons (gN 5) gNil))) (gSlT (gN 2) (gPt (gBin addD (gN 6) (gC (.int 1)))) gNoPt)) (gCons (gBin addD (gSlT (gN 2) gNoPt (gPt (gN 6))) (gSlT (gN 2) (gPt (gBin addD (gN 6) (gC (.int 1)))) gNoPt)) gNil))))
  (gSeq (gSet 7 (gBin addD (gN 7) (gFz (gLst (gCons (gBin addD (gBin addD (gSlT (gN 2) gNoPt (gPt (gN 6))) (gTup (gCons (gN 5) gNil))) (gSlT (gN 2) (gPt (gN 6)) gNoPt)) (gCons (gFz (gList (gN 2))) (gCons (gTup gNil) (gCons (gBin addD (gN 2) (gBin repT (gTup (gCons (gC (.int 1)) gNil)) (gC (.int 12)))) gNil))))))))
  (gRet (gTup (gCons (gIxP 7 (gCallB 0 (gCons (gC (.int 6)) gNil) m__law_drawn)) (gCons (gN 3) gNil))))))) gNx)
  (gSeq (gSet 6 (gCallB 0 (gCons (gLenP 3) gNil) m__law_drawn))
  (gSeq (gSet 8 (gIxP 3 (gN 6)))
  (gSeq (gSet 9 (gCallB 0 (gCons (gBin addD (gLenP 8) (gC (.int 1))) gNil) m__law_drawn))
  (gSeq (gIfS (gTst (cmpD fun i j => decide (i < j)) (gN 4) (gC (.int 8))) (gSeq (gSetO 7 (gLst (gCons (gBin addD (gBin addD (gSlT (gN 8) gNoPt (gPt (gN 9))) (gTup (gCons (gN 5) gNil))) (gSlT (gN 8) (gPt (gN 9)) gNoPt)) (gCons (gBin addD (gSlT (gN 8) gNoPt (gPt (gN 9))) (gSlT (gN 8) (gPt (gBin addD (gN 9) (gC (.int 1)))) gNoPt)) (gCons (gBin addD (gBin addD (gSlT (gN 8) gNoPt (gPt (gN 9))) (gSlT (gN 8) gNoPt (gPt (gC (.int 1))))) (gSlT (gN 8) (gPt (gN 9)) gNoPt)) gNil)))))
  (gSeq (gSet 8 (gBin atD (gBin addD (gN 7) (gFz (gLst (gCons (gFz (gList (gN 8))) (gCons (gIxP 3 (gC (.int 0))) gNil))))) (gCallB 0 (gCons (gC (.int 5)) gNil) m__law_drawn)))
  (gRet (gTup (gCons (gN 2) (gCons (gBin addD (gBin addD (gSlT (gN 3) gNoPt (gPt (gN 6))) (gTup (gCons (gN 8) gNil))) (gSlT (gN 3) (gPt (gBin addD (gN 6) (gC (.int 1)))) gNoPt)) gNil)))))) gNx)
  (gSeq (gSetO 7 (gLst (gCons (gBin addD (gN 3) (gBin repT (gTup (gCons (gTup gNil) gNil)) (gC (.int 5)))) (gCons (gTup gNil) (gCons (gFz (gList (gN 3))) (gCons (gBin addD (gSlT (gN 3) gNoPt (gPt (gN 6))) (gSlT (gN 3) (gPt (gBin addD (gN 6) (gC (.int 1)))) gNoPt)) (gCons (gBin addD (gN 3) (gTup (gCons (gN 5) gNil))) gNil)))))))
  (gRet (gTup (gCons (gN 2) (gCons (gIxP 7 (gCallB 0 (gCons (gC (.int 5)) gNil) m__law_drawn)) gNil)))))))))))))
def m__law_changed : List PyData → List PyData → Rf (PyData × List PyData) := fnB G__law_changed 10
def G_kind_BadShelf (a dd : Addr) : S :=
  (gSeq (gSetO 2 (gLst (gCons (gIsK a dd 1 true) (gCons (gIsK a dd 1 false) (gCons (gIsK a dd 1 false) (gCons (gIsK a dd 1 false) gNil))))))
  (gSeq (gSetO 2 (gCat (gNO 2) (gLst (gCons (gIsK a dd 1 false) (gCons (gIsK a dd 1 false) (gCons (gIsK a dd 1 false) (gCons (gIsK a dd 1 false) gNil)))))))
  (gSeq (gSetO 2 (gCat (gNO 2) (gLst (gCons (gIsK a dd 1 false) gNil))))
  (gSeq (gSet 3 (gC (.str "BadShelf BadGoal BadWish BadWay NoWay BadName NoPoint Halted BadText")))
  (gSeq (gIfS (gOrT (gTst neD (gCount 2 (gC (.bool true))) (gC (.int 1))) (gNotT (gTru (gIsK a dd 1 true)))) (gRet (gC (.str "other"))) gNx)
  (gSeq (gSet 4 (gBin atD (gFz (gSplit (gN 3) (gC (.str " ")))) (gIndex 2 (gC (.bool true)))))
  (gSeq (gIfS (gTst eqD (gN 4) (gC (.str "BadShelf"))) (gRet (gTup (gCons (gN 4) (gCons (gXf a dd 1 "part") (gCons (gXf a dd 1 "number") gNil))))) gNx)
  (gSeq (gIfS (gTst eqD (gN 4) (gC (.str "BadWay"))) (gRet (gTup (gCons (gN 4) (gCons (gXf a dd 1 "number") (gCons (gXf a dd 1 "why") gNil))))) gNx)
  (gSeq (gIfS (gTst eqD (gN 4) (gC (.str "Halted"))) (gRet (gTup (gCons (gN 4) (gCons (gXf a dd 1 "number") (gCons (gXf a dd 1 "done") gNil))))) gNx)
  (gSeq (gIfS (gTst inD (gN 4) (gTup (gCons (gC (.str "BadGoal")) (gCons (gC (.str "BadWish")) gNil)))) (gRet (gTup (gCons (gN 4) (gCons (gXf a dd 1 "number") gNil)))) gNx)
  (gRet (gIf (gTst eqD (gN 4) (gC (.str "BadText"))) (gTup (gCons (gN 4) (gCons (gXf a dd 1 "row") gNil))) (gN 4)))))))))))))
def G_kind_BadWay (a dd : Addr) : S :=
  (gSeq (gSetO 2 (gLst (gCons (gIsK a dd 1 false) (gCons (gIsK a dd 1 false) (gCons (gIsK a dd 1 false) (gCons (gIsK a dd 1 true) gNil))))))
  (gSeq (gSetO 2 (gCat (gNO 2) (gLst (gCons (gIsK a dd 1 false) (gCons (gIsK a dd 1 false) (gCons (gIsK a dd 1 false) (gCons (gIsK a dd 1 false) gNil)))))))
  (gSeq (gSetO 2 (gCat (gNO 2) (gLst (gCons (gIsK a dd 1 false) gNil))))
  (gSeq (gSet 3 (gC (.str "BadShelf BadGoal BadWish BadWay NoWay BadName NoPoint Halted BadText")))
  (gSeq (gIfS (gOrT (gTst neD (gCount 2 (gC (.bool true))) (gC (.int 1))) (gNotT (gTru (gIsK a dd 1 true)))) (gRet (gC (.str "other"))) gNx)
  (gSeq (gSet 4 (gBin atD (gFz (gSplit (gN 3) (gC (.str " ")))) (gIndex 2 (gC (.bool true)))))
  (gSeq (gIfS (gTst eqD (gN 4) (gC (.str "BadShelf"))) (gRet (gTup (gCons (gN 4) (gCons (gXf a dd 1 "part") (gCons (gXf a dd 1 "number") gNil))))) gNx)
  (gSeq (gIfS (gTst eqD (gN 4) (gC (.str "BadWay"))) (gRet (gTup (gCons (gN 4) (gCons (gXf a dd 1 "number") (gCons (gXf a dd 1 "why") gNil))))) gNx)
  (gSeq (gIfS (gTst eqD (gN 4) (gC (.str "Halted"))) (gRet (gTup (gCons (gN 4) (gCons (gXf a dd 1 "number") (gCons (gXf a dd 1 "done") gNil))))) gNx)
  (gSeq (gIfS (gTst inD (gN 4) (gTup (gCons (gC (.str "BadGoal")) (gCons (gC (.str "BadWish")) gNil)))) (gRet (gTup (gCons (gN 4) (gCons (gXf a dd 1 "number") gNil)))) gNx)
  (gRet (gIf (gTst eqD (gN 4) (gC (.str "BadText"))) (gTup (gCons (gN 4) (gCons (gXf a dd 1 "row") gNil))) (gN 4)))))))))))))
def kWords : List Str := ["BadShelf", "BadGoal", "BadWish", "BadWay", "NoWay", "BadName", "NoPoint", "Halted", "BadText"]
theorem words_split : splitD (.str "BadShelf BadGoal BadWish BadWay NoWay BadName NoPoint Halted BadText") (.str " ") = some (kWords.map .str) := by
  have h : ((" " : Str).length == 0) = false ∧ ("BadShelf BadGoal BadWish BadWay NoWay BadName NoPoint Halted BadText" : Str).length ≤ 1000000 := by decide +kernel
  have e : Txt.split "BadShelf BadGoal BadWish BadWay NoWay BadName NoPoint Halted BadText" " " = kWords := by decide +kernel
  show (if ((" " : Str).length == 0) = false ∧ ("BadShelf BadGoal BadWish BadWay NoWay BadName NoPoint Halted BadText" : Str).length ≤ 1000000 then some ((Txt.split "BadShelf BadGoal BadWish BadWay NoWay BadName NoPoint Halted BadText" " ").map PyData.str) else none) = _
  rw [if_pos h, e]
theorem kind_BadShelf (a dd : Addr) (v0 v1 : PyData) : ∃ env', G_kind_BadShelf a dd (envX 5 1 a dd [("number", v1), ("part", v0)]) = some (.rt (.tuple [.str "BadShelf", v0, v1]) env') := by
  have c1 : cntD [.bool true, .bool false, .bool false, .bool false, .bool false, .bool false, .bool false, .bool false, .bool false] (.bool true) = some (.int 1) := by rfl
  have c2 : idxD [.bool true, .bool false, .bool false, .bool false, .bool false, .bool false, .bool false, .bool false, .bool false] (.bool true) = some (.int 0) := by rfl
  have c3 : atD (.list (kWords.map .str)) (.int 0) = some (.str "BadShelf") := by rfl
  have z1 : (Str.ofString "part" == Str.ofString "number") = false := by decide +kernel
  have c5 : ([(Str.ofString "number", v1), (Str.ofString "part", v0)] : List (Str × PyData)).lookup (Str.ofString "part") = some v0 := by
    simp [List.lookup_cons, z1]
  have c6 : ([(Str.ofString "number", v1), (Str.ofString "part", v0)] : List (Str × PyData)).lookup (Str.ofString "number") = some v1 := by
    simp [List.lookup_cons]
  have e_BadShelf : eqD (.str "BadShelf") (.str "BadShelf") = some true := by decide +kernel
  simp [G_kind_BadShelf, envX, gSeq, gSetO, gE, Pf.gLst, Pf.gCons, Pf.gNil, gIsK, M.bd, M.opt, M.ok, M.no, lstD, gStO, gNO, gC, gSt, gIfS, gIf, gOrT, gTst, gCount, gNotT, gTru, gHeld, c1, c2, c3, c5, c6, e_BadShelf, neD_int, truD, gNx, gN, gSplit, words_split, gIndex, Pf.gTup, tupD, gXf, gRt, gRet, gBin, gFz]
theorem kind_BadWay (a dd : Addr) (v0 v1 : PyData) : ∃ env', G_kind_BadWay a dd (envX 5 1 a dd [("why", v1), ("number", v0)]) = some (.rt (.tuple [.str "BadWay", v0, v1]) env') := by
  have c1 : cntD [.bool false, .bool false, .bool false, .bool true, .bool false, .bool false, .bool false, .bool false, .bool false] (.bool true) = some (.int 1) := by rfl
  have c2 : idxD [.bool false, .bool false, .bool false, .bool true, .bool false, .bool false, .bool false, .bool false, .bool false] (.bool true) = some (.int 3) := by rfl
  have c3 : atD (.list (kWords.map .str)) (.int 3) = some (.str "BadWay") := by rfl
  have z1 : (Str.ofString "number" == Str.ofString "why") = false := by decide +kernel
  have c5 : ([(Str.ofString "why", v1), (Str.ofString "number", v0)] : List (Str × PyData)).lookup (Str.ofString "number") = some v0 := by
    simp [List.lookup_cons, z1]
  have c6 : ([(Str.ofString "why", v1), (Str.ofString "number", v0)] : List (Str × PyData)).lookup (Str.ofString "why") = some v1 := by
    simp [List.lookup_cons]
  have e_BadShelf : eqD (.str "BadWay") (.str "BadShelf") = some false := by decide +kernel
  have e_BadWay : eqD (.str "BadWay") (.str "BadWay") = some true := by decide +kernel
  simp [G_kind_BadWay, envX, gSeq, gSetO, gE, Pf.gLst, Pf.gCons, Pf.gNil, gIsK, M.bd, M.opt, M.ok, M.no, lstD, gStO, gNO, gC, gSt, gIfS, gIf, gOrT, gTst, gCount, gNotT, gTru, gHeld, c1, c2, c3, c5, c6, e_BadShelf, e_BadWay, neD_int, truD, gNx, gN, gSplit, words_split, gIndex, Pf.gTup, tupD, gXf, gRt, gRet, gBin, gFz]
def kindX (x : Xc) : Option PyData := match x.fs with
  | some [(f2, y), (f1, z)] => if x.cls = "BadShelf" ∧ f2 = "number" ∧ f1 = "part" then some (.tuple [.str "BadShelf", z, y]) else if x.cls = "BadWay" ∧ f2 = "why" ∧ f1 = "number" then some (.tuple [.str "BadWay", z, y]) else none
  | _ => none
def qLam : Str := (("law" : Str) ++ (".<locals>." : Str)) ++ ("<lambda>" : Str)
def b1_law (Pt : Addr) : S :=
  (gIfS (gTst isD (gCall m__law_bad (gCons (gN 7) gNil)) (gC .none)) (gSet 7 (gCallB 1 (gCons (gN 7) gNil) m__law_changed)) gNx)
def b2_law (Pt : Addr) : S :=
  (gSeq (gSet 7 (gCallB 1 (gCons (gC (.int 12)) (gCons (gC (.int 5)) gNil)) m__law_shelf))
  (gSeq (gForR1 (gCallB 1 (gCons (gC (.int 3)) gNil) m__law_drawn) (bN 3) (b1_law Pt))
  (gSeq (gSet 4 (gCall m__law_bad (gCons (gN 7) gNil)))
  (gSeq (gSet 5 (gIf (gTst isD (gN 4) (gC .none)) (gC .none) (gBin addD (gTup (gCons (gC (.str "BadShelf")) gNil)) (gN 4))))
  (gSeq (gSetO 6 (gLst (gCons (gKind 8 [(Pt, qLam)] kindX (gCall m_written (gCons (gN 7) gNil))) (gCons (gKind 8 [(Pt, qLam)] kindX (gCall m_done (gCons (gN 7) (gCons (gC .none) gNil)))) gNil))))
  (gSeq (gIfS (gTst neD (gIxP 6 (gC (.int 1))) (gIf (gTst isD (gN 5) (gC .none)) (gTup (gCons (gC (.str "BadWay")) (gCons (gC (.int 0)) (gCons (gC (.str "form")) gNil)))) (gN 5))) (gRet (gC (.bool false))) gNx)
  (gIfS (gOrT (gAndT (gTst isnD (gN 5) (gC .none)) (gTst neD (gIxP 6 (gC (.int 0))) (gN 5))) (gAndT (gTst isD (gN 5) (gC .none)) (gNotT (gTru (gIsa "str" (gIxP 6 (gC (.int 0)))))))) (gRet (gC (.bool false))) gNx)))))))
def G_law (Pt : Addr) : S :=
  (gSeq (gSetO 1 (gCall m__law_start (gCons (gN 0) gNil)))
  (gSeq (gForR1 (gC (.int 8)) (bN 2) (b2_law Pt))
  (gRet (gC (.bool true)))))
def envL (Pt : Addr) (ns : List Int) : En := .val (.list (ns.map PyData.int)) :: (List.replicate 7 .no ++ [.tab [(Pt, qLam)]])
def scriptOk (ns : List Int) : Prop := ns.length ≤ 63 ∧ ∀ z ∈ ns, Builtin.Int.intBits z ≤ 1048576
end Q
/-! part K01 -/
set_option Elab.async false
set_option linter.all false
set_option maxRecDepth 100000
set_option maxHeartbeats 4000000
namespace Q
open PySem PySem.Spec L2 Evl Pf
def hBody (st : Stmt) : List Stmt := match defBody st with
  | [.Try _ [.ExceptHandler _ _ b _] _ _ _] => b
  | _ => []
def topS (i : Nat) : Stmt := PySem.Challenge.pw_pinshelf_k01_shelves_refused.main.body.getD i (.Pass ⟨0, 0, 0, 0⟩)
abbrev s_is_number : Stmt := topS 15
abbrev N_is_number : List Str := ["value"]
theorem sc_is_number : FnScope N_is_number ["value"] (defScope s_is_number) := ⟨rfl, rfl, rfl, by decide +kernel, rfl, by decide +kernel, by decide +kernel⟩
abbrev a_is_number (f : Nat → Addr) : Addr := f 15
abbrev d_is_number (fd : Nat → FuncData) : FuncData := fd 15
abbrev s_is_place : Stmt := topS 16
abbrev N_is_place : List Str := ["value", "many"]
theorem sc_is_place : FnScope N_is_place ["value", "many"] (defScope s_is_place) := ⟨rfl, rfl, rfl, by decide +kernel, rfl, by decide +kernel, by decide +kernel⟩
abbrev a_is_place (f : Nat → Addr) : Addr := f 16
abbrev d_is_place (fd : Nat → FuncData) : FuncData := fd 16
abbrev s_is_price : Stmt := topS 17
abbrev N_is_price : List Str := ["value"]
theorem sc_is_price : FnScope N_is_price ["value"] (defScope s_is_price) := ⟨rfl, rfl, rfl, by decide +kernel, rfl, by decide +kernel, by decide +kernel⟩
abbrev a_is_price (f : Nat → Addr) : Addr := f 17
abbrev d_is_price (fd : Nat → FuncData) : FuncData := fd 17
abbrev s_lot_of : Stmt := topS 18
abbrev N_lot_of : List Str := ["lots", "book", "number", "lot"]
theorem sc_lot_of : FnScope N_lot_of ["lots", "book"] (defScope s_lot_of) := ⟨rfl, rfl, rfl, by decide +kernel, rfl, by decide +kernel, by decide +kernel⟩
abbrev a_lot_of (f : Nat → Addr) : Addr := f 18
abbrev d_lot_of (fd : Nat → FuncData) : FuncData := fd 18
abbrev s_wrong_price : Stmt := topS 19
abbrev N_wrong_price : List Str := ["prices", "number", "price"]
theorem sc_wrong_price : FnScope N_wrong_price ["prices"] (defScope s_wrong_price) := ⟨rfl, rfl, rfl, by decide +kernel, rfl, by decide +kernel, by decide +kernel⟩
abbrev a_wrong_price (f : Nat → Addr) : Addr := f 19
abbrev d_wrong_price (fd : Nat → FuncData) : FuncData := fd 19
abbrev s_wrong_lot : Stmt := topS 20
abbrev N_wrong_lot : List Str := ["lots", "books", "fewest", "most", "seen", "number", "lot", "book"]
theorem sc_wrong_lot : FnScope N_wrong_lot ["lots", "books", "fewest", "most"] (defScope s_wrong_lot) := ⟨rfl, rfl, rfl, by decide +kernel, rfl, by decide +kernel, by decide +kernel⟩
abbrev a_wrong_lot (f : Nat → Addr) : Addr := f 20
abbrev d_wrong_lot (fd : Nat → FuncData) : FuncData := fd 20
abbrev s_missing_book : Stmt := topS 21
abbrev N_missing_book : List Str := ["lots", "books", "book"]
theorem sc_missing_book : FnScope N_missing_book ["lots", "books"] (defScope s_missing_book) := ⟨rfl, rfl, rfl, by decide +kernel, rfl, by decide +kernel, by decide +kernel⟩
abbrev a_missing_book (f : Nat → Addr) : Addr := f 21
abbrev d_missing_book (fd : Nat → FuncData) : FuncData := fd 21
abbrev s_check_shelf : Stmt := topS 22
abbrev N_check_shelf : List Str := ["shelf", "prices", "lots", "number"]
theorem sc_check_shelf : FnScope N_check_shelf ["shelf"] (defScope s_check_shelf) := ⟨rfl, rfl, rfl, by decide +kernel, rfl, by decide +kernel, by decide +kernel⟩
abbrev a_check_shelf (f : Nat → Addr) : Addr := f 22
abbrev d_check_shelf (fd : Nat → FuncData) : FuncData := fd 22
abbrev s_row_of : Stmt := topS 27
abbrev N_row_of : List Str := ["head", "words"]
theorem sc_row_of : FnScope N_row_of ["head", "words"] (defScope s_row_of) := ⟨rfl, rfl, rfl, by decide +kernel, rfl, by decide +kernel, by decide +kernel⟩
abbrev a_row_of (f : Nat → Addr) : Addr := f 27
abbrev d_row_of (fd : Nat → FuncData) : FuncData := fd 27
abbrev s_written : Stmt := topS 28
abbrev N_written : List Str := ["shelf", "prices", "lots", "rows", "lot", "price", "book"]
theorem sc_written : FnScope N_written ["shelf"] (defScope s_written) := ⟨rfl, rfl, rfl, by decide +kernel, rfl, by decide +kernel, by decide +kernel⟩
abbrev a_written (f : Nat → Addr) : Addr := f 28
abbrev d_written (fd : Nat → FuncData) : FuncData := fd 28
abbrev s_is_deed : Stmt := topS 32
abbrev N_is_deed : List Str := ["shelf", "deed", "prices", "lots", "book", "lot", "end"]
theorem sc_is_deed : FnScope N_is_deed ["shelf", "deed"] (defScope s_is_deed) := ⟨rfl, rfl, rfl, by decide +kernel, rfl, by decide +kernel, by decide +kernel⟩
abbrev a_is_deed (f : Nat → Addr) : Addr := f 32
abbrev d_is_deed (fd : Nat → FuncData) : FuncData := fd 32
abbrev s_why_not : Stmt := topS 33
abbrev N_why_not : List Str := ["shelf", "deed", "prices"]
theorem sc_why_not : FnScope N_why_not ["shelf", "deed"] (defScope s_why_not) := ⟨rfl, rfl, rfl, by decide +kernel, rfl, by decide +kernel, by decide +kernel⟩
abbrev a_why_not (f : Nat → Addr) : Addr := f 33
abbrev d_why_not (fd : Nat → FuncData) : FuncData := fd 33
abbrev s_check_list : Stmt := topS 34
abbrev N_check_list : List Str := ["deeds"]
theorem sc_check_list : FnScope N_check_list ["deeds"] (defScope s_check_list) := ⟨rfl, rfl, rfl, by decide +kernel, rfl, by decide +kernel, by decide +kernel⟩
abbrev a_check_list (f : Nat → Addr) : Addr := f 34
abbrev d_check_list (fd : Nat → FuncData) : FuncData := fd 34
abbrev s_check_deeds : Stmt := topS 35
abbrev N_check_deeds : List Str := ["shelf", "deeds", "number", "deed", "why"]
theorem sc_check_deeds : FnScope N_check_deeds ["shelf", "deeds"] (defScope s_check_deeds) := ⟨rfl, rfl, rfl, by decide +kernel, rfl, by decide +kernel, by decide +kernel⟩
abbrev a_check_deeds (f : Nat → Addr) : Addr := f 35
abbrev d_check_deeds (fd : Nat → FuncData) : FuncData := fd 35
abbrev s_lots_behind : Stmt := topS 36
abbrev N_lots_behind : List Str := ["lots", "deed", "moved", "target", "end", "rows", "lot", "book", "row"]
theorem sc_lots_behind : FnScope N_lots_behind ["lots", "deed"] (defScope s_lots_behind) := ⟨rfl, rfl, rfl, by decide +kernel, rfl, by decide +kernel, by decide +kernel⟩
abbrev a_lots_behind (f : Nat → Addr) : Addr := f 36
abbrev d_lots_behind (fd : Nat → FuncData) : FuncData := fd 36
abbrev s_outcome : Stmt := topS 37
abbrev N_outcome : List Str := ["shelf", "deeds", "prices", "lots", "cost", "deed"]
theorem sc_outcome : FnScope N_outcome ["shelf", "deeds"] (defScope s_outcome) := ⟨rfl, rfl, rfl, by decide +kernel, rfl, by decide +kernel, by decide +kernel⟩
abbrev a_outcome (f : Nat → Addr) : Addr := f 37
abbrev d_outcome (fd : Nat → FuncData) : FuncData := fd 37
abbrev s_done : Stmt := topS 38
abbrev N_done : List Str := ["shelf", "deeds"]
theorem sc_done : FnScope N_done ["shelf", "deeds"] (defScope s_done) := ⟨rfl, rfl, rfl, by decide +kernel, rfl, by decide +kernel, by decide +kernel⟩
abbrev a_done (f : Nat → Addr) : Addr := f 38
abbrev d_done (fd : Nat → FuncData) : FuncData := fd 38
abbrev s__law_start : Stmt := topS 40
abbrev N__law_start : List Str := ["_law_script", "_law_mixed", "_law_cell"]
theorem sc__law_start : FnScope N__law_start ["_law_script"] (defScope s__law_start) := ⟨rfl, rfl, rfl, by decide +kernel, rfl, by decide +kernel, by decide +kernel⟩
abbrev a__law_start (f : Nat → Addr) : Addr := f 40
abbrev d__law_start (fd : Nat → FuncData) : FuncData := fd 40
abbrev s__law_drawn : Stmt := topS 41
abbrev N__law_drawn : List Str := ["_law_state", "_law_many", "_law_found", "_law_cell"]
theorem sc__law_drawn : FnScope N__law_drawn ["_law_state", "_law_many"] (defScope s__law_drawn) := ⟨rfl, rfl, rfl, by decide +kernel, rfl, by decide +kernel, by decide +kernel⟩
abbrev a__law_drawn (f : Nat → Addr) : Addr := f 41
abbrev d__law_drawn (fd : Nat → FuncData) : FuncData := fd 41
abbrev s__law_turned : Stmt := topS 43
abbrev N__law_turned : List Str := ["_law_state", "_law_many", "_law_left", "_law_found"]
theorem sc__law_turned : FnScope N__law_turned ["_law_state", "_law_many"] (defScope s__law_turned) := ⟨rfl, rfl, rfl, by decide +kernel, rfl, by decide +kernel, by decide +kernel⟩
abbrev a__law_turned (f : Nat → Addr) : Addr := f 43
abbrev d__law_turned (fd : Nat → FuncData) : FuncData := fd 43
abbrev s__law_lots : Stmt := topS 44
abbrev N__law_lots : List Str := ["_law_state", "_law_many", "_law_lots_here", "_law_found", "_law_book", "_law_k"]
theorem sc__law_lots : FnScope N__law_lots ["_law_state", "_law_many", "_law_lots_here"] (defScope s__law_lots) := ⟨rfl, rfl, rfl, by decide +kernel, rfl, by decide +kernel, by decide +kernel⟩
abbrev a__law_lots (f : Nat → Addr) : Addr := f 44
abbrev d__law_lots (fd : Nat → FuncData) : FuncData := fd 44
abbrev s__law_shelf : Stmt := topS 45
abbrev N__law_shelf : List Str := ["_law_state", "_law_most", "_law_lots_here", "_law_many", "_law_dear", "_law_rare", "_law_prices", "_law_k"]
theorem sc__law_shelf : FnScope N__law_shelf ["_law_state", "_law_most", "_law_lots_here"] (defScope s__law_shelf) := ⟨rfl, rfl, rfl, by decide +kernel, rfl, by decide +kernel, by decide +kernel⟩
abbrev a__law_shelf (f : Nat → Addr) : Addr := f 45
abbrev d__law_shelf (fd : Nat → FuncData) : FuncData := fd 45
abbrev s__law_is : Stmt := topS 48
abbrev N__law_is : List Str := ["_law_thing", "_law_low", "_law_high"]
theorem sc__law_is : FnScope N__law_is ["_law_thing", "_law_low", "_law_high"] (defScope s__law_is) := ⟨rfl, rfl, rfl, by decide +kernel, rfl, by decide +kernel, by decide +kernel⟩
abbrev a__law_is (f : Nat → Addr) : Addr := f 48
abbrev d__law_is (fd : Nat → FuncData) : FuncData := fd 48
abbrev s__law_bad : Stmt := topS 49
abbrev N__law_bad : List Str := ["_law_shelf_here", "_law_prices", "_law_lots_here", "_law_k", "_law_met", "_law_book", "_law_left"]
theorem sc__law_bad : FnScope N__law_bad ["_law_shelf_here"] (defScope s__law_bad) := ⟨rfl, rfl, rfl, by decide +kernel, rfl, by decide +kernel, by decide +kernel⟩
abbrev a__law_bad (f : Nat → Addr) : Addr := f 49
abbrev d__law_bad (fd : Nat → FuncData) : FuncData := fd 49
abbrev s__law_changed : Stmt := topS 50
abbrev N__law_changed : List Str := ["_law_state", "_law_shelf_here", "_law_prices", "_law_lots_here", "_law_way", "_law_odd", "_law_at", "_law_some", "_law_lot", "_law_place"]
theorem sc__law_changed : FnScope N__law_changed ["_law_state", "_law_shelf_here"] (defScope s__law_changed) := ⟨rfl, rfl, rfl, by decide +kernel, rfl, by decide +kernel, by decide +kernel⟩
abbrev a__law_changed (f : Nat → Addr) : Addr := f 50
abbrev d__law_changed (fd : Nat → FuncData) : FuncData := fd 50
abbrev s__law_kind : Stmt := topS 42
abbrev N__law_kind : List Str := ["_law_work", "e", "_law_kinds", "_law_words", "_law_word"]
theorem sc__law_kind : FnScope N__law_kind ["_law_work"] (defScope s__law_kind) := ⟨rfl, rfl, rfl, by decide +kernel, rfl, by decide +kernel, by decide +kernel⟩
abbrev a__law_kind (f : Nat → Addr) : Addr := f 42
abbrev d__law_kind (fd : Nat → FuncData) : FuncData := fd 42
abbrev s_law : Stmt := topS 51
abbrev N_law : List Str := ["_law_script", "_law_state", "_law_turn", "_law_change", "_law_wrong", "_law_due", "_law_told", "_law_shelf_here", ".t"]
theorem sc_law : FnScope N_law ["_law_script"] (defScope s_law) := ⟨rfl, rfl, rfl, by decide +kernel, rfl, by decide +kernel, by decide +kernel⟩
structure Tx (K : PySem.W.Frag) (mg : Str → Option Value) (f : Nat → Addr) (fd : Nat → FuncData) (g : Nat → Addr) (gd : Nat → FuncData) : Prop where
  n_ValueError : mg "ValueError" = none
  n_bool : mg "bool" = none
  n_enumerate : mg "enumerate" = none
  n_int : mg "int" = none
  n_isinstance : mg "isinstance" = none
  n_len : mg "len" = none
  n_list : mg "list" = none
  n_range : mg "range" = none
  n_set : mg "set" = none
  n_str : mg "str" = none
  n_tuple : mg "tuple" = none
  c_FIRST : ∃ u, mg "FIRST" = some u ∧ RelV (.str "first") u
  c_FIXED : ∃ u, mg "FIXED" = some u ∧ RelV (.str "-") u
  c_LAST : ∃ u, mg "LAST" = some u ∧ RelV (.str "last") u
  c_LOT : ∃ u, mg "LOT" = some u ∧ RelV (.str "lot") u
  c_MOST_BOOKS : ∃ u, mg "MOST_BOOKS" = some u ∧ RelV (.int 12) u
  c_MOST_LOTS : ∃ u, mg "MOST_LOTS" = some u ∧ RelV (.int 5) u
  c_MOST_PRICE : ∃ u, mg "MOST_PRICE" = some u ∧ RelV (.int 99) u
  c_PRICES : ∃ u, mg "PRICES" = some u ∧ RelV (.str "prices") u
  gc_BadGoal : mg "BadGoal" = some (.ref (f 3))
  gc_BadName : mg "BadName" = some (.ref (f 7))
  gc_BadShelf : mg "BadShelf" = some (.ref (f 2))
  gc_BadText : mg "BadText" = some (.ref (f 10))
  gc_BadWay : mg "BadWay" = some (.ref (f 5))
  gc_BadWish : mg "BadWish" = some (.ref (f 4))
  gc_Halted : mg "Halted" = some (.ref (f 9))
  gc_NoPoint : mg "NoPoint" = some (.ref (f 8))
  gc_NoWay : mg "NoWay" = some (.ref (f 6))
  ec_BadShelf : ExcC K (f 2)
  xf_BadShelf : XfC K (f 2)
  exm_BadShelf : PySem.W.exmOne K (.ref (f 2)) (.ref (f 1)) = some true
  ec_BadWay : ExcC K (f 5)
  xf_BadWay : XfC K (f 5)
  exm_BadWay : PySem.W.exmOne K (.ref (f 5)) (.ref (f 1)) = some true
  gh_ShelfError : mg "ShelfError" = some (.ref (f 1))
  kit_BadShelf_BadGoal : PySem.W.kitOne K (.ref (f 2)) (.ref (f 3)) = some false
  kit_BadShelf_BadName : PySem.W.kitOne K (.ref (f 2)) (.ref (f 7)) = some false
  kit_BadShelf_BadShelf : PySem.W.kitOne K (.ref (f 2)) (.ref (f 2)) = some true
  kit_BadShelf_BadText : PySem.W.kitOne K (.ref (f 2)) (.ref (f 10)) = some false
  kit_BadShelf_BadWay : PySem.W.kitOne K (.ref (f 2)) (.ref (f 5)) = some false
  kit_BadShelf_BadWish : PySem.W.kitOne K (.ref (f 2)) (.ref (f 4)) = some false
  kit_BadShelf_Halted : PySem.W.kitOne K (.ref (f 2)) (.ref (f 9)) = some false
  kit_BadShelf_NoPoint : PySem.W.kitOne K (.ref (f 2)) (.ref (f 8)) = some false
  kit_BadShelf_NoWay : PySem.W.kitOne K (.ref (f 2)) (.ref (f 6)) = some false
  kit_BadWay_BadGoal : PySem.W.kitOne K (.ref (f 5)) (.ref (f 3)) = some false
  kit_BadWay_BadName : PySem.W.kitOne K (.ref (f 5)) (.ref (f 7)) = some false
  kit_BadWay_BadShelf : PySem.W.kitOne K (.ref (f 5)) (.ref (f 2)) = some false
  kit_BadWay_BadText : PySem.W.kitOne K (.ref (f 5)) (.ref (f 10)) = some false
  kit_BadWay_BadWay : PySem.W.kitOne K (.ref (f 5)) (.ref (f 5)) = some true
  kit_BadWay_BadWish : PySem.W.kitOne K (.ref (f 5)) (.ref (f 4)) = some false
  kit_BadWay_Halted : PySem.W.kitOne K (.ref (f 5)) (.ref (f 9)) = some false
  kit_BadWay_NoPoint : PySem.W.kitOne K (.ref (f 5)) (.ref (f 8)) = some false
  kit_BadWay_NoWay : PySem.W.kitOne K (.ref (f 5)) (.ref (f 6)) = some false
  kitb_BadShelf_ValueError : PySem.W.kitOne K (.ref (f 2)) (.type "ValueError") = some true
  kitb_BadWay_ValueError : PySem.W.kitOne K (.ref (f 5)) (.type "ValueError") = some true
  nf_BadShelf_done : PySem.W.findIn K (.ref (f 2)) "done" = some none
  nf_BadShelf_row : PySem.W.findIn K (.ref (f 2)) "row" = some none
  nf_BadShelf_why : PySem.W.findIn K (.ref (f 2)) "why" = some none
  nf_BadWay_done : PySem.W.findIn K (.ref (f 5)) "done" = some none
  nf_BadWay_part : PySem.W.findIn K (.ref (f 5)) "part" = some none
  nf_BadWay_row : PySem.W.findIn K (.ref (f 5)) "row" = some none
  base_ShelfError : BaseI K mg "ShelfError" (f 1)
  x_BadShelf : XCls K mg "BadShelf" (f 2) (g 2)
  fi_BadShelf : Fun K "__init__" "BadShelf.__init__" (inClass (topS 2) 0) (g 2) (gd 2)
  bk_BadShelf : ∀ (s : Shared) (u : Value) (ws : List Value), ws.length = 2 → BindsTo s (gd 2) ⟨[u], [("part" : Str), ("number" : Str)].zip ws⟩ ([("self" : Str), ("part" : Str), ("number" : Str)].zip (u :: ws))
  nf_BadShelf_part : PySem.W.findIn K (.ref (f 2)) "part" = some none
  nf_BadShelf_number : PySem.W.findIn K (.ref (f 2)) "number" = some none
  x_BadWay : XCls K mg "BadWay" (f 5) (g 5)
  fi_BadWay : Fun K "__init__" "BadWay.__init__" (inClass (topS 5) 0) (g 5) (gd 5)
  bk_BadWay : ∀ (s : Shared) (u : Value) (ws : List Value), ws.length = 2 → BindsTo s (gd 5) ⟨[u], [("number" : Str), ("why" : Str)].zip ws⟩ ([("self" : Str), ("number" : Str), ("why" : Str)].zip (u :: ws))
  nf_BadWay_number : PySem.W.findIn K (.ref (f 5)) "number" = some none
  nf_BadWay_why : PySem.W.findIn K (.ref (f 5)) "why" = some none
  g_is_number : mg "is_number" = some (.ref (a_is_number f))
  f_is_number : Fun K "is_number" "is_number" s_is_number (a_is_number f) (d_is_number fd)
  b_is_number : Binds K (d_is_number fd) ["value"] []
  g_is_place : mg "is_place" = some (.ref (a_is_place f))
  f_is_place : Fun K "is_place" "is_place" s_is_place (a_is_place f) (d_is_place fd)
  b_is_place : Binds K (d_is_place fd) ["value", "many"] []
  g_is_price : mg "is_price" = some (.ref (a_is_price f))
  f_is_price : Fun K "is_price" "is_price" s_is_price (a_is_price f) (d_is_price fd)
  b_is_price : Binds K (d_is_price fd) ["value"] []
  g_lot_of : mg "lot_of" = some (.ref (a_lot_of f))
  f_lot_of : Fun K "lot_of" "lot_of" s_lot_of (a_lot_of f) (d_lot_of fd)
  b_lot_of : Binds K (d_lot_of fd) ["lots", "book"] []
  g_wrong_price : mg "wrong_price" = some (.ref (a_wrong_price f))
  f_wrong_price : Fun K "wrong_price" "wrong_price" s_wrong_price (a_wrong_price f) (d_wrong_price fd)
  b_wrong_price : Binds K (d_wrong_price fd) ["prices"] []
  g_wrong_lot : mg "wrong_lot" = some (.ref (a_wrong_lot f))
  f_wrong_lot : Fun K "wrong_lot" "wrong_lot" s_wrong_lot (a_wrong_lot f) (d_wrong_lot fd)
  b_wrong_lot : Binds K (d_wrong_lot fd) ["lots", "books", "fewest", "most"] []
  g_missing_book : mg "missing_book" = some (.ref (a_missing_book f))
  f_missing_book : Fun K "missing_book" "missing_book" s_missing_book (a_missing_book f) (d_missing_book fd)
  b_missing_book : Binds K (d_missing_book fd) ["lots", "books"] []
  g_check_shelf : mg "check_shelf" = some (.ref (a_check_shelf f))
  f_check_shelf : Fun K "check_shelf" "check_shelf" s_check_shelf (a_check_shelf f) (d_check_shelf fd)
  b_check_shelf : Binds K (d_check_shelf fd) ["shelf"] []
  g_row_of : mg "row_of" = some (.ref (a_row_of f))
  f_row_of : Fun K "row_of" "row_of" s_row_of (a_row_of f) (d_row_of fd)
  b_row_of : Binds K (d_row_of fd) ["head", "words"] []
  g_written : mg "written" = some (.ref (a_written f))
  f_written : Fun K "written" "written" s_written (a_written f) (d_written fd)
  b_written : Binds K (d_written fd) ["shelf"] []
  g_is_deed : mg "is_deed" = some (.ref (a_is_deed f))
  f_is_deed : Fun K "is_deed" "is_deed" s_is_deed (a_is_deed f) (d_is_deed fd)
  b_is_deed : Binds K (d_is_deed fd) ["shelf", "deed"] []
  g_why_not : mg "why_not" = some (.ref (a_why_not f))
  f_why_not : Fun K "why_not" "why_not" s_why_not (a_why_not f) (d_why_not fd)
  b_why_not : Binds K (d_why_not fd) ["shelf", "deed"] []
  g_check_list : mg "check_list" = some (.ref (a_check_list f))
  f_check_list : Fun K "check_list" "check_list" s_check_list (a_check_list f) (d_check_list fd)
  b_check_list : Binds K (d_check_list fd) ["deeds"] []
  g_check_deeds : mg "check_deeds" = some (.ref (a_check_deeds f))
  f_check_deeds : Fun K "check_deeds" "check_deeds" s_check_deeds (a_check_deeds f) (d_check_deeds fd)
  b_check_deeds : Binds K (d_check_deeds fd) ["shelf", "deeds"] []
  g_lots_behind : mg "lots_behind" = some (.ref (a_lots_behind f))
  f_lots_behind : Fun K "lots_behind" "lots_behind" s_lots_behind (a_lots_behind f) (d_lots_behind fd)
  b_lots_behind : Binds K (d_lots_behind fd) ["lots", "deed"] []
  g_outcome : mg "outcome" = some (.ref (a_outcome f))
  f_outcome : Fun K "outcome" "outcome" s_outcome (a_outcome f) (d_outcome fd)
  b_outcome : Binds K (d_outcome fd) ["shelf", "deeds"] []
  g_done : mg "done" = some (.ref (a_done f))
  f_done : Fun K "done" "done" s_done (a_done f) (d_done fd)
  b_done : Binds K (d_done fd) ["shelf", "deeds"] []
  g__law_start : mg "_law_start" = some (.ref (a__law_start f))
  f__law_start : Fun K "_law_start" "_law_start" s__law_start (a__law_start f) (d__law_start fd)
  b__law_start : Binds K (d__law_start fd) ["_law_script"] []
  g__law_drawn : mg "_law_drawn" = some (.ref (a__law_drawn f))
  f__law_drawn : Fun K "_law_drawn" "_law_drawn" s__law_drawn (a__law_drawn f) (d__law_drawn fd)
  b__law_drawn : Binds K (d__law_drawn fd) ["_law_state", "_law_many"] []
  g__law_turned : mg "_law_turned" = some (.ref (a__law_turned f))
  f__law_turned : Fun K "_law_turned" "_law_turned" s__law_turned (a__law_turned f) (d__law_turned fd)
  b__law_turned : Binds K (d__law_turned fd) ["_law_state", "_law_many"] []
  g__law_lots : mg "_law_lots" = some (.ref (a__law_lots f))
  f__law_lots : Fun K "_law_lots" "_law_lots" s__law_lots (a__law_lots f) (d__law_lots fd)
  b__law_lots : Binds K (d__law_lots fd) ["_law_state", "_law_many", "_law_lots_here"] []
  g__law_shelf : mg "_law_shelf" = some (.ref (a__law_shelf f))
  f__law_shelf : Fun K "_law_shelf" "_law_shelf" s__law_shelf (a__law_shelf f) (d__law_shelf fd)
  b__law_shelf : Binds K (d__law_shelf fd) ["_law_state", "_law_most", "_law_lots_here"] []
  g__law_is : mg "_law_is" = some (.ref (a__law_is f))
  f__law_is : Fun K "_law_is" "_law_is" s__law_is (a__law_is f) (d__law_is fd)
  b__law_is : Binds K (d__law_is fd) ["_law_thing", "_law_low", "_law_high"] []
  g__law_bad : mg "_law_bad" = some (.ref (a__law_bad f))
  f__law_bad : Fun K "_law_bad" "_law_bad" s__law_bad (a__law_bad f) (d__law_bad fd)
  b__law_bad : Binds K (d__law_bad fd) ["_law_shelf_here"] []
  g__law_changed : mg "_law_changed" = some (.ref (a__law_changed f))
  f__law_changed : Fun K "_law_changed" "_law_changed" s__law_changed (a__law_changed f) (d__law_changed fd)
  b__law_changed : Binds K (d__law_changed fd) ["_law_state", "_law_shelf_here"] []
  g__law_kind : mg "_law_kind" = some (.ref (a__law_kind f))
  f__law_kind : Fun K "_law_kind" "_law_kind" s__law_kind (a__law_kind f) (d__law_kind fd)
  b__law_kind : Binds K (d__law_kind fd) ["_law_work"] []
section
variable {P : Program} {w : World} {K : PySem.W.Frag} {mg : Str → Option Value} {base : Heap} {f : Nat → Addr} {fd : Nat → FuncData} {g : Nat → Addr} {gd : Nat → FuncData}
abbrev i_BadShelf : Stmt := inClass (topS 2) 0
theorem sci_BadShelf : FnScope ["self", "part", "number"] ["self", "part", "number"] (defScope i_BadShelf) := ⟨rfl, rfl, rfl, by decide +kernel, rfl, by decide +kernel, by decide +kernel⟩
theorem ok_init_BadShelf (T : Tx K mg f fd g gd) : FnOk P w K mg base (L2.CX P w) 1 (g 2) (gd 2) ["self", "part", "number"] (spInit K (f 2) ["part", "number"]) := by
  refine Fun.okX (k := 0) T.fi_BadShelf sci_BadShelf (fun vs H Q E h => by obtain ⟨a, ws, F, ds, rfl, _, _, _, _, h1, h2, _⟩ := h; rw [List.length_cons, h1.len, h2]; rfl) fun cdv A outer s H vs Q E hr h => ?_
  obtain ⟨a, ws, F, ds, rfl, T1, ea, hF, hx, hd, hl, hp, hq⟩ := h
  cases hd with
  | nil => cases hl
  | @cons v1 _ d1 _ dv1 r1 =>
    cases r1 with
    | nil => cases hl
    | @cons v2 _ d2 _ dv2 r2 =>
      cases r2 with
      | cons _ _ => cases hl
      | nil =>
        simp only [List.all_cons, List.all_nil, Bool.and_true, Bool.and_eq_true] at hp
        obtain ⟨hp1, hp2⟩ := hp
        refine ⟨_, pss_cons (ps_expr (pe_binit T.base_ShelfError (pa_cons (pv 0) (pa_cons (pe_joined (.cons pe_str (.cons (pe_fmt (pv 1)) (.cons pe_str (.cons (pe_fmt (pv 2)) .nil))))) pa_nil)))) (pss_cons (ps_ost (pv 0) (pv 1)) (pss_one (ps_ost (pv 0) (pv 2)))), ?_⟩
        refine init2 (F := F) (Q := Q) (d1 := d1) (d2 := d2) T1 T.nf_BadShelf_part T.nf_BadShelf_number rfl rfl rfl ea (fun t ht => ?_) (by decide) fun d hn hne => hq d hn hne
        simp only [List.mem_cons, List.mem_nil_iff, or_false] at ht
        rcases ht with rfl | rfl | rfl | rfl
        · exact j_const (by decide)
        · exact j_slot (i := 1) rfl dv1 hp1
        · exact j_const (by decide)
        · exact j_slot (i := 2) rfl dv2 hp2
abbrev i_BadWay : Stmt := inClass (topS 5) 0
theorem sci_BadWay : FnScope ["self", "number", "why"] ["self", "number", "why"] (defScope i_BadWay) := ⟨rfl, rfl, rfl, by decide +kernel, rfl, by decide +kernel, by decide +kernel⟩
theorem ok_init_BadWay (T : Tx K mg f fd g gd) : FnOk P w K mg base (L2.CX P w) 1 (g 5) (gd 5) ["self", "number", "why"] (spInit K (f 5) ["number", "why"]) := by
  refine Fun.okX (k := 0) T.fi_BadWay sci_BadWay (fun vs H Q E h => by obtain ⟨a, ws, F, ds, rfl, _, _, _, _, h1, h2, _⟩ := h; rw [List.length_cons, h1.len, h2]; rfl) fun cdv A outer s H vs Q E hr h => ?_
  obtain ⟨a, ws, F, ds, rfl, T1, ea, hF, hx, hd, hl, hp, hq⟩ := h
  cases hd with
  | nil => cases hl
  | @cons v1 _ d1 _ dv1 r1 =>
    cases r1 with
    | nil => cases hl
    | @cons v2 _ d2 _ dv2 r2 =>
      cases r2 with
      | cons _ _ => cases hl
      | nil =>
        simp only [List.all_cons, List.all_nil, Bool.and_true, Bool.and_eq_true] at hp
        obtain ⟨hp1, hp2⟩ := hp
        refine ⟨_, pss_cons (ps_expr (pe_binit T.base_ShelfError (pa_cons (pv 0) (pa_cons (pe_joined (.cons pe_str (.cons (pe_fmt (pv 1)) (.cons pe_str (.cons (pe_fmt (pv 2)) .nil))))) pa_nil)))) (pss_cons (ps_ost (pv 0) (pv 1)) (pss_one (ps_ost (pv 0) (pv 2)))), ?_⟩
        refine init2 (F := F) (Q := Q) (d1 := d1) (d2 := d2) T1 T.nf_BadWay_number T.nf_BadWay_why rfl rfl rfl ea (fun t ht => ?_) (by decide) fun d hn hne => hq d hn hne
        simp only [List.mem_cons, List.mem_nil_iff, or_false] at ht
        rcases ht with rfl | rfl | rfl | rfl
        · exact j_const (by decide)
        · exact j_slot (i := 1) rfl dv1 hp1
        · exact j_const (by decide)
        · exact j_slot (i := 2) rfl dv2 hp2
theorem ok_kind_BadShelf (T : Tx K mg f fd g gd) (X : Cx) (hr : Room 1 X.A) (hK : X.K = K) (hmg : X.mg = mg) (ga : Addr) (cdg : Value) (s : Shared) (H : Hp) (a dd : Addr) (oe : Obj) (pn : List (Addr × Obj)) (hz : Zc (.ref (f 2)) (some dd) oe) (hf : ∃ vs, oe.data = .fields vs) :
    SSs ((cxOf C8.CX0 X.prog X.w X.K X.mg X.base N__law_kind "_law_kind" (defScope s__law_kind) ga cdg X.A X.stack s H C8.E0).nox.suite a ((a, oe) :: pn)) W0 (hBody s__law_kind) (G_kind_BadShelf a dd) := by
  subst hK hmg
  exact (ss_cons (ss_setO 2 (so_lst (sa_cons (sv_isK 1 T.ec_BadShelf hz hf (by rfl) T.n_isinstance (by rfl) T.gc_BadShelf T.kit_BadShelf_BadShelf) (sa_cons (sv_isK 1 T.ec_BadShelf hz hf (by rfl) T.n_isinstance (by rfl) T.gc_BadGoal T.kit_BadShelf_BadGoal) (sa_cons (sv_isK 1 T.ec_BadShelf hz hf (by rfl) T.n_isinstance (by rfl) T.gc_BadWish T.kit_BadShelf_BadWish) (sa_cons (sv_isK 1 T.ec_BadShelf hz hf (by rfl) T.n_isinstance (by rfl) T.gc_BadWay T.kit_BadShelf_BadWay) sa_nil))))) sc__law_kind.nd) (ss_cons (ss_setO 2 (so_cat (so_n 2) (so_lst (sa_cons (sv_isK 1 T.ec_BadShelf hz hf (by rfl) T.n_isinstance (by rfl) T.gc_NoWay T.kit_BadShelf_NoWay) (sa_cons (sv_isK 1 T.ec_BadShelf hz hf (by rfl) T.n_isinstance (by rfl) T.gc_BadName T.kit_BadShelf_BadName) (sa_cons (sv_isK 1 T.ec_BadShelf hz hf (by rfl) T.n_isinstance (by rfl) T.gc_NoPoint T.kit_BadShelf_NoPoint) (sa_cons (sv_isK 1 T.ec_BadShelf hz hf (by rfl) T.n_isinstance (by rfl) T.gc_Halted T.kit_BadShelf_Halted) sa_nil)))))) sc__law_kind.nd) (ss_cons (ss_setO 2 (so_cat (so_n 2) (so_lst (sa_cons (sv_isK 1 T.ec_BadShelf hz hf (by rfl) T.n_isinstance (by rfl) T.gc_BadText T.kit_BadShelf_BadText) sa_nil))) sc__law_kind.nd) (ss_cons (ss_set 3 sv_str sc__law_kind.nd) (ss_cons (ss_if (st_w (sw_or (st_cmp (cm_ne (hr.deeper X.env).units) (sv_count 2 sv_bl) sv_int) (sw_or1 (st_not (st_val (sv_isKT (T := "ValueError") 1 T.ec_BadShelf hz hf (by rfl) T.n_isinstance (by rfl) T.n_ValueError (by decide +kernel) (by decide) T.kitb_BadShelf_ValueError)))))) (ss_one (ss_ret sv_str)) ss_nil) (ss_cons (ss_set 4 (sv_ix (sv_o (so_split (sv_n 3) sv_str)) (sv_index 2 sv_bl)) sc__law_kind.nd) (ss_cons (ss_if (st_cmp (cm_eq (hr.deeper X.env).units) (sv_n 4) sv_str) (ss_one (ss_ret (sv_tup (sa_cons (sv_n 4) (sa_cons (sv_xf 1 T.xf_BadShelf T.nf_BadShelf_part hz hf) (sa_cons (sv_xf 1 T.xf_BadShelf T.nf_BadShelf_number hz hf) sa_nil)))))) ss_nil) (ss_cons (ss_if (st_cmp (cm_eq (hr.deeper X.env).units) (sv_n 4) sv_str) (ss_one (ss_ret (sv_tup (sa_cons (sv_n 4) (sa_cons (sv_xf 1 T.xf_BadShelf T.nf_BadShelf_number hz hf) (sa_cons (sv_xf 1 T.xf_BadShelf T.nf_BadShelf_why hz hf) sa_nil)))))) ss_nil) (ss_cons (ss_if (st_cmp (cm_eq (hr.deeper X.env).units) (sv_n 4) sv_str) (ss_one (ss_ret (sv_tup (sa_cons (sv_n 4) (sa_cons (sv_xf 1 T.xf_BadShelf T.nf_BadShelf_number hz hf) (sa_cons (sv_xf 1 T.xf_BadShelf T.nf_BadShelf_done hz hf) sa_nil)))))) ss_nil) (ss_cons (ss_if (st_cmp cm_in (sv_n 4) (sv_tup (sa_cons sv_str (sa_cons sv_str sa_nil)))) (ss_one (ss_ret (sv_tup (sa_cons (sv_n 4) (sa_cons (sv_xf 1 T.xf_BadShelf T.nf_BadShelf_number hz hf) sa_nil))))) ss_nil) (ss_one (ss_ret (sg_ifE (st_cmp (cm_eq (hr.deeper X.env).units) (sv_n 4) sv_str) (sv_tup (sa_cons (sv_n 4) (sa_cons (sv_xf 1 T.xf_BadShelf T.nf_BadShelf_row hz hf) sa_nil))) (sv_n 4))))))))))))))
theorem ok_kind_BadWay (T : Tx K mg f fd g gd) (X : Cx) (hr : Room 1 X.A) (hK : X.K = K) (hmg : X.mg = mg) (ga : Addr) (cdg : Value) (s : Shared) (H : Hp) (a dd : Addr) (oe : Obj) (pn : List (Addr × Obj)) (hz : Zc (.ref (f 5)) (some dd) oe) (hf : ∃ vs, oe.data = .fields vs) :
    SSs ((cxOf C8.CX0 X.prog X.w X.K X.mg X.base N__law_kind "_law_kind" (defScope s__law_kind) ga cdg X.A X.stack s H C8.E0).nox.suite a ((a, oe) :: pn)) W0 (hBody s__law_kind) (G_kind_BadWay a dd) := by
  subst hK hmg
  exact (ss_cons (ss_setO 2 (so_lst (sa_cons (sv_isK 1 T.ec_BadWay hz hf (by rfl) T.n_isinstance (by rfl) T.gc_BadShelf T.kit_BadWay_BadShelf) (sa_cons (sv_isK 1 T.ec_BadWay hz hf (by rfl) T.n_isinstance (by rfl) T.gc_BadGoal T.kit_BadWay_BadGoal) (sa_cons (sv_isK 1 T.ec_BadWay hz hf (by rfl) T.n_isinstance (by rfl) T.gc_BadWish T.kit_BadWay_BadWish) (sa_cons (sv_isK 1 T.ec_BadWay hz hf (by rfl) T.n_isinstance (by rfl) T.gc_BadWay T.kit_BadWay_BadWay) sa_nil))))) sc__law_kind.nd) (ss_cons (ss_setO 2 (so_cat (so_n 2) (so_lst (sa_cons (sv_isK 1 T.ec_BadWay hz hf (by rfl) T.n_isinstance (by rfl) T.gc_NoWay T.kit_BadWay_NoWay) (sa_cons (sv_isK 1 T.ec_BadWay hz hf (by rfl) T.n_isinstance (by rfl) T.gc_BadName T.kit_BadWay_BadName) (sa_cons (sv_isK 1 T.ec_BadWay hz hf (by rfl) T.n_isinstance (by rfl) T.gc_NoPoint T.kit_BadWay_NoPoint) (sa_cons (sv_isK 1 T.ec_BadWay hz hf (by rfl) T.n_isinstance (by rfl) T.gc_Halted T.kit_BadWay_Halted) sa_nil)))))) sc__law_kind.nd) (ss_cons (ss_setO 2 (so_cat (so_n 2) (so_lst (sa_cons (sv_isK 1 T.ec_BadWay hz hf (by rfl) T.n_isinstance (by rfl) T.gc_BadText T.kit_BadWay_BadText) sa_nil))) sc__law_kind.nd) (ss_cons (ss_set 3 sv_str sc__law_kind.nd) (ss_cons (ss_if (st_w (sw_or (st_cmp (cm_ne (hr.deeper X.env).units) (sv_count 2 sv_bl) sv_int) (sw_or1 (st_not (st_val (sv_isKT (T := "ValueError") 1 T.ec_BadWay hz hf (by rfl) T.n_isinstance (by rfl) T.n_ValueError (by decide +kernel) (by decide) T.kitb_BadWay_ValueError)))))) (ss_one (ss_ret sv_str)) ss_nil) (ss_cons (ss_set 4 (sv_ix (sv_o (so_split (sv_n 3) sv_str)) (sv_index 2 sv_bl)) sc__law_kind.nd) (ss_cons (ss_if (st_cmp (cm_eq (hr.deeper X.env).units) (sv_n 4) sv_str) (ss_one (ss_ret (sv_tup (sa_cons (sv_n 4) (sa_cons (sv_xf 1 T.xf_BadWay T.nf_BadWay_part hz hf) (sa_cons (sv_xf 1 T.xf_BadWay T.nf_BadWay_number hz hf) sa_nil)))))) ss_nil) (ss_cons (ss_if (st_cmp (cm_eq (hr.deeper X.env).units) (sv_n 4) sv_str) (ss_one (ss_ret (sv_tup (sa_cons (sv_n 4) (sa_cons (sv_xf 1 T.xf_BadWay T.nf_BadWay_number hz hf) (sa_cons (sv_xf 1 T.xf_BadWay T.nf_BadWay_why hz hf) sa_nil)))))) ss_nil) (ss_cons (ss_if (st_cmp (cm_eq (hr.deeper X.env).units) (sv_n 4) sv_str) (ss_one (ss_ret (sv_tup (sa_cons (sv_n 4) (sa_cons (sv_xf 1 T.xf_BadWay T.nf_BadWay_number hz hf) (sa_cons (sv_xf 1 T.xf_BadWay T.nf_BadWay_done hz hf) sa_nil)))))) ss_nil) (ss_cons (ss_if (st_cmp cm_in (sv_n 4) (sv_tup (sa_cons sv_str (sa_cons sv_str sa_nil)))) (ss_one (ss_ret (sv_tup (sa_cons (sv_n 4) (sa_cons (sv_xf 1 T.xf_BadWay T.nf_BadWay_number hz hf) sa_nil))))) ss_nil) (ss_one (ss_ret (sg_ifE (st_cmp (cm_eq (hr.deeper X.env).units) (sv_n 4) sv_str) (sv_tup (sa_cons (sv_n 4) (sa_cons (sv_xf 1 T.xf_BadWay T.nf_BadWay_row hz hf) sa_nil))) (sv_n 4))))))))))))))
theorem ok_is_number (T : Tx K mg f fd g gd) : FnOk P w K mg base (L2.CX P w) 1 (a_is_number f) (d_is_number fd) ["value"] (SpD K mg 1 m_is_number) :=
  ok_fnD T.f_is_number sc_is_number (by decide) fun cdv A outer s H E hr => by
    have tk := takes_of (X := cxOf (L2.CX P w) P w K mg base N_is_number "is_number" (defScope s_is_number) (a_is_number f) cdv A outer s H E) (E := E) rfl rfl rfl rfl
    have hp := passes_of (X := cxOf (L2.CX P w) P w K mg base N_is_number "is_number" (defScope s_is_number) (a_is_number f) cdv A outer s H E) rfl
    exact (ss_one (ss_ret (sv_and (sv_isa (by rfl) T.n_isinstance (by rfl) T.n_int (by decide +kernel) (by decide) (sv_n 0)) (sv_one (sv_not (sv_isa (by rfl) T.n_isinstance (by rfl) T.n_bool (by decide +kernel) (by decide) (sv_n 0)))))))
theorem ok_is_place (T : Tx K mg f fd g gd) (F_is_number : FnOk P w K mg base (L2.CX P w) 1 (a_is_number f) (d_is_number fd) ["value"] (SpD K mg 1 m_is_number)) : FnOk P w K mg base (L2.CX P w) 2 (a_is_place f) (d_is_place fd) ["value", "many"] (SpD K mg 2 m_is_place) :=
  ok_fnD T.f_is_place sc_is_place (by decide) fun cdv A outer s H E hr => by
    have tk := takes_of (X := cxOf (L2.CX P w) P w K mg base N_is_place "is_place" (defScope s_is_place) (a_is_place f) cdv A outer s H E) (E := E) rfl rfl rfl rfl
    have hp := passes_of (X := cxOf (L2.CX P w) P w K mg base N_is_place "is_place" (defScope s_is_place) (a_is_place f) cdv A outer s H E) rfl
    exact (ss_one (ss_ret (sv_and (sv_call F_is_number hr T.g_is_number T.f_is_number.kp T.b_is_number tk (sa_cons (sv_n 0) sa_nil) (len_cons len_nil)) (sv_one (sv_chain cm_le cm_lt sv_int (sv_n 0) (sv_n 1))))))
theorem ok_is_price (T : Tx K mg f fd g gd) (F_is_number : FnOk P w K mg base (L2.CX P w) 1 (a_is_number f) (d_is_number fd) ["value"] (SpD K mg 1 m_is_number)) : FnOk P w K mg base (L2.CX P w) 2 (a_is_price f) (d_is_price fd) ["value"] (SpD K mg 1 m_is_price) :=
  ok_fnD T.f_is_price sc_is_price (by decide) fun cdv A outer s H E hr => by
    have tk := takes_of (X := cxOf (L2.CX P w) P w K mg base N_is_price "is_price" (defScope s_is_price) (a_is_price f) cdv A outer s H E) (E := E) rfl rfl rfl rfl
    have hp := passes_of (X := cxOf (L2.CX P w) P w K mg base N_is_price "is_price" (defScope s_is_price) (a_is_price f) cdv A outer s H E) rfl
    exact (ss_one (ss_ret (sv_or (sv_cmp cm_is (sv_n 0) sv_non) (sv_one (sv_and (sv_call F_is_number hr T.g_is_number T.f_is_number.kp T.b_is_number tk (sa_cons (sv_n 0) sa_nil) (len_cons len_nil)) (sv_one (sv_chain cm_le cm_le sv_int (sv_n 0) (sv_glob T.c_MOST_PRICE.choose_spec.1 T.c_MOST_PRICE.choose_spec.2 fun _ => .int _))))))))
theorem ok_lot_of (T : Tx K mg f fd g gd) : FnOk P w K mg base (L2.CX P w) 1 (a_lot_of f) (d_lot_of fd) ["lots", "book"] (SpD K mg 2 m_lot_of) :=
  ok_fnD T.f_lot_of sc_lot_of (by decide) fun cdv A outer s H E hr => by
    have tk := takes_of (X := cxOf (L2.CX P w) P w K mg base N_lot_of "lot_of" (defScope s_lot_of) (a_lot_of f) cdv A outer s H E) (E := E) rfl rfl rfl rfl
    have hp := passes_of (X := cxOf (L2.CX P w) P w K mg base N_lot_of "lot_of" (defScope s_lot_of) (a_lot_of f) cdv A outer s H E) rfl
    exact (ss_cons (ss_forET hp rfl (by rfl) T.n_enumerate (sv_n 0) (sg_tup rfl (sgs_cons (sg_n 2 sc_lot_of.nd) (sgs_cons (sg_n 3 sc_lot_of.nd) sgs_nil))) (ss_one (ss_if (st_cmp cm_in (sv_n 1) (sv_n 3)) (ss_one (ss_ret (sv_n 2))) ss_nil))) (ss_one (ss_ret sv_non)))
theorem ok_wrong_price (T : Tx K mg f fd g gd) (F_is_price : FnOk P w K mg base (L2.CX P w) 2 (a_is_price f) (d_is_price fd) ["value"] (SpD K mg 1 m_is_price)) : FnOk P w K mg base (L2.CX P w) 3 (a_wrong_price f) (d_wrong_price fd) ["prices"] (SpD K mg 1 m_wrong_price) :=
  ok_fnD T.f_wrong_price sc_wrong_price (by decide) fun cdv A outer s H E hr => by
    have tk := takes_of (X := cxOf (L2.CX P w) P w K mg base N_wrong_price "wrong_price" (defScope s_wrong_price) (a_wrong_price f) cdv A outer s H E) (E := E) rfl rfl rfl rfl
    have hp := passes_of (X := cxOf (L2.CX P w) P w K mg base N_wrong_price "wrong_price" (defScope s_wrong_price) (a_wrong_price f) cdv A outer s H E) rfl
    exact (ss_cons (ss_if (st_w (sw_or (st_not (st_val (sv_isa (by rfl) T.n_isinstance (by rfl) T.n_tuple (by decide +kernel) (by decide) (sv_n 0)))) (sw_or1 (st_cmp (cm_eq hr.units) (sv_lenP 0 (by rfl) T.n_len) sv_int)))) (ss_one (ss_ret sv_int)) ss_nil) (ss_cons (ss_forET hp rfl (by rfl) T.n_enumerate (sv_n 0) (sg_tup rfl (sgs_cons (sg_n 1 sc_wrong_price.nd) (sgs_cons (sg_n 2 sc_wrong_price.nd) sgs_nil))) (ss_one (ss_if (st_w (sw_or (st_cmp (cm_eq hr.units) (sv_n 1) (sv_glob T.c_MOST_BOOKS.choose_spec.1 T.c_MOST_BOOKS.choose_spec.2 fun _ => .int _)) (sw_or1 (st_not (st_val (sv_call F_is_price hr T.g_is_price T.f_is_price.kp T.b_is_price tk (sa_cons (sv_n 2) sa_nil) (len_cons len_nil))))))) (ss_one (ss_ret (sv_n 1))) ss_nil))) (ss_one (ss_ret sv_non))))
theorem ok_wrong_lot (T : Tx K mg f fd g gd) (F_is_place : FnOk P w K mg base (L2.CX P w) 2 (a_is_place f) (d_is_place fd) ["value", "many"] (SpD K mg 2 m_is_place)) : FnOk P w K mg base (L2.CX P w) 3 (a_wrong_lot f) (d_wrong_lot fd) ["lots", "books", "fewest", "most"] (SpD K mg 4 m_wrong_lot) :=
  ok_fnD T.f_wrong_lot sc_wrong_lot (by decide) fun cdv A outer s H E hr => by
    have tk := takes_of (X := cxOf (L2.CX P w) P w K mg base N_wrong_lot "wrong_lot" (defScope s_wrong_lot) (a_wrong_lot f) cdv A outer s H E) (E := E) rfl rfl rfl rfl
    have hp := passes_of (X := cxOf (L2.CX P w) P w K mg base N_wrong_lot "wrong_lot" (defScope s_wrong_lot) (a_wrong_lot f) cdv A outer s H E) rfl
    exact (ss_cons (ss_if (st_not (st_val (sv_isa (by rfl) T.n_isinstance (by rfl) T.n_tuple (by decide +kernel) (by decide) (sv_n 0)))) (ss_one (ss_ret sv_int)) ss_nil) (ss_cons (ss_mkS 4 (by rfl) T.n_set sc_wrong_lot.nd) (ss_cons (ss_forET hp rfl (by rfl) T.n_enumerate (sv_n 0) (sg_tup rfl (sgs_cons (sg_n 5 sc_wrong_lot.nd) (sgs_cons (sg_n 6 sc_wrong_lot.nd) sgs_nil))) (ss_cons (ss_if (st_w (sw_or (st_cmp (cm_eq hr.units) (sv_n 5) (sv_n 3)) (sw_or1 (st_not (st_val (sv_isa (by rfl) T.n_isinstance (by rfl) T.n_tuple (by decide +kernel) (by decide) (sv_n 6))))))) (ss_one (ss_ret (sv_n 5))) ss_nil) (ss_one (ss_forT hp rfl (sv_n 6) (sg_n 7 sc_wrong_lot.nd) (ss_cons (ss_if (st_w (sw_or (st_not (st_val (sv_call F_is_place hr T.g_is_place T.f_is_place.kp T.b_is_place tk (sa_cons (sv_n 7) (sa_cons (sv_n 1) sa_nil)) (len_cons (len_cons len_nil))))) (sw_or1 (st_hasS 4 (sv_n 7))))) (ss_one (ss_ret (sv_n 5))) ss_nil) (ss_one (ss_addS 4 (sv_n 7)))))))) (ss_cons (ss_if (st_cmp cm_lt (sv_lenP 0 (by rfl) T.n_len) (sv_n 2)) (ss_one (ss_ret (sv_lenP 0 (by rfl) T.n_len))) ss_nil) (ss_one (ss_ret sv_non))))))
theorem ok_missing_book (T : Tx K mg f fd g gd) (F_lot_of : FnOk P w K mg base (L2.CX P w) 1 (a_lot_of f) (d_lot_of fd) ["lots", "book"] (SpD K mg 2 m_lot_of)) : FnOk P w K mg base (L2.CX P w) 2 (a_missing_book f) (d_missing_book fd) ["lots", "books"] (SpD K mg 2 m_missing_book) :=
  ok_fnD T.f_missing_book sc_missing_book (by decide) fun cdv A outer s H E hr => by
    have tk := takes_of (X := cxOf (L2.CX P w) P w K mg base N_missing_book "missing_book" (defScope s_missing_book) (a_missing_book f) cdv A outer s H E) (E := E) rfl rfl rfl rfl
    have hp := passes_of (X := cxOf (L2.CX P w) P w K mg base N_missing_book "missing_book" (defScope s_missing_book) (a_missing_book f) cdv A outer s H E) rfl
    exact (ss_cons (ss_forR1 hp rfl (by rfl) T.n_range (sv_n 1) (sg_n 2 sc_missing_book.nd) (ss_one (ss_if (st_cmp cm_is (sv_call F_lot_of hr T.g_lot_of T.f_lot_of.kp T.b_lot_of tk (sa_cons (sv_n 0) (sa_cons (sv_n 2) sa_nil)) (len_cons (len_cons len_nil))) sv_non) (ss_one (ss_ret (sv_n 2))) ss_nil))) (ss_one (ss_ret sv_non)))
theorem ok_check_shelf (T : Tx K mg f fd g gd) (F_missing_book : FnOk P w K mg base (L2.CX P w) 2 (a_missing_book f) (d_missing_book fd) ["lots", "books"] (SpD K mg 2 m_missing_book)) (F_wrong_lot : FnOk P w K mg base (L2.CX P w) 3 (a_wrong_lot f) (d_wrong_lot fd) ["lots", "books", "fewest", "most"] (SpD K mg 4 m_wrong_lot)) (F_wrong_price : FnOk P w K mg base (L2.CX P w) 3 (a_wrong_price f) (d_wrong_price fd) ["prices"] (SpD K mg 1 m_wrong_price)) (F_init_BadShelf : FnOk P w K mg base (L2.CX P w) 1 (g 2) (gd 2) ["self", "part", "number"] (spInit K (f 2) ["part", "number"])) : FnOk P w K mg base (L2.CX P w) 4 (a_check_shelf f) (d_check_shelf fd) ["shelf"] (SpD K mg 1 m_check_shelf) :=
  ok_fnD T.f_check_shelf sc_check_shelf (by decide) fun cdv A outer s H E hr => by
    have tk := takes_of (X := cxOf (L2.CX P w) P w K mg base N_check_shelf "check_shelf" (defScope s_check_shelf) (a_check_shelf f) cdv A outer s H E) (E := E) rfl rfl rfl rfl
    have hp := passes_of (X := cxOf (L2.CX P w) P w K mg base N_check_shelf "check_shelf" (defScope s_check_shelf) (a_check_shelf f) cdv A outer s H E) rfl
    exact (ss_cons (ss_if (st_w (sw_or (st_not (st_val (sv_isa (by rfl) T.n_isinstance (by rfl) T.n_tuple (by decide +kernel) (by decide) (sv_n 0)))) (sw_or1 (st_cmp (cm_ne hr.units) (sv_lenP 0 (by rfl) T.n_len) sv_int)))) (ss_one (ss_raise rfl tk T.x_BadShelf F_init_BadShelf (hr.mono (by decide)) T.bk_BadShelf (sk_cons (sv_neg sv_int) (sk_cons sv_int sk_nil)))) ss_nil) (ss_cons (ss_asg (sv_n 0) (sg_tup rfl (sgs_cons (sg_n 1 sc_check_shelf.nd) (sgs_cons (sg_n 2 sc_check_shelf.nd) sgs_nil)))) (ss_cons (ss_set 3 (sv_call F_wrong_price hr T.g_wrong_price T.f_wrong_price.kp T.b_wrong_price tk (sa_cons (sv_n 1) sa_nil) (len_cons len_nil)) sc_check_shelf.nd) (ss_cons (ss_if (st_cmp cm_isn (sv_n 3) sv_non) (ss_one (ss_raise rfl tk T.x_BadShelf F_init_BadShelf (hr.mono (by decide)) T.bk_BadShelf (sk_cons sv_int (sk_cons (sv_n 3) sk_nil)))) ss_nil) (ss_cons (ss_set 3 (sv_call F_wrong_lot hr T.g_wrong_lot T.f_wrong_lot.kp T.b_wrong_lot tk (sa_cons (sv_n 2) (sa_cons (sv_lenP 1 (by rfl) T.n_len) (sa_cons sv_int (sa_cons (sv_glob T.c_MOST_LOTS.choose_spec.1 T.c_MOST_LOTS.choose_spec.2 fun _ => .int _) sa_nil)))) (len_cons (len_cons (len_cons (len_cons len_nil))))) sc_check_shelf.nd) (ss_cons (ss_if (st_cmp cm_isn (sv_n 3) sv_non) (ss_one (ss_raise rfl tk T.x_BadShelf F_init_BadShelf (hr.mono (by decide)) T.bk_BadShelf (sk_cons sv_int (sk_cons (sv_n 3) sk_nil)))) ss_nil) (ss_cons (ss_set 3 (sv_call F_missing_book (hr.mono (by decide)) T.g_missing_book T.f_missing_book.kp T.b_missing_book tk (sa_cons (sv_n 2) (sa_cons (sv_lenP 1 (by rfl) T.n_len) sa_nil)) (len_cons (len_cons len_nil))) sc_check_shelf.nd) (ss_one (ss_if (st_cmp cm_isn (sv_n 3) sv_non) (ss_one (ss_raise rfl tk T.x_BadShelf F_init_BadShelf (hr.mono (by decide)) T.bk_BadShelf (sk_cons sv_int (sk_cons (sv_n 3) sk_nil)))) ss_nil)))))))))
theorem ok_row_of (T : Tx K mg f fd g gd) : FnOk P w K mg base (L2.CX P w) 1 (a_row_of f) (d_row_of fd) ["head", "words"] (SpD K mg 2 m_row_of) :=
  ok_fnD T.f_row_of sc_row_of (by decide) fun cdv A outer s H E hr => by
    have tk := takes_of (X := cxOf (L2.CX P w) P w K mg base N_row_of "row_of" (defScope s_row_of) (a_row_of f) cdv A outer s H E) (E := E) rfl rfl rfl rfl
    have hp := passes_of (X := cxOf (L2.CX P w) P w K mg base N_row_of "row_of" (defScope s_row_of) (a_row_of f) cdv A outer s H E) rfl
    exact (ss_one (ss_ret (sv_join sv_str (sv_o (so_lstS (sv_n 0) (sv_n 1))))))
theorem ok_written (T : Tx K mg f fd g gd) (F_check_shelf : FnOk P w K mg base (L2.CX P w) 4 (a_check_shelf f) (d_check_shelf fd) ["shelf"] (SpD K mg 1 m_check_shelf)) (F_row_of : FnOk P w K mg base (L2.CX P w) 1 (a_row_of f) (d_row_of fd) ["head", "words"] (SpD K mg 2 m_row_of)) : FnOk P w K mg base (L2.CX P w) 5 (a_written f) (d_written fd) ["shelf"] (SpD K mg 1 m_written) :=
  ok_fnD T.f_written sc_written (by decide) fun cdv A outer s H E hr => by
    have tk := takes_of (X := cxOf (L2.CX P w) P w K mg base N_written "written" (defScope s_written) (a_written f) cdv A outer s H E) (E := E) rfl rfl rfl rfl
    have hp := passes_of (X := cxOf (L2.CX P w) P w K mg base N_written "written" (defScope s_written) (a_written f) cdv A outer s H E) rfl
    exact (ss_cons (ss_expr (sv_call F_check_shelf hr T.g_check_shelf T.f_check_shelf.kp T.b_check_shelf tk (sa_cons (sv_n 0) sa_nil) (len_cons len_nil))) (ss_cons (ss_asg (sv_n 0) (sg_tup rfl (sgs_cons (sg_n 1 sc_written.nd) (sgs_cons (sg_n 2 sc_written.nd) sgs_nil)))) (ss_cons (ss_setO 3 (so_lst (sa_cons (sv_call F_row_of (hr.mono (by decide)) T.g_row_of T.f_row_of.kp T.b_row_of tk (sa_cons (sv_glob T.c_PRICES.choose_spec.1 T.c_PRICES.choose_spec.2 fun _ => .str _) (sa_cons (sv_o (so_lcT (own := [("price", 5)]) (j := 5) rfl sc_written.nd (sv_n 1) (by exact blkOk_by (own := [("price", 5)]) (N := N_written) (sc := defScope s_written) (scope := { kind := PySem.ScopeKind.function, names := [(PySem.Str.ofString ".0", PySem.NameKind.local), (PySem.Str.ofString "price", PySem.NameKind.local), (PySem.Str.ofString "FIXED", PySem.NameKind.globalImplicit), (PySem.Str.ofString "str", PySem.NameKind.globalImplicit)], isGenerator := false, isCoroutine := false, more := [] }) (by decide +kernel)) (by decide) (fun _ _ _ _ _ => pg_name (i := 5) sc_written.nd rfl (Or.inl rfl)) (fun _ _ _ _ _ => sts_nil) (fun _ _ _ _ _ => (sg_ifE (st_cmp cm_is (sv_n 5) sv_non) (sv_glob T.c_FIXED.choose_spec.1 T.c_FIXED.choose_spec.2 fun _ => .str _) (sv_strOf (by rfl) T.n_str (by decide +kernel) (sa_cons (sv_n 5) sa_nil)))))) sa_nil)) (len_cons (len_cons len_nil))) sa_nil)) sc_written.nd) (ss_cons (ss_forT hp rfl (sv_n 2) (sg_n 4 sc_written.nd) (ss_one (ss_app 3 (sv_call F_row_of (hr.mono (by decide)) T.g_row_of T.f_row_of.kp T.b_row_of tk (sa_cons (sv_glob T.c_LOT.choose_spec.1 T.c_LOT.choose_spec.2 fun _ => .str _) (sa_cons (sv_o (so_lcT (own := [("book", 6)]) (j := 6) rfl sc_written.nd (sv_n 4) (by exact blkOk_by (own := [("book", 6)]) (N := N_written) (sc := defScope s_written) (scope := { kind := PySem.ScopeKind.function, names := [(PySem.Str.ofString ".0", PySem.NameKind.local), (PySem.Str.ofString "book", PySem.NameKind.local), (PySem.Str.ofString "str", PySem.NameKind.globalImplicit)], isGenerator := false, isCoroutine := false, more := [] }) (by decide +kernel)) (by decide) (fun _ _ _ _ _ => pg_name (i := 6) sc_written.nd rfl (Or.inl rfl)) (fun _ _ _ _ _ => sts_nil) (fun _ _ _ _ _ => (sv_strOf (by rfl) T.n_str (by decide +kernel) (sa_cons (sv_n 6) sa_nil))))) sa_nil)) (len_cons (len_cons len_nil)))))) (ss_one (ss_ret (sv_join sv_str (sv_n 3))))))))
theorem ok_is_deed (T : Tx K mg f fd g gd) (F_is_place : FnOk P w K mg base (L2.CX P w) 2 (a_is_place f) (d_is_place fd) ["value", "many"] (SpD K mg 2 m_is_place)) : FnOk P w K mg base (L2.CX P w) 3 (a_is_deed f) (d_is_deed fd) ["shelf", "deed"] (SpD K mg 2 m_is_deed) :=
  ok_fnD T.f_is_deed sc_is_deed (by decide) fun cdv A outer s H E hr => by
    have tk := takes_of (X := cxOf (L2.CX P w) P w K mg base N_is_deed "is_deed" (defScope s_is_deed) (a_is_deed f) cdv A outer s H E) (E := E) rfl rfl rfl rfl
    have hp := passes_of (X := cxOf (L2.CX P w) P w K mg base N_is_deed "is_deed" (defScope s_is_deed) (a_is_deed f) cdv A outer s H E) rfl
    exact (ss_cons (ss_if (st_w (sw_or (st_not (st_val (sv_isa (by rfl) T.n_isinstance (by rfl) T.n_tuple (by decide +kernel) (by decide) (sv_n 1)))) (sw_or1 (st_cmp (cm_ne hr.units) (sv_lenP 1 (by rfl) T.n_len) sv_int)))) (ss_one (ss_ret sv_bl)) ss_nil) (ss_cons (ss_asg (sv_n 0) (sg_tup rfl (sgs_cons (sg_n 2 sc_is_deed.nd) (sgs_cons (sg_n 3 sc_is_deed.nd) sgs_nil)))) (ss_cons (ss_asg (sv_n 1) (sg_tup rfl (sgs_cons (sg_n 4 sc_is_deed.nd) (sgs_cons (sg_n 5 sc_is_deed.nd) (sgs_cons (sg_n 6 sc_is_deed.nd) sgs_nil))))) (ss_one (ss_ret (sv_and (sv_call F_is_place hr T.g_is_place T.f_is_place.kp T.b_is_place tk (sa_cons (sv_n 4) (sa_cons (sv_lenP 2 (by rfl) T.n_len) sa_nil)) (len_cons (len_cons len_nil))) (sv_and (sv_call F_is_place hr T.g_is_place T.f_is_place.kp T.b_is_place tk (sa_cons (sv_n 5) (sa_cons (sv_lenP 3 (by rfl) T.n_len) sa_nil)) (len_cons (len_cons len_nil))) (sv_one (sv_cmp cm_in (sv_n 6) (sv_tup (sa_cons (sv_glob T.c_FIRST.choose_spec.1 T.c_FIRST.choose_spec.2 fun _ => .str _) (sa_cons (sv_glob T.c_LAST.choose_spec.1 T.c_LAST.choose_spec.2 fun _ => .str _) sa_nil))))))))))))
theorem ok_why_not (T : Tx K mg f fd g gd) (F_is_deed : FnOk P w K mg base (L2.CX P w) 3 (a_is_deed f) (d_is_deed fd) ["shelf", "deed"] (SpD K mg 2 m_is_deed)) : FnOk P w K mg base (L2.CX P w) 4 (a_why_not f) (d_why_not fd) ["shelf", "deed"] (SpD K mg 2 m_why_not) :=
  ok_fnD T.f_why_not sc_why_not (by decide) fun cdv A outer s H E hr => by
    have tk := takes_of (X := cxOf (L2.CX P w) P w K mg base N_why_not "why_not" (defScope s_why_not) (a_why_not f) cdv A outer s H E) (E := E) rfl rfl rfl rfl
    have hp := passes_of (X := cxOf (L2.CX P w) P w K mg base N_why_not "why_not" (defScope s_why_not) (a_why_not f) cdv A outer s H E) rfl
    exact (ss_cons (ss_if (st_not (st_val (sv_call F_is_deed hr T.g_is_deed T.f_is_deed.kp T.b_is_deed tk (sa_cons (sv_n 0) (sa_cons (sv_n 1) sa_nil)) (len_cons (len_cons len_nil))))) (ss_one (ss_ret sv_str)) ss_nil) (ss_cons (ss_set 2 (sv_ixP 0 sv_int) sc_why_not.nd) (ss_cons (ss_if (st_cmp cm_is (sv_ixP 2 (sv_ixP 1 sv_int)) sv_non) (ss_one (ss_ret sv_str)) ss_nil) (ss_one (ss_ret sv_non)))))
theorem ok_check_list (T : Tx K mg f fd g gd) (F_init_BadWay : FnOk P w K mg base (L2.CX P w) 1 (g 5) (gd 5) ["self", "number", "why"] (spInit K (f 5) ["number", "why"])) : FnOk P w K mg base (L2.CX P w) 3 (a_check_list f) (d_check_list fd) ["deeds"] (SpD K mg 1 m_check_list) :=
  ok_fnD T.f_check_list sc_check_list (by decide) fun cdv A outer s H E hr => by
    have tk := takes_of (X := cxOf (L2.CX P w) P w K mg base N_check_list "check_list" (defScope s_check_list) (a_check_list f) cdv A outer s H E) (E := E) rfl rfl rfl rfl
    have hp := passes_of (X := cxOf (L2.CX P w) P w K mg base N_check_list "check_list" (defScope s_check_list) (a_check_list f) cdv A outer s H E) rfl
    exact (ss_one (ss_if (st_not (st_val (sv_isa (by rfl) T.n_isinstance (by rfl) T.n_list (by decide +kernel) (by decide) (sv_n 0)))) (ss_one (ss_raise rfl tk T.x_BadWay F_init_BadWay (hr.mono (by decide)) T.bk_BadWay (sk_cons sv_int (sk_cons sv_str sk_nil)))) ss_nil))
theorem ok_check_deeds (T : Tx K mg f fd g gd) (F_check_list : FnOk P w K mg base (L2.CX P w) 3 (a_check_list f) (d_check_list fd) ["deeds"] (SpD K mg 1 m_check_list)) (F_why_not : FnOk P w K mg base (L2.CX P w) 4 (a_why_not f) (d_why_not fd) ["shelf", "deed"] (SpD K mg 2 m_why_not)) (F_init_BadWay : FnOk P w K mg base (L2.CX P w) 1 (g 5) (gd 5) ["self", "number", "why"] (spInit K (f 5) ["number", "why"])) : FnOk P w K mg base (L2.CX P w) 5 (a_check_deeds f) (d_check_deeds fd) ["shelf", "deeds"] (SpD K mg 2 m_check_deeds) :=
  ok_fnD T.f_check_deeds sc_check_deeds (by decide) fun cdv A outer s H E hr => by
    have tk := takes_of (X := cxOf (L2.CX P w) P w K mg base N_check_deeds "check_deeds" (defScope s_check_deeds) (a_check_deeds f) cdv A outer s H E) (E := E) rfl rfl rfl rfl
    have hp := passes_of (X := cxOf (L2.CX P w) P w K mg base N_check_deeds "check_deeds" (defScope s_check_deeds) (a_check_deeds f) cdv A outer s H E) rfl
    exact (ss_cons (ss_expr (sv_call F_check_list (hr.mono (by decide)) T.g_check_list T.f_check_list.kp T.b_check_list tk (sa_cons (sv_n 1) sa_nil) (len_cons len_nil))) (ss_one (ss_forEL hp rfl (by rfl) T.n_enumerate (sv_n 1) (sg_tup rfl (sgs_cons (sg_n 2 sc_check_deeds.nd) (sgs_cons (sg_n 3 sc_check_deeds.nd) sgs_nil))) (ss_cons (ss_set 4 (sv_call F_why_not hr T.g_why_not T.f_why_not.kp T.b_why_not tk (sa_cons (sv_n 0) (sa_cons (sv_n 3) sa_nil)) (len_cons (len_cons len_nil))) sc_check_deeds.nd) (ss_one (ss_if (st_cmp cm_isn (sv_n 4) sv_non) (ss_one (ss_raise rfl tk T.x_BadWay F_init_BadWay (hr.mono (by decide)) T.bk_BadWay (sk_cons (sv_n 2) (sk_cons (sv_n 4) sk_nil)))) ss_nil))))))
theorem ok_lots_behind (T : Tx K mg f fd g gd) : FnOk P w K mg base (L2.CX P w) 1 (a_lots_behind f) (d_lots_behind fd) ["lots", "deed"] (SpD K mg 2 m_lots_behind) :=
  ok_fnD T.f_lots_behind sc_lots_behind (by decide) fun cdv A outer s H E hr => by
    have tk := takes_of (X := cxOf (L2.CX P w) P w K mg base N_lots_behind "lots_behind" (defScope s_lots_behind) (a_lots_behind f) cdv A outer s H E) (E := E) rfl rfl rfl rfl
    have hp := passes_of (X := cxOf (L2.CX P w) P w K mg base N_lots_behind "lots_behind" (defScope s_lots_behind) (a_lots_behind f) cdv A outer s H E) rfl
    exact (ss_cons (ss_asg (sv_n 1) (sg_tup rfl (sgs_cons (sg_n 2 sc_lots_behind.nd) (sgs_cons (sg_n 3 sc_lots_behind.nd) (sgs_cons (sg_n 4 sc_lots_behind.nd) sgs_nil))))) (pss_rows 5 (own := [("lot", 6)]) (j := 6) rfl sc_lots_behind.nd rfl rfl (sw_true rfl rfl rfl (by decide +kernel)) (sv_n 0) (by exact blkOk_by (own := [("lot", 6)]) (N := N_lots_behind) (sc := defScope s_lots_behind) (scope := { kind := PySem.ScopeKind.function, names := [(PySem.Str.ofString ".0", PySem.NameKind.local), (PySem.Str.ofString "lot", PySem.NameKind.local), (PySem.Str.ofString "moved", PySem.NameKind.free)], isGenerator := false, isCoroutine := false, more := [] }) (by decide +kernel)) (by decide) (fun _ _ _ _ _ => pg_name (i := 6) sc_lots_behind.nd rfl (Or.inl rfl)) (fun _ _ _ _ _ => sts_nil) (fun _ _ _ _ _ => (so_lcT (own := [("book", 7)]) (j := 7) rfl sc_lots_behind.nd (sv_n 6) (by exact blkOk_by (own := [("book", 7)]) (N := N_lots_behind) (sc := { kind := PySem.ScopeKind.function, names := [(PySem.Str.ofString ".0", PySem.NameKind.local), (PySem.Str.ofString "lot", PySem.NameKind.local), (PySem.Str.ofString "moved", PySem.NameKind.cell)], isGenerator := false, isCoroutine := false, more := [] }) (scope := { kind := PySem.ScopeKind.function, names := [(PySem.Str.ofString ".0", PySem.NameKind.local), (PySem.Str.ofString "book", PySem.NameKind.local), (PySem.Str.ofString "moved", PySem.NameKind.free)], isGenerator := false, isCoroutine := false, more := [] }) (by decide +kernel)) (by decide) (fun _ _ _ _ _ => pg_name (i := 7) sc_lots_behind.nd rfl (Or.inl rfl)) (fun _ _ _ _ _ => sts_one (st_cmp (cm_ne hr.units) (sv_n 7) (sv_n 2))) (fun _ _ _ _ _ => (sv_n 7)))) (st_cmp (cm_eq hr.units) (sv_n 4) (sv_glob T.c_FIRST.choose_spec.1 T.c_FIRST.choose_spec.2 fun _ => .str _)) (sv_n 3) (sv_n 2) (sv_n 3) (sv_n 2) (ss_one (ss_ret (sv_tupleOf (by rfl) T.n_tuple (sa_cons (sv_o (so_lcL (own := [("row", 8)]) (j := 8) rfl sc_lots_behind.nd (sv_n 5) (by exact blkOk_by (own := [("row", 8)]) (N := N_lots_behind) (sc := defScope s_lots_behind) (scope := { kind := PySem.ScopeKind.function, names := [(PySem.Str.ofString ".0", PySem.NameKind.local), (PySem.Str.ofString "row", PySem.NameKind.local), (PySem.Str.ofString "tuple", PySem.NameKind.globalImplicit)], isGenerator := false, isCoroutine := false, more := [] }) (by decide +kernel)) (by decide) (fun _ _ _ _ _ => pg_name (i := 8) sc_lots_behind.nd rfl (Or.inl rfl)) (fun _ _ _ _ _ => sts_nil) (fun _ _ _ _ _ => (sv_tupleOf (by rfl) T.n_tuple (sa_cons (sv_n 8) sa_nil))))) sa_nil))))))
theorem ok_outcome (T : Tx K mg f fd g gd) (F_lots_behind : FnOk P w K mg base (L2.CX P w) 1 (a_lots_behind f) (d_lots_behind fd) ["lots", "deed"] (SpD K mg 2 m_lots_behind)) : FnOk P w K mg base (L2.CX P w) 2 (a_outcome f) (d_outcome fd) ["shelf", "deeds"] (SpD K mg 2 m_outcome) :=
  ok_fnD T.f_outcome sc_outcome (by decide) fun cdv A outer s H E hr => by
    have tk := takes_of (X := cxOf (L2.CX P w) P w K mg base N_outcome "outcome" (defScope s_outcome) (a_outcome f) cdv A outer s H E) (E := E) rfl rfl rfl rfl
    have hp := passes_of (X := cxOf (L2.CX P w) P w K mg base N_outcome "outcome" (defScope s_outcome) (a_outcome f) cdv A outer s H E) rfl
    exact (ss_cons (ss_asg (sv_n 0) (sg_tup rfl (sgs_cons (sg_n 2 sc_outcome.nd) (sgs_cons (sg_n 3 sc_outcome.nd) sgs_nil)))) (ss_cons (ss_set 4 sv_int sc_outcome.nd) (ss_cons (ss_forL hp rfl (sv_n 1) (sg_n 5 sc_outcome.nd) (ss_cons (ss_set 3 (sv_call F_lots_behind hr T.g_lots_behind T.f_lots_behind.kp T.b_lots_behind tk (sa_cons (sv_n 3) (sa_cons (sv_n 5) sa_nil)) (len_cons (len_cons len_nil))) sc_outcome.nd) (ss_one (ss_aug 4 ip_add (sv_ixP 2 (sv_ixP 5 sv_int)) sc_outcome.nd)))) (ss_one (ss_ret (sv_tup (sa_cons (sv_n 3) (sa_cons (sv_n 4) sa_nil))))))))
theorem ok_done (T : Tx K mg f fd g gd) (F_check_deeds : FnOk P w K mg base (L2.CX P w) 5 (a_check_deeds f) (d_check_deeds fd) ["shelf", "deeds"] (SpD K mg 2 m_check_deeds)) (F_check_shelf : FnOk P w K mg base (L2.CX P w) 4 (a_check_shelf f) (d_check_shelf fd) ["shelf"] (SpD K mg 1 m_check_shelf)) (F_outcome : FnOk P w K mg base (L2.CX P w) 2 (a_outcome f) (d_outcome fd) ["shelf", "deeds"] (SpD K mg 2 m_outcome)) : FnOk P w K mg base (L2.CX P w) 6 (a_done f) (d_done fd) ["shelf", "deeds"] (SpD K mg 2 m_done) :=
  ok_fnD T.f_done sc_done (by decide) fun cdv A outer s H E hr => by
    have tk := takes_of (X := cxOf (L2.CX P w) P w K mg base N_done "done" (defScope s_done) (a_done f) cdv A outer s H E) (E := E) rfl rfl rfl rfl
    have hp := passes_of (X := cxOf (L2.CX P w) P w K mg base N_done "done" (defScope s_done) (a_done f) cdv A outer s H E) rfl
    exact (ss_cons (ss_expr (sv_call F_check_shelf (hr.mono (by decide)) T.g_check_shelf T.f_check_shelf.kp T.b_check_shelf tk (sa_cons (sv_n 0) sa_nil) (len_cons len_nil))) (ss_cons (ss_expr (sv_call F_check_deeds hr T.g_check_deeds T.f_check_deeds.kp T.b_check_deeds tk (sa_cons (sv_n 0) (sa_cons (sv_n 1) sa_nil)) (len_cons (len_cons len_nil)))) (ss_one (ss_ret (sv_call F_outcome (hr.mono (by decide)) T.g_outcome T.f_outcome.kp T.b_outcome tk (sa_cons (sv_n 0) (sa_cons (sv_n 1) sa_nil)) (len_cons (len_cons len_nil)))))))
theorem ok__law_start (T : Tx K mg f fd g gd) : FnOk P w K mg base (L2.CX P w) 1 (a__law_start f) (d__law_start fd) ["_law_script"] (SpO K mg 1 m__law_start) :=
  ok_fnO T.f__law_start sc__law_start (by decide) fun cdv A outer s H E hr => by
    have tk := takes_of (X := cxOf (L2.CX P w) P w K mg base N__law_start "_law_start" (defScope s__law_start) (a__law_start f) cdv A outer s H E) (E := E) rfl rfl rfl rfl
    have hp := passes_of (X := cxOf (L2.CX P w) P w K mg base N__law_start "_law_start" (defScope s__law_start) (a__law_start f) cdv A outer s H E) rfl
    exact (ss_cons (ss_set 1 sv_int sc__law_start.nd) (ss_cons (ss_forL hp rfl (sv_n 0) (sg_n 2 sc__law_start.nd) (ss_one (ss_set 1 (sv_mod (sv_add (sv_add (sv_mul (sv_n 1) sv_int) (sv_n 2)) sv_int) sv_int) sc__law_start.nd))) (ss_one (ss_retO (so_lst (sa_cons (sv_n 0) (sa_cons sv_int (sa_cons (sv_n 1) (sa_cons sv_int sa_nil)))))))))
theorem ok__law_drawn (T : Tx K mg f fd g gd) : FnOk P w K mg base (L2.CX P w) 1 (a__law_drawn f) (d__law_drawn fd) ["_law_state", "_law_many"] (SpB K 1 m__law_drawn) :=
  ok_fnB T.f__law_drawn sc__law_drawn (by decide) fun cdv A outer s H E hr => by
    have tk := takes_of (X := cxOf (L2.CX P w) P w K mg base N__law_drawn "_law_drawn" (defScope s__law_drawn) (a__law_drawn f) cdv A outer s H E) (E := E) rfl rfl rfl rfl
    have hp := passes_of (X := cxOf (L2.CX P w) P w K mg base N__law_drawn "_law_drawn" (defScope s__law_drawn) (a__law_drawn f) cdv A outer s H E) rfl
    exact (ss_cons (ss_if (st_cmp cm_gt (sv_ixP 0 sv_int) sv_int) (ss_cons (ss_set 2 (sv_mod (sv_ixP 0 sv_int) (sv_n 1)) sc__law_drawn.nd) (ss_cons (ss_setIx 0 (sv_div (sv_ixP 0 sv_int) (sv_n 1)) sv_int) (ss_one (ss_ret (sv_n 2))))) ss_nil) (ss_cons (ss_setIx 0 (sv_add (sv_ixP 0 sv_int) sv_int) sv_int) (ss_cons (ss_if (st_cmp cm_le (sv_ixP 0 sv_int) (sv_len (by rfl) T.n_len (sa_cons (sv_ixP 0 sv_int) sa_nil))) (ss_cons (ss_set 3 (sv_ix (sv_ixP 0 sv_int) (sv_sub (sv_ixP 0 sv_int) sv_int)) sc__law_drawn.nd) (ss_cons (ss_setIx 0 (sg_ifE (st_cmp cm_ge (sv_n 3) (sv_pow sv_int sv_int)) (sv_div (sv_n 3) (sv_n 1)) sv_int) sv_int) (ss_one (ss_ret (sv_mod (sv_n 3) (sv_n 1)))))) ss_nil) (ss_cons (ss_setIx 0 (sv_mod (sv_add (sv_mul (sv_ixP 0 sv_int) sv_int) sv_int) sv_int) sv_int) (ss_one (ss_ret (sv_mod (sv_div (sv_ixP 0 sv_int) sv_int) (sv_n 1))))))))
theorem ok__law_turned (T : Tx K mg f fd g gd) (F__law_drawn : FnOk P w K mg base (L2.CX P w) 1 (a__law_drawn f) (d__law_drawn fd) ["_law_state", "_law_many"] (SpB K 1 m__law_drawn)) : FnOk P w K mg base (L2.CX P w) 2 (a__law_turned f) (d__law_turned fd) ["_law_state", "_law_many"] (SpBO K 1 m__law_turned) :=
  ok_fnBO T.f__law_turned sc__law_turned (by decide) fun cdv A outer s H E hr => by
    have tk := takes_of (X := cxOf (L2.CX P w) P w K mg base N__law_turned "_law_turned" (defScope s__law_turned) (a__law_turned f) cdv A outer s H E) (E := E) rfl rfl rfl rfl
    have hp := passes_of (X := cxOf (L2.CX P w) P w K mg base N__law_turned "_law_turned" (defScope s__law_turned) (a__law_turned f) cdv A outer s H E) rfl
    exact (ss_cons (ss_parOO (i := 2) (j := 3) rfl sc__law_turned.nd rfl rfl (by decide) rfl rfl (so_listR rfl (by rfl) T.n_list (by rfl) T.n_range (sv_n 1)) (so_lst sa_nil) (by rfl)) (ss_cons (ss_while 100 hp (st_neL 2 hr.units (sv_o (so_lst sa_nil))) (ss_one (ss_app 3 (sv_popAt 2 (sv_callB' 0 F__law_drawn hr T.g__law_drawn T.f__law_drawn.kp T.b__law_drawn tk (sa_cons (sv_lenP 2 (by rfl) T.n_len) sa_nil) (len_cons len_nil)))))) (ss_one (ss_retO (so_n 3)))))
theorem ok__law_lots (T : Tx K mg f fd g gd) (F__law_drawn : FnOk P w K mg base (L2.CX P w) 1 (a__law_drawn f) (d__law_drawn fd) ["_law_state", "_law_many"] (SpB K 1 m__law_drawn)) (F__law_turned : FnOk P w K mg base (L2.CX P w) 2 (a__law_turned f) (d__law_turned fd) ["_law_state", "_law_many"] (SpBO K 1 m__law_turned)) : FnOk P w K mg base (L2.CX P w) 3 (a__law_lots f) (d__law_lots fd) ["_law_state", "_law_many", "_law_lots_here"] (SpB K 2 m__law_lots) :=
  ok_fnB T.f__law_lots sc__law_lots (by decide) fun cdv A outer s H E hr => by
    have tk := takes_of (X := cxOf (L2.CX P w) P w K mg base N__law_lots "_law_lots" (defScope s__law_lots) (a__law_lots f) cdv A outer s H E) (E := E) rfl rfl rfl rfl
    have hp := passes_of (X := cxOf (L2.CX P w) P w K mg base N__law_lots "_law_lots" (defScope s__law_lots) (a__law_lots f) cdv A outer s H E) rfl
    exact (ss_cons (ss_setO 3 (so_rep (so_lst (sa_cons (sv_tup sa_nil) sa_nil)) (sv_n 2)) sc__law_lots.nd) (ss_cons (ss_forL hp rfl (sv_o (so_callB' 0 F__law_turned hr T.g__law_turned T.f__law_turned.kp T.b__law_turned tk (sa_cons (sv_n 1) sa_nil) (len_cons len_nil))) (sg_n 4 sc__law_lots.nd) (ss_cons (ss_set 5 (sv_callB' 0 F__law_drawn (hr.mono (by decide)) T.g__law_drawn T.f__law_drawn.kp T.b__law_drawn tk (sa_cons (sv_n 2) sa_nil) (len_cons len_nil)) sc__law_lots.nd) (ss_one (ss_setIx 3 (sv_add (sv_ixP 3 (sv_n 5)) (sv_tup (sa_cons (sv_n 4) sa_nil))) (sv_n 5))))) (ss_one (ss_ret (sv_tupleOf (by rfl) T.n_tuple (sa_cons (sv_n 3) sa_nil))))))
theorem ok__law_shelf (T : Tx K mg f fd g gd) (F__law_drawn : FnOk P w K mg base (L2.CX P w) 1 (a__law_drawn f) (d__law_drawn fd) ["_law_state", "_law_many"] (SpB K 1 m__law_drawn)) (F__law_lots : FnOk P w K mg base (L2.CX P w) 3 (a__law_lots f) (d__law_lots fd) ["_law_state", "_law_many", "_law_lots_here"] (SpB K 2 m__law_lots)) : FnOk P w K mg base (L2.CX P w) 4 (a__law_shelf f) (d__law_shelf fd) ["_law_state", "_law_most", "_law_lots_here"] (SpB K 2 m__law_shelf) :=
  ok_fnB T.f__law_shelf sc__law_shelf (by decide) fun cdv A outer s H E hr => by
    have tk := takes_of (X := cxOf (L2.CX P w) P w K mg base N__law_shelf "_law_shelf" (defScope s__law_shelf) (a__law_shelf f) cdv A outer s H E) (E := E) rfl rfl rfl rfl
    have hp := passes_of (X := cxOf (L2.CX P w) P w K mg base N__law_shelf "_law_shelf" (defScope s__law_shelf) (a__law_shelf f) cdv A outer s H E) rfl
    exact (ss_cons (ss_asg (sv_tup (sa_cons (sv_add sv_int (sv_callB' 0 F__law_drawn (hr.mono (by decide)) T.g__law_drawn T.f__law_drawn.kp T.b__law_drawn tk (sa_cons (sv_n 1) sa_nil) (len_cons len_nil))) (sa_cons (sv_ix (sv_o (so_lst (sa_cons sv_int (sa_cons sv_int (sa_cons sv_int sa_nil))))) (sv_callB' 0 F__law_drawn (hr.mono (by decide)) T.g__law_drawn T.f__law_drawn.kp T.b__law_drawn tk (sa_cons sv_int sa_nil) (len_cons len_nil))) sa_nil))) (sg_tup rfl (sgs_cons (sg_n 3 sc__law_shelf.nd) (sgs_cons (sg_n 4 sc__law_shelf.nd) sgs_nil)))) (ss_cons (ss_set 5 (sv_ix (sv_o (so_lst (sa_cons sv_int (sa_cons sv_int (sa_cons sv_int sa_nil))))) (sv_callB' 0 F__law_drawn (hr.mono (by decide)) T.g__law_drawn T.f__law_drawn.kp T.b__law_drawn tk (sa_cons sv_int sa_nil) (len_cons len_nil))) sc__law_shelf.nd) (ss_cons (ss_set 6 (sv_tupleOf (by rfl) T.n_tuple (sa_cons (sv_o (so_lcR1 (own := [("_law_k", 7)]) (j := 7) rfl sc__law_shelf.nd (by rfl) T.n_range (sv_n 3) (by exact blkOk_by (own := [("_law_k", 7)]) (N := N__law_shelf) (sc := defScope s__law_shelf) (scope := { kind := PySem.ScopeKind.function, names := [(PySem.Str.ofString ".0", PySem.NameKind.local), (PySem.Str.ofString "_law_k", PySem.NameKind.local), (PySem.Str.ofString "_law_drawn", PySem.NameKind.globalImplicit), (PySem.Str.ofString "_law_dear", PySem.NameKind.free), (PySem.Str.ofString "_law_rare", PySem.NameKind.free), (PySem.Str.ofString "_law_state", PySem.NameKind.free)], isGenerator := false, isCoroutine := false, more := [] }) (by decide +kernel)) (by decide) (fun _ _ _ _ _ => pg_name (i := 7) sc__law_shelf.nd rfl (Or.inl rfl)) (fun _ _ _ _ _ => sts_nil) (fun _ _ _ _ _ => (sg_ifE (st_cmp (cm_eq hr.units) (sv_callB' 0 F__law_drawn (hr.mono (by decide)) T.g__law_drawn T.f__law_drawn.kp T.b__law_drawn takes0 (sa_cons (sv_n 5) sa_nil) (len_cons len_nil)) sv_int) sv_non (sv_add sv_int (sv_callB' 0 F__law_drawn (hr.mono (by decide)) T.g__law_drawn T.f__law_drawn.kp T.b__law_drawn takes0 (sa_cons (sv_n 4) sa_nil) (len_cons len_nil))))))) sa_nil)) sc__law_shelf.nd) (ss_one (ss_ret (sv_tup (sa_cons (sv_n 6) (sa_cons (sv_callB' 0 F__law_lots hr T.g__law_lots T.f__law_lots.kp T.b__law_lots tk (sa_cons (sv_n 3) (sa_cons (sv_add sv_int (sv_callB' 0 F__law_drawn (hr.mono (by decide)) T.g__law_drawn T.f__law_drawn.kp T.b__law_drawn tk (sa_cons (sv_n 2) sa_nil) (len_cons len_nil))) sa_nil)) (len_cons (len_cons len_nil))) sa_nil))))))))
theorem ok__law_is (T : Tx K mg f fd g gd) : FnOk P w K mg base (L2.CX P w) 1 (a__law_is f) (d__law_is fd) ["_law_thing", "_law_low", "_law_high"] (SpD K mg 3 m__law_is) :=
  ok_fnD T.f__law_is sc__law_is (by decide) fun cdv A outer s H E hr => by
    have tk := takes_of (X := cxOf (L2.CX P w) P w K mg base N__law_is "_law_is" (defScope s__law_is) (a__law_is f) cdv A outer s H E) (E := E) rfl rfl rfl rfl
    have hp := passes_of (X := cxOf (L2.CX P w) P w K mg base N__law_is "_law_is" (defScope s__law_is) (a__law_is f) cdv A outer s H E) rfl
    exact (ss_one (ss_ret (sv_and (sv_isa (by rfl) T.n_isinstance (by rfl) T.n_int (by decide +kernel) (by decide) (sv_n 0)) (sv_and (sv_not (sv_isa (by rfl) T.n_isinstance (by rfl) T.n_bool (by decide +kernel) (by decide) (sv_n 0))) (sv_one (sv_chain cm_le cm_le (sv_n 1) (sv_n 0) (sv_n 2)))))))
theorem ok__law_bad (T : Tx K mg f fd g gd) (F__law_is : FnOk P w K mg base (L2.CX P w) 1 (a__law_is f) (d__law_is fd) ["_law_thing", "_law_low", "_law_high"] (SpD K mg 3 m__law_is)) : FnOk P w K mg base (L2.CX P w) 2 (a__law_bad f) (d__law_bad fd) ["_law_shelf_here"] (SpD K mg 1 m__law_bad) :=
  ok_fnD T.f__law_bad sc__law_bad (by decide) fun cdv A outer s H E hr => by
    have tk := takes_of (X := cxOf (L2.CX P w) P w K mg base N__law_bad "_law_bad" (defScope s__law_bad) (a__law_bad f) cdv A outer s H E) (E := E) rfl rfl rfl rfl
    have hp := passes_of (X := cxOf (L2.CX P w) P w K mg base N__law_bad "_law_bad" (defScope s__law_bad) (a__law_bad f) cdv A outer s H E) rfl
    exact (ss_cons (ss_if (st_w (sw_or (st_not (st_val (sv_isa (by rfl) T.n_isinstance (by rfl) T.n_tuple (by decide +kernel) (by decide) (sv_n 0)))) (sw_or1 (st_cmp (cm_ne hr.units) (sv_lenP 0 (by rfl) T.n_len) sv_int)))) (ss_one (ss_ret (sv_tup (sa_cons (sv_sub sv_int sv_int) (sa_cons sv_int sa_nil))))) ss_nil) (ss_cons (ss_asg (sv_n 0) (sg_tup rfl (sgs_cons (sg_n 1 sc__law_bad.nd) (sgs_cons (sg_n 2 sc__law_bad.nd) sgs_nil)))) (ss_cons (ss_if (st_w (sw_or (st_not (st_val (sv_isa (by rfl) T.n_isinstance (by rfl) T.n_tuple (by decide +kernel) (by decide) (sv_n 1)))) (sw_or1 (st_cmp (cm_eq hr.units) (sv_n 1) (sv_tup sa_nil))))) (ss_one (ss_ret (sv_tup (sa_cons sv_int (sa_cons sv_int sa_nil))))) ss_nil) (ss_cons (ss_forR1 hp rfl (by rfl) T.n_range (sv_lenP 1 (by rfl) T.n_len) (sg_n 3 sc__law_bad.nd) (ss_one (ss_if (st_w (sw_or (st_cmp (cm_eq hr.units) (sv_n 3) sv_int) (sw_or1 (st_not (st_w (sw_or (st_cmp cm_is (sv_ixP 1 (sv_n 3)) sv_non) (sw_or1 (st_val (sv_call F__law_is hr T.g__law_is T.f__law_is.kp T.b__law_is tk (sa_cons (sv_ixP 1 (sv_n 3)) (sa_cons sv_int (sa_cons sv_int sa_nil))) (len_cons (len_cons (len_cons len_nil)))))))))))) (ss_one (ss_ret (sv_tup (sa_cons sv_int (sa_cons (sv_n 3) sa_nil))))) ss_nil))) (ss_cons (ss_if (st_w (sw_or (st_not (st_val (sv_isa (by rfl) T.n_isinstance (by rfl) T.n_tuple (by decide +kernel) (by decide) (sv_n 2)))) (sw_or1 (st_cmp (cm_eq hr.units) (sv_n 2) (sv_tup sa_nil))))) (ss_one (ss_ret (sv_tup (sa_cons sv_int (sa_cons sv_int sa_nil))))) ss_nil) (ss_cons (ss_setO 4 (so_lst sa_nil) sc__law_bad.nd) (ss_cons (ss_forR1 hp rfl (by rfl) T.n_range (sv_lenP 2 (by rfl) T.n_len) (sg_n 3 sc__law_bad.nd) (ss_cons (ss_if (st_w (sw_or (st_cmp (cm_eq hr.units) (sv_n 3) sv_int) (sw_or1 (st_not (st_val (sv_isa (by rfl) T.n_isinstance (by rfl) T.n_tuple (by decide +kernel) (by decide) (sv_ixP 2 (sv_n 3)))))))) (ss_one (ss_ret (sv_tup (sa_cons sv_int (sa_cons (sv_n 3) sa_nil))))) ss_nil) (ss_one (ss_forT hp rfl (sv_ixP 2 (sv_n 3)) (sg_n 5 sc__law_bad.nd) (ss_cons (ss_if (st_w (sw_or (st_not (st_val (sv_call F__law_is hr T.g__law_is T.f__law_is.kp T.b__law_is tk (sa_cons (sv_n 5) (sa_cons sv_int (sa_cons (sv_sub (sv_lenP 1 (by rfl) T.n_len) sv_int) sa_nil))) (len_cons (len_cons (len_cons len_nil)))))) (sw_or1 (st_inL 4 (sv_n 5))))) (ss_one (ss_ret (sv_tup (sa_cons sv_int (sa_cons (sv_n 3) sa_nil))))) ss_nil) (ss_one (ss_app 4 (sv_n 5)))))))) (ss_cons (ss_setLcR (i := 6) (own := [("_law_book", 5)]) (j := 5) rfl sc__law_bad.nd rfl rfl (sw_true rfl rfl rfl (by decide +kernel)) (by rfl) T.n_range (sv_lenP 1 (by rfl) T.n_len) (by exact blkOk_by (own := [("_law_book", 5)]) (N := N__law_bad) (sc := defScope s__law_bad) (scope := { kind := PySem.ScopeKind.function, names := [(PySem.Str.ofString ".0", PySem.NameKind.local), (PySem.Str.ofString "_law_book", PySem.NameKind.local), (PySem.Str.ofString "_law_met", PySem.NameKind.free)], isGenerator := false, isCoroutine := false, more := [] }) (by decide +kernel)) (by decide) (fun _ _ _ _ _ => pg_name (i := 5) sc__law_bad.nd rfl (Or.inl rfl)) (fun _ _ _ _ _ => sts_one (st_ninL 4 (sv_n 5))) (fun _ _ _ _ _ => (sv_n 5))) (ss_one (ss_ret (sg_ifE (st_cmp (cm_ne hr.units) (sv_n 6) (sv_o (so_lst sa_nil))) (sv_tup (sa_cons sv_int (sa_cons (sv_ixP 6 sv_int) sa_nil))) sv_non)))))))))))
theorem ok__law_changed (T : Tx K mg f fd g gd) (F__law_drawn : FnOk P w K mg base (L2.CX P w) 1 (a__law_drawn f) (d__law_drawn fd) ["_law_state", "_law_many"] (SpB K 1 m__law_drawn)) : FnOk P w K mg base (L2.CX P w) 2 (a__law_changed f) (d__law_changed fd) ["_law_state", "_law_shelf_here"] (SpB K 1 m__law_changed) :=
  ok_fnB T.f__law_changed sc__law_changed (by decide) fun cdv A outer s H E hr => by
    have tk := takes_of (X := cxOf (L2.CX P w) P w K mg base N__law_changed "_law_changed" (defScope s__law_changed) (a__law_changed f) cdv A outer s H E) (E := E) rfl rfl rfl rfl
    have hp := passes_of (X := cxOf (L2.CX P w) P w K mg base N__law_changed "_law_changed" (defScope s__law_changed) (a__law_changed f) cdv A outer s H E) rfl
    exact (ss_cons (ss_asg (sv_n 1) (sg_tup rfl (sgs_cons (sg_n 2 sc__law_changed.nd) (sgs_cons (sg_n 3 sc__law_changed.nd) sgs_nil)))) (ss_cons (ss_par (i := 4) (j := 5) rfl sc__law_changed.nd rfl rfl (by decide) rfl rfl (sa_cons (sv_callB' 0 F__law_drawn hr T.g__law_drawn T.f__law_drawn.kp T.b__law_drawn tk (sa_cons sv_int sa_nil) (len_cons len_nil)) (sa_cons (sv_ix (sv_o (so_lst (sa_cons (sv_sub sv_int sv_int) (sa_cons sv_int (sa_cons sv_int (sa_cons sv_int (sa_cons sv_int (sa_cons sv_bl (sa_cons sv_non (sa_cons sv_str (sa_cons (sv_pow sv_int sv_int) (sa_cons (sv_tup (sa_cons sv_int sa_nil)) sa_nil)))))))))))) (sv_callB' 0 F__law_drawn hr T.g__law_drawn T.f__law_drawn.kp T.b__law_drawn tk (sa_cons sv_int sa_nil) (len_cons len_nil))) sa_nil)) (by rfl)) (ss_cons (ss_if (st_cmp (cm_eq hr.units) (sv_n 4) sv_int) (ss_one (ss_ret (sv_ix (sv_o (so_lst (sa_cons (sv_tup (sa_cons (sv_n 2) sa_nil)) (sa_cons (sv_add (sv_n 1) (sv_tup (sa_cons sv_int sa_nil))) (sa_cons (sv_o (so_list (by rfl) T.n_list (sv_n 1))) (sa_cons sv_non (sa_cons sv_str (sa_cons (sv_tup sa_nil) sa_nil)))))))) (sv_callB' 0 F__law_drawn hr T.g__law_drawn T.f__law_drawn.kp T.b__law_drawn tk (sa_cons sv_int sa_nil) (len_cons len_nil))))) ss_nil) (ss_cons (ss_if (st_cmp cm_lt (sv_n 4) sv_int) (ss_cons (ss_set 6 (sv_callB' 0 F__law_drawn hr T.g__law_drawn T.f__law_drawn.kp T.b__law_drawn tk (sa_cons (sv_add (sv_lenP 2 (by rfl) T.n_len) sv_int) sa_nil) (len_cons len_nil)) sc__law_changed.nd) (ss_cons (ss_setO 7 (so_lst (sa_cons (sv_add (sv_add (sv_slT (sv_n 2) spt_no (spt_is (sv_n 6))) (sv_tup (sa_cons (sv_n 5) sa_nil))) (sv_slT (sv_n 2) (spt_is (sv_add (sv_n 6) sv_int)) spt_no)) (sa_cons (sv_add (sv_slT (sv_n 2) spt_no (spt_is (sv_n 6))) (sv_slT (sv_n 2) (spt_is (sv_add (sv_n 6) sv_int)) spt_no)) sa_nil))) sc__law_changed.nd) (ss_cons (ss_set 7 (sv_add (sv_n 7) (sv_o (so_lst (sa_cons (sv_add (sv_add (sv_slT (sv_n 2) spt_no (spt_is (sv_n 6))) (sv_tup (sa_cons (sv_n 5) sa_nil))) (sv_slT (sv_n 2) (spt_is (sv_n 6)) spt_no)) (sa_cons (sv_o (so_list (by rfl) T.n_list (sv_n 2))) (sa_cons (sv_tup sa_nil) (sa_cons (sv_add (sv_n 2) (sv_repT (sv_tup (sa_cons sv_int sa_nil)) sv_int)) sa_nil))))))) sc__law_changed.nd) (ss_one (ss_ret (sv_tup (sa_cons (sv_ixP 7 (sv_callB' 0 F__law_drawn hr T.g__law_drawn T.f__law_drawn.kp T.b__law_drawn tk (sa_cons sv_int sa_nil) (len_cons len_nil))) (sa_cons (sv_n 3) sa_nil)))))))) ss_nil) (ss_cons (ss_set 6 (sv_callB' 0 F__law_drawn hr T.g__law_drawn T.f__law_drawn.kp T.b__law_drawn tk (sa_cons (sv_lenP 3 (by rfl) T.n_len) sa_nil) (len_cons len_nil)) sc__law_changed.nd) (ss_cons (ss_set 8 (sv_ixP 3 (sv_n 6)) sc__law_changed.nd) (ss_cons (ss_set 9 (sv_callB' 0 F__law_drawn hr T.g__law_drawn T.f__law_drawn.kp T.b__law_drawn tk (sa_cons (sv_add (sv_lenP 8 (by rfl) T.n_len) sv_int) sa_nil) (len_cons len_nil)) sc__law_changed.nd) (ss_cons (ss_if (st_cmp cm_lt (sv_n 4) sv_int) (ss_cons (ss_setO 7 (so_lst (sa_cons (sv_add (sv_add (sv_slT (sv_n 8) spt_no (spt_is (sv_n 9))) (sv_tup (sa_cons (sv_n 5) sa_nil))) (sv_slT (sv_n 8) (spt_is (sv_n 9)) spt_no)) (sa_cons (sv_add (sv_slT (sv_n 8) spt_no (spt_is (sv_n 9))) (sv_slT (sv_n 8) (spt_is (sv_add (sv_n 9) sv_int)) spt_no)) (sa_cons (sv_add (sv_add (sv_slT (sv_n 8) spt_no (spt_is (sv_n 9))) (sv_slT (sv_n 8) spt_no (spt_is sv_int))) (sv_slT (sv_n 8) (spt_is (sv_n 9)) spt_no)) sa_nil)))) sc__law_changed.nd) (ss_cons (ss_set 8 (sv_ix (sv_add (sv_n 7) (sv_o (so_lst (sa_cons (sv_o (so_list (by rfl) T.n_list (sv_n 8))) (sa_cons (sv_ixP 3 sv_int) sa_nil))))) (sv_callB' 0 F__law_drawn hr T.g__law_drawn T.f__law_drawn.kp T.b__law_drawn tk (sa_cons sv_int sa_nil) (len_cons len_nil))) sc__law_changed.nd) (ss_one (ss_ret (sv_tup (sa_cons (sv_n 2) (sa_cons (sv_add (sv_add (sv_slT (sv_n 3) spt_no (spt_is (sv_n 6))) (sv_tup (sa_cons (sv_n 8) sa_nil))) (sv_slT (sv_n 3) (spt_is (sv_add (sv_n 6) sv_int)) spt_no)) sa_nil))))))) ss_nil) (ss_cons (ss_setO 7 (so_lst (sa_cons (sv_add (sv_n 3) (sv_repT (sv_tup (sa_cons (sv_tup sa_nil) sa_nil)) sv_int)) (sa_cons (sv_tup sa_nil) (sa_cons (sv_o (so_list (by rfl) T.n_list (sv_n 3))) (sa_cons (sv_add (sv_slT (sv_n 3) spt_no (spt_is (sv_n 6))) (sv_slT (sv_n 3) (spt_is (sv_add (sv_n 6) sv_int)) spt_no)) (sa_cons (sv_add (sv_n 3) (sv_tup (sa_cons (sv_n 5) sa_nil))) sa_nil)))))) sc__law_changed.nd) (ss_one (ss_ret (sv_tup (sa_cons (sv_n 2) (sa_cons (sv_ixP 7 (sv_callB' 0 F__law_drawn hr T.g__law_drawn T.f__law_drawn.kp T.b__law_drawn tk (sa_cons sv_int sa_nil) (len_cons len_nil))) sa_nil))))))))))))))
end
theorem kindX_cases {x : Xc} {d : PyData} (h : kindX x = some d) : (∃ y z, x.cls = "BadShelf" ∧ x.fs = some [(("number" : Str), y), (("part" : Str), z)] ∧ d = .tuple [.str "BadShelf", z, y]) ∨ (∃ y z, x.cls = "BadWay" ∧ x.fs = some [(("why" : Str), y), (("number" : Str), z)] ∧ d = .tuple [.str "BadWay", z, y]) := by
  unfold kindX at h
  split at h
  · rename_i f2 y f1 z e
    split at h
    · rename_i c
      obtain ⟨c1, rfl, rfl⟩ := c
      exact .inl (⟨y, z, c1, e, (Option.some.inj h).symm⟩)
    · skip
      split at h
      · rename_i c
        obtain ⟨c1, rfl, rfl⟩ := c
        exact .inr (⟨y, z, c1, e, (Option.some.inj h).symm⟩)
      · cases h
  · cases h
section
variable {P : Program} {w : World} {K : PySem.W.Frag} {mg : Str → Option Value} {base : Heap} {f : Nat → Addr} {fd : Nat → FuncData} {g : Nat → Addr} {gd : Nat → FuncData}
theorem kind_ok (T : Tx K mg f fd g gd) (X : Cx) (hr : Room 1 X.A) (hK : X.K = K) (hmg : X.mg = mg) (ga : Addr) (cdg : Value) (q : Str) :
    LamX.GivesTo X N__law_kind "_law_kind" (defScope s__law_kind) ga cdg (defBody s__law_kind) "_law_work" q (TTk X.K X.mg kindX) := by
  subst hK hmg
  refine kind_gives (CS := f 1) (i := 1) kindX (by decide +kernel) rfl rfl rfl T.gh_ShelfError (by decide) (fun _ => rfl) (fun s H xc dres cls dd gs hk hc hf => ?_) (fun xc dres hk => ?_)
  · rcases kindX_cases hk with ⟨y, z, e1, e2, rfl⟩ | ⟨y, z, e1, e2, rfl⟩
    · rw [e1, T.gc_BadShelf] at hc
      cases hc
      rw [e2] at hf
      cases hf
      exact ⟨T.exm_BadShelf, fun a oe pn hz hd => ⟨_, ok_kind_BadShelf T X hr rfl rfl ga cdg s H a dd oe pn hz hd, kind_BadShelf a dd z y⟩⟩
    · rw [e1, T.gc_BadWay] at hc
      cases hc
      rw [e2] at hf
      cases hf
      exact ⟨T.exm_BadWay, fun a oe pn hz hd => ⟨_, ok_kind_BadWay T X hr rfl rfl ga cdg s H a dd oe pn hz hd, kind_BadWay a dd z y⟩⟩
  · rcases kindX_cases hk with ⟨y, z, e1, e2, rfl⟩ | ⟨y, z, e1, e2, rfl⟩ <;> exact ⟨_, e2⟩
end
section
variable {P : Program} {w : World} {K : PySem.W.Frag} {mg : Str → Option Value} {base : Heap} {f : Nat → Addr} {fd : Nat → FuncData} {g : Nat → Addr} {gd : Nat → FuncData}
theorem body_law (T : Tx K mg f fd g gd) (F__law_bad : FnOk P w K mg base (L2.CX P w) 2 (a__law_bad f) (d__law_bad fd) ["_law_shelf_here"] (SpD K mg 1 m__law_bad)) (F__law_changed : FnOk P w K mg base (L2.CX P w) 2 (a__law_changed f) (d__law_changed fd) ["_law_state", "_law_shelf_here"] (SpB K 1 m__law_changed)) (F__law_drawn : FnOk P w K mg base (L2.CX P w) 1 (a__law_drawn f) (d__law_drawn fd) ["_law_state", "_law_many"] (SpB K 1 m__law_drawn)) (F__law_shelf : FnOk P w K mg base (L2.CX P w) 4 (a__law_shelf f) (d__law_shelf fd) ["_law_state", "_law_most", "_law_lots_here"] (SpB K 2 m__law_shelf)) (F__law_start : FnOk P w K mg base (L2.CX P w) 1 (a__law_start f) (d__law_start fd) ["_law_script"] (SpO K mg 1 m__law_start)) (F_done : FnOk P w K mg base (L2.CX P w) 6 (a_done f) (d_done fd) ["shelf", "deeds"] (SpD K mg 2 m_done)) (F_written : FnOk P w K mg base (L2.CX P w) 5 (a_written f) (d_written fd) ["shelf"] (SpD K mg 1 m_written)) {c Pt fa : Addr} (TB : LamX.TabB base mg c Pt) (A : Around) (outer : List PySem.Env) (s : Shared) (H : Hp) (E : XK) (hr : Room 10 (A.deeper (PyProof.Rows.envOfC "law" (defScope s_law) s.heap.objs.size fa (.ref c)))) :
    SSs (cxOf (L2.CX P w) P w K mg base N_law "law" (defScope s_law) fa (.ref c) A outer s H E) (WE0 E) (defBody s_law) (G_law Pt) := by
  obtain ⟨ock, odk, kVk, dock, pmk, ank, cdk, ctk, oslk, efk, lkk, hck⟩ := T.f__law_kind.ex
  have bk := T.b__law_kind; rw [efk] at bk lkk
  have tk := takes_of (X := (cxOf (L2.CX P w) P w K mg base N_law "law" (defScope s_law) fa (.ref c) A outer s H E)) (E := E) rfl rfl rfl rfl
  have hp := passes_of (X := (cxOf (L2.CX P w) P w K mg base N_law "law" (defScope s_law) fa (.ref c) A outer s H E)) rfl
  exact (ss_cons (ss_setO 1 (so_call F__law_start (hr.mono (by decide)) T.g__law_start T.f__law_start.kp T.b__law_start tk (sa_cons (sv_n 0) sa_nil) (len_cons len_nil)) sc_law.nd) (ss_cons (ss_forR1 hp rfl (by rfl) T.n_range sv_int (sg_n 2 sc_law.nd) (ss_cons (ss_set 7 (sv_callB' 1 F__law_shelf (hr.mono (by decide)) T.g__law_shelf T.f__law_shelf.kp T.b__law_shelf tk (sa_cons sv_int (sa_cons sv_int sa_nil)) (len_cons (len_cons len_nil))) sc_law.nd) (ss_cons (ss_forR1 hp rfl (by rfl) T.n_range (sv_callB' 1 F__law_drawn (hr.mono (by decide)) T.g__law_drawn T.f__law_drawn.kp T.b__law_drawn tk (sa_cons sv_int sa_nil) (len_cons len_nil)) (sg_n 3 sc_law.nd) (ss_one (ss_if (st_cmp cm_is (sv_call F__law_bad (hr.mono (by decide)) T.g__law_bad T.f__law_bad.kp T.b__law_bad tk (sa_cons (sv_n 7) sa_nil) (len_cons len_nil)) sv_non) (ss_one (ss_set 7 (sv_callB' 1 F__law_changed (hr.mono (by decide)) T.g__law_changed T.f__law_changed.kp T.b__law_changed tk (sa_cons (sv_n 7) sa_nil) (len_cons len_nil)) sc_law.nd)) ss_nil))) (ss_cons (ss_set 4 (sv_call F__law_bad (hr.mono (by decide)) T.g__law_bad T.f__law_bad.kp T.b__law_bad tk (sa_cons (sv_n 7) sa_nil) (len_cons len_nil)) sc_law.nd) (ss_cons (ss_set 5 (sg_ifE (st_cmp cm_is (sv_n 4) sv_non) sv_non (sv_add (sv_tup (sa_cons sv_str sa_nil)) (sv_n 4))) sc_law.nd) (ss_cons (ss_setO 6 (so_lst (sa_cons (sv_lam (T := [(Pt, qLam)]) (kind := kindX) (k := 8) 8 (by rfl) T.g__law_kind T.f__law_kind.kp lkk hck bk sc__law_kind rfl (Or.inl rfl) (kind_ok T _ (hr.mono (by decide)) rfl rfl _ _ _) TB rfl (List.mem_singleton.mpr rfl) (fun p hp _ => by rw [List.mem_singleton.mp hp]; rfl) (hr.mono (by decide)) (LamX.lamS_by (sc := defScope s_law) (by decide +kernel)) rfl (fun _ _ _ _ _ => rfl) (fun A2 o2 s2 H2 E2 f2 c2 hr2 => (sv_call F_written (hr2.mono (by decide)) T.g_written T.f_written.kp T.b_written takes_lam (sa_cons (sv_n 7) sa_nil) (len_cons len_nil)))) (sa_cons (sv_lamD (T := [(Pt, qLam)]) (kind := kindX) (k := 8) (df := true) (ps := ["_law_a"]) 8 (by rfl) T.g__law_kind T.f__law_kind.kp lkk hck bk sc__law_kind rfl (Or.inl rfl) (kind_ok T _ (hr.mono (by decide)) rfl rfl _ _ _) TB rfl (List.mem_singleton.mpr rfl) (fun p hp _ => by rw [List.mem_singleton.mp hp]; rfl) (hr.mono (by decide)) (lamP_by (N := N_law) (sc := defScope s_law) (by decide +kernel)) (dfE1 rfl rfl) (lamB1 (fun _ _ _ _ _ => ⟨_, rfl, fun _ => rfl⟩)) (fun A2 o2 s2 H2 E2 f2 c2 hr2 => (sv_call F_done (hr2.mono (by decide)) T.g_done T.f_done.kp T.b_done takes_lam (sa_cons (sv_n 7) (sa_cons sv_non sa_nil)) (len_cons (len_cons len_nil))))) sa_nil))) sc_law.nd) (ss_cons (ss_if (st_cmp (cm_ne hr.units) (sv_ixP 6 sv_int) (sg_ifE (st_cmp cm_is (sv_n 5) sv_non) (sv_tup (sa_cons sv_str (sa_cons sv_int (sa_cons sv_str sa_nil)))) (sv_n 5))) (ss_one (ss_ret sv_bl)) ss_nil) (ss_one (ss_if (st_w (sw_or (st_w (sw_and (st_cmp cm_isn (sv_n 5) sv_non) (sw_and1 (st_cmp (cm_ne hr.units) (sv_ixP 6 sv_int) (sv_n 5))))) (sw_or1 (st_w (sw_and (st_cmp cm_is (sv_n 5) sv_non) (sw_and1 (st_not (st_val (sv_isa (by rfl) T.n_isinstance (by rfl) T.n_str (by decide +kernel) (by decide) (sv_ixP 6 sv_int)))))))))) (ss_one (ss_ret sv_bl)) ss_nil))))))))) (ss_one (ss_ret sv_bl))))
end
def spLaw (K : PySem.W.Frag) (Pt : Addr) : Sp := fun vs H Q E => ∃ (a : Addr) (ns : List Int), vs = [.ref a] ∧ SqL K H a (ns.map V.int) ∧ scriptOk ns ∧ H Pt = some (.tbl #[]) ∧ ∀ H', Q (.bl true) H'
def f0 (H : Hp) (a : Addr) : Hp := fun b => if b = a then (match H a with
  | some (.lst xs) => some (.lst xs)
  | some (.frz ob (.lst xs)) => some (.frz ob (.lst xs))
  | _ => none) else none
theorem f0_some {H : Hp} {a b : Addr} {o : HO} (h : f0 H a b = some o) : b = a ∧ H a = some o ∧ okNew o ∧ ∀ ps, o ≠ .tbl ps := by
  unfold f0 at h
  split at h
  · rename_i e
    split at h
    · rename_i q; cases h; exact ⟨e, q, trivial, fun ps z => by cases z⟩
    · rename_i q; cases h; exact ⟨e, q, trivial, fun ps z => by cases z⟩
    · cases h
  · cases h
theorem f0_sql {K : PySem.W.Frag} {H : Hp} {a : Addr} {xs : List V} (h : SqL K H a xs) : SqL K (f0 H a) a xs := by
  rcases h with (h | ⟨ob, h⟩) | h
  · exact .inl (.inl (by unfold f0; rw [if_pos rfl, h]))
  · exact .inl (.inr ⟨ob, by unfold f0; rw [if_pos rfl, h]⟩)
  · exact .inr h
theorem ints_dps {K : PySem.W.Frag} {F : Hp} : ∀ ns : List Int, DpAll K F (ns.map V.int) (ns.map PyData.int)
  | [] => .nil
  | n :: r => .cons (.int n) (ints_dps r)
theorem rel_law {K : PySem.W.Frag} {H : Hp} {a Pt : Addr} {ns : List Int} (hS : SqL K H a (ns.map V.int)) (hP : H Pt = some (.tbl #[])) :
    Rel K ⟨f0 H a, fun b => if b = Pt then H Pt else f0 H a b, [Pt], [(Pt, qLam)]⟩ (f0 H a) (L2.start N_law [.ref a]) H (envL Pt ns) where
  fh := fun b o h => by obtain ⟨rfl, h2, _⟩ := f0_some h; exact h2
  cf := Ex.refl _
  new := fun b h1 h2 => absurd h1 h2
  pres := fun b o h hb => by
    have ne : b ≠ Pt := by simpa using hb
    have h : (if b = Pt then H Pt else f0 H a b) = some o := h
    rw [if_neg ne] at h
    obtain ⟨rfl, h2, _⟩ := f0_some h; exact h2
  bd := fun b hb => by
    have e : b = Pt := by simpa using hb
    subst e
    refine ⟨by rw [hP]; simp, ?_, ?_⟩
    · cases q : f0 H a b with
      | none => exact q
      | some o =>
        obtain ⟨rfl, h2, _, h3⟩ := f0_some q
        rw [hP] at h2
        exact absurd (Option.some.inj h2).symm (h3 _)
    · show (if b = b then H b else f0 H a b) ≠ none
      rw [if_pos rfl, hP]; simp
  sl := fun i s hs => by
    unfold envL at hs
    match i with
    | 0 =>
      have e : Sl.val (.list (ns.map PyData.int)) = s := by simpa using hs
      subst e
      exact ⟨.ref a, rfl, .lst (f0_sql hS) (ints_dps ns)⟩
    | i + 1 =>
      have hs : (List.replicate 7 Sl.no ++ [Sl.tab [(Pt, qLam)]])[i]? = some s := by simpa using hs
      by_cases hi : i < 7
      · rw [List.getElem?_append_left (by simpa using hi), List.getElem?_replicate, if_pos hi] at hs
        cases hs
        trivial
      · rw [List.getElem?_append_right (by simpa using hi)] at hs
        have : i - 7 = 0 := by
          by_cases z : i - 7 = 0
          · exact z
          · rw [List.length_replicate, List.getElem?_eq_none (by simp; omega)] at hs; cases hs
        rw [List.length_replicate, this] at hs
        cases hs
        refine ⟨⟨rfl, fun b hb => ⟨qLam, ?_⟩⟩, fun b ps z => ?_⟩
        · have e : b = Pt := by simpa using hb
          rw [e]; exact List.mem_singleton.mpr rfl
        · have z : (if b = Pt then H Pt else f0 H a b) = some (.tbl ps) := z
          by_cases e : b = Pt
          · subst e; exact List.mem_singleton.mpr rfl
          · rw [if_neg e] at z; exact absurd rfl ((f0_some z).2.2.2 ps)
  dis := fun i j p ⟨s, e, b, _⟩ _ => by
    unfold envL at e
    have := List.mem_of_getElem? e
    simp only [List.mem_cons, List.mem_append, List.mem_replicate, List.mem_nil_iff, or_false] at this
    rcases this with rfl | ⟨_, rfl⟩ | rfl <;> cases b
  len := rfl
  tb := fun q hq => by
    rw [List.mem_singleton.mp hq]
    exact LamX.TabS.nil hP
  nt := fun b o h => (f0_some h).2.2.1
section
variable {P : Program} {w : World} {K : PySem.W.Frag} {mg : Str → Option Value} {base : Heap} {f : Nat → Addr} {fd : Nat → FuncData} {g : Nat → Addr} {gd : Nat → FuncData}
theorem ok_law (T : Tx K mg f fd g gd) (F__law_bad : FnOk P w K mg base (L2.CX P w) 2 (a__law_bad f) (d__law_bad fd) ["_law_shelf_here"] (SpD K mg 1 m__law_bad)) (F__law_changed : FnOk P w K mg base (L2.CX P w) 2 (a__law_changed f) (d__law_changed fd) ["_law_state", "_law_shelf_here"] (SpB K 1 m__law_changed)) (F__law_drawn : FnOk P w K mg base (L2.CX P w) 1 (a__law_drawn f) (d__law_drawn fd) ["_law_state", "_law_many"] (SpB K 1 m__law_drawn)) (F__law_shelf : FnOk P w K mg base (L2.CX P w) 4 (a__law_shelf f) (d__law_shelf fd) ["_law_state", "_law_most", "_law_lots_here"] (SpB K 2 m__law_shelf)) (F__law_start : FnOk P w K mg base (L2.CX P w) 1 (a__law_start f) (d__law_start fd) ["_law_script"] (SpO K mg 1 m__law_start)) (F_done : FnOk P w K mg base (L2.CX P w) 6 (a_done f) (d_done fd) ["shelf", "deeds"] (SpD K mg 2 m_done)) (F_written : FnOk P w K mg base (L2.CX P w) 5 (a_written f) (d_written fd) ["shelf"] (SpD K mg 1 m_written)) {c Pt fa : Addr} (TB : LamX.TabB base mg c Pt) {oc kV dV doc pm ct : Value} {od an : Option Addr} {osl : Array (Option Value)} (lk : K.lookup fa = some ⟨oc, od, .func (PySem.W.fnOf "law" "law" (defArgs s_law) (defBody s_law) (defScope s_law) dV kV doc pm an (.ref c) ct), osl⟩) (hcd : PySem.W.codeIn K (.ref c) "law" = true)
    (math : ∀ ns : List Int, scriptOk ns → ∃ env, G_law Pt (envL Pt ns) = some (.rt (.bool true) env)) : FnOk P w K mg base (L2.CX P w) 11 fa (PySem.W.fnOf "law" "law" (defArgs s_law) (defBody s_law) (defScope s_law) dV kV doc pm an (.ref c) ct) ["_law_script"] (spLaw K Pt) :=
  fn_of lk hcd sc_law (fun vs H Q E ⟨a, ns, e, _⟩ => by rw [e]; rfl) fun A outer s H vs Q E hr ⟨a, ns, e, hS, hl, hP, hq⟩ => by
    subst e
    obtain ⟨env, hm⟩ := math ns hl
    exact ⟨_, body_law T F__law_bad F__law_changed F__law_drawn F__law_shelf F__law_start F_done F_written TB A outer s H E hr, _, _, _, rel_law hS hP, by rw [hm]; exact fun v σ F2 H2 R ex dv => by cases dv; exact hq H2⟩
end
theorem all_mk {P : Program} {w : World} {K : PySem.W.Frag} {mg : Str → Option Value} {h : Heap} (X : K.In h) (G : h.Ns mainGlobals mg) {fa : Addr} (hfa : mg "law" = some (.ref fa))
    {t_FIRST : Tok}
    {t_FIXED : Tok}
    {t_LAST : Tok}
    {t_LOT : Tok}
    {t_MOST_BOOKS : Tok}
    {t_MOST_LOTS : Tok}
    {t_MOST_PRICE : Tok}
    {t_PRICES : Tok}
    {C1 : Addr}
    {C2 : Addr}
    {C3 : Addr}
    {C4 : Addr}
    {C5 : Addr}
    {C6 : Addr}
    {C7 : Addr}
    {C8 : Addr}
    {C9 : Addr}
    {C10 : Addr}
    {g2 : Addr} {nm2 q2 : Str} {N2 : Addr} {bs2 : List Value} {sn2 : List Str} {sub2 : List Value} {ab2 : Bool} {col2 : Option Bool} {dd2 : Option Addr} {m02 m12 m22 m32 m52 : Option Value} {oi2 ki2 di2 pi2 ci2 ti2 : Value} {odi2 ani2 : Option Addr} {sli2 : Array (Option Value)}
    {g5 : Addr} {nm5 q5 : Str} {N5 : Addr} {bs5 : List Value} {sn5 : List Str} {sub5 : List Value} {ab5 : Bool} {col5 : Option Bool} {dd5 : Option Addr} {m05 m15 m25 m35 m55 : Option Value} {oi5 ki5 di5 pi5 ci5 ti5 : Value} {odi5 ani5 : Option Addr} {sli5 : Array (Option Value)}
    {a15 : Addr} {o15 k15 e15 p15 c15 u15 : Value} {y15 z15 : Option Addr} {s15 : Array (Option Value)}
    {a16 : Addr} {o16 k16 e16 p16 c16 u16 : Value} {y16 z16 : Option Addr} {s16 : Array (Option Value)}
    {a17 : Addr} {o17 k17 e17 p17 c17 u17 : Value} {y17 z17 : Option Addr} {s17 : Array (Option Value)}
    {a18 : Addr} {o18 k18 e18 p18 c18 u18 : Value} {y18 z18 : Option Addr} {s18 : Array (Option Value)}
    {a19 : Addr} {o19 k19 e19 p19 c19 u19 : Value} {y19 z19 : Option Addr} {s19 : Array (Option Value)}
    {a20 : Addr} {o20 k20 e20 p20 c20 u20 : Value} {y20 z20 : Option Addr} {s20 : Array (Option Value)}
    {a21 : Addr} {o21 k21 e21 p21 c21 u21 : Value} {y21 z21 : Option Addr} {s21 : Array (Option Value)}
    {a22 : Addr} {o22 k22 e22 p22 c22 u22 : Value} {y22 z22 : Option Addr} {s22 : Array (Option Value)}
    {a27 : Addr} {o27 k27 e27 p27 c27 u27 : Value} {y27 z27 : Option Addr} {s27 : Array (Option Value)}
    {a28 : Addr} {o28 k28 e28 p28 c28 u28 : Value} {y28 z28 : Option Addr} {s28 : Array (Option Value)}
    {a32 : Addr} {o32 k32 e32 p32 c32 u32 : Value} {y32 z32 : Option Addr} {s32 : Array (Option Value)}
    {a33 : Addr} {o33 k33 e33 p33 c33 u33 : Value} {y33 z33 : Option Addr} {s33 : Array (Option Value)}
    {a34 : Addr} {o34 k34 e34 p34 c34 u34 : Value} {y34 z34 : Option Addr} {s34 : Array (Option Value)}
    {a35 : Addr} {o35 k35 e35 p35 c35 u35 : Value} {y35 z35 : Option Addr} {s35 : Array (Option Value)}
    {a36 : Addr} {o36 k36 e36 p36 c36 u36 : Value} {y36 z36 : Option Addr} {s36 : Array (Option Value)}
    {a37 : Addr} {o37 k37 e37 p37 c37 u37 : Value} {y37 z37 : Option Addr} {s37 : Array (Option Value)}
    {a38 : Addr} {o38 k38 e38 p38 c38 u38 : Value} {y38 z38 : Option Addr} {s38 : Array (Option Value)}
    {a40 : Addr} {o40 k40 e40 p40 c40 u40 : Value} {y40 z40 : Option Addr} {s40 : Array (Option Value)}
    {a41 : Addr} {o41 k41 e41 p41 c41 u41 : Value} {y41 z41 : Option Addr} {s41 : Array (Option Value)}
    {a43 : Addr} {o43 k43 e43 p43 c43 u43 : Value} {y43 z43 : Option Addr} {s43 : Array (Option Value)}
    {a44 : Addr} {o44 k44 e44 p44 c44 u44 : Value} {y44 z44 : Option Addr} {s44 : Array (Option Value)}
    {a45 : Addr} {o45 k45 e45 p45 c45 u45 : Value} {y45 z45 : Option Addr} {s45 : Array (Option Value)}
    {a48 : Addr} {o48 k48 e48 p48 c48 u48 : Value} {y48 z48 : Option Addr} {s48 : Array (Option Value)}
    {a49 : Addr} {o49 k49 e49 p49 c49 u49 : Value} {y49 z49 : Option Addr} {s49 : Array (Option Value)}
    {a50 : Addr} {o50 k50 e50 p50 c50 u50 : Value} {y50 z50 : Option Addr} {s50 : Array (Option Value)}
    {a42 : Addr} {o42 k42 e42 p42 c42 u42 : Value} {y42 z42 : Option Addr} {s42 : Array (Option Value)}
    {c Pt aL : Addr} {oL kL eL pL uL : Value} {yL zL : Option Addr} {sL : Array (Option Value)}
    (nb_ValueError : PySem.W.nsIn K mainGlobals "ValueError" = some none)
    (nb_bool : PySem.W.nsIn K mainGlobals "bool" = some none)
    (nb_enumerate : PySem.W.nsIn K mainGlobals "enumerate" = some none)
    (nb_int : PySem.W.nsIn K mainGlobals "int" = some none)
    (nb_isinstance : PySem.W.nsIn K mainGlobals "isinstance" = some none)
    (nb_len : PySem.W.nsIn K mainGlobals "len" = some none)
    (nb_list : PySem.W.nsIn K mainGlobals "list" = some none)
    (nb_range : PySem.W.nsIn K mainGlobals "range" = some none)
    (nb_set : PySem.W.nsIn K mainGlobals "set" = some none)
    (nb_str : PySem.W.nsIn K mainGlobals "str" = some none)
    (nb_tuple : PySem.W.nsIn K mainGlobals "tuple" = some none)
    (gl_FIRST : PySem.W.nsIn K mainGlobals "FIRST" = some (some (.str "first" t_FIRST)))
    (gl_FIXED : PySem.W.nsIn K mainGlobals "FIXED" = some (some (.str "-" t_FIXED)))
    (gl_LAST : PySem.W.nsIn K mainGlobals "LAST" = some (some (.str "last" t_LAST)))
    (gl_LOT : PySem.W.nsIn K mainGlobals "LOT" = some (some (.str "lot" t_LOT)))
    (gl_MOST_BOOKS : PySem.W.nsIn K mainGlobals "MOST_BOOKS" = some (some (.int 12 t_MOST_BOOKS)))
    (gl_MOST_LOTS : PySem.W.nsIn K mainGlobals "MOST_LOTS" = some (some (.int 5 t_MOST_LOTS)))
    (gl_MOST_PRICE : PySem.W.nsIn K mainGlobals "MOST_PRICE" = some (some (.int 99 t_MOST_PRICE)))
    (gl_PRICES : PySem.W.nsIn K mainGlobals "PRICES" = some (some (.str "prices" t_PRICES)))
    (cl_1 : PySem.W.nsIn K mainGlobals "ShelfError" = some (some (.ref C1)))
    (cl_2 : PySem.W.nsIn K mainGlobals "BadShelf" = some (some (.ref C2)))
    (cl_3 : PySem.W.nsIn K mainGlobals "BadGoal" = some (some (.ref C3)))
    (cl_4 : PySem.W.nsIn K mainGlobals "BadWish" = some (some (.ref C4)))
    (cl_5 : PySem.W.nsIn K mainGlobals "BadWay" = some (some (.ref C5)))
    (cl_6 : PySem.W.nsIn K mainGlobals "NoWay" = some (some (.ref C6)))
    (cl_7 : PySem.W.nsIn K mainGlobals "BadName" = some (some (.ref C7)))
    (cl_8 : PySem.W.nsIn K mainGlobals "NoPoint" = some (some (.ref C8)))
    (cl_9 : PySem.W.nsIn K mainGlobals "Halted" = some (some (.ref C9)))
    (cl_10 : PySem.W.nsIn K mainGlobals "BadText" = some (some (.ref C10)))
    (bg_1 : PySem.W.specialIn K (.ref C1) "__getattribute__" = some (some (.builtin "type.__getattribute__")))
    (br_1 : PySem.W.readsIn K C1 (.type "type") = true)
    (bf_1 : PySem.W.findCls K (.ref C1) (.type "type") "__init__" = some (.val (.builtin "ValueError.__init__")))
    (xl_2 : K.lookup C2 = some (excClassObj nm2 q2 C2 N2 bs2 [.ref C1, .type "ValueError", .type "Exception", .type "BaseException", .type "object"] true sn2 sub2 ab2 col2 dd2 m02 m12 m22 m32 m52 "ValueError.__new__"))
    (sa_2 : PySem.W.findIn K (.ref C2) "__setattr__" = some (some (.builtin "object.__setattr__")))
    (ex_2 : PySem.W.subIn K (.ref C2) (.type "BaseException") = some true)
    (ty_2 : PySem.W.typeIn K (.ref C2) = some (.type "type"))
    (kc_2 : PySem.W.keepIn K (.ref C2) = true)
    (ic_2 : PySem.W.findIn K (.ref C2) "__init__" = some (some (.ref g2)))
    (ti_2 : PySem.W.typeIn K (.ref g2) = some (.type "function"))
    (li_2 : K.lookup g2 = some ⟨oi2, odi2, .func (PySem.W.fnOf "__init__" "BadShelf.__init__" (defArgs i_BadShelf) (defBody i_BadShelf) (defScope i_BadShelf) .none ki2 di2 pi2 ani2 ci2 ti2), sli2⟩)
    (cc_2 : PySem.W.codeIn K ci2 "BadShelf.__init__" = true)
    (kk_2 : PySem.W.keepIn K (.ref g2) = true)
    (nf_2_part : PySem.W.findIn K (.ref C2) "part" = some none)
    (nf_2_number : PySem.W.findIn K (.ref C2) "number" = some none)
    (xl_5 : K.lookup C5 = some (excClassObj nm5 q5 C5 N5 bs5 [.ref C1, .type "ValueError", .type "Exception", .type "BaseException", .type "object"] true sn5 sub5 ab5 col5 dd5 m05 m15 m25 m35 m55 "ValueError.__new__"))
    (sa_5 : PySem.W.findIn K (.ref C5) "__setattr__" = some (some (.builtin "object.__setattr__")))
    (ex_5 : PySem.W.subIn K (.ref C5) (.type "BaseException") = some true)
    (ty_5 : PySem.W.typeIn K (.ref C5) = some (.type "type"))
    (kc_5 : PySem.W.keepIn K (.ref C5) = true)
    (ic_5 : PySem.W.findIn K (.ref C5) "__init__" = some (some (.ref g5)))
    (ti_5 : PySem.W.typeIn K (.ref g5) = some (.type "function"))
    (li_5 : K.lookup g5 = some ⟨oi5, odi5, .func (PySem.W.fnOf "__init__" "BadWay.__init__" (defArgs i_BadWay) (defBody i_BadWay) (defScope i_BadWay) .none ki5 di5 pi5 ani5 ci5 ti5), sli5⟩)
    (cc_5 : PySem.W.codeIn K ci5 "BadWay.__init__" = true)
    (kk_5 : PySem.W.keepIn K (.ref g5) = true)
    (nf_5_number : PySem.W.findIn K (.ref C5) "number" = some none)
    (nf_5_why : PySem.W.findIn K (.ref C5) "why" = some none)
    (ga_2 : PySem.W.findIn K (.ref C2) "__getattribute__" = some (some (.builtin "BaseException.__getattribute__")))
    (gg_2 : PySem.W.findIn K (.ref C2) "__getattr__" = some none)
    (hd_2 : PySem.W.hasDictIn K C2 = true)
    (ha_2 : PySem.W.findIn K (.ref C2) "__class__" = some (some (.builtin "object.__class__")))
    (hm_2 : PySem.W.mroIn K C2 (.type "object") = some true)
    (em_2 : PySem.W.exmOne K (.ref C2) (.ref C1) = some true)
    (ga_5 : PySem.W.findIn K (.ref C5) "__getattribute__" = some (some (.builtin "BaseException.__getattribute__")))
    (gg_5 : PySem.W.findIn K (.ref C5) "__getattr__" = some none)
    (hd_5 : PySem.W.hasDictIn K C5 = true)
    (ha_5 : PySem.W.findIn K (.ref C5) "__class__" = some (some (.builtin "object.__class__")))
    (hm_5 : PySem.W.mroIn K C5 (.type "object") = some true)
    (em_5 : PySem.W.exmOne K (.ref C5) (.ref C1) = some true)
    (hn : PySem.W.specialIn K (.builtin "object.__class__") "__get__" = some (some (.builtin "getset_descriptor.__get__")))
    (ht : PySem.W.takesIn K (.builtin "object.__class__") = some true)
    (kt_BadShelf_BadGoal : PySem.W.kitOne K (.ref C2) (.ref C3) = some false)
    (kt_BadShelf_BadName : PySem.W.kitOne K (.ref C2) (.ref C7) = some false)
    (kt_BadShelf_BadShelf : PySem.W.kitOne K (.ref C2) (.ref C2) = some true)
    (kt_BadShelf_BadText : PySem.W.kitOne K (.ref C2) (.ref C10) = some false)
    (kt_BadShelf_BadWay : PySem.W.kitOne K (.ref C2) (.ref C5) = some false)
    (kt_BadShelf_BadWish : PySem.W.kitOne K (.ref C2) (.ref C4) = some false)
    (kt_BadShelf_Halted : PySem.W.kitOne K (.ref C2) (.ref C9) = some false)
    (kt_BadShelf_NoPoint : PySem.W.kitOne K (.ref C2) (.ref C8) = some false)
    (kt_BadShelf_NoWay : PySem.W.kitOne K (.ref C2) (.ref C6) = some false)
    (kt_BadWay_BadGoal : PySem.W.kitOne K (.ref C5) (.ref C3) = some false)
    (kt_BadWay_BadName : PySem.W.kitOne K (.ref C5) (.ref C7) = some false)
    (kt_BadWay_BadShelf : PySem.W.kitOne K (.ref C5) (.ref C2) = some false)
    (kt_BadWay_BadText : PySem.W.kitOne K (.ref C5) (.ref C10) = some false)
    (kt_BadWay_BadWay : PySem.W.kitOne K (.ref C5) (.ref C5) = some true)
    (kt_BadWay_BadWish : PySem.W.kitOne K (.ref C5) (.ref C4) = some false)
    (kt_BadWay_Halted : PySem.W.kitOne K (.ref C5) (.ref C9) = some false)
    (kt_BadWay_NoPoint : PySem.W.kitOne K (.ref C5) (.ref C8) = some false)
    (kt_BadWay_NoWay : PySem.W.kitOne K (.ref C5) (.ref C6) = some false)
    (kb_BadShelf_ValueError : PySem.W.kitOne K (.ref C2) (.type "ValueError") = some true)
    (kb_BadWay_ValueError : PySem.W.kitOne K (.ref C5) (.type "ValueError") = some true)
    (nf_2_done : PySem.W.findIn K (.ref C2) "done" = some none)
    (nf_2_row : PySem.W.findIn K (.ref C2) "row" = some none)
    (nf_2_why : PySem.W.findIn K (.ref C2) "why" = some none)
    (nf_5_done : PySem.W.findIn K (.ref C5) "done" = some none)
    (nf_5_part : PySem.W.findIn K (.ref C5) "part" = some none)
    (nf_5_row : PySem.W.findIn K (.ref C5) "row" = some none)
    (fa_15 : PySem.W.nsIn K mainGlobals "is_number" = some (some (.ref a15)))
    (fl_15 : K.lookup a15 = some ⟨o15, y15, .func (PySem.W.fnOf "is_number" "is_number" (defArgs s_is_number) (defBody s_is_number) (defScope s_is_number) .none k15 e15 p15 z15 c15 u15), s15⟩)
    (fc_15 : PySem.W.codeIn K c15 "is_number" = true)
    (fk_15 : PySem.W.keepIn K (.ref a15) = true)
    (fa_16 : PySem.W.nsIn K mainGlobals "is_place" = some (some (.ref a16)))
    (fl_16 : K.lookup a16 = some ⟨o16, y16, .func (PySem.W.fnOf "is_place" "is_place" (defArgs s_is_place) (defBody s_is_place) (defScope s_is_place) .none k16 e16 p16 z16 c16 u16), s16⟩)
    (fc_16 : PySem.W.codeIn K c16 "is_place" = true)
    (fk_16 : PySem.W.keepIn K (.ref a16) = true)
    (fa_17 : PySem.W.nsIn K mainGlobals "is_price" = some (some (.ref a17)))
    (fl_17 : K.lookup a17 = some ⟨o17, y17, .func (PySem.W.fnOf "is_price" "is_price" (defArgs s_is_price) (defBody s_is_price) (defScope s_is_price) .none k17 e17 p17 z17 c17 u17), s17⟩)
    (fc_17 : PySem.W.codeIn K c17 "is_price" = true)
    (fk_17 : PySem.W.keepIn K (.ref a17) = true)
    (fa_18 : PySem.W.nsIn K mainGlobals "lot_of" = some (some (.ref a18)))
    (fl_18 : K.lookup a18 = some ⟨o18, y18, .func (PySem.W.fnOf "lot_of" "lot_of" (defArgs s_lot_of) (defBody s_lot_of) (defScope s_lot_of) .none k18 e18 p18 z18 c18 u18), s18⟩)
    (fc_18 : PySem.W.codeIn K c18 "lot_of" = true)
    (fk_18 : PySem.W.keepIn K (.ref a18) = true)
    (fa_19 : PySem.W.nsIn K mainGlobals "wrong_price" = some (some (.ref a19)))
    (fl_19 : K.lookup a19 = some ⟨o19, y19, .func (PySem.W.fnOf "wrong_price" "wrong_price" (defArgs s_wrong_price) (defBody s_wrong_price) (defScope s_wrong_price) .none k19 e19 p19 z19 c19 u19), s19⟩)
    (fc_19 : PySem.W.codeIn K c19 "wrong_price" = true)
    (fk_19 : PySem.W.keepIn K (.ref a19) = true)
    (fa_20 : PySem.W.nsIn K mainGlobals "wrong_lot" = some (some (.ref a20)))
    (fl_20 : K.lookup a20 = some ⟨o20, y20, .func (PySem.W.fnOf "wrong_lot" "wrong_lot" (defArgs s_wrong_lot) (defBody s_wrong_lot) (defScope s_wrong_lot) .none k20 e20 p20 z20 c20 u20), s20⟩)
    (fc_20 : PySem.W.codeIn K c20 "wrong_lot" = true)
    (fk_20 : PySem.W.keepIn K (.ref a20) = true)
    (fa_21 : PySem.W.nsIn K mainGlobals "missing_book" = some (some (.ref a21)))
    (fl_21 : K.lookup a21 = some ⟨o21, y21, .func (PySem.W.fnOf "missing_book" "missing_book" (defArgs s_missing_book) (defBody s_missing_book) (defScope s_missing_book) .none k21 e21 p21 z21 c21 u21), s21⟩)
    (fc_21 : PySem.W.codeIn K c21 "missing_book" = true)
    (fk_21 : PySem.W.keepIn K (.ref a21) = true)
    (fa_22 : PySem.W.nsIn K mainGlobals "check_shelf" = some (some (.ref a22)))
    (fl_22 : K.lookup a22 = some ⟨o22, y22, .func (PySem.W.fnOf "check_shelf" "check_shelf" (defArgs s_check_shelf) (defBody s_check_shelf) (defScope s_check_shelf) .none k22 e22 p22 z22 c22 u22), s22⟩)
    (fc_22 : PySem.W.codeIn K c22 "check_shelf" = true)
    (fk_22 : PySem.W.keepIn K (.ref a22) = true)
    (fa_27 : PySem.W.nsIn K mainGlobals "row_of" = some (some (.ref a27)))
    (fl_27 : K.lookup a27 = some ⟨o27, y27, .func (PySem.W.fnOf "row_of" "row_of" (defArgs s_row_of) (defBody s_row_of) (defScope s_row_of) .none k27 e27 p27 z27 c27 u27), s27⟩)
    (fc_27 : PySem.W.codeIn K c27 "row_of" = true)
    (fk_27 : PySem.W.keepIn K (.ref a27) = true)
    (fa_28 : PySem.W.nsIn K mainGlobals "written" = some (some (.ref a28)))
    (fl_28 : K.lookup a28 = some ⟨o28, y28, .func (PySem.W.fnOf "written" "written" (defArgs s_written) (defBody s_written) (defScope s_written) .none k28 e28 p28 z28 c28 u28), s28⟩)
    (fc_28 : PySem.W.codeIn K c28 "written" = true)
    (fk_28 : PySem.W.keepIn K (.ref a28) = true)
    (fa_32 : PySem.W.nsIn K mainGlobals "is_deed" = some (some (.ref a32)))
    (fl_32 : K.lookup a32 = some ⟨o32, y32, .func (PySem.W.fnOf "is_deed" "is_deed" (defArgs s_is_deed) (defBody s_is_deed) (defScope s_is_deed) .none k32 e32 p32 z32 c32 u32), s32⟩)
    (fc_32 : PySem.W.codeIn K c32 "is_deed" = true)
    (fk_32 : PySem.W.keepIn K (.ref a32) = true)
    (fa_33 : PySem.W.nsIn K mainGlobals "why_not" = some (some (.ref a33)))
    (fl_33 : K.lookup a33 = some ⟨o33, y33, .func (PySem.W.fnOf "why_not" "why_not" (defArgs s_why_not) (defBody s_why_not) (defScope s_why_not) .none k33 e33 p33 z33 c33 u33), s33⟩)
    (fc_33 : PySem.W.codeIn K c33 "why_not" = true)
    (fk_33 : PySem.W.keepIn K (.ref a33) = true)
    (fa_34 : PySem.W.nsIn K mainGlobals "check_list" = some (some (.ref a34)))
    (fl_34 : K.lookup a34 = some ⟨o34, y34, .func (PySem.W.fnOf "check_list" "check_list" (defArgs s_check_list) (defBody s_check_list) (defScope s_check_list) .none k34 e34 p34 z34 c34 u34), s34⟩)
    (fc_34 : PySem.W.codeIn K c34 "check_list" = true)
    (fk_34 : PySem.W.keepIn K (.ref a34) = true)
    (fa_35 : PySem.W.nsIn K mainGlobals "check_deeds" = some (some (.ref a35)))
    (fl_35 : K.lookup a35 = some ⟨o35, y35, .func (PySem.W.fnOf "check_deeds" "check_deeds" (defArgs s_check_deeds) (defBody s_check_deeds) (defScope s_check_deeds) .none k35 e35 p35 z35 c35 u35), s35⟩)
    (fc_35 : PySem.W.codeIn K c35 "check_deeds" = true)
    (fk_35 : PySem.W.keepIn K (.ref a35) = true)
    (fa_36 : PySem.W.nsIn K mainGlobals "lots_behind" = some (some (.ref a36)))
    (fl_36 : K.lookup a36 = some ⟨o36, y36, .func (PySem.W.fnOf "lots_behind" "lots_behind" (defArgs s_lots_behind) (defBody s_lots_behind) (defScope s_lots_behind) .none k36 e36 p36 z36 c36 u36), s36⟩)
    (fc_36 : PySem.W.codeIn K c36 "lots_behind" = true)
    (fk_36 : PySem.W.keepIn K (.ref a36) = true)
    (fa_37 : PySem.W.nsIn K mainGlobals "outcome" = some (some (.ref a37)))
    (fl_37 : K.lookup a37 = some ⟨o37, y37, .func (PySem.W.fnOf "outcome" "outcome" (defArgs s_outcome) (defBody s_outcome) (defScope s_outcome) .none k37 e37 p37 z37 c37 u37), s37⟩)
    (fc_37 : PySem.W.codeIn K c37 "outcome" = true)
    (fk_37 : PySem.W.keepIn K (.ref a37) = true)
    (fa_38 : PySem.W.nsIn K mainGlobals "done" = some (some (.ref a38)))
    (fl_38 : K.lookup a38 = some ⟨o38, y38, .func (PySem.W.fnOf "done" "done" (defArgs s_done) (defBody s_done) (defScope s_done) .none k38 e38 p38 z38 c38 u38), s38⟩)
    (fc_38 : PySem.W.codeIn K c38 "done" = true)
    (fk_38 : PySem.W.keepIn K (.ref a38) = true)
    (fa_40 : PySem.W.nsIn K mainGlobals "_law_start" = some (some (.ref a40)))
    (fl_40 : K.lookup a40 = some ⟨o40, y40, .func (PySem.W.fnOf "_law_start" "_law_start" (defArgs s__law_start) (defBody s__law_start) (defScope s__law_start) .none k40 e40 p40 z40 c40 u40), s40⟩)
    (fc_40 : PySem.W.codeIn K c40 "_law_start" = true)
    (fk_40 : PySem.W.keepIn K (.ref a40) = true)
    (fa_41 : PySem.W.nsIn K mainGlobals "_law_drawn" = some (some (.ref a41)))
    (fl_41 : K.lookup a41 = some ⟨o41, y41, .func (PySem.W.fnOf "_law_drawn" "_law_drawn" (defArgs s__law_drawn) (defBody s__law_drawn) (defScope s__law_drawn) .none k41 e41 p41 z41 c41 u41), s41⟩)
    (fc_41 : PySem.W.codeIn K c41 "_law_drawn" = true)
    (fk_41 : PySem.W.keepIn K (.ref a41) = true)
    (fa_43 : PySem.W.nsIn K mainGlobals "_law_turned" = some (some (.ref a43)))
    (fl_43 : K.lookup a43 = some ⟨o43, y43, .func (PySem.W.fnOf "_law_turned" "_law_turned" (defArgs s__law_turned) (defBody s__law_turned) (defScope s__law_turned) .none k43 e43 p43 z43 c43 u43), s43⟩)
    (fc_43 : PySem.W.codeIn K c43 "_law_turned" = true)
    (fk_43 : PySem.W.keepIn K (.ref a43) = true)
    (fa_44 : PySem.W.nsIn K mainGlobals "_law_lots" = some (some (.ref a44)))
    (fl_44 : K.lookup a44 = some ⟨o44, y44, .func (PySem.W.fnOf "_law_lots" "_law_lots" (defArgs s__law_lots) (defBody s__law_lots) (defScope s__law_lots) .none k44 e44 p44 z44 c44 u44), s44⟩)
    (fc_44 : PySem.W.codeIn K c44 "_law_lots" = true)
    (fk_44 : PySem.W.keepIn K (.ref a44) = true)
    (fa_45 : PySem.W.nsIn K mainGlobals "_law_shelf" = some (some (.ref a45)))
    (fl_45 : K.lookup a45 = some ⟨o45, y45, .func (PySem.W.fnOf "_law_shelf" "_law_shelf" (defArgs s__law_shelf) (defBody s__law_shelf) (defScope s__law_shelf) .none k45 e45 p45 z45 c45 u45), s45⟩)
    (fc_45 : PySem.W.codeIn K c45 "_law_shelf" = true)
    (fk_45 : PySem.W.keepIn K (.ref a45) = true)
    (fa_48 : PySem.W.nsIn K mainGlobals "_law_is" = some (some (.ref a48)))
    (fl_48 : K.lookup a48 = some ⟨o48, y48, .func (PySem.W.fnOf "_law_is" "_law_is" (defArgs s__law_is) (defBody s__law_is) (defScope s__law_is) .none k48 e48 p48 z48 c48 u48), s48⟩)
    (fc_48 : PySem.W.codeIn K c48 "_law_is" = true)
    (fk_48 : PySem.W.keepIn K (.ref a48) = true)
    (fa_49 : PySem.W.nsIn K mainGlobals "_law_bad" = some (some (.ref a49)))
    (fl_49 : K.lookup a49 = some ⟨o49, y49, .func (PySem.W.fnOf "_law_bad" "_law_bad" (defArgs s__law_bad) (defBody s__law_bad) (defScope s__law_bad) .none k49 e49 p49 z49 c49 u49), s49⟩)
    (fc_49 : PySem.W.codeIn K c49 "_law_bad" = true)
    (fk_49 : PySem.W.keepIn K (.ref a49) = true)
    (fa_50 : PySem.W.nsIn K mainGlobals "_law_changed" = some (some (.ref a50)))
    (fl_50 : K.lookup a50 = some ⟨o50, y50, .func (PySem.W.fnOf "_law_changed" "_law_changed" (defArgs s__law_changed) (defBody s__law_changed) (defScope s__law_changed) .none k50 e50 p50 z50 c50 u50), s50⟩)
    (fc_50 : PySem.W.codeIn K c50 "_law_changed" = true)
    (fk_50 : PySem.W.keepIn K (.ref a50) = true)
    (fa_42 : PySem.W.nsIn K mainGlobals "_law_kind" = some (some (.ref a42)))
    (fl_42 : K.lookup a42 = some ⟨o42, y42, .func (PySem.W.fnOf "_law_kind" "_law_kind" (defArgs s__law_kind) (defBody s__law_kind) (defScope s__law_kind) .none k42 e42 p42 z42 c42 u42), s42⟩)
    (fc_42 : PySem.W.codeIn K c42 "_law_kind" = true)
    (fk_42 : PySem.W.keepIn K (.ref a42) = true)
    (la : PySem.W.nsIn K mainGlobals "law" = some (some (.ref aL)))
    (ll : K.lookup aL = some ⟨oL, yL, .func (PySem.W.fnOf "law" "law" (defArgs s_law) (defBody s_law) (defScope s_law) .none kL eL pL zL (.ref c) uL), sL⟩)
    (lc : PySem.W.codeIn K (.ref c) "law" = true)
    (lt : PySem.W.codeHdIn K c Pt = true)
    (ln : K.lookup Pt = none)
    (math : ∀ ns : List Int, scriptOk ns → ∃ env, G_law Pt (envL Pt ns) = some (.rt (.bool true) env)) :
    ∃ fd : FuncData, PySem.W.CodeHd h c Pt ∧ K.lookup Pt = none ∧ (∀ (s : Shared) (u : Value), BindsTo s fd ⟨[u], []⟩ [("_law_script", u)]) ∧ ∀ base : Heap, LamX.TabB base mg c Pt → FnOk P w K mg base (L2.CX P w) 11 fa fd ["_law_script"] (spLaw K Pt) := by
  have eL1 := hfa.symm.trans (PySem.W.mg_of X G la)
  cases eL1
  have F15 := fun_mk (st := s_is_number) fl_15 fc_15 fk_15
  have F16 := fun_mk (st := s_is_place) fl_16 fc_16 fk_16
  have F17 := fun_mk (st := s_is_price) fl_17 fc_17 fk_17
  have F18 := fun_mk (st := s_lot_of) fl_18 fc_18 fk_18
  have F19 := fun_mk (st := s_wrong_price) fl_19 fc_19 fk_19
  have F20 := fun_mk (st := s_wrong_lot) fl_20 fc_20 fk_20
  have F21 := fun_mk (st := s_missing_book) fl_21 fc_21 fk_21
  have F22 := fun_mk (st := s_check_shelf) fl_22 fc_22 fk_22
  have F27 := fun_mk (st := s_row_of) fl_27 fc_27 fk_27
  have F28 := fun_mk (st := s_written) fl_28 fc_28 fk_28
  have F32 := fun_mk (st := s_is_deed) fl_32 fc_32 fk_32
  have F33 := fun_mk (st := s_why_not) fl_33 fc_33 fk_33
  have F34 := fun_mk (st := s_check_list) fl_34 fc_34 fk_34
  have F35 := fun_mk (st := s_check_deeds) fl_35 fc_35 fk_35
  have F36 := fun_mk (st := s_lots_behind) fl_36 fc_36 fk_36
  have F37 := fun_mk (st := s_outcome) fl_37 fc_37 fk_37
  have F38 := fun_mk (st := s_done) fl_38 fc_38 fk_38
  have F40 := fun_mk (st := s__law_start) fl_40 fc_40 fk_40
  have F41 := fun_mk (st := s__law_drawn) fl_41 fc_41 fk_41
  have F43 := fun_mk (st := s__law_turned) fl_43 fc_43 fk_43
  have F44 := fun_mk (st := s__law_lots) fl_44 fc_44 fk_44
  have F45 := fun_mk (st := s__law_shelf) fl_45 fc_45 fk_45
  have F48 := fun_mk (st := s__law_is) fl_48 fc_48 fk_48
  have F49 := fun_mk (st := s__law_bad) fl_49 fc_49 fk_49
  have F50 := fun_mk (st := s__law_changed) fl_50 fc_50 fk_50
  have F42 := fun_mk (st := s__law_kind) fl_42 fc_42 fk_42
  have I2 := fun_mk (st := i_BadShelf) li_2 cc_2 kk_2
  have O2 : OexC K C2 := ⟨⟨_, _, _, _, _, _, _, _, _, _, _, _, _, _, _, xl_2, by rfl⟩, sa_2, ex_2, ty_2, kc_2⟩
  have I5 := fun_mk (st := i_BadWay) li_5 cc_5 kk_5
  have O5 : OexC K C5 := ⟨⟨_, _, _, _, _, _, _, _, _, _, _, _, _, _, _, xl_5, by rfl⟩, sa_5, ex_5, ty_5, kc_5⟩
  have T : Tx K mg (fun i => ([0, C1, C2, C3, C4, C5, C6, C7, C8, C9, C10, 0, 0, 0, 0, a15, a16, a17, a18, a19, a20, a21, a22, 0, 0, 0, 0, a27, a28, 0, 0, 0, a32, a33, a34, a35, a36, a37, a38, 0, a40, a41, a42, a43, a44, a45, 0, 0, a48, a49, a50] : List Addr).getD i 0) (fun i => ([PySem.W.fnOf "law" "law" (defArgs s_law) (defBody s_law) (defScope s_law) .none kL eL pL zL (.ref c) uL, PySem.W.fnOf "law" "law" (defArgs s_law) (defBody s_law) (defScope s_law) .none kL eL pL zL (.ref c) uL, PySem.W.fnOf "law" "law" (defArgs s_law) (defBody s_law) (defScope s_law) .none kL eL pL zL (.ref c) uL, PySem.W.fnOf "law" "law" (defArgs s_law) (defBody s_law) (defScope s_law) .none kL eL pL zL (.ref c) uL, PySem.W.fnOf "law" "law" (defArgs s_law) (defBody s_law) (defScope s_law) .none kL eL pL zL (.ref c) uL, PySem.W.fnOf "law" "law" (defArgs s_law) (defBody s_law) (defScope s_law) .none kL eL pL zL (.ref c) uL, PySem.W.fnOf "law" "law" (defArgs s_law) (defBody s_law) (defScope s_law) .none kL eL pL zL (.ref c) uL, PySem.W.fnOf "law" "law" (defArgs s_law) (defBody s_law) (defScope s_law) .none kL eL pL zL (.ref c) uL, PySem.W.fnOf "law" "law" (defArgs s_law) (defBody s_law) (defScope s_law) .none kL eL pL zL (.ref c) uL, PySem.W.fnOf "law" "law" (defArgs s_law) (defBody s_law) (defScope s_law) .none kL eL pL zL (.ref c) uL, PySem.W.fnOf "law" "law" (defArgs s_law) (defBody s_law) (defScope s_law) .none kL eL pL zL (.ref c) uL, PySem.W.fnOf "law" "law" (defArgs s_law) (defBody s_law) (defScope s_law) .none kL eL pL zL (.ref c) uL, PySem.W.fnOf "law" "law" (defArgs s_law) (defBody s_law) (defScope s_law) .none kL eL pL zL (.ref c) uL, PySem.W.fnOf "law" "law" (defArgs s_law) (defBody s_law) (defScope s_law) .none kL eL pL zL (.ref c) uL, PySem.W.fnOf "law" "law" (defArgs s_law) (defBody s_law) (defScope s_law) .none kL eL pL zL (.ref c) uL, PySem.W.fnOf "is_number" "is_number" (defArgs s_is_number) (defBody s_is_number) (defScope s_is_number) .none k15 e15 p15 z15 c15 u15, PySem.W.fnOf "is_place" "is_place" (defArgs s_is_place) (defBody s_is_place) (defScope s_is_place) .none k16 e16 p16 z16 c16 u16, PySem.W.fnOf "is_price" "is_price" (defArgs s_is_price) (defBody s_is_price) (defScope s_is_price) .none k17 e17 p17 z17 c17 u17, PySem.W.fnOf "lot_of" "lot_of" (defArgs s_lot_of) (defBody s_lot_of) (defScope s_lot_of) .none k18 e18 p18 z18 c18 u18, PySem.W.fnOf "wrong_price" "wrong_price" (defArgs s_wrong_price) (defBody s_wrong_price) (defScope s_wrong_price) .none k19 e19 p19 z19 c19 u19, PySem.W.fnOf "wrong_lot" "wrong_lot" (defArgs s_wrong_lot) (defBody s_wrong_lot) (defScope s_wrong_lot) .none k20 e20 p20 z20 c20 u20, PySem.W.fnOf "missing_book" "missing_book" (defArgs s_missing_book) (defBody s_missing_book) (defScope s_missing_book) .none k21 e21 p21 z21 c21 u21, PySem.W.fnOf "check_shelf" "check_shelf" (defArgs s_check_shelf) (defBody s_check_shelf) (defScope s_check_shelf) .none k22 e22 p22 z22 c22 u22, PySem.W.fnOf "law" "law" (defArgs s_law) (defBody s_law) (defScope s_law) .none kL eL pL zL (.ref c) uL, PySem.W.fnOf "law" "law" (defArgs s_law) (defBody s_law) (defScope s_law) .none kL eL pL zL (.ref c) uL, PySem.W.fnOf "law" "law" (defArgs s_law) (defBody s_law) (defScope s_law) .none kL eL pL zL (.ref c) uL, PySem.W.fnOf "law" "law" (defArgs s_law) (defBody s_law) (defScope s_law) .none kL eL pL zL (.ref c) uL, PySem.W.fnOf "row_of" "row_of" (defArgs s_row_of) (defBody s_row_of) (defScope s_row_of) .none k27 e27 p27 z27 c27 u27, PySem.W.fnOf "written" "written" (defArgs s_written) (defBody s_written) (defScope s_written) .none k28 e28 p28 z28 c28 u28, PySem.W.fnOf "law" "law" (defArgs s_law) (defBody s_law) (defScope s_law) .none kL eL pL zL (.ref c) uL, PySem.W.fnOf "law" "law" (defArgs s_law) (defBody s_law) (defScope s_law) .none kL eL pL zL (.ref c) uL, PySem.W.fnOf "law" "law" (defArgs s_law) (defBody s_law) (defScope s_law) .none kL eL pL zL (.ref c) uL, PySem.W.fnOf "is_deed" "is_deed" (defArgs s_is_deed) (defBody s_is_deed) (defScope s_is_deed) .none k32 e32 p32 z32 c32 u32, PySem.W.fnOf "why_not" "why_not" (defArgs s_why_not) (defBody s_why_not) (defScope s_why_not) .none k33 e33 p33 z33 c33 u33, PySem.W.fnOf "check_list" "check_list" (defArgs s_check_list) (defBody s_check_list) (defScope s_check_list) .none k34 e34 p34 z34 c34 u34, PySem.W.fnOf "check_deeds" "check_deeds" (defArgs s_check_deeds) (defBody s_check_deeds) (defScope s_check_deeds) .none k35 e35 p35 z35 c35 u35, PySem.W.fnOf "lots_behind" "lots_behind" (defArgs s_lots_behind) (defBody s_lots_behind) (defScope s_lots_behind) .none k36 e36 p36 z36 c36 u36, PySem.W.fnOf "outcome" "outcome" (defArgs s_outcome) (defBody s_outcome) (defScope s_outcome) .none k37 e37 p37 z37 c37 u37, PySem.W.fnOf "done" "done" (defArgs s_done) (defBody s_done) (defScope s_done) .none k38 e38 p38 z38 c38 u38, PySem.W.fnOf "law" "law" (defArgs s_law) (defBody s_law) (defScope s_law) .none kL eL pL zL (.ref c) uL, PySem.W.fnOf "_law_start" "_law_start" (defArgs s__law_start) (defBody s__law_start) (defScope s__law_start) .none k40 e40 p40 z40 c40 u40, PySem.W.fnOf "_law_drawn" "_law_drawn" (defArgs s__law_drawn) (defBody s__law_drawn) (defScope s__law_drawn) .none k41 e41 p41 z41 c41 u41, PySem.W.fnOf "_law_kind" "_law_kind" (defArgs s__law_kind) (defBody s__law_kind) (defScope s__law_kind) .none k42 e42 p42 z42 c42 u42, PySem.W.fnOf "_law_turned" "_law_turned" (defArgs s__law_turned) (defBody s__law_turned) (defScope s__law_turned) .none k43 e43 p43 z43 c43 u43, PySem.W.fnOf "_law_lots" "_law_lots" (defArgs s__law_lots) (defBody s__law_lots) (defScope s__law_lots) .none k44 e44 p44 z44 c44 u44, PySem.W.fnOf "_law_shelf" "_law_shelf" (defArgs s__law_shelf) (defBody s__law_shelf) (defScope s__law_shelf) .none k45 e45 p45 z45 c45 u45, PySem.W.fnOf "law" "law" (defArgs s_law) (defBody s_law) (defScope s_law) .none kL eL pL zL (.ref c) uL, PySem.W.fnOf "law" "law" (defArgs s_law) (defBody s_law) (defScope s_law) .none kL eL pL zL (.ref c) uL, PySem.W.fnOf "_law_is" "_law_is" (defArgs s__law_is) (defBody s__law_is) (defScope s__law_is) .none k48 e48 p48 z48 c48 u48, PySem.W.fnOf "_law_bad" "_law_bad" (defArgs s__law_bad) (defBody s__law_bad) (defScope s__law_bad) .none k49 e49 p49 z49 c49 u49, PySem.W.fnOf "_law_changed" "_law_changed" (defArgs s__law_changed) (defBody s__law_changed) (defScope s__law_changed) .none k50 e50 p50 z50 c50 u50] : List FuncData).getD i (PySem.W.fnOf "law" "law" (defArgs s_law) (defBody s_law) (defScope s_law) .none kL eL pL zL (.ref c) uL)) (fun i => ([0, 0, g2, 0, 0, g5, 0, 0, 0, 0, 0, 0, 0, 0, 0, 0, 0, 0, 0, 0, 0, 0, 0, 0, 0, 0, 0, 0, 0, 0, 0, 0, 0, 0, 0, 0, 0, 0, 0, 0, 0, 0, 0, 0, 0, 0, 0, 0, 0, 0, 0] : List Addr).getD i 0) (fun i => ([PySem.W.fnOf "law" "law" (defArgs s_law) (defBody s_law) (defScope s_law) .none kL eL pL zL (.ref c) uL, PySem.W.fnOf "law" "law" (defArgs s_law) (defBody s_law) (defScope s_law) .none kL eL pL zL (.ref c) uL, PySem.W.fnOf "__init__" "BadShelf.__init__" (defArgs i_BadShelf) (defBody i_BadShelf) (defScope i_BadShelf) .none ki2 di2 pi2 ani2 ci2 ti2, PySem.W.fnOf "law" "law" (defArgs s_law) (defBody s_law) (defScope s_law) .none kL eL pL zL (.ref c) uL, PySem.W.fnOf "law" "law" (defArgs s_law) (defBody s_law) (defScope s_law) .none kL eL pL zL (.ref c) uL, PySem.W.fnOf "__init__" "BadWay.__init__" (defArgs i_BadWay) (defBody i_BadWay) (defScope i_BadWay) .none ki5 di5 pi5 ani5 ci5 ti5, PySem.W.fnOf "law" "law" (defArgs s_law) (defBody s_law) (defScope s_law) .none kL eL pL zL (.ref c) uL, PySem.W.fnOf "law" "law" (defArgs s_law) (defBody s_law) (defScope s_law) .none kL eL pL zL (.ref c) uL, PySem.W.fnOf "law" "law" (defArgs s_law) (defBody s_law) (defScope s_law) .none kL eL pL zL (.ref c) uL, PySem.W.fnOf "law" "law" (defArgs s_law) (defBody s_law) (defScope s_law) .none kL eL pL zL (.ref c) uL, PySem.W.fnOf "law" "law" (defArgs s_law) (defBody s_law) (defScope s_law) .none kL eL pL zL (.ref c) uL, PySem.W.fnOf "law" "law" (defArgs s_law) (defBody s_law) (defScope s_law) .none kL eL pL zL (.ref c) uL, PySem.W.fnOf "law" "law" (defArgs s_law) (defBody s_law) (defScope s_law) .none kL eL pL zL (.ref c) uL, PySem.W.fnOf "law" "law" (defArgs s_law) (defBody s_law) (defScope s_law) .none kL eL pL zL (.ref c) uL, PySem.W.fnOf "law" "law" (defArgs s_law) (defBody s_law) (defScope s_law) .none kL eL pL zL (.ref c) uL, PySem.W.fnOf "law" "law" (defArgs s_law) (defBody s_law) (defScope s_law) .none kL eL pL zL (.ref c) uL, PySem.W.fnOf "law" "law" (defArgs s_law) (defBody s_law) (defScope s_law) .none kL eL pL zL (.ref c) uL, PySem.W.fnOf "law" "law" (defArgs s_law) (defBody s_law) (defScope s_law) .none kL eL pL zL (.ref c) uL, PySem.W.fnOf "law" "law" (defArgs s_law) (defBody s_law) (defScope s_law) .none kL eL pL zL (.ref c) uL, PySem.W.fnOf "law" "law" (defArgs s_law) (defBody s_law) (defScope s_law) .none kL eL pL zL (.ref c) uL, PySem.W.fnOf "law" "law" (defArgs s_law) (defBody s_law) (defScope s_law) .none kL eL pL zL (.ref c) uL, PySem.W.fnOf "law" "law" (defArgs s_law) (defBody s_law) (defScope s_law) .none kL eL pL zL (.ref c) uL, PySem.W.fnOf "law" "law" (defArgs s_law) (defBody s_law) (defScope s_law) .none kL eL pL zL (.ref c) uL, PySem.W.fnOf "law" "law" (defArgs s_law) (defBody s_law) (defScope s_law) .none kL eL pL zL (.ref c) uL, PySem.W.fnOf "law" "law" (defArgs s_law) (defBody s_law) (defScope s_law) .none kL eL pL zL (.ref c) uL, PySem.W.fnOf "law" "law" (defArgs s_law) (defBody s_law) (defScope s_law) .none kL eL pL zL (.ref c) uL, PySem.W.fnOf "law" "law" (defArgs s_law) (defBody s_law) (defScope s_law) .none kL eL pL zL (.ref c) uL, PySem.W.fnOf "law" "law" (defArgs s_law) (defBody s_law) (defScope s_law) .none kL eL pL zL (.ref c) uL, PySem.W.fnOf "law" "law" (defArgs s_law) (defBody s_law) (defScope s_law) .none kL eL pL zL (.ref c) uL, PySem.W.fnOf "law" "law" (defArgs s_law) (defBody s_law) (defScope s_law) .none kL eL pL zL (.ref c) uL, PySem.W.fnOf "law" "law" (defArgs s_law) (defBody s_law) (defScope s_law) .none kL eL pL zL (.ref c) uL, PySem.W.fnOf "law" "law" (defArgs s_law) (defBody s_law) (defScope s_law) .none kL eL pL zL (.ref c) uL, PySem.W.fnOf "law" "law" (defArgs s_law) (defBody s_law) (defScope s_law) .none kL eL pL zL (.ref c) uL, PySem.W.fnOf "law" "law" (defArgs s_law) (defBody s_law) (defScope s_law) .none kL eL pL zL (.ref c) uL, PySem.W.fnOf "law" "law" (defArgs s_law) (defBody s_law) (defScope s_law) .none kL eL pL zL (.ref c) uL, PySem.W.fnOf "law" "law" (defArgs s_law) (defBody s_law) (defScope s_law) .none kL eL pL zL (.ref c) uL, PySem.W.fnOf "law" "law" (defArgs s_law) (defBody s_law) (defScope s_law) .none kL eL pL zL (.ref c) uL, PySem.W.fnOf "law" "law" (defArgs s_law) (defBody s_law) (defScope s_law) .none kL eL pL zL (.ref c) uL, PySem.W.fnOf "law" "law" (defArgs s_law) (defBody s_law) (defScope s_law) .none kL eL pL zL (.ref c) uL, PySem.W.fnOf "law" "law" (defArgs s_law) (defBody s_law) (defScope s_law) .none kL eL pL zL (.ref c) uL, PySem.W.fnOf "law" "law" (defArgs s_law) (defBody s_law) (defScope s_law) .none kL eL pL zL (.ref c) uL, PySem.W.fnOf "law" "law" (defArgs s_law) (defBody s_law) (defScope s_law) .none kL eL pL zL (.ref c) uL, PySem.W.fnOf "law" "law" (defArgs s_law) (defBody s_law) (defScope s_law) .none kL eL pL zL (.ref c) uL, PySem.W.fnOf "law" "law" (defArgs s_law) (defBody s_law) (defScope s_law) .none kL eL pL zL (.ref c) uL, PySem.W.fnOf "law" "law" (defArgs s_law) (defBody s_law) (defScope s_law) .none kL eL pL zL (.ref c) uL, PySem.W.fnOf "law" "law" (defArgs s_law) (defBody s_law) (defScope s_law) .none kL eL pL zL (.ref c) uL, PySem.W.fnOf "law" "law" (defArgs s_law) (defBody s_law) (defScope s_law) .none kL eL pL zL (.ref c) uL, PySem.W.fnOf "law" "law" (defArgs s_law) (defBody s_law) (defScope s_law) .none kL eL pL zL (.ref c) uL, PySem.W.fnOf "law" "law" (defArgs s_law) (defBody s_law) (defScope s_law) .none kL eL pL zL (.ref c) uL, PySem.W.fnOf "law" "law" (defArgs s_law) (defBody s_law) (defScope s_law) .none kL eL pL zL (.ref c) uL, PySem.W.fnOf "law" "law" (defArgs s_law) (defBody s_law) (defScope s_law) .none kL eL pL zL (.ref c) uL] : List FuncData).getD i (PySem.W.fnOf "law" "law" (defArgs s_law) (defBody s_law) (defScope s_law) .none kL eL pL zL (.ref c) uL)) := {
    n_ValueError := PySem.W.mg_none_of X G nb_ValueError
    n_bool := PySem.W.mg_none_of X G nb_bool
    n_enumerate := PySem.W.mg_none_of X G nb_enumerate
    n_int := PySem.W.mg_none_of X G nb_int
    n_isinstance := PySem.W.mg_none_of X G nb_isinstance
    n_len := PySem.W.mg_none_of X G nb_len
    n_list := PySem.W.mg_none_of X G nb_list
    n_range := PySem.W.mg_none_of X G nb_range
    n_set := PySem.W.mg_none_of X G nb_set
    n_str := PySem.W.mg_none_of X G nb_str
    n_tuple := PySem.W.mg_none_of X G nb_tuple
    c_FIRST := ⟨_, PySem.W.mg_of X G gl_FIRST, ⟨_, rfl⟩⟩
    c_FIXED := ⟨_, PySem.W.mg_of X G gl_FIXED, ⟨_, rfl⟩⟩
    c_LAST := ⟨_, PySem.W.mg_of X G gl_LAST, ⟨_, rfl⟩⟩
    c_LOT := ⟨_, PySem.W.mg_of X G gl_LOT, ⟨_, rfl⟩⟩
    c_MOST_BOOKS := ⟨_, PySem.W.mg_of X G gl_MOST_BOOKS, ⟨_, rfl⟩⟩
    c_MOST_LOTS := ⟨_, PySem.W.mg_of X G gl_MOST_LOTS, ⟨_, rfl⟩⟩
    c_MOST_PRICE := ⟨_, PySem.W.mg_of X G gl_MOST_PRICE, ⟨_, rfl⟩⟩
    c_PRICES := ⟨_, PySem.W.mg_of X G gl_PRICES, ⟨_, rfl⟩⟩
    gc_BadGoal := PySem.W.mg_of X G cl_3
    gc_BadName := PySem.W.mg_of X G cl_7
    gc_BadShelf := PySem.W.mg_of X G cl_2
    gc_BadText := PySem.W.mg_of X G cl_10
    gc_BadWay := PySem.W.mg_of X G cl_5
    gc_BadWish := PySem.W.mg_of X G cl_4
    gc_Halted := PySem.W.mg_of X G cl_9
    gc_NoPoint := PySem.W.mg_of X G cl_8
    gc_NoWay := PySem.W.mg_of X G cl_6
    ec_BadShelf := ⟨ga_2, gg_2, ex_2, hd_2, ha_2, hn, ht, hm_2⟩
    xf_BadShelf := ⟨ga_2, gg_2, ex_2, hd_2⟩
    exm_BadShelf := em_2
    ec_BadWay := ⟨ga_5, gg_5, ex_5, hd_5, ha_5, hn, ht, hm_5⟩
    xf_BadWay := ⟨ga_5, gg_5, ex_5, hd_5⟩
    exm_BadWay := em_5
    gh_ShelfError := PySem.W.mg_of X G cl_1
    kit_BadShelf_BadGoal := kt_BadShelf_BadGoal
    kit_BadShelf_BadName := kt_BadShelf_BadName
    kit_BadShelf_BadShelf := kt_BadShelf_BadShelf
    kit_BadShelf_BadText := kt_BadShelf_BadText
    kit_BadShelf_BadWay := kt_BadShelf_BadWay
    kit_BadShelf_BadWish := kt_BadShelf_BadWish
    kit_BadShelf_Halted := kt_BadShelf_Halted
    kit_BadShelf_NoPoint := kt_BadShelf_NoPoint
    kit_BadShelf_NoWay := kt_BadShelf_NoWay
    kit_BadWay_BadGoal := kt_BadWay_BadGoal
    kit_BadWay_BadName := kt_BadWay_BadName
    kit_BadWay_BadShelf := kt_BadWay_BadShelf
    kit_BadWay_BadText := kt_BadWay_BadText
    kit_BadWay_BadWay := kt_BadWay_BadWay
    kit_BadWay_BadWish := kt_BadWay_BadWish
    kit_BadWay_Halted := kt_BadWay_Halted
    kit_BadWay_NoPoint := kt_BadWay_NoPoint
    kit_BadWay_NoWay := kt_BadWay_NoWay
    kitb_BadShelf_ValueError := kb_BadShelf_ValueError
    kitb_BadWay_ValueError := kb_BadWay_ValueError
    nf_BadShelf_done := nf_2_done
    nf_BadShelf_row := nf_2_row
    nf_BadShelf_why := nf_2_why
    nf_BadWay_done := nf_5_done
    nf_BadWay_part := nf_5_part
    nf_BadWay_row := nf_5_row
    base_ShelfError := ⟨PySem.W.mg_of X G cl_1, bg_1, br_1, bf_1⟩
    x_BadShelf := ⟨PySem.W.mg_of X G cl_2, O2, ic_2, ti_2⟩
    fi_BadShelf := I2
    bk_BadShelf := fun s u ws hl => match ws, hl with | [_, _], _ => .of_eq rfl
    nf_BadShelf_part := nf_2_part
    nf_BadShelf_number := nf_2_number
    x_BadWay := ⟨PySem.W.mg_of X G cl_5, O5, ic_5, ti_5⟩
    fi_BadWay := I5
    bk_BadWay := fun s u ws hl => match ws, hl with | [_, _], _ => .of_eq rfl
    nf_BadWay_number := nf_5_number
    nf_BadWay_why := nf_5_why
    g_is_number := PySem.W.mg_of X G fa_15
    f_is_number := F15
    b_is_number := F15.binds (ps := ["value"]) fun _ _ _ _ _ _ us hl => match us, hl with | [_], _ => rfl
    g_is_place := PySem.W.mg_of X G fa_16
    f_is_place := F16
    b_is_place := F16.binds (ps := ["value", "many"]) fun _ _ _ _ _ _ us hl => match us, hl with | [_, _], _ => rfl
    g_is_price := PySem.W.mg_of X G fa_17
    f_is_price := F17
    b_is_price := F17.binds (ps := ["value"]) fun _ _ _ _ _ _ us hl => match us, hl with | [_], _ => rfl
    g_lot_of := PySem.W.mg_of X G fa_18
    f_lot_of := F18
    b_lot_of := F18.binds (ps := ["lots", "book"]) fun _ _ _ _ _ _ us hl => match us, hl with | [_, _], _ => rfl
    g_wrong_price := PySem.W.mg_of X G fa_19
    f_wrong_price := F19
    b_wrong_price := F19.binds (ps := ["prices"]) fun _ _ _ _ _ _ us hl => match us, hl with | [_], _ => rfl
    g_wrong_lot := PySem.W.mg_of X G fa_20
    f_wrong_lot := F20
    b_wrong_lot := F20.binds (ps := ["lots", "books", "fewest", "most"]) fun _ _ _ _ _ _ us hl => match us, hl with | [_, _, _, _], _ => rfl
    g_missing_book := PySem.W.mg_of X G fa_21
    f_missing_book := F21
    b_missing_book := F21.binds (ps := ["lots", "books"]) fun _ _ _ _ _ _ us hl => match us, hl with | [_, _], _ => rfl
    g_check_shelf := PySem.W.mg_of X G fa_22
    f_check_shelf := F22
    b_check_shelf := F22.binds (ps := ["shelf"]) fun _ _ _ _ _ _ us hl => match us, hl with | [_], _ => rfl
    g_row_of := PySem.W.mg_of X G fa_27
    f_row_of := F27
    b_row_of := F27.binds (ps := ["head", "words"]) fun _ _ _ _ _ _ us hl => match us, hl with | [_, _], _ => rfl
    g_written := PySem.W.mg_of X G fa_28
    f_written := F28
    b_written := F28.binds (ps := ["shelf"]) fun _ _ _ _ _ _ us hl => match us, hl with | [_], _ => rfl
    g_is_deed := PySem.W.mg_of X G fa_32
    f_is_deed := F32
    b_is_deed := F32.binds (ps := ["shelf", "deed"]) fun _ _ _ _ _ _ us hl => match us, hl with | [_, _], _ => rfl
    g_why_not := PySem.W.mg_of X G fa_33
    f_why_not := F33
    b_why_not := F33.binds (ps := ["shelf", "deed"]) fun _ _ _ _ _ _ us hl => match us, hl with | [_, _], _ => rfl
    g_check_list := PySem.W.mg_of X G fa_34
    f_check_list := F34
    b_check_list := F34.binds (ps := ["deeds"]) fun _ _ _ _ _ _ us hl => match us, hl with | [_], _ => rfl
    g_check_deeds := PySem.W.mg_of X G fa_35
    f_check_deeds := F35
    b_check_deeds := F35.binds (ps := ["shelf", "deeds"]) fun _ _ _ _ _ _ us hl => match us, hl with | [_, _], _ => rfl
    g_lots_behind := PySem.W.mg_of X G fa_36
    f_lots_behind := F36
    b_lots_behind := F36.binds (ps := ["lots", "deed"]) fun _ _ _ _ _ _ us hl => match us, hl with | [_, _], _ => rfl
    g_outcome := PySem.W.mg_of X G fa_37
    f_outcome := F37
    b_outcome := F37.binds (ps := ["shelf", "deeds"]) fun _ _ _ _ _ _ us hl => match us, hl with | [_, _], _ => rfl
    g_done := PySem.W.mg_of X G fa_38
    f_done := F38
    b_done := F38.binds (ps := ["shelf", "deeds"]) fun _ _ _ _ _ _ us hl => match us, hl with | [_, _], _ => rfl
    g__law_start := PySem.W.mg_of X G fa_40
    f__law_start := F40
    b__law_start := F40.binds (ps := ["_law_script"]) fun _ _ _ _ _ _ us hl => match us, hl with | [_], _ => rfl
    g__law_drawn := PySem.W.mg_of X G fa_41
    f__law_drawn := F41
    b__law_drawn := F41.binds (ps := ["_law_state", "_law_many"]) fun _ _ _ _ _ _ us hl => match us, hl with | [_, _], _ => rfl
    g__law_turned := PySem.W.mg_of X G fa_43
    f__law_turned := F43
    b__law_turned := F43.binds (ps := ["_law_state", "_law_many"]) fun _ _ _ _ _ _ us hl => match us, hl with | [_, _], _ => rfl
    g__law_lots := PySem.W.mg_of X G fa_44
    f__law_lots := F44
    b__law_lots := F44.binds (ps := ["_law_state", "_law_many", "_law_lots_here"]) fun _ _ _ _ _ _ us hl => match us, hl with | [_, _, _], _ => rfl
    g__law_shelf := PySem.W.mg_of X G fa_45
    f__law_shelf := F45
    b__law_shelf := F45.binds (ps := ["_law_state", "_law_most", "_law_lots_here"]) fun _ _ _ _ _ _ us hl => match us, hl with | [_, _, _], _ => rfl
    g__law_is := PySem.W.mg_of X G fa_48
    f__law_is := F48
    b__law_is := F48.binds (ps := ["_law_thing", "_law_low", "_law_high"]) fun _ _ _ _ _ _ us hl => match us, hl with | [_, _, _], _ => rfl
    g__law_bad := PySem.W.mg_of X G fa_49
    f__law_bad := F49
    b__law_bad := F49.binds (ps := ["_law_shelf_here"]) fun _ _ _ _ _ _ us hl => match us, hl with | [_], _ => rfl
    g__law_changed := PySem.W.mg_of X G fa_50
    f__law_changed := F50
    b__law_changed := F50.binds (ps := ["_law_state", "_law_shelf_here"]) fun _ _ _ _ _ _ us hl => match us, hl with | [_, _], _ => rfl
    g__law_kind := PySem.W.mg_of X G fa_42
    f__law_kind := F42
    b__law_kind := F42.binds (ps := ["_law_work"]) fun _ _ _ _ _ _ us hl => match us, hl with | [_], _ => rfl
  }
  refine ⟨PySem.W.fnOf "law" "law" (defArgs s_law) (defBody s_law) (defScope s_law) .none kL eL pL zL (.ref c) uL, PySem.W.codeHd_of_K X lt, ln, fun s u => .of_eq rfl, fun base TB => ?_⟩
  have F_init_BadShelf := ok_init_BadShelf (P := P) (w := w) (base := base) T
  have F_init_BadWay := ok_init_BadWay (P := P) (w := w) (base := base) T
  have F_is_number := ok_is_number (P := P) (w := w) (base := base) T 
  have F_is_place := ok_is_place (P := P) (w := w) (base := base) T F_is_number
  have F_is_price := ok_is_price (P := P) (w := w) (base := base) T F_is_number
  have F_lot_of := ok_lot_of (P := P) (w := w) (base := base) T 
  have F_wrong_price := ok_wrong_price (P := P) (w := w) (base := base) T F_is_price
  have F_wrong_lot := ok_wrong_lot (P := P) (w := w) (base := base) T F_is_place
  have F_missing_book := ok_missing_book (P := P) (w := w) (base := base) T F_lot_of
  have F_check_shelf := ok_check_shelf (P := P) (w := w) (base := base) T F_missing_book F_wrong_lot F_wrong_price F_init_BadShelf
  have F_row_of := ok_row_of (P := P) (w := w) (base := base) T 
  have F_written := ok_written (P := P) (w := w) (base := base) T F_check_shelf F_row_of
  have F_is_deed := ok_is_deed (P := P) (w := w) (base := base) T F_is_place
  have F_why_not := ok_why_not (P := P) (w := w) (base := base) T F_is_deed
  have F_check_list := ok_check_list (P := P) (w := w) (base := base) T F_init_BadWay
  have F_check_deeds := ok_check_deeds (P := P) (w := w) (base := base) T F_check_list F_why_not F_init_BadWay
  have F_lots_behind := ok_lots_behind (P := P) (w := w) (base := base) T 
  have F_outcome := ok_outcome (P := P) (w := w) (base := base) T F_lots_behind
  have F_done := ok_done (P := P) (w := w) (base := base) T F_check_deeds F_check_shelf F_outcome
  have F__law_start := ok__law_start (P := P) (w := w) (base := base) T 
  have F__law_drawn := ok__law_drawn (P := P) (w := w) (base := base) T 
  have F__law_turned := ok__law_turned (P := P) (w := w) (base := base) T F__law_drawn
  have F__law_lots := ok__law_lots (P := P) (w := w) (base := base) T F__law_drawn F__law_turned
  have F__law_shelf := ok__law_shelf (P := P) (w := w) (base := base) T F__law_drawn F__law_lots
  have F__law_is := ok__law_is (P := P) (w := w) (base := base) T 
  have F__law_bad := ok__law_bad (P := P) (w := w) (base := base) T F__law_is
  have F__law_changed := ok__law_changed (P := P) (w := w) (base := base) T F__law_drawn
  exact ok_law T F__law_bad F__law_changed F__law_drawn F__law_shelf F__law_start F_done F_written TB ll lc math
theorem law_at {l : PySem.W.OpenLaw} {w : World} {K : PySem.W.Frag} {mg : Str → Option Value} {h : Heap} {fa Pt : Addr} (hT : h.get? Pt = some { cls := .none, data := .fields #[] }) (X : K.In h) (G : h.Ns mainGlobals mg) (hfa : mg "law" = some (.ref fa))
    {t_FIRST : Tok}
    {t_FIXED : Tok}
    {t_LAST : Tok}
    {t_LOT : Tok}
    {t_MOST_BOOKS : Tok}
    {t_MOST_LOTS : Tok}
    {t_MOST_PRICE : Tok}
    {t_PRICES : Tok}
    {C1 : Addr}
    {C2 : Addr}
    {C3 : Addr}
    {C4 : Addr}
    {C5 : Addr}
    {C6 : Addr}
    {C7 : Addr}
    {C8 : Addr}
    {C9 : Addr}
    {C10 : Addr}
    {g2 : Addr} {nm2 q2 : Str} {N2 : Addr} {bs2 : List Value} {sn2 : List Str} {sub2 : List Value} {ab2 : Bool} {col2 : Option Bool} {dd2 : Option Addr} {m02 m12 m22 m32 m52 : Option Value} {oi2 ki2 di2 pi2 ci2 ti2 : Value} {odi2 ani2 : Option Addr} {sli2 : Array (Option Value)}
    {g5 : Addr} {nm5 q5 : Str} {N5 : Addr} {bs5 : List Value} {sn5 : List Str} {sub5 : List Value} {ab5 : Bool} {col5 : Option Bool} {dd5 : Option Addr} {m05 m15 m25 m35 m55 : Option Value} {oi5 ki5 di5 pi5 ci5 ti5 : Value} {odi5 ani5 : Option Addr} {sli5 : Array (Option Value)}
    {a15 : Addr} {o15 k15 e15 p15 c15 u15 : Value} {y15 z15 : Option Addr} {s15 : Array (Option Value)}
    {a16 : Addr} {o16 k16 e16 p16 c16 u16 : Value} {y16 z16 : Option Addr} {s16 : Array (Option Value)}
    {a17 : Addr} {o17 k17 e17 p17 c17 u17 : Value} {y17 z17 : Option Addr} {s17 : Array (Option Value)}
    {a18 : Addr} {o18 k18 e18 p18 c18 u18 : Value} {y18 z18 : Option Addr} {s18 : Array (Option Value)}
    {a19 : Addr} {o19 k19 e19 p19 c19 u19 : Value} {y19 z19 : Option Addr} {s19 : Array (Option Value)}
    {a20 : Addr} {o20 k20 e20 p20 c20 u20 : Value} {y20 z20 : Option Addr} {s20 : Array (Option Value)}
    {a21 : Addr} {o21 k21 e21 p21 c21 u21 : Value} {y21 z21 : Option Addr} {s21 : Array (Option Value)}
    {a22 : Addr} {o22 k22 e22 p22 c22 u22 : Value} {y22 z22 : Option Addr} {s22 : Array (Option Value)}
    {a27 : Addr} {o27 k27 e27 p27 c27 u27 : Value} {y27 z27 : Option Addr} {s27 : Array (Option Value)}
    {a28 : Addr} {o28 k28 e28 p28 c28 u28 : Value} {y28 z28 : Option Addr} {s28 : Array (Option Value)}
    {a32 : Addr} {o32 k32 e32 p32 c32 u32 : Value} {y32 z32 : Option Addr} {s32 : Array (Option Value)}
    {a33 : Addr} {o33 k33 e33 p33 c33 u33 : Value} {y33 z33 : Option Addr} {s33 : Array (Option Value)}
    {a34 : Addr} {o34 k34 e34 p34 c34 u34 : Value} {y34 z34 : Option Addr} {s34 : Array (Option Value)}
    {a35 : Addr} {o35 k35 e35 p35 c35 u35 : Value} {y35 z35 : Option Addr} {s35 : Array (Option Value)}
    {a36 : Addr} {o36 k36 e36 p36 c36 u36 : Value} {y36 z36 : Option Addr} {s36 : Array (Option Value)}
    {a37 : Addr} {o37 k37 e37 p37 c37 u37 : Value} {y37 z37 : Option Addr} {s37 : Array (Option Value)}
    {a38 : Addr} {o38 k38 e38 p38 c38 u38 : Value} {y38 z38 : Option Addr} {s38 : Array (Option Value)}
    {a40 : Addr} {o40 k40 e40 p40 c40 u40 : Value} {y40 z40 : Option Addr} {s40 : Array (Option Value)}
    {a41 : Addr} {o41 k41 e41 p41 c41 u41 : Value} {y41 z41 : Option Addr} {s41 : Array (Option Value)}
    {a43 : Addr} {o43 k43 e43 p43 c43 u43 : Value} {y43 z43 : Option Addr} {s43 : Array (Option Value)}
    {a44 : Addr} {o44 k44 e44 p44 c44 u44 : Value} {y44 z44 : Option Addr} {s44 : Array (Option Value)}
    {a45 : Addr} {o45 k45 e45 p45 c45 u45 : Value} {y45 z45 : Option Addr} {s45 : Array (Option Value)}
    {a48 : Addr} {o48 k48 e48 p48 c48 u48 : Value} {y48 z48 : Option Addr} {s48 : Array (Option Value)}
    {a49 : Addr} {o49 k49 e49 p49 c49 u49 : Value} {y49 z49 : Option Addr} {s49 : Array (Option Value)}
    {a50 : Addr} {o50 k50 e50 p50 c50 u50 : Value} {y50 z50 : Option Addr} {s50 : Array (Option Value)}
    {a42 : Addr} {o42 k42 e42 p42 c42 u42 : Value} {y42 z42 : Option Addr} {s42 : Array (Option Value)}
    {c aL : Addr} {oL kL eL pL uL : Value} {yL zL : Option Addr} {sL : Array (Option Value)}
    (nb_ValueError : PySem.W.nsIn K mainGlobals "ValueError" = some none)
    (nb_bool : PySem.W.nsIn K mainGlobals "bool" = some none)
    (nb_enumerate : PySem.W.nsIn K mainGlobals "enumerate" = some none)
    (nb_int : PySem.W.nsIn K mainGlobals "int" = some none)
    (nb_isinstance : PySem.W.nsIn K mainGlobals "isinstance" = some none)
    (nb_len : PySem.W.nsIn K mainGlobals "len" = some none)
    (nb_list : PySem.W.nsIn K mainGlobals "list" = some none)
    (nb_range : PySem.W.nsIn K mainGlobals "range" = some none)
    (nb_set : PySem.W.nsIn K mainGlobals "set" = some none)
    (nb_str : PySem.W.nsIn K mainGlobals "str" = some none)
    (nb_tuple : PySem.W.nsIn K mainGlobals "tuple" = some none)
    (gl_FIRST : PySem.W.nsIn K mainGlobals "FIRST" = some (some (.str "first" t_FIRST)))
    (gl_FIXED : PySem.W.nsIn K mainGlobals "FIXED" = some (some (.str "-" t_FIXED)))
    (gl_LAST : PySem.W.nsIn K mainGlobals "LAST" = some (some (.str "last" t_LAST)))
    (gl_LOT : PySem.W.nsIn K mainGlobals "LOT" = some (some (.str "lot" t_LOT)))
    (gl_MOST_BOOKS : PySem.W.nsIn K mainGlobals "MOST_BOOKS" = some (some (.int 12 t_MOST_BOOKS)))
    (gl_MOST_LOTS : PySem.W.nsIn K mainGlobals "MOST_LOTS" = some (some (.int 5 t_MOST_LOTS)))
    (gl_MOST_PRICE : PySem.W.nsIn K mainGlobals "MOST_PRICE" = some (some (.int 99 t_MOST_PRICE)))
    (gl_PRICES : PySem.W.nsIn K mainGlobals "PRICES" = some (some (.str "prices" t_PRICES)))
    (cl_1 : PySem.W.nsIn K mainGlobals "ShelfError" = some (some (.ref C1)))
    (cl_2 : PySem.W.nsIn K mainGlobals "BadShelf" = some (some (.ref C2)))
    (cl_3 : PySem.W.nsIn K mainGlobals "BadGoal" = some (some (.ref C3)))
    (cl_4 : PySem.W.nsIn K mainGlobals "BadWish" = some (some (.ref C4)))
    (cl_5 : PySem.W.nsIn K mainGlobals "BadWay" = some (some (.ref C5)))
    (cl_6 : PySem.W.nsIn K mainGlobals "NoWay" = some (some (.ref C6)))
    (cl_7 : PySem.W.nsIn K mainGlobals "BadName" = some (some (.ref C7)))
    (cl_8 : PySem.W.nsIn K mainGlobals "NoPoint" = some (some (.ref C8)))
    (cl_9 : PySem.W.nsIn K mainGlobals "Halted" = some (some (.ref C9)))
    (cl_10 : PySem.W.nsIn K mainGlobals "BadText" = some (some (.ref C10)))
    (bg_1 : PySem.W.specialIn K (.ref C1) "__getattribute__" = some (some (.builtin "type.__getattribute__")))
    (br_1 : PySem.W.readsIn K C1 (.type "type") = true)
    (bf_1 : PySem.W.findCls K (.ref C1) (.type "type") "__init__" = some (.val (.builtin "ValueError.__init__")))
    (xl_2 : K.lookup C2 = some (excClassObj nm2 q2 C2 N2 bs2 [.ref C1, .type "ValueError", .type "Exception", .type "BaseException", .type "object"] true sn2 sub2 ab2 col2 dd2 m02 m12 m22 m32 m52 "ValueError.__new__"))
    (sa_2 : PySem.W.findIn K (.ref C2) "__setattr__" = some (some (.builtin "object.__setattr__")))
    (ex_2 : PySem.W.subIn K (.ref C2) (.type "BaseException") = some true)
    (ty_2 : PySem.W.typeIn K (.ref C2) = some (.type "type"))
    (kc_2 : PySem.W.keepIn K (.ref C2) = true)
    (ic_2 : PySem.W.findIn K (.ref C2) "__init__" = some (some (.ref g2)))
    (ti_2 : PySem.W.typeIn K (.ref g2) = some (.type "function"))
    (li_2 : K.lookup g2 = some ⟨oi2, odi2, .func (PySem.W.fnOf "__init__" "BadShelf.__init__" (defArgs i_BadShelf) (defBody i_BadShelf) (defScope i_BadShelf) .none ki2 di2 pi2 ani2 ci2 ti2), sli2⟩)
    (cc_2 : PySem.W.codeIn K ci2 "BadShelf.__init__" = true)
    (kk_2 : PySem.W.keepIn K (.ref g2) = true)
    (nf_2_part : PySem.W.findIn K (.ref C2) "part" = some none)
    (nf_2_number : PySem.W.findIn K (.ref C2) "number" = some none)
    (xl_5 : K.lookup C5 = some (excClassObj nm5 q5 C5 N5 bs5 [.ref C1, .type "ValueError", .type "Exception", .type "BaseException", .type "object"] true sn5 sub5 ab5 col5 dd5 m05 m15 m25 m35 m55 "ValueError.__new__"))
    (sa_5 : PySem.W.findIn K (.ref C5) "__setattr__" = some (some (.builtin "object.__setattr__")))
    (ex_5 : PySem.W.subIn K (.ref C5) (.type "BaseException") = some true)
    (ty_5 : PySem.W.typeIn K (.ref C5) = some (.type "type"))
    (kc_5 : PySem.W.keepIn K (.ref C5) = true)
    (ic_5 : PySem.W.findIn K (.ref C5) "__init__" = some (some (.ref g5)))
    (ti_5 : PySem.W.typeIn K (.ref g5) = some (.type "function"))
    (li_5 : K.lookup g5 = some ⟨oi5, odi5, .func (PySem.W.fnOf "__init__" "BadWay.__init__" (defArgs i_BadWay) (defBody i_BadWay) (defScope i_BadWay) .none ki5 di5 pi5 ani5 ci5 ti5), sli5⟩)
    (cc_5 : PySem.W.codeIn K ci5 "BadWay.__init__" = true)
    (kk_5 : PySem.W.keepIn K (.ref g5) = true)
    (nf_5_number : PySem.W.findIn K (.ref C5) "number" = some none)
    (nf_5_why : PySem.W.findIn K (.ref C5) "why" = some none)
    (ga_2 : PySem.W.findIn K (.ref C2) "__getattribute__" = some (some (.builtin "BaseException.__getattribute__")))
    (gg_2 : PySem.W.findIn K (.ref C2) "__getattr__" = some none)
    (hd_2 : PySem.W.hasDictIn K C2 = true)
    (ha_2 : PySem.W.findIn K (.ref C2) "__class__" = some (some (.builtin "object.__class__")))
    (hm_2 : PySem.W.mroIn K C2 (.type "object") = some true)
    (em_2 : PySem.W.exmOne K (.ref C2) (.ref C1) = some true)
    (ga_5 : PySem.W.findIn K (.ref C5) "__getattribute__" = some (some (.builtin "BaseException.__getattribute__")))
    (gg_5 : PySem.W.findIn K (.ref C5) "__getattr__" = some none)
    (hd_5 : PySem.W.hasDictIn K C5 = true)
    (ha_5 : PySem.W.findIn K (.ref C5) "__class__" = some (some (.builtin "object.__class__")))
    (hm_5 : PySem.W.mroIn K C5 (.type "object") = some true)
    (em_5 : PySem.W.exmOne K (.ref C5) (.ref C1) = some true)
    (hn : PySem.W.specialIn K (.builtin "object.__class__") "__get__" = some (some (.builtin "getset_descriptor.__get__")))
    (ht : PySem.W.takesIn K (.builtin "object.__class__") = some true)
    (kt_BadShelf_BadGoal : PySem.W.kitOne K (.ref C2) (.ref C3) = some false)
    (kt_BadShelf_BadName : PySem.W.kitOne K (.ref C2) (.ref C7) = some false)
    (kt_BadShelf_BadShelf : PySem.W.kitOne K (.ref C2) (.ref C2) = some true)
    (kt_BadShelf_BadText : PySem.W.kitOne K (.ref C2) (.ref C10) = some false)
    (kt_BadShelf_BadWay : PySem.W.kitOne K (.ref C2) (.ref C5) = some false)
    (kt_BadShelf_BadWish : PySem.W.kitOne K (.ref C2) (.ref C4) = some false)
    (kt_BadShelf_Halted : PySem.W.kitOne K (.ref C2) (.ref C9) = some false)
    (kt_BadShelf_NoPoint : PySem.W.kitOne K (.ref C2) (.ref C8) = some false)
    (kt_BadShelf_NoWay : PySem.W.kitOne K (.ref C2) (.ref C6) = some false)
    (kt_BadWay_BadGoal : PySem.W.kitOne K (.ref C5) (.ref C3) = some false)
    (kt_BadWay_BadName : PySem.W.kitOne K (.ref C5) (.ref C7) = some false)
    (kt_BadWay_BadShelf : PySem.W.kitOne K (.ref C5) (.ref C2) = some false)
    (kt_BadWay_BadText : PySem.W.kitOne K (.ref C5) (.ref C10) = some false)
    (kt_BadWay_BadWay : PySem.W.kitOne K (.ref C5) (.ref C5) = some true)
    (kt_BadWay_BadWish : PySem.W.kitOne K (.ref C5) (.ref C4) = some false)
    (kt_BadWay_Halted : PySem.W.kitOne K (.ref C5) (.ref C9) = some false)
    (kt_BadWay_NoPoint : PySem.W.kitOne K (.ref C5) (.ref C8) = some false)
    (kt_BadWay_NoWay : PySem.W.kitOne K (.ref C5) (.ref C6) = some false)
    (kb_BadShelf_ValueError : PySem.W.kitOne K (.ref C2) (.type "ValueError") = some true)
    (kb_BadWay_ValueError : PySem.W.kitOne K (.ref C5) (.type "ValueError") = some true)
    (nf_2_done : PySem.W.findIn K (.ref C2) "done" = some none)
    (nf_2_row : PySem.W.findIn K (.ref C2) "row" = some none)
    (nf_2_why : PySem.W.findIn K (.ref C2) "why" = some none)
    (nf_5_done : PySem.W.findIn K (.ref C5) "done" = some none)
    (nf_5_part : PySem.W.findIn K (.ref C5) "part" = some none)
    (nf_5_row : PySem.W.findIn K (.ref C5) "row" = some none)
    (fa_15 : PySem.W.nsIn K mainGlobals "is_number" = some (some (.ref a15)))
    (fl_15 : K.lookup a15 = some ⟨o15, y15, .func (PySem.W.fnOf "is_number" "is_number" (defArgs s_is_number) (defBody s_is_number) (defScope s_is_number) .none k15 e15 p15 z15 c15 u15), s15⟩)
    (fc_15 : PySem.W.codeIn K c15 "is_number" = true)
    (fk_15 : PySem.W.keepIn K (.ref a15) = true)
    (fa_16 : PySem.W.nsIn K mainGlobals "is_place" = some (some (.ref a16)))
    (fl_16 : K.lookup a16 = some ⟨o16, y16, .func (PySem.W.fnOf "is_place" "is_place" (defArgs s_is_place) (defBody s_is_place) (defScope s_is_place) .none k16 e16 p16 z16 c16 u16), s16⟩)
    (fc_16 : PySem.W.codeIn K c16 "is_place" = true)
    (fk_16 : PySem.W.keepIn K (.ref a16) = true)
    (fa_17 : PySem.W.nsIn K mainGlobals "is_price" = some (some (.ref a17)))
    (fl_17 : K.lookup a17 = some ⟨o17, y17, .func (PySem.W.fnOf "is_price" "is_price" (defArgs s_is_price) (defBody s_is_price) (defScope s_is_price) .none k17 e17 p17 z17 c17 u17), s17⟩)
    (fc_17 : PySem.W.codeIn K c17 "is_price" = true)
    (fk_17 : PySem.W.keepIn K (.ref a17) = true)
    (fa_18 : PySem.W.nsIn K mainGlobals "lot_of" = some (some (.ref a18)))
    (fl_18 : K.lookup a18 = some ⟨o18, y18, .func (PySem.W.fnOf "lot_of" "lot_of" (defArgs s_lot_of) (defBody s_lot_of) (defScope s_lot_of) .none k18 e18 p18 z18 c18 u18), s18⟩)
    (fc_18 : PySem.W.codeIn K c18 "lot_of" = true)
    (fk_18 : PySem.W.keepIn K (.ref a18) = true)
    (fa_19 : PySem.W.nsIn K mainGlobals "wrong_price" = some (some (.ref a19)))
    (fl_19 : K.lookup a19 = some ⟨o19, y19, .func (PySem.W.fnOf "wrong_price" "wrong_price" (defArgs s_wrong_price) (defBody s_wrong_price) (defScope s_wrong_price) .none k19 e19 p19 z19 c19 u19), s19⟩)
    (fc_19 : PySem.W.codeIn K c19 "wrong_price" = true)
    (fk_19 : PySem.W.keepIn K (.ref a19) = true)
    (fa_20 : PySem.W.nsIn K mainGlobals "wrong_lot" = some (some (.ref a20)))
    (fl_20 : K.lookup a20 = some ⟨o20, y20, .func (PySem.W.fnOf "wrong_lot" "wrong_lot" (defArgs s_wrong_lot) (defBody s_wrong_lot) (defScope s_wrong_lot) .none k20 e20 p20 z20 c20 u20), s20⟩)
    (fc_20 : PySem.W.codeIn K c20 "wrong_lot" = true)
    (fk_20 : PySem.W.keepIn K (.ref a20) = true)
    (fa_21 : PySem.W.nsIn K mainGlobals "missing_book" = some (some (.ref a21)))
    (fl_21 : K.lookup a21 = some ⟨o21, y21, .func (PySem.W.fnOf "missing_book" "missing_book" (defArgs s_missing_book) (defBody s_missing_book) (defScope s_missing_book) .none k21 e21 p21 z21 c21 u21), s21⟩)
    (fc_21 : PySem.W.codeIn K c21 "missing_book" = true)
    (fk_21 : PySem.W.keepIn K (.ref a21) = true)
    (fa_22 : PySem.W.nsIn K mainGlobals "check_shelf" = some (some (.ref a22)))
    (fl_22 : K.lookup a22 = some ⟨o22, y22, .func (PySem.W.fnOf "check_shelf" "check_shelf" (defArgs s_check_shelf) (defBody s_check_shelf) (defScope s_check_shelf) .none k22 e22 p22 z22 c22 u22), s22⟩)
    (fc_22 : PySem.W.codeIn K c22 "check_shelf" = true)
    (fk_22 : PySem.W.keepIn K (.ref a22) = true)
    (fa_27 : PySem.W.nsIn K mainGlobals "row_of" = some (some (.ref a27)))
    (fl_27 : K.lookup a27 = some ⟨o27, y27, .func (PySem.W.fnOf "row_of" "row_of" (defArgs s_row_of) (defBody s_row_of) (defScope s_row_of) .none k27 e27 p27 z27 c27 u27), s27⟩)
    (fc_27 : PySem.W.codeIn K c27 "row_of" = true)
    (fk_27 : PySem.W.keepIn K (.ref a27) = true)
    (fa_28 : PySem.W.nsIn K mainGlobals "written" = some (some (.ref a28)))
    (fl_28 : K.lookup a28 = some ⟨o28, y28, .func (PySem.W.fnOf "written" "written" (defArgs s_written) (defBody s_written) (defScope s_written) .none k28 e28 p28 z28 c28 u28), s28⟩)
    (fc_28 : PySem.W.codeIn K c28 "written" = true)
    (fk_28 : PySem.W.keepIn K (.ref a28) = true)
    (fa_32 : PySem.W.nsIn K mainGlobals "is_deed" = some (some (.ref a32)))
    (fl_32 : K.lookup a32 = some ⟨o32, y32, .func (PySem.W.fnOf "is_deed" "is_deed" (defArgs s_is_deed) (defBody s_is_deed) (defScope s_is_deed) .none k32 e32 p32 z32 c32 u32), s32⟩)
    (fc_32 : PySem.W.codeIn K c32 "is_deed" = true)
    (fk_32 : PySem.W.keepIn K (.ref a32) = true)
    (fa_33 : PySem.W.nsIn K mainGlobals "why_not" = some (some (.ref a33)))
    (fl_33 : K.lookup a33 = some ⟨o33, y33, .func (PySem.W.fnOf "why_not" "why_not" (defArgs s_why_not) (defBody s_why_not) (defScope s_why_not) .none k33 e33 p33 z33 c33 u33), s33⟩)
    (fc_33 : PySem.W.codeIn K c33 "why_not" = true)
    (fk_33 : PySem.W.keepIn K (.ref a33) = true)
    (fa_34 : PySem.W.nsIn K mainGlobals "check_list" = some (some (.ref a34)))
    (fl_34 : K.lookup a34 = some ⟨o34, y34, .func (PySem.W.fnOf "check_list" "check_list" (defArgs s_check_list) (defBody s_check_list) (defScope s_check_list) .none k34 e34 p34 z34 c34 u34), s34⟩)
    (fc_34 : PySem.W.codeIn K c34 "check_list" = true)
    (fk_34 : PySem.W.keepIn K (.ref a34) = true)
    (fa_35 : PySem.W.nsIn K mainGlobals "check_deeds" = some (some (.ref a35)))
    (fl_35 : K.lookup a35 = some ⟨o35, y35, .func (PySem.W.fnOf "check_deeds" "check_deeds" (defArgs s_check_deeds) (defBody s_check_deeds) (defScope s_check_deeds) .none k35 e35 p35 z35 c35 u35), s35⟩)
    (fc_35 : PySem.W.codeIn K c35 "check_deeds" = true)
    (fk_35 : PySem.W.keepIn K (.ref a35) = true)
    (fa_36 : PySem.W.nsIn K mainGlobals "lots_behind" = some (some (.ref a36)))
    (fl_36 : K.lookup a36 = some ⟨o36, y36, .func (PySem.W.fnOf "lots_behind" "lots_behind" (defArgs s_lots_behind) (defBody s_lots_behind) (defScope s_lots_behind) .none k36 e36 p36 z36 c36 u36), s36⟩)
    (fc_36 : PySem.W.codeIn K c36 "lots_behind" = true)
    (fk_36 : PySem.W.keepIn K (.ref a36) = true)
    (fa_37 : PySem.W.nsIn K mainGlobals "outcome" = some (some (.ref a37)))
    (fl_37 : K.lookup a37 = some ⟨o37, y37, .func (PySem.W.fnOf "outcome" "outcome" (defArgs s_outcome) (defBody s_outcome) (defScope s_outcome) .none k37 e37 p37 z37 c37 u37), s37⟩)
    (fc_37 : PySem.W.codeIn K c37 "outcome" = true)
    (fk_37 : PySem.W.keepIn K (.ref a37) = true)
    (fa_38 : PySem.W.nsIn K mainGlobals "done" = some (some (.ref a38)))
    (fl_38 : K.lookup a38 = some ⟨o38, y38, .func (PySem.W.fnOf "done" "done" (defArgs s_done) (defBody s_done) (defScope s_done) .none k38 e38 p38 z38 c38 u38), s38⟩)
    (fc_38 : PySem.W.codeIn K c38 "done" = true)
    (fk_38 : PySem.W.keepIn K (.ref a38) = true)
    (fa_40 : PySem.W.nsIn K mainGlobals "_law_start" = some (some (.ref a40)))
    (fl_40 : K.lookup a40 = some ⟨o40, y40, .func (PySem.W.fnOf "_law_start" "_law_start" (defArgs s__law_start) (defBody s__law_start) (defScope s__law_start) .none k40 e40 p40 z40 c40 u40), s40⟩)
    (fc_40 : PySem.W.codeIn K c40 "_law_start" = true)
    (fk_40 : PySem.W.keepIn K (.ref a40) = true)
    (fa_41 : PySem.W.nsIn K mainGlobals "_law_drawn" = some (some (.ref a41)))
    (fl_41 : K.lookup a41 = some ⟨o41, y41, .func (PySem.W.fnOf "_law_drawn" "_law_drawn" (defArgs s__law_drawn) (defBody s__law_drawn) (defScope s__law_drawn) .none k41 e41 p41 z41 c41 u41), s41⟩)
    (fc_41 : PySem.W.codeIn K c41 "_law_drawn" = true)
    (fk_41 : PySem.W.keepIn K (.ref a41) = true)
    (fa_43 : PySem.W.nsIn K mainGlobals "_law_turned" = some (some (.ref a43)))
    (fl_43 : K.lookup a43 = some ⟨o43, y43, .func (PySem.W.fnOf "_law_turned" "_law_turned" (defArgs s__law_turned) (defBody s__law_turned) (defScope s__law_turned) .none k43 e43 p43 z43 c43 u43), s43⟩)
    (fc_43 : PySem.W.codeIn K c43 "_law_turned" = true)
    (fk_43 : PySem.W.keepIn K (.ref a43) = true)
    (fa_44 : PySem.W.nsIn K mainGlobals "_law_lots" = some (some (.ref a44)))
    (fl_44 : K.lookup a44 = some ⟨o44, y44, .func (PySem.W.fnOf "_law_lots" "_law_lots" (defArgs s__law_lots) (defBody s__law_lots) (defScope s__law_lots) .none k44 e44 p44 z44 c44 u44), s44⟩)
    (fc_44 : PySem.W.codeIn K c44 "_law_lots" = true)
    (fk_44 : PySem.W.keepIn K (.ref a44) = true)
    (fa_45 : PySem.W.nsIn K mainGlobals "_law_shelf" = some (some (.ref a45)))
    (fl_45 : K.lookup a45 = some ⟨o45, y45, .func (PySem.W.fnOf "_law_shelf" "_law_shelf" (defArgs s__law_shelf) (defBody s__law_shelf) (defScope s__law_shelf) .none k45 e45 p45 z45 c45 u45), s45⟩)
    (fc_45 : PySem.W.codeIn K c45 "_law_shelf" = true)
    (fk_45 : PySem.W.keepIn K (.ref a45) = true)
    (fa_48 : PySem.W.nsIn K mainGlobals "_law_is" = some (some (.ref a48)))
    (fl_48 : K.lookup a48 = some ⟨o48, y48, .func (PySem.W.fnOf "_law_is" "_law_is" (defArgs s__law_is) (defBody s__law_is) (defScope s__law_is) .none k48 e48 p48 z48 c48 u48), s48⟩)
    (fc_48 : PySem.W.codeIn K c48 "_law_is" = true)
    (fk_48 : PySem.W.keepIn K (.ref a48) = true)
    (fa_49 : PySem.W.nsIn K mainGlobals "_law_bad" = some (some (.ref a49)))
    (fl_49 : K.lookup a49 = some ⟨o49, y49, .func (PySem.W.fnOf "_law_bad" "_law_bad" (defArgs s__law_bad) (defBody s__law_bad) (defScope s__law_bad) .none k49 e49 p49 z49 c49 u49), s49⟩)
    (fc_49 : PySem.W.codeIn K c49 "_law_bad" = true)
    (fk_49 : PySem.W.keepIn K (.ref a49) = true)
    (fa_50 : PySem.W.nsIn K mainGlobals "_law_changed" = some (some (.ref a50)))
    (fl_50 : K.lookup a50 = some ⟨o50, y50, .func (PySem.W.fnOf "_law_changed" "_law_changed" (defArgs s__law_changed) (defBody s__law_changed) (defScope s__law_changed) .none k50 e50 p50 z50 c50 u50), s50⟩)
    (fc_50 : PySem.W.codeIn K c50 "_law_changed" = true)
    (fk_50 : PySem.W.keepIn K (.ref a50) = true)
    (fa_42 : PySem.W.nsIn K mainGlobals "_law_kind" = some (some (.ref a42)))
    (fl_42 : K.lookup a42 = some ⟨o42, y42, .func (PySem.W.fnOf "_law_kind" "_law_kind" (defArgs s__law_kind) (defBody s__law_kind) (defScope s__law_kind) .none k42 e42 p42 z42 c42 u42), s42⟩)
    (fc_42 : PySem.W.codeIn K c42 "_law_kind" = true)
    (fk_42 : PySem.W.keepIn K (.ref a42) = true)
    (la : PySem.W.nsIn K mainGlobals "law" = some (some (.ref aL)))
    (ll : K.lookup aL = some ⟨oL, yL, .func (PySem.W.fnOf "law" "law" (defArgs s_law) (defBody s_law) (defScope s_law) .none kL eL pL zL (.ref c) uL), sL⟩)
    (lc : PySem.W.codeIn K (.ref c) "law" = true)
    (lt : PySem.W.codeHdIn K c Pt = true)
    (ln : K.lookup Pt = none)
    (math : ∀ ns : List Int, scriptOk ns → ∃ env, G_law Pt (envL Pt ns) = some (.rt (.bool true) env)) : LamX.LawAtS l w K (L2.CX l.prog w) 11 63 "_law_script" mg fa h := by
  obtain ⟨fd, h1, h2, h3, h4⟩ := all_mk (P := l.prog) (w := w) X G hfa nb_ValueError nb_bool nb_enumerate nb_int nb_isinstance nb_len nb_list nb_range nb_set nb_str nb_tuple gl_FIRST gl_FIXED gl_LAST gl_LOT gl_MOST_BOOKS gl_MOST_LOTS gl_MOST_PRICE gl_PRICES cl_1 cl_2 cl_3 cl_4 cl_5 cl_6 cl_7 cl_8 cl_9 cl_10 bg_1 br_1 bf_1 xl_2 sa_2 ex_2 ty_2 kc_2 ic_2 ti_2 li_2 cc_2 kk_2 nf_2_part nf_2_number xl_5 sa_5 ex_5 ty_5 kc_5 ic_5 ti_5 li_5 cc_5 kk_5 nf_5_number nf_5_why ga_2 gg_2 hd_2 ha_2 hm_2 em_2 ga_5 gg_5 hd_5 ha_5 hm_5 em_5 hn ht kt_BadShelf_BadGoal kt_BadShelf_BadName kt_BadShelf_BadShelf kt_BadShelf_BadText kt_BadShelf_BadWay kt_BadShelf_BadWish kt_BadShelf_Halted kt_BadShelf_NoPoint kt_BadShelf_NoWay kt_BadWay_BadGoal kt_BadWay_BadName kt_BadWay_BadShelf kt_BadWay_BadText kt_BadWay_BadWay kt_BadWay_BadWish kt_BadWay_Halted kt_BadWay_NoPoint kt_BadWay_NoWay kb_BadShelf_ValueError kb_BadWay_ValueError nf_2_done nf_2_row nf_2_why nf_5_done nf_5_part nf_5_row fa_15 fl_15 fc_15 fk_15 fa_16 fl_16 fc_16 fk_16 fa_17 fl_17 fc_17 fk_17 fa_18 fl_18 fc_18 fk_18 fa_19 fl_19 fc_19 fk_19 fa_20 fl_20 fc_20 fk_20 fa_21 fl_21 fc_21 fk_21 fa_22 fl_22 fc_22 fk_22 fa_27 fl_27 fc_27 fk_27 fa_28 fl_28 fc_28 fk_28 fa_32 fl_32 fc_32 fk_32 fa_33 fl_33 fc_33 fk_33 fa_34 fl_34 fc_34 fk_34 fa_35 fl_35 fc_35 fk_35 fa_36 fl_36 fc_36 fk_36 fa_37 fl_37 fc_37 fk_37 fa_38 fl_38 fc_38 fk_38 fa_40 fl_40 fc_40 fk_40 fa_41 fl_41 fc_41 fk_41 fa_43 fl_43 fc_43 fk_43 fa_44 fl_44 fc_44 fk_44 fa_45 fl_45 fc_45 fk_45 fa_48 fl_48 fc_48 fk_48 fa_49 fl_49 fc_49 fk_49 fa_50 fl_50 fc_50 fk_50 fa_42 fl_42 fc_42 fk_42 la ll lc lt ln math
  exact ⟨fd, [(c, Pt)], spLaw K Pt, fun p hp => by rw [List.mem_singleton.mp hp]; exact hT, fun p hp => by rw [List.mem_singleton.mp hp]; exact h2, fun p hp => by rw [List.mem_singleton.mp hp]; exact h1, h3, fun H a ns hl hb hT hS => ⟨a, ns, rfl, hS, ⟨hl, hb⟩, hT _ (List.mem_singleton.mpr rfl), fun _ => rfl⟩, fun base _ _ hB => h4 base (hB _ (List.mem_singleton.mpr rfl))⟩
end Q
/-! part PfKT -/
set_option Elab.async false
set_option linter.all false
namespace Pf
open PySem PySem.Spec PyProof.Rows L2
end Pf
/-! part Bk -/
set_option Elab.async false
set_option linter.all false
namespace Q
abbrev Dd := Nat × Nat × Bool
def tk (ds : List Dd) : List Nat := ds.map (·.1)
abbrev rest (ds : List Dd) (l : List Nat) : List Nat := l.filter fun x => decide (x ∉ tk ds)
def sumP (pr : Nat → Nat) (l : List Nat) : Nat := (l.map pr).sum
def cut (w : List Nat) (s p : Nat) : List Nat := (w.drop s).take (p - s)
def stand (l part : List Nat) : Bool := (l.filter fun x => decide (x ∈ part)) == part
def holdB (fx : Nat → Bool) (l w : List Nat) (s p : Nat) : Bool := stand l (cut w s p) && ((cut w s p).filter fx == w.filter fx)
end Q
/-! part Bl -/
set_option Elab.async false
set_option linter.all false
namespace Q
def frs (i : Nat) (ds : List Dd) : List Nat := (ds.filter fun d => d.2.1 == i && d.2.2).map (·.1)
end Q
/-! part C1 -/
set_option Elab.async false
set_option linter.all false
set_option maxRecDepth 100000
set_option maxHeartbeats 2000000
namespace Q
open PySem PySem.Spec L2
open Pf
structure Stt where
  ns : List Int
  k : Nat
  m : Int
  r : Int
def enc (s : Stt) : List PyData := [.list (s.ns.map PyData.int), .int s.k, .int s.m, .int s.r]
theorem drawn_rest (s : Stt) (n : Nat) (hn : 0 < n) (hb : n < 1073741824) (hr : 0 < s.r) : m__law_drawn (enc s) [.int n] = some (.ok (.int (s.r.fmod n), enc { s with r := s.r.fdiv n })) := by
  have h1 : (cmpD fun i j => decide (j < i)) (.int s.r) (.int 0) = some true := by simp [cmpD, hr]
  have h2 : modD (.int s.r) (.int n) = some (.int (s.r.fmod n)) := by
    have : ¬ ((n : Int) = 0) := by omega
    simp [modD]; omega
  have h3 : divD (.int s.r) (.int n) = some (.int (s.r.fdiv n)) := by
    have : ¬ ((n : Int) = 0) := by omega
    simp [divD]; omega
  simp only [m__law_drawn, fnB, G__law_drawn, envB, enc]
  simp [gSeq, gE, gIfS, gTst, M.bd, M.opt, gIxP, gPeek, gC, M.ok, M.no, atI, ixN, gN, gSet, gSt, gBin, gRet, gRt, gSetIx, gHeld, gPut, putS, gNx, gBlt, Pf.gCons, Pf.gNil, gIf, h1, h2, h3]
theorem drawn_cell (s : Stt) (n : Nat) (c : Int) (hn : 0 < n) (hb : n < 1073741824) (hr : s.r ≤ 0) (hc : s.ns[s.k]? = some c) : m__law_drawn (enc s) [.int n] = some (.ok (.int (c.fmod n), enc { s with k := s.k + 1, r := if 1000000000000000000 ≤ c then c.fdiv n else 0 })) := by
  have h1 : (cmpD fun i j => decide (j < i)) (.int s.r) (.int 0) = some false := by simp [cmpD]; omega
  have hl : s.k < s.ns.length := (List.getElem?_eq_some_iff.mp hc).1
  have h2 : modD (.int c) (.int n) = some (.int (c.fmod n)) := by simp [modD]; omega
  have h3 : divD (.int c) (.int n) = some (.int (c.fdiv n)) := by simp [divD]; omega
  have h4 : addD (.int s.k) (.int 1) = some (.int ((s.k : Int) + 1)) := rfl
  have h5 : lenK [.list (s.ns.map PyData.int)] = some (.int s.ns.length) := by simp [lenK, lenD]
  have h6 : (cmpD fun i j => decide (i ≤ j)) (.int ((s.k : Int) + 1)) (.int s.ns.length) = some true := by simp [cmpD]; omega
  have h7 : subD (.int ((s.k : Int) + 1)) (.int 1) = some (.int s.k) := by simp [subD]
  have h8 : atD (.list (s.ns.map PyData.int)) (.int s.k) = some (.int c) := by
    show L2.atI _ _ = _
    exact atI_nat (by rw [List.getElem?_map, hc]; rfl)
  have h9 : powD (.int 10) (.int 18) = some (.int 1000000000000000000) := by simp [powD]
  by_cases hbig : 1000000000000000000 ≤ c
  · have h10 : (cmpD fun i j => decide (j ≤ i)) (.int c) (.int 1000000000000000000) = some true := by simp [cmpD, hbig]
    simp only [m__law_drawn, fnB, G__law_drawn, envB, enc]
    simp [gSeq, gE, gIfS, gTst, M.bd, M.opt, gIxP, gPeek, gC, M.ok, M.no, atI, ixN, gN, gSet, gSt, gBin, gRet, gRt, gSetIx, gHeld, gPut, putS, gNx, gBlt, Pf.gCons, Pf.gNil, gIf, h1, h2, h3, h4, h5, h6, h7, h8, h9, h10, hbig]
  · have h10 : (cmpD fun i j => decide (j ≤ i)) (.int c) (.int 1000000000000000000) = some false := by simp [cmpD, hbig]
    simp only [m__law_drawn, fnB, G__law_drawn, envB, enc]
    simp [gSeq, gE, gIfS, gTst, M.bd, M.opt, gIxP, gPeek, gC, M.ok, M.no, atI, ixN, gN, gSet, gSt, gBin, gRet, gRt, gSetIx, gHeld, gPut, putS, gNx, gBlt, Pf.gCons, Pf.gNil, gIf, h1, h2, h3, h4, h5, h6, h7, h8, h9, h10, hbig]
theorem drawn_mix (s : Stt) (n : Nat) (hn : 0 < n) (hb : n < 1073741824) (hr : s.r ≤ 0) (hc : s.ns.length ≤ s.k) : m__law_drawn (enc s) [.int n] = some (.ok (.int (((s.m * 48271 + 11).fmod 2147483647).fdiv 7 |>.fmod n), enc { s with k := s.k + 1, m := (s.m * 48271 + 11).fmod 2147483647 })) := by
  have h1 : (cmpD fun i j => decide (j < i)) (.int s.r) (.int 0) = some false := by simp [cmpD]; omega
  have h2 : ∀ c : Int, modD (.int c) (.int n) = some (.int (c.fmod n)) := fun c => by simp [modD]; omega
  have h3 : ∀ c : Int, divD (.int c) (.int 7) = some (.int (c.fdiv 7)) := fun c => by simp [divD]
  have h4 : addD (.int s.k) (.int 1) = some (.int ((s.k : Int) + 1)) := rfl
  have h5 : lenK [.list (s.ns.map PyData.int)] = some (.int s.ns.length) := by simp [lenK, lenD]
  have h6 : (cmpD fun i j => decide (i ≤ j)) (.int ((s.k : Int) + 1)) (.int s.ns.length) = some false := by simp [cmpD]; omega
  have h7 : mulD (.int s.m) (.int 48271) = some (.int (s.m * 48271)) := by simp [mulD]
  have h8 : ∀ c : Int, addD (.int c) (.int 11) = some (.int (c + 11)) := fun c => rfl
  have h9 : ∀ c : Int, modD (.int c) (.int 2147483647) = some (.int (c.fmod 2147483647)) := fun c => by simp [modD]
  simp only [m__law_drawn, fnB, G__law_drawn, envB, enc]
  simp [gSeq, gE, gIfS, gTst, M.bd, M.opt, gIxP, gPeek, gC, M.ok, M.no, atI, ixN, gN, gSet, gSt, gBin, gRet, gRt, gSetIx, gHeld, gPut, putS, gNx, gBlt, Pf.gCons, Pf.gNil, gIf, h1, h2, h3, h4, h5, h6, h7, h8, h9]
theorem fmod_nat (c : Int) (n : Nat) (hn : 0 < n) : ∃ d : Nat, d < n ∧ c.fmod n = d := by
  have h1 : 0 ≤ c.fmod n := Int.fmod_nonneg_of_pos _ (by omega)
  have h2 : c.fmod n < n := Int.fmod_lt_of_pos _ (by omega)
  exact ⟨(c.fmod n).toNat, by omega, by omega⟩
theorem drawn_ok (s : Stt) (n : Nat) (hn : 0 < n) (hb : n < 1073741824) : ∃ (d : Nat) (s' : Stt), d < n ∧ m__law_drawn (enc s) [.int n] = some (.ok (.int d, enc s')) := by
  by_cases hr : 0 < s.r
  · obtain ⟨d, h1, h2⟩ := fmod_nat s.r n hn
    exact ⟨d, _, h1, by rw [drawn_rest s n hn hb hr, h2]⟩
  · by_cases hk : s.k < s.ns.length
    · obtain ⟨d, h1, h2⟩ := fmod_nat s.ns[s.k] n hn
      exact ⟨d, _, h1, by rw [drawn_cell s n s.ns[s.k] hn hb (by omega) (List.getElem?_eq_getElem hk), h2]⟩
    · obtain ⟨d, h1, h2⟩ := fmod_nat (((s.m * 48271 + 11).fmod 2147483647).fdiv 7) n hn
      exact ⟨d, _, h1, by rw [drawn_mix s n hn hb (by omega) (by omega), h2]⟩
def startB : S := gSet 1 (gBin modD (gBin addD (gBin addD (gBin mulD (gN 1) (gC (.int 48271))) (gN 2)) (gC (.int 7))) (gC (.int 2147483647)))
theorem start_loop : ∀ (ms : List Int) (m : Int) (x : Sl) (d0 : PyData), ∃ m' y, loopL (bN 2) startB (ms.map PyData.int) [.val d0, .val (.int m), x] = some (.nx [.val d0, .val (.int m'), y])
  | [], m, x, d0 => ⟨m, x, rfl⟩
  | c :: ms, m, x, d0 => by
    have h7 : mulD (.int m) (.int 48271) = some (.int (m * 48271)) := by simp [mulD]
    have h8 : ∀ c d : Int, addD (.int c) (.int d) = some (.int (c + d)) := fun c d => rfl
    have h9 : ∀ c : Int, modD (.int c) (.int 2147483647) = some (.int (c.fmod 2147483647)) := fun c => by simp [modD]
    obtain ⟨m', y, e⟩ := start_loop ms ((m * 48271 + c + 7).fmod 2147483647) (.val (.int c)) d0
    refine ⟨m', y, ?_⟩
    simp only [List.map_cons, loopL]
    have e1 : startB [.val d0, .val (.int m), .val (.int c)] = some (.nx [.val d0, .val (.int ((m * 48271 + c + 7).fmod 2147483647)), .val (.int c)]) := by
      unfold startB
      simp [gSeq, gE, gIfS, gTst, M.bd, M.opt, gIxP, gPeek, gC, M.ok, M.no, atI, ixN, gN, gSet, gSt, gBin, gRet, gRt, gSetIx, gHeld, gPut, putS, gNx, gBlt, Pf.gCons, Pf.gNil, gIf, h7, h8, h9]
    simp [bN, e1, e]
theorem start_ok (ns : List Int) : ∃ m, m__law_start [.list (ns.map PyData.int)] = some (.ok (enc ⟨ns, 0, m, 0⟩)) := by
  obtain ⟨m', y, e⟩ := start_loop ns 1 .no (.list (ns.map PyData.int))
  refine ⟨m', ?_⟩
  have eG : G__law_start = gSeq (gSet 1 (gC (.int 1))) (gSeq (gForL (gN 0) (bN 2) startB) (gRetO (Pf.gLst (Pf.gCons (gN 0) (Pf.gCons (gC (.int 0)) (Pf.gCons (gN 1) (Pf.gCons (gC (.int 0)) Pf.gNil))))))) := rfl
  simp only [m__law_start, fnO, envD]
  rw [eG]
  simp [gSeq, gE, gIfS, gTst, M.bd, M.opt, gIxP, gPeek, gC, M.ok, M.no, atI, ixN, gN, gSet, gSt, gBin, gRet, gRt, gSetIx, gHeld, gPut, putS, gNx, gBlt, Pf.gCons, Pf.gNil, gIf, gForL, e, enc, Pf.gLst, lstD, gRetO, gRo]
end Q
/-! part C2 -/
set_option Elab.async false
set_option linter.all false
set_option maxRecDepth 100000
set_option maxHeartbeats 2000000
namespace Q
open PySem PySem.Spec L2
open Pf
def okD (k : Nat) (d : PyData) : Prop := d.canLay0 = true ∧ d.depth ≤ k
theorem okD.shaped {k : Nat} {d : PyData} (h : okD k d) (hk : k ≤ 64) : SeqAt.shaped d = true := by
  unfold SeqAt.shaped
  rw [h.1, Bool.true_and]
  exact decide_eq_true (Nat.le_trans h.2 hk)
theorem okD.mono {k j : Nat} {d : PyData} (h : okD k d) (hk : k ≤ j) : okD j d := ⟨h.1, Nat.le_trans h.2 hk⟩
theorem okD_none {k : Nat} : okD k .none := ⟨by simp [PyData.canLay0], by simp [PyData.depth]⟩
theorem okD_bool {k : Nat} (b : Bool) : okD k (.bool b) := ⟨by simp [PyData.canLay0], by simp [PyData.depth]⟩
theorem okD_int {k : Nat} (i : Int) : okD k (.int i) := ⟨by simp [PyData.canLay0], by simp [PyData.depth]⟩
theorem okD_str {k : Nat} {x : Str} (h : (PyData.str x).canLay0 = true) : okD k (.str x) := ⟨h, by simp [PyData.depth]⟩
theorem canAll : ∀ {xs : List PyData}, (∀ x ∈ xs, x.canLay0 = true) → PyData.canLayAll0 xs = true
  | [], _ => by simp [PyData.canLayAll0]
  | x :: r, h => by simp [PyData.canLayAll0, h x List.mem_cons_self, canAll fun y hy => h y (List.mem_cons_of_mem _ hy)]
theorem depAll {k : Nat} : ∀ {xs : List PyData}, (∀ x ∈ xs, x.depth ≤ k) → PyData.depthAll xs ≤ k
  | [], _ => by simp [PyData.depthAll]
  | x :: r, h => by
    have h1 := h x List.mem_cons_self
    have h2 := depAll (k := k) fun y hy => h y (List.mem_cons_of_mem _ hy)
    simp only [PyData.depthAll]
    omega
theorem okD_list {k : Nat} {xs : List PyData} (h : ∀ x ∈ xs, okD k x) : okD (k + 1) (.list xs) := ⟨by simp [PyData.canLay0, canAll fun x hx => (h x hx).1], by
  have := depAll fun x hx => (h x hx).2
  simp only [PyData.depth]
  omega⟩
theorem okD_tuple {k : Nat} {xs : List PyData} (h : ∀ x ∈ xs, okD k x) : okD (k + 1) (.tuple xs) := ⟨by simp [PyData.canLay0, canAll fun x hx => (h x hx).1], by
  have := depAll fun x hx => (h x hx).2
  simp only [PyData.depth]
  omega⟩
theorem eqD_ok {k j : Nat} {a b : PyData} (ha : okD k a) (hb : okD j b) (hk : k ≤ 64) (hj : j ≤ 64) : eqD a b = some (PyData.eqv a b) := by
  unfold eqD; rw [if_pos ⟨ha.shaped hk, hb.shaped hj⟩]
theorem neD_ok {k j : Nat} {a b : PyData} (ha : okD k a) (hb : okD j b) (hk : k ≤ 64) (hj : j ≤ 64) : neD a b = some (!PyData.eqv a b) := by
  unfold neD; rw [if_pos ⟨ha.shaped hk, hb.shaped hj⟩]
abbrev nats (l : List Nat) : List PyData := l.map fun (x : Nat) => PyData.int (x : Int)
theorem nats_ok {k : Nat} {l : List Nat} : ∀ x ∈ nats l, okD k x := fun x hx => by
  obtain ⟨y, _, rfl⟩ := List.mem_map.mp hx
  exact okD_int _
theorem nats_len (l : List Nat) : (nats l).length = l.length := List.length_map ..
theorem nats_at {l : List Nat} {d : Nat} (h : d < l.length) : (nats l)[d]? = some (.int (l[d] : Nat)) := by
  show (l.map _)[d]? = _
  rw [List.getElem?_map, List.getElem?_eq_getElem h]; rfl
theorem map_erase {α β : Type} (f : α → β) : ∀ (l : List α) (d : Nat), (l.map f).eraseIdx d = (l.eraseIdx d).map f
  | [], d => by simp
  | a :: l, 0 => by simp
  | a :: l, d + 1 => by simp [map_erase f l d]
theorem nats_ne {l : List Nat} : neD (.list (nats l)) (.list []) = some (!l.isEmpty) := by
  rw [neD_ok (k := 1) (j := 1) (okD_list nats_ok) (okD_list (k := 0) (by simp)) (by decide) (by decide)]
  cases l with
  | nil => simp [PyData.eqv, PyData.eqvAll, nats]
  | cons a r => simp [PyData.eqv, PyData.eqvAll, nats]
def turnT : M Bool := gTstL neD 2 (gFz (Pf.gLst Pf.gNil))
def turnP : M PyData := gCallB 0 (Pf.gCons (gLenP 2) Pf.gNil) m__law_drawn
def turnB : S := gApp 3 (gPopAt 2 turnP)
theorem turn_test (s : Stt) (n : Int) (L A : List Nat) : turnT [.bor (enc s), .val (.int n), .own (nats L), .own (nats A)] = some (.ok (!L.isEmpty, [.bor (enc s), .val (.int n), .own (nats L), .own (nats A)])) := by
  have h := nats_ne (l := L)
  unfold turnT gTstL
  have e1 : gLk 2 [.bor (enc s), .val (.int n), .own (nats L), .own (nats A)] = some (.ok (.list (nats L), [.bor (enc s), .val (.int n), .own (nats L), .own (nats A)])) := rfl
  have e2 : gFz (Pf.gLst Pf.gNil) [.bor (enc s), .val (.int n), .own (nats L), .own (nats A)] = some (.ok (.list [], [.bor (enc s), .val (.int n), .own (nats L), .own (nats A)])) := rfl
  rw [bd_ok e1, bd_ok e2, bd_ok e1]
  exact opt_ok h
theorem turn_body (s : Stt) (n : Int) (L A : List Nat) (hL : 0 < L.length) (hl : L.length < 1000) (ha : A.length < 1000) : ∃ (s' : Stt) (d : Nat) (hd : d < L.length), turnB [.bor (enc s), .val (.int n), .own (nats L), .own (nats A)] = some (.nx [.bor (enc s'), .val (.int n), .own (nats (L.eraseIdx d)), .own (nats (A ++ [L[d]]))]) := by
  obtain ⟨d, s', hd, e⟩ := drawn_ok s L.length hL (by omega)
  refine ⟨s', d, hd, ?_⟩
  have e1 : turnP [.bor (enc s), .val (.int n), .own (nats L), .own (nats A)] = some (.ok (.int d, [.bor (enc s'), .val (.int n), .own (nats L), .own (nats A)])) := by
    unfold turnP
    refine callB_bor (st := enc s) (ds := enc s) rfl (as := [.int (L.length : Nat)]) (env1 := [.bor (enc s), .val (.int n), .own (nats L), .own (nats A)]) ?_ rfl e
    show M.bd _ _ _ = _
    rw [bd_ok (lenP_own (ds := nats L) rfl), nats_len]
    rfl
  have e2 : gPopAt 2 turnP [.bor (enc s), .val (.int n), .own (nats L), .own (nats A)] = some (.ok (.int (L[d] : Nat), [.bor (enc s'), .val (.int n), .own (nats (L.eraseIdx d)), .own (nats A)])) := by
    rw [popAt_own (ds := nats L) (ds1 := nats L) rfl e1 rfl (by rw [nats_len]; exact hd) (by rw [nats_len]; omega) (nats_at hd)]
    rw [show (nats L).eraseIdx d = nats (L.eraseIdx d) from map_erase _ L d]
    rfl
  unfold turnB
  rw [app_own (ds := nats A) (ds1 := nats A) rfl e2 rfl (by rw [nats_len]; omega)]
  rw [show nats A ++ [.int (L[d] : Nat)] = nats (A ++ [L[d]]) by simp [nats]]
  rfl
theorem erase_perm {α : Type} : ∀ (l : List α) (d : Nat) (h : d < l.length), (l[d] :: l.eraseIdx d).Perm l
  | a :: l, 0, _ => List.Perm.refl _
  | a :: l, d + 1, h => by
    have ih := erase_perm l d (by simpa using h)
    simp only [List.getElem_cons_succ, List.eraseIdx_cons_succ]
    exact (List.Perm.swap a _ _).trans (ih.cons a)
theorem turn_loop : ∀ (f : Nat) (s : Stt) (n : Int) (L A : List Nat), L.length < f → L.length + A.length < 1000 → ∃ (s' : Stt) (P : List Nat), P.Perm L ∧ loopW turnT turnB f [.bor (enc s), .val (.int n), .own (nats L), .own (nats A)] = some (.nx [.bor (enc s'), .val (.int n), .own [], .own (nats (A ++ P))])
  | 0, _, _, _, _, h, _ => absurd h (Nat.not_lt_zero _)
  | f + 1, s, n, L, A, h, hl => by
    cases L with
    | nil =>
      refine ⟨s, [], List.Perm.refl _, ?_⟩
      show gE turnT _ _ = _
      rw [gE_ok (turn_test s n [] A)]
      simp [gNx, nats]
    | cons x r =>
      obtain ⟨s1, d, hd, e1⟩ := turn_body s n (x :: r) A (by simp) (by simp only [List.length_cons] at *; omega) (by simp only [List.length_cons] at *; omega)
      have hlen : ((x :: r).eraseIdx d).length = r.length := by rw [List.length_eraseIdx, if_pos hd]; simp
      obtain ⟨s', P, hP, e2⟩ := turn_loop f s1 n ((x :: r).eraseIdx d) (A ++ [(x :: r)[d]]) (by rw [hlen]; simp only [List.length_cons] at h; omega) (by rw [hlen]; simp only [List.length_cons, List.length_append, List.length_nil] at *; omega)
      refine ⟨s', (x :: r)[d] :: P, (hP.cons _).trans (erase_perm _ d hd), ?_⟩
      show gE turnT _ _ = _
      rw [gE_ok (turn_test s n (x :: r) A)]
      simp only [List.isEmpty_cons, Bool.not_false, if_true, e1]
      rw [e2, List.append_assoc]
      rfl
theorem rng_nats (n : Nat) : rngD 0 n = nats (List.range n) := by
  unfold rngD nats
  refine List.map_congr_left fun a _ => ?_
  rw [Int.zero_add]
theorem turned_ok (s : Stt) (n : Nat) (hn : n < 90) : ∃ (s' : Stt) (P : List Nat), P.Perm (List.range n) ∧ m__law_turned (enc s) [.int n] = some (.ok (nats P, enc s')) := by
  obtain ⟨s', P, hP, e⟩ := turn_loop 100 s n (List.range n) [] (by rw [List.length_range]; omega) (by rw [List.length_range]; simp; omega)
  refine ⟨s', P, hP, ?_⟩
  have eG : G__law_turned = gSeq (gParOO 2 3 (gListR (gN 1)) (Pf.gLst Pf.gNil)) (gSeq (loopW turnT turnB 100) (gRetO (gNO 3))) := rfl
  have e1 : gParOO 2 3 (gListR (gN 1)) (Pf.gLst Pf.gNil) [.bor (enc s), .val (.int n), .no, .no] = some (.nx [.bor (enc s), .val (.int n), .own (nats (List.range n)), .own (nats [])]) := by
    have z : gListR (gN 1) [.bor (enc s), .val (.int n), .no, .no] = some (.ok (nats (List.range n), [.bor (enc s), .val (.int n), .no, .no])) := by
      rw [← rng_nats]
      show M.bd _ _ _ = _
      rw [bd_ok (n_val (d := .int n) rfl)]
      refine opt_ok ?_
      show (if 0 ≤ (n : Int) ∧ (n : Int) ≤ 16777216 then some (rngD 0 (n : Int).toNat) else none) = _
      rw [if_pos (by omega)]
      simp
    unfold gParOO
    rw [gE_ok z]
    rfl
  unfold m__law_turned fnBO
  show (match G__law_turned [.bor (enc s), .val (.int n), .no, .no] with
    | some (.ro es (.bor st' :: _)) => (some (Except.ok (es, st')) : Rf (List PyData × List PyData))
    | _ => none) = _
  rw [eG, seq_nx e1, seq_nx e]
  simp [gRetO, gE, gNO, gRo]
end Q
/-! part C3 -/
set_option Elab.async false
set_option linter.all false
set_option maxRecDepth 100000
set_option maxHeartbeats 2000000
namespace Q
open PySem PySem.Spec L2
open Pf
abbrev lotsD (ls : List (List Nat)) : List PyData := ls.map fun l => PyData.tuple (nats l)
theorem lotsD_len (ls : List (List Nat)) : (lotsD ls).length = ls.length := List.length_map ..
theorem lotsD_at {ls : List (List Nat)} {k : Nat} (h : k < ls.length) : (lotsD ls)[k]? = some (.tuple (nats ls[k])) := by
  show (ls.map _)[k]? = _
  rw [List.getElem?_map, List.getElem?_eq_getElem h]; rfl
theorem lotsD_set (ls : List (List Nat)) (k : Nat) (l : List Nat) : (lotsD ls).set k (.tuple (nats l)) = lotsD (ls.set k l) := by
  exact (List.map_set (f := fun l => PyData.tuple (nats l))).symm
theorem flat_set : ∀ (ls : List (List Nat)) (k : Nat) (h : k < ls.length) (b : Nat), (ls.set k (ls[k] ++ [b])).flatten.Perm (b :: ls.flatten)
  | l :: r, 0, _, b => by
    simp only [List.set_cons_zero, List.getElem_cons_zero, List.flatten_cons]
    rw [List.append_assoc, List.singleton_append]
    exact List.perm_middle
  | l :: r, k + 1, h, b => by
    simp only [List.set_cons_succ, List.getElem_cons_succ, List.flatten_cons]
    exact ((flat_set r k (by simpa using h) b).append_left l).trans List.perm_middle
theorem mem_len {ls : List (List Nat)} {k : Nat} (h : k < ls.length) : ls[k].length ≤ ls.flatten.length := by
  have : ls[k].Sublist ls.flatten := List.sublist_flatten_of_mem (List.getElem_mem h)
  exact this.length_le
def lotB : S := gSeq (gSet 5 (gCallB 0 (Pf.gCons (gN 2) Pf.gNil) m__law_drawn)) (gSetIx 3 (gBin addD (gIxP 3 (gN 5)) (Pf.gTup (Pf.gCons (gN 4) Pf.gNil))) (gN 5))
theorem lot_body (s : Stt) (n : Int) (c : Nat) (ls : List (List Nat)) (b : Nat) (x : Sl) (hc : 0 < c) (hcb : c < 1000) (hlen : ls.length = c) (hl : ls.flatten.length < 1000) :
    ∃ (s' : Stt) (k : Nat) (hk : k < ls.length), lotB [.bor (enc s), .val (.int n), .val (.int c), .own (lotsD ls), .val (.int b), x] = some (.nx [.bor (enc s'), .val (.int n), .val (.int c), .own (lotsD (ls.set k (ls[k] ++ [b]))), .val (.int b), .val (.int k)]) := by
  obtain ⟨k, s', hk, e⟩ := drawn_ok s c hc (by omega)
  have hkl : k < ls.length := by omega
  refine ⟨s', k, hkl, ?_⟩
  have e1 : gSet 5 (gCallB 0 (Pf.gCons (gN 2) Pf.gNil) m__law_drawn) [.bor (enc s), .val (.int n), .val (.int c), .own (lotsD ls), .val (.int b), x] = some (.nx [.bor (enc s'), .val (.int n), .val (.int c), .own (lotsD ls), .val (.int b), .val (.int k)]) := by
    have z : gCallB 0 (Pf.gCons (gN 2) Pf.gNil) m__law_drawn [.bor (enc s), .val (.int n), .val (.int c), .own (lotsD ls), .val (.int b), x] = some (.ok (.int k, [.bor (enc s'), .val (.int n), .val (.int c), .own (lotsD ls), .val (.int b), x])) :=
      callB_bor (st := enc s) (ds := enc s) rfl (as := [.int c]) (env1 := [.bor (enc s), .val (.int n), .val (.int c), .own (lotsD ls), .val (.int b), x]) rfl rfl e
    show gE _ _ _ = _
    rw [gE_ok z]
    rfl
  unfold lotB
  rw [seq_nx e1]
  have hs := sizeLine_eq
  have hm := mem_len hkl
  have e2 : addD (.tuple (nats ls[k])) (.tuple [.int b]) = some (.tuple (nats (ls[k] ++ [b]))) := by
    show (if (nats ls[k]).length + 1 ≤ sizeLine then some (PyData.tuple (nats ls[k] ++ [.int b])) else none) = _
    rw [if_pos (by rw [nats_len]; omega)]
    simp [nats]
  have e3 : gBin addD (gIxP 3 (gN 5)) (Pf.gTup (Pf.gCons (gN 4) Pf.gNil)) [.bor (enc s'), .val (.int n), .val (.int c), .own (lotsD ls), .val (.int b), .val (.int k)] = some (.ok (.tuple (nats (ls[k] ++ [b])), [.bor (enc s'), .val (.int n), .val (.int c), .own (lotsD ls), .val (.int b), .val (.int k)])) := by
    show M.bd _ _ _ = _
    rw [bd_ok (ixP_own (ds := lotsD ls) (ds1 := lotsD ls) (k := k) rfl rfl rfl (lotsD_at hkl))]
    have z : Pf.gTup (Pf.gCons (gN 4) Pf.gNil) [.bor (enc s'), .val (.int n), .val (.int c), .own (lotsD ls), .val (.int b), .val (.int k)] = some (.ok (.tuple [.int b], [.bor (enc s'), .val (.int n), .val (.int c), .own (lotsD ls), .val (.int b), .val (.int k)])) := rfl
    rw [bd_ok z]
    exact opt_ok e2
  rw [setIx_own (ds := lotsD ls) (ds1 := lotsD ls) (k := k) e3 rfl rfl rfl (by rw [lotsD_len]; exact hkl), lotsD_set]
  rfl
theorem lot_loop : ∀ (B : List Nat) (s : Stt) (n : Int) (c : Nat) (ls : List (List Nat)) (x y : Sl), 0 < c → c < 1000 → ls.length = c → ls.flatten.length + B.length < 1000 →
    ∃ (s' : Stt) (ls' : List (List Nat)) (x' y' : Sl), ls'.length = c ∧ ls'.flatten.Perm (B ++ ls.flatten) ∧ loopL (bN 4) lotB (nats B) [.bor (enc s), .val (.int n), .val (.int c), .own (lotsD ls), x, y] = some (.nx [.bor (enc s'), .val (.int n), .val (.int c), .own (lotsD ls'), x', y'])
  | [], s, n, c, ls, x, y, _, _, hl, _ => ⟨s, ls, x, y, hl, List.Perm.refl _, rfl⟩
  | b :: B, s, n, c, ls, x, y, hc, hcb, hlen, hl => by
    obtain ⟨s1, k, hk, e1⟩ := lot_body s n c ls b y hc hcb hlen (by omega)
    have hp := flat_set ls k hk b
    have hpl := hp.length_eq
    simp only [List.length_cons] at hpl hl
    obtain ⟨s', ls', x', y', h1, h2, e2⟩ := lot_loop B s1 n c (ls.set k (ls[k] ++ [b])) (.val (.int b)) (.val (.int k)) hc hcb (by rw [List.length_set]; exact hlen) (by omega)
    refine ⟨s', ls', x', y', h1, h2.trans ((hp.append_left B).trans List.perm_middle), ?_⟩
    show (match (bN 4 (.int b) [.bor (enc s), .val (.int n), .val (.int c), .own (lotsD ls), x, y]) with
      | none => none
      | some env1 => match lotB env1 with
        | some (.nx env2) => loopL (bN 4) lotB (nats B) env2
        | some (.ct env2) => loopL (bN 4) lotB (nats B) env2
        | some (.bk env2) => some (.nx env2)
        | o => o) = _
    show (match lotB [.bor (enc s), .val (.int n), .val (.int c), .own (lotsD ls), .val (.int b), y] with
        | some (.nx env2) => loopL (bN 4) lotB (nats B) env2
        | some (.ct env2) => loopL (bN 4) lotB (nats B) env2
        | some (.bk env2) => some (.nx env2)
        | o => o) = _
    rw [e1]
    exact e2
theorem lots_ok (s : Stt) (n c : Nat) (hn : n < 90) (hc : 0 < c) (hcb : c < 100) : ∃ (s' : Stt) (ls : List (List Nat)), ls.length = c ∧ ls.flatten.Perm (List.range n) ∧ m__law_lots (enc s) [.int n, .int c] = some (.ok (.tuple (lotsD ls), enc s')) := by
  obtain ⟨s1, P, hP, e1⟩ := turned_ok s n hn
  have hf : (List.replicate c ([] : List Nat)).flatten = [] := by simp
  obtain ⟨s', ls, x', y', h1, h2, e2⟩ := lot_loop P s1 n c (List.replicate c []) .no .no hc (by omega) (by simp) (by rw [hf, hP.length_eq, List.length_range]; simp; omega)
  rw [hf, List.append_nil] at h2
  refine ⟨s', ls, h1, h2.trans hP, ?_⟩
  have eG : G__law_lots = gSeq (gSetO 3 (gRep (Pf.gLst (Pf.gCons (Pf.gTup Pf.gNil) Pf.gNil)) (gN 2))) (gSeq (gForL (gFz (gCallB 0 (Pf.gCons (gN 1) Pf.gNil) m__law_turned)) (bN 4) lotB) (gRet (gBlt tupK (Pf.gCons (gN 3) Pf.gNil)))) := rfl
  have a1 : gSetO 3 (gRep (Pf.gLst (Pf.gCons (Pf.gTup Pf.gNil) Pf.gNil)) (gN 2)) [.bor (enc s), .val (.int n), .val (.int c), .no, .no, .no] = some (.nx [.bor (enc s), .val (.int n), .val (.int c), .own (lotsD (List.replicate c [])), .no, .no]) := by
    have r1 : repD [.tuple []] (.int c) = some (lotsD (List.replicate c [])) := by
      rw [repD_nat (by simp; omega) (by omega)]
      have key : ∀ c : Nat, (List.replicate c [PyData.tuple []]).flatten = lotsD (List.replicate c []) := fun c => by
        induction c with
        | zero => rfl
        | succ c ih => rw [List.replicate_succ, List.flatten_cons, ih]; rfl
      rw [key]
    have z0 : Pf.gLst (Pf.gCons (Pf.gTup Pf.gNil) Pf.gNil) [.bor (enc s), .val (.int n), .val (.int c), .no, .no, .no] = some (.ok ([.tuple []], [.bor (enc s), .val (.int n), .val (.int c), .no, .no, .no])) := rfl
    have z : gRep (Pf.gLst (Pf.gCons (Pf.gTup Pf.gNil) Pf.gNil)) (gN 2) [.bor (enc s), .val (.int n), .val (.int c), .no, .no, .no] = some (.ok (lotsD (List.replicate c []), [.bor (enc s), .val (.int n), .val (.int c), .no, .no, .no])) := by
      show M.bd _ _ _ = _
      rw [bd_ok z0, bd_ok (n_val (d := .int c) rfl)]
      exact opt_ok r1
    show gE _ _ _ = _
    rw [gE_ok z]
    rfl
  have a2 : gFz (gCallB 0 (Pf.gCons (gN 1) Pf.gNil) m__law_turned) [.bor (enc s), .val (.int n), .val (.int c), .own (lotsD (List.replicate c [])), .no, .no] = some (.ok (.list (nats P), [.bor (enc s1), .val (.int n), .val (.int c), .own (lotsD (List.replicate c [])), .no, .no])) := by
    have z : gCallB 0 (Pf.gCons (gN 1) Pf.gNil) m__law_turned [.bor (enc s), .val (.int n), .val (.int c), .own (lotsD (List.replicate c [])), .no, .no] = some (.ok (nats P, [.bor (enc s1), .val (.int n), .val (.int c), .own (lotsD (List.replicate c [])), .no, .no])) :=
      callB_bor (st := enc s) (ds := enc s) rfl (as := [.int n]) (env1 := [.bor (enc s), .val (.int n), .val (.int c), .own (lotsD (List.replicate c [])), .no, .no]) rfl rfl e1
    show M.bd _ _ _ = _
    rw [bd_ok z]
    rfl
  have a3 : gForL (gFz (gCallB 0 (Pf.gCons (gN 1) Pf.gNil) m__law_turned)) (bN 4) lotB [.bor (enc s), .val (.int n), .val (.int c), .own (lotsD (List.replicate c [])), .no, .no] = some (.nx [.bor (enc s'), .val (.int n), .val (.int c), .own (lotsD ls), x', y']) := by
    unfold gForL
    rw [gE_ok a2]
    exact e2
  have a4 : gRet (gBlt tupK (Pf.gCons (gN 3) Pf.gNil)) [.bor (enc s'), .val (.int n), .val (.int c), .own (lotsD ls), x', y'] = some (.rt (.tuple (lotsD ls)) [.bor (enc s'), .val (.int n), .val (.int c), .val (.list (lotsD ls)), x', y']) := by
    have z : Pf.gCons (gN 3) Pf.gNil [.bor (enc s'), .val (.int n), .val (.int c), .own (lotsD ls), x', y'] = some (.ok ([.list (lotsD ls)], [.bor (enc s'), .val (.int n), .val (.int c), .val (.list (lotsD ls)), x', y'])) := by
      show M.bd _ _ _ = _
      rw [bd_ok (n_own (ds := lotsD ls) rfl)]
      rfl
    have z2 : gBlt tupK (Pf.gCons (gN 3) Pf.gNil) [.bor (enc s'), .val (.int n), .val (.int c), .own (lotsD ls), x', y'] = some (.ok (.tuple (lotsD ls), [.bor (enc s'), .val (.int n), .val (.int c), .val (.list (lotsD ls)), x', y'])) := by
      show M.bd _ _ _ = _
      rw [bd_ok z]
      exact opt_ok rfl
    show gE _ _ _ = _
    rw [gE_ok z2]
    rfl
  refine fnB_rt (r := [.val (.int n), .val (.int c), .val (.list (lotsD ls)), x', y']) ?_
  have eE : envB 6 (enc s) [.int n, .int c] = [.bor (enc s), .val (.int n), .val (.int c), .no, .no, .no] := rfl
  rw [eE, eG, seq_nx a1, seq_nx a3, a4]
end Q
/-! part C4 -/
set_option Elab.async false
set_option linter.all false
set_option maxRecDepth 100000
set_option maxHeartbeats 2000000
namespace Q
open PySem PySem.Spec L2
open Pf
theorem drawn_call {s : Stt} {n : Nat} {gl : M (List PyData)} {env : En} (hn : 0 < n) (hb : n < 1073741824) (h0 : env[0]? = some (.bor (enc s))) (h1 : gl env = some (.ok ([.int n], env))) :
    ∃ (d : Nat) (s' : Stt), d < n ∧ gCallB 0 gl m__law_drawn env = some (.ok (.int d, env.set 0 (.bor (enc s')))) := by
  obtain ⟨d, s', hd, e⟩ := drawn_ok s n hn hb
  exact ⟨d, s', hd, callB_bor h0 h1 h0 e⟩
theorem eqD_int (i j : Int) : eqD (.int i) (.int j) = some (i == j) := by
  rw [eqD_ok (k := 0) (j := 0) (okD_int i) (okD_int j) (by decide) (by decide)]
  simp [PyData.eqv]
def priceD : Option Nat → PyData
  | none => .none
  | some p => .int (p : Int)
abbrev pricesD (ps : List (Option Nat)) : List PyData := ps.map priceD
def priceOk (p : Option Nat) : Prop := ∀ q, p = some q → 1 ≤ q ∧ q ≤ 99
def priceG : M PyData := gIf (gTst eqD (gCallB 0 (Pf.gCons (gN 5) Pf.gNil) m__law_drawn) (gC (.int 0))) (gC .none) (gBin addD (gC (.int 1)) (gCallB 0 (Pf.gCons (gN 4) Pf.gNil) m__law_drawn))
def envS (s : Stt) (a b c : Int) (dear rare : Nat) (x y : Sl) : En := [.bor (enc s), .val (.int a), .val (.int b), .val (.int c), .val (.int dear), .val (.int rare), x, y]
theorem price_ok (s : Stt) (a b c : Int) (dear rare : Nat) (x y : Sl) (hd : 0 < dear) (hd2 : dear ≤ 99) (hr : 0 < rare) (hr2 : rare < 1000) :
    ∃ (s' : Stt) (p : Option Nat), priceOk p ∧ priceG (envS s a b c dear rare x y) = some (.ok (priceD p, envS s' a b c dear rare x y)) := by
  obtain ⟨d, s1, h1, e1⟩ := drawn_call (s := s) (n := rare) (gl := Pf.gCons (gN 5) Pf.gNil) (env := envS s a b c dear rare x y) hr (by omega) rfl rfl
  have e1 : gCallB 0 (Pf.gCons (gN 5) Pf.gNil) m__law_drawn (envS s a b c dear rare x y) = some (.ok (.int d, envS s1 a b c dear rare x y)) := e1
  have t : gTst eqD (gCallB 0 (Pf.gCons (gN 5) Pf.gNil) m__law_drawn) (gC (.int 0)) (envS s a b c dear rare x y) = some (.ok ((d : Int) == 0, envS s1 a b c dear rare x y)) := by
    show M.bd _ _ _ = _
    rw [bd_ok e1]
    have z : gC (.int 0) (envS s1 a b c dear rare x y) = some (.ok (.int 0, envS s1 a b c dear rare x y)) := rfl
    rw [bd_ok z]
    exact opt_ok (eqD_int d 0)
  by_cases h : d = 0
  · refine ⟨s1, none, (fun q z => by cases z), ?_⟩
    show M.bd _ _ _ = _
    rw [bd_ok t]
    subst h
    rfl
  · obtain ⟨e, s2, h2, e2⟩ := drawn_call (s := s1) (n := dear) (gl := Pf.gCons (gN 4) Pf.gNil) (env := envS s1 a b c dear rare x y) hd (by omega) rfl rfl
    have e2 : gCallB 0 (Pf.gCons (gN 4) Pf.gNil) m__law_drawn (envS s1 a b c dear rare x y) = some (.ok (.int e, envS s2 a b c dear rare x y)) := e2
    refine ⟨s2, some (1 + e), (fun q z => by cases z; omega), ?_⟩
    show M.bd _ _ _ = _
    rw [bd_ok t]
    have hz : ((d : Int) == 0) = false := by simp; omega
    rw [hz]
    show M.bd (gCallB 0 (Pf.gCons (gN 4) Pf.gNil) m__law_drawn) (fun e => M.opt (addD (PyData.int 1) e)) _ = _
    rw [bd_ok e2]
    refine opt_ok ?_
    show some (PyData.int (1 + (e : Int))) = some (PyData.int ((1 + e : Nat) : Int))
    rw [Int.natCast_add]
    rfl
theorem price_loop : ∀ (js : List PyData) (acc : List (Option Nat)) (s : Stt) (a b c : Int) (dear rare : Nat), 0 < dear → dear ≤ 99 → 0 < rare → rare < 1000 → acc.length + js.length < 1000 →
    ∃ (s' : Stt) (ps : List (Option Nat)), ps.length = js.length ∧ (∀ p ∈ ps, priceOk p) ∧ loopC [7] (bN 7) gYes priceG js (pricesD acc) (envS s a b c dear rare .no .no) = some (pricesD (acc ++ ps), envS s' a b c dear rare .no .no)
  | [], acc, s, a, b, c, dear, rare, _, _, _, _, _ => ⟨s, [], rfl, (fun _ h => by cases h), by rw [List.append_nil]; rfl⟩
  | j :: js, acc, s, a, b, c, dear, rare, h1, h2, h3, h4, hl => by
    obtain ⟨s1, p, hp, e1⟩ := price_ok s a b c dear rare .no (.val j) h1 h2 h3 h4
    obtain ⟨s', ps, q1, q2, e2⟩ := price_loop js (acc ++ [p]) s1 a b c dear rare h1 h2 h3 h4 (by simp only [List.length_cons, List.length_append, List.length_nil] at *; omega)
    refine ⟨s', p :: ps, by simp [q1], fun q hq => ?_, ?_⟩
    · rcases List.mem_cons.mp hq with rfl | hq
      · exact hp
      · exact q2 q hq
    · have el : (pricesD acc).length < 16777216 := by simp only [List.length_map, List.length_cons] at *; omega
      have step : loopC [7] (bN 7) gYes priceG (j :: js) (pricesD acc) (envS s a b c dear rare .no .no) = (match priceG (envS s a b c dear rare .no (.val j)) with
          | some (.ok (y, env3)) => if (pricesD acc).length < 16777216 then loopC [7] (bN 7) gYes priceG js (pricesD acc ++ [y]) (wipeE [7] env3) else none
          | _ => none) := rfl
      rw [step, e1]
      show (if (pricesD acc).length < 16777216 then loopC [7] (bN 7) gYes priceG js (pricesD acc ++ [priceD p]) (wipeE [7] (envS s1 a b c dear rare .no (.val j))) else none) = _
      rw [if_pos el]
      have w1 : wipeE [7] (envS s1 a b c dear rare .no (.val j)) = envS s1 a b c dear rare .no .no := rfl
      have w2 : pricesD acc ++ [priceD p] = pricesD (acc ++ [p]) := by simp [pricesD]
      rw [w1, w2, e2, List.append_assoc]
      rfl
end Q
namespace Q
open PySem PySem.Spec L2
open Pf
def pick3 (a b c : Int) : M PyData := gBin atD (gFz (Pf.gLst (Pf.gCons (gC (.int a)) (Pf.gCons (gC (.int b)) (Pf.gCons (gC (.int c)) Pf.gNil))))) (gCallB 0 (Pf.gCons (gC (.int 3)) Pf.gNil) m__law_drawn)
theorem pick3_ok {s : Stt} {env : En} (a b c : Nat) (h0 : env[0]? = some (.bor (enc s))) : ∃ (v : Nat) (s' : Stt), (v = a ∨ v = b ∨ v = c) ∧ pick3 a b c env = some (.ok (.int v, env.set 0 (.bor (enc s')))) := by
  obtain ⟨d, s', hd, e⟩ := drawn_call (s := s) (n := 3) (gl := Pf.gCons (gC (.int 3)) Pf.gNil) (env := env) (by decide) (by decide) h0 rfl
  have z : gFz (Pf.gLst (Pf.gCons (gC (.int a)) (Pf.gCons (gC (.int b)) (Pf.gCons (gC (.int c)) Pf.gNil)))) env = some (.ok (.list [.int a, .int b, .int c], env)) := rfl
  have key : ∃ v : Nat, (v = a ∨ v = b ∨ v = c) ∧ atD (.list [.int a, .int b, .int c]) (.int d) = some (.int v) := by
    match d, hd with
    | 0, _ => exact ⟨a, .inl rfl, rfl⟩
    | 1, _ => exact ⟨b, .inr (.inl rfl), rfl⟩
    | 2, _ => exact ⟨c, .inr (.inr rfl), rfl⟩
  obtain ⟨v, hv, ev⟩ := key
  refine ⟨v, s', hv, ?_⟩
  show M.bd (gCallB 0 (Pf.gCons (gC (.int 3)) Pf.gNil) m__law_drawn) (fun e => M.opt (atD (.list [.int a, .int b, .int c]) e)) env = _
  rw [bd_ok e]
  exact opt_ok ev
theorem one_more {s : Stt} {env : En} {i n : Nat} (hn : 0 < n) (hb : n < 1000) (h0 : env[0]? = some (.bor (enc s))) (hi : env[i]? = some (.val (.int n))) : ∃ (v : Nat) (s' : Stt), 1 ≤ v ∧ v ≤ n ∧ gBin addD (gC (.int 1)) (gCallB 0 (Pf.gCons (gN i) Pf.gNil) m__law_drawn) env = some (.ok (.int v, env.set 0 (.bor (enc s')))) := by
  have hg : Pf.gCons (gN i) Pf.gNil env = some (.ok ([.int n], env)) := by
    show M.bd _ _ _ = _
    rw [bd_ok (n_val hi)]
    rfl
  obtain ⟨d, s', hd, e⟩ := drawn_call (s := s) (n := n) (gl := Pf.gCons (gN i) Pf.gNil) (env := env) hn (by omega) h0 hg
  refine ⟨1 + d, s', by omega, by omega, ?_⟩
  show M.bd (gCallB 0 (Pf.gCons (gN i) Pf.gNil) m__law_drawn) (fun e => M.opt (addD (PyData.int 1) e)) _ = _
  rw [bd_ok e]
  refine opt_ok ?_
  show some (PyData.int (1 + (d : Int))) = some (PyData.int ((1 + d : Nat) : Int))
  rw [Int.natCast_add]
  rfl
def shelfD (ps : List (Option Nat)) (ls : List (List Nat)) : PyData := .tuple [.tuple (pricesD ps), .tuple (lotsD ls)]
structure ShelfOk (ps : List (Option Nat)) (ls : List (List Nat)) : Prop where
  p1 : 1 ≤ ps.length
  p2 : ps.length ≤ 12
  pr : ∀ p ∈ ps, priceOk p
  l1 : 1 ≤ ls.length
  l2 : ls.length ≤ 5
  perm : ls.flatten.Perm (List.range ps.length)
theorem shelf_ok (s : Stt) : ∃ (s' : Stt) (ps : List (Option Nat)) (ls : List (List Nat)), ShelfOk ps ls ∧ m__law_shelf (enc s) [.int 12, .int 5] = some (.ok (shelfD ps ls, enc s')) := by
  obtain ⟨m, s1, m1, m2, e1⟩ := one_more (s := s) (env := [.bor (enc s), .val (.int (12 : Nat)), .val (.int (5 : Nat)), .no, .no, .no, .no, .no]) (i := 1) (n := 12) (by decide) (by decide) rfl rfl
  obtain ⟨dear, s2, hdear, e2⟩ := pick3_ok (s := s1) (env := [.bor (enc s1), .val (.int (12 : Nat)), .val (.int (5 : Nat)), .no, .no, .no, .no, .no]) 2 9 99 rfl
  obtain ⟨rare, s3, hrare, e3⟩ := pick3_ok (s := s2) (env := [.bor (enc s2), .val (.int (12 : Nat)), .val (.int (5 : Nat)), .val (.int m), .val (.int dear), .no, .no, .no]) 4 12 60 rfl
  obtain ⟨s4, ps, pl, pp, e4⟩ := price_loop (rngD 0 m) [] s3 (12 : Nat) (5 : Nat) m dear rare (by omega) (by omega) (by omega) (by omega) (by rw [rngD_len]; simp; omega)
  rw [rngD_len] at pl
  obtain ⟨c, s5, c1, c2, e5⟩ := one_more (s := s4) (env := [.bor (enc s4), .val (.int (12 : Nat)), .val (.int (5 : Nat)), .val (.int m), .val (.int dear), .val (.int rare), .val (.tuple (pricesD ps)), .no]) (i := 2) (n := 5) (by decide) (by decide) rfl rfl
  obtain ⟨s6, ls, l1, l2, e6⟩ := lots_ok s5 m c (by omega) (by omega) (by omega)
  refine ⟨s6, ps, ls, ⟨by omega, by omega, pp, by omega, by omega, by rw [pl]; exact l2⟩, ?_⟩
  have e1 : gBin addD (gC (.int 1)) (gCallB 0 (Pf.gCons (gN 1) Pf.gNil) m__law_drawn) [.bor (enc s), .val (.int 12), .val (.int 5), .no, .no, .no, .no, .no] = some (.ok (.int m, [.bor (enc s1), .val (.int 12), .val (.int 5), .no, .no, .no, .no, .no])) := e1
  have e2 : pick3 2 9 99 [.bor (enc s1), .val (.int 12), .val (.int 5), .no, .no, .no, .no, .no] = some (.ok (.int dear, [.bor (enc s2), .val (.int 12), .val (.int 5), .no, .no, .no, .no, .no])) := e2
  have e3 : pick3 4 12 60 [.bor (enc s2), .val (.int 12), .val (.int 5), .val (.int m), .val (.int dear), .no, .no, .no] = some (.ok (.int rare, [.bor (enc s3), .val (.int 12), .val (.int 5), .val (.int m), .val (.int dear), .no, .no, .no])) := e3
  have eG : G__law_shelf = gSeq (gAsg (bTup 2 (bCons (bN 3) (bCons (bN 4) bNil))) (Pf.gTup (Pf.gCons (gBin addD (gC (.int 1)) (gCallB 0 (Pf.gCons (gN 1) Pf.gNil) m__law_drawn)) (Pf.gCons (pick3 2 9 99) Pf.gNil)))) (gSeq (gSet 5 (pick3 4 12 60)) (gSeq (gSet 6 (gBlt tupK (Pf.gCons (gFz (gLcR [7] 7 gYes priceG (gN 3))) Pf.gNil)))
    (gRet (Pf.gTup (Pf.gCons (gN 6) (Pf.gCons (gCallB 0 (Pf.gCons (gN 3) (Pf.gCons (gBin addD (gC (.int 1)) (gCallB 0 (Pf.gCons (gN 2) Pf.gNil) m__law_drawn)) Pf.gNil)) m__law_lots) Pf.gNil)))))) := rfl
  have a1 : gAsg (bTup 2 (bCons (bN 3) (bCons (bN 4) bNil))) (Pf.gTup (Pf.gCons (gBin addD (gC (.int 1)) (gCallB 0 (Pf.gCons (gN 1) Pf.gNil) m__law_drawn)) (Pf.gCons (pick3 2 9 99) Pf.gNil))) [.bor (enc s), .val (.int 12), .val (.int 5), .no, .no, .no, .no, .no] = some (.nx [.bor (enc s2), .val (.int 12), .val (.int 5), .val (.int m), .val (.int dear), .no, .no, .no]) := by
    have z : Pf.gTup (Pf.gCons (gBin addD (gC (.int 1)) (gCallB 0 (Pf.gCons (gN 1) Pf.gNil) m__law_drawn)) (Pf.gCons (pick3 2 9 99) Pf.gNil)) [.bor (enc s), .val (.int 12), .val (.int 5), .no, .no, .no, .no, .no] = some (.ok (.tuple [.int m, .int dear], [.bor (enc s2), .val (.int 12), .val (.int 5), .no, .no, .no, .no, .no])) := by
      have y2 : Pf.gCons (pick3 2 9 99) Pf.gNil [.bor (enc s1), .val (.int 12), .val (.int 5), .no, .no, .no, .no, .no] = some (.ok ([.int dear], [.bor (enc s2), .val (.int 12), .val (.int 5), .no, .no, .no, .no, .no])) := by
        show M.bd _ _ _ = _
        rw [bd_ok e2]
        rfl
      have y1 : Pf.gCons (gBin addD (gC (.int 1)) (gCallB 0 (Pf.gCons (gN 1) Pf.gNil) m__law_drawn)) (Pf.gCons (pick3 2 9 99) Pf.gNil) [.bor (enc s), .val (.int 12), .val (.int 5), .no, .no, .no, .no, .no] = some (.ok ([.int m, .int dear], [.bor (enc s2), .val (.int 12), .val (.int 5), .no, .no, .no, .no, .no])) := by
        show M.bd (gBin addD (gC (.int 1)) (gCallB 0 (Pf.gCons (gN 1) Pf.gNil) m__law_drawn)) _ _ = _
        rw [bd_ok e1]
        show M.bd (Pf.gCons (pick3 2 9 99) Pf.gNil) _ [.bor (enc s1), .val (.int 12), .val (.int 5), .no, .no, .no, .no, .no] = _
        rw [bd_ok y2]
        rfl
      show M.bd (Pf.gCons (gBin addD (gC (.int 1)) (gCallB 0 (Pf.gCons (gN 1) Pf.gNil) m__law_drawn)) (Pf.gCons (pick3 2 9 99) Pf.gNil)) _ _ = _
      rw [bd_ok y1]
      exact opt_ok rfl
    show gE _ _ _ = _
    rw [gE_ok z]
    rfl
  have a2 : gSet 5 (pick3 4 12 60) [.bor (enc s2), .val (.int 12), .val (.int 5), .val (.int m), .val (.int dear), .no, .no, .no] = some (.nx [.bor (enc s3), .val (.int 12), .val (.int 5), .val (.int m), .val (.int dear), .val (.int rare), .no, .no]) := by
    show gE _ _ _ = _
    rw [gE_ok e3]
    rfl
  have e4 : loopC [7] (bN 7) gYes priceG (rngD 0 m) [] [.bor (enc s3), .val (.int 12), .val (.int 5), .val (.int m), .val (.int dear), .val (.int rare), .no, .no] = some (pricesD ps, [.bor (enc s4), .val (.int 12), .val (.int 5), .val (.int m), .val (.int dear), .val (.int rare), .no, .no]) := e4
  have a3 : gSet 6 (gBlt tupK (Pf.gCons (gFz (gLcR [7] 7 gYes priceG (gN 3))) Pf.gNil)) [.bor (enc s3), .val (.int 12), .val (.int 5), .val (.int m), .val (.int dear), .val (.int rare), .no, .no] = some (.nx [.bor (enc s4), .val (.int 12), .val (.int 5), .val (.int m), .val (.int dear), .val (.int rare), .val (.tuple (pricesD ps)), .no]) := by
    have z0 : gLcR [7] 7 gYes priceG (gN 3) [.bor (enc s3), .val (.int 12), .val (.int 5), .val (.int m), .val (.int dear), .val (.int rare), .no, .no] = some (.ok (pricesD ps, [.bor (enc s4), .val (.int 12), .val (.int 5), .val (.int m), .val (.int dear), .val (.int rare), .no, .no])) := by
      show M.bd (gN 3) _ _ = _
      rw [bd_ok (n_val (d := .int m) rfl)]
      have r : rngO (.int (m : Int)) = some (rngD 0 m) := by
        unfold rngO
        simp only
        rw [if_pos (by omega), Int.toNat_natCast]
      rw [bd_ok (opt_ok r)]
      have w : wipeE [7] [.bor (enc s3), .val (.int 12), .val (.int 5), .val (.int m), .val (.int dear), .val (.int rare), .no, .no] = [.bor (enc s3), .val (.int 12), .val (.int 5), .val (.int m), .val (.int dear), .val (.int rare), .no, .no] := rfl
      unfold gLc
      rw [w, e4]
      rfl
    have z1 : gFz (gLcR [7] 7 gYes priceG (gN 3)) [.bor (enc s3), .val (.int 12), .val (.int 5), .val (.int m), .val (.int dear), .val (.int rare), .no, .no] = some (.ok (.list (pricesD ps), [.bor (enc s4), .val (.int 12), .val (.int 5), .val (.int m), .val (.int dear), .val (.int rare), .no, .no])) := by
      show M.bd (gLcR [7] 7 gYes priceG (gN 3)) _ _ = _
      rw [bd_ok z0]
      rfl
    have z2 : Pf.gCons (gFz (gLcR [7] 7 gYes priceG (gN 3))) Pf.gNil [.bor (enc s3), .val (.int 12), .val (.int 5), .val (.int m), .val (.int dear), .val (.int rare), .no, .no] = some (.ok ([.list (pricesD ps)], [.bor (enc s4), .val (.int 12), .val (.int 5), .val (.int m), .val (.int dear), .val (.int rare), .no, .no])) := by
      show M.bd (gFz (gLcR [7] 7 gYes priceG (gN 3))) _ _ = _
      rw [bd_ok z1]
      rfl
    have z3 : gBlt tupK (Pf.gCons (gFz (gLcR [7] 7 gYes priceG (gN 3))) Pf.gNil) [.bor (enc s3), .val (.int 12), .val (.int 5), .val (.int m), .val (.int dear), .val (.int rare), .no, .no] = some (.ok (.tuple (pricesD ps), [.bor (enc s4), .val (.int 12), .val (.int 5), .val (.int m), .val (.int dear), .val (.int rare), .no, .no])) := by
      show M.bd (Pf.gCons (gFz (gLcR [7] 7 gYes priceG (gN 3))) Pf.gNil) _ _ = _
      rw [bd_ok z2]
      exact opt_ok rfl
    show gE _ _ _ = _
    rw [gE_ok z3]
    rfl
  have e5 : gBin addD (gC (.int 1)) (gCallB 0 (Pf.gCons (gN 2) Pf.gNil) m__law_drawn) [.bor (enc s4), .val (.int 12), .val (.int 5), .val (.int m), .val (.int dear), .val (.int rare), .val (.tuple (pricesD ps)), .no] = some (.ok (.int c, [.bor (enc s5), .val (.int 12), .val (.int 5), .val (.int m), .val (.int dear), .val (.int rare), .val (.tuple (pricesD ps)), .no])) := e5
  have y1 : Pf.gCons (gBin addD (gC (.int 1)) (gCallB 0 (Pf.gCons (gN 2) Pf.gNil) m__law_drawn)) Pf.gNil [.bor (enc s4), .val (.int 12), .val (.int 5), .val (.int m), .val (.int dear), .val (.int rare), .val (.tuple (pricesD ps)), .no] = some (.ok ([.int c], [.bor (enc s5), .val (.int 12), .val (.int 5), .val (.int m), .val (.int dear), .val (.int rare), .val (.tuple (pricesD ps)), .no])) := by
    show M.bd (gBin addD (gC (.int 1)) (gCallB 0 (Pf.gCons (gN 2) Pf.gNil) m__law_drawn)) (fun d => M.bd Pf.gNil fun ds => M.ok (d :: ds)) _ = _
    rw [bd_ok e5]
    rfl
  have y2 : Pf.gCons (gN 3) (Pf.gCons (gBin addD (gC (.int 1)) (gCallB 0 (Pf.gCons (gN 2) Pf.gNil) m__law_drawn)) Pf.gNil) [.bor (enc s4), .val (.int 12), .val (.int 5), .val (.int m), .val (.int dear), .val (.int rare), .val (.tuple (pricesD ps)), .no] = some (.ok ([.int m, .int c], [.bor (enc s5), .val (.int 12), .val (.int 5), .val (.int m), .val (.int dear), .val (.int rare), .val (.tuple (pricesD ps)), .no])) := by
    show M.bd (gN 3) (fun d => M.bd (Pf.gCons (gBin addD (gC (.int 1)) (gCallB 0 (Pf.gCons (gN 2) Pf.gNil) m__law_drawn)) Pf.gNil) fun ds => M.ok (d :: ds)) _ = _
    rw [bd_ok (n_val (d := .int m) rfl), bd_ok y1]
    rfl
  have y3 : gCallB 0 (Pf.gCons (gN 3) (Pf.gCons (gBin addD (gC (.int 1)) (gCallB 0 (Pf.gCons (gN 2) Pf.gNil) m__law_drawn)) Pf.gNil)) m__law_lots [.bor (enc s4), .val (.int 12), .val (.int 5), .val (.int m), .val (.int dear), .val (.int rare), .val (.tuple (pricesD ps)), .no] = some (.ok (.tuple (lotsD ls), [.bor (enc s6), .val (.int 12), .val (.int 5), .val (.int m), .val (.int dear), .val (.int rare), .val (.tuple (pricesD ps)), .no])) := callB_bor (st := enc s4) (ds := enc s5) rfl y2 rfl e6
  have y4 : Pf.gCons (gCallB 0 (Pf.gCons (gN 3) (Pf.gCons (gBin addD (gC (.int 1)) (gCallB 0 (Pf.gCons (gN 2) Pf.gNil) m__law_drawn)) Pf.gNil)) m__law_lots) Pf.gNil [.bor (enc s4), .val (.int 12), .val (.int 5), .val (.int m), .val (.int dear), .val (.int rare), .val (.tuple (pricesD ps)), .no] = some (.ok ([.tuple (lotsD ls)], [.bor (enc s6), .val (.int 12), .val (.int 5), .val (.int m), .val (.int dear), .val (.int rare), .val (.tuple (pricesD ps)), .no])) := by
    show M.bd (gCallB 0 (Pf.gCons (gN 3) (Pf.gCons (gBin addD (gC (.int 1)) (gCallB 0 (Pf.gCons (gN 2) Pf.gNil) m__law_drawn)) Pf.gNil)) m__law_lots) (fun d => M.bd Pf.gNil fun ds => M.ok (d :: ds)) _ = _
    rw [bd_ok y3]
    rfl
  have y5 : Pf.gCons (gN 6) (Pf.gCons (gCallB 0 (Pf.gCons (gN 3) (Pf.gCons (gBin addD (gC (.int 1)) (gCallB 0 (Pf.gCons (gN 2) Pf.gNil) m__law_drawn)) Pf.gNil)) m__law_lots) Pf.gNil) [.bor (enc s4), .val (.int 12), .val (.int 5), .val (.int m), .val (.int dear), .val (.int rare), .val (.tuple (pricesD ps)), .no] = some (.ok ([.tuple (pricesD ps), .tuple (lotsD ls)], [.bor (enc s6), .val (.int 12), .val (.int 5), .val (.int m), .val (.int dear), .val (.int rare), .val (.tuple (pricesD ps)), .no])) := by
    show M.bd (gN 6) (fun d => M.bd (Pf.gCons (gCallB 0 (Pf.gCons (gN 3) (Pf.gCons (gBin addD (gC (.int 1)) (gCallB 0 (Pf.gCons (gN 2) Pf.gNil) m__law_drawn)) Pf.gNil)) m__law_lots) Pf.gNil) fun ds => M.ok (d :: ds)) _ = _
    rw [bd_ok (n_val (d := .tuple (pricesD ps)) rfl), bd_ok y4]
    rfl
  have y6 : Pf.gTup (Pf.gCons (gN 6) (Pf.gCons (gCallB 0 (Pf.gCons (gN 3) (Pf.gCons (gBin addD (gC (.int 1)) (gCallB 0 (Pf.gCons (gN 2) Pf.gNil) m__law_drawn)) Pf.gNil)) m__law_lots) Pf.gNil)) [.bor (enc s4), .val (.int 12), .val (.int 5), .val (.int m), .val (.int dear), .val (.int rare), .val (.tuple (pricesD ps)), .no] = some (.ok (shelfD ps ls, [.bor (enc s6), .val (.int 12), .val (.int 5), .val (.int m), .val (.int dear), .val (.int rare), .val (.tuple (pricesD ps)), .no])) := by
    show M.bd (Pf.gCons (gN 6) (Pf.gCons (gCallB 0 (Pf.gCons (gN 3) (Pf.gCons (gBin addD (gC (.int 1)) (gCallB 0 (Pf.gCons (gN 2) Pf.gNil) m__law_drawn)) Pf.gNil)) m__law_lots) Pf.gNil)) (fun ds => M.opt (tupD ds)) _ = _
    rw [bd_ok y5]
    exact opt_ok rfl
  refine fnB_rt (r := [.val (.int 12), .val (.int 5), .val (.int m), .val (.int dear), .val (.int rare), .val (.tuple (pricesD ps)), .no]) ?_
  have eE : envB 8 (enc s) [.int 12, .int 5] = [.bor (enc s), .val (.int 12), .val (.int 5), .no, .no, .no, .no, .no] := rfl
  rw [eE, eG, seq_nx a1, seq_nx a2, seq_nx a3]
  show gE _ _ _ = _
  rw [gE_ok y6]
  rfl
end Q
/-! part C5 -/
set_option Elab.async false
set_option linter.all false
set_option maxRecDepth 100000
set_option maxHeartbeats 2000000
namespace Q
open PySem PySem.Spec L2
open Pf
theorem ifS_t {g : M Bool} {a b : S} {env env1 : En} (h : g env = some (.ok (true, env1))) : gIfS g a b env = a env1 := by unfold gIfS; rw [gE_ok h]; rfl
theorem ifS_f {g : M Bool} {a b : S} {env env1 : En} (h : g env = some (.ok (false, env1))) : gIfS g a b env = b env1 := by unfold gIfS; rw [gE_ok h]; rfl
end Q
/-! part C6 -/
set_option Elab.async false
set_option linter.all false
set_option maxRecDepth 100000
set_option maxHeartbeats 2000000
namespace Q
open PySem PySem.Spec L2
open Pf
def inR (v : PyData) (lo hi : Int) : Bool := match v with
  | .int i => decide (lo ≤ i ∧ i ≤ hi)
  | _ => false
theorem law_is_ok (v : PyData) (hv : flatD v = true) (lo hi : Int) : m__law_is [v, .int lo, .int hi] = some (.ok (.bool (inR v lo hi))) := by
  cases v with
  | none => rfl
  | bool b => rfl
  | str x => rfl
  | list xs => cases hv
  | tuple xs => cases hv
  | dict d => cases hv
  | int i =>
    refine fnD_rt (r := [.val (.int i), .val (.int lo), .val (.int hi)]) ?_
    have eE : envD 3 [PyData.int i, .int lo, .int hi] = [.val (.int i), .val (.int lo), .val (.int hi)] := rfl
    rw [eE]
    have c1 : (cmpD fun i j => decide (i ≤ j)) (.int lo) (.int i) = some (decide (lo ≤ i)) := rfl
    have c2 : (cmpD fun i j => decide (i ≤ j)) (.int i) (.int hi) = some (decide (i ≤ hi)) := rfl
    have ch : gChain (gN 1) (gN 0) (gN 2) (cmpD fun i j => decide (i ≤ j)) (cmpD fun i j => decide (i ≤ j)) [.val (.int i), .val (.int lo), .val (.int hi)] = some (.ok (.bool (inR (.int i) lo hi), [.val (.int i), .val (.int lo), .val (.int hi)])) := by
      unfold gChain
      rw [bd_ok (n_val (d := .int lo) rfl), bd_ok (n_val (d := .int i) rfl), bd_ok (opt_ok c1)]
      by_cases h : lo ≤ i
      · rw [decide_eq_true h, if_pos rfl, bd_ok (n_val (d := .int hi) rfl)]
        refine opt_ok ?_
        rw [c2]
        simp [inR, h]
      · rw [decide_eq_false h]
        simp [inR, h, M.ok]
    have h1 : gAnd (gNot (gIsa "bool" (gN 0))) (gChain (gN 1) (gN 0) (gN 2) (cmpD fun i j => decide (i ≤ j)) (cmpD fun i j => decide (i ≤ j))) [.val (.int i), .val (.int lo), .val (.int hi)] = gChain (gN 1) (gN 0) (gN 2) (cmpD fun i j => decide (i ≤ j)) (cmpD fun i j => decide (i ≤ j)) [.val (.int i), .val (.int lo), .val (.int hi)] := rfl
    have h2 : gAnd (gIsa "int" (gN 0)) (gAnd (gNot (gIsa "bool" (gN 0))) (gChain (gN 1) (gN 0) (gN 2) (cmpD fun i j => decide (i ≤ j)) (cmpD fun i j => decide (i ≤ j)))) [.val (.int i), .val (.int lo), .val (.int hi)] = gAnd (gNot (gIsa "bool" (gN 0))) (gChain (gN 1) (gN 0) (gN 2) (cmpD fun i j => decide (i ≤ j)) (cmpD fun i j => decide (i ≤ j))) [.val (.int i), .val (.int lo), .val (.int hi)] := rfl
    show gE (gAnd (gIsa "int" (gN 0)) (gAnd (gNot (gIsa "bool" (gN 0))) (gChain (gN 1) (gN 0) (gN 2) (cmpD fun i j => decide (i ≤ j)) (cmpD fun i j => decide (i ≤ j))))) gRt _ = _
    rw [gE_ok (h2.trans (h1.trans ch))]
    rfl
def inP (v : PyData) (n : Nat) : Bool := match v with
  | .int i => decide (0 ≤ i ∧ i < n)
  | _ => false
theorem place_ok (v : PyData) (hv : flatD v = true) (n : Nat) : m_is_place [v, .int n] = some (.ok (.bool (inP v n))) := by
  cases v with
  | none => rfl
  | bool b => rfl
  | str x => rfl
  | list xs => cases hv
  | tuple xs => cases hv
  | dict d => cases hv
  | int i =>
    refine fnD_rt (r := [.val (.int i), .val (.int n)]) ?_
    have eE : envD 2 [PyData.int i, .int n] = [.val (.int i), .val (.int n)] := rfl
    rw [eE]
    have c1 : (cmpD fun i j => decide (i ≤ j)) (.int 0) (.int i) = some (decide (0 ≤ i)) := rfl
    have c2 : (cmpD fun i j => decide (i < j)) (.int i) (.int n) = some (decide (i < n)) := rfl
    have ch : gChain (gC (.int 0)) (gN 0) (gN 1) (cmpD fun i j => decide (i ≤ j)) (cmpD fun i j => decide (i < j)) [.val (.int i), .val (.int n)] = some (.ok (.bool (inP (.int i) n), [.val (.int i), .val (.int n)])) := by
      have zc : gC (.int 0) [.val (.int i), .val (.int n)] = some (.ok (.int 0, [.val (.int i), .val (.int n)])) := rfl
      unfold gChain
      rw [bd_ok zc]
      rw [bd_ok (n_val (d := .int i) rfl), bd_ok (opt_ok c1)]
      by_cases h : 0 ≤ i
      · rw [decide_eq_true h, if_pos rfl, bd_ok (n_val (d := .int n) rfl)]
        refine opt_ok ?_
        rw [c2]
        simp [inP, h]
      · rw [decide_eq_false h]
        simp [inP, h, M.ok]
    have h1 : gAnd (gCall m_is_number (Pf.gCons (gN 0) Pf.gNil)) (gChain (gC (.int 0)) (gN 0) (gN 1) (cmpD fun i j => decide (i ≤ j)) (cmpD fun i j => decide (i < j))) [.val (.int i), .val (.int n)] = gChain (gC (.int 0)) (gN 0) (gN 1) (cmpD fun i j => decide (i ≤ j)) (cmpD fun i j => decide (i < j)) [.val (.int i), .val (.int n)] := rfl
    show gE (gAnd (gCall m_is_number (Pf.gCons (gN 0) Pf.gNil)) (gChain (gC (.int 0)) (gN 0) (gN 1) (cmpD fun i j => decide (i ≤ j)) (cmpD fun i j => decide (i < j)))) gRt _ = _
    rw [gE_ok (h1.trans ch)]
    rfl
end Q
/-! part C9 -/
set_option Elab.async false
set_option linter.all false
set_option maxRecDepth 100000
set_option maxHeartbeats 2000000
namespace Q
open PySem PySem.Spec L2
open Pf
theorem set_back {env : En} {j : Nat} {v : Sl} (h : env[j]? = some .no) : wipeE [j] (env.set j v) = env := by
  show (env.set j v).set j .no = env
  rw [List.set_set]
  apply List.ext_getElem?
  intro i
  by_cases e : i = j
  · subst e
    have hl := (List.getElem?_eq_some_iff.mp h).1
    rw [List.getElem?_set_self hl, h]
  · rw [List.getElem?_set_ne (Ne.symm e)]
end Q
/-! part C10 -/
set_option Elab.async false
set_option linter.all false
set_option maxRecDepth 100000
set_option maxHeartbeats 2000000
namespace Q
open PySem PySem.Spec L2
open Pf
def endD (first : Bool) : PyData := if first = true then .str "first" else .str "last"
end Q
/-! part C11 -/
set_option Elab.async false
set_option linter.all false
set_option maxRecDepth 100000
set_option maxHeartbeats 2000000
namespace Q
open PySem PySem.Spec L2
open Pf
end Q
/-! part C12 -/
set_option Elab.async false
set_option linter.all false
set_option maxRecDepth 100000
set_option maxHeartbeats 2000000
namespace Q
open PySem PySem.Spec L2
open Pf
def enumK : Nat → List PyData → List PyData
  | _, [] => []
  | k, d :: r => .tuple [.int (k : Int), d] :: enumK (k + 1) r
theorem enumK_at : ∀ (ds : List PyData) (k i : Nat), (enumK k ds)[i]? = ds[i]?.map fun d => PyData.tuple [.int ((k + i : Nat) : Int), d]
  | [], k, i => by simp [enumK]
  | d :: r, k, 0 => by simp [enumK]
  | d :: r, k, i + 1 => by
    have := enumK_at r (k + 1) i
    simp only [enumK, List.getElem?_cons_succ]
    rw [this]
    have e : k + 1 + i = k + (i + 1) := by omega
    rw [e]
theorem enum_K (ds : List PyData) : enumD ds = enumK 0 ds := by
  apply List.ext_getElem?
  intro i
  rw [enumK_at]
  cases h : ds[i]? with
  | some d => rw [enumD_at h, Nat.zero_add]; rfl
  | none =>
    rw [List.getElem?_eq_none_iff] at h
    rw [List.getElem?_eq_none (by rw [enumD_len]; exact h)]
    rfl
theorem is_price_ok (p : Option Nat) (h : priceOk p) : m_is_price [priceD p] = some (.ok (.bool true)) := by
  cases p with
  | none => rfl
  | some q =>
    obtain ⟨h1, h2⟩ := h q rfl
    refine fnD_rt (r := [.val (.int q)]) ?_
    have eE : envD 1 [priceD (some q)] = [.val (.int q)] := rfl
    rw [eE]
    have c1 : (cmpD fun i j => decide (i ≤ j)) (.int 1) (.int q) = some true := by simp [cmpD]; omega
    have c2 : (cmpD fun i j => decide (i ≤ j)) (.int q) (.int 99) = some true := by simp [cmpD]; omega
    have z1 : gC (.int 1) [.val (.int q)] = some (.ok (.int 1, [.val (.int q)])) := rfl
    have z2 : gC (.int 99) [.val (.int q)] = some (.ok (.int 99, [.val (.int q)])) := rfl
    have ch : gChain (gC (.int 1)) (gN 0) (gC (.int 99)) (cmpD fun i j => decide (i ≤ j)) (cmpD fun i j => decide (i ≤ j)) [.val (.int q)] = some (.ok (.bool true, [.val (.int q)])) := by
      unfold gChain
      rw [bd_ok z1, bd_ok (n_val (d := .int q) rfl), bd_ok (opt_ok c1), if_pos rfl, bd_ok z2]
      refine opt_ok ?_
      rw [c2]
      rfl
    have h1 : gOr (gCmp isD (gN 0) (gC .none)) (gAnd (gCall m_is_number (Pf.gCons (gN 0) Pf.gNil)) (gChain (gC (.int 1)) (gN 0) (gC (.int 99)) (cmpD fun i j => decide (i ≤ j)) (cmpD fun i j => decide (i ≤ j)))) [.val (.int q)] = gChain (gC (.int 1)) (gN 0) (gC (.int 99)) (cmpD fun i j => decide (i ≤ j)) (cmpD fun i j => decide (i ≤ j)) [.val (.int q)] := rfl
    show gE (gOr (gCmp isD (gN 0) (gC .none)) (gAnd (gCall m_is_number (Pf.gCons (gN 0) Pf.gNil)) (gChain (gC (.int 1)) (gN 0) (gC (.int 99)) (cmpD fun i j => decide (i ≤ j)) (cmpD fun i j => decide (i ≤ j))))) gRt _ = _
    rw [gE_ok (h1.trans ch)]
    rfl
def wpB : S := gIfS (gOrT (gTst eqD (gN 1) (gC (.int 12))) (gNotT (gTru (gCall m_is_price (Pf.gCons (gN 2) Pf.gNil))))) (gRet (gN 1)) gNx
theorem wp_body (a : PyData) (k : Nat) (p : Option Nat) (hk : k < 12) (hp : priceOk p) : wpB [.val a, .val (.int k), .val (priceD p)] = some (.nx [.val a, .val (.int k), .val (priceD p)]) := by
  have t1 : gTst eqD (gN 1) (gC (.int 12)) [.val a, .val (.int k), .val (priceD p)] = some (.ok (false, [.val a, .val (.int k), .val (priceD p)])) := by
    show M.bd (gN 1) (fun d => M.bd (gC (.int 12)) fun e => M.opt (eqD d e)) _ = _
    rw [bd_ok (n_val (d := .int k) rfl)]
    refine opt_ok (o := eqD (.int k) (.int 12)) ?_
    rw [eqD_int]
    have : ((k : Int) == 12) = false := by simp; omega
    rw [this]
  have z : gCall m_is_price (Pf.gCons (gN 2) Pf.gNil) [.val a, .val (.int k), .val (priceD p)] = some (.ok (.bool true, [.val a, .val (.int k), .val (priceD p)])) := by
    have z : Pf.gCons (gN 2) Pf.gNil [.val a, .val (.int k), .val (priceD p)] = some (.ok ([priceD p], [.val a, .val (.int k), .val (priceD p)])) := rfl
    show M.bd (Pf.gCons (gN 2) Pf.gNil) (fun ds => gLift (m_is_price ds)) _ = _
    rw [bd_ok z, is_price_ok p hp]
    rfl
  have t2 : gNotT (gTru (gCall m_is_price (Pf.gCons (gN 2) Pf.gNil))) [.val a, .val (.int k), .val (priceD p)] = some (.ok (false, [.val a, .val (.int k), .val (priceD p)])) := by
    have y : M.bd (gCall m_is_price (Pf.gCons (gN 2) Pf.gNil)) (fun d => M.opt (truD d)) [.val a, .val (.int k), .val (priceD p)] = some (.ok (true, [.val a, .val (.int k), .val (priceD p)])) := by
      rw [bd_ok z]
      rfl
    show M.bd (M.bd (gCall m_is_price (Pf.gCons (gN 2) Pf.gNil)) fun d => M.opt (truD d)) (fun b => M.ok (!b)) _ = _
    rw [bd_ok y]
    rfl
  have t : gOrT (gTst eqD (gN 1) (gC (.int 12))) (gNotT (gTru (gCall m_is_price (Pf.gCons (gN 2) Pf.gNil)))) [.val a, .val (.int k), .val (priceD p)] = some (.ok (false, [.val a, .val (.int k), .val (priceD p)])) := by
    unfold gOrT
    rw [bd_ok t1]
    exact t2
  unfold wpB
  rw [ifS_f t]
  rfl
theorem wp_loop (a : PyData) : ∀ (ps : List (Option Nat)) (k : Nat) (x y : Sl), (∀ p ∈ ps, priceOk p) → k + ps.length ≤ 12 → ∃ x' y', loopL (bTup 2 (bCons (bN 1) (bCons (bN 2) bNil))) wpB (enumK k (pricesD ps)) [.val a, x, y] = some (.nx [.val a, x', y'])
  | [], k, x, y, _, _ => ⟨x, y, rfl⟩
  | p :: ps, k, x, y, h, hk => by
    simp only [List.length_cons] at hk
    obtain ⟨x', y', e⟩ := wp_loop a ps (k + 1) (.val (.int k)) (.val (priceD p)) (fun q hq => h q (List.mem_cons_of_mem _ hq)) (by omega)
    refine ⟨x', y', ?_⟩
    have step : loopL (bTup 2 (bCons (bN 1) (bCons (bN 2) bNil))) wpB (enumK k (pricesD (p :: ps))) [.val a, x, y] = (match wpB [.val a, .val (.int k), .val (priceD p)] with
      | some (.nx env2) => loopL (bTup 2 (bCons (bN 1) (bCons (bN 2) bNil))) wpB (enumK (k + 1) (pricesD ps)) env2
      | some (.ct env2) => loopL (bTup 2 (bCons (bN 1) (bCons (bN 2) bNil))) wpB (enumK (k + 1) (pricesD ps)) env2
      | some (.bk env2) => some (.nx env2)
      | o => o) := rfl
    rw [step, wp_body a k p (by omega) (h p List.mem_cons_self)]
    exact e
theorem wrong_price_ok (ps : List (Option Nat)) (h : ∀ p ∈ ps, priceOk p) (h1 : 1 ≤ ps.length) (h2 : ps.length ≤ 12) : m_wrong_price [.tuple (pricesD ps)] = some (.ok .none) := by
  obtain ⟨x', y', e⟩ := wp_loop (.tuple (pricesD ps)) ps 0 .no .no h (by omega)
  have eG : G_wrong_price = gSeq (gIfS (gOrT (gNotT (gTru (gIsa "tuple" (gN 0)))) (gTst eqD (gLenP 0) (gC (.int 0)))) (gRet (gC (.int 0))) gNx) (gSeq (gForET (gN 0) (bTup 2 (bCons (bN 1) (bCons (bN 2) bNil))) wpB) (gRet (gC .none))) := rfl
  have eE : envD 3 [.tuple (pricesD ps)] = [.val (.tuple (pricesD ps)), .no, .no] := rfl
  have t : gOrT (gNotT (gTru (gIsa "tuple" (gN 0)))) (gTst eqD (gLenP 0) (gC (.int 0))) [.val (.tuple (pricesD ps)), .no, .no] = some (.ok (false, [.val (.tuple (pricesD ps)), .no, .no])) := by
    have y : gOrT (gNotT (gTru (gIsa "tuple" (gN 0)))) (gTst eqD (gLenP 0) (gC (.int 0))) [.val (.tuple (pricesD ps)), .no, .no] = M.opt (eqD (.int (pricesD ps).length) (.int 0)) [.val (.tuple (pricesD ps)), .no, .no] := rfl
    rw [y]
    refine opt_ok ?_
    rw [eqD_int, List.length_map]
    have : ((ps.length : Int) == 0) = false := beq_eq_false_iff_ne.mpr (by omega)
    rw [this]
  have a1 : gIfS (gOrT (gNotT (gTru (gIsa "tuple" (gN 0)))) (gTst eqD (gLenP 0) (gC (.int 0)))) (gRet (gC (.int 0))) gNx [.val (.tuple (pricesD ps)), .no, .no] = some (.nx [.val (.tuple (pricesD ps)), .no, .no]) := by rw [ifS_f t]; rfl
  have a2 : gForET (gN 0) (bTup 2 (bCons (bN 1) (bCons (bN 2) bNil))) wpB [.val (.tuple (pricesD ps)), .no, .no] = some (.nx [.val (.tuple (pricesD ps)), x', y']) := by
    unfold gForET
    rw [gE_ok (n_val (d := .tuple (pricesD ps)) rfl)]
    simp only
    rw [enum_K]
    exact e
  refine fnD_rt (r := [.val (.tuple (pricesD ps)), x', y']) ?_
  rw [eE, eG, seq_nx a1, seq_nx a2]
  rfl
end Q
/-! part C13 -/
set_option Elab.async false
set_option linter.all false
set_option maxRecDepth 100000
set_option maxHeartbeats 2000000
namespace Q
open PySem PySem.Spec L2
open Pf
def inB : S := gSeq (gIfS (gOrT (gNotT (gTru (gCall m_is_place (Pf.gCons (gN 7) (Pf.gCons (gN 1) Pf.gNil))))) (gHasS 4 (gN 7))) (gRet (gN 5)) gNx) (gAddS 4 (gN 7))
def envL8 (a : PyData) (n : Nat) (f m : PyData) (S : Int → Bool) (c : Nat) (num lot x : Sl) : En := [.val a, .val (.int n), .val f, .val m, .obj (.set S c), num, lot, x]
theorem in_body (a : PyData) (n : Nat) (f m : PyData) (S : Int → Bool) (c : Nat) (num lot : Sl) (b : Nat) (hb : b < n) (hS : S b = false) (hc : c + 1 < 4096) : inB (envL8 a n f m S c num lot (.val (.int b))) = some (.nx (envL8 a n f m (addS S b) (c + 1) num lot (.val (.int b)))) := by
  have hp : inP (.int b) n = true := by simp [inP]; omega
  have z : gCall m_is_place (Pf.gCons (gN 7) (Pf.gCons (gN 1) Pf.gNil)) (envL8 a n f m S c num lot (.val (.int b))) = some (.ok (.bool true, envL8 a n f m S c num lot (.val (.int b)))) := by
    have z : Pf.gCons (gN 7) (Pf.gCons (gN 1) Pf.gNil) (envL8 a n f m S c num lot (.val (.int b))) = some (.ok ([.int b, .int n], envL8 a n f m S c num lot (.val (.int b)))) := rfl
    show M.bd (Pf.gCons (gN 7) (Pf.gCons (gN 1) Pf.gNil)) (fun ds => gLift (m_is_place ds)) _ = _
    rw [bd_ok z, place_ok (.int b) rfl n, hp]
    rfl
  have t1 : gNotT (gTru (gCall m_is_place (Pf.gCons (gN 7) (Pf.gCons (gN 1) Pf.gNil)))) (envL8 a n f m S c num lot (.val (.int b))) = some (.ok (false, envL8 a n f m S c num lot (.val (.int b)))) := by
    have y : M.bd (gCall m_is_place (Pf.gCons (gN 7) (Pf.gCons (gN 1) Pf.gNil))) (fun d => M.opt (truD d)) (envL8 a n f m S c num lot (.val (.int b))) = some (.ok (true, envL8 a n f m S c num lot (.val (.int b)))) := by
      rw [bd_ok z]
      rfl
    show M.bd (M.bd (gCall m_is_place (Pf.gCons (gN 7) (Pf.gCons (gN 1) Pf.gNil))) fun d => M.opt (truD d)) (fun b => M.ok (!b)) _ = _
    rw [bd_ok y]
    rfl
  have t2 : gHasS 4 (gN 7) (envL8 a n f m S c num lot (.val (.int b))) = some (.ok (false, envL8 a n f m S c num lot (.val (.int b)))) := by
    have y : gHasS 4 (gN 7) (envL8 a n f m S c num lot (.val (.int b))) = some (.ok (S b, envL8 a n f m S c num lot (.val (.int b)))) := rfl
    rw [y, hS]
  have t : gOrT (gNotT (gTru (gCall m_is_place (Pf.gCons (gN 7) (Pf.gCons (gN 1) Pf.gNil))))) (gHasS 4 (gN 7)) (envL8 a n f m S c num lot (.val (.int b))) = some (.ok (false, envL8 a n f m S c num lot (.val (.int b)))) := by
    unfold gOrT
    rw [bd_ok t1]
    exact t2
  have a1 : gIfS (gOrT (gNotT (gTru (gCall m_is_place (Pf.gCons (gN 7) (Pf.gCons (gN 1) Pf.gNil))))) (gHasS 4 (gN 7))) (gRet (gN 5)) gNx (envL8 a n f m S c num lot (.val (.int b))) = some (.nx (envL8 a n f m S c num lot (.val (.int b)))) := by rw [ifS_f t]; rfl
  unfold inB
  rw [seq_nx a1]
  have y : gAddS 4 (gN 7) (envL8 a n f m S c num lot (.val (.int b))) = (if c + 1 < 4096 then some (.nx (envL8 a n f m (addS S b) (cntS S c b) num lot (.val (.int b)))) else none) := rfl
  rw [y, if_pos hc]
  unfold cntS
  rw [hS]
  rfl
theorem in_loop (a : PyData) (n : Nat) (f m : PyData) (num lot : Sl) : ∀ (bs : List Nat) (S : Int → Bool) (c : Nat) (x : Sl), (∀ b ∈ bs, b < n) → bs.Nodup → (∀ b ∈ bs, S (b : Nat) = false) → c + bs.length < 4000 →
    ∃ (S' : Int → Bool) (x' : Sl), (∀ i : Nat, S' i = true → S i = true ∨ i ∈ bs) ∧ loopL (bN 7) inB (nats bs) (envL8 a n f m S c num lot x) = some (.nx (envL8 a n f m S' (c + bs.length) num lot x'))
  | [], S, c, x, _, _, _, _ => ⟨S, x, fun i h => .inl h, rfl⟩
  | b :: bs, S, c, x, h1, h2, h3, h4 => by
    simp only [List.length_cons] at h4
    obtain ⟨n1, n2⟩ := List.nodup_cons.mp h2
    obtain ⟨S', x', q1, e⟩ := in_loop a n f m num lot bs (addS S b) (c + 1) (.val (.int b)) (fun y hy => h1 y (List.mem_cons_of_mem _ hy)) n2 (fun y hy => by
      have ne : ¬ ((y : Int) = (b : Int)) := fun z => n1 (Int.ofNat.inj z ▸ hy)
      simp [addS, h3 y (List.mem_cons_of_mem _ hy), ne]) (by omega)
    refine ⟨S', x', fun i hi => ?_, ?_⟩
    · rcases q1 i hi with z | z
      · simp only [addS, Bool.or_eq_true, decide_eq_true_eq] at z
        rcases z with z | z
        · exact .inl z
        · exact .inr (List.mem_cons.mpr (.inl (Int.ofNat.inj z)))
      · exact .inr (List.mem_cons_of_mem _ z)
    · have step : loopL (bN 7) inB (nats (b :: bs)) (envL8 a n f m S c num lot x) = (match inB (envL8 a n f m S c num lot (.val (.int b))) with
        | some (.nx env2) => loopL (bN 7) inB (nats bs) env2
        | some (.ct env2) => loopL (bN 7) inB (nats bs) env2
        | some (.bk env2) => some (.nx env2)
        | o => o) := rfl
      rw [step, in_body a n f m S c num lot b (h1 b List.mem_cons_self) (h3 b List.mem_cons_self) (by omega)]
      simp only
      rw [e, List.length_cons]
      have : c + 1 + bs.length = c + (bs.length + 1) := by omega
      rw [this]
def outB : S := gSeq (gIfS (gOrT (gTst eqD (gN 5) (gN 3)) (gNotT (gTru (gIsa "tuple" (gN 6))))) (gRet (gN 5)) gNx) (gForT (gN 6) (bN 7) inB)
theorem out_loop (a : PyData) (n : Nat) (f : PyData) (mx : Nat) : ∀ (ls : List (List Nat)) (k : Nat) (S : Int → Bool) (c : Nat) (u v x : Sl), (∀ b ∈ ls.flatten, b < n) → ls.flatten.Nodup → (∀ b ∈ ls.flatten, S (b : Nat) = false) → c + ls.flatten.length < 4000 → k + ls.length ≤ mx →
    ∃ (S' : Int → Bool) (c' : Nat) (u' v' x' : Sl), loopL (bTup 2 (bCons (bN 5) (bCons (bN 6) bNil))) outB (enumK k (lotsD ls)) (envL8 a n f (.int mx) S c u v x) = some (.nx (envL8 a n f (.int mx) S' c' u' v' x'))
  | [], k, S, c, u, v, x, _, _, _, _, _ => ⟨S, c, u, v, x, rfl⟩
  | l :: ls, k, S, c, u, v, x, h1, h2, h3, h4, h5 => by
    simp only [List.flatten_cons, List.length_append, List.length_cons] at h4 h5
    rw [List.flatten_cons] at h1 h2 h3
    obtain ⟨n1, n2, n3⟩ := List.nodup_append.mp h2
    obtain ⟨S1, x1, q1, e1⟩ := in_loop a n f (.int mx) (.val (.int k)) (.val (.tuple (nats l))) l S c x (fun b hb => h1 b (List.mem_append_left _ hb)) n1 (fun b hb => h3 b (List.mem_append_left _ hb)) (by omega)
    have dis : ∀ b ∈ ls.flatten, S1 (b : Nat) = false := fun b hb => by
      cases hz : S1 (b : Nat) with
      | false => rfl
      | true =>
        rcases q1 b hz with z | z
        · rw [h3 b (List.mem_append_right _ hb)] at z; cases z
        · exact absurd rfl (n3 b z b hb)
    obtain ⟨S', c', u', v', x', e⟩ := out_loop a n f mx ls (k + 1) S1 (c + l.length) (.val (.int k)) (.val (.tuple (nats l))) x1 (fun b hb => h1 b (List.mem_append_right _ hb)) n2 dis (by omega) (by omega)
    refine ⟨S', c', u', v', x', ?_⟩
    have t1 : gTst eqD (gN 5) (gN 3) (envL8 a n f (.int mx) S c (.val (.int k)) (.val (.tuple (nats l))) x) = some (.ok (false, envL8 a n f (.int mx) S c (.val (.int k)) (.val (.tuple (nats l))) x)) := by
      show M.bd (gN 5) (fun d => M.bd (gN 3) fun e => M.opt (eqD d e)) _ = _
      rw [bd_ok (n_val (d := .int k) rfl), bd_ok (n_val (d := .int mx) rfl)]
      refine opt_ok ?_
      rw [eqD_int]
      rw [beq_eq_false_iff_ne.mpr (by omega)]
    have t : gOrT (gTst eqD (gN 5) (gN 3)) (gNotT (gTru (gIsa "tuple" (gN 6)))) (envL8 a n f (.int mx) S c (.val (.int k)) (.val (.tuple (nats l))) x) = some (.ok (false, envL8 a n f (.int mx) S c (.val (.int k)) (.val (.tuple (nats l))) x)) := by
      unfold gOrT
      rw [bd_ok t1]
      rfl
    have a1 : gIfS (gOrT (gTst eqD (gN 5) (gN 3)) (gNotT (gTru (gIsa "tuple" (gN 6))))) (gRet (gN 5)) gNx (envL8 a n f (.int mx) S c (.val (.int k)) (.val (.tuple (nats l))) x) = some (.nx (envL8 a n f (.int mx) S c (.val (.int k)) (.val (.tuple (nats l))) x)) := by rw [ifS_f t]; rfl
    have body : outB (envL8 a n f (.int mx) S c (.val (.int k)) (.val (.tuple (nats l))) x) = some (.nx (envL8 a n f (.int mx) S1 (c + l.length) (.val (.int k)) (.val (.tuple (nats l))) x1)) := by
      unfold outB
      rw [seq_nx a1]
      unfold gForT
      rw [gE_ok (n_val (d := .tuple (nats l)) rfl)]
      exact e1
    have step : loopL (bTup 2 (bCons (bN 5) (bCons (bN 6) bNil))) outB (enumK k (lotsD (l :: ls))) (envL8 a n f (.int mx) S c u v x) = (match outB (envL8 a n f (.int mx) S c (.val (.int k)) (.val (.tuple (nats l))) x) with
      | some (.nx env2) => loopL (bTup 2 (bCons (bN 5) (bCons (bN 6) bNil))) outB (enumK (k + 1) (lotsD ls)) env2
      | some (.ct env2) => loopL (bTup 2 (bCons (bN 5) (bCons (bN 6) bNil))) outB (enumK (k + 1) (lotsD ls)) env2
      | some (.bk env2) => some (.nx env2)
      | o => o) := rfl
    rw [step, body]
    exact e
theorem wrong_lot_ok (ls : List (List Nat)) (n fw mx : Nat) (h1 : ∀ b ∈ ls.flatten, b < n) (h2 : ls.flatten.Nodup) (h3 : fw ≤ ls.length) (h4 : ls.length ≤ mx) (h5 : ls.flatten.length < 1000) : m_wrong_lot [.tuple (lotsD ls), .int n, .int fw, .int mx] = some (.ok .none) := by
  obtain ⟨S', c', u', v', x', e⟩ := out_loop (.tuple (lotsD ls)) n (.int fw) mx ls 0 (fun _ => false) 0 .no .no .no h1 h2 (fun _ _ => rfl) (by omega) (by omega)
  have eG : G_wrong_lot = gSeq (gIfS (gNotT (gTru (gIsa "tuple" (gN 0)))) (gRet (gC (.int 0))) gNx) (gSeq (gMkS 4) (gSeq (gForET (gN 0) (bTup 2 (bCons (bN 5) (bCons (bN 6) bNil))) outB) (gSeq (gIfS (gTst (cmpD fun i j => decide (i < j)) (gLenP 0) (gN 2)) (gRet (gLenP 0)) gNx) (gRet (gC .none))))) := rfl
  have eE : envD 8 [.tuple (lotsD ls), .int n, .int fw, .int mx] = [.val (.tuple (lotsD ls)), .val (.int n), .val (.int fw), .val (.int mx), .no, .no, .no, .no] := rfl
  have a1 : gIfS (gNotT (gTru (gIsa "tuple" (gN 0)))) (gRet (gC (.int 0))) gNx [.val (.tuple (lotsD ls)), .val (.int n), .val (.int fw), .val (.int mx), .no, .no, .no, .no] = some (.nx [.val (.tuple (lotsD ls)), .val (.int n), .val (.int fw), .val (.int mx), .no, .no, .no, .no]) := rfl
  have a2 : gMkS 4 [.val (.tuple (lotsD ls)), .val (.int n), .val (.int fw), .val (.int mx), .no, .no, .no, .no] = some (.nx (envL8 (.tuple (lotsD ls)) n (.int fw) (.int mx) (fun _ => false) 0 .no .no .no)) := rfl
  have a3 : gForET (gN 0) (bTup 2 (bCons (bN 5) (bCons (bN 6) bNil))) outB (envL8 (.tuple (lotsD ls)) n (.int fw) (.int mx) (fun _ => false) 0 .no .no .no) = some (.nx (envL8 (.tuple (lotsD ls)) n (.int fw) (.int mx) S' c' u' v' x')) := by
    unfold gForET
    rw [gE_ok (n_val (d := .tuple (lotsD ls)) rfl)]
    simp only
    rw [enum_K]
    exact e
  have t : gTst (cmpD fun i j => decide (i < j)) (gLenP 0) (gN 2) (envL8 (.tuple (lotsD ls)) n (.int fw) (.int mx) S' c' u' v' x') = some (.ok (false, envL8 (.tuple (lotsD ls)) n (.int fw) (.int mx) S' c' u' v' x')) := by
    have y : gTst (cmpD fun i j => decide (i < j)) (gLenP 0) (gN 2) (envL8 (.tuple (lotsD ls)) n (.int fw) (.int mx) S' c' u' v' x') = M.opt ((cmpD fun i j => decide (i < j)) (.int (lotsD ls).length) (.int fw)) (envL8 (.tuple (lotsD ls)) n (.int fw) (.int mx) S' c' u' v' x') := rfl
    rw [y]
    refine opt_ok ?_
    rw [List.length_map]
    simp [cmpD]; omega
  have a4 : gIfS (gTst (cmpD fun i j => decide (i < j)) (gLenP 0) (gN 2)) (gRet (gLenP 0)) gNx (envL8 (.tuple (lotsD ls)) n (.int fw) (.int mx) S' c' u' v' x') = some (.nx (envL8 (.tuple (lotsD ls)) n (.int fw) (.int mx) S' c' u' v' x')) := by rw [ifS_f t]; rfl
  refine fnD_rt (r := envL8 (.tuple (lotsD ls)) n (.int fw) (.int mx) S' c' u' v' x') ?_
  rw [eE, eG, seq_nx a1, seq_nx a2, seq_nx a3, seq_nx a4]
  rfl
end Q
/-! part C14 -/
set_option Elab.async false
set_option linter.all false
set_option maxRecDepth 100000
set_option maxHeartbeats 2000000
namespace Q
open PySem PySem.Spec L2
open Pf
theorem any_nats (b : Nat) : ∀ l : List Nat, ((nats l).any fun y => PyData.eqv y (.int b)) = decide (b ∈ l)
  | [] => by simp [nats]
  | x :: l => by
    have ih := any_nats b l
    have e : ((nats (x :: l)).any fun y => PyData.eqv y (.int b)) = (PyData.eqv (.int (x : Int)) (.int b) || (nats l).any fun y => PyData.eqv y (.int b)) := rfl
    rw [e, ih]
    by_cases h : x = b
    · subst h; simp [PyData.eqv]
    · have h1 : ((x : Int) == (b : Int)) = false := beq_eq_false_iff_ne.mpr (by omega)
      have h2 : ¬ b = x := fun z => h z.symm
      simp [PyData.eqv, h1, h2]
theorem all_nats : ∀ l : List Nat, (nats l).all flatD = true
  | [] => rfl
  | x :: l => by
    show (flatD (.int (x : Int)) && (nats l).all flatD) = true
    rw [all_nats l]; rfl
theorem inD_nats (b : Nat) (l : List Nat) : inD (.int b) (.tuple (nats l)) = some (decide (b ∈ l)) := by
  show (if flatD (.int b) = true ∧ (nats l).all flatD = true then some ((nats l).any fun y => PyData.eqv y (.int b)) else none) = _
  rw [if_pos ⟨rfl, all_nats l⟩, any_nats]
def loB : S := gIfS (gTst inD (gN 1) (gN 3)) (gRet (gN 2)) gNx
theorem lo_body (a : PyData) (b k : Nat) (l : List Nat) : loB [.val a, .val (.int b), .val (.int k), .val (.tuple (nats l))] = if b ∈ l then some (.rt (.int k) [.val a, .val (.int b), .val (.int k), .val (.tuple (nats l))]) else some (.nx [.val a, .val (.int b), .val (.int k), .val (.tuple (nats l))]) := by
  have t : gTst inD (gN 1) (gN 3) [.val a, .val (.int b), .val (.int k), .val (.tuple (nats l))] = some (.ok (decide (b ∈ l), [.val a, .val (.int b), .val (.int k), .val (.tuple (nats l))])) := by
    show M.bd (gN 1) (fun d => M.bd (gN 3) fun e => M.opt (inD d e)) _ = _
    rw [bd_ok (n_val (d := .int b) rfl), bd_ok (n_val (d := .tuple (nats l)) rfl)]
    exact opt_ok (inD_nats b l)
  unfold loB
  by_cases h : b ∈ l
  · rw [decide_eq_true h] at t
    rw [ifS_t t, if_pos h]
    rfl
  · rw [decide_eq_false h] at t
    rw [ifS_f t, if_neg h]
    rfl
theorem lo_loop (a : PyData) (b : Nat) : ∀ (ls : List (List Nat)) (k : Nat) (x y : Sl), b ∈ ls.flatten → ∃ (k' : Nat) (env : En), loopL (bTup 2 (bCons (bN 2) (bCons (bN 3) bNil))) loB (enumK k (lotsD ls)) [.val a, .val (.int b), x, y] = some (.rt (.int k') env)
  | [], k, x, y, h => by simp at h
  | l :: ls, k, x, y, h => by
    have step : loopL (bTup 2 (bCons (bN 2) (bCons (bN 3) bNil))) loB (enumK k (lotsD (l :: ls))) [.val a, .val (.int b), x, y] = (match loB [.val a, .val (.int b), .val (.int k), .val (.tuple (nats l))] with
      | some (.nx env2) => loopL (bTup 2 (bCons (bN 2) (bCons (bN 3) bNil))) loB (enumK (k + 1) (lotsD ls)) env2
      | some (.ct env2) => loopL (bTup 2 (bCons (bN 2) (bCons (bN 3) bNil))) loB (enumK (k + 1) (lotsD ls)) env2
      | some (.bk env2) => some (.nx env2)
      | o => o) := rfl
    rw [step, lo_body]
    by_cases hb : b ∈ l
    · rw [if_pos hb]
      exact ⟨k, _, rfl⟩
    · rw [if_neg hb]
      simp only
      rw [List.flatten_cons, List.mem_append] at h
      exact lo_loop a b ls (k + 1) _ _ (h.resolve_left hb)
theorem lot_of_ok (ls : List (List Nat)) (b : Nat) (h : b ∈ ls.flatten) : ∃ k : Nat, m_lot_of [.tuple (lotsD ls), .int b] = some (.ok (.int k)) := by
  obtain ⟨k, env, e⟩ := lo_loop (.tuple (lotsD ls)) b ls 0 .no .no h
  refine ⟨k, fnD_rt (r := env) ?_⟩
  have eG : G_lot_of = gSeq (gForET (gN 0) (bTup 2 (bCons (bN 2) (bCons (bN 3) bNil))) loB) (gRet (gC .none)) := rfl
  have eE : envD 4 [.tuple (lotsD ls), .int b] = [.val (.tuple (lotsD ls)), .val (.int b), .no, .no] := rfl
  have a1 : gForET (gN 0) (bTup 2 (bCons (bN 2) (bCons (bN 3) bNil))) loB [.val (.tuple (lotsD ls)), .val (.int b), .no, .no] = some (.rt (.int k) env) := by
    unfold gForET
    rw [gE_ok (n_val (d := .tuple (lotsD ls)) rfl)]
    simp only
    rw [enum_K]
    exact e
  rw [eE, eG]
  unfold gSeq
  rw [a1]
def mbB : S := gIfS (gTst isD (gCall m_lot_of (Pf.gCons (gN 0) (Pf.gCons (gN 2) Pf.gNil))) (gC .none)) (gRet (gN 2)) gNx
theorem mb_body (ls : List (List Nat)) (n : PyData) (b : Nat) (h : b ∈ ls.flatten) : mbB [.val (.tuple (lotsD ls)), .val n, .val (.int b)] = some (.nx [.val (.tuple (lotsD ls)), .val n, .val (.int b)]) := by
  obtain ⟨k, e⟩ := lot_of_ok ls b h
  have z : gCall m_lot_of (Pf.gCons (gN 0) (Pf.gCons (gN 2) Pf.gNil)) [.val (.tuple (lotsD ls)), .val n, .val (.int b)] = some (.ok (.int k, [.val (.tuple (lotsD ls)), .val n, .val (.int b)])) := by
    have z : Pf.gCons (gN 0) (Pf.gCons (gN 2) Pf.gNil) [.val (.tuple (lotsD ls)), .val n, .val (.int b)] = some (.ok ([.tuple (lotsD ls), .int b], [.val (.tuple (lotsD ls)), .val n, .val (.int b)])) := rfl
    show M.bd (Pf.gCons (gN 0) (Pf.gCons (gN 2) Pf.gNil)) (fun ds => gLift (m_lot_of ds)) _ = _
    rw [bd_ok z, e]
    rfl
  have t : gTst isD (gCall m_lot_of (Pf.gCons (gN 0) (Pf.gCons (gN 2) Pf.gNil))) (gC .none) [.val (.tuple (lotsD ls)), .val n, .val (.int b)] = some (.ok (false, [.val (.tuple (lotsD ls)), .val n, .val (.int b)])) := by
    show M.bd (gCall m_lot_of (Pf.gCons (gN 0) (Pf.gCons (gN 2) Pf.gNil))) (fun d => M.bd (gC .none) fun e => M.opt (isD d e)) _ = _
    rw [bd_ok z]
    rfl
  unfold mbB
  rw [ifS_f t]
  rfl
theorem mb_loop (ls : List (List Nat)) (n : PyData) : ∀ (bs : List Nat) (x : Sl), (∀ b ∈ bs, b ∈ ls.flatten) → ∃ x', loopL (bN 2) mbB (nats bs) [.val (.tuple (lotsD ls)), .val n, x] = some (.nx [.val (.tuple (lotsD ls)), .val n, x'])
  | [], x, _ => ⟨x, rfl⟩
  | b :: bs, x, h => by
    obtain ⟨x', e⟩ := mb_loop ls n bs (.val (.int b)) (fun y hy => h y (List.mem_cons_of_mem _ hy))
    refine ⟨x', ?_⟩
    have step : loopL (bN 2) mbB (nats (b :: bs)) [.val (.tuple (lotsD ls)), .val n, x] = (match mbB [.val (.tuple (lotsD ls)), .val n, .val (.int b)] with
      | some (.nx env2) => loopL (bN 2) mbB (nats bs) env2
      | some (.ct env2) => loopL (bN 2) mbB (nats bs) env2
      | some (.bk env2) => some (.nx env2)
      | o => o) := rfl
    rw [step, mb_body ls n b (h b List.mem_cons_self)]
    exact e
theorem missing_book_ok (ls : List (List Nat)) (n : Nat) (hn : n < 1000) (h : ∀ b, b < n → b ∈ ls.flatten) : m_missing_book [.tuple (lotsD ls), .int n] = some (.ok .none) := by
  obtain ⟨x', e⟩ := mb_loop ls (.int n) (List.range n) .no (fun b hb => h b (List.mem_range.mp hb))
  have eG : G_missing_book = gSeq (gForR1 (gN 1) (bN 2) mbB) (gRet (gC .none)) := rfl
  have eE : envD 3 [.tuple (lotsD ls), .int n] = [.val (.tuple (lotsD ls)), .val (.int n), .no] := rfl
  have a1 : gForR1 (gN 1) (bN 2) mbB [.val (.tuple (lotsD ls)), .val (.int n), .no] = some (.nx [.val (.tuple (lotsD ls)), .val (.int n), x']) := by
    unfold gForR1
    rw [gE_ok (n_val (d := .int n) rfl)]
    simp only
    rw [if_pos (by omega), Int.toNat_natCast, rng_nats]
    exact e
  refine fnD_rt (r := [.val (.tuple (lotsD ls)), .val (.int n), x']) ?_
  rw [eE, eG, seq_nx a1]
  rfl
theorem check_shelf_ok (ps : List (Option Nat)) (ls : List (List Nat)) (hs : ShelfOk ps ls) : m_check_shelf [shelfD ps ls] = some (.ok .none) := by
  have hp1 := hs.p1
  have hp2 := hs.p2
  have w1 := wrong_price_ok ps hs.pr hs.p1 hs.p2
  have hlen := hs.perm.length_eq
  rw [List.length_range] at hlen
  have w2 := wrong_lot_ok ls ps.length 1 5 (fun b hb => List.mem_range.mp (hs.perm.mem_iff.mp hb)) (hs.perm.nodup_iff.mpr List.nodup_range) hs.l1 hs.l2 (by omega)
  have w3 := missing_book_ok ls ps.length (by omega) (fun b hb => hs.perm.mem_iff.mpr (List.mem_range.mpr hb))
  have lp : ((pricesD ps).length : Int) = (ps.length : Int) := by rw [List.length_map]
  have eE : envD 4 [shelfD ps ls] = [.val (shelfD ps ls), .no, .no, .no] := rfl
  have eG : G_check_shelf = gSeq (gIfS (gOrT (gNotT (gTru (gIsa "tuple" (gN 0)))) (gTst neD (gLenP 0) (gC (.int 2)))) (gRaise "BadShelf" ["part", "number"] (Pf.gCons (gUn negD (gC (.int 1))) (Pf.gCons (gC (.int 0)) Pf.gNil))) gNx) (gSeq (gAsg (bTup 2 (bCons (bN 1) (bCons (bN 2) bNil))) (gN 0)) (gSeq (gSet 3 (gCall m_wrong_price (Pf.gCons (gN 1) Pf.gNil))) (gSeq (gIfS (gTst isnD (gN 3) (gC .none)) (gRaise "BadShelf" ["part", "number"] (Pf.gCons (gC (.int 0)) (Pf.gCons (gN 3) Pf.gNil))) gNx) (gSeq (gSet 3 (gCall m_wrong_lot (Pf.gCons (gN 2) (Pf.gCons (gLenP 1) (Pf.gCons (gC (.int 1)) (Pf.gCons (gC (.int 5)) Pf.gNil)))))) (gSeq (gIfS (gTst isnD (gN 3) (gC .none)) (gRaise "BadShelf" ["part", "number"] (Pf.gCons (gC (.int 1)) (Pf.gCons (gN 3) Pf.gNil))) gNx) (gSeq (gSet 3 (gCall m_missing_book (Pf.gCons (gN 2) (Pf.gCons (gLenP 1) Pf.gNil)))) (gIfS (gTst isnD (gN 3) (gC .none)) (gRaise "BadShelf" ["part", "number"] (Pf.gCons (gC (.int 2)) (Pf.gCons (gN 3) Pf.gNil))) gNx))))))) := rfl
  have b0 : (gIfS (gOrT (gNotT (gTru (gIsa "tuple" (gN 0)))) (gTst neD (gLenP 0) (gC (.int 2)))) (gRaise "BadShelf" ["part", "number"] (Pf.gCons (gUn negD (gC (.int 1))) (Pf.gCons (gC (.int 0)) Pf.gNil))) gNx) [.val (shelfD ps ls), .no, .no, .no] = some (.nx [.val (shelfD ps ls), .no, .no, .no]) := rfl
  have b1 : gAsg (bTup 2 (bCons (bN 1) (bCons (bN 2) bNil))) (gN 0) [.val (shelfD ps ls), .no, .no, .no] = some (.nx [.val (shelfD ps ls), .val (.tuple (pricesD ps)), .val (.tuple (lotsD ls)), .no]) := rfl
  have c0 : (gIfS (gTst isnD (gN 3) (gC .none)) (gRaise "BadShelf" ["part", "number"] (Pf.gCons (gC (.int 0)) (Pf.gCons (gN 3) Pf.gNil))) gNx) [.val (shelfD ps ls), .val (.tuple (pricesD ps)), .val (.tuple (lotsD ls)), .val .none] = some (.nx [.val (shelfD ps ls), .val (.tuple (pricesD ps)), .val (.tuple (lotsD ls)), .val .none]) := rfl
  have c1 : (gIfS (gTst isnD (gN 3) (gC .none)) (gRaise "BadShelf" ["part", "number"] (Pf.gCons (gC (.int 1)) (Pf.gCons (gN 3) Pf.gNil))) gNx) [.val (shelfD ps ls), .val (.tuple (pricesD ps)), .val (.tuple (lotsD ls)), .val .none] = some (.nx [.val (shelfD ps ls), .val (.tuple (pricesD ps)), .val (.tuple (lotsD ls)), .val .none]) := rfl
  have c2 : (gIfS (gTst isnD (gN 3) (gC .none)) (gRaise "BadShelf" ["part", "number"] (Pf.gCons (gC (.int 2)) (Pf.gCons (gN 3) Pf.gNil))) gNx) [.val (shelfD ps ls), .val (.tuple (pricesD ps)), .val (.tuple (lotsD ls)), .val .none] = some (.nx [.val (shelfD ps ls), .val (.tuple (pricesD ps)), .val (.tuple (lotsD ls)), .val .none]) := rfl
  have d1 : gSet 3 (gCall m_wrong_price (Pf.gCons (gN 1) Pf.gNil)) [.val (shelfD ps ls), .val (.tuple (pricesD ps)), .val (.tuple (lotsD ls)), .no] = some (.nx [.val (shelfD ps ls), .val (.tuple (pricesD ps)), .val (.tuple (lotsD ls)), .val .none]) := by
    have z : (Pf.gCons (gN 1) Pf.gNil) [.val (shelfD ps ls), .val (.tuple (pricesD ps)), .val (.tuple (lotsD ls)), .no] = some (.ok ([.tuple (pricesD ps)], [.val (shelfD ps ls), .val (.tuple (pricesD ps)), .val (.tuple (lotsD ls)), .no])) := rfl
    have y : gCall m_wrong_price (Pf.gCons (gN 1) Pf.gNil) [.val (shelfD ps ls), .val (.tuple (pricesD ps)), .val (.tuple (lotsD ls)), .no] = some (.ok (.none, [.val (shelfD ps ls), .val (.tuple (pricesD ps)), .val (.tuple (lotsD ls)), .no])) := by
      show M.bd (Pf.gCons (gN 1) Pf.gNil) (fun ds => gLift (m_wrong_price ds)) _ = _
      rw [bd_ok z]
      show gLift (m_wrong_price [.tuple (pricesD ps)]) _ = _
      rw [w1]
      rfl
    show gE _ _ _ = _
    rw [gE_ok y]
    rfl
  have d2 : gSet 3 (gCall m_wrong_lot (Pf.gCons (gN 2) (Pf.gCons (gLenP 1) (Pf.gCons (gC (.int 1)) (Pf.gCons (gC (.int 5)) Pf.gNil))))) [.val (shelfD ps ls), .val (.tuple (pricesD ps)), .val (.tuple (lotsD ls)), .val .none] = some (.nx [.val (shelfD ps ls), .val (.tuple (pricesD ps)), .val (.tuple (lotsD ls)), .val .none]) := by
    have z : (Pf.gCons (gN 2) (Pf.gCons (gLenP 1) (Pf.gCons (gC (.int 1)) (Pf.gCons (gC (.int 5)) Pf.gNil)))) [.val (shelfD ps ls), .val (.tuple (pricesD ps)), .val (.tuple (lotsD ls)), .val .none] = some (.ok ([.tuple (lotsD ls), .int (pricesD ps).length, .int 1, .int 5], [.val (shelfD ps ls), .val (.tuple (pricesD ps)), .val (.tuple (lotsD ls)), .val .none])) := rfl
    have y : gCall m_wrong_lot (Pf.gCons (gN 2) (Pf.gCons (gLenP 1) (Pf.gCons (gC (.int 1)) (Pf.gCons (gC (.int 5)) Pf.gNil)))) [.val (shelfD ps ls), .val (.tuple (pricesD ps)), .val (.tuple (lotsD ls)), .val .none] = some (.ok (.none, [.val (shelfD ps ls), .val (.tuple (pricesD ps)), .val (.tuple (lotsD ls)), .val .none])) := by
      show M.bd (Pf.gCons (gN 2) (Pf.gCons (gLenP 1) (Pf.gCons (gC (.int 1)) (Pf.gCons (gC (.int 5)) Pf.gNil)))) (fun ds => gLift (m_wrong_lot ds)) _ = _
      rw [bd_ok z]
      show gLift (m_wrong_lot [.tuple (lotsD ls), .int (pricesD ps).length, .int 1, .int 5]) _ = _
      rw [lp, show m_wrong_lot [.tuple (lotsD ls), .int ps.length, .int 1, .int 5] = _ from w2]
      rfl
    show gE _ _ _ = _
    rw [gE_ok y]
    rfl
  have d3 : gSet 3 (gCall m_missing_book (Pf.gCons (gN 2) (Pf.gCons (gLenP 1) Pf.gNil))) [.val (shelfD ps ls), .val (.tuple (pricesD ps)), .val (.tuple (lotsD ls)), .val .none] = some (.nx [.val (shelfD ps ls), .val (.tuple (pricesD ps)), .val (.tuple (lotsD ls)), .val .none]) := by
    have z : (Pf.gCons (gN 2) (Pf.gCons (gLenP 1) Pf.gNil)) [.val (shelfD ps ls), .val (.tuple (pricesD ps)), .val (.tuple (lotsD ls)), .val .none] = some (.ok ([.tuple (lotsD ls), .int (pricesD ps).length], [.val (shelfD ps ls), .val (.tuple (pricesD ps)), .val (.tuple (lotsD ls)), .val .none])) := rfl
    have y : gCall m_missing_book (Pf.gCons (gN 2) (Pf.gCons (gLenP 1) Pf.gNil)) [.val (shelfD ps ls), .val (.tuple (pricesD ps)), .val (.tuple (lotsD ls)), .val .none] = some (.ok (.none, [.val (shelfD ps ls), .val (.tuple (pricesD ps)), .val (.tuple (lotsD ls)), .val .none])) := by
      show M.bd (Pf.gCons (gN 2) (Pf.gCons (gLenP 1) Pf.gNil)) (fun ds => gLift (m_missing_book ds)) _ = _
      rw [bd_ok z]
      show gLift (m_missing_book [.tuple (lotsD ls), .int (pricesD ps).length]) _ = _
      rw [lp, w3]
      rfl
    show gE _ _ _ = _
    rw [gE_ok y]
    rfl
  refine fnD_nx (r := [.val (shelfD ps ls), .val (.tuple (pricesD ps)), .val (.tuple (lotsD ls)), .val .none]) ?_
  rw [eE, eG, seq_nx b0, seq_nx b1, seq_nx d1, seq_nx c0, seq_nx d2, seq_nx c1, seq_nx d3, c2]
end Q
/-! part C15 -/
set_option Elab.async false
set_option linter.all false
set_option maxRecDepth 100000
set_option maxHeartbeats 2000000
namespace Q
open PySem PySem.Spec L2
open Pf
theorem set_ok {env env1 : En} {i : Nat} {ga : M PyData} {d : PyData} (h : ga env = some (.ok (d, env1))) : gSet i ga env = some (.nx (env1.set i (.val d))) := gE_ok h
theorem setO_ok {env env1 : En} {i : Nat} {ga : M (List PyData)} {ds : List PyData} (h : ga env = some (.ok (ds, env1))) : gSetO i ga env = some (.nx (env1.set i (.own ds))) := gE_ok h
theorem call_ok {α : Type} {env env1 : En} {m : List PyData → Rf α} {gl : M (List PyData)} {ds : List PyData} {r : α} (h : gl env = some (.ok (ds, env1))) (hm : m ds = some (.ok r)) : gCall m gl env = some (.ok (r, env1)) := by
  show M.bd gl (fun ds => gLift (m ds)) env = _
  rw [bd_ok h, hm]
  rfl
theorem call_er {α : Type} {env env1 : En} {m : List PyData → Rf α} {gl : M (List PyData)} {ds : List PyData} {x : Xc} (h : gl env = some (.ok (ds, env1))) (hm : m ds = some (.error x)) : gCall m gl env = some (.error (x, env1)) := by
  show M.bd gl (fun ds => gLift (m ds)) env = _
  rw [bd_ok h, hm]
  rfl
theorem cons_ok {env env1 env2 : En} {ga : M PyData} {gl : M (List PyData)} {d : PyData} {ds : List PyData} (h : ga env = some (.ok (d, env1))) (h2 : gl env1 = some (.ok (ds, env2))) : Pf.gCons ga gl env = some (.ok (d :: ds, env2)) := by
  show M.bd ga (fun d => M.bd gl fun ds => M.ok (d :: ds)) env = _
  rw [bd_ok h, bd_ok h2]
  rfl
theorem bin_ok {env env1 env2 : En} {f : PyData → PyData → Option PyData} {ga gb : M PyData} {d e r : PyData} (h : ga env = some (.ok (d, env1))) (h2 : gb env1 = some (.ok (e, env2))) (h3 : f d e = some r) : gBin f ga gb env = some (.ok (r, env2)) := by
  show M.bd ga (fun d => M.bd gb fun e => M.opt (f d e)) env = _
  rw [bd_ok h, bd_ok h2]
  exact opt_ok h3
theorem tst_ok {env env1 env2 : En} {f : PyData → PyData → Option Bool} {ga gb : M PyData} {d e : PyData} {r : Bool} (h : ga env = some (.ok (d, env1))) (h2 : gb env1 = some (.ok (e, env2))) (h3 : f d e = some r) : gTst f ga gb env = some (.ok (r, env2)) := by
  show M.bd ga (fun d => M.bd gb fun e => M.opt (f d e)) env = _
  rw [bd_ok h, bd_ok h2]
  exact opt_ok h3
theorem forR1_ok {env env1 : En} {ga : M PyData} {b : PyData → En → Option En} {g : S} {n : Nat} (hga : ga env = some (.ok (.int n, env1))) (hn : n < 1000000) : gForR1 ga b g env = loopL b g (nats (List.range' 0 n)) env1 := by
  unfold gForR1
  rw [gE_ok hga]
  simp only
  rw [if_pos (by omega), Int.toNat_natCast, rng_nats, List.range_eq_range']
theorem nil_ok {env : En} : Pf.gNil env = some (.ok ([], env)) := rfl
theorem eqv_flat (x : PyData) (h : flatD x = true) : PyData.eqv x x = true := by
  cases x with
  | none => simp [PyData.eqv]
  | bool b => simp [PyData.eqv]
  | int i => simp [PyData.eqv]
  | str y => simp [PyData.eqv]
  | _ => cases h
theorem eqvAll_refl : ∀ (xs : List PyData), (∀ x ∈ xs, PyData.eqv x x = true) → PyData.eqvAll xs xs = true
  | [], _ => by simp [PyData.eqvAll]
  | x :: r, h => by simp [PyData.eqvAll, h x List.mem_cons_self, eqvAll_refl r fun y hy => h y (List.mem_cons_of_mem _ hy)]
theorem seq_to {g h : S} {env env1 : En} {o : Option Out} (h1 : g env = some (.nx env1)) (h2 : h env1 = o) : gSeq g h env = o := by rw [seq_nx h1]; exact h2
end Q
/-! part C16 -/
set_option Elab.async false
set_option linter.all false
set_option maxRecDepth 100000
set_option maxHeartbeats 2000000
namespace Q
open PySem PySem.Spec L2
open Pf
theorem loopC_fm {α : Type} (toD : α → PyData) (t : α → Bool) (e : α → PyData) {vs : List Nat} {b : PyData → En → Option En} {gt : M Bool} {ge : M PyData} {env0 : En} : ∀ (xs : List α) (acc : List PyData),
    (∀ x ∈ xs, ∃ env1 env2, b (toD x) env0 = some env1 ∧ gt env1 = some (.ok (t x, env2)) ∧ (t x = false → wipeE vs env2 = env0) ∧ (t x = true → ∃ env3, ge env2 = some (.ok (e x, env3)) ∧ wipeE vs env3 = env0)) →
    acc.length + xs.length < 16777216 → loopC vs b gt ge (xs.map toD) acc env0 = some (acc ++ (xs.filter t).map e, env0)
  | [], acc, _, _ => by simp [loopC]
  | x :: xs, acc, h, hl => by
    obtain ⟨env1, env2, h1, h2, h3, h4⟩ := h x List.mem_cons_self
    have hr : ∀ y ∈ xs, _ := fun y hy => h y (List.mem_cons_of_mem _ hy)
    simp only [List.length_cons] at hl
    rw [List.map_cons]
    unfold loopC
    rw [h1]
    simp only
    rw [h2]
    cases ht : t x with
    | false =>
      simp only
      rw [h3 ht, loopC_fm toD t e xs acc hr (by omega), List.filter_cons_of_neg (by simp [ht])]
    | true =>
      obtain ⟨env3, h5, h6⟩ := h4 ht
      simp only [h5]
      rw [if_pos (by omega), h6, loopC_fm toD t e xs (acc ++ [e x]) hr (by simp; omega), List.filter_cons_of_pos (by simp [ht])]
      simp
theorem gLc_fm {α : Type} (toD : α → PyData) (t : α → Bool) (e : α → PyData) {vs : List Nat} {b : PyData → En → Option En} {gt : M Bool} {ge : M PyData} {env env0 env2 : En} (xs : List α) (hw : wipeE vs env = env0)
    (h : ∀ x ∈ xs, ∃ env1 env2, b (toD x) env0 = some env1 ∧ gt env1 = some (.ok (t x, env2)) ∧ (t x = false → wipeE vs env2 = env0) ∧ (t x = true → ∃ env3, ge env2 = some (.ok (e x, env3)) ∧ wipeE vs env3 = env0))
    (hl : xs.length < 16777216) (hb : backE env vs env0 = env2) : gLc vs b gt ge (xs.map toD) env = some (.ok ((xs.filter t).map e, env2)) := by
  unfold gLc
  rw [hw, loopC_fm toD t e xs [] h (by simpa using hl)]
  simp only [List.nil_append]
  rw [hb]
section
variable {α : Type} (toD : α → PyData) (t : α → Bool) (e : α → PyData) {vs : List Nat} {b : PyData → En → Option En} {gt : M Bool} {ge ga : M PyData} {gi : M (List PyData)} {env env0 env1 env2 : En} {j : Nat} (xs : List α)
theorem lcT_fm (hg : ga env = some (.ok (.tuple (xs.map toD), env1))) (hw : wipeE vs env1 = env0)
    (h : ∀ x ∈ xs, ∃ env1 env2, bN j (toD x) env0 = some env1 ∧ gt env1 = some (.ok (t x, env2)) ∧ (t x = false → wipeE vs env2 = env0) ∧ (t x = true → ∃ env3, ge env2 = some (.ok (e x, env3)) ∧ wipeE vs env3 = env0))
    (hl : xs.length < 16777216) (hb : backE env1 vs env0 = env2) : gLcT vs j gt ge ga env = some (.ok ((xs.filter t).map e, env2)) := by
  show M.bd ga (fun d => M.bd (M.opt (tupO d)) fun ds => gLc vs (bN j) gt ge ds) env = _
  rw [bd_ok hg]
  exact gLc_fm toD t e xs hw h hl hb
theorem lcR_fm {n : Nat} (t : Nat → Bool) (e : Nat → PyData) (hg : ga env = some (.ok (.int n, env1))) (hn : n < 1000000) (hw : wipeE vs env1 = env0)
    (h : ∀ x, x < n → ∃ env1 env2, bN j (.int (x : Nat)) env0 = some env1 ∧ gt env1 = some (.ok (t x, env2)) ∧ (t x = false → wipeE vs env2 = env0) ∧ (t x = true → ∃ env3, ge env2 = some (.ok (e x, env3)) ∧ wipeE vs env3 = env0))
    (hb : backE env1 vs env0 = env2) : gLcR vs j gt ge ga env = some (.ok (((List.range n).filter t).map e, env2)) := by
  have r : rngO (.int (n : Int)) = some (nats (List.range n)) := by
    unfold rngO
    simp only
    rw [if_pos (by omega), Int.toNat_natCast, rng_nats]
  show M.bd ga (fun d => M.bd (M.opt (rngO d)) fun ds => gLc vs (bN j) gt ge ds) env = _
  rw [bd_ok hg, bd_ok (opt_ok r)]
  exact gLc_fm (fun (x : Nat) => PyData.int (x : Int)) t e (List.range n) hw (fun x hx => h x (List.mem_range.mp hx)) (by rw [List.length_range]; omega) hb
end
theorem back_no {env : En} {j : Nat} (h : env[j]? = some .no) : backE env [j] env = env := by
  show env.set j (match env[j]? with
    | some (.val d) => .val d
    | _ => .no) = env
  rw [h]
  apply List.ext_getElem?
  intro i
  by_cases e : i = j
  · subst e
    rw [List.getElem?_set_self (List.getElem?_eq_some_iff.mp h).1, h]
  · rw [List.getElem?_set_ne (Ne.symm e)]
theorem wipe_no {env : En} {j : Nat} (h : env[j]? = some .no) : wipeE [j] env = env := by
  have := back_no h
  show env.set j .no = env
  unfold backE at this
  rw [h] at this
  exact this
section
variable {α : Type} (toD : α → PyData) (t : α → Bool) (e : α → PyData) {gt : M Bool} {ge ga : M PyData} {gi : M (List PyData)} {env env1 : En} {j : Nat} (xs : List α)
theorem lcT1 (hg : ga env = some (.ok (.tuple (xs.map toD), env1))) (hj : env1[j]? = some .no) (ht : ∀ x ∈ xs, gt (env1.set j (.val (toD x))) = some (.ok (t x, env1.set j (.val (toD x))))) (he : ∀ x ∈ xs, t x = true → ge (env1.set j (.val (toD x))) = some (.ok (e x, env1.set j (.val (toD x))))) (hl : xs.length < 16777216) :
    gLcT [j] j gt ge ga env = some (.ok ((xs.filter t).map e, env1)) :=
  lcT_fm toD t e xs hg (wipe_no hj) (fun x hx => ⟨_, _, rfl, ht x hx, fun _ => set_back hj, fun h => ⟨_, he x hx h, set_back hj⟩⟩) hl (back_no hj)
end
end Q
/-! part C17 -/
set_option Elab.async false
set_option linter.all false
set_option maxRecDepth 100000
set_option maxHeartbeats 2000000
namespace Q
open PySem PySem.Spec L2
open Pf
theorem ret_ok {env env1 : En} {ga : M PyData} {d : PyData} (h : ga env = some (.ok (d, env1))) : gRet ga env = some (.rt d env1) := gE_ok h
def fxB (ps : List (Option Nat)) (b : Nat) : Bool := (ps[b]?.join).isNone
theorem isD_price (p : Option Nat) : isD (priceD p) .none = some p.isNone := by cases p <;> rfl
abbrev natD (x : Nat) : PyData := .int (x : Int)
end Q
/-! part C18 -/
set_option Elab.async false
set_option linter.all false
set_option maxRecDepth 100000
set_option maxHeartbeats 2000000
namespace Q
open PySem PySem.Spec L2
open Pf
end Q
/-! part C19 -/
set_option Elab.async false
set_option linter.all false
set_option maxRecDepth 100000
set_option maxHeartbeats 2000000
namespace Q
open PySem PySem.Spec L2
open Pf
theorem tru_ok {ga : M PyData} {env env1 : En} {d : PyData} {k : Bool} (h : ga env = some (.ok (d, env1))) (h2 : truD d = some k) : gTru ga env = some (.ok (k, env1)) := (bd_ok h).trans (opt_ok h2)
theorem fz_ok {gl : M (List PyData)} {env env1 : En} {ds : List PyData} (h : gl env = some (.ok (ds, env1))) : gFz gl env = some (.ok (.list ds, env1)) := (bd_ok h).trans rfl
theorem andT_f {ga gb : M Bool} {env env1 : En} (h : ga env = some (.ok (false, env1))) : gAndT ga gb env = some (.ok (false, env1)) := (bd_ok h).trans rfl
theorem andT_t {ga gb : M Bool} {env env1 : En} (h : ga env = some (.ok (true, env1))) : gAndT ga gb env = gb env1 := (bd_ok h).trans rfl
theorem orT_t {ga gb : M Bool} {env env1 : En} (h : ga env = some (.ok (true, env1))) : gOrT ga gb env = some (.ok (true, env1)) := (bd_ok h).trans rfl
theorem orT_f {ga gb : M Bool} {env env1 : En} (h : ga env = some (.ok (false, env1))) : gOrT ga gb env = gb env1 := (bd_ok h).trans rfl
theorem notT_ok {ga : M Bool} {env env1 : En} {k : Bool} (h : ga env = some (.ok (k, env1))) : gNotT ga env = some (.ok (!k, env1)) := (bd_ok h).trans rfl
end Q
/-! part C20 -/
set_option Elab.async false
set_option linter.all false
set_option maxRecDepth 100000
set_option maxHeartbeats 2000000
namespace Q
open PySem PySem.Spec L2
open Pf
theorem filter_yes {α : Type} (xs : List α) : xs.filter (fun _ => true) = xs := List.filter_eq_self.mpr fun _ _ => rfl
end Q
/-! part C21 -/
set_option Elab.async false
set_option linter.all false
set_option maxRecDepth 100000
set_option maxHeartbeats 2000000
namespace Q
open PySem PySem.Spec L2
open Pf
structure GoalOk (ps : List (Option Nat)) (ls goal : List (List Nat)) : Prop where
  len : goal.length = ls.length
  perm : goal.flatten.Perm (List.range ps.length)
section
variable {ps : List (Option Nat)} {ls goal : List (List Nat)}
theorem GoalOk.lt (h : GoalOk ps ls goal) {w : List Nat} (hw : w ∈ goal) {b : Nat} (hb : b ∈ w) : b < ps.length :=
  List.mem_range.mp (h.perm.mem_iff.mp (List.mem_flatten.mpr ⟨w, hw, hb⟩))
end
end Q
/-! part C22 -/
set_option Elab.async false
set_option linter.all false
set_option maxRecDepth 100000
set_option maxHeartbeats 2000000
namespace Q
open PySem PySem.Spec L2
open Pf
theorem ixP_lst {env env1 : En} {i : Nat} {ds ds1 : List PyData} {x : PyData} {gb : M PyData} {k : Nat} (h0 : env[i]? = some (.val (.list ds))) (h1 : gb env = some (.ok (.int k, env1))) (h2 : env1[i]? = some (.val (.list ds1))) (hx : ds1[k]? = some x) : gIxP i gb env = some (.ok (x, env1)) := by
  unfold gIxP
  rw [bd_ok (peek_lst h0), bd_ok h1, bd_ok (peek_lst h2)]
  exact opt_ok (atI_nat hx)
end Q
/-! part C23 -/
set_option Elab.async false
set_option linter.all false
set_option maxRecDepth 100000
set_option maxHeartbeats 2000000
namespace Q
open PySem PySem.Spec L2
open Pf
theorem ex_ok {α : Type} {env env1 : En} {ga : M α} {d : α} (h : ga env = some (.ok (d, env1))) : gEx ga env = some (.nx env1) := (gE_ok h).trans rfl
section
variable {ps : List (Option Nat)} {ls goal : List (List Nat)}
def DsOk (ps : List (Option Nat)) (n : Nat) (ds : List Dd) : Prop := ∀ d ∈ ds, d.1 < ps.length ∧ fxB ps d.1 = false ∧ d.2.1 < n
theorem DsOk.tail {n : Nat} {d : Dd} {ds : List Dd} (h : DsOk ps n (d :: ds)) : DsOk ps n ds := fun x hx => h x (List.mem_cons_of_mem _ hx)
end
end Q
/-! part Bm -/
set_option Elab.async false
set_option linter.all false
namespace Q
end Q
/-! part D17a -/
set_option Elab.async false
set_option linter.all false
namespace Q
end Q
/-! part D17b -/
set_option Elab.async false
set_option linter.all false
set_option maxRecDepth 100000
set_option maxHeartbeats 4000000
namespace Q
open PySem PySem.Spec L2
open Pf
end Q
/-! part C24 -/
set_option Elab.async false
set_option linter.all false
set_option maxRecDepth 100000
set_option maxHeartbeats 4000000
namespace Q
open PySem PySem.Spec L2
open Pf
def nob (s : Sl) : Bool := match s with
  | .obj _ => false
  | _ => true
theorem noObj_all (env : En) : noObj env = env.all nob := by
  unfold noObj
  congr 1
def pl (x : Sl) : Prop := x = .no ∨ ∃ d, x = .val d
theorem draw7 {env : En} {s : Stt} {n : Nat} {gl : M (List PyData)} (hn : 0 < n) (hb : n < 1073741824) (h0 : env[1]? = some (.own (enc s))) (h1 : gl env = some (.ok ([natD n], env))) : ∃ (d : Nat) (s' : Stt), d < n ∧ gCallB 1 gl m__law_drawn env = some (.ok (natD d, env.set 1 (.own (enc s')))) := by
  obtain ⟨d, s', hd, e⟩ := drawn_ok s n hn hb
  exact ⟨d, s', hd, callB_own h0 h1 h0 e⟩
theorem set_set_no {env : En} {j : Nat} {v : Sl} : wipeE [j] (env.set j v) = env.set j .no := by
  show (env.set j v).set j .no = _
  rw [List.set_set]
theorem back_pl {env : En} {j : Nat} {x : Sl} (h : env[j]? = some x) (hx : pl x) : backE env [j] (env.set j .no) = env := by
  have hl : j < env.length := (List.getElem?_eq_some_iff.mp h).1
  show (env.set j .no).set j (match env[j]? with
    | some (.val d) => .val d
    | _ => .no) = env
  rw [List.set_set, h]
  have : ∀ y : Sl, y = x → env.set j y = env := fun y e => by
    subst e
    apply List.ext_getElem?
    intro i
    by_cases c : i = j
    · subst c; rw [List.getElem?_set_self hl, h]
    · rw [List.getElem?_set_ne (Ne.symm c)]
  rcases hx with rfl | ⟨d, rfl⟩ <;> exact this _ rfl
theorem lcR1p {n j : Nat} {x : Sl} {gt : M Bool} {ge ga : M PyData} {env env1 : En} (t : Nat → Bool) (e : Nat → PyData) (hg : ga env = some (.ok (.int n, env1))) (hn : n < 1000000) (hj : env1[j]? = some x) (hx : pl x) (ht : ∀ x, x < n → gt (env1.set j (.val (natD x))) = some (.ok (t x, env1.set j (.val (natD x))))) (he : ∀ x, x < n → t x = true → ge (env1.set j (.val (natD x))) = some (.ok (e x, env1.set j (.val (natD x))))) :
    gLcR [j] j gt ge ga env = some (.ok (((List.range n).filter t).map e, env1)) :=
  lcR_fm t e hg hn rfl (fun x hx => ⟨env1.set j (.val (natD x)), env1.set j (.val (natD x)), (by show some ((env1.set j .no).set j (.val (natD x))) = _; rw [List.set_set]), ht x hx, fun _ => set_set_no, fun h => ⟨_, he x hx h, set_set_no⟩⟩) (back_pl hj hx)
theorem nob_val (d : PyData) : nob (.val d) = true := rfl
theorem nob_own (d : List PyData) : nob (.own d) = true := rfl
theorem nob_tab (T : List (Addr × Str)) : nob (.tab T) = true := rfl
theorem nob_no : nob .no = true := rfl
theorem seq_rt {g h : S} {env env1 : En} {d : PyData} (h1 : g env = some (.rt d env1)) : gSeq g h env = some (.rt d env1) := by unfold gSeq; rw [h1]
theorem seq_er {g h : S} {env env1 : En} {x : Xc} (h1 : g env = some (.er x env1)) : gSeq g h env = some (.er x env1) := by unfold gSeq; rw [h1]
theorem neD_selfK {k : Nat} {d : PyData} (h : okD k d) (hk : k ≤ 64) (he : PyData.eqv d d = true) : neD d d = some false := by
  rw [neD_ok h h hk hk, he]
  rfl
theorem eqvT {xs : List PyData} (h : ∀ x ∈ xs, PyData.eqv x x = true) : PyData.eqv (.tuple xs) (.tuple xs) = true := by
  have := eqvAll_refl xs h
  simp [PyData.eqv, this]
theorem cut_take (ds : List PyData) (s : Nat) : cutD ds none (some (s : Int)) = ds.take s := by
  unfold cutD
  rw [HT.sIx_nat]
  show (ds.drop 0).take (min s ds.length - 0) = _
  rw [List.drop_zero, Nat.sub_zero]
  by_cases h : s ≤ ds.length
  · rw [Nat.min_eq_left h]
  · rw [Nat.min_eq_right (by omega), List.take_length, List.take_of_length_le (by omega)]
theorem cut_drop (ds : List PyData) (s : Nat) : cutD ds (some (s : Int)) none = ds.drop s := by
  unfold cutD
  rw [HT.sIx_nat]
  show (ds.drop (min s ds.length)).take (ds.length - min s ds.length) = _
  have e : ds.drop (min s ds.length) = ds.drop s := by
    by_cases h : s ≤ ds.length
    · rw [Nat.min_eq_left h]
    · rw [Nat.min_eq_right (by omega), List.drop_length, List.drop_of_length_le (by omega)]
  rw [e, List.take_of_length_le]
  rw [List.length_drop]
  omega
end Q
/-! part C24b -/
set_option Elab.async false
set_option linter.all false
set_option maxRecDepth 100000
set_option maxHeartbeats 4000000
namespace Q
open PySem PySem.Spec L2
open Pf
end Q
/-! part C25 -/
set_option Elab.async false
set_option linter.all false
set_option maxRecDepth 100000
set_option maxHeartbeats 4000000
namespace Q
open PySem PySem.Spec L2
open Pf
theorem nodup_le : ∀ (n : Nat) (L : List Int), L.Nodup → (∀ x ∈ L, 0 ≤ x ∧ x < n) → L.length ≤ n
  | 0, L, _, h => by
    cases L with
    | nil => exact Nat.le_refl _
    | cons a r => have := h a List.mem_cons_self; omega
  | n + 1, L, hn, h => by
    by_cases c : (n : Int) ∈ L
    · have h1 := nodup_le n (L.erase n) (hn.erase _) (fun x hx => by
        obtain ⟨h1, h2⟩ := hn.mem_erase_iff.mp hx
        have := h x h2
        omega)
      rw [List.length_erase_of_mem c] at h1
      omega
    · have := nodup_le n L hn (fun x hx => by
        have h1 := h x hx
        have h2 : x ≠ n := fun e => c (e ▸ hx)
        omega)
      omega
structure GoodD (K : Nat) (D : List (Int × Int)) : Prop where
  keys : (D.map (·.1)).Nodup
  rng : ∀ p ∈ D, 0 ≤ p.1 ∧ p.1 ≤ K ∧ 1 ≤ p.2
theorem GoodD.len {K : Nat} {D : List (Int × Int)} (g : GoodD K D) : D.length ≤ K + 1 := by
  have := nodup_le (K + 1) (D.map (·.1)) g.keys (fun x hx => by
    obtain ⟨p, hp, rfl⟩ := List.mem_map.mp hx
    have := g.rng p hp
    omega)
  rw [List.length_map] at this
  exact this
theorem GoodD.nil (K : Nat) : GoodD K [] := ⟨by simp, fun p h => by cases h⟩
end Q
/-! part D17c -/
set_option Elab.async false
set_option linter.all false
set_option maxRecDepth 100000
set_option maxHeartbeats 4000000
namespace Q
open PySem PySem.Spec L2
open Pf
end Q
/-! part C26 -/
set_option Elab.async false
set_option linter.all false
set_option maxRecDepth 100000
set_option maxHeartbeats 4000000
namespace Q
open PySem PySem.Spec L2
open Pf
end Q
/-! part C27 -/
set_option Elab.async false
set_option linter.all false
set_option maxRecDepth 100000
set_option maxHeartbeats 4000000
namespace Q
open PySem PySem.Spec L2
open Pf
end Q
/-! part C28 -/
set_option Elab.async false
set_option linter.all false
set_option maxRecDepth 100000
set_option maxHeartbeats 4000000
namespace Q
open PySem PySem.Spec L2
open Pf
end Q
/-! part C29 -/
set_option Elab.async false
set_option linter.all false
set_option maxRecDepth 100000
set_option maxHeartbeats 4000000
namespace Q
open PySem PySem.Spec L2
open Pf
theorem loopL_nx0 {b : PyData → En → Option En} {g : S} {d : PyData} {ds : List PyData} {env env1 env2 : En} (hb : b d env = some env1) (hg : g env1 = some (.nx env2)) : loopL b g (d :: ds) env = loopL b g ds env2 := by
  conv => lhs; unfold loopL
  rw [hb]
  simp only
  rw [hg]
end Q
/-! part C30 -/
set_option Elab.async false
set_option linter.all false
set_option maxRecDepth 100000
set_option maxHeartbeats 4000000
namespace Q
open PySem PySem.Spec L2
open Pf
def wh (l : List Nat) (b : Nat) : Int := if b ∈ l then ((l.idxOf b : Nat) : Int) else 0 - 1
end Q
/-! part C31 -/
set_option Elab.async false
set_option linter.all false
set_option maxRecDepth 100000
set_option maxHeartbeats 4000000
namespace Q
open PySem PySem.Spec L2
open Pf
theorem if_t {α : Type} {gt : M Bool} {ga gb : M α} {env env1 : En} (h : gt env = some (.ok (true, env1))) : gIf gt ga gb env = ga env1 := (bd_ok h).trans rfl
theorem if_f {α : Type} {gt : M Bool} {ga gb : M α} {env env1 : En} (h : gt env = some (.ok (false, env1))) : gIf gt ga gb env = gb env1 := (bd_ok h).trans rfl
end Q
/-! part C32 -/
set_option Elab.async false
set_option linter.all false
set_option maxRecDepth 100000
set_option maxHeartbeats 4000000
namespace Q
open PySem PySem.Spec L2
open Pf
section
variable {ps : List (Option Nat)} {ls goal : List (List Nat)} {l w : List Nat} {i : Nat}
theorem lot_D {L : List (List Nat)} {k : Nat} {v : List Nat} (h : L[k]? = some v) : (lotsD L)[k]? = some (.tuple (nats v)) := by
  show (L.map _)[k]? = _
  rw [List.getElem?_map, h]
  rfl
end
end Q
/-! part C33 -/
set_option Elab.async false
set_option linter.all false
set_option maxRecDepth 100000
set_option maxHeartbeats 4000000
namespace Q
open PySem PySem.Spec L2
open Pf
end Q
/-! part C34 -/
set_option Elab.async false
set_option linter.all false
set_option maxRecDepth 100000
set_option maxHeartbeats 4000000
namespace Q
open PySem PySem.Spec L2
open Pf
theorem loopL_rt0 {b : PyData → En → Option En} {g : S} {d : PyData} {ds : List PyData} {env env1 env2 : En} {v : PyData} (hb : b d env = some env1) (hg : g env1 = some (.rt v env2)) : loopL b g (d :: ds) env = some (.rt v env2) := by
  conv => lhs; unfold loopL
  rw [hb]
  simp only
  rw [hg]
end Q
/-! part C35 -/
set_option Elab.async false
set_option linter.all false
set_option maxRecDepth 100000
set_option maxHeartbeats 4000000
namespace Q
open PySem PySem.Spec L2
open Pf
end Q
/-! part C36 -/
set_option Elab.async false
set_option linter.all false
set_option maxRecDepth 100000
set_option maxHeartbeats 4000000
namespace Q
open PySem PySem.Spec L2
open Pf
structure Alike (pr pr' : Nat → Nat) (fx fx' : Nat → Bool) (c : Nat) (z z' : List Nat × List Nat) : Prop where
  len : z'.2.length = z.2.length
  hold : ∀ s p, holdB fx' z'.1 z'.2 s p = holdB fx z.1 z.2 s p
  cuts : ∀ s p, sumP pr' (cut z'.2 s p) = sumP pr (cut z.2 s p) * c
  all : sumP pr' z'.2 = sumP pr z.2 * c
  fix : z'.2.filter fx' = [] ↔ z.2.filter fx = []
end Q
/-! part C37 -/
set_option Elab.async false
set_option linter.all false
set_option maxRecDepth 100000
set_option maxHeartbeats 4000000
namespace Q
open PySem PySem.Spec L2
open Pf
end Q
/-! part C38 -/
set_option Elab.async false
set_option linter.all false
set_option maxRecDepth 100000
set_option maxHeartbeats 4000000
namespace Q
open PySem PySem.Spec L2
open Pf
end Q
/-! part C39 -/
set_option Elab.async false
set_option linter.all false
set_option maxRecDepth 100000
set_option maxHeartbeats 4000000
namespace Q
open PySem PySem.Spec L2
open Pf
def LotW (ps : List (Option Nat)) (ls : List (List Nat)) (d : PyData) : Prop := ∃ k, k < ps.length ∧ fxB ps k = true ∧ 1 < ls.length ∧ d = .tuple [.str "lot", natD k]
def TurnW (goal : List (List Nat)) (d : PyData) : Prop := ∃ k, k < goal.length ∧ d = .tuple [.str "turn", natD k]
theorem LotW.some {ps : List (Option Nat)} {ls : List (List Nat)} {d : PyData} (h : LotW ps ls d) : isNoneD d = false := by
  obtain ⟨k, _, _, _, rfl⟩ := h
  rfl
theorem TurnW.some {goal : List (List Nat)} {d : PyData} (h : TurnW goal d) : isNoneD d = false := by
  obtain ⟨k, _, rfl⟩ := h
  rfl
end Q
/-! part C40 -/
set_option Elab.async false
set_option linter.all false
set_option maxRecDepth 100000
set_option maxHeartbeats 4000000
namespace Q
open PySem PySem.Spec L2
open Pf
end Q
/-! part C41 -/
set_option Elab.async false
set_option linter.all false
set_option maxRecDepth 100000
set_option maxHeartbeats 2000000
namespace Q
open PySem PySem.Spec L2
open Pf
def deedD (b k : Nat) (first : Bool) : PyData := .tuple [.int b, .int k, endD first]
inductive DeedIs (ps : List (Option Nat)) (ls : List (List Nat)) (d : PyData) : Prop where
  | no (y : Str) (hy : y = "form" ∨ y = "fixed") (h2 : m_why_not [shelfD ps ls, d] = some (.ok (.str y)))
  | yes (b k : Nat) (first : Bool) (p : Nat) (hd : d = deedD b k first) (hb : b < ps.length) (hk : k < ls.length) (hp : ps[b]? = some (some p)) (h2 : m_why_not [shelfD ps ls, d] = some (.ok .none))
def BadWayX (k : Nat) (y : Str) : Xc := ⟨"BadWay", some [(("why" : Str), .str y), (("number" : Str), .int k)]⟩
inductive FirstNo (ps : List (Option Nat)) (ls : List (List Nat)) : Nat → List PyData → Option (Nat × Str) → Prop where
  | nil {k : Nat} : FirstNo ps ls k [] none
  | no {k : Nat} {d : PyData} {r : List PyData} {y : Str} (hy : y = "form" ∨ y = "fixed") (h2 : m_why_not [shelfD ps ls, d] = some (.ok (.str y))) : FirstNo ps ls k (d :: r) (some (k, y))
  | yes {k : Nat} {b j : Nat} {first : Bool} {p : Nat} {r : List PyData} {o : Option (Nat × Str)} (hb : b < ps.length) (hk : j < ls.length) (hp : ps[b]? = some (some p)) (h2 : m_why_not [shelfD ps ls, deedD b j first] = some (.ok .none)) (hr : FirstNo ps ls (k + 1) r o) : FirstNo ps ls k (deedD b j first :: r) o
theorem check_list_no (d : PyData) (hd : ∀ xs, d ≠ .list xs) (hd2 : ∀ xs, d ≠ .dict xs) : m_check_list [d] = some (.error (BadWayX 0 "form")) := by
  have t : gNotT (gTru (gIsa "list" (gN 0))) [.val d] = some (.ok (true, [.val d])) := by
    cases d with
    | list xs => exact absurd rfl (hd xs)
    | dict xs => exact absurd rfl (hd2 xs)
    | _ => rfl
  refine fnD_er (r := [.val d]) ?_
  show G_check_list [.val d] = _
  unfold G_check_list
  rw [ifS_t t]
  have z : Pf.gCons (gC (.int 0)) (Pf.gCons (gC (.str "form")) Pf.gNil) [.val d] = some (.ok ([.int 0, .str "form"], [.val d])) := rfl
  have pr : ([.int 0, .str "form"] : List PyData).all printable = true := by decide +kernel
  show gRaise _ _ _ _ = _
  unfold gRaise
  rw [gE_ok z, if_pos ⟨rfl, pr⟩]
  rfl
end Q
/-! part C42 -/
set_option Elab.async false
set_option linter.all false
set_option maxRecDepth 100000
set_option maxHeartbeats 4000000
namespace Q
open PySem PySem.Spec L2
open Pf
theorem exE {α : Type} {env env1 : En} {ga : M α} {x : Xc} (h : ga env = some (.error (x, env1))) : gEx ga env = some (.er x env1) := by
  show gE _ _ _ = _
  unfold gE
  rw [h]
theorem print_nat {k : Nat} (h : k < 1000) : printable (natD k) = true := by
  show decide ((k : Int).natAbs.log2 < 1920) = true
  refine decide_eq_true ?_
  have e : (k : Int).natAbs = k := rfl
  rw [e]
  exact Nat.lt_of_le_of_lt (Nat.log2_le_self k) (by omega)
section
variable {ps : List (Option Nat)} {ls goal : List (List Nat)}
theorem check_deeds_no {sh d : PyData} (hd : ∀ xs, d ≠ .list xs) (hd2 : ∀ xs, d ≠ .dict xs) : m_check_deeds [sh, d] = some (.error (BadWayX 0 "form")) := by
  have a := exE (call_er (env := [.val sh, .val d, .no, .no, .no]) (gl := Pf.gCons (gN 1) Pf.gNil) (cons_ok (n_val (i := 1) rfl) nil_ok) (check_list_no d hd hd2))
  refine fnD_er (r := [.val sh, .val d, .no, .no, .no]) ?_
  show G_check_deeds [.val sh, .val d, .no, .no, .no] = _
  unfold G_check_deeds
  exact seq_er a
end
end Q
/-! part C43 -/
set_option Elab.async false
set_option linter.all false
set_option maxRecDepth 100000
set_option maxHeartbeats 4000000
namespace Q
open PySem PySem.Spec L2
open Pf
def niceD : PyData → Bool
  | .dict _ => false
  | _ => true
def tupB : PyData → Bool
  | .tuple _ => true
  | _ => false
theorem isTy_tup {d : PyData} (h : niceD d = true) : isTy d "tuple" = some (tupB d) := by
  cases d <;> first | rfl | cases h
theorem place_any (v : PyData) (hv : niceD v = true) (n : Nat) : m_is_place [v, .int n] = some (.ok (.bool (inP v n))) := by
  cases v with
  | list xs => rfl
  | tuple xs => rfl
  | dict xs => cases hv
  | int i => exact place_ok _ rfl n
  | none => rfl
  | bool b => rfl
  | str x => rfl
theorem isa_okA {ga : M PyData} {env env1 : En} {d : PyData} {c : String} {k : Bool} (h : ga env = some (.ok (d, env1))) (h2 : isTy d c = some k) : gIsa c ga env = some (.ok (.bool k, env1)) := (bd_ok h).trans (opt_ok (by rw [h2]; rfl))
def plN (n : Nat) : PyData → Option Nat
  | .int i => if 0 ≤ i ∧ i < n then some i.toNat else none
  | _ => none
theorem plN_in (n : Nat) (d : PyData) : inP d n = (plN n d).isSome := by
  cases d with
  | int i =>
    show decide (0 ≤ i ∧ i < (n : Int)) = (if 0 ≤ i ∧ i < (n : Int) then some i.toNat else none).isSome
    by_cases h : 0 ≤ i ∧ i < (n : Int)
    · rw [if_pos h, decide_eq_true h]; rfl
    · rw [if_neg h, decide_eq_false h]; rfl
  | _ => rfl
theorem plN_some {n b : Nat} {d : PyData} (h : plN n d = some b) : d = natD b ∧ b < n := by
  cases d with
  | int i =>
    have h : (if 0 ≤ i ∧ i < (n : Int) then some i.toNat else none) = some b := h
    by_cases c : 0 ≤ i ∧ i < (n : Int)
    · rw [if_pos c] at h
      have e := Option.some.inj h
      exact ⟨by rw [← e]; show PyData.int i = .int ((i.toNat : Nat) : Int); rw [Int.toNat_of_nonneg c.1], by omega⟩
    · rw [if_neg c] at h; cases h
  | _ => cases h
def lotScan (n : Nat) : List Nat → List PyData → Option (List Nat)
  | met, [] => some met
  | met, d :: r => match plN n d with
    | some b => if b ∈ met then none else lotScan n (met ++ [b]) r
    | none => none
def lotsScan (n mx : Nat) : Nat → List Nat → List PyData → Except Nat (List Nat)
  | _, met, [] => .ok met
  | k, met, d :: r => if k = mx then .error k else match d with
    | .tuple xs => (match lotScan n met xs with
      | some met' => lotsScan n mx (k + 1) met' r
      | none => .error k)
    | _ => .error k
def LotsN (xs : List PyData) : Prop := ∀ d ∈ xs, niceD d = true ∧ ∀ ys, d = .tuple ys → ys.length ≤ 100 ∧ ∀ e ∈ ys, niceD e = true
def SetIs (S : Int → Bool) (met : List Nat) : Prop := ∀ b : Nat, S (b : Nat) = decide (b ∈ met)
theorem setIs_add {S : Int → Bool} {met : List Nat} {b : Nat} (h : SetIs S met) : SetIs (addS S b) (met ++ [b]) := fun c => by
  unfold addS
  rw [h c]
  by_cases e : c = b
  · subst e; simp
  · have ne : ¬ ((c : Int) = (b : Int)) := fun z => e (Int.ofNat.inj z)
    simp [e, ne]
section
variable {a : PyData} {n : Nat} {f m : PyData} {S : Int → Bool} {c k : Nat} {lot x : Sl} {met : List Nat}
theorem in_place {d : PyData} (hd : niceD d = true) {num : Sl} : gNotT (gTru (gCall m_is_place (Pf.gCons (gN 7) (Pf.gCons (gN 1) Pf.gNil)))) (envL8 a n f m S c num lot (.val d)) = some (.ok (!inP d n, envL8 a n f m S c num lot (.val d))) :=
  notT_ok (tru_ok (call_ok (m := m_is_place) (cons_ok (n_val (i := 7) rfl) (cons_ok (n_val (i := 1) rfl) nil_ok)) (place_any d hd n)) rfl)
theorem in_stop {d : PyData} (hd : niceD d = true) (h : plN n d = none) : inB (envL8 a n f m S c (.val (natD k)) lot (.val d)) = some (.rt (natD k) (envL8 a n f m S c (.val (natD k)) lot (.val d))) := by
  have t := in_place (a := a) (n := n) (f := f) (m := m) (S := S) (c := c) (lot := lot) (num := .val (natD k)) hd
  rw [plN_in, h] at t
  unfold inB
  exact seq_rt ((ifS_t (orT_t t)).trans rfl)
theorem in_twice {b : Nat} (hb : b < n) (h : S (b : Nat) = true) : inB (envL8 a n f m S c (.val (natD k)) lot (.val (natD b))) = some (.rt (natD k) (envL8 a n f m S c (.val (natD k)) lot (.val (natD b)))) := by
  have t := in_place (a := a) (n := n) (f := f) (m := m) (S := S) (c := c) (lot := lot) (num := .val (natD k)) (d := natD b) rfl
  have hp : inP (natD b) n = true := by show decide ((0 : Int) ≤ (b : Int) ∧ (b : Int) < (n : Int)) = true; exact decide_eq_true (by omega)
  rw [hp] at t
  have t2 : gHasS 4 (gN 7) (envL8 a n f m S c (.val (natD k)) lot (.val (natD b))) = some (.ok (true, envL8 a n f m S c (.val (natD k)) lot (.val (natD b)))) := by
    have y : gHasS 4 (gN 7) (envL8 a n f m S c (.val (natD k)) lot (.val (natD b))) = some (.ok (S b, envL8 a n f m S c (.val (natD k)) lot (.val (natD b)))) := rfl
    rw [y, h]
  unfold inB
  exact seq_rt ((ifS_t ((orT_f t).trans t2)).trans rfl)
theorem in_any : ∀ (ds : List PyData) (S : Int → Bool) (c : Nat) (met : List Nat) (x : Sl), SetIs S met → (∀ d ∈ ds, niceD d = true) → c + ds.length < 4000 →
    (∀ met', lotScan n met ds = some met' → ∃ S' x', SetIs S' met' ∧ loopL (bN 7) inB ds (envL8 a n f m S c (.val (natD k)) lot x) = some (.nx (envL8 a n f m S' (c + ds.length) (.val (natD k)) lot x'))) ∧
    (lotScan n met ds = none → ∃ env, loopL (bN 7) inB ds (envL8 a n f m S c (.val (natD k)) lot x) = some (.rt (natD k) env))
  | [], S, c, met, x, hS, _, _ => ⟨fun met' h => (by cases h; exact ⟨S, x, hS, rfl⟩), fun h => (nomatch h)⟩
  | d :: r, S, c, met, x, hS, hd, hc => by
    simp only [List.length_cons] at hc
    have nd := hd d List.mem_cons_self
    have nr : ∀ e ∈ r, niceD e = true := fun e he => hd e (List.mem_cons_of_mem _ he)
    have step : loopL (bN 7) inB (d :: r) (envL8 a n f m S c (.val (natD k)) lot x) = (match inB (envL8 a n f m S c (.val (natD k)) lot (.val d)) with
      | some (.nx env2) => loopL (bN 7) inB r env2
      | some (.ct env2) => loopL (bN 7) inB r env2
      | some (.bk env2) => some (.nx env2)
      | o => o) := rfl
    unfold lotScan
    cases e : plN n d with
    | none =>
      refine ⟨fun met' h => (by simp at h), fun _ => ⟨envL8 a n f m S c (.val (natD k)) lot (.val d), ?_⟩⟩
      rw [step, in_stop nd e]
    | some b =>
      obtain ⟨rfl, hb⟩ := plN_some e
      by_cases hm : b ∈ met
      · simp only [if_pos hm]
        refine ⟨fun met' h => (by cases h), fun _ => ⟨envL8 a n f m S c (.val (natD k)) lot (.val (natD b)), ?_⟩⟩
        rw [step, in_twice hb (by rw [hS b]; exact decide_eq_true hm)]
      · simp only [if_neg hm]
        have body := in_body a n f m S c (.val (natD k)) lot b hb (by rw [hS b]; exact decide_eq_false hm) (by omega)
        obtain ⟨g1, g2⟩ := in_any r (addS S b) (c + 1) (met ++ [b]) (.val (natD b)) (setIs_add hS) nr (by omega)
        refine ⟨fun met' h => ?_, fun h => ?_⟩
        · obtain ⟨S', x', q1, q2⟩ := g1 met' h
          refine ⟨S', x', q1, ?_⟩
          rw [step, show inB (envL8 a n f m S c (.val (natD k)) lot (.val (natD b))) = _ from body]
          simp only
          rw [q2, List.length_cons, show c + 1 + r.length = c + (r.length + 1) by omega]
        · obtain ⟨env, q⟩ := g2 h
          refine ⟨env, ?_⟩
          rw [step, show inB (envL8 a n f m S c (.val (natD k)) lot (.val (natD b))) = _ from body]
          exact q
theorem eqD_nat (a b : Nat) : eqD (natD a) (natD b) = some (decide (a = b)) := by
  rw [eqD_int]
  by_cases h : a = b
  · rw [decide_eq_true h]; subst h; simp
  · rw [decide_eq_false h]
    have : ¬ ((a : Int) = (b : Int)) := fun z => h (Int.ofNat.inj z)
    simp [this]
theorem out_any (mx : Nat) : ∀ (xs : List PyData) (k : Nat) (S : Int → Bool) (c : Nat) (met : List Nat) (u v x : Sl), SetIs S met → LotsN xs → c + xs.length * 100 < 3900 →
    (∀ met', lotsScan n mx k met xs = .ok met' → ∃ S' c' u' v' x', loopL (bTup 2 (bCons (bN 5) (bCons (bN 6) bNil))) outB (enumK k xs) (envL8 a n f (natD mx) S c u v x) = some (.nx (envL8 a n f (natD mx) S' c' u' v' x'))) ∧
    (∀ j, lotsScan n mx k met xs = .error j → ∃ env, loopL (bTup 2 (bCons (bN 5) (bCons (bN 6) bNil))) outB (enumK k xs) (envL8 a n f (natD mx) S c u v x) = some (.rt (natD j) env))
  | [], k, S, c, met, u, v, x, hS, _, _ => ⟨fun met' h => ⟨S, c, u, v, x, rfl⟩, fun j h => (nomatch h)⟩
  | d :: r, k, S, c, met, u, v, x, hS, hn, hc => by
    simp only [List.length_cons, Nat.add_mul] at hc
    obtain ⟨nd, ny⟩ := hn d List.mem_cons_self
    have nr : LotsN r := fun e he => hn e (List.mem_cons_of_mem _ he)
    have step : loopL (bTup 2 (bCons (bN 5) (bCons (bN 6) bNil))) outB (enumK k (d :: r)) (envL8 a n f (natD mx) S c u v x) = (match outB (envL8 a n f (natD mx) S c (.val (natD k)) (.val d) x) with
      | some (.nx env2) => loopL (bTup 2 (bCons (bN 5) (bCons (bN 6) bNil))) outB (enumK (k + 1) r) env2
      | some (.ct env2) => loopL (bTup 2 (bCons (bN 5) (bCons (bN 6) bNil))) outB (enumK (k + 1) r) env2
      | some (.bk env2) => some (.nx env2)
      | o => o) := rfl
    have t1 := tst_ok (f := eqD) (env := envL8 a n f (natD mx) S c (.val (natD k)) (.val d) x) (n_val (i := 5) (d := natD k) rfl) (n_val (i := 3) (d := natD mx) rfl) (eqD_nat k mx)
    have t2 := notT_ok (tru_ok (isa_okA (env := envL8 a n f (natD mx) S c (.val (natD k)) (.val d) x) (n_val (i := 6) (d := d) rfl) (isTy_tup nd)) (show truD (.bool (tupB d)) = some (tupB d) from rfl))
    unfold lotsScan
    by_cases e : k = mx
    · rw [decide_eq_true e] at t1
      simp only [if_pos e]
      refine ⟨fun met' h => (nomatch h), fun j h => ?_⟩
      cases h
      refine ⟨envL8 a n f (natD mx) S c (.val (natD k)) (.val d) x, ?_⟩
      have body : outB (envL8 a n f (natD mx) S c (.val (natD k)) (.val d) x) = some (.rt (natD k) (envL8 a n f (natD mx) S c (.val (natD k)) (.val d) x)) := by
        unfold outB
        exact seq_rt ((ifS_t (orT_t t1)).trans rfl)
      rw [step, body]
    · rw [decide_eq_false e] at t1
      simp only [if_neg e]
      by_cases ht : tupB d = true
      · cases d with
        | tuple ys =>
          obtain ⟨hl, hy⟩ := ny ys rfl
          have a1 : gIfS (gOrT (gTst eqD (gN 5) (gN 3)) (gNotT (gTru (gIsa "tuple" (gN 6))))) (gRet (gN 5)) gNx (envL8 a n f (natD mx) S c (.val (natD k)) (.val (.tuple ys)) x) = some (.nx (envL8 a n f (natD mx) S c (.val (natD k)) (.val (.tuple ys)) x)) := (ifS_f ((orT_f t1).trans t2)).trans rfl
          have fr : gForT (gN 6) (bN 7) inB (envL8 a n f (natD mx) S c (.val (natD k)) (.val (.tuple ys)) x) = loopL (bN 7) inB ys (envL8 a n f (natD mx) S c (.val (natD k)) (.val (.tuple ys)) x) := by
            unfold gForT
            rw [gE_ok (n_val (d := .tuple ys) rfl)]
          obtain ⟨g1, g2⟩ := in_any (a := a) (n := n) (f := f) (m := natD mx) (k := k) (lot := .val (.tuple ys)) ys S c met x hS hy (by omega)
          have body : outB (envL8 a n f (natD mx) S c (.val (natD k)) (.val (.tuple ys)) x) = loopL (bN 7) inB ys (envL8 a n f (natD mx) S c (.val (natD k)) (.val (.tuple ys)) x) := by
            unfold outB
            rw [seq_nx a1]
            exact fr
          simp only
          cases es : lotScan n met ys with
          | none =>
            refine ⟨fun met' h => (nomatch h), fun j h => ?_⟩
            cases h
            obtain ⟨env, q⟩ := g2 es
            exact ⟨env, by rw [step, body, q]⟩
          | some met1 =>
            obtain ⟨S1, x1, q1, q2⟩ := g1 met1 es
            obtain ⟨r1, r2⟩ := out_any mx r (k + 1) S1 (c + ys.length) met1 (.val (natD k)) (.val (.tuple ys)) x1 q1 nr (by omega)
            refine ⟨fun met' h => ?_, fun j h => ?_⟩
            · obtain ⟨S', c', u', v', x', w⟩ := r1 met' h
              exact ⟨S', c', u', v', x', by rw [step, body, q2]; exact w⟩
            · obtain ⟨env, w⟩ := r2 j h
              exact ⟨env, by rw [step, body, q2]; exact w⟩
        | _ => cases ht
      · have tf : tupB d = false := by cases q : tupB d with
          | true => exact absurd q ht
          | false => rfl
        rw [tf] at t2
        have body : outB (envL8 a n f (natD mx) S c (.val (natD k)) (.val d) x) = some (.rt (natD k) (envL8 a n f (natD mx) S c (.val (natD k)) (.val d) x)) := by
          unfold outB
          exact seq_rt ((ifS_t ((orT_f t1).trans t2)).trans rfl)
        cases d with
        | tuple ys => cases tf
        | _ =>
          refine ⟨fun met' h => (nomatch h), fun j h => ?_⟩
          cases h
          exact ⟨envL8 a n f (natD mx) S c (.val (natD k)) (.val _) x, by rw [step, body]⟩
end
def wrongL (n fw mx : Nat) (d : PyData) : Option Nat := match d with
  | .tuple xs => (match lotsScan n mx 0 [] xs with
    | .error k => some k
    | .ok _ => if xs.length < fw then some xs.length else none)
  | _ => some 0
theorem wrong_any {n fw mx : Nat} {d : PyData} (hd : niceD d = true) (hx : ∀ xs, d = .tuple xs → xs.length ≤ 30 ∧ LotsN xs) : m_wrong_lot [d, natD n, natD fw, natD mx] = some (.ok (match wrongL n fw mx d with
    | some k => natD k
    | none => .none)) := by
  have eE : envD 8 [d, natD n, natD fw, natD mx] = [.val d, .val (natD n), .val (natD fw), .val (natD mx), .no, .no, .no, .no] := rfl
  have t0 := notT_ok (tru_ok (isa_okA (env := [.val d, .val (natD n), .val (natD fw), .val (natD mx), .no, .no, .no, .no]) (n_val (i := 0) (d := d) rfl) (isTy_tup hd)) (show truD (.bool (tupB d)) = some (tupB d) from rfl))
  have other : tupB d = false → m_wrong_lot [d, natD n, natD fw, natD mx] = some (.ok (natD 0)) := fun tf => by
    rw [tf] at t0
    refine fnD_rt (r := [.val d, .val (natD n), .val (natD fw), .val (natD mx), .no, .no, .no, .no]) ?_
    rw [eE]
    unfold G_wrong_lot
    exact seq_rt ((ifS_t t0).trans rfl)
  cases d with
  | tuple xs =>
    obtain ⟨hl, hn⟩ := hx xs rfl
    have a1 : gIfS (gNotT (gTru (gIsa "tuple" (gN 0)))) (gRet (gC (.int 0))) gNx [.val (.tuple xs), .val (natD n), .val (natD fw), .val (natD mx), .no, .no, .no, .no] = some (.nx [.val (.tuple xs), .val (natD n), .val (natD fw), .val (natD mx), .no, .no, .no, .no]) := rfl
    have a2 : gMkS 4 [.val (.tuple xs), .val (natD n), .val (natD fw), .val (natD mx), .no, .no, .no, .no] = some (.nx (envL8 (.tuple xs) n (natD fw) (natD mx) (fun _ => false) 0 .no .no .no)) := rfl
    have a3 : gForET (gN 0) (bTup 2 (bCons (bN 5) (bCons (bN 6) bNil))) b2_wrong_lot (envL8 (.tuple xs) n (natD fw) (natD mx) (fun _ => false) 0 .no .no .no) = loopL (bTup 2 (bCons (bN 5) (bCons (bN 6) bNil))) outB (enumK 0 xs) (envL8 (.tuple xs) n (natD fw) (natD mx) (fun _ => false) 0 .no .no .no) := by
      unfold gForET
      rw [gE_ok (n_val (d := .tuple xs) rfl)]
      simp only
      rw [enum_K]
      rfl
    obtain ⟨g1, g2⟩ := out_any (a := .tuple xs) (n := n) (f := natD fw) mx xs 0 (fun _ => false) 0 [] .no .no .no (fun b => by simp) hn (by omega)
    have eG : G_wrong_lot = gSeq (gIfS (gNotT (gTru (gIsa "tuple" (gN 0)))) (gRet (gC (.int 0))) gNx) (gSeq (gMkS 4) (gSeq (gForET (gN 0) (bTup 2 (bCons (bN 5) (bCons (bN 6) bNil))) b2_wrong_lot) (gSeq (gIfS (gTst (cmpD fun i j => decide (i < j)) (gLenP 0) (gN 2)) (gRet (gLenP 0)) gNx) (gRet (gC .none))))) := rfl
    unfold wrongL
    simp only
    cases e : lotsScan n mx 0 [] xs with
    | error k =>
      obtain ⟨env, q⟩ := g2 k e
      refine fnD_rt (r := env) ?_
      rw [eE, eG, seq_nx a1, seq_nx a2]
      exact seq_rt (a3.trans q)
    | ok met =>
      obtain ⟨S', c', u', v', x', q⟩ := g1 met e
      have t : gTst (cmpD fun i j => decide (i < j)) (gLenP 0) (gN 2) (envL8 (.tuple xs) n (natD fw) (natD mx) S' c' u' v' x') = some (.ok (decide (xs.length < fw), envL8 (.tuple xs) n (natD fw) (natD mx) S' c' u' v' x')) := by
        have y : gTst (cmpD fun i j => decide (i < j)) (gLenP 0) (gN 2) (envL8 (.tuple xs) n (natD fw) (natD mx) S' c' u' v' x') = M.opt ((cmpD fun i j => decide (i < j)) (.int xs.length) (natD fw)) (envL8 (.tuple xs) n (natD fw) (natD mx) S' c' u' v' x') := rfl
        rw [y]
        refine opt_ok ?_
        show some (decide ((xs.length : Int) < (fw : Int))) = _
        congr 1
        simp
      simp only
      by_cases hf : xs.length < fw
      · rw [decide_eq_true hf] at t
        rw [if_pos hf]
        refine fnD_rt (r := envL8 (.tuple xs) n (natD fw) (natD mx) S' c' u' v' x') ?_
        rw [eE, eG, seq_nx a1, seq_nx a2, seq_nx (a3.trans q)]
        exact seq_rt ((ifS_t t).trans rfl)
      · rw [decide_eq_false hf] at t
        rw [if_neg hf]
        refine fnD_rt (r := envL8 (.tuple xs) n (natD fw) (natD mx) S' c' u' v' x') ?_
        have a4 : gIfS (gTst (cmpD fun i j => decide (i < j)) (gLenP 0) (gN 2)) (gRet (gLenP 0)) gNx (envL8 (.tuple xs) n (natD fw) (natD mx) S' c' u' v' x') = some (.nx (envL8 (.tuple xs) n (natD fw) (natD mx) S' c' u' v' x')) := (ifS_f t).trans rfl
        rw [eE, eG, seq_nx a1, seq_nx a2, seq_nx (a3.trans q), seq_nx a4]
        rfl
  | dict z => cases hd
  | _ => exact other rfl
end Q
/-! part C44 -/
set_option Elab.async false
set_option linter.all false
set_option maxRecDepth 100000
set_option maxHeartbeats 4000000
namespace Q
open PySem PySem.Spec L2
open Pf
theorem tup_ok2 {ga gb : M PyData} {env env1 env2 : En} {d e : PyData} (h1 : ga env = some (.ok (d, env1))) (h2 : gb env1 = some (.ok (e, env2))) : Pf.gTup (Pf.gCons ga (Pf.gCons gb Pf.gNil)) env = some (.ok (.tuple [d, e], env2)) := (bd_ok (cons_ok h1 (cons_ok h2 nil_ok))).trans (opt_ok rfl)
theorem lst_okA {gl : M (List PyData)} {E E1 : En} {ds : List PyData} (h : gl E = some (.ok (ds, E1))) (hl : lstD ds = some ds) : Pf.gLst gl E = some (.ok (ds, E1)) := (bd_ok h).trans (opt_ok hl)
theorem draw0 {env : En} {s : Stt} {n : Nat} {gl : M (List PyData)} (hn : 0 < n) (hb : n < 1073741824) (h0 : env[0]? = some (.bor (enc s))) (h1 : gl env = some (.ok ([natD n], env))) : ∃ (d : Nat) (s' : Stt), d < n ∧ gCallB 0 gl m__law_drawn env = some (.ok (natD d, env.set 0 (.bor (enc s')))) := by
  obtain ⟨d, s', hd, e⟩ := drawn_ok s n hn hb
  exact ⟨d, s', hd, callB_bor h0 h1 h0 e⟩
theorem add_tup {xs ys : List PyData} (h : xs.length + ys.length ≤ 1000000) : addD (.tuple xs) (.tuple ys) = some (.tuple (xs ++ ys)) := by
  have hs := sizeLine_eq
  show (if xs.length + ys.length ≤ sizeLine then some (PyData.tuple (xs ++ ys)) else none) = _
  rw [if_pos (by omega)]
theorem cut_to {ga gb : M PyData} {E : En} {ds : List PyData} {p : Nat} (h1 : ga E = some (.ok (.tuple ds, E))) (h2 : gb E = some (.ok (natD p, E))) : gSlT ga gNoPt (gPt gb) E = some (.ok (.tuple (ds.take p), E)) := by
  have q : gPt gb E = some (.ok (some (p : Int), E)) := (bd_ok h2).trans rfl
  have n : gNoPt E = some (.ok (none, E)) := rfl
  refine (bd_ok h1).trans ((bd_ok n).trans ((bd_ok q).trans (opt_ok ?_)))
  show some (PyData.tuple (cutD ds none (some (p : Int)))) = _
  rw [cut_take]
theorem cut_from {ga gb : M PyData} {E : En} {ds : List PyData} {p : Nat} (h1 : ga E = some (.ok (.tuple ds, E))) (h2 : gb E = some (.ok (natD p, E))) : gSlT ga (gPt gb) gNoPt E = some (.ok (.tuple (ds.drop p), E)) := by
  have q : gPt gb E = some (.ok (some (p : Int), E)) := (bd_ok h2).trans rfl
  have n : gNoPt E = some (.ok (none, E)) := rfl
  refine (bd_ok h1).trans ((bd_ok q).trans ((bd_ok n).trans (opt_ok ?_)))
  show some (PyData.tuple (cutD ds (some (p : Int)) none)) = _
  rw [cut_drop]
theorem plus_one {ga : M PyData} {E : En} {p : Nat} (h : ga E = some (.ok (natD p, E))) : gBin addD ga (gC (.int 1)) E = some (.ok (natD (p + 1), E)) := bin_ok h (e := .int 1) rfl (by
  show some (PyData.int ((p : Int) + 1)) = _
  rw [show (p : Int) + 1 = ((p + 1 : Nat) : Int) by omega])
theorem around {ga gb gt : M PyData} {E : En} {ds : List PyData} {p : Nat} {t : PyData} (hl : ds.length ≤ 1000) (h1 : ga E = some (.ok (.tuple ds, E))) (h2 : gb E = some (.ok (natD p, E))) (h3 : gt E = some (.ok (t, E))) (j : Nat) {gj : M PyData} (hj : gj E = some (.ok (natD j, E))) :
    gBin addD (gBin addD (gSlT ga gNoPt (gPt gb)) (Pf.gTup (Pf.gCons gt Pf.gNil))) (gSlT ga (gPt gj) gNoPt) E = some (.ok (.tuple (ds.take p ++ [t] ++ ds.drop j), E)) := by
  have tt : Pf.gTup (Pf.gCons gt Pf.gNil) E = some (.ok (.tuple [t], E)) := (bd_ok (cons_ok h3 nil_ok)).trans (opt_ok rfl)
  have l1 : (ds.take p).length ≤ ds.length := List.length_take_le' ..
  have l2 : (ds.drop j).length ≤ ds.length := by rw [List.length_drop]; omega
  exact bin_ok (bin_ok (cut_to h1 h2) tt (add_tup (by rw [List.length_singleton]; omega))) (cut_from h1 hj) (add_tup (by rw [List.length_append, List.length_singleton]; omega))
theorem without {ga gb gj : M PyData} {E : En} {ds : List PyData} {p j : Nat} (hl : ds.length ≤ 1000) (h1 : ga E = some (.ok (.tuple ds, E))) (h2 : gb E = some (.ok (natD p, E))) (hj : gj E = some (.ok (natD j, E))) :
    gBin addD (gSlT ga gNoPt (gPt gb)) (gSlT ga (gPt gj) gNoPt) E = some (.ok (.tuple (ds.take p ++ ds.drop j), E)) := by
  have l1 : (ds.take p).length ≤ ds.length := List.length_take_le' ..
  have l2 : (ds.drop j).length ≤ ds.length := by rw [List.length_drop]; omega
  exact bin_ok (cut_to h1 h2) (cut_from h1 hj) (add_tup (by omega))
theorem list_tup {ga : M PyData} {E : En} {ds : List PyData} (h : ga E = some (.ok (.tuple ds, E))) : gFz (gList ga) E = some (.ok (.list ds, E)) := fz_ok ((bd_ok h).trans (opt_ok rfl))
theorem lotScan_is {n : Nat} : ∀ (ds : List PyData) (met met' : List Nat), lotScan n met ds = some met' → ∃ l : List Nat, ds = nats l ∧ met' = met ++ l
  | [], met, met', h => by
    cases h
    exact ⟨[], rfl, by rw [List.append_nil]⟩
  | d :: ds, met, met', h => by
    unfold lotScan at h
    cases hp : plN n d with
    | none => rw [hp] at h; cases h
    | some b =>
      rw [hp] at h
      simp only at h
      by_cases c : b ∈ met
      · rw [if_pos c] at h; cases h
      · rw [if_neg c] at h
        obtain ⟨l, rfl, rfl⟩ := lotScan_is ds _ _ h
        obtain ⟨rfl, _⟩ := plN_some hp
        exact ⟨b :: l, rfl, by rw [List.append_assoc]; rfl⟩
theorem lotsScan_is {n m : Nat} : ∀ (xs : List PyData) (k : Nat) (met met' : List Nat), lotsScan n m k met xs = .ok met' → ∃ L : List (List Nat), xs = lotsD L ∧ met' = met ++ L.flatten
  | [], k, met, met', h => by
    cases h
    exact ⟨[], rfl, by simp⟩
  | d :: xs, k, met, met', h => by
    unfold lotsScan at h
    by_cases c : k = m
    · rw [if_pos c] at h; cases h
    · rw [if_neg c] at h
      cases d with
      | tuple ys =>
        simp only at h
        cases hs : lotScan n met ys with
        | none => rw [hs] at h; cases h
        | some m2 =>
          rw [hs] at h
          simp only at h
          obtain ⟨l, rfl, rfl⟩ := lotScan_is ys _ _ hs
          obtain ⟨L, rfl, rfl⟩ := lotsScan_is xs _ _ _ h
          exact ⟨l :: L, rfl, by rw [List.flatten_cons, List.append_assoc]⟩
      | _ => cases h
theorem lotsScan_err {n m : Nat} : ∀ (xs : List PyData) (k : Nat) (met : List Nat) (j : Nat), lotsScan n m k met xs = .error j → j ≤ k + xs.length
  | [], k, met, j, h => by cases h
  | d :: xs, k, met, j, h => by
    rw [List.length_cons]
    unfold lotsScan at h
    by_cases c : k = m
    · rw [if_pos c] at h; cases h; omega
    · rw [if_neg c] at h
      cases d with
      | tuple ys =>
        simp only at h
        cases hs : lotScan n met ys with
        | none => rw [hs] at h; cases h; omega
        | some m2 =>
          rw [hs] at h
          have := lotsScan_err xs (k + 1) m2 j h
          omega
      | _ => cases h; omega
theorem lo_none (a : PyData) (b : Nat) : ∀ (ls : List (List Nat)) (k : Nat) (x y : Sl), b ∉ ls.flatten → ∃ (env : En), loopL (bTup 2 (bCons (bN 2) (bCons (bN 3) bNil))) loB (enumK k (lotsD ls)) [.val a, .val (.int b), x, y] = some (.nx env)
  | [], k, x, y, h => ⟨_, rfl⟩
  | l :: ls, k, x, y, h => by
    have step : loopL (bTup 2 (bCons (bN 2) (bCons (bN 3) bNil))) loB (enumK k (lotsD (l :: ls))) [.val a, .val (.int b), x, y] = (match loB [.val a, .val (.int b), .val (.int k), .val (.tuple (nats l))] with
      | some (.nx env2) => loopL (bTup 2 (bCons (bN 2) (bCons (bN 3) bNil))) loB (enumK (k + 1) (lotsD ls)) env2
      | some (.ct env2) => loopL (bTup 2 (bCons (bN 2) (bCons (bN 3) bNil))) loB (enumK (k + 1) (lotsD ls)) env2
      | some (.bk env2) => some (.nx env2)
      | o => o) := rfl
    rw [List.flatten_cons, List.mem_append] at h
    rw [step, lo_body, if_neg (fun hb => h (.inl hb))]
    exact lo_none a b ls (k + 1) _ _ (fun hb => h (.inr hb))
theorem lot_of_no (ls : List (List Nat)) (b : Nat) (h : b ∉ ls.flatten) : m_lot_of [.tuple (lotsD ls), .int b] = some (.ok .none) := by
  obtain ⟨env, e⟩ := lo_none (.tuple (lotsD ls)) b ls 0 .no .no h
  refine fnD_rt (r := env) ?_
  have eG : G_lot_of = gSeq (gForET (gN 0) (bTup 2 (bCons (bN 2) (bCons (bN 3) bNil))) loB) (gRet (gC .none)) := rfl
  have eE : envD 4 [.tuple (lotsD ls), .int b] = [.val (.tuple (lotsD ls)), .val (.int b), .no, .no] := rfl
  have a1 : gForET (gN 0) (bTup 2 (bCons (bN 2) (bCons (bN 3) bNil))) loB [.val (.tuple (lotsD ls)), .val (.int b), .no, .no] = some (.nx env) := by
    unfold gForET
    rw [gE_ok (n_val (d := .tuple (lotsD ls)) rfl)]
    simp only
    rw [enum_K]
    exact e
  rw [eE, eG, seq_nx a1]
  rfl
section
variable {n : Nat} {ps : List (Option Nat)} {ls : List (List Nat)} {xs : List PyData}
theorem ltN (a b : Nat) : cmpD (fun i j => decide (i < j)) (natD a) (natD b) = some (decide (a < b)) := by
  show some (decide ((a : Int) < b)) = _
  congr 1
  rw [decide_eq_decide]
  omega
end
def optN : Option Nat → PyData
  | some k => natD k
  | none => .none
theorem mb_first (ls : List (List Nat)) (n : PyData) : ∀ (bs : List Nat) (x : Sl),
    match bs.find? (fun b => !decide (b ∈ ls.flatten)) with
    | none => ∃ env, loopL (bN 2) mbB (nats bs) [.val (.tuple (lotsD ls)), .val n, x] = some (.nx env)
    | some b => ∃ env, loopL (bN 2) mbB (nats bs) [.val (.tuple (lotsD ls)), .val n, x] = some (.rt (natD b) env)
  | [], x => ⟨_, rfl⟩
  | b :: bs, x => by
    by_cases c : b ∈ ls.flatten
    · rw [List.find?_cons_of_neg (by simp [c]), show nats (b :: bs) = natD b :: nats bs from rfl, loopL_nx0 (b := bN 2) (d := natD b) (env := [.val (.tuple (lotsD ls)), .val n, x]) rfl (mb_body ls n b c)]
      exact mb_first ls n bs _
    · have cl := call_ok (m := m_lot_of) (env := [.val (.tuple (lotsD ls)), .val n, .val (.int b)]) (gl := Pf.gCons (gN 0) (Pf.gCons (gN 2) Pf.gNil)) (cons_ok (n_val (i := 0) rfl) (cons_ok (n_val (i := 2) rfl) nil_ok)) (lot_of_no ls b c)
      have t := tst_ok (f := isD) (gb := gC .none) cl (e := .none) rfl (show isD .none .none = some true from rfl)
      have q : mbB [.val (.tuple (lotsD ls)), .val n, .val (.int b)] = some (.rt (natD b) [.val (.tuple (lotsD ls)), .val n, .val (.int b)]) := by
        unfold mbB
        rw [ifS_t t]
        rfl
      rw [List.find?_cons_of_pos (by simp [c])]
      exact ⟨_, loopL_rt0 (b := bN 2) (d := natD b) (env := [.val (.tuple (lotsD ls)), .val n, x]) rfl q⟩
theorem missing_is (L : List (List Nat)) (n : Nat) (hn : n < 1000) : m_missing_book [.tuple (lotsD L), natD n] = some (.ok (optN ((List.range n).find? fun b => !decide (b ∈ L.flatten)))) := by
  have eG : G_missing_book = gSeq (gForR1 (gN 1) (bN 2) mbB) (gRet (gC .none)) := rfl
  have eE : envD 3 [.tuple (lotsD L), natD n] = [.val (.tuple (lotsD L)), .val (natD n), .no] := rfl
  have f : gForR1 (gN 1) (bN 2) mbB [.val (.tuple (lotsD L)), .val (natD n), .no] = loopL (bN 2) mbB (nats (List.range n)) [.val (.tuple (lotsD L)), .val (natD n), .no] := by
    unfold gForR1
    rw [gE_ok (n_val (d := natD n) rfl)]
    simp only
    rw [if_pos (by omega), Int.toNat_natCast, rng_nats]
  have e := mb_first L (natD n) (List.range n) .no
  cases hf : (List.range n).find? fun b => !decide (b ∈ L.flatten) with
  | none =>
    rw [hf] at e
    obtain ⟨env, e⟩ := e
    refine fnD_rt (r := env) ?_
    rw [eE, eG]
    exact seq_to (f.trans e) rfl
  | some b =>
    rw [hf] at e
    obtain ⟨env, e⟩ := e
    refine fnD_rt (r := env) ?_
    rw [eE, eG]
    exact seq_rt (f.trans e)
theorem lotScan_nd {n : Nat} : ∀ (ds : List PyData) (met met' : List Nat), lotScan n met ds = some met' → met.Nodup → (∀ b ∈ met, b < n) → met'.Nodup ∧ ∀ b ∈ met', b < n
  | [], met, met', h, h1, h2 => by cases h; exact ⟨h1, h2⟩
  | d :: ds, met, met', h, h1, h2 => by
    unfold lotScan at h
    cases hp : plN n d with
    | none => rw [hp] at h; cases h
    | some b =>
      rw [hp] at h
      simp only at h
      by_cases c : b ∈ met
      · rw [if_pos c] at h; cases h
      · rw [if_neg c] at h
        refine lotScan_nd ds _ _ h ?_ fun x hx => ?_
        · rw [List.nodup_append]
          refine ⟨h1, by simp, fun a ha b' hb' => ?_⟩
          rw [List.mem_singleton] at hb'
          intro e
          exact c (hb' ▸ e ▸ ha)
        · rcases List.mem_append.mp hx with hx | hx
          · exact h2 x hx
          · rw [List.mem_singleton.mp hx]; exact (plN_some hp).2
theorem lotsScan_nd {n m : Nat} : ∀ (xs : List PyData) (k : Nat) (met met' : List Nat), lotsScan n m k met xs = .ok met' → met.Nodup → (∀ b ∈ met, b < n) → k ≤ m → (met'.Nodup ∧ ∀ b ∈ met', b < n) ∧ k + xs.length ≤ m
  | [], k, met, met', h, h1, h2, hk => by cases h; exact ⟨⟨h1, h2⟩, hk⟩
  | d :: xs, k, met, met', h, h1, h2, hk => by
    unfold lotsScan at h
    by_cases c : k = m
    · rw [if_pos c] at h; cases h
    · rw [if_neg c] at h
      cases d with
      | tuple ys =>
        simp only at h
        cases hs : lotScan n met ys with
        | none => rw [hs] at h; cases h
        | some m2 =>
          rw [hs] at h
          simp only at h
          obtain ⟨a1, a2⟩ := lotScan_nd ys _ _ hs h1 h2
          obtain ⟨a3, a4⟩ := lotsScan_nd xs _ _ _ h a1 a2 (by omega)
          exact ⟨a3, by rw [List.length_cons]; omega⟩
      | _ => cases h
end Q
/-! part D01a -/
set_option Elab.async false
set_option linter.all false
set_option maxRecDepth 100000
set_option maxHeartbeats 4000000
namespace Q
open PySem PySem.Spec L2
open Pf
def priceB : PyData → Bool
  | .none => true
  | .int i => decide (1 ≤ i ∧ i ≤ 99)
  | _ => false
theorem chain_le {ga gb gc : M PyData} {E : En} {a v z : Int} (h1 : ga E = some (.ok (.int a, E))) (h2 : gb E = some (.ok (.int v, E))) (h3 : gc E = some (.ok (.int z, E))) :
    gChain ga gb gc (cmpD fun i j => decide (i ≤ j)) (cmpD fun i j => decide (i ≤ j)) E = some (.ok (.bool (decide (a ≤ v ∧ v ≤ z)), E)) := by
  by_cases h0 : a ≤ v
  · have o : cmpD (fun i j => decide (i ≤ j)) (.int a) (.int v) = some true := by
      show some (decide (a ≤ v)) = _
      rw [decide_eq_true h0]
    have o2 : (cmpD (fun i j => decide (i ≤ j)) (.int v) (.int z)).map PyData.bool = some (.bool (decide (a ≤ v ∧ v ≤ z))) := by
      show some (PyData.bool (decide (v ≤ z))) = _
      congr 2
      rw [decide_eq_decide]
      exact ⟨fun h => ⟨h0, h⟩, fun h => h.2⟩
    refine (bd_ok h1).trans ((bd_ok h2).trans ((bd_ok (opt_ok o)).trans ?_))
    rw [if_pos rfl]
    exact (bd_ok h3).trans (opt_ok o2)
  · have o : cmpD (fun i j => decide (i ≤ j)) (.int a) (.int v) = some false := by
      show some (decide (a ≤ v)) = _
      rw [decide_eq_false h0]
    refine (bd_ok h1).trans ((bd_ok h2).trans ((bd_ok (opt_ok o)).trans ?_))
    rw [if_neg (by decide), decide_eq_false (fun h => h0 h.1)]
    rfl
theorem price_any (q : PyData) (h : niceD q = true) : m_is_price [q] = some (.ok (.bool (priceB q))) := by
  cases q with
  | list xs => rfl
  | tuple xs => rfl
  | dict xs => cases h
  | none => rfl
  | bool b => rfl
  | str x => rfl
  | int i =>
    refine fnD_rt (r := [.val (.int i)]) ?_
    have c := chain_le (ga := gC (.int 1)) (gb := gN 0) (gc := gC (.int 99)) (E := [.val (.int i)]) (a := 1) (v := i) (z := 99) rfl (n_val rfl) rfl
    have e : gOr (gCmp isD (gN 0) (gC .none)) (gAnd (gCall m_is_number (Pf.gCons (gN 0) Pf.gNil)) (gChain (gC (.int 1)) (gN 0) (gC (.int 99)) (cmpD fun i j => decide (i ≤ j)) (cmpD fun i j => decide (i ≤ j)))) [.val (.int i)] = gChain (gC (.int 1)) (gN 0) (gC (.int 99)) (cmpD fun i j => decide (i ≤ j)) (cmpD fun i j => decide (i ≤ j)) [.val (.int i)] := rfl
    exact ret_ok (e.trans c)
theorem law_is_any (v : PyData) (h : niceD v = true) (lo hi : Int) : m__law_is [v, .int lo, .int hi] = some (.ok (.bool (inR v lo hi))) := by
  cases v with
  | list xs => rfl
  | tuple xs => rfl
  | dict xs => cases h
  | none => rfl
  | bool b => rfl
  | str x => rfl
  | int i => exact law_is_ok _ rfl lo hi
theorem place_is (v : PyData) (n : Nat) : inR v 0 ((n : Int) - 1) = (plN n v).isSome := by
  rw [← plN_in]
  cases v with
  | int i =>
    show decide (0 ≤ i ∧ i ≤ (n : Int) - 1) = decide (0 ≤ i ∧ i < (n : Int))
    rw [decide_eq_decide]
    omega
  | _ => rfl
theorem price_is (v : PyData) : (isNoneD v || inR v 1 99) = priceB v := by
  cases v <;> rfl
def priceScan : Nat → List PyData → Option Nat
  | _, [] => none
  | k, q :: r => if k = 12 ∨ priceB q = false then some k else priceScan (k + 1) r
def priceW (p : PyData) : Option Nat := match p with
  | .tuple qs => if qs.isEmpty = true then some 0 else priceScan 0 qs
  | _ => some 0
theorem wp_any (a : PyData) : ∀ (qs : List PyData) (k : Nat) (x y : Sl), (∀ q ∈ qs, niceD q = true) →
    match priceScan k qs with
    | none => ∃ env, loopL (bTup 2 (bCons (bN 1) (bCons (bN 2) bNil))) wpB (enumK k qs) [.val a, x, y] = some (.nx env)
    | some j => ∃ env, loopL (bTup 2 (bCons (bN 1) (bCons (bN 2) bNil))) wpB (enumK k qs) [.val a, x, y] = some (.rt (natD j) env)
  | [], k, x, y, _ => ⟨_, rfl⟩
  | q :: qs, k, x, y, h => by
    have step : loopL (bTup 2 (bCons (bN 1) (bCons (bN 2) bNil))) wpB (enumK k (q :: qs)) [.val a, x, y] = (match wpB [.val a, .val (natD k), .val q] with
      | some (.nx env2) => loopL (bTup 2 (bCons (bN 1) (bCons (bN 2) bNil))) wpB (enumK (k + 1) qs) env2
      | some (.ct env2) => loopL (bTup 2 (bCons (bN 1) (bCons (bN 2) bNil))) wpB (enumK (k + 1) qs) env2
      | some (.bk env2) => some (.nx env2)
      | o => o) := rfl
    have t1 := tst_ok (f := eqD) (ga := gN 1) (gb := gC (.int 12)) (env := [.val a, .val (natD k), .val q]) (n_val (i := 1) (d := natD k) rfl) (e := natD 12) rfl (eqD_nat k 12)
    have t2 := notT_ok (tru_ok (call_ok (m := m_is_price) (env := [.val a, .val (natD k), .val q]) (gl := Pf.gCons (gN 2) Pf.gNil) (cons_ok (n_val (i := 2) rfl) nil_ok) (price_any q (h q List.mem_cons_self))) (show truD (.bool (priceB q)) = some (priceB q) from rfl))
    unfold priceScan
    by_cases c1 : k = 12
    · rw [if_pos (.inl c1)]
      rw [decide_eq_true c1] at t1
      have b : wpB [.val a, .val (natD k), .val q] = some (.rt (natD k) [.val a, .val (natD k), .val q]) := by
        unfold wpB
        rw [ifS_t (orT_t t1)]
        rfl
      rw [step, b]
      exact ⟨_, rfl⟩
    · rw [decide_eq_false c1] at t1
      cases c2 : priceB q with
      | false =>
        rw [c2] at t2
        rw [if_pos (.inr rfl)]
        have b : wpB [.val a, .val (natD k), .val q] = some (.rt (natD k) [.val a, .val (natD k), .val q]) := by
          unfold wpB
          rw [ifS_t ((orT_f t1).trans t2)]
          rfl
        rw [step, b]
        exact ⟨_, rfl⟩
      | true =>
        rw [c2] at t2
        rw [if_neg (by simp [c1])]
        have b : wpB [.val a, .val (natD k), .val q] = some (.nx [.val a, .val (natD k), .val q]) := by
          unfold wpB
          rw [ifS_f ((orT_f t1).trans t2)]
          rfl
        rw [step, b]
        exact wp_any a qs (k + 1) _ _ fun z hz => h z (List.mem_cons_of_mem _ hz)
theorem wrong_price_any {p : PyData} (hp : niceD p = true) (hq : ∀ qs, p = .tuple qs → ∀ q ∈ qs, niceD q = true) : m_wrong_price [p] = some (.ok (optN (priceW p))) := by
  have eG : G_wrong_price = gSeq (gIfS (gOrT (gNotT (gTru (gIsa "tuple" (gN 0)))) (gTst eqD (gLenP 0) (gC (.int 0)))) (gRet (gC (.int 0))) gNx) (gSeq (gForET (gN 0) (bTup 2 (bCons (bN 1) (bCons (bN 2) bNil))) wpB) (gRet (gC .none))) := rfl
  have eE : envD 3 [p] = [.val p, .no, .no] := rfl
  have t0 := notT_ok (tru_ok (isa_okA (env := [.val p, .no, .no]) (n_val (i := 0) (d := p) rfl) (isTy_tup hp)) (show truD (.bool (tupB p)) = some (tupB p) from rfl))
  have no : tupB p = false → m_wrong_price [p] = some (.ok (natD 0)) := fun f => by
    rw [f] at t0
    refine fnD_rt (r := [.val p, .no, .no]) ?_
    rw [eE, eG]
    exact seq_rt ((ifS_t (orT_t t0)).trans rfl)
  cases p with
  | tuple qs =>
    have l : gLenP 0 [.val (.tuple qs), .no, .no] = some (.ok (natD qs.length, [.val (.tuple qs), .no, .no])) := rfl
    have t1 := tst_ok (f := eqD) (gb := gC (.int 0)) l (e := natD 0) rfl (eqD_nat qs.length 0)
    unfold priceW
    simp only
    cases qs with
    | nil =>
      rw [decide_eq_true (by rfl)] at t1
      refine fnD_rt (r := [.val (.tuple []), .no, .no]) ?_
      rw [eE, eG]
      exact seq_rt ((ifS_t ((orT_f t0).trans t1)).trans rfl)
    | cons q qs =>
      rw [decide_eq_false (by simp)] at t1
      rw [if_neg (by simp)]
      have a1 : gIfS (gOrT (gNotT (gTru (gIsa "tuple" (gN 0)))) (gTst eqD (gLenP 0) (gC (.int 0)))) (gRet (gC (.int 0))) gNx [.val (.tuple (q :: qs)), .no, .no] = some (.nx [.val (.tuple (q :: qs)), .no, .no]) := (ifS_f ((orT_f t0).trans t1)).trans rfl
      have a2 : gForET (gN 0) (bTup 2 (bCons (bN 1) (bCons (bN 2) bNil))) wpB [.val (.tuple (q :: qs)), .no, .no] = loopL (bTup 2 (bCons (bN 1) (bCons (bN 2) bNil))) wpB (enumK 0 (q :: qs)) [.val (.tuple (q :: qs)), .no, .no] := by
        unfold gForET
        rw [gE_ok (n_val (d := .tuple (q :: qs)) rfl)]
        simp only
        rw [enum_K]
      have w := wp_any (.tuple (q :: qs)) (q :: qs) 0 .no .no (hq _ rfl)
      cases hs : priceScan 0 (q :: qs) with
      | none =>
        rw [hs] at w
        obtain ⟨env, e⟩ := w
        refine fnD_rt (r := env) ?_
        rw [eE, eG]
        exact seq_to a1 (seq_to (a2.trans e) rfl)
      | some j =>
        rw [hs] at w
        obtain ⟨env, e⟩ := w
        refine fnD_rt (r := env) ?_
        rw [eE, eG]
        exact seq_to a1 (seq_rt (a2.trans e))
  | list ys => exact no rfl
  | dict ys => cases hp
  | int i => exact no rfl
  | none => exact no rfl
  | bool b => exact no rfl
  | str x => exact no rfl
def lotsW (n : Nat) (l : PyData) : Option (Int × Nat) := match wrongL n 1 5 l with
  | some k => some (1, k)
  | none => (match l with
    | .tuple xs => (match lotsScan n 5 0 [] xs with
      | .ok met => ((List.range n).find? fun b => !decide (b ∈ met)).map fun b => (2, b)
      | .error _ => none)
    | _ => none)
def shelfW (d : PyData) : Option (Int × Nat) := match d with
  | .tuple [p, l] => (match priceW p with
    | some k => some (0, k)
    | none => (match p with
      | .tuple qs => lotsW qs.length l
      | _ => none))
  | _ => some (-1, 0)
structure NiceS (d : PyData) : Prop where
  n : niceD d = true
  p : ∀ a b, d = .tuple [a, b] → niceD a = true ∧ ∀ qs, a = .tuple qs → qs.length ≤ 100 ∧ okD 4 a ∧ ∀ q ∈ qs, niceD q = true
  l : ∀ a b, d = .tuple [a, b] → niceD b = true ∧ ∀ xs, b = .tuple xs → xs.length ≤ 30 ∧ LotsN xs ∧ okD 4 b
theorem priceScan_le : ∀ (qs : List PyData) (k j : Nat), priceScan k qs = some j → j ≤ k + qs.length
  | [], k, j, h => by cases h
  | q :: qs, k, j, h => by
    unfold priceScan at h
    rw [List.length_cons]
    split at h
    · cases h; omega
    · have := priceScan_le qs (k + 1) j h; omega
theorem priceScan_few : ∀ (qs : List PyData) (k : Nat), priceScan k qs = none → k ≤ 12 → k + qs.length ≤ 12
  | [], k, _, h => h
  | q :: qs, k, h, hk => by
    unfold priceScan at h
    rw [List.length_cons]
    split at h
    · cases h
    · rename_i c
      have := priceScan_few qs (k + 1) h (by have : k ≠ 12 := fun e => c (.inl e); omega)
      omega
theorem priceW_le {a : PyData} {k : Nat} (h : ∀ qs, a = .tuple qs → qs.length ≤ 100) (e : priceW a = some k) : k ≤ 100 := by
  cases a with
  | tuple qs =>
    unfold priceW at e
    simp only at e
    split at e
    · cases e; omega
    · have := priceScan_le qs 0 k e
      have := h qs rfl
      omega
  | _ => cases e; omega
theorem wrongL_le {n fw mx k : Nat} {l : PyData} (h : ∀ xs, l = .tuple xs → xs.length ≤ 30) (e : wrongL n fw mx l = some k) : k ≤ 30 := by
  cases l with
  | tuple xs =>
    have hx := h xs rfl
    have e : (match lotsScan n mx 0 [] xs with
      | .error k => some k
      | .ok _ => if xs.length < fw then some xs.length else none) = some k := e
    cases hs : lotsScan n mx 0 [] xs with
    | error j =>
      rw [hs] at e
      cases e
      have := lotsScan_err xs 0 [] _ hs
      omega
    | ok met =>
      rw [hs] at e
      simp only at e
      split at e
      · cases e; exact hx
      · cases e
  | _ => cases e; omega
end Q
/-! part D01b -/
set_option Elab.async false
set_option linter.all false
set_option maxRecDepth 100000
set_option maxHeartbeats 4000000
namespace Q
open PySem PySem.Spec L2
open Pf
def BadSh (p : Int) (k : Nat) : Xc := ⟨"BadShelf", some [(("number" : Str), natD k), (("part" : Str), .int p)]⟩
theorem raise_sh {gp gk : M PyData} {E : En} {p : Int} {k : Nat} (h1 : gp E = some (.ok (.int p, E))) (h2 : gk E = some (.ok (natD k, E))) (hp : printable (.int p) = true) (hk : k < 1000) :
    gRaise "BadShelf" ["part", "number"] (Pf.gCons gp (Pf.gCons gk Pf.gNil)) E = some (.er (BadSh p k) E) := by
  have z := cons_ok h1 (cons_ok h2 nil_ok)
  have pr : ([.int p, natD k] : List PyData).all printable = true := by
    show (printable (.int p) && (printable (natD k) && true)) = true
    rw [hp, print_nat hk]
    rfl
  unfold gRaise
  rw [gE_ok z, if_pos ⟨rfl, pr⟩]
  rfl
theorem len_any (ts : List PyData) (h : ∀ a b, ts ≠ [a, b]) (E : En) (e : E[0]? = some (.val (.tuple ts))) : gOrT (gNotT (gTru (gIsa "tuple" (gN 0)))) (gTst neD (gLenP 0) (gC (.int 2))) E = some (.ok (true, E)) := by
  have t0 : gNotT (gTru (gIsa "tuple" (gN 0))) E = some (.ok (false, E)) := notT_ok (tru_ok (isa_okA (n_val (i := 0) (d := .tuple ts) e) (isTy_tup rfl)) (show truD (.bool true) = some true from rfl))
  have l : gLenP 0 E = some (.ok (natD ts.length, E)) := by
    have pk : gPeek 0 E = some (.ok (ts, E)) := by
      unfold gPeek
      rw [e]
    exact (bd_ok pk).trans rfl
  have ne : ts.length ≠ 2 := fun q => by
    match ts, q with
    | [a, b], _ => exact h a b rfl
  have t := tst_ok (f := neD) (gb := gC (.int 2)) l (e := .int 2) rfl (show neD (natD ts.length) (.int 2) = some true by
    rw [neD_int]
    rw [decide_eq_false (by omega)]
    rfl)
  exact (orT_f t0).trans t
theorem two_ok (a b : PyData) (r : En) : gOrT (gNotT (gTru (gIsa "tuple" (gN 0)))) (gTst neD (gLenP 0) (gC (.int 2))) (.val (.tuple [a, b]) :: r) = some (.ok (false, .val (.tuple [a, b]) :: r)) := rfl
theorem not_tup {d : PyData} (hd : niceD d = true) (h : tupB d = false) (E : En) (e : E[0]? = some (.val d)) : gOrT (gNotT (gTru (gIsa "tuple" (gN 0)))) (gTst neD (gLenP 0) (gC (.int 2))) E = some (.ok (true, E)) := by
  have t0 := notT_ok (tru_ok (isa_okA (n_val (i := 0) (d := d) e) (isTy_tup hd)) (show truD (.bool (tupB d)) = some (tupB d) from rfl))
  rw [h] at t0
  exact orT_t t0
theorem two_or {d : PyData} (hd : niceD d = true) (x : Sl) (r : En) : (∃ a b, d = .tuple [a, b]) ∨ ((∀ a b, d ≠ .tuple [a, b]) ∧ gOrT (gNotT (gTru (gIsa "tuple" (gN 0)))) (gTst neD (gLenP 0) (gC (.int 2))) (.val d :: r) = some (.ok (true, .val d :: r))) := by
  by_cases c : ∃ a b, d = .tuple [a, b]
  · exact .inl c
  · have n : ∀ a b, d ≠ .tuple [a, b] := fun a b e => c ⟨a, b, e⟩
    refine .inr ⟨n, ?_⟩
    cases d with
    | tuple ts => exact len_any ts (fun a b e => n a b (by rw [e])) _ rfl
    | list ys => exact not_tup hd rfl _ rfl
    | dict ys => cases hd
    | int i => exact not_tup hd rfl _ rfl
    | none => exact not_tup hd rfl _ rfl
    | bool b => exact not_tup hd rfl _ rfl
    | str x => exact not_tup hd rfl _ rfl
theorem shelfW_no {d : PyData} (h : ∀ a b, d ≠ .tuple [a, b]) : shelfW d = some (-1, 0) := by
  cases d with
  | tuple ts =>
    match ts with
    | [] => rfl
    | [_] => rfl
    | [a, b] => exact absurd rfl (h a b)
    | _ :: _ :: _ :: _ => rfl
  | _ => rfl
theorem check_shelf_any {d : PyData} (hd : NiceS d) : m_check_shelf [d] = (match shelfW d with
    | none => some (.ok .none)
    | some (p, k) => some (.error (BadSh p k))) := by
  have eE : envD 4 [d] = [.val d, .no, .no, .no] := rfl
  rcases two_or hd.n .no [.no, .no, .no] with ⟨a, b, rfl⟩ | ⟨n, t⟩
  · obtain ⟨na, qa⟩ := hd.p a b rfl
    obtain ⟨nb, qb⟩ := hd.l a b rfl
    have b0 : (gIfS (gOrT (gNotT (gTru (gIsa "tuple" (gN 0)))) (gTst neD (gLenP 0) (gC (.int 2)))) (gRaise "BadShelf" ["part", "number"] (Pf.gCons (gUn negD (gC (.int 1))) (Pf.gCons (gC (.int 0)) Pf.gNil))) gNx) [.val (.tuple [a, b]), .no, .no, .no] = some (.nx [.val (.tuple [a, b]), .no, .no, .no]) := (ifS_f (two_ok a b _)).trans rfl
    have b1 : gAsg (bTup 2 (bCons (bN 1) (bCons (bN 2) bNil))) (gN 0) [.val (.tuple [a, b]), .no, .no, .no] = some (.nx [.val (.tuple [a, b]), .val a, .val b, .no]) := rfl
    have wp := wrong_price_any na fun qs e q hq => (qa qs e).2.2 q hq
    have d1 : gSet 3 (gCall m_wrong_price (Pf.gCons (gN 1) Pf.gNil)) [.val (.tuple [a, b]), .val a, .val b, .no] = some (.nx [.val (.tuple [a, b]), .val a, .val b, .val (optN (priceW a))]) := (set_ok (call_ok (cons_ok (n_val (i := 1) (d := a) rfl) nil_ok) wp)).trans rfl
    have g3 : ∀ v : PyData, gN 3 [.val (.tuple [a, b]), .val a, .val b, .val v] = some (.ok (v, [.val (.tuple [a, b]), .val a, .val b, .val v])) := fun v => n_val rfl
    have ts : ∀ k : Nat, gTst isnD (gN 3) (gC .none) [.val (.tuple [a, b]), .val a, .val b, .val (natD k)] = some (.ok (true, [.val (.tuple [a, b]), .val a, .val b, .val (natD k)])) := fun k => rfl
    have tn : gTst isnD (gN 3) (gC .none) [.val (.tuple [a, b]), .val a, .val b, .val .none] = some (.ok (false, [.val (.tuple [a, b]), .val a, .val b, .val .none])) := rfl
    unfold shelfW
    simp only
    cases hw : priceW a with
    | some k =>
      rw [hw] at d1
      have hk := priceW_le (fun qs e => (qa qs e).1) hw
      refine fnD_er (r := [.val (.tuple [a, b]), .val a, .val b, .val (natD k)]) ?_
      rw [eE]
      unfold G_check_shelf
      exact seq_to b0 (seq_to b1 (seq_to d1 (seq_er ((ifS_t (ts k)).trans (raise_sh (p := 0) rfl (g3 _) (by decide) (by omega))))))
    | none =>
      rw [hw] at d1
      cases a with
      | tuple qs =>
        have lq : ∀ v : PyData, gLenP 1 [.val (.tuple [.tuple qs, b]), .val (.tuple qs), .val b, .val v] = some (.ok (natD qs.length, [.val (.tuple [.tuple qs, b]), .val (.tuple qs), .val b, .val v])) := fun v => rfl
        have wl := wrong_any (n := qs.length) (fw := 1) (mx := 5) nb (fun xs e => ⟨(qb xs e).1, (qb xs e).2.1⟩)
        have c0 := (ifS_f (a := gRaise "BadShelf" ["part", "number"] (Pf.gCons (gC (.int 0)) (Pf.gCons (gN 3) Pf.gNil))) (b := gNx) tn).trans (show gNx _ = some (.nx _) from rfl)
        have z2 := cons_ok (n_val (i := 2) (d := b) (env := [.val (.tuple [.tuple qs, b]), .val (.tuple qs), .val b, .val .none]) rfl) (cons_ok (lq .none) (cons_ok (show gC (.int 1) _ = some (.ok (natD 1, _)) from rfl) (cons_ok (show gC (.int 5) _ = some (.ok (natD 5, _)) from rfl) nil_ok)))
        unfold lotsW
        simp only
        cases hwl : wrongL qs.length 1 5 b with
        | some k =>
          rw [hwl] at wl
          have hk := wrongL_le (fun xs e => (qb xs e).1) hwl
          have d2 : gSet 3 (gCall m_wrong_lot (Pf.gCons (gN 2) (Pf.gCons (gLenP 1) (Pf.gCons (gC (.int 1)) (Pf.gCons (gC (.int 5)) Pf.gNil))))) [.val (.tuple [.tuple qs, b]), .val (.tuple qs), .val b, .val .none] = some (.nx [.val (.tuple [.tuple qs, b]), .val (.tuple qs), .val b, .val (natD k)]) := (set_ok (call_ok z2 wl)).trans rfl
          refine fnD_er (r := [.val (.tuple [.tuple qs, b]), .val (.tuple qs), .val b, .val (natD k)]) ?_
          rw [eE]
          unfold G_check_shelf
          exact seq_to b0 (seq_to b1 (seq_to d1 (seq_to c0 (seq_to d2 (seq_er ((ifS_t (ts k)).trans (raise_sh (p := 1) rfl (g3 _) (by decide) (by omega))))))))
        | none =>
          rw [hwl] at wl
          have d2 : gSet 3 (gCall m_wrong_lot (Pf.gCons (gN 2) (Pf.gCons (gLenP 1) (Pf.gCons (gC (.int 1)) (Pf.gCons (gC (.int 5)) Pf.gNil))))) [.val (.tuple [.tuple qs, b]), .val (.tuple qs), .val b, .val .none] = some (.nx [.val (.tuple [.tuple qs, b]), .val (.tuple qs), .val b, .val .none]) := (set_ok (call_ok z2 wl)).trans rfl
          have c1 := (ifS_f (a := gRaise "BadShelf" ["part", "number"] (Pf.gCons (gC (.int 1)) (Pf.gCons (gN 3) Pf.gNil))) (b := gNx) tn).trans (show gNx _ = some (.nx _) from rfl)
          cases b with
          | tuple xs =>
            have eW : wrongL qs.length 1 5 (.tuple xs) = (match lotsScan qs.length 5 0 [] xs with
              | .error k => some k
              | .ok _ => if xs.length < 1 then some xs.length else none) := rfl
            simp only
            cases hs : lotsScan qs.length 5 0 [] xs with
            | error j => rw [eW, hs] at hwl; cases hwl
            | ok met =>
              obtain ⟨L, rfl, rfl⟩ := lotsScan_is xs 0 [] met hs
              have few := priceScan_few qs 0 (by
                unfold priceW at hw
                simp only at hw
                split at hw
                · cases hw
                · exact hw) (by omega)
              have ms := missing_is L qs.length (by omega)
              have d3 : gSet 3 (gCall m_missing_book (Pf.gCons (gN 2) (Pf.gCons (gLenP 1) Pf.gNil))) [.val (.tuple [.tuple qs, .tuple (lotsD L)]), .val (.tuple qs), .val (.tuple (lotsD L)), .val .none] = some (.nx [.val (.tuple [.tuple qs, .tuple (lotsD L)]), .val (.tuple qs), .val (.tuple (lotsD L)), .val (optN ((List.range qs.length).find? fun b => !decide (b ∈ L.flatten)))]) := (set_ok (call_ok (cons_ok (n_val (i := 2) (d := .tuple (lotsD L)) rfl) (cons_ok (lq .none) nil_ok)) ms)).trans rfl
              simp only [List.nil_append]
              cases hf : (List.range qs.length).find? fun b => !decide (b ∈ L.flatten) with
              | none =>
                rw [hf] at d3
                refine fnD_nx (r := [.val (.tuple [.tuple qs, .tuple (lotsD L)]), .val (.tuple qs), .val (.tuple (lotsD L)), .val .none]) ?_
                rw [eE]
                unfold G_check_shelf
                exact seq_to b0 (seq_to b1 (seq_to d1 (seq_to c0 (seq_to d2 (seq_to c1 (seq_to d3 ((ifS_f tn).trans rfl)))))))
              | some k =>
                rw [hf] at d3
                have hk : k < qs.length := List.mem_range.mp (List.mem_of_find?_eq_some hf)
                refine fnD_er (r := [.val (.tuple [.tuple qs, .tuple (lotsD L)]), .val (.tuple qs), .val (.tuple (lotsD L)), .val (natD k)]) ?_
                rw [eE]
                unfold G_check_shelf
                exact seq_to b0 (seq_to b1 (seq_to d1 (seq_to c0 (seq_to d2 (seq_to c1 (seq_to d3 ((ifS_t (ts k)).trans (raise_sh (p := 2) rfl (g3 _) (by decide) (by omega)))))))))
          | _ => cases hwl
      | _ => cases hw
  · rw [shelfW_no n]
    refine fnD_er (r := [.val d, .no, .no, .no]) ?_
    rw [eE]
    unfold G_check_shelf
    exact seq_er ((ifS_t t).trans (raise_sh (p := -1) (k := 0) rfl rfl (by decide) (by decide)))
theorem priceScan_ok : ∀ (qs : List PyData) (k : Nat), priceScan k qs = none → ∃ ps : List (Option Nat), qs = pricesD ps ∧ ∀ p ∈ ps, priceOk p
  | [], k, _ => ⟨[], rfl, fun p hp => by cases hp⟩
  | q :: qs, k, h => by
    unfold priceScan at h
    split at h
    · cases h
    · rename_i c
      obtain ⟨ps, rfl, h2⟩ := priceScan_ok qs (k + 1) h
      have hq : priceB q = true := by
        cases z : priceB q with
        | true => rfl
        | false => exact absurd (.inr z) c
      cases q with
      | none => exact ⟨none :: ps, rfl, fun p hp => by
          rcases List.mem_cons.mp hp with rfl | hp
          · intro x e; cases e
          · exact h2 p hp⟩
      | int i =>
        have hi : 1 ≤ i ∧ i ≤ 99 := of_decide_eq_true hq
        refine ⟨some i.toNat :: ps, ?_, fun p hp => ?_⟩
        · show PyData.int i :: pricesD ps = PyData.int ((i.toNat : Nat) : Int) :: pricesD ps
          rw [Int.toNat_of_nonneg (by omega)]
        · rcases List.mem_cons.mp hp with rfl | hp
          · intro x e
            cases e
            omega
          · exact h2 p hp
      | _ => cases hq
theorem shelf_of {d : PyData} (h : shelfW d = none) : ∃ ps ls, d = shelfD ps ls ∧ ShelfOk ps ls := by
  by_cases c : ∃ a b, d = .tuple [a, b]
  · obtain ⟨a, b, rfl⟩ := c
    unfold shelfW at h
    simp only at h
    cases hw : priceW a with
    | some k => rw [hw] at h; cases h
    | none =>
      rw [hw] at h
      cases a with
      | tuple qs =>
        unfold priceW at hw
        simp only at hw
        split at hw
        · cases hw
        · rename_i ne
          obtain ⟨ps, rfl, hps⟩ := priceScan_ok qs 0 hw
          have few := priceScan_few _ 0 hw (by omega)
          have lp : (pricesD ps).length = ps.length := List.length_map ..
          rw [lp] at few
          simp only at h
          unfold lotsW at h
          rw [lp] at h
          cases hl : wrongL ps.length 1 5 b with
          | some k => rw [hl] at h; cases h
          | none =>
            rw [hl] at h
            cases b with
            | tuple xs =>
              have eW : wrongL ps.length 1 5 (.tuple xs) = (match lotsScan ps.length 5 0 [] xs with
                | .error k => some k
                | .ok _ => if xs.length < 1 then some xs.length else none) := rfl
              simp only at h
              cases hs : lotsScan ps.length 5 0 [] xs with
              | error j => rw [eW, hs] at hl; cases hl
              | ok met =>
                rw [hs] at h
                rw [eW, hs] at hl
                simp only at h hl
                obtain ⟨⟨nd, lt⟩, fl⟩ := lotsScan_nd xs 0 [] met hs List.nodup_nil (fun b hb => by cases hb) (by omega)
                obtain ⟨L, rfl, rfl⟩ := lotsScan_is xs 0 [] met hs
                rw [List.nil_append] at nd lt h
                rw [lotsD_len] at fl
                have hf : (List.range ps.length).find? (fun b => !decide (b ∈ L.flatten)) = none := by
                  cases z : (List.range ps.length).find? (fun b => !decide (b ∈ L.flatten)) with
                  | none => rfl
                  | some k => rw [z] at h; cases h
                have hl1 : 1 ≤ L.length := by
                  by_cases c : (lotsD L).length < 1
                  · rw [if_pos c] at hl; cases hl
                  · rw [lotsD_len] at c; omega
                refine ⟨ps, L, rfl, ?_, by omega, hps, hl1, by omega, ?_⟩
                · cases ps with
                  | nil => exact absurd rfl ne
                  | cons p ps => rw [List.length_cons]; omega
                · refine (List.perm_ext_iff_of_nodup nd List.nodup_range).mpr fun x => ⟨fun hx => List.mem_range.mpr (lt x hx), fun hx => ?_⟩
                  have := List.find?_eq_none.mp hf x hx
                  simpa using this
            | _ => cases hl
      | _ => cases hw
  · rw [shelfW_no (fun a b e => c ⟨a, b, e⟩)] at h
    cases h
end Q
/-! part D01c -/
set_option Elab.async false
set_option linter.all false
set_option maxRecDepth 100000
set_option maxHeartbeats 4000000
namespace Q
open PySem PySem.Spec L2
open Pf
def badT : Option (Int × Nat) → PyData
  | none => .none
  | some (p, k) => .tuple [.int p, natD k]
section
variable {d b : PyData} {qs xs : List PyData}
abbrev P7 (d : PyData) (qs : List PyData) (b : PyData) (x3 : Sl) : En := [.val d, .val (.tuple qs), .val b, x3, .no, .no, .no]
theorem tup_at {gp gk : M PyData} {E : En} {p k : PyData} (h1 : gp E = some (.ok (p, E))) (h2 : gk E = some (.ok (k, E))) : gRet (Pf.gTup (Pf.gCons gp (Pf.gCons gk Pf.gNil))) E = some (.rt (.tuple [p, k]) E) := ret_ok (tup_ok2 h1 h2)
theorem bp_body {k : Nat} {q : PyData} (hk : qs[k]? = some q) (hn : niceD q = true) :
    b1__law_bad (P7 d qs b (.val (natD k))) = (if k = 12 ∨ priceB q = false then some (.rt (.tuple [.int 0, natD k]) (P7 d qs b (.val (natD k)))) else some (.nx (P7 d qs b (.val (natD k))))) := by
  have g3 : gN 3 (P7 d qs b (.val (natD k))) = some (.ok (natD k, P7 d qs b (.val (natD k)))) := n_val rfl
  have t1 := tst_ok (f := eqD) (gb := gC (.int 12)) g3 (e := natD 12) rfl (eqD_nat k 12)
  have ix : gIxP 1 (gN 3) (P7 d qs b (.val (natD k))) = some (.ok (q, P7 d qs b (.val (natD k)))) := ixP_tup (k := k) (ds := qs) (ds1 := qs) rfl (n_val rfl) rfl hk
  have tn := tst_ok (f := isD) (gb := gC .none) ix (e := .none) rfl (show isD q .none = some (isNoneD q) from rfl)
  have ti := tru_ok (call_ok (m := m__law_is) (cons_ok ix (cons_ok (show gC (.int 1) _ = some (.ok (.int 1, _)) from rfl) (cons_ok (show gC (.int 99) _ = some (.ok (.int 99, _)) from rfl) nil_ok))) (law_is_any q hn 1 99)) (show truD (.bool (inR q 1 99)) = some (inR q 1 99) from rfl)
  have t2 : gOrT (gTst isD (gIxP 1 (gN 3)) (gC .none)) (gTru (gCall m__law_is (Pf.gCons (gIxP 1 (gN 3)) (Pf.gCons (gC (.int 1)) (Pf.gCons (gC (.int 99)) Pf.gNil))))) (P7 d qs b (.val (natD k))) = some (.ok (priceB q, P7 d qs b (.val (natD k)))) := by
    rw [← price_is]
    cases hn : isNoneD q with
    | true => rw [hn] at tn; exact orT_t tn
    | false => rw [hn] at tn; exact (orT_f tn).trans ti
  have rt := tup_at (gp := gC (.int 0)) (gk := gN 3) (E := P7 d qs b (.val (natD k))) rfl g3
  unfold b1__law_bad
  by_cases c1 : k = 12
  · rw [if_pos (.inl c1)]
    rw [decide_eq_true c1] at t1
    rw [ifS_t (orT_t t1), rt]
  · rw [decide_eq_false c1] at t1
    cases c2 : priceB q with
    | false =>
      rw [c2] at t2
      rw [if_pos (.inr rfl), ifS_t ((orT_f t1).trans (notT_ok t2)), rt]
    | true =>
      rw [c2] at t2
      rw [if_neg (by simp [c1]), ifS_f ((orT_f t1).trans (notT_ok t2))]
      rfl
theorem bp_loop : ∀ (rest : List PyData) (k : Nat) (x3 : Sl), (∀ i : Nat, rest[i]? = qs[k + i]?) → (∀ q ∈ rest, niceD q = true) →
    match priceScan k rest with
    | none => ∃ y3, loopL (bN 3) b1__law_bad (nats (List.range' k rest.length)) (P7 d qs b x3) = some (.nx (P7 d qs b y3))
    | some j => ∃ env, loopL (bN 3) b1__law_bad (nats (List.range' k rest.length)) (P7 d qs b x3) = some (.rt (.tuple [.int 0, natD j]) env)
  | [], k, x3, _, _ => ⟨x3, rfl⟩
  | q :: rest, k, x3, h, hn => by
    have h0 : qs[k]? = some q := by simpa using (h 0).symm
    have nxt : ∀ i : Nat, rest[i]? = qs[k + 1 + i]? := fun i => by
      have := h (i + 1)
      simp only [List.getElem?_cons_succ] at this
      rw [this]
      congr 1
      omega
    have en : nats (List.range' k (q :: rest).length) = natD k :: nats (List.range' (k + 1) rest.length) := rfl
    have bd := bp_body (d := d) (b := b) h0 (hn q List.mem_cons_self)
    rw [en]
    unfold priceScan
    by_cases c : k = 12 ∨ priceB q = false
    · rw [if_pos c] at bd ⊢
      exact ⟨_, loopL_rt0 (b := bN 3) (d := natD k) (env := P7 d qs b x3) rfl bd⟩
    · rw [if_neg c] at bd ⊢
      rw [loopL_nx0 (b := bN 3) (d := natD k) (env := P7 d qs b x3) rfl bd]
      exact bp_loop rest (k + 1) _ nxt fun z hz => hn z (List.mem_cons_of_mem _ hz)
abbrev L7 (d : PyData) (qs xs : List PyData) (met : List Nat) (x3 x5 : Sl) : En := [.val d, .val (.tuple qs), .val (.tuple xs), x3, .own (nats met), x5, .no]
theorem bl_body {k : Nat} {e : PyData} (met : List Nat) (hm : met.length < 1000000) (he : niceD e = true) :
    b2__law_bad (L7 d qs xs met (.val (natD k)) (.val e)) = (match plN qs.length e with
      | some c => if c ∈ met then some (.rt (.tuple [.int 1, natD k]) (L7 d qs xs met (.val (natD k)) (.val e))) else some (.nx (L7 d qs xs (met ++ [c]) (.val (natD k)) (.val e)))
      | none => some (.rt (.tuple [.int 1, natD k]) (L7 d qs xs met (.val (natD k)) (.val e)))) := by
  generalize eE : L7 d qs xs met (.val (natD k)) (.val e) = E
  have g3 : gN 3 E = some (.ok (natD k, E)) := by rw [← eE]; exact n_val rfl
  have g5 : gN 5 E = some (.ok (e, E)) := by rw [← eE]; exact n_val rfl
  have l1 : gLenP 1 E = some (.ok (.int (qs.length : Nat), E)) := by rw [← eE]; rfl
  have sb : gBin subD (gLenP 1) (gC (.int 1)) E = some (.ok (.int ((qs.length : Int) - 1), E)) := bin_ok l1 (e := .int 1) rfl rfl
  have ti := tru_ok (call_ok (m := m__law_is) (cons_ok g5 (cons_ok (show gC (.int 0) E = some (.ok (.int 0, E)) from rfl) (cons_ok sb nil_ok))) (law_is_any e he 0 ((qs.length : Int) - 1))) (show truD (.bool (inR e 0 ((qs.length : Int) - 1))) = some (inR e 0 ((qs.length : Int) - 1)) from rfl)
  rw [place_is] at ti
  have rt := tup_at (gp := gC (.int 1)) (gk := gN 3) (E := E) rfl g3
  unfold b2__law_bad
  cases hp : plN qs.length e with
  | none =>
    rw [hp] at ti
    exact seq_rt ((ifS_t (orT_t (notT_ok ti))).trans rt)
  | some c =>
    rw [hp] at ti
    obtain ⟨rfl, hc⟩ := plN_some hp
    have lk : gLk 4 E = some (.ok (.list (nats met), E)) := by rw [← eE]; rfl
    have t2 : gInL 4 (gN 5) E = some (.ok (decide (c ∈ met), E)) := (bd_ok g5).trans ((bd_ok lk).trans (opt_ok (inD_nats c met)))
    simp only
    by_cases hm2 : c ∈ met
    · rw [if_pos hm2]
      rw [decide_eq_true hm2] at t2
      exact seq_rt ((ifS_t ((orT_f (notT_ok ti)).trans t2)).trans rt)
    · rw [if_neg hm2]
      rw [decide_eq_false hm2] at t2
      have hh : gHeld 4 E = some (.ok (nats met, E)) := by rw [← eE]; rfl
      have ap : gApp 4 (gN 5) E = some (.nx (L7 d qs xs (met ++ [c]) (.val (natD k)) (.val (natD c)))) := by
        unfold gApp
        rw [gE_ok hh, gE_ok g5, gE_ok hh]
        rw [if_pos (by rw [nats_len]; omega)]
        have : nats met ++ [natD c] = nats (met ++ [c]) := by unfold nats; rw [List.map_append]; rfl
        rw [this, ← eE]
        rfl
      exact seq_to ((ifS_f ((orT_f (notT_ok ti)).trans t2)).trans rfl) ap
theorem bl_loop {k : Nat} : ∀ (ds : List PyData) (met : List Nat) (x5 : Sl), met.length + ds.length < 1000000 → (∀ e ∈ ds, niceD e = true) → pl x5 →
    match lotScan qs.length met ds with
    | some met' => met'.length ≤ met.length + ds.length ∧ ∃ y5, pl y5 ∧ loopL (bN 5) b2__law_bad ds (L7 d qs xs met (.val (natD k)) x5) = some (.nx (L7 d qs xs met' (.val (natD k)) y5))
    | none => ∃ env, loopL (bN 5) b2__law_bad ds (L7 d qs xs met (.val (natD k)) x5) = some (.rt (.tuple [.int 1, natD k]) env)
  | [], met, x5, _, _, hp => ⟨by simp, x5, hp, rfl⟩
  | e :: ds, met, x5, hl, h, hp => by
    rw [List.length_cons] at hl
    have bd := bl_body (d := d) (qs := qs) (xs := xs) (k := k) met (by omega) (h e List.mem_cons_self)
    unfold lotScan
    cases hp : plN qs.length e with
    | none =>
      rw [hp] at bd
      exact ⟨_, loopL_rt0 (b := bN 5) (d := e) (env := L7 d qs xs met (.val (natD k)) x5) rfl bd⟩
    | some c =>
      rw [hp] at bd
      simp only at bd ⊢
      by_cases hm : c ∈ met
      · rw [if_pos hm] at bd ⊢
        exact ⟨_, loopL_rt0 (b := bN 5) (d := e) (env := L7 d qs xs met (.val (natD k)) x5) rfl bd⟩
      · rw [if_neg hm] at bd ⊢
        have r := bl_loop (k := k) ds (met ++ [c]) (.val e) (by rw [List.length_append, List.length_singleton]; omega) (fun x hx => h x (List.mem_cons_of_mem _ hx)) (.inr ⟨_, rfl⟩)
        have e1 := loopL_nx0 (b := bN 5) (g := b2__law_bad) (ds := ds) (d := e) (env := L7 d qs xs met (.val (natD k)) x5) rfl bd
        cases hs : lotScan qs.length (met ++ [c]) ds with
        | none =>
          rw [hs] at r
          obtain ⟨env, r⟩ := r
          exact ⟨env, e1.trans r⟩
        | some met' =>
          rw [hs] at r
          obtain ⟨l, y5, py, r⟩ := r
          refine ⟨?_, y5, py, e1.trans r⟩
          rw [List.length_append, List.length_singleton] at l
          rw [List.length_cons]
          omega
def stepB (n k : Nat) (met : List Nat) (dk : PyData) : Except Nat (List Nat) := if k = 5 then .error k else match dk with
  | .tuple ys => (match lotScan n met ys with
    | some met' => .ok met'
    | none => .error k)
  | _ => .error k
theorem bq_body {k : Nat} {dk : PyData} (met : List Nat) (hm : met.length < 100000) (x5 : Sl) (hp : pl x5) (hk : xs[k]? = some dk) (hd : niceD dk = true ∧ ∀ ys, dk = .tuple ys → ys.length ≤ 100 ∧ ∀ e ∈ ys, niceD e = true) :
    match stepB qs.length k met dk with
    | .ok met' => met'.length ≤ met.length + 100 ∧ ∃ y5, pl y5 ∧ b3__law_bad (L7 d qs xs met (.val (natD k)) x5) = some (.nx (L7 d qs xs met' (.val (natD k)) y5))
    | .error j => ∃ env, b3__law_bad (L7 d qs xs met (.val (natD k)) x5) = some (.rt (.tuple [.int 1, natD j]) env) := by
  have g3 : gN 3 (L7 d qs xs met (.val (natD k)) x5) = some (.ok (natD k, L7 d qs xs met (.val (natD k)) x5)) := n_val rfl
  have t1 := tst_ok (f := eqD) (gb := gC (.int 5)) g3 (e := natD 5) rfl (eqD_nat k 5)
  have ix : gIxP 2 (gN 3) (L7 d qs xs met (.val (natD k)) x5) = some (.ok (dk, L7 d qs xs met (.val (natD k)) x5)) := ixP_tup (k := k) (ds := xs) (ds1 := xs) rfl (n_val rfl) rfl hk
  have t2 := notT_ok (tru_ok (isa_okA ix (isTy_tup hd.1)) (show truD (.bool (tupB dk)) = some (tupB dk) from rfl))
  have rt := tup_at (gp := gC (.int 1)) (gk := gN 3) (E := L7 d qs xs met (.val (natD k)) x5) rfl g3
  unfold b3__law_bad stepB
  by_cases c : k = 5
  · rw [if_pos c]
    rw [decide_eq_true c] at t1
    exact ⟨_, seq_rt ((ifS_t (orT_t t1)).trans rt)⟩
  · rw [if_neg c]
    rw [decide_eq_false c] at t1
    have no : tupB dk = false → ∃ env, gSeq (gIfS (gOrT (gTst eqD (gN 3) (gC (.int 5))) (gNotT (gTru (gIsa "tuple" (gIxP 2 (gN 3)))))) (gRet (Pf.gTup (Pf.gCons (gC (.int 1)) (Pf.gCons (gN 3) Pf.gNil)))) gNx) (gForT (gIxP 2 (gN 3)) (bN 5) b2__law_bad) (L7 d qs xs met (.val (natD k)) x5) = some (.rt (.tuple [.int 1, natD k]) env) := fun f => by
      rw [f] at t2
      exact ⟨_, seq_rt ((ifS_t ((orT_f t1).trans t2)).trans rt)⟩
    cases dk with
    | tuple ys =>
      obtain ⟨hl, hn⟩ := hd.2 ys rfl
      have a1 : gIfS (gOrT (gTst eqD (gN 3) (gC (.int 5))) (gNotT (gTru (gIsa "tuple" (gIxP 2 (gN 3)))))) (gRet (Pf.gTup (Pf.gCons (gC (.int 1)) (Pf.gCons (gN 3) Pf.gNil)))) gNx (L7 d qs xs met (.val (natD k)) x5) = some (.nx (L7 d qs xs met (.val (natD k)) x5)) := (ifS_f ((orT_f t1).trans t2)).trans rfl
      have lp := bl_loop (d := d) (qs := qs) (xs := xs) (k := k) ys met x5 (by omega) hn hp
      have f : gForT (gIxP 2 (gN 3)) (bN 5) b2__law_bad (L7 d qs xs met (.val (natD k)) x5) = loopL (bN 5) b2__law_bad ys (L7 d qs xs met (.val (natD k)) x5) := by
        unfold gForT
        rw [gE_ok ix]
      simp only
      cases hs : lotScan qs.length met ys with
      | none =>
        rw [hs] at lp
        obtain ⟨env, q⟩ := lp
        exact ⟨env, seq_to a1 (f.trans q)⟩
      | some met' =>
        rw [hs] at lp
        obtain ⟨l, y5, py, q⟩ := lp
        exact ⟨by omega, y5, py, seq_to a1 (f.trans q)⟩
    | list ys => exact no rfl
    | dict ys => exact no rfl
    | int i => exact no rfl
    | none => exact no rfl
    | bool b => exact no rfl
    | str x => exact no rfl
theorem bq_loop : ∀ (rest : List PyData) (k : Nat) (met : List Nat) (x3 x5 : Sl), (∀ i : Nat, rest[i]? = xs[k + i]?) → LotsN rest → met.length + rest.length * 100 < 90000 → pl x5 →
    match lotsScan qs.length 5 k met rest with
    | .ok met' => ∃ y3 y5, pl y5 ∧ loopL (bN 3) b3__law_bad (nats (List.range' k rest.length)) (L7 d qs xs met x3 x5) = some (.nx (L7 d qs xs met' y3 y5))
    | .error j => ∃ env, loopL (bN 3) b3__law_bad (nats (List.range' k rest.length)) (L7 d qs xs met x3 x5) = some (.rt (.tuple [.int 1, natD j]) env)
  | [], k, met, x3, x5, _, _, _, hp => ⟨x3, x5, hp, rfl⟩
  | dk :: rest, k, met, x3, x5, h, hn, hl, hp => by
    rw [List.length_cons] at hl
    have h0 : xs[k]? = some dk := by simpa using (h 0).symm
    have nxt : ∀ i : Nat, rest[i]? = xs[k + 1 + i]? := fun i => by
      have := h (i + 1)
      simp only [List.getElem?_cons_succ] at this
      rw [this]
      congr 1
      omega
    have en : nats (List.range' k (dk :: rest).length) = natD k :: nats (List.range' (k + 1) rest.length) := rfl
    have bd := bq_body (d := d) (qs := qs) met (by omega) x5 hp h0 (hn dk List.mem_cons_self)
    have st : lotsScan qs.length 5 k met (dk :: rest) = (match stepB qs.length k met dk with
      | .ok met' => lotsScan qs.length 5 (k + 1) met' rest
      | .error j => .error j) := by
      unfold stepB
      show (if k = 5 then Except.error k else _) = _
      by_cases c : k = 5
      · rw [if_pos c, if_pos c]
      · rw [if_neg c, if_neg c]
        cases dk with
        | tuple ys =>
          simp only
          cases lotScan qs.length met ys <;> rfl
        | _ => rfl
    rw [st, en]
    generalize stepB qs.length k met dk = V at bd
    cases V with
    | error j =>
      obtain ⟨env, q⟩ := bd
      exact ⟨env, loopL_rt0 (b := bN 3) (d := natD k) (env := L7 d qs xs met x3 x5) rfl q⟩
    | ok met' =>
      obtain ⟨l, y5, py, q⟩ := bd
      have r := bq_loop rest (k + 1) met' (.val (natD k)) y5 nxt (fun d hd => hn d (List.mem_cons_of_mem _ hd)) (by omega) py
      have e1 := loopL_nx0 (b := bN 3) (g := b3__law_bad) (ds := nats (List.range' (k + 1) rest.length)) (d := natD k) (env := L7 d qs xs met x3 x5) rfl q
      simp only
      cases hs : lotsScan qs.length 5 (k + 1) met' rest with
      | error j =>
        rw [hs] at r
        obtain ⟨env, r⟩ := r
        exact ⟨env, e1.trans r⟩
      | ok m2 =>
        rw [hs] at r
        obtain ⟨y3, y5', py', r⟩ := r
        exact ⟨y3, y5', py', e1.trans r⟩
end
end Q
/-! part D01d -/
set_option Elab.async false
set_option linter.all false
set_option maxRecDepth 100000
set_option maxHeartbeats 4000000
namespace Q
open PySem PySem.Spec L2
open Pf
theorem eqD_empty4 {xs : List PyData} (h : okD 4 (.tuple xs)) : eqD (.tuple xs) (.tuple []) = some xs.isEmpty := by
  rw [eqD_ok (k := 4) (j := 1) h (okD_tuple (k := 0) (by simp)) (by decide) (by decide)]
  cases xs <;> simp [PyData.eqv, PyData.eqvAll]
def noT : PyData → Bool
  | .tuple qs => qs.isEmpty
  | _ => true
theorem tup_or {i : Nat} {E : En} {d : PyData} (e : E[i]? = some (.val d)) (hd : niceD d = true) (hk : ∀ qs, d = .tuple qs → okD 4 d) :
    gOrT (gNotT (gTru (gIsa "tuple" (gN i)))) (gTst eqD (gN i) (Pf.gTup Pf.gNil)) E = some (.ok (noT d, E)) := by
  have g : gN i E = some (.ok (d, E)) := n_val e
  have t0 := notT_ok (tru_ok (isa_okA g (isTy_tup hd)) (show truD (.bool (tupB d)) = some (tupB d) from rfl))
  cases d with
  | tuple qs =>
    have t1 := tst_ok (f := eqD) g (show Pf.gTup Pf.gNil E = some (.ok (.tuple [], E)) from rfl) (eqD_empty4 (hk qs rfl))
    exact (orT_f t0).trans t1
  | list ys => exact orT_t t0
  | dict ys => cases hd
  | int i => exact orT_t t0
  | none => exact orT_t t0
  | bool b => exact orT_t t0
  | str x => exact orT_t t0
theorem ninD_nats (b : Nat) (l : List Nat) : ninD (natD b) (.list (nats l)) = some (!decide (b ∈ l)) := by
  unfold ninD
  rw [show inD (natD b) (.list (nats l)) = some (decide (b ∈ l)) from inD_nats b l]
theorem law_bad_any {d : PyData} (hd : NiceS d) : m__law_bad [d] = some (.ok (badT (shelfW d))) := by
  have eE : envD 7 [d] = [.val d, .no, .no, .no, .no, .no, .no] := rfl
  rcases two_or hd.n .no [.no, .no, .no, .no, .no, .no] with ⟨a, b, rfl⟩ | ⟨n, t⟩
  · obtain ⟨na, qa⟩ := hd.p a b rfl
    obtain ⟨nb, qb⟩ := hd.l a b rfl
    generalize eDD : PyData.tuple [a, b] = dd at *
    have b0 : gIfS (gOrT (gNotT (gTru (gIsa "tuple" (gN 0)))) (gTst neD (gLenP 0) (gC (.int 2)))) (gRet (Pf.gTup (Pf.gCons (gBin subD (gC (.int 0)) (gC (.int 1))) (Pf.gCons (gC (.int 0)) Pf.gNil)))) gNx [.val dd, .no, .no, .no, .no, .no, .no] = some (.nx [.val dd, .no, .no, .no, .no, .no, .no]) := by
      rw [← eDD]
      exact (ifS_f (two_ok a b _)).trans rfl
    have b1 : gAsg (bTup 2 (bCons (bN 1) (bCons (bN 2) bNil))) (gN 0) [.val dd, .no, .no, .no, .no, .no, .no] = some (.nx [.val dd, .val a, .val b, .no, .no, .no, .no]) := by
      rw [← eDD]
      rfl
    have t2 := tup_or (i := 1) (E := [.val dd, .val a, .val b, .no, .no, .no, .no]) (d := a) rfl na fun qs e => (qa qs e).2.1
    rw [← eDD]
    unfold shelfW
    simp only
    have bad0 : priceW a = some 0 → noT a = true → m__law_bad [dd] = some (.ok (badT (some (0, 0)))) := fun _ h2 => by
      rw [h2] at t2
      refine fnD_rt (r := [.val dd, .val a, .val b, .no, .no, .no, .no]) ?_
      rw [eE]
      unfold G__law_bad
      exact seq_to b0 (seq_to b1 (seq_rt ((ifS_t t2).trans rfl)))
    rw [eDD]
    cases a with
    | tuple qs =>
      obtain ⟨q1, q2, q3⟩ := qa qs rfl
      cases hemp : qs.isEmpty with
      | true =>
        have : priceW (.tuple qs) = some 0 := by unfold priceW; simp only; rw [if_pos hemp]
        rw [this]
        exact bad0 this hemp
      | false =>
        rw [show noT (.tuple qs) = false from hemp] at t2
        have eP : priceW (.tuple qs) = priceScan 0 qs := by unfold priceW; simp only; rw [if_neg (by rw [hemp]; decide)]
        have a2 := (ifS_f (a := gRet (Pf.gTup (Pf.gCons (gC (.int 0)) (Pf.gCons (gC (.int 0)) Pf.gNil)))) (b := gNx) t2).trans (show gNx _ = some (.nx _) from rfl)
        have f3 := forR1_ok (ga := gLenP 1) (b := bN 3) (g := b1__law_bad) (n := qs.length) (env := P7 dd qs b .no) rfl (by omega)
        have lp := bp_loop (d := dd) (b := b) (qs := qs) qs 0 .no (fun i => by rw [Nat.zero_add]) q3
        rw [eP]
        cases hs : priceScan 0 qs with
        | some k =>
          rw [hs] at lp
          obtain ⟨env, e⟩ := lp
          refine fnD_rt (r := env) ?_
          rw [eE]
          unfold G__law_bad
          exact seq_to b0 (seq_to b1 (seq_to a2 (seq_rt (f3.trans e))))
        | none =>
          rw [hs] at lp
          obtain ⟨y3, e⟩ := lp
          have few := priceScan_few qs 0 hs (by omega)
          simp only
          have t4 := tup_or (i := 2) (E := P7 dd qs b y3) (d := b) rfl nb fun xs e => (qb xs e).2.2
          have bad1 : noT b = true → m__law_bad [dd] = some (.ok (badT (some (1, 0)))) := fun h2 => by
            rw [h2] at t4
            refine fnD_rt (r := P7 dd qs b y3) ?_
            rw [eE]
            unfold G__law_bad
            exact seq_to b0 (seq_to b1 (seq_to a2 (seq_to (f3.trans e) (seq_rt ((ifS_t t4).trans rfl)))))
          unfold lotsW
          cases b with
          | tuple xs =>
            obtain ⟨x1, x2, x3⟩ := qb xs rfl
            have eW : wrongL qs.length 1 5 (.tuple xs) = (match lotsScan qs.length 5 0 [] xs with
              | .error k => some k
              | .ok _ => if xs.length < 1 then some xs.length else none) := rfl
            rw [eW]
            cases hemp2 : xs.isEmpty with
            | true =>
              obtain rfl := List.isEmpty_iff.mp hemp2
              exact bad1 rfl
            | false =>
              rw [show noT (.tuple xs) = false from hemp2] at t4
              have hx1 : ¬ xs.length < 1 := fun c => by
                cases xs with
                | nil => cases hemp2
                | cons _ _ => rw [List.length_cons] at c; omega
              have a4 := (ifS_f (a := gRet (Pf.gTup (Pf.gCons (gC (.int 1)) (Pf.gCons (gC (.int 0)) Pf.gNil)))) (b := gNx) t4).trans (show gNx _ = some (.nx _) from rfl)
              have a5 : gSetO 4 (Pf.gLst Pf.gNil) (P7 dd qs (.tuple xs) y3) = some (.nx (L7 dd qs xs [] y3 .no)) := rfl
              have f6 := forR1_ok (ga := gLenP 2) (b := bN 3) (g := b3__law_bad) (n := xs.length) (env := L7 dd qs xs [] y3 .no) rfl (by omega)
              have lq := bq_loop (d := dd) (qs := qs) (xs := xs) xs 0 [] y3 .no (fun i => by rw [Nat.zero_add]) x2 (by rw [List.length_nil]; omega) (.inl rfl)
              cases hs2 : lotsScan qs.length 5 0 [] xs with
              | error j =>
                rw [hs2] at lq
                obtain ⟨env, e2⟩ := lq
                refine fnD_rt (r := env) ?_
                rw [eE]
                unfold G__law_bad
                exact seq_to b0 (seq_to b1 (seq_to a2 (seq_to (f3.trans e) (seq_to a4 (seq_to a5 (seq_rt (f6.trans e2)))))))
              | ok met =>
                rw [hs2] at lq
                obtain ⟨y3', y5, py, e2⟩ := lq
                simp only
                rw [if_neg hx1]
                simp only
                rw [hs2]
                simp only
                have lc := lcR1p (j := 5) (gt := t4__law_bad) (ge := e5__law_bad) (ga := gLenP 1) (env := L7 dd qs xs met y3' y5) (env1 := L7 dd qs xs met y3' y5) (n := qs.length) (fun c => !decide (c ∈ met)) natD rfl (by omega) rfl py (fun c hc => by
                  have g5 : gN 5 (L7 dd qs xs met y3' (.val (natD c))) = some (.ok (natD c, L7 dd qs xs met y3' (.val (natD c)))) := n_val rfl
                  have lk : gLk 4 (L7 dd qs xs met y3' (.val (natD c))) = some (.ok (.list (nats met), L7 dd qs xs met y3' (.val (natD c)))) := rfl
                  have q : gNinL 4 (gN 5) (L7 dd qs xs met y3' (.val (natD c))) = some (.ok (!decide (c ∈ met), L7 dd qs xs met y3' (.val (natD c)))) := (bd_ok g5).trans ((bd_ok lk).trans (opt_ok (ninD_nats c met)))
                  exact q) (fun c _ _ => n_val rfl)
                have a7 : gSetO 6 (gLcR [5] 5 t4__law_bad e5__law_bad (gLenP 1)) (L7 dd qs xs met y3' y5) = some (.nx [.val dd, .val (.tuple qs), .val (.tuple xs), y3', .own (nats met), y5, .own (nats ((List.range qs.length).filter fun c => !decide (c ∈ met)))]) := (setO_ok lc).trans rfl
                generalize eF : (List.range qs.length).filter (fun c => !decide (c ∈ met)) = F at a7
                have hF : F.head? = (List.range qs.length).find? (fun c => !decide (c ∈ met)) := by rw [← eF, List.head?_filter]
                have n6 : gN 6 [.val dd, .val (.tuple qs), .val (.tuple xs), y3', .own (nats met), y5, .own (nats F)] = some (.ok (.list (nats F), [.val dd, .val (.tuple qs), .val (.tuple xs), y3', .own (nats met), y5, .val (.list (nats F))])) := n_own rfl
                have z : gFz (Pf.gLst Pf.gNil) [.val dd, .val (.tuple qs), .val (.tuple xs), y3', .own (nats met), y5, .val (.list (nats F))] = some (.ok (.list [], [.val dd, .val (.tuple qs), .val (.tuple xs), y3', .own (nats met), y5, .val (.list (nats F))])) := rfl
                have t8 := tst_ok (f := neD) n6 z nats_ne
                refine fnD_rt (r := [.val dd, .val (.tuple qs), .val (.tuple xs), y3', .own (nats met), y5, .val (.list (nats F))]) ?_
                rw [eE]
                unfold G__law_bad
                refine seq_to b0 (seq_to b1 (seq_to a2 (seq_to (f3.trans e) (seq_to a4 (seq_to a5 (seq_to (f6.trans e2) (seq_to a7 ?_)))))))
                rw [← hF]
                cases F with
                | nil => exact ret_ok ((if_f t8).trans rfl)
                | cons c F => exact ret_ok ((if_t t8).trans (tup_ok2 rfl (ixP_lst (k := 0) (ds := nats (c :: F)) (ds1 := nats (c :: F)) rfl rfl rfl rfl)))
          | list ys => exact bad1 rfl
          | dict ys => cases nb
          | int i => exact bad1 rfl
          | none => exact bad1 rfl
          | bool c => exact bad1 rfl
          | str x => exact bad1 rfl
    | list ys => exact bad0 rfl rfl
    | dict ys => cases na
    | int i => exact bad0 rfl rfl
    | none => exact bad0 rfl rfl
    | bool c => exact bad0 rfl rfl
    | str x => exact bad0 rfl rfl
  · rw [shelfW_no n]
    refine fnD_rt (r := [.val d, .no, .no, .no, .no, .no, .no]) ?_
    rw [eE]
    unfold G__law_bad
    exact seq_rt ((ifS_t t).trans rfl)
end Q
/-! part D01e -/
set_option Elab.async false
set_option linter.all false
set_option maxRecDepth 100000
set_option maxHeartbeats 4000000
namespace Q
open PySem PySem.Spec L2
open Pf
def odds1 : List PyData := [.int (-1), .int 0, .int 99, .int 100, .int 12, .bool true, .none, .str "3", .int (10 ^ 20), .tuple [.int 1]]
def elF (e : PyData) : Prop := niceD e = true ∧ okD 1 e
def lotF (d : PyData) : Prop := niceD d = true ∧ (∀ ys, d = .tuple ys → ys.length ≤ 60 ∧ ∀ e ∈ ys, niceD e = true) ∧ okD 2 d
theorem elF_nats {w : List Nat} : ∀ e ∈ nats w, elF e := fun e h => by
  obtain ⟨b, _, rfl⟩ := List.mem_map.mp h
  exact ⟨rfl, okD_int _⟩
theorem elF_prices {ps : List (Option Nat)} : ∀ e ∈ pricesD ps, elF e := fun e h => by
  obtain ⟨p, _, rfl⟩ := List.mem_map.mp h
  cases p
  · exact ⟨rfl, okD_none⟩
  · exact ⟨rfl, okD_int _⟩
theorem elF_odds : ∀ e ∈ odds1, elF e := fun e h => by
  unfold odds1 at h
  simp only [List.mem_cons, List.mem_nil_iff, or_false] at h
  rcases h with rfl | rfl | rfl | rfl | rfl | rfl | rfl | rfl | rfl | rfl
  · exact ⟨rfl, okD_int _⟩
  · exact ⟨rfl, okD_int _⟩
  · exact ⟨rfl, okD_int _⟩
  · exact ⟨rfl, okD_int _⟩
  · exact ⟨rfl, okD_int _⟩
  · exact ⟨rfl, okD_bool _⟩
  · exact ⟨rfl, okD_none⟩
  · exact ⟨rfl, okD_str (by decide +kernel)⟩
  · exact ⟨rfl, okD_int _⟩
  · exact ⟨rfl, okD_tuple (k := 0) fun x hx => by rw [List.mem_singleton.mp hx]; exact okD_int _⟩
theorem lotF_odd {e : PyData} (h : e ∈ odds1) : lotF e := by
  obtain ⟨h1, h2⟩ := elF_odds e h
  refine ⟨h1, fun ys ey => ?_, h2.mono (by decide)⟩
  subst ey
  unfold odds1 at h
  simp only [List.mem_cons, List.mem_nil_iff, or_false] at h
  rcases h with h | h | h | h | h | h | h | h | h | h
  all_goals first
    | cases h; exact ⟨by decide, fun e he => by rw [List.mem_singleton.mp he]; rfl⟩
    | cases h
theorem lotF_tup {ys : List PyData} (h : ∀ e ∈ ys, elF e) (hl : ys.length ≤ 60) : lotF (.tuple ys) := ⟨rfl, fun zs e => by cases e; exact ⟨hl, fun x hx => (h x hx).1⟩, okD_tuple (k := 1) fun x hx => (h x hx).2⟩
theorem lotF_lst {ys : List PyData} (h : ∀ e ∈ ys, elF e) : lotF (.list ys) := ⟨rfl, fun zs e => (nomatch e), okD_list (k := 1) fun x hx => (h x hx).2⟩
theorem lotF_nats {w : List Nat} (h : w.length ≤ 60) : lotF (.tuple (nats w)) := lotF_tup elF_nats (by rw [nats_len]; exact h)
def priF (a : PyData) : Prop := niceD a = true ∧ ∀ qs, a = .tuple qs → qs.length ≤ 100 ∧ okD 4 a ∧ ∀ q ∈ qs, niceD q = true
def losF (b : PyData) : Prop := niceD b = true ∧ ∀ xs, b = .tuple xs → xs.length ≤ 30 ∧ LotsN xs ∧ okD 4 b
theorem niceS_two {a b : PyData} (ha : priF a) (hb : losF b) : NiceS (.tuple [a, b]) := ⟨rfl, fun c d e => by cases e; exact ha, fun c d e => by cases e; exact hb⟩
theorem niceS_no {d : PyData} (hd : niceD d = true) (h : ∀ a b, d ≠ .tuple [a, b]) : NiceS d := ⟨hd, fun a b e => absurd e (h a b), fun a b e => absurd e (h a b)⟩
theorem priF_tup {qs : List PyData} (h : ∀ q ∈ qs, elF q) (hl : qs.length ≤ 100) : priF (.tuple qs) := ⟨rfl, fun zs e => by
  cases e
  exact ⟨hl, (okD_tuple (k := 1) fun x hx => (h x hx).2).mono (by decide), fun q hq => (h q hq).1⟩⟩
theorem priF_lst {qs : List PyData} : priF (.list qs) := ⟨rfl, fun zs e => (nomatch e)⟩
theorem losF_tup {xs : List PyData} (h : ∀ x ∈ xs, lotF x) (hl : xs.length ≤ 30) : losF (.tuple xs) := ⟨rfl, fun zs e => by
  cases e
  exact ⟨hl, fun d hd => ⟨(h d hd).1, fun ys ey => ⟨by have := ((h d hd).2.1 ys ey).1; omega, ((h d hd).2.1 ys ey).2⟩⟩, (okD_tuple (k := 2) fun x hx => (h x hx).2.2).mono (by decide)⟩⟩
theorem losF_lst {xs : List PyData} : losF (.list xs) := ⟨rfl, fun zs e => (nomatch e)⟩
section
variable {ps : List (Option Nat)} {ls : List (List Nat)}
theorem pri_ok (hs : ShelfOk ps ls) : priF (.tuple (pricesD ps)) := priF_tup elF_prices (by have := hs.p2; rw [show (pricesD ps).length = ps.length from List.length_map ..]; omega)
theorem lotF_of (hs : ShelfOk ps ls) : ∀ x ∈ lotsD ls, lotF x := fun x hx => by
  obtain ⟨w, hw, rfl⟩ := List.mem_map.mp hx
  have hlen := hs.perm.length_eq
  rw [List.length_range] at hlen
  have := (List.sublist_flatten_of_mem hw).length_le
  have := hs.p2
  exact lotF_nats (by omega)
theorem los_ok (hs : ShelfOk ps ls) : losF (.tuple (lotsD ls)) := losF_tup (lotF_of hs) (by have := hs.l2; rw [lotsD_len]; omega)
theorem nice_shelf (hs : ShelfOk ps ls) : NiceS (shelfD ps ls) := niceS_two (pri_ok hs) (los_ok hs)
end
theorem mem_parts {P : PyData → Prop} {ds : List PyData} {t : PyData} {p j : Nat} (h : ∀ e ∈ ds, P e) (ht : P t) : ∀ e ∈ ds.take p ++ [t] ++ ds.drop j, P e := fun e he => by
  rcases List.mem_append.mp he with he | he
  · rcases List.mem_append.mp he with he | he
    · exact h e (List.mem_of_mem_take he)
    · rw [List.mem_singleton.mp he]; exact ht
  · exact h e (List.mem_of_mem_drop he)
theorem mem_less {P : PyData → Prop} {ds : List PyData} {p j : Nat} (h : ∀ e ∈ ds, P e) : ∀ e ∈ ds.take p ++ ds.drop j, P e := fun e he => by
  rcases List.mem_append.mp he with he | he
  · exact h e (List.mem_of_mem_take he)
  · exact h e (List.mem_of_mem_drop he)
theorem len_parts (ds : List PyData) (t : PyData) (p j : Nat) : (ds.take p ++ [t] ++ ds.drop j).length ≤ 2 * ds.length + 1 := by
  have := List.length_take_le' p ds
  rw [List.length_append, List.length_append, List.length_singleton, List.length_drop]
  omega
theorem len_less (ds : List PyData) (p j : Nat) : (ds.take p ++ ds.drop j).length ≤ 2 * ds.length := by
  have := List.length_take_le' p ds
  rw [List.length_append, List.length_drop]
  omega
section
variable {ps : List (Option Nat)} {ls : List (List Nat)}
abbrev C10 (s : Stt) (ps : List (Option Nat)) (ls : List (List Nat)) (x4 x5 x6 x7 x8 x9 : Sl) : En := [.bor (enc s), .val (shelfD ps ls), .val (.tuple (pricesD ps)), .val (.tuple (lotsD ls)), x4, x5, x6, x7, x8, x9]
def k1 : S := (gAsg (bTup 2 (bCons (bN 2) (bCons (bN 3) bNil))) (gN 1))
def k2 : S := (gE (Pf.gCons (gCallB 0 (Pf.gCons (gC (.int 12)) Pf.gNil) m__law_drawn) (Pf.gCons (gBin atD (gFz (Pf.gLst (Pf.gCons (gBin subD (gC (.int 0)) (gC (.int 1))) (Pf.gCons (gC (.int 0)) (Pf.gCons (gC (.int 99)) (Pf.gCons (gC (.int 100)) (Pf.gCons (gC (.int 12)) (Pf.gCons (gC (.bool true)) (Pf.gCons (gC .none) (Pf.gCons (gC (.str "3")) (Pf.gCons (gBin powD (gC (.int 10)) (gC (.int 20))) (Pf.gCons (Pf.gTup (Pf.gCons (gC (.int 1)) Pf.gNil)) Pf.gNil)))))))))))) (gCallB 0 (Pf.gCons (gC (.int 10)) Pf.gNil) m__law_drawn)) Pf.gNil)) (gPar 4 5))
def k3 : S := (gIfS (gTst eqD (gN 4) (gC (.int 0))) (gRet (gBin atD (gFz (Pf.gLst (Pf.gCons (Pf.gTup (Pf.gCons (gN 2) Pf.gNil)) (Pf.gCons (gBin addD (gN 1) (Pf.gTup (Pf.gCons (gC (.int 1)) Pf.gNil))) (Pf.gCons (gFz (gList (gN 1))) (Pf.gCons (gC .none) (Pf.gCons (gC (.str "row")) (Pf.gCons (Pf.gTup Pf.gNil) Pf.gNil)))))))) (gCallB 0 (Pf.gCons (gC (.int 6)) Pf.gNil) m__law_drawn))) gNx)
def k4a : S := (gSet 6 (gCallB 0 (Pf.gCons (gBin addD (gLenP 2) (gC (.int 1))) Pf.gNil) m__law_drawn))
def k4b : S := (gSetO 7 (Pf.gLst (Pf.gCons (gBin addD (gBin addD (gSlT (gN 2) gNoPt (gPt (gN 6))) (Pf.gTup (Pf.gCons (gN 5) Pf.gNil))) (gSlT (gN 2) (gPt (gBin addD (gN 6) (gC (.int 1)))) gNoPt)) (Pf.gCons (gBin addD (gSlT (gN 2) gNoPt (gPt (gN 6))) (gSlT (gN 2) (gPt (gBin addD (gN 6) (gC (.int 1)))) gNoPt)) Pf.gNil))))
def k4c : S := (gSet 7 (gBin addD (gN 7) (gFz (Pf.gLst (Pf.gCons (gBin addD (gBin addD (gSlT (gN 2) gNoPt (gPt (gN 6))) (Pf.gTup (Pf.gCons (gN 5) Pf.gNil))) (gSlT (gN 2) (gPt (gN 6)) gNoPt)) (Pf.gCons (gFz (gList (gN 2))) (Pf.gCons (Pf.gTup Pf.gNil) (Pf.gCons (gBin addD (gN 2) (gBin repT (Pf.gTup (Pf.gCons (gC (.int 1)) Pf.gNil)) (gC (.int 12)))) Pf.gNil))))))))
def k4d : S := (gRet (Pf.gTup (Pf.gCons (gIxP 7 (gCallB 0 (Pf.gCons (gC (.int 6)) Pf.gNil) m__law_drawn)) (Pf.gCons (gN 3) Pf.gNil))))
def k4 : S := (gIfS (gTst (cmpD fun i j => decide (i < j)) (gN 4) (gC (.int 4))) (gSeq k4a (gSeq k4b (gSeq k4c k4d))) gNx)
def k5 : S := (gSet 6 (gCallB 0 (Pf.gCons (gLenP 3) Pf.gNil) m__law_drawn))
def k6 : S := (gSet 8 (gIxP 3 (gN 6)))
def k7 : S := (gSet 9 (gCallB 0 (Pf.gCons (gBin addD (gLenP 8) (gC (.int 1))) Pf.gNil) m__law_drawn))
def k8a : S := (gSetO 7 (Pf.gLst (Pf.gCons (gBin addD (gBin addD (gSlT (gN 8) gNoPt (gPt (gN 9))) (Pf.gTup (Pf.gCons (gN 5) Pf.gNil))) (gSlT (gN 8) (gPt (gN 9)) gNoPt)) (Pf.gCons (gBin addD (gSlT (gN 8) gNoPt (gPt (gN 9))) (gSlT (gN 8) (gPt (gBin addD (gN 9) (gC (.int 1)))) gNoPt)) (Pf.gCons (gBin addD (gBin addD (gSlT (gN 8) gNoPt (gPt (gN 9))) (gSlT (gN 8) gNoPt (gPt (gC (.int 1))))) (gSlT (gN 8) (gPt (gN 9)) gNoPt)) Pf.gNil)))))
def k8b : S := (gSet 8 (gBin atD (gBin addD (gN 7) (gFz (Pf.gLst (Pf.gCons (gFz (gList (gN 8))) (Pf.gCons (gIxP 3 (gC (.int 0))) Pf.gNil))))) (gCallB 0 (Pf.gCons (gC (.int 5)) Pf.gNil) m__law_drawn)))
def k8c : S := (gRet (Pf.gTup (Pf.gCons (gN 2) (Pf.gCons (gBin addD (gBin addD (gSlT (gN 3) gNoPt (gPt (gN 6))) (Pf.gTup (Pf.gCons (gN 8) Pf.gNil))) (gSlT (gN 3) (gPt (gBin addD (gN 6) (gC (.int 1)))) gNoPt)) Pf.gNil))))
def k8 : S := (gIfS (gTst (cmpD fun i j => decide (i < j)) (gN 4) (gC (.int 8))) (gSeq k8a (gSeq k8b k8c)) gNx)
def k9 : S := (gSetO 7 (Pf.gLst (Pf.gCons (gBin addD (gN 3) (gBin repT (Pf.gTup (Pf.gCons (Pf.gTup Pf.gNil) Pf.gNil)) (gC (.int 5)))) (Pf.gCons (Pf.gTup Pf.gNil) (Pf.gCons (gFz (gList (gN 3))) (Pf.gCons (gBin addD (gSlT (gN 3) gNoPt (gPt (gN 6))) (gSlT (gN 3) (gPt (gBin addD (gN 6) (gC (.int 1)))) gNoPt)) (Pf.gCons (gBin addD (gN 3) (Pf.gTup (Pf.gCons (gN 5) Pf.gNil))) Pf.gNil)))))))
def k10 : S := (gRet (Pf.gTup (Pf.gCons (gN 2) (Pf.gCons (gIxP 7 (gCallB 0 (Pf.gCons (gC (.int 5)) Pf.gNil) m__law_drawn)) Pf.gNil))))
theorem changed1_is : G__law_changed = gSeq k1 (gSeq k2 (gSeq k3 (gSeq k4 (gSeq k5 (gSeq k6 (gSeq k7 (gSeq k8 (gSeq k9 k10)))))))) := rfl
theorem add_lst {xs ys : List PyData} (h : xs.length + ys.length ≤ 1000000) : addD (.list xs) (.list ys) = some (.list (xs ++ ys)) := by
  have hs := sizeLine_eq
  show (if xs.length + ys.length ≤ sizeLine then some (PyData.list (xs ++ ys)) else none) = _
  rw [if_pos (by omega)]
theorem k2_ok (s : Stt) : ∃ (s' : Stt) (v : Nat) (odd : PyData), v < 12 ∧ odd ∈ odds1 ∧ k2 (C10 s ps ls .no .no .no .no .no .no) = some (.nx (C10 s' ps ls (.val (natD v)) (.val odd) .no .no .no .no)) := by
  obtain ⟨v, s1, hv, e1⟩ := draw0 (env := C10 s ps ls .no .no .no .no .no .no) (s := s) (n := 12) (gl := Pf.gCons (gC (.int 12)) Pf.gNil) (by omega) (by omega) rfl rfl
  obtain ⟨q, s2, hq, e2⟩ := draw0 (env := C10 s1 ps ls .no .no .no .no .no .no) (s := s1) (n := 10) (gl := Pf.gCons (gC (.int 10)) Pf.gNil) (by omega) (by omega) rfl rfl
  have hq2 : q < odds1.length := hq
  generalize eE : C10 s1 ps ls .no .no .no .no .no .no = E at e2
  have o1 : gFz (Pf.gLst (Pf.gCons (gBin subD (gC (.int 0)) (gC (.int 1))) (Pf.gCons (gC (.int 0)) (Pf.gCons (gC (.int 99)) (Pf.gCons (gC (.int 100)) (Pf.gCons (gC (.int 12)) (Pf.gCons (gC (.bool true)) (Pf.gCons (gC .none) (Pf.gCons (gC (.str "3")) (Pf.gCons (gBin powD (gC (.int 10)) (gC (.int 20))) (Pf.gCons (Pf.gTup (Pf.gCons (gC (.int 1)) Pf.gNil)) Pf.gNil))))))))))) E = some (.ok (.list odds1, E)) := by
    have p : gBin powD (gC (.int 10)) (gC (.int 20)) E = some (.ok (.int (10 ^ 20), E)) := bin_ok (d := .int 10) (e := .int 20) rfl rfl (by
      show (if 0 ≤ (20 : Int) ∧ (20 : Int) ≤ 1000000 ∧ (10 : Int).natAbs < 2 ^ 64 then some (PyData.int ((10 : Int) ^ (20 : Int).toNat)) else none) = _
      rw [if_pos (by decide)]
      rfl)
    have t1 : Pf.gTup (Pf.gCons (gC (.int 1)) Pf.gNil) E = some (.ok (.tuple [.int 1], E)) := rfl
    have cc : ∀ d : PyData, gC d E = some (.ok (d, E)) := fun d => rfl
    have sb : gBin subD (gC (.int 0)) (gC (.int 1)) E = some (.ok (.int (-1), E)) := rfl
    exact fz_ok (lst_okA (cons_ok sb (cons_ok (cc _) (cons_ok (cc _) (cons_ok (cc _) (cons_ok (cc _) (cons_ok (cc _) (cons_ok (cc _) (cons_ok (cc _) (cons_ok p (cons_ok t1 nil_ok)))))))))) rfl)
  have o2 := bin_ok (f := atD) o1 e2 (atI_nat (List.getElem?_eq_getElem hq2))
  refine ⟨s2, v, odds1[q], hv, List.getElem_mem hq2, ?_⟩
  subst eE
  unfold k2
  rw [gE_ok (cons_ok e1 (cons_ok o2 nil_ok))]
  rfl
end
end Q
/-! part D01f -/
set_option Elab.async false
set_option linter.all false
set_option maxRecDepth 100000
set_option maxHeartbeats 4000000
namespace Q
open PySem PySem.Spec L2
open Pf
section
variable {ps : List (Option Nat)} {ls : List (List Nat)} {x4 x5 x6 x7 x8 x9 : Sl}
theorem lt_at {v b : Nat} {E : En} (h : gN 4 E = some (.ok (natD v, E))) : gTst (cmpD fun i j => decide (i < j)) (gN 4) (gC (.int (b : Nat))) E = some (.ok (decide (v < b), E)) := tst_ok h (e := natD b) rfl (ltN v b)
theorem k3_ok (s : Stt) (v : Nat) : (∃ (s' : Stt) (d : PyData), NiceS d ∧ k3 (C10 s ps ls (.val (natD v)) x5 x6 x7 x8 x9) = some (.rt d (C10 s' ps ls (.val (natD v)) x5 x6 x7 x8 x9))) ∨ k3 (C10 s ps ls (.val (natD v)) x5 x6 x7 x8 x9) = some (.nx (C10 s ps ls (.val (natD v)) x5 x6 x7 x8 x9)) := by
  have g4 : gN 4 (C10 s ps ls (.val (natD v)) x5 x6 x7 x8 x9) = some (.ok (natD v, C10 s ps ls (.val (natD v)) x5 x6 x7 x8 x9)) := n_val rfl
  have t := tst_ok (f := eqD) (gb := gC (.int 0)) g4 (e := natD 0) rfl (eqD_nat v 0)
  by_cases c : v = 0
  · rw [decide_eq_true c] at t
    obtain ⟨q, s1, hq, e1⟩ := draw0 (env := C10 s ps ls (.val (natD v)) x5 x6 x7 x8 x9) (s := s) (n := 6) (gl := Pf.gCons (gC (.int 6)) Pf.gNil) (by omega) (by omega) rfl rfl
    have l : gFz (Pf.gLst (Pf.gCons (Pf.gTup (Pf.gCons (gN 2) Pf.gNil)) (Pf.gCons (gBin addD (gN 1) (Pf.gTup (Pf.gCons (gC (.int 1)) Pf.gNil))) (Pf.gCons (gFz (gList (gN 1))) (Pf.gCons (gC .none) (Pf.gCons (gC (.str "row")) (Pf.gCons (Pf.gTup Pf.gNil) Pf.gNil))))))) (C10 s ps ls (.val (natD v)) x5 x6 x7 x8 x9) = some (.ok (.list [.tuple [.tuple (pricesD ps)], .tuple [.tuple (pricesD ps), .tuple (lotsD ls), .int 1], .list [.tuple (pricesD ps), .tuple (lotsD ls)], .none, .str "row", .tuple []], C10 s ps ls (.val (natD v)) x5 x6 x7 x8 x9)) := by
      generalize eE : C10 s ps ls (.val (natD v)) x5 x6 x7 x8 x9 = E
      have g1 : gN 1 E = some (.ok (shelfD ps ls, E)) := by rw [← eE]; exact n_val rfl
      have g2 : gN 2 E = some (.ok (.tuple (pricesD ps), E)) := by rw [← eE]; exact n_val rfl
      have r1 : Pf.gTup (Pf.gCons (gN 2) Pf.gNil) E = some (.ok (.tuple [.tuple (pricesD ps)], E)) := (bd_ok (cons_ok g2 nil_ok)).trans (opt_ok rfl)
      have r2 : gBin addD (gN 1) (Pf.gTup (Pf.gCons (gC (.int 1)) Pf.gNil)) E = some (.ok (.tuple [.tuple (pricesD ps), .tuple (lotsD ls), .int 1], E)) := bin_ok g1 (e := .tuple [.int 1]) rfl (add_tup (show 2 + 1 ≤ 1000000 by decide))
      have r3 : gFz (gList (gN 1)) E = some (.ok (.list [.tuple (pricesD ps), .tuple (lotsD ls)], E)) := list_tup g1
      exact fz_ok (lst_okA (cons_ok r1 (cons_ok r2 (cons_ok r3 (cons_ok rfl (cons_ok rfl (cons_ok rfl nil_ok)))))) rfl)
    have nl : ∀ d ∈ ([.tuple [.tuple (pricesD ps)], .tuple [.tuple (pricesD ps), .tuple (lotsD ls), .int 1], .list [.tuple (pricesD ps), .tuple (lotsD ls)], .none, .str "row", .tuple []] : List PyData), NiceS d := fun d m => by
      simp only [List.mem_cons, List.mem_nil_iff, or_false] at m
      rcases m with rfl | rfl | rfl | rfl | rfl | rfl
      all_goals exact niceS_no rfl fun a b e => by cases e
    have hq2 : q < ([.tuple [.tuple (pricesD ps)], .tuple [.tuple (pricesD ps), .tuple (lotsD ls), .int 1], .list [.tuple (pricesD ps), .tuple (lotsD ls)], .none, .str "row", .tuple []] : List PyData).length := hq
    generalize ([.tuple [.tuple (pricesD ps)], .tuple [.tuple (pricesD ps), .tuple (lotsD ls), .int 1], .list [.tuple (pricesD ps), .tuple (lotsD ls)], .none, .str "row", .tuple []] : List PyData) = L0 at l nl hq2
    have b := bin_ok (f := atD) l e1 (atI_nat (List.getElem?_eq_getElem hq2))
    refine .inl ⟨s1, L0[q], nl _ (List.getElem_mem hq2), ?_⟩
    unfold k3
    rw [ifS_t t]
    exact ret_ok b
  · rw [decide_eq_false c] at t
    refine .inr ?_
    unfold k3
    rw [ifS_f t]
    rfl
theorem k4_ok (hs : ShelfOk ps ls) (s : Stt) (v : Nat) {odd : PyData} (ho : odd ∈ odds1) : (∃ (s' : Stt) (d : PyData) (r : En), NiceS d ∧ k4 (C10 s ps ls (.val (natD v)) (.val odd) .no .no x8 x9) = some (.rt d (.bor (enc s') :: r))) ∨ k4 (C10 s ps ls (.val (natD v)) (.val odd) .no .no x8 x9) = some (.nx (C10 s ps ls (.val (natD v)) (.val odd) .no .no x8 x9)) := by
  have p2 := hs.p2
  have lp : (pricesD ps).length = ps.length := List.length_map ..
  have g4 : gN 4 (C10 s ps ls (.val (natD v)) (.val odd) .no .no x8 x9) = some (.ok (natD v, C10 s ps ls (.val (natD v)) (.val odd) .no .no x8 x9)) := n_val rfl
  have t : gTst (cmpD fun i j => decide (i < j)) (gN 4) (gC (.int 4)) (C10 s ps ls (.val (natD v)) (.val odd) .no .no x8 x9) = some (.ok (decide (v < 4), C10 s ps ls (.val (natD v)) (.val odd) .no .no x8 x9)) := lt_at (b := 4) g4
  unfold k4
  by_cases c : v < 4
  · rw [decide_eq_true c] at t
    refine .inl ?_
    have l2 : gLenP 2 (C10 s ps ls (.val (natD v)) (.val odd) .no .no x8 x9) = some (.ok (natD ps.length, C10 s ps ls (.val (natD v)) (.val odd) .no .no x8 x9)) := by
      have z : gLenP 2 (C10 s ps ls (.val (natD v)) (.val odd) .no .no x8 x9) = some (.ok (.int (pricesD ps).length, C10 s ps ls (.val (natD v)) (.val odd) .no .no x8 x9)) := rfl
      rw [lp] at z
      exact z
    obtain ⟨p, s1, hp, e1⟩ := draw0 (env := C10 s ps ls (.val (natD v)) (.val odd) .no .no x8 x9) (s := s) (n := ps.length + 1) (gl := Pf.gCons (gBin addD (gLenP 2) (gC (.int 1))) Pf.gNil) (by omega) (by omega) rfl (cons_ok (plus_one l2) nil_ok)
    have z1 : k4a (C10 s ps ls (.val (natD v)) (.val odd) .no .no x8 x9) = some (.nx (C10 s1 ps ls (.val (natD v)) (.val odd) (.val (natD p)) .no x8 x9)) := by
      unfold k4a
      rw [set_ok e1]
      rfl
    have lq : (pricesD ps).length ≤ 1000 := by omega
    have z2 : k4b (C10 s1 ps ls (.val (natD v)) (.val odd) (.val (natD p)) .no x8 x9) = some (.nx (C10 s1 ps ls (.val (natD v)) (.val odd) (.val (natD p)) (.own [.tuple ((pricesD ps).take p ++ [odd] ++ (pricesD ps).drop (p + 1)), .tuple ((pricesD ps).take p ++ (pricesD ps).drop (p + 1))]) x8 x9)) := by
      generalize eE : C10 s1 ps ls (.val (natD v)) (.val odd) (.val (natD p)) .no x8 x9 = E
      have g2 : gN 2 E = some (.ok (.tuple (pricesD ps), E)) := by rw [← eE]; exact n_val rfl
      have g5 : gN 5 E = some (.ok (odd, E)) := by rw [← eE]; exact n_val rfl
      have g6 : gN 6 E = some (.ok (natD p, E)) := by rw [← eE]; exact n_val rfl
      unfold k4b
      rw [setO_ok (lst_okA (cons_ok (around lq g2 g6 g5 (p + 1) (plus_one g6)) (cons_ok (without lq g2 g6 (plus_one g6)) nil_ok)) rfl), ← eE]
      rfl
    generalize eL : [PyData.tuple ((pricesD ps).take p ++ [odd] ++ (pricesD ps).drop (p + 1)), .tuple ((pricesD ps).take p ++ (pricesD ps).drop (p + 1))] = L1 at z2
    have hL1 : L1.length = 2 := by rw [← eL]; rfl
    have z3 : k4c (C10 s1 ps ls (.val (natD v)) (.val odd) (.val (natD p)) (.own L1) x8 x9) = some (.nx (C10 s1 ps ls (.val (natD v)) (.val odd) (.val (natD p)) (.val (.list (L1 ++ [.tuple ((pricesD ps).take p ++ [odd] ++ (pricesD ps).drop p), .list (pricesD ps), .tuple [], .tuple (pricesD ps ++ (List.replicate 12 [PyData.int 1]).flatten)]))) x8 x9)) := by
      have g7 : gN 7 (C10 s1 ps ls (.val (natD v)) (.val odd) (.val (natD p)) (.own L1) x8 x9) = some (.ok (.list L1, C10 s1 ps ls (.val (natD v)) (.val odd) (.val (natD p)) (.val (.list L1)) x8 x9)) := n_own rfl
      generalize eE : C10 s1 ps ls (.val (natD v)) (.val odd) (.val (natD p)) (.val (.list L1)) x8 x9 = E at g7
      have g2 : gN 2 E = some (.ok (.tuple (pricesD ps), E)) := by rw [← eE]; exact n_val rfl
      have g5 : gN 5 E = some (.ok (odd, E)) := by rw [← eE]; exact n_val rfl
      have g6 : gN 6 E = some (.ok (natD p, E)) := by rw [← eE]; exact n_val rfl
      have t1 : Pf.gTup (Pf.gCons (gC (.int 1)) Pf.gNil) E = some (.ok (.tuple [.int 1], E)) := rfl
      have rp : gBin repT (Pf.gTup (Pf.gCons (gC (.int 1)) Pf.gNil)) (gC (.int 12)) E = some (.ok (.tuple (List.replicate 12 [PyData.int 1]).flatten, E)) := bin_ok t1 (e := .int 12) rfl rfl
      have lr : ((List.replicate 12 [PyData.int 1]).flatten).length = 12 := rfl
      have ad := bin_ok g2 rp (add_tup (by rw [lr]; omega))
      have al := fz_ok (lst_okA (cons_ok (around lq g2 g6 g5 p g6) (cons_ok (list_tup g2) (cons_ok (show Pf.gTup Pf.gNil E = some (.ok (.tuple [], E)) from rfl) (cons_ok ad nil_ok)))) rfl)
      have aa := bin_ok g7 al (add_lst (by rw [hL1]; show 2 + 4 ≤ 1000000; decide))
      unfold k4c
      rw [set_ok aa, ← eE]
      rfl
    generalize eM : L1 ++ [.tuple ((pricesD ps).take p ++ [odd] ++ (pricesD ps).drop p), .list (pricesD ps), .tuple [], .tuple (pricesD ps ++ (List.replicate 12 [PyData.int 1]).flatten)] = M1 at z3
    have hM1 : M1.length = 6 := by rw [← eM, List.length_append, hL1]; rfl
    have nM : ∀ x ∈ M1, priF x := fun x hx => by
      rw [← eM, ← eL] at hx
      have lm : (pricesD ps).length ≤ 12 := by omega
      simp only [List.mem_append, List.mem_cons, List.mem_nil_iff, or_false] at hx
      rcases hx with (rfl | rfl) | rfl | rfl | rfl | rfl
      · exact priF_tup (mem_parts elF_prices (elF_odds _ ho)) (Nat.le_trans (len_parts _ _ _ _) (by omega))
      · exact priF_tup (mem_less elF_prices) (Nat.le_trans (len_less _ _ _) (by omega))
      · exact priF_tup (mem_parts elF_prices (elF_odds _ ho)) (Nat.le_trans (len_parts _ _ _ _) (by omega))
      · exact priF_lst
      · exact priF_tup (fun q hq => by cases hq) (by simp)
      · refine priF_tup (fun q hq => ?_) (by rw [List.length_append, show ((List.replicate 12 [PyData.int 1]).flatten).length = 12 from rfl]; omega)
        rcases List.mem_append.mp hq with hq | hq
        · exact elF_prices q hq
        · obtain ⟨l, hl, hq⟩ := List.mem_flatten.mp hq
          obtain ⟨_, rfl⟩ := List.mem_replicate.mp hl
          rw [List.mem_singleton.mp hq]
          exact ⟨rfl, okD_int _⟩
    obtain ⟨r, s2, hr, e2⟩ := draw0 (env := C10 s1 ps ls (.val (natD v)) (.val odd) (.val (natD p)) (.val (.list M1)) x8 x9) (s := s1) (n := 6) (gl := Pf.gCons (gC (.int 6)) Pf.gNil) (by omega) (by omega) rfl rfl
    have hr2 : r < M1.length := by omega
    have ix := ixP_lst (i := 7) (ds := M1) (ds1 := M1) (k := r) (env := C10 s1 ps ls (.val (natD v)) (.val odd) (.val (natD p)) (.val (.list M1)) x8 x9) rfl e2 rfl (List.getElem?_eq_getElem hr2)
    have g3 : gN 3 (C10 s2 ps ls (.val (natD v)) (.val odd) (.val (natD p)) (.val (.list M1)) x8 x9) = some (.ok (.tuple (lotsD ls), C10 s2 ps ls (.val (natD v)) (.val odd) (.val (natD p)) (.val (.list M1)) x8 x9)) := n_val rfl
    refine ⟨s2, .tuple [M1[r], .tuple (lotsD ls)], (C10 s2 ps ls (.val (natD v)) (.val odd) (.val (natD p)) (.val (.list M1)) x8 x9).tail, niceS_two (nM _ (List.getElem_mem hr2)) (los_ok hs), ?_⟩
    · rw [ifS_t t]
      exact seq_to z1 (seq_to z2 (seq_to z3 (ret_ok (tup_ok2 ix g3))))
  · rw [decide_eq_false c] at t
    exact .inr ((ifS_f t).trans rfl)
end
end Q
/-! part D01g -/
set_option Elab.async false
set_option linter.all false
set_option maxRecDepth 100000
set_option maxHeartbeats 4000000
namespace Q
open PySem PySem.Spec L2
open Pf
section
variable {ps : List (Option Nat)} {ls : List (List Nat)} {x4 x5 x6 x7 x8 x9 : Sl}
theorem k567_ok (hs : ShelfOk ps ls) (s : Stt) : ∃ (s' : Stt) (k p : Nat) (w : List Nat), w ∈ ls ∧ k5 (C10 s ps ls x4 x5 .no .no .no .no) = some (.nx (C10 s' ps ls x4 x5 (.val (natD k)) .no .no .no)) ∧ ∃ s'', k6 (C10 s' ps ls x4 x5 (.val (natD k)) .no .no .no) = some (.nx (C10 s' ps ls x4 x5 (.val (natD k)) .no (.val (.tuple (nats w))) .no)) ∧ k7 (C10 s' ps ls x4 x5 (.val (natD k)) .no (.val (.tuple (nats w))) .no) = some (.nx (C10 s'' ps ls x4 x5 (.val (natD k)) .no (.val (.tuple (nats w))) (.val (natD p)))) := by
  have h1 := hs.l1
  have h2 := hs.l2
  have p2 := hs.p2
  have l3 : gLenP 3 (C10 s ps ls x4 x5 .no .no .no .no) = some (.ok (natD ls.length, C10 s ps ls x4 x5 .no .no .no .no)) := by
    have z : gLenP 3 (C10 s ps ls x4 x5 .no .no .no .no) = some (.ok (.int (lotsD ls).length, C10 s ps ls x4 x5 .no .no .no .no)) := rfl
    rw [lotsD_len] at z
    exact z
  obtain ⟨k, s1, hk, e1⟩ := draw0 (env := C10 s ps ls x4 x5 .no .no .no .no) (s := s) (n := ls.length) (gl := Pf.gCons (gLenP 3) Pf.gNil) (by omega) (by omega) rfl (cons_ok l3 nil_ok)
  obtain ⟨w, hw⟩ : ∃ w, ls[k]? = some w := ⟨ls[k], List.getElem?_eq_getElem hk⟩
  have wm := List.mem_of_getElem? hw
  have hlen := hs.perm.length_eq
  rw [List.length_range] at hlen
  have wl := (List.sublist_flatten_of_mem wm).length_le
  have l8 : gLenP 8 (C10 s1 ps ls x4 x5 (.val (natD k)) .no (.val (.tuple (nats w))) .no) = some (.ok (natD w.length, C10 s1 ps ls x4 x5 (.val (natD k)) .no (.val (.tuple (nats w))) .no)) := by
    have z : gLenP 8 (C10 s1 ps ls x4 x5 (.val (natD k)) .no (.val (.tuple (nats w))) .no) = some (.ok (.int (nats w).length, C10 s1 ps ls x4 x5 (.val (natD k)) .no (.val (.tuple (nats w))) .no)) := rfl
    rw [nats_len] at z
    exact z
  obtain ⟨p, s2, hp, e2⟩ := draw0 (env := C10 s1 ps ls x4 x5 (.val (natD k)) .no (.val (.tuple (nats w))) .no) (s := s1) (n := w.length + 1) (gl := Pf.gCons (gBin addD (gLenP 8) (gC (.int 1))) Pf.gNil) (by omega) (by omega) rfl (cons_ok (plus_one l8) nil_ok)
  refine ⟨s1, k, p, w, wm, ?_, s2, ?_, ?_⟩
  · unfold k5
    rw [set_ok e1]
    rfl
  · unfold k6
    rw [set_ok (ixP_tup (k := k) (ds := lotsD ls) (ds1 := lotsD ls) (gb := gN 6) rfl (n_val rfl) rfl (lot_D hw))]
    rfl
  · unfold k7
    rw [set_ok e2]
    rfl
theorem k8_ok (hs : ShelfOk ps ls) (s : Stt) (v k p : Nat) {w : List Nat} (hw : w ∈ ls) {odd : PyData} (ho : odd ∈ odds1) :
    (∃ (s' : Stt) (d : PyData) (r : En), NiceS d ∧ k8 (C10 s ps ls (.val (natD v)) (.val odd) (.val (natD k)) .no (.val (.tuple (nats w))) (.val (natD p))) = some (.rt d (.bor (enc s') :: r))) ∨ k8 (C10 s ps ls (.val (natD v)) (.val odd) (.val (natD k)) .no (.val (.tuple (nats w))) (.val (natD p))) = some (.nx (C10 s ps ls (.val (natD v)) (.val odd) (.val (natD k)) .no (.val (.tuple (nats w))) (.val (natD p)))) := by
  have l1 := hs.l1
  have l2 := hs.l2
  have p2 := hs.p2
  have hlen := hs.perm.length_eq
  rw [List.length_range] at hlen
  have wl := (List.sublist_flatten_of_mem hw).length_le
  have nl : (nats w).length ≤ 12 := by rw [nats_len]; omega
  have lw : (nats w).length ≤ 1000 := by omega
  have ll : (lotsD ls).length ≤ 5 := by rw [lotsD_len]; exact l2
  have g4 : gN 4 (C10 s ps ls (.val (natD v)) (.val odd) (.val (natD k)) .no (.val (.tuple (nats w))) (.val (natD p))) = some (.ok (natD v, C10 s ps ls (.val (natD v)) (.val odd) (.val (natD k)) .no (.val (.tuple (nats w))) (.val (natD p)))) := n_val rfl
  have t : gTst (cmpD fun i j => decide (i < j)) (gN 4) (gC (.int 8)) (C10 s ps ls (.val (natD v)) (.val odd) (.val (natD k)) .no (.val (.tuple (nats w))) (.val (natD p))) = some (.ok (decide (v < 8), C10 s ps ls (.val (natD v)) (.val odd) (.val (natD k)) .no (.val (.tuple (nats w))) (.val (natD p)))) := lt_at (b := 8) g4
  unfold k8
  by_cases c : v < 8
  · rw [decide_eq_true c] at t
    refine .inl ?_
    have z1 : k8a (C10 s ps ls (.val (natD v)) (.val odd) (.val (natD k)) .no (.val (.tuple (nats w))) (.val (natD p))) = some (.nx (C10 s ps ls (.val (natD v)) (.val odd) (.val (natD k)) (.own [.tuple ((nats w).take p ++ [odd] ++ (nats w).drop p), .tuple ((nats w).take p ++ (nats w).drop (p + 1)), .tuple ((nats w).take p ++ (nats w).take 1 ++ (nats w).drop p)]) (.val (.tuple (nats w))) (.val (natD p)))) := by
      generalize eE : C10 s ps ls (.val (natD v)) (.val odd) (.val (natD k)) .no (.val (.tuple (nats w))) (.val (natD p)) = E
      have g8 : gN 8 E = some (.ok (.tuple (nats w), E)) := by rw [← eE]; exact n_val rfl
      have g5 : gN 5 E = some (.ok (odd, E)) := by rw [← eE]; exact n_val rfl
      have g9 : gN 9 E = some (.ok (natD p, E)) := by rw [← eE]; exact n_val rfl
      have h1 := cut_to g8 (gb := gC (.int 1)) (p := 1) rfl
      have l1 : ((nats w).take p).length ≤ (nats w).length := List.length_take_le' ..
      have l2 : ((nats w).take 1).length ≤ (nats w).length := List.length_take_le' ..
      have l3 : ((nats w).drop p).length ≤ (nats w).length := by rw [List.length_drop]; omega
      have d3 := bin_ok (bin_ok (cut_to g8 g9) h1 (add_tup (by omega))) (cut_from g8 g9) (add_tup (by rw [List.length_append]; omega))
      unfold k8a
      rw [setO_ok (lst_okA (cons_ok (around lw g8 g9 g5 p g9) (cons_ok (without lw g8 g9 (plus_one g9)) (cons_ok d3 nil_ok))) rfl), ← eE]
      rfl
    have n1 : ∀ x ∈ [PyData.tuple ((nats w).take p ++ [odd] ++ (nats w).drop p), .tuple ((nats w).take p ++ (nats w).drop (p + 1)), .tuple ((nats w).take p ++ (nats w).take 1 ++ (nats w).drop p)], lotF x := fun x hx => by
      simp only [List.mem_cons, List.mem_nil_iff, or_false] at hx
      rcases hx with rfl | rfl | rfl
      · exact lotF_tup (mem_parts elF_nats (elF_odds _ ho)) (Nat.le_trans (len_parts _ _ _ _) (by omega))
      · exact lotF_tup (mem_less elF_nats) (Nat.le_trans (len_less _ _ _) (by omega))
      · have l1 : ((nats w).take p).length ≤ (nats w).length := List.length_take_le' ..
        have l2 : ((nats w).take 1).length ≤ (nats w).length := List.length_take_le' ..
        have l3 : ((nats w).drop p).length ≤ (nats w).length := by rw [List.length_drop]; omega
        refine lotF_tup (fun e he => ?_) (by rw [List.length_append, List.length_append]; omega)
        rcases List.mem_append.mp he with he | he
        · rcases List.mem_append.mp he with he | he
          · exact elF_nats e (List.mem_of_mem_take he)
          · exact elF_nats e (List.mem_of_mem_take he)
        · exact elF_nats e (List.mem_of_mem_drop he)
    have hl1 : ([PyData.tuple ((nats w).take p ++ [odd] ++ (nats w).drop p), .tuple ((nats w).take p ++ (nats w).drop (p + 1)), .tuple ((nats w).take p ++ (nats w).take 1 ++ (nats w).drop p)]).length = 3 := rfl
    generalize [PyData.tuple ((nats w).take p ++ [odd] ++ (nats w).drop p), .tuple ((nats w).take p ++ (nats w).drop (p + 1)), .tuple ((nats w).take p ++ (nats w).take 1 ++ (nats w).drop p)] = L1 at z1 n1 hl1
    obtain ⟨w0, hw0⟩ : ∃ w0, ls[0]? = some w0 := ⟨ls[0], List.getElem?_eq_getElem (by omega)⟩
    have hw0m := List.mem_of_getElem? hw0
    have z2 : ∃ (s' : Stt) (lot : PyData), lotF lot ∧ k8b (C10 s ps ls (.val (natD v)) (.val odd) (.val (natD k)) (.own L1) (.val (.tuple (nats w))) (.val (natD p))) = some (.nx (C10 s' ps ls (.val (natD v)) (.val odd) (.val (natD k)) (.val (.list L1)) (.val lot) (.val (natD p)))) := by
      have g7 : gN 7 (C10 s ps ls (.val (natD v)) (.val odd) (.val (natD k)) (.own L1) (.val (.tuple (nats w))) (.val (natD p))) = some (.ok (.list L1, C10 s ps ls (.val (natD v)) (.val odd) (.val (natD k)) (.val (.list L1)) (.val (.tuple (nats w))) (.val (natD p)))) := n_own rfl
      obtain ⟨r, s1, hr, e1⟩ := draw0 (env := C10 s ps ls (.val (natD v)) (.val odd) (.val (natD k)) (.val (.list L1)) (.val (.tuple (nats w))) (.val (natD p))) (s := s) (n := 5) (gl := Pf.gCons (gC (.int 5)) Pf.gNil) (by omega) (by omega) rfl rfl
      have g8 : gN 8 (C10 s ps ls (.val (natD v)) (.val odd) (.val (natD k)) (.val (.list L1)) (.val (.tuple (nats w))) (.val (natD p))) = some (.ok (.tuple (nats w), C10 s ps ls (.val (natD v)) (.val odd) (.val (natD k)) (.val (.list L1)) (.val (.tuple (nats w))) (.val (natD p)))) := n_val rfl
      have i3 : gIxP 3 (gC (.int 0)) (C10 s ps ls (.val (natD v)) (.val odd) (.val (natD k)) (.val (.list L1)) (.val (.tuple (nats w))) (.val (natD p))) = some (.ok (.tuple (nats w0), C10 s ps ls (.val (natD v)) (.val odd) (.val (natD k)) (.val (.list L1)) (.val (.tuple (nats w))) (.val (natD p)))) := ixP_tup (k := 0) (ds := lotsD ls) (ds1 := lotsD ls) rfl rfl rfl (lot_D hw0)
      have al := fz_ok (lst_okA (cons_ok (list_tup g8) (cons_ok i3 nil_ok)) rfl)
      have aa := bin_ok g7 al (add_lst (by rw [hl1]; show 3 + 2 ≤ 1000000; decide))
      have nn : ∀ x ∈ L1 ++ [PyData.list (nats w), .tuple (nats w0)], lotF x := fun x hx => by
        rcases List.mem_append.mp hx with hx | hx
        · exact n1 x hx
        · simp only [List.mem_cons, List.mem_nil_iff, or_false] at hx
          rcases hx with rfl | rfl
          · exact lotF_lst elF_nats
          · have := (List.sublist_flatten_of_mem hw0m).length_le
            exact lotF_nats (by omega)
      have hr2 : r < (L1 ++ [PyData.list (nats w), .tuple (nats w0)]).length := by rw [List.length_append, hl1]; exact hr
      have b := bin_ok (f := atD) aa e1 (atI_nat (List.getElem?_eq_getElem hr2))
      refine ⟨s1, _, nn _ (List.getElem_mem hr2), ?_⟩
      unfold k8b
      rw [set_ok b]
      rfl
    obtain ⟨s1, lot, nlot, z2⟩ := z2
    have z3 : k8c (C10 s1 ps ls (.val (natD v)) (.val odd) (.val (natD k)) (.val (.list L1)) (.val lot) (.val (natD p))) = some (.rt (.tuple [.tuple (pricesD ps), .tuple ((lotsD ls).take k ++ [lot] ++ (lotsD ls).drop (k + 1))]) (C10 s1 ps ls (.val (natD v)) (.val odd) (.val (natD k)) (.val (.list L1)) (.val lot) (.val (natD p)))) := by
      generalize eE : C10 s1 ps ls (.val (natD v)) (.val odd) (.val (natD k)) (.val (.list L1)) (.val lot) (.val (natD p)) = E
      have g2 : gN 2 E = some (.ok (.tuple (pricesD ps), E)) := by rw [← eE]; exact n_val rfl
      have g3 : gN 3 E = some (.ok (.tuple (lotsD ls), E)) := by rw [← eE]; exact n_val rfl
      have g8 : gN 8 E = some (.ok (lot, E)) := by rw [← eE]; exact n_val rfl
      have g6 : gN 6 E = some (.ok (natD k, E)) := by rw [← eE]; exact n_val rfl
      exact ret_ok (tup_ok2 g2 (around (by omega) g3 g6 g8 (k + 1) (plus_one g6)))
    refine ⟨s1, _, (C10 s1 ps ls (.val (natD v)) (.val odd) (.val (natD k)) (.val (.list L1)) (.val lot) (.val (natD p))).tail, niceS_two (pri_ok hs) (losF_tup (mem_parts (p := k) (j := k + 1) (lotF_of hs) nlot) (Nat.le_trans (len_parts _ _ _ _) (by omega))), ?_⟩
    rw [ifS_t t]
    exact seq_to z1 (seq_to z2 z3)
  · rw [decide_eq_false c] at t
    exact .inr ((ifS_f t).trans rfl)
theorem k910_ok (hs : ShelfOk ps ls) (s : Stt) (v k p : Nat) {w : List Nat} {odd : PyData} (ho : odd ∈ odds1) :
    ∃ (s' : Stt) (d : PyData) (r : En), NiceS d ∧ gSeq k9 k10 (C10 s ps ls (.val (natD v)) (.val odd) (.val (natD k)) .no (.val (.tuple (nats w))) (.val (natD p))) = some (.rt d (.bor (enc s') :: r)) := by
  have l2 := hs.l2
  have ll : (lotsD ls).length ≤ 5 := by rw [lotsD_len]; exact l2
  have lr : ((List.replicate 5 [PyData.tuple []]).flatten).length = 5 := rfl
  have z1 : k9 (C10 s ps ls (.val (natD v)) (.val odd) (.val (natD k)) .no (.val (.tuple (nats w))) (.val (natD p))) = some (.nx (C10 s ps ls (.val (natD v)) (.val odd) (.val (natD k)) (.own [.tuple (lotsD ls ++ (List.replicate 5 [PyData.tuple []]).flatten), .tuple [], .list (lotsD ls), .tuple ((lotsD ls).take k ++ (lotsD ls).drop (k + 1)), .tuple (lotsD ls ++ [odd])]) (.val (.tuple (nats w))) (.val (natD p)))) := by
    generalize eE : C10 s ps ls (.val (natD v)) (.val odd) (.val (natD k)) .no (.val (.tuple (nats w))) (.val (natD p)) = E
    have g3 : gN 3 E = some (.ok (.tuple (lotsD ls), E)) := by rw [← eE]; exact n_val rfl
    have g5 : gN 5 E = some (.ok (odd, E)) := by rw [← eE]; exact n_val rfl
    have g6 : gN 6 E = some (.ok (natD k, E)) := by rw [← eE]; exact n_val rfl
    have t1 : Pf.gTup (Pf.gCons (Pf.gTup Pf.gNil) Pf.gNil) E = some (.ok (.tuple [.tuple []], E)) := rfl
    have rp : gBin repT (Pf.gTup (Pf.gCons (Pf.gTup Pf.gNil) Pf.gNil)) (gC (.int 5)) E = some (.ok (.tuple (List.replicate 5 [PyData.tuple []]).flatten, E)) := bin_ok t1 (e := .int 5) rfl rfl
    have r1 := bin_ok g3 rp (add_tup (by rw [lr]; omega))
    have to : Pf.gTup (Pf.gCons (gN 5) Pf.gNil) E = some (.ok (.tuple [odd], E)) := (bd_ok (cons_ok g5 nil_ok)).trans (opt_ok rfl)
    have r5 := bin_ok g3 to (add_tup (by rw [List.length_singleton]; omega))
    unfold k9
    rw [setO_ok (lst_okA (cons_ok r1 (cons_ok (show Pf.gTup Pf.gNil E = some (.ok (.tuple [], E)) from rfl) (cons_ok (list_tup g3) (cons_ok (without (by omega) g3 g6 (plus_one g6)) (cons_ok r5 nil_ok))))) rfl), ← eE]
    rfl
  have n1 : ∀ x ∈ [PyData.tuple (lotsD ls ++ (List.replicate 5 [PyData.tuple []]).flatten), .tuple [], .list (lotsD ls), .tuple ((lotsD ls).take k ++ (lotsD ls).drop (k + 1)), .tuple (lotsD ls ++ [odd])], losF x := fun x hx => by
    simp only [List.mem_cons, List.mem_nil_iff, or_false] at hx
    rcases hx with rfl | rfl | rfl | rfl | rfl
    · refine losF_tup (fun q hq => ?_) (by rw [List.length_append, lr]; omega)
      rcases List.mem_append.mp hq with hq | hq
      · exact lotF_of hs q hq
      · obtain ⟨l, hl, hq⟩ := List.mem_flatten.mp hq
        obtain ⟨_, rfl⟩ := List.mem_replicate.mp hl
        rw [List.mem_singleton.mp hq]
        exact lotF_tup (fun e he => by cases he) (by simp)
    · exact losF_tup (fun q hq => by cases hq) (by simp)
    · exact losF_lst
    · exact losF_tup (mem_less (lotF_of hs)) (Nat.le_trans (len_less _ _ _) (by omega))
    · refine losF_tup (fun q hq => ?_) (by rw [List.length_append, List.length_singleton]; omega)
      rcases List.mem_append.mp hq with hq | hq
      · exact lotF_of hs q hq
      · rw [List.mem_singleton.mp hq]; exact lotF_odd ho
  have hl1 : ([PyData.tuple (lotsD ls ++ (List.replicate 5 [PyData.tuple []]).flatten), .tuple [], .list (lotsD ls), .tuple ((lotsD ls).take k ++ (lotsD ls).drop (k + 1)), .tuple (lotsD ls ++ [odd])]).length = 5 := rfl
  generalize [PyData.tuple (lotsD ls ++ (List.replicate 5 [PyData.tuple []]).flatten), .tuple [], .list (lotsD ls), .tuple ((lotsD ls).take k ++ (lotsD ls).drop (k + 1)), .tuple (lotsD ls ++ [odd])] = L1 at z1 n1 hl1
  obtain ⟨r, s1, hr, e1⟩ := draw0 (env := C10 s ps ls (.val (natD v)) (.val odd) (.val (natD k)) (.own L1) (.val (.tuple (nats w))) (.val (natD p))) (s := s) (n := 5) (gl := Pf.gCons (gC (.int 5)) Pf.gNil) (by omega) (by omega) rfl rfl
  have hr2 : r < L1.length := by omega
  have g2 : gN 2 (C10 s ps ls (.val (natD v)) (.val odd) (.val (natD k)) (.own L1) (.val (.tuple (nats w))) (.val (natD p))) = some (.ok (.tuple (pricesD ps), C10 s ps ls (.val (natD v)) (.val odd) (.val (natD k)) (.own L1) (.val (.tuple (nats w))) (.val (natD p)))) := n_val rfl
  have ix := ixP_own (i := 7) (k := r) (env := C10 s ps ls (.val (natD v)) (.val odd) (.val (natD k)) (.own L1) (.val (.tuple (nats w))) (.val (natD p))) rfl e1 rfl (List.getElem?_eq_getElem hr2)
  exact ⟨s1, _, (C10 s1 ps ls (.val (natD v)) (.val odd) (.val (natD k)) (.own L1) (.val (.tuple (nats w))) (.val (natD p))).tail, niceS_two (pri_ok hs) (n1 _ (List.getElem_mem hr2)), seq_to z1 (ret_ok (tup_ok2 g2 ix))⟩
theorem changed1_ok (hs : ShelfOk ps ls) (s : Stt) : ∃ (s' : Stt) (d : PyData), NiceS d ∧ m__law_changed (enc s) [shelfD ps ls] = some (.ok (d, enc s')) := by
  have z1 : k1 (envB 10 (enc s) [shelfD ps ls]) = some (.nx (C10 s ps ls .no .no .no .no .no .no)) := rfl
  obtain ⟨s2, v, odd, hv, ho, z2⟩ := k2_ok (ps := ps) (ls := ls) s
  have fin : ∀ {d : PyData} {s' : Stt} {r : En}, gSeq k3 (gSeq k4 (gSeq k5 (gSeq k6 (gSeq k7 (gSeq k8 (gSeq k9 k10)))))) (C10 s2 ps ls (.val (natD v)) (.val odd) .no .no .no .no) = some (.rt d (.bor (enc s') :: r)) → m__law_changed (enc s) [shelfD ps ls] = some (.ok (d, enc s')) := fun {d s' r} h => by
    refine fnB_rt (r := r) ?_
    rw [changed1_is]
    exact seq_to z1 (seq_to z2 h)
  rcases k3_ok (ps := ps) (ls := ls) (x5 := .val odd) (x6 := .no) (x7 := .no) (x8 := .no) (x9 := .no) s2 v with ⟨s3, d, nd, z3⟩ | z3
  · exact ⟨s3, d, nd, fin (seq_rt z3)⟩
  · rcases k4_ok (x8 := .no) (x9 := .no) hs s2 v ho with ⟨s4, d, r, nd, z4⟩ | z4
    · exact ⟨s4, d, nd, fin (seq_to z3 (seq_rt z4))⟩
    · obtain ⟨s5, k, p, w, wm, z5, s6, z6, z7⟩ := k567_ok (x4 := .val (natD v)) (x5 := .val odd) hs s2
      rcases k8_ok hs s6 v k p wm ho with ⟨s8, d, r, nd, z8⟩ | z8
      · exact ⟨s8, d, nd, fin (seq_to z3 (seq_to z4 (seq_to z5 (seq_to z6 (seq_to z7 (seq_rt z8))))))⟩
      · obtain ⟨s9, d, r, nd, z9⟩ := k910_ok (w := w) hs s6 v k p ho
        exact ⟨s9, d, nd, fin (seq_to z3 (seq_to z4 (seq_to z5 (seq_to z6 (seq_to z7 (seq_to z8 z9))))))⟩
end
end Q
/-! part D01h -/
set_option Elab.async false
set_option linter.all false
set_option maxRecDepth 100000
set_option maxHeartbeats 4000000
namespace Q
open PySem PySem.Spec L2
open Pf
def tx (i : Int) : Str := (toString i)
theorem tx_ok : ∀ b : Nat, b < 100 → (tx (b : Int)).length ≤ 2 ∧ ((b : Int)).natAbs.log2 < 1920 := by decide +kernel
def isW (B : Nat) (d : PyData) : Prop := ∃ x : Str, d = .str x ∧ x.length ≤ B
theorem str_ok {b : Nat} (h : b < 100) : strK [natD b] = some (.str (tx b)) ∧ isW 10 (.str (tx b)) := by
  obtain ⟨h1, h2⟩ := tx_ok b h
  refine ⟨?_, tx b, rfl, by omega⟩
  show (if ((b : Int)).natAbs.log2 < 1920 then some (PyData.str (tx b)) else none) = _
  rw [if_pos h2]
theorem strs_all {B : Nat} : ∀ ds : List PyData, (∀ d ∈ ds, isW B d) → ∃ ys : List Str, strsD ds = some ys ∧ ys.length = ds.length ∧ (ys.map (·.length)).sum ≤ B * ds.length
  | [], _ => ⟨[], rfl, rfl, Nat.le_refl _⟩
  | d :: ds, h => by
    obtain ⟨x, rfl, hx⟩ := h d List.mem_cons_self
    obtain ⟨ys, h1, h2, h3⟩ := strs_all ds fun e he => h e (List.mem_cons_of_mem _ he)
    refine ⟨x :: ys, ?_, ?_, ?_⟩
    · show (strsD ds).map (fun l => x :: l) = _
      rw [h1]
      rfl
    · rw [List.length_cons, List.length_cons, h2]
    · rw [List.map_cons, List.sum_cons, List.length_cons, Nat.mul_add, Nat.mul_one]
      omega
theorem join_ok {B : Nat} {a : Str} {ds : List PyData} (ha : a.length ≤ 1) (h : ∀ d ∈ ds, isW B d) (hb : B * ds.length ≤ 100000) (hl : ds.length ≤ 1000) : ∃ x : Str, joinD a (.list ds) = some (.str x) ∧ x.length ≤ B * ds.length + ds.length := by
  obtain ⟨ys, h1, h2, h3⟩ := strs_all ds h
  have h4 : ys.length * a.length ≤ ys.length := Nat.le_trans (Nat.mul_le_mul_left _ ha) (by omega)
  refine ⟨Txt.join a ys, ?_, ?_⟩
  · unfold joinD
    simp only [seqD]
    rw [h1]
    simp only
    rw [if_pos (by omega)]
  · rw [TL.join_eq]
    have := PySem.StrLaws.join_length_le a ys
    omega
theorem row_ok {h : Str} {ds : List PyData} (hh : h.length ≤ 10) (hd : ∀ d ∈ ds, isW 10 d) (hl : ds.length ≤ 90) : ∃ x : Str, m_row_of [.str h, .list ds] = some (.ok (.str x)) ∧ x.length ≤ 1100 := by
  have al : ∀ d ∈ PyData.str h :: ds, isW 10 d := fun d hx => by
    rcases List.mem_cons.mp hx with rfl | hx
    · exact ⟨h, rfl, hh⟩
    · exact hd d hx
  obtain ⟨x, h1, h2⟩ := join_ok (a := " ") (by decide +kernel) al (by rw [List.length_cons]; omega) (by rw [List.length_cons]; omega)
  rw [List.length_cons] at h2
  refine ⟨x, fnD_rt (r := [.val (.str h), .val (.list ds)]) ?_, by omega⟩
  have l : gLstS (gN 0) (gN 1) [.val (.str h), .val (.list ds)] = some (.ok (.str h :: ds, [.val (.str h), .val (.list ds)])) := by
    have q : lstD (.str h :: ds) = some (.str h :: ds) := by
      unfold lstD
      rw [if_pos (by rw [List.length_cons]; omega)]
    refine (bd_ok (n_val (i := 0) (d := .str h) rfl)).trans ((bd_ok (n_val (i := 1) (d := .list ds) rfl)).trans ?_)
    simp only [seqD]
    exact opt_ok q
  have j : gJoin (gC (.str " ")) (gFz (gLstS (gN 0) (gN 1))) [.val (.str h), .val (.list ds)] = some (.ok (.str x, [.val (.str h), .val (.list ds)])) := (bd_ok (show gC (.str " ") [.val (.str h), .val (.list ds)] = some (.ok (.str " ", [.val (.str h), .val (.list ds)])) from rfl)).trans ((bd_ok (fz_ok l)).trans (opt_ok h1))
  exact ret_ok j
theorem blt_str {ga : M PyData} {E : En} {b : Nat} (h : ga E = some (.ok (natD b, E))) (hb : b < 100) : gBlt strK (Pf.gCons ga Pf.gNil) E = some (.ok (.str (tx b), E)) := (bd_ok (cons_ok h nil_ok)).trans (opt_ok (str_ok hb).1)
section
variable {ps : List (Option Nat)} {ls : List (List Nat)}
def ptx : Option Nat → PyData
  | none => .str "-"
  | some p => .str (tx p)
abbrev W01 (ps : List (Option Nat)) (ls : List (List Nat)) (x3 x4 x5 x6 : Sl) : En := [.val (shelfD ps ls), .val (.tuple (pricesD ps)), .val (.tuple (lotsD ls)), x3, x4, x5, x6]
theorem w3_body (hs : ShelfOk ps ls) {w : List Nat} (hw : w ∈ ls) (R : List PyData) (hR : R.length < 1000) (hA : ∀ d ∈ R, isW 1100 d) : ∃ r, isW 1100 r ∧ b3_written (W01 ps ls (.own R) (.val (.tuple (nats w))) .no .no) = some (.nx (W01 ps ls (.own (R ++ [r])) (.val (.tuple (nats w))) .no .no)) := by
  have hlen := hs.perm.length_eq
  rw [List.length_range] at hlen
  have p2 := hs.p2
  have wl := (List.sublist_flatten_of_mem hw).length_le
  have wb : ∀ b ∈ w, b < 100 := fun b hb => by
    have := List.mem_range.mp (hs.perm.mem_iff.mp (List.mem_flatten.mpr ⟨w, hw, hb⟩))
    omega
  have g4 : gN 4 (W01 ps ls (.own R) (.val (.tuple (nats w))) .no .no) = some (.ok (.tuple (w.map natD), W01 ps ls (.own R) (.val (.tuple (nats w))) .no .no)) := n_val rfl
  have lc := lcT1 (j := 6) (gt := gYes) (ge := e2_written) natD (fun _ => true) (fun b => PyData.str (tx (b : Nat))) w g4 rfl (fun _ _ => rfl) (fun b hb _ => blt_str (ga := gN 6) (b := b) (E := W01 ps ls (.own R) (.val (.tuple (nats w))) .no (.val (natD b))) (n_val rfl) (wb b hb)) (by omega)
  rw [filter_yes] at lc
  obtain ⟨x, h1, h2⟩ := row_ok (h := "lot") (ds := w.map fun b => PyData.str (tx (b : Nat))) (by decide +kernel) (fun d hd => by
    obtain ⟨b, hb, rfl⟩ := List.mem_map.mp hd
    exact (str_ok (wb b hb)).2) (by rw [List.length_map]; omega)
  have c := call_ok (m := m_row_of) (cons_ok (show gC (.str "lot") (W01 ps ls (.own R) (.val (.tuple (nats w))) .no .no) = some (.ok (.str "lot", W01 ps ls (.own R) (.val (.tuple (nats w))) .no .no)) from rfl) (cons_ok (fz_ok lc) nil_ok)) h1
  have hh : gHeld 3 (W01 ps ls (.own R) (.val (.tuple (nats w))) .no .no) = some (.ok (R, W01 ps ls (.own R) (.val (.tuple (nats w))) .no .no)) := rfl
  refine ⟨.str x, ⟨x, rfl, h2⟩, ?_⟩
  unfold b3_written gApp
  rw [gE_ok hh, gE_ok c, gE_ok hh]
  rw [if_pos (by omega)]
  rfl
theorem w3_loop (hs : ShelfOk ps ls) : ∀ (L : List (List Nat)) (R : List PyData) (x4 : Sl), (∀ w ∈ L, w ∈ ls) → R.length + L.length < 100 → (∀ d ∈ R, isW 1100 d) →
    ∃ (R' : List PyData) (y4 : Sl), R'.length = R.length + L.length ∧ (∀ d ∈ R', isW 1100 d) ∧ loopL (bN 4) b3_written (lotsD L) (W01 ps ls (.own R) x4 .no .no) = some (.nx (W01 ps ls (.own R') y4 .no .no))
  | [], R, x4, _, _, hA => ⟨R, x4, rfl, hA, rfl⟩
  | w :: L, R, x4, h, hl, hA => by
    rw [List.length_cons] at hl
    obtain ⟨r, hr, e⟩ := w3_body hs (h w List.mem_cons_self) R (by omega) hA
    obtain ⟨R', y4, h1, h2, h3⟩ := w3_loop hs L (R ++ [r]) (.val (.tuple (nats w))) (fun v hv => h v (List.mem_cons_of_mem _ hv)) (by rw [List.length_append, List.length_singleton]; omega) (fun d hd => by
      rcases List.mem_append.mp hd with hd | hd
      · exact hA d hd
      · rw [List.mem_singleton.mp hd]; exact hr)
    refine ⟨R', y4, by rw [h1, List.length_append, List.length_singleton, List.length_cons]; omega, h2, ?_⟩
    rw [show lotsD (w :: L) = .tuple (nats w) :: lotsD L from rfl, loopL_nx0 (b := bN 4) (d := .tuple (nats w)) (env := W01 ps ls (.own R) x4 .no .no) rfl e]
    exact h3
theorem written_ok (hs : ShelfOk ps ls) : ∃ x : Str, m_written [shelfD ps ls] = some (.ok (.str x)) := by
  have p2 := hs.p2
  have l2 := hs.l2
  have a1 := ex_ok (call_ok (env := [.val (shelfD ps ls), .no, .no, .no, .no, .no, .no]) (gl := Pf.gCons (gN 0) Pf.gNil) (cons_ok (n_val rfl) nil_ok) (check_shelf_ok ps ls hs))
  have a2 : gAsg (bTup 2 (bCons (bN 1) (bCons (bN 2) bNil))) (gN 0) [.val (shelfD ps ls), .no, .no, .no, .no, .no, .no] = some (.nx (W01 ps ls .no .no .no .no)) := rfl
  have g1 : gN 1 (W01 ps ls .no .no .no .no) = some (.ok (.tuple (ps.map priceD), W01 ps ls .no .no .no .no)) := n_val rfl
  have lc := lcT1 (j := 5) (gt := gYes) (ge := e1_written) priceD (fun _ => true) ptx ps g1 rfl (fun _ _ => rfl) (fun p hp _ => by
    have g5 : gN 5 (W01 ps ls .no .no (.val (priceD p)) .no) = some (.ok (priceD p, W01 ps ls .no .no (.val (priceD p)) .no)) := n_val rfl
    have t := tst_ok (f := isD) (gb := gC .none) g5 (e := .none) rfl (isD_price p)
    cases p with
    | none => exact (if_t t).trans rfl
    | some q =>
      have hq := hs.pr _ hp q rfl
      exact (if_f t).trans (blt_str (b := q) g5 (by omega))) (by omega)
  rw [filter_yes] at lc
  obtain ⟨x, h1, h2⟩ := row_ok (h := "prices") (ds := ps.map ptx) (by decide +kernel) (fun d hd => by
    obtain ⟨p, hp, rfl⟩ := List.mem_map.mp hd
    cases p with
    | none => exact ⟨"-", rfl, by decide +kernel⟩
    | some q => exact (str_ok (b := q) (by have := hs.pr _ hp q rfl; omega)).2) (by rw [List.length_map]; omega)
  have c := call_ok (m := m_row_of) (cons_ok (show gC (.str "prices") (W01 ps ls .no .no .no .no) = some (.ok (.str "prices", W01 ps ls .no .no .no .no)) from rfl) (cons_ok (fz_ok lc) nil_ok)) h1
  have a3 : gSetO 3 (Pf.gLst (Pf.gCons (gCall m_row_of (Pf.gCons (gC (.str "prices")) (Pf.gCons (gFz (gLcT [5] 5 gYes e1_written (gN 1))) Pf.gNil))) Pf.gNil)) (W01 ps ls .no .no .no .no) = some (.nx (W01 ps ls (.own [.str x]) .no .no .no)) := (setO_ok (lst_okA (cons_ok c nil_ok) rfl)).trans rfl
  obtain ⟨R, y4, r1, r2, r3⟩ := w3_loop hs ls [.str x] .no (fun _ h => h) (by simp; omega) (fun d hd => by rw [List.mem_singleton.mp hd]; exact ⟨x, rfl, h2⟩)
  have a4 : gForT (gN 2) (bN 4) b3_written (W01 ps ls (.own [.str x]) .no .no .no) = some (.nx (W01 ps ls (.own R) y4 .no .no)) := by
    unfold gForT
    rw [gE_ok (n_val (i := 2) (d := .tuple (lotsD ls)) rfl)]
    exact r3
  rw [List.length_singleton] at r1
  obtain ⟨z, j1, _⟩ := join_ok (a := "\n") (by decide +kernel) r2 (by rw [r1]; omega) (by omega)
  have n3 : gN 3 (W01 ps ls (.own R) y4 .no .no) = some (.ok (.list R, W01 ps ls (.val (.list R)) y4 .no .no)) := n_own rfl
  have j : gJoin (gC (.str "\n")) (gN 3) (W01 ps ls (.own R) y4 .no .no) = some (.ok (.str z, W01 ps ls (.val (.list R)) y4 .no .no)) := (bd_ok (show gC (.str "\n") (W01 ps ls (.own R) y4 .no .no) = some (.ok (.str "\n", W01 ps ls (.own R) y4 .no .no)) from rfl)).trans ((bd_ok n3).trans (opt_ok j1))
  refine ⟨z, fnD_rt (r := W01 ps ls (.val (.list R)) y4 .no .no) ?_⟩
  show G_written [.val (shelfD ps ls), .no, .no, .no, .no, .no, .no] = _
  unfold G_written
  exact seq_to a1 (seq_to a2 (seq_to a3 (seq_to a4 (ret_ok j))))
theorem written_no {d : PyData} {x : Xc} (h : m_check_shelf [d] = some (.error x)) : m_written [d] = some (.error x) := by
  have eE : envD 7 [d] = [.val d, .no, .no, .no, .no, .no, .no] := rfl
  have a := exE (call_er (env := [.val d, .no, .no, .no, .no, .no, .no]) (gl := Pf.gCons (gN 0) Pf.gNil) (cons_ok (n_val (i := 0) rfl) nil_ok) h)
  refine fnD_er (r := [.val d, .no, .no, .no, .no, .no, .no]) ?_
  rw [eE]
  unfold G_written
  exact seq_er a
theorem done_no {d v : PyData} {x : Xc} (h : m_check_shelf [d] = some (.error x)) : m_done [d, v] = some (.error x) := by
  have eE : envD 2 [d, v] = [.val d, .val v] := rfl
  have a := exE (call_er (env := [.val d, .val v]) (gl := Pf.gCons (gN 0) Pf.gNil) (cons_ok (n_val (i := 0) rfl) nil_ok) h)
  refine fnD_er (r := [.val d, .val v]) ?_
  rw [eE]
  unfold G_done
  exact seq_er a
theorem done_form (hs : ShelfOk ps ls) : m_done [shelfD ps ls, .none] = some (.error (BadWayX 0 "form")) := by
  have eE : envD 2 [shelfD ps ls, .none] = [.val (shelfD ps ls), .val .none] := rfl
  have a1 := ex_ok (call_ok (env := [.val (shelfD ps ls), .val .none]) (gl := Pf.gCons (gN 0) Pf.gNil) (cons_ok (n_val (i := 0) rfl) nil_ok) (check_shelf_ok ps ls hs))
  have a2 := exE (call_er (env := [.val (shelfD ps ls), .val .none]) (gl := Pf.gCons (gN 0) (Pf.gCons (gN 1) Pf.gNil)) (cons_ok (n_val (i := 0) rfl) (cons_ok (n_val (i := 1) rfl) nil_ok)) (check_deeds_no (fun xs h => (nomatch h)) (fun xs h => (nomatch h))))
  refine fnD_er (r := [.val (shelfD ps ls), .val .none]) ?_
  rw [eE]
  unfold G_done
  rw [seq_nx a1]
  exact seq_er a2
end
end Q
/-! part D01i -/
set_option Elab.async false
set_option linter.all false
set_option maxRecDepth 100000
set_option maxHeartbeats 4000000
namespace Q
open PySem PySem.Spec L2
open Pf
abbrev E1 (T : List (Addr × Str)) (a : PyData) (s : Stt) (x2 x3 x4 x5 x6 x7 : Sl) : En := [.val a, .own (enc s), x2, x3, x4, x5, x6, x7, .tab T]
def f1 : S := gSet 7 (gCallB 1 (Pf.gCons (gC (.int 12)) (Pf.gCons (gC (.int 5)) Pf.gNil)) m__law_shelf)
def f2 (Pt : Addr) : S := gForR1 (gCallB 1 (Pf.gCons (gC (.int 3)) Pf.gNil) m__law_drawn) (bN 3) (b1_law Pt)
def f3 : S := gSet 4 (gCall m__law_bad (Pf.gCons (gN 7) Pf.gNil))
def f4 : S := gSet 5 (gIf (gTst isD (gN 4) (gC .none)) (gC .none) (gBin addD (Pf.gTup (Pf.gCons (gC (.str "BadShelf")) Pf.gNil)) (gN 4)))
def f5 (Pt : Addr) : S := gSetO 6 (Pf.gLst (Pf.gCons (gKind 8 [(Pt, qLam)] kindX (gCall m_written (Pf.gCons (gN 7) Pf.gNil))) (Pf.gCons (gKind 8 [(Pt, qLam)] kindX (gCall m_done (Pf.gCons (gN 7) (Pf.gCons (gC .none) Pf.gNil)))) Pf.gNil)))
def f6 : S := gIfS (gTst neD (gIxP 6 (gC (.int 1))) (gIf (gTst isD (gN 5) (gC .none)) (Pf.gTup (Pf.gCons (gC (.str "BadWay")) (Pf.gCons (gC (.int 0)) (Pf.gCons (gC (.str "form")) Pf.gNil)))) (gN 5))) (gRet (gC (.bool false))) gNx
def f7 : S := gIfS (gOrT (gAndT (gTst isnD (gN 5) (gC .none)) (gTst neD (gIxP 6 (gC (.int 0))) (gN 5))) (gAndT (gTst isD (gN 5) (gC .none)) (gNotT (gTru (gIsa "str" (gIxP 6 (gC (.int 0)))))))) (gRet (gC (.bool false))) gNx
theorem b2_is1 (Pt : Addr) : b2_law Pt = gSeq f1 (gSeq (f2 Pt) (gSeq f3 (gSeq f4 (gSeq (f5 Pt) (gSeq f6 f7))))) := rfl
def dueT : Option (Int × Nat) → PyData
  | none => .none
  | some (p, k) => .tuple [.str "BadShelf", .int p, natD k]
theorem due_ne (p : Int) (k : Nat) : neD (dueT (some (p, k))) (dueT (some (p, k))) = some false := neD_selfK (k := 1) (okD_tuple (k := 0) (by
  intro x hx
  simp only [List.mem_cons, List.mem_nil_iff, or_false] at hx
  rcases hx with rfl | rfl | rfl
  · exact okD_str (by decide +kernel)
  · exact okD_int _
  · exact okD_int _)) (by decide) (eqvT (by
  intro x hx
  simp only [List.mem_cons, List.mem_nil_iff, or_false] at hx
  rcases hx with rfl | rfl | rfl <;> exact eqv_flat _ rfl))
theorem kind_sh (p : Int) (k : Nat) : kindX (BadSh p k) = some (dueT (some (p, k))) := rfl
theorem kind_form : kindX (BadWayX 0 "form") = some (.tuple [.str "BadWay", .int 0, .str "form"]) := rfl
section
variable {T : List (Addr × Str)} {a d : PyData} {x2 x3 x4 x5 x6 x7 : Sl} {Pt : Addr}
theorem f1_ok (s : Stt) : ∃ (s' : Stt) (d : PyData), NiceS d ∧ f1 (E1 T a s x2 x3 x4 x5 x6 x7) = some (.nx (E1 T a s' x2 x3 x4 x5 x6 (.val d))) := by
  obtain ⟨s', ps, ls, h, e⟩ := shelf_ok s
  refine ⟨s', shelfD ps ls, nice_shelf h, ?_⟩
  have c : gCallB 1 (Pf.gCons (gC (.int 12)) (Pf.gCons (gC (.int 5)) Pf.gNil)) m__law_shelf (E1 T a s x2 x3 x4 x5 x6 x7) = some (.ok (shelfD ps ls, E1 T a s' x2 x3 x4 x5 x6 x7)) :=
    callB_own (st := enc s) (ds := enc s) rfl (as := [.int 12, .int 5]) (env1 := E1 T a s x2 x3 x4 x5 x6 x7) rfl rfl e
  unfold f1
  rw [set_ok c]
  rfl
theorem bad_test (hd : NiceS d) (s : Stt) : gTst isD (gCall m__law_bad (Pf.gCons (gN 7) Pf.gNil)) (gC .none) (E1 T a s x2 x3 x4 x5 x6 (.val d)) = some (.ok ((shelfW d).isNone, E1 T a s x2 x3 x4 x5 x6 (.val d))) := by
  have c := call_ok (m := m__law_bad) (env := E1 T a s x2 x3 x4 x5 x6 (.val d)) (gl := Pf.gCons (gN 7) Pf.gNil) (cons_ok (n_val (i := 7) rfl) nil_ok) (law_bad_any hd)
  refine tst_ok (f := isD) c (e := .none) rfl ?_
  cases shelfW d with
  | none => rfl
  | some z => obtain ⟨p, k⟩ := z; rfl
theorem change_ok (hd : NiceS d) (s : Stt) : ∃ (s' : Stt) (d' : PyData), NiceS d' ∧ b1_law Pt (E1 T a s x2 x3 x4 x5 x6 (.val d)) = some (.nx (E1 T a s' x2 x3 x4 x5 x6 (.val d'))) := by
  have t := bad_test (T := T) (a := a) (x2 := x2) (x3 := x3) (x4 := x4) (x5 := x5) (x6 := x6) hd s
  unfold b1_law
  cases hw : shelfW d with
  | some z =>
    rw [hw] at t
    exact ⟨s, d, hd, (ifS_f t).trans rfl⟩
  | none =>
    rw [hw] at t
    obtain ⟨ps, ls, rfl, hs⟩ := shelf_of hw
    obtain ⟨s', d', nd, e⟩ := changed1_ok hs s
    have c : gCallB 1 (Pf.gCons (gN 7) Pf.gNil) m__law_changed (E1 T a s x2 x3 x4 x5 x6 (.val (shelfD ps ls))) = some (.ok (d', E1 T a s' x2 x3 x4 x5 x6 (.val (shelfD ps ls)))) :=
      callB_own (st := enc s) (ds := enc s) rfl (as := [shelfD ps ls]) (env1 := E1 T a s x2 x3 x4 x5 x6 (.val (shelfD ps ls))) rfl rfl e
    refine ⟨s', d', nd, (ifS_t t).trans ?_⟩
    rw [set_ok c]
    rfl
theorem changes_ok : ∀ (ks : List PyData) (d : PyData) (s : Stt) (x3 : Sl), NiceS d → nob x3 = true → ∃ (s' : Stt) (d' : PyData) (y3 : Sl), NiceS d' ∧ nob y3 = true ∧ loopL (bN 3) (b1_law Pt) ks (E1 T a s x2 x3 x4 x5 x6 (.val d)) = some (.nx (E1 T a s' x2 y3 x4 x5 x6 (.val d')))
  | [], d, s, x3, hd, h3 => ⟨s, d, x3, hd, h3, rfl⟩
  | k :: ks, d, s, x3, hd, h3 => by
    obtain ⟨s1, d1, n1, e1⟩ := change_ok (T := T) (a := a) (x2 := x2) (x3 := .val k) (x4 := x4) (x5 := x5) (x6 := x6) (Pt := Pt) hd s
    obtain ⟨s2, d2, y3, n2, m3, e2⟩ := changes_ok ks d1 s1 (.val k) n1 rfl
    refine ⟨s2, d2, y3, n2, m3, ?_⟩
    rw [loopL_nx0 (b := bN 3) (d := k) (env := E1 T a s x2 x3 x4 x5 x6 (.val d)) rfl e1]
    exact e2
theorem f2_ok (hd : NiceS d) (s : Stt) (h3 : nob x3 = true) : ∃ (s' : Stt) (d' : PyData) (y3 : Sl), NiceS d' ∧ nob y3 = true ∧ f2 Pt (E1 T a s x2 x3 x4 x5 x6 (.val d)) = some (.nx (E1 T a s' x2 y3 x4 x5 x6 (.val d'))) := by
  obtain ⟨v, s1, hv, e⟩ := draw7 (env := E1 T a s x2 x3 x4 x5 x6 (.val d)) (s := s) (n := 3) (gl := Pf.gCons (gC (.int 3)) Pf.gNil) (by decide) (by decide) rfl rfl
  obtain ⟨s2, d2, y3, n2, m3, e2⟩ := changes_ok (T := T) (a := a) (x2 := x2) (x4 := x4) (x5 := x5) (x6 := x6) (Pt := Pt) (nats (List.range' 0 v)) d s1 x3 hd h3
  refine ⟨s2, d2, y3, n2, m3, ?_⟩
  unfold f2
  exact (forR1_ok (n := v) e (by omega)).trans e2
theorem f3_ok (hd : NiceS d) (s : Stt) : f3 (E1 T a s x2 x3 x4 x5 x6 (.val d)) = some (.nx (E1 T a s x2 x3 (.val (badT (shelfW d))) x5 x6 (.val d))) := by
  have c := call_ok (m := m__law_bad) (env := E1 T a s x2 x3 x4 x5 x6 (.val d)) (gl := Pf.gCons (gN 7) Pf.gNil) (cons_ok (n_val (i := 7) rfl) nil_ok) (law_bad_any hd)
  unfold f3
  rw [set_ok c]
  rfl
theorem f4_ok (s : Stt) (w : Option (Int × Nat)) : f4 (E1 T a s x2 x3 (.val (badT w)) x5 x6 x7) = some (.nx (E1 T a s x2 x3 (.val (badT w)) (.val (dueT w)) x6 x7)) := by
  cases w with
  | none => rfl
  | some z =>
    obtain ⟨p, k⟩ := z
    have g4 : gN 4 (E1 T a s x2 x3 (.val (badT (some (p, k)))) x5 x6 x7) = some (.ok (.tuple [.int p, natD k], E1 T a s x2 x3 (.val (badT (some (p, k)))) x5 x6 x7)) := n_val rfl
    have t := tst_ok (f := isD) (gb := gC .none) g4 (e := .none) rfl (show isD (.tuple [.int p, natD k]) .none = some false from rfl)
    have h : Pf.gTup (Pf.gCons (gC (.str "BadShelf")) Pf.gNil) (E1 T a s x2 x3 (.val (badT (some (p, k)))) x5 x6 x7) = some (.ok (.tuple [.str "BadShelf"], E1 T a s x2 x3 (.val (badT (some (p, k)))) x5 x6 x7)) := rfl
    have ad := bin_ok h g4 (add_tup (show 1 + 2 ≤ 1000000 by decide))
    unfold f4
    rw [set_ok ((if_f t).trans ad)]
    rfl
theorem no1 (s : Stt) (n2 : nob x2 = true) (n3 : nob x3 = true) (n4 : nob x4 = true) (n5 : nob x5 = true) (n6 : nob x6 = true) (n7 : nob x7 = true) : noObj (E1 T a s x2 x3 x4 x5 x6 x7) = true := by
  rw [noObj_all]
  simp only [E1, List.all_cons, List.all_nil, nob_val, nob_own, nob_tab, nob_no, n2, n3, n4, n5, n6, n7, Bool.and_self]
theorem kind_er {gB : M PyData} {E : En} {x : Xc} {v : PyData} (g : E[8]? = some (.tab [(Pt, qLam)])) (hn : noObj E = true) (h : gB E = some (.error (x, E))) (hk : kindX x = some v) : gKind 8 [(Pt, qLam)] kindX gB E = some (.ok (v, E)) := by
  unfold gKind
  rw [g]
  simp only
  rw [if_pos ⟨trivial, hn⟩, h]
  simp only
  rw [hk]
theorem kind_ok1 {gB : M PyData} {E : En} {v : PyData} (g : E[8]? = some (.tab [(Pt, qLam)])) (hn : noObj E = true) (h : gB E = some (.ok (v, E))) : gKind 8 [(Pt, qLam)] kindX gB E = some (.ok (v, E)) := by
  unfold gKind
  rw [g]
  simp only
  rw [if_pos ⟨trivial, hn⟩, h]
theorem f567_ok (hd : NiceS d) (s : Stt) (hn : noObj (E1 [(Pt, qLam)] a s x2 x3 x4 (.val (dueT (shelfW d))) x6 (.val d)) = true) : ∃ (y6 : Sl), nob y6 = true ∧ gSeq (f5 Pt) (gSeq f6 f7) (E1 [(Pt, qLam)] a s x2 x3 x4 (.val (dueT (shelfW d))) x6 (.val d)) = some (.nx (E1 [(Pt, qLam)] a s x2 x3 x4 (.val (dueT (shelfW d))) y6 (.val d))) := by
  have cs := check_shelf_any hd
  cases hw : shelfW d with
  | none =>
    obtain ⟨ps, ls, rfl, hs⟩ := shelf_of hw
    obtain ⟨x, e⟩ := written_ok hs
    rw [hw] at hn
    have g7 : gN 7 (E1 [(Pt, qLam)] a s x2 x3 x4 (.val (dueT none)) x6 (.val (shelfD ps ls))) = some (.ok (shelfD ps ls, E1 [(Pt, qLam)] a s x2 x3 x4 (.val (dueT none)) x6 (.val (shelfD ps ls)))) := n_val rfl
    have r1 := kind_ok1 (Pt := Pt) rfl hn (call_ok (m := m_written) (cons_ok g7 nil_ok) e)
    have r2 := kind_er (Pt := Pt) rfl hn (call_er (m := m_done) (cons_ok g7 (cons_ok (show gC .none _ = some (.ok (.none, _)) from rfl) nil_ok)) (done_form hs)) kind_form
    have z5 : f5 Pt (E1 [(Pt, qLam)] a s x2 x3 x4 (.val (dueT none)) x6 (.val (shelfD ps ls))) = some (.nx (E1 [(Pt, qLam)] a s x2 x3 x4 (.val (dueT none)) (.own [.str x, .tuple [.str "BadWay", .int 0, .str "form"]]) (.val (shelfD ps ls)))) := (setO_ok (lst_okA (cons_ok r1 (cons_ok r2 nil_ok)) rfl)).trans rfl
    refine ⟨.own [.str x, .tuple [.str "BadWay", .int 0, .str "form"]], rfl, seq_to z5 ?_⟩
    generalize eE : E1 [(Pt, qLam)] a s x2 x3 x4 (.val (dueT none)) (.own [.str x, .tuple [.str "BadWay", .int 0, .str "form"]]) (.val (shelfD ps ls)) = E
    have i1 : gIxP 6 (gC (.int 1)) E = some (.ok (.tuple [.str "BadWay", .int 0, .str "form"], E)) := by rw [← eE]; exact ixP_own (k := 1) rfl rfl rfl rfl
    have i0 : gIxP 6 (gC (.int 0)) E = some (.ok (.str x, E)) := by rw [← eE]; exact ixP_own (k := 0) rfl rfl rfl rfl
    have g5 : gN 5 E = some (.ok (.none, E)) := by rw [← eE]; exact n_val rfl
    have t5 := tst_ok (f := isD) (gb := gC .none) g5 (e := .none) rfl (show isD .none .none = some true from rfl)
    have t5n := tst_ok (f := isnD) (gb := gC .none) g5 (e := .none) rfl (show isnD .none .none = some false from rfl)
    have tp : Pf.gTup (Pf.gCons (gC (.str "BadWay")) (Pf.gCons (gC (.int 0)) (Pf.gCons (gC (.str "form")) Pf.gNil))) E = some (.ok (.tuple [.str "BadWay", .int 0, .str "form"], E)) := rfl
    have t6 := tst_ok (f := neD) i1 ((if_t (gb := gN 5) t5).trans tp) (show neD (.tuple [.str "BadWay", .int 0, .str "form"]) (.tuple [.str "BadWay", .int 0, .str "form"]) = some false by decide +kernel)
    have ti := notT_ok (tru_ok (isa_okA i0 (k := true) (c := "str") rfl) (show truD (.bool true) = some true from rfl))
    refine seq_to ((ifS_f t6).trans rfl) ?_
    unfold f7
    rw [ifS_f ((orT_f (andT_f t5n)).trans ((andT_t t5).trans ti))]
    rfl
  | some z =>
    obtain ⟨p, k⟩ := z
    rw [hw] at hn cs
    simp only at cs
    have g7 : gN 7 (E1 [(Pt, qLam)] a s x2 x3 x4 (.val (dueT (some (p, k)))) x6 (.val d)) = some (.ok (d, E1 [(Pt, qLam)] a s x2 x3 x4 (.val (dueT (some (p, k)))) x6 (.val d))) := n_val rfl
    have r1 := kind_er (Pt := Pt) rfl hn (call_er (m := m_written) (cons_ok g7 nil_ok) (written_no cs)) (kind_sh p k)
    have r2 := kind_er (Pt := Pt) rfl hn (call_er (m := m_done) (cons_ok g7 (cons_ok (show gC .none _ = some (.ok (.none, _)) from rfl) nil_ok)) (done_no cs)) (kind_sh p k)
    have z5 : f5 Pt (E1 [(Pt, qLam)] a s x2 x3 x4 (.val (dueT (some (p, k)))) x6 (.val d)) = some (.nx (E1 [(Pt, qLam)] a s x2 x3 x4 (.val (dueT (some (p, k)))) (.own [dueT (some (p, k)), dueT (some (p, k))]) (.val d))) := (setO_ok (lst_okA (cons_ok r1 (cons_ok r2 nil_ok)) rfl)).trans rfl
    refine ⟨.own [dueT (some (p, k)), dueT (some (p, k))], rfl, seq_to z5 ?_⟩
    generalize eE : E1 [(Pt, qLam)] a s x2 x3 x4 (.val (dueT (some (p, k)))) (.own [dueT (some (p, k)), dueT (some (p, k))]) (.val d) = E
    have i1 : gIxP 6 (gC (.int 1)) E = some (.ok (dueT (some (p, k)), E)) := by rw [← eE]; exact ixP_own (k := 1) rfl rfl rfl rfl
    have i0 : gIxP 6 (gC (.int 0)) E = some (.ok (dueT (some (p, k)), E)) := by rw [← eE]; exact ixP_own (k := 0) rfl rfl rfl rfl
    have g5 : gN 5 E = some (.ok (dueT (some (p, k)), E)) := by rw [← eE]; exact n_val rfl
    have t5 := tst_ok (f := isD) (gb := gC .none) g5 (e := .none) rfl (show isD (dueT (some (p, k))) .none = some false from rfl)
    have t5n := tst_ok (f := isnD) (gb := gC .none) g5 (e := .none) rfl (show isnD (dueT (some (p, k))) .none = some true from rfl)
    have t6 := tst_ok (f := neD) i1 ((if_f (ga := Pf.gTup (Pf.gCons (gC (.str "BadWay")) (Pf.gCons (gC (.int 0)) (Pf.gCons (gC (.str "form")) Pf.gNil)))) t5).trans g5) (due_ne p k)
    have t7 := tst_ok (f := neD) i0 g5 (due_ne p k)
    refine seq_to ((ifS_f t6).trans rfl) ?_
    unfold f7
    rw [ifS_f ((orT_f ((andT_t t5n).trans t7)).trans (andT_f t5))]
    rfl
theorem turn1 (s : Stt) (n2 : nob x2 = true) (n3 : nob x3 = true) (n6 : nob x6 = true) : ∃ (s' : Stt) (y3 y4 y5 y6 y7 : Sl), nob y3 = true ∧ nob y6 = true ∧ b2_law Pt (E1 [(Pt, qLam)] a s x2 x3 x4 x5 x6 x7) = some (.nx (E1 [(Pt, qLam)] a s' x2 y3 y4 y5 y6 y7)) := by
  obtain ⟨s1, d1, h1, q1⟩ := f1_ok (T := [(Pt, qLam)]) (a := a) (x2 := x2) (x3 := x3) (x4 := x4) (x5 := x5) (x6 := x6) (x7 := x7) s
  obtain ⟨s2, d, y3, hd, m3, q2⟩ := f2_ok (T := [(Pt, qLam)]) (a := a) (x2 := x2) (x4 := x4) (x5 := x5) (x6 := x6) (Pt := Pt) h1 s1 n3
  have q3 := f3_ok (T := [(Pt, qLam)]) (a := a) (x2 := x2) (x3 := y3) (x4 := x4) (x5 := x5) (x6 := x6) hd s2
  have q4 := f4_ok (T := [(Pt, qLam)]) (a := a) (x2 := x2) (x3 := y3) (x5 := x5) (x6 := x6) (x7 := .val d) s2 (shelfW d)
  obtain ⟨y6, m6, q5⟩ := f567_ok (a := a) (x2 := x2) (x3 := y3) (x4 := .val (badT (shelfW d))) (x6 := x6) (Pt := Pt) hd s2 (no1 s2 n2 m3 rfl rfl n6 rfl)
  rw [b2_is1]
  exact ⟨s2, y3, _, _, y6, _, m3, m6, seq_to q1 (seq_to q2 (seq_to q3 (seq_to q4 q5)))⟩
theorem turns1 : ∀ (ks : List PyData) (s : Stt) (x2 x3 x4 x5 x6 x7 : Sl), nob x3 = true → nob x6 = true → ∃ env, loopL (bN 2) (b2_law Pt) ks (E1 [(Pt, qLam)] a s x2 x3 x4 x5 x6 x7) = some (.nx env)
  | [], s, x2, x3, x4, x5, x6, x7, _, _ => ⟨_, rfl⟩
  | k :: ks, s, x2, x3, x4, x5, x6, x7, n3, n6 => by
    obtain ⟨s', y3, y4, y5, y6, y7, m3, m6, e⟩ := turn1 (a := a) (Pt := Pt) (x2 := .val k) (x3 := x3) (x4 := x4) (x5 := x5) (x6 := x6) (x7 := x7) s rfl n3 n6
    obtain ⟨env, e2⟩ := turns1 ks s' (.val k) y3 y4 y5 y6 y7 m3 m6
    refine ⟨env, ?_⟩
    rw [loopL_nx0 (b := bN 2) (d := k) (env := E1 [(Pt, qLam)] a s x2 x3 x4 x5 x6 x7) rfl e]
    exact e2
end
theorem math (Pt : Addr) : ∀ ns : List Int, scriptOk ns → ∃ env, G_law Pt (envL Pt ns) = some (.rt (.bool true) env) := fun ns _ => by
  obtain ⟨m, e1⟩ := start_ok ns
  obtain ⟨env, e2⟩ := turns1 (a := .list (ns.map PyData.int)) (Pt := Pt) (nats (List.range' 0 8)) ⟨ns, 0, m, 0⟩ .no .no .no .no .no .no rfl rfl
  refine ⟨env, ?_⟩
  have z1 : gSetO 1 (gCall m__law_start (Pf.gCons (gN 0) Pf.gNil)) (envL Pt ns) = some (.nx (E1 [(Pt, qLam)] (.list (ns.map PyData.int)) ⟨ns, 0, m, 0⟩ .no .no .no .no .no .no)) := by
    rw [setO_ok (call_ok (cons_ok (n_val (d := .list (ns.map PyData.int)) rfl) nil_ok) e1)]
    rfl
  have z2 : gForR1 (gC (.int 8)) (bN 2) (b2_law Pt) (E1 [(Pt, qLam)] (.list (ns.map PyData.int)) ⟨ns, 0, m, 0⟩ .no .no .no .no .no .no) = some (.nx env) := by
    rw [forR1_ok (n := 8) rfl (by decide)]
    exact e2
  unfold G_law
  exact seq_to z1 (seq_to z2 rfl)
end Q
/-! part E01 -/
open PySem PySem.W PyProof.Rows
set_option Elab.async false
set_option linter.all false
set_option maxRecDepth 100000 in
set_option maxHeartbeats 0 in
theorem PySem.Challenge.cw_pinshelf_k01_shelves_refused_holds : PySem.Challenge.rw_pinshelf_k01_shelves_refused.Holds := by
  w_on; o_law; k_head; (case hw => w_witness2)
  k_fill
  refine LamX.walk_ofTs (l := PySem.Challenge.rw_pinshelf_k01_shelves_refused) (n := 63) (k := 11) (x := "_law_script") (CX := fun w => L2.CX PySem.Challenge.pw_pinshelf_k01_shelves_refused w) rfl (by decide) rfl ⟨rfl, by decide, by decide⟩ (fun w h Y => PySem.W.km_in_of Y) ?F (fun w H s e s2 z => by obtain ⟨_, _, _, _, _, _, _, _, _, _, _, _, z⟩ := z; exact z)
  case F =>
    intro w mg fa h Y KX G hmg
    have tt := PySem.W.km_tabs_of Y
    refine' Q.law_at (tt _ (List.Mem.head _)) KX G hmg ?nb_ValueError ?nb_bool ?nb_enumerate ?nb_int ?nb_isinstance ?nb_len ?nb_list ?nb_range ?nb_set ?nb_str ?nb_tuple ?gl_FIRST ?gl_FIXED ?gl_LAST ?gl_LOT ?gl_MOST_BOOKS ?gl_MOST_LOTS ?gl_MOST_PRICE ?gl_PRICES ?cl_1 ?cl_2 ?cl_3 ?cl_4 ?cl_5 ?cl_6 ?cl_7 ?cl_8 ?cl_9 ?cl_10 ?bg_1 ?br_1 ?bf_1 ?xl_2 ?sa_2 ?ex_2 ?ty_2 ?kc_2 ?ic_2 ?ti_2 ?li_2 ?cc_2 ?kk_2 ?nf_2_part ?nf_2_number ?xl_5 ?sa_5 ?ex_5 ?ty_5 ?kc_5 ?ic_5 ?ti_5 ?li_5 ?cc_5 ?kk_5 ?nf_5_number ?nf_5_why ?ga_2 ?gg_2 ?hd_2 ?ha_2 ?hm_2 ?em_2 ?ga_5 ?gg_5 ?hd_5 ?ha_5 ?hm_5 ?em_5 ?hn ?ht ?kt_BadShelf_BadGoal ?kt_BadShelf_BadName ?kt_BadShelf_BadShelf ?kt_BadShelf_BadText ?kt_BadShelf_BadWay ?kt_BadShelf_BadWish ?kt_BadShelf_Halted ?kt_BadShelf_NoPoint ?kt_BadShelf_NoWay ?kt_BadWay_BadGoal ?kt_BadWay_BadName ?kt_BadWay_BadShelf ?kt_BadWay_BadText ?kt_BadWay_BadWay ?kt_BadWay_BadWish ?kt_BadWay_Halted ?kt_BadWay_NoPoint ?kt_BadWay_NoWay ?kb_BadShelf_ValueError ?kb_BadWay_ValueError ?nf_2_done ?nf_2_row ?nf_2_why ?nf_5_done ?nf_5_part ?nf_5_row ?fa_15 ?fl_15 ?fc_15 ?fk_15 ?fa_16 ?fl_16 ?fc_16 ?fk_16 ?fa_17 ?fl_17 ?fc_17 ?fk_17 ?fa_18 ?fl_18 ?fc_18 ?fk_18 ?fa_19 ?fl_19 ?fc_19 ?fk_19 ?fa_20 ?fl_20 ?fc_20 ?fk_20 ?fa_21 ?fl_21 ?fc_21 ?fk_21 ?fa_22 ?fl_22 ?fc_22 ?fk_22 ?fa_27 ?fl_27 ?fc_27 ?fk_27 ?fa_28 ?fl_28 ?fc_28 ?fk_28 ?fa_32 ?fl_32 ?fc_32 ?fk_32 ?fa_33 ?fl_33 ?fc_33 ?fk_33 ?fa_34 ?fl_34 ?fc_34 ?fk_34 ?fa_35 ?fl_35 ?fc_35 ?fk_35 ?fa_36 ?fl_36 ?fc_36 ?fk_36 ?fa_37 ?fl_37 ?fc_37 ?fk_37 ?fa_38 ?fl_38 ?fc_38 ?fk_38 ?fa_40 ?fl_40 ?fc_40 ?fk_40 ?fa_41 ?fl_41 ?fc_41 ?fk_41 ?fa_43 ?fl_43 ?fc_43 ?fk_43 ?fa_44 ?fl_44 ?fc_44 ?fk_44 ?fa_45 ?fl_45 ?fc_45 ?fk_45 ?fa_48 ?fl_48 ?fc_48 ?fk_48 ?fa_49 ?fl_49 ?fc_49 ?fk_49 ?fa_50 ?fl_50 ?fc_50 ?fk_50 ?fa_42 ?fl_42 ?fc_42 ?fk_42 ?la ?ll ?lc ?lt ?ln (Q.math _)
    (case nb_ValueError => k_is)
    (case nb_bool => k_is)
    (case nb_enumerate => k_is)
    (case nb_int => k_is)
    (case nb_isinstance => k_is)
    (case nb_len => k_is)
    (case nb_list => k_is)
    (case nb_range => k_is)
    (case nb_set => k_is)
    (case nb_str => k_is)
    (case nb_tuple => k_is)
    (case gl_FIRST => k_is)
    (case gl_FIXED => k_is)
    (case gl_LAST => k_is)
    (case gl_LOT => k_is)
    (case gl_MOST_BOOKS => k_is)
    (case gl_MOST_LOTS => k_is)
    (case gl_MOST_PRICE => k_is)
    (case gl_PRICES => k_is)
    (case cl_1 => k_is)
    (case cl_2 => k_is)
    (case cl_3 => k_is)
    (case cl_4 => k_is)
    (case cl_5 => k_is)
    (case cl_6 => k_is)
    (case cl_7 => k_is)
    (case cl_8 => k_is)
    (case cl_9 => k_is)
    (case cl_10 => k_is)
    (case bg_1 => k_is)
    (case br_1 => k_is)
    (case bf_1 => k_is)
    (case xl_2 => k_is)
    (case sa_2 => k_is)
    (case ex_2 => k_is)
    (case ty_2 => k_is)
    (case kc_2 => k_is)
    (case ic_2 => k_is)
    (case ti_2 => k_is)
    (case li_2 => k_is)
    (case cc_2 => k_is)
    (case kk_2 => k_is)
    (case nf_2_part => k_is)
    (case nf_2_number => k_is)
    (case xl_5 => k_is)
    (case sa_5 => k_is)
    (case ex_5 => k_is)
    (case ty_5 => k_is)
    (case kc_5 => k_is)
    (case ic_5 => k_is)
    (case ti_5 => k_is)
    (case li_5 => k_is)
    (case cc_5 => k_is)
    (case kk_5 => k_is)
    (case nf_5_number => k_is)
    (case nf_5_why => k_is)
    (case ga_2 => k_is)
    (case gg_2 => k_is)
    (case hd_2 => k_is)
    (case ha_2 => k_is)
    (case hm_2 => k_is)
    (case em_2 => first | k_is | rfl | kernel_rfl)
    (case ga_5 => k_is)
    (case gg_5 => k_is)
    (case hd_5 => k_is)
    (case ha_5 => k_is)
    (case hm_5 => k_is)
    (case em_5 => first | k_is | rfl | kernel_rfl)
    (case hn => k_is)
    (case ht => k_is)
    (case kt_BadShelf_BadGoal => first | k_is | rfl | kernel_rfl)
    (case kt_BadShelf_BadName => first | k_is | rfl | kernel_rfl)
    (case kt_BadShelf_BadShelf => first | k_is | rfl | kernel_rfl)
    (case kt_BadShelf_BadText => first | k_is | rfl | kernel_rfl)
    (case kt_BadShelf_BadWay => first | k_is | rfl | kernel_rfl)
    (case kt_BadShelf_BadWish => first | k_is | rfl | kernel_rfl)
    (case kt_BadShelf_Halted => first | k_is | rfl | kernel_rfl)
    (case kt_BadShelf_NoPoint => first | k_is | rfl | kernel_rfl)
    (case kt_BadShelf_NoWay => first | k_is | rfl | kernel_rfl)
    (case kt_BadWay_BadGoal => first | k_is | rfl | kernel_rfl)
    (case kt_BadWay_BadName => first | k_is | rfl | kernel_rfl)
    (case kt_BadWay_BadShelf => first | k_is | rfl | kernel_rfl)
    (case kt_BadWay_BadText => first | k_is | rfl | kernel_rfl)
    (case kt_BadWay_BadWay => first | k_is | rfl | kernel_rfl)
    (case kt_BadWay_BadWish => first | k_is | rfl | kernel_rfl)
    (case kt_BadWay_Halted => first | k_is | rfl | kernel_rfl)
    (case kt_BadWay_NoPoint => first | k_is | rfl | kernel_rfl)
    (case kt_BadWay_NoWay => first | k_is | rfl | kernel_rfl)
    (case kb_BadShelf_ValueError => first | k_is | rfl | kernel_rfl)
    (case kb_BadWay_ValueError => first | k_is | rfl | kernel_rfl)
    (case nf_2_done => k_is)
    (case nf_2_row => k_is)
    (case nf_2_why => k_is)
    (case nf_5_done => k_is)
    (case nf_5_part => k_is)
    (case nf_5_row => k_is)
    (case fa_15 => k_is)
    (case fl_15 => k_is)
    (case fc_15 => k_is)
    (case fk_15 => k_is)
    (case fa_16 => k_is)
    (case fl_16 => k_is)
    (case fc_16 => k_is)
    (case fk_16 => k_is)
    (case fa_17 => k_is)
    (case fl_17 => k_is)
    (case fc_17 => k_is)
    (case fk_17 => k_is)
    (case fa_18 => k_is)
    (case fl_18 => k_is)
    (case fc_18 => k_is)
    (case fk_18 => k_is)
    (case fa_19 => k_is)
    (case fl_19 => k_is)
    (case fc_19 => k_is)
    (case fk_19 => k_is)
    (case fa_20 => k_is)
    (case fl_20 => k_is)
    (case fc_20 => k_is)
    (case fk_20 => k_is)
    (case fa_21 => k_is)
    (case fl_21 => k_is)
    (case fc_21 => k_is)
    (case fk_21 => k_is)
    (case fa_22 => k_is)
    (case fl_22 => k_is)
    (case fc_22 => k_is)
    (case fk_22 => k_is)
    (case fa_27 => k_is)
    (case fl_27 => k_is)
    (case fc_27 => k_is)
    (case fk_27 => k_is)
    (case fa_28 => k_is)
    (case fl_28 => k_is)
    (case fc_28 => k_is)
    (case fk_28 => k_is)
    (case fa_32 => k_is)
    (case fl_32 => k_is)
    (case fc_32 => k_is)
    (case fk_32 => k_is)
    (case fa_33 => k_is)
    (case fl_33 => k_is)
    (case fc_33 => k_is)
    (case fk_33 => k_is)
    (case fa_34 => k_is)
    (case fl_34 => k_is)
    (case fc_34 => k_is)
    (case fk_34 => k_is)
    (case fa_35 => k_is)
    (case fl_35 => k_is)
    (case fc_35 => k_is)
    (case fk_35 => k_is)
    (case fa_36 => k_is)
    (case fl_36 => k_is)
    (case fc_36 => k_is)
    (case fk_36 => k_is)
    (case fa_37 => k_is)
    (case fl_37 => k_is)
    (case fc_37 => k_is)
    (case fk_37 => k_is)
    (case fa_38 => k_is)
    (case fl_38 => k_is)
    (case fc_38 => k_is)
    (case fk_38 => k_is)
    (case fa_40 => k_is)
    (case fl_40 => k_is)
    (case fc_40 => k_is)
    (case fk_40 => k_is)
    (case fa_41 => k_is)
    (case fl_41 => k_is)
    (case fc_41 => k_is)
    (case fk_41 => k_is)
    (case fa_43 => k_is)
    (case fl_43 => k_is)
    (case fc_43 => k_is)
    (case fk_43 => k_is)
    (case fa_44 => k_is)
    (case fl_44 => k_is)
    (case fc_44 => k_is)
    (case fk_44 => k_is)
    (case fa_45 => k_is)
    (case fl_45 => k_is)
    (case fc_45 => k_is)
    (case fk_45 => k_is)
    (case fa_48 => k_is)
    (case fl_48 => k_is)
    (case fc_48 => k_is)
    (case fk_48 => k_is)
    (case fa_49 => k_is)
    (case fl_49 => k_is)
    (case fc_49 => k_is)
    (case fk_49 => k_is)
    (case fa_50 => k_is)
    (case fl_50 => k_is)
    (case fc_50 => k_is)
    (case fk_50 => k_is)
    (case fa_42 => k_is)
    (case fl_42 => k_is)
    (case fc_42 => k_is)
    (case fk_42 => k_is)
    (case la => k_is)
    (case ll => k_is)
    (case lc => k_is)
    (case lt => kernel_rfl)
    (case ln => first | rfl | kernel_rfl | k_is)
