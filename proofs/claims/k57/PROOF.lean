import PyProof.Rows.All
import Wide.All
import OpenK.AllK
import Wide.FinOn
import KE.KStateDown
import Lean
import HandS.Base
import HandS.Call
import HandS.Ends
import HandS.More
import HandS.Words
import HandS.WordsExc
import HandS.Defaults
import HandS.Head0
import HandS.Head1
import HandS.Head2
import HandS.HeadEnd
import HandS.HeadHook1
import HandS.HeadHook2
import PyProof.EqAt
import PyProof.EqKinds
import PyProof.NeKinds
import PyProof.TupleCall
import KE.KFromBytes
import KE.KExcIs
import HandS.List
import HandS.Exc
import HandS.ExcOwn
import HandS.ExcInit
import HandS.ExcField
import HandS.IsInst
import HandS.Evl
import HandS.ExcValue
import HandS.WordsList
import HandS.ForMost
import HandS.Steps
import HandS.Flow
import HandS.DictComp
import HandS.SetKeys
import HandS.Walk
import HandS.Style
import PyProof.ListStr
import PyProof.StrOps2
import HandS.ClsMeth
import KE.KCallOwn
import KE.KFmtOwn
import PyProof.InstNe
import PySem.Challenge.RW_mutesigns_k57_ways_of_writing_make_sylla
import KE.GoesMore
import HandS.TryMany
import HandS.Lambda
import HandS.Text
import PyProof.Rows.StrRev
import HandS.Flt
import KE.KDictList
import HandS.MakeKw
import HandS.MakeKwOnly
import HandS.Nested
import HandS.EndTab
import HandS.HeadHook4
import HandS.HeadWalk
set_option Elab.async false
set_option linter.all false
set_option maxRecDepth 100000
set_option maxHeartbeats 4000000
/-! A head by facts, with any Bool look at the written part besides. -/
namespace Hx
open PySem PySem.Spec PyProof.Rows L2 He
def obsX (chk : PySem.W.Frag → Bool) (fa : List Fa) (fn : List DefD) (K : PySem.W.Frag) : AlD := (chk K && ((fa.all fun f => f.ok K) && fn.all fun d => d.ok K), fn.map fun d => fnW K d.at_)
def SaysX (chk : PySem.W.Frag → Bool) (fa : List Fa) (fn : List DefD) (K : PySem.W.Frag) : Prop := obsX chk fa fn K = valD fn
def obsXG (n : Nat) (chk : PySem.W.Frag → Bool) (fa : List Fa) (fn : List DefD) (g : Addr → Option Obj) : AlD := obsX chk fa fn (frG g (asD g n))
def hookX (n : Nat) (chk : PySem.W.Frag → Bool) (fa : List Fa) (fn : List DefD) : PySem.W.Hook where
  α := AlD
  obs := fun s => obsXG n chk fa fn s.heap.get?
  val := fun _ => valD fn
  says := fun _ h => ∃ K : PySem.W.Frag, K.In h ∧ SaysX chk fa fn K
  of := fun _ _ e => ⟨_, frG_in, e⟩
  keeps := fun _ _ _ ⟨K, hK, c⟩ k => ⟨K, PySem.W.Frag.In.keeps hK k, c⟩
theorem obsXG_eq {n : Nat} {chk : PySem.W.Frag → Bool} {fa : List Fa} {fn : List DefD} {g : Addr → Option Obj} {s : Shared} (h : ∀ a, g a = s.heap.get? a) : obsXG n chk fa fn g = (hookX n chk fa fn).obs s := by
  have e : g = s.heap.get? := funext h
  rw [e] <;> rfl
section
variable {chk : PySem.W.Frag → Bool} {fa : List Fa} {fn : List DefD} {K : PySem.W.Frag}
theorem SaysX.chk_ (c : SaysX chk fa fn K) : chk K = true := (ba (show (chk K && ((fa.all fun f => f.ok K) && fn.all fun d => d.ok K)) = true from congrArg (fun z : AlD => z.1) c)).1
theorem SaysX.says (c : SaysX chk fa fn K) : SaysD fa fn K := by
  have h1 := (ba (show (chk K && ((fa.all fun f => f.ok K) && fn.all fun d => d.ok K)) = true from congrArg (fun z : AlD => z.1) c)).2
  have h2 : fn.map (fun d => fnW K d.at_) = fn.map DefD.val := congrArg (fun z : AlD => z.2) c
  show ((fa.all fun f => f.ok K) && fn.all fun d => d.ok K, fn.map fun d => fnW K d.at_) = (true, fn.map DefD.val)
  rw [h1, h2]
end
end Hx
set_option Elab.async false
set_option linter.all false
set_option maxRecDepth 100000
set_option maxHeartbeats 4000000
/-! Own exceptions as values: made by place or by name, their fields read, isinstance asked of them. -/
namespace PySem
namespace XV
open PySem.W PySem.Calls PyProof.Rows PySem.HandSPX
section
open Builtin Builtin.ObjectAttr
variable {M : Model} {A : Around} {E : Value → Shared → Prop} {h : Heap} {g : Array GenState} {d : Drawn} {t : Nat} {os : OsState}
variable {nm q : Str} {C N : Addr} {bs bm bmB : List Value} {hdct : Bool} {sn : List Str} {sub : List Value} {ab : Bool} {col : Option Bool} {dd : Option Addr} {k0 k1 k2 k3 k5 : Option Value} {B newId initId : String}
theorem check_newK (F : ExcBaseFacts B newId initId bmB) (hT : ∀ X : String, bm.contains (.type X) = bmB.contains (.type X)) {rest : List Value} {kw : List (Str × Value)} {Q : Unit → Shared → Prop}
    (hC : h.get? C = some (excClassObj nm q C N bs bm hdct sn sub ab col dd k0 k1 k2 k3 k5 newId)) (hq : Q () ⟨h, g, d, t, os⟩) : wpAny M A (checkBuiltinCall newId ⟨.ref C :: rest, kw⟩) Q E ⟨h, g, d, t, os⟩ := by
  have hcont : (Value.ref C :: bm).contains (.type B) = true := by rw [List.contains_cons, hT, F.hasB, Bool.or_true]
  have hstar := F.noStar
  simp only [checkBuiltinCall, F.newKind, F.newSplit, F.newRow]
  repeat (first | refine wpAny_loadPart_at hC ?_ | (refine wpAny_isSubtype_exc hC ?_; rw [hcont]) | refine wpAny_staticBase_exc hC ?_ | refine wpAny_madeBy_exc hC ?_ | simp only [bne_self_eq_false, Bool.false_eq_true, if_false] | wp_step)
  exact hq
theorem check_type_callK {rest : List Value} {kw : List (Str × Value)} {Q : Unit → Shared → Prop} (hC : h.get? C = some (excClassObj nm q C N bs bm hdct sn sub ab col dd k0 k1 k2 k3 k5 newId))
    (hq : Q () ⟨h, g, d, t, os⟩) : wpAny M A (checkBuiltinCall "type.__call__" ⟨.ref C :: rest, kw⟩) Q E ⟨h, g, d, t, os⟩ := by
  have f3 := tc_sub
  have hT : (⟨h, g, d, t, os⟩ : Shared).TypeIs (.ref C) "type" := ⟨_, hC, rfl⟩
  simp only [checkBuiltinCall, tc_kind, tc_split]
  repeat (any_goals (first | assumption | with_reducible refine wpAny_loadPart_at hC ?_ | with_reducible refine wpAny_onRaise ?_ | with_reducible refine wpAny_map ?_ | wp_step))
end
section
variable {prog : Program} {w : World} {A : Around} {E : Value → Shared → Prop} {R : Result → Shared → Prop} {h : Heap} {g : Array GenState} {d : Drawn} {t : Nat} {os : OsState}
variable {nm q : Str} {C N : Addr} {bs bm bmB : List Value} {hdct : Bool} {sn : List Str} {sub : List Value} {ab : Bool} {col : Option Bool} {dd : Option Addr} {k0 k1 k2 k3 k5 : Option Value} {B newId initId : String}
theorem newK (F : ExcBaseFacts B newId initId bmB) (hT : ∀ X : String, bm.contains (.type X) = bmB.contains (.type X)) {rest : List Value} {kw : List (Str × Value)}
    (hC : h.get? C = some (excClassObj nm q C N bs bm hdct sn sub ab col dd k0 k1 k2 k3 k5 newId))
    (hq : R (.ok (.ret (.ref (h.objs.size + 1)))) ⟨(h.push { cls := .type "tuple", data := .seq rest.toArray }).push
      { cls := .ref C, data := .fields #[.ref h.objs.size, .none, .none, .none, .bool false, .none] }, g, d, t, os⟩) (hrest : rest.length ≤ sizeLine) :
    codeAny (model prog w) A (.builtin newId ⟨.ref C :: rest, kw⟩) R ⟨h, g, d, t, os⟩ := by
  have hends := F.ends
  have hcB : (Value.ref C :: bm).contains (.type B) = true := by rw [List.contains_cons, hT, F.hasB, Bool.or_true]
  have hcA : (Value.ref C :: bm).contains (.type "AttributeError") = false := by rw [List.contains_cons, hT, F.noAttr]; rfl
  have hcN : (Value.ref C :: bm).contains (.type "NameError") = false := by rw [List.contains_cons, hT, F.noName]; rfl
  refine codeAny_builtinAt F.entry ?_
  unfold Builtin.«BaseException.__new__»
  refine wpAt_bind ?_
  show wpAt _ _ _ (stack >>= _) _ _ _
  refine wpAt_bind (wpAt_stack fun p below => wpAt_of_wpAny ?_)
  wp_walk
  refine wpAt_of_wpAny ?_
  rw [F.owner]
  repeat (first | with_reducible refine wpAny_madeHere_exc F.canon hC ?_ | with_reducible refine wpAny_loadPart_at hC ?_ | (with_reducible refine wpAny_isSubtype_exc hC ?_; first | rw [hcB] | rw [hcA] | rw [hcN]) | wp_step)
  show R _ _
  rw [Heap.size_push]
  exact hq
theorem type_callK (F : ExcBaseFacts B newId initId bmB) (hT : ∀ X : String, bm.contains (.type X) = bmB.contains (.type X)) {rest : List Value} {kw : List (Str × Value)} {fI : Addr} {Q : Fin → Shared → Prop}
    (hC : h.get? C = some (excClassObj nm q C N bs bm hdct sn sub ab col dd k0 k1 k2 k3 k5 newId))
    (hi : W.Looks (model prog w) h (typeLookup (.ref C) "__init__") (some (.ref fI))) (hb : ∀ self, W.Looks (model prog w) h (bindSpecial (.ref fI) self) (.ref fI, [self])) (hrest : rest.length ≤ sizeLine)
    (hq : codeAny (model prog w) A (.call (.ref fI) ⟨.ref (h.objs.size + 1) :: rest, kw⟩)
      (fun r s' => match r with | .ok (.ret v) => v = .none ∧ Q (.done (.ret (.ref (h.objs.size + 1)))) s' | .ok _ => False | .error e => E e s')
      ⟨(h.push (W.kdv_tup rest)).push (excO C h.objs.size), g, d, t, os⟩) :
    wpAny (model prog w) A (Builtin.«type.__call__» ⟨.ref C :: rest, kw⟩) Q E ⟨h, g, d, t, os⟩ := by
  repeat (first | with_reducible refine wpAny_loadPart_at hC ?_ | with_reducible refine wpAny_madeBy_exc hC ?_ | wp_step)
  refine codeAny_call_builtin_code (Code.quiet_builtin _ F.quiet) (check_newK F hT hC ?_)
  refine newK F hT hC ?_ hrest
  show wpAny _ _ _ _ _ _
  have k : ∀ b o, h.get? b = some o → ((h.push (W.kdv_tup rest)).push (excO C h.objs.size)).get? b = some o := fun b o e => Heap.get?_push_of_some _ (Heap.get?_push_of_some _ e)
  have hC₁ := k _ _ hC
  have hget : ((h.push (W.kdv_tup rest)).push (excO C h.objs.size)).get? (h.objs.size + 1) = some (excO C h.objs.size) := by heap_get
  have hcC : (Value.ref C :: bm).contains (.ref C) = true := by simp
  have i1 := hi.keeps k
  have b1 := (hb (.ref (h.objs.size + 1))).keeps k
  unfold isInstance
  repeat (first | with_reducible refine wpAny_loadPart_at hget ?_ | (with_reducible refine wpAny_isSubtype_exc hC₁ ?_; rw [hcC]) | wp_step)
  show wpAny _ _ (typeLookup (.ref C) _) _ _ _
  refine i1.at ?_
  refine wpAny_holding (wpAny_bind (b1.at ?_))
  refine wpAny_bind (wpAny_call (codeAny_mono hq fun r s' z => ?_))
  rcases r with e | (v | _ | _ | _) <;> first | exact z | exact z.elim | skip
  obtain ⟨rfl, z⟩ := z
  first
    | exact wpAny_pure (wpAny_pure z)
    | (wp_walk; exact z)
theorem callK (F : ExcBaseFacts B newId initId bmB) (hT : ∀ X : String, bm.contains (.type X) = bmB.contains (.type X)) {rest : List Value} {kw : List (Str × Value)} {fI : Addr}
    (hC : h.get? C = some (excClassObj nm q C N bs bm hdct sn sub ab col dd k0 k1 k2 k3 k5 newId))
    (hi : W.Looks (model prog w) h (typeLookup (.ref C) "__init__") (some (.ref fI))) (hb : ∀ self, W.Looks (model prog w) h (bindSpecial (.ref fI) self) (.ref fI, [self])) (hrest : rest.length ≤ sizeLine)
    (hq : codeAny (model prog w) (A.under (.builtin "type.__call__" ⟨.ref C :: rest, kw⟩)) (.call (.ref fI) ⟨.ref (h.objs.size + 1) :: rest, kw⟩) (W.InitBack (h.objs.size + 1) R)
      ⟨(h.push (W.kdv_tup rest)).push (excO C h.objs.size), g, d, t, os⟩) :
    codeAny (model prog w) A (.call (.ref C) ⟨rest, kw⟩) R ⟨h, g, d, t, os⟩ := by
  have f1 := tc_lookup
  have f2 := tc_bind (.ref C)
  have hTy : (⟨h, g, d, t, os⟩ : Shared).TypeIs (.ref C) "type" := ⟨_, hC, rfl⟩
  refine codeAny_of_tree ?_
  show wpAny _ _ (callAny (.ref C) _) _ _ _
  repeat (any_goals (first | assumption | with_reducible refine wpAny_loadPart_at hC ?_ | wp_step))
  refine ⟨rfl, ?_⟩
  refine codeAny_call_builtin_at (Code.quiet_builtin _ (by decide +kernel)) entry_typeCall (check_type_callK hC (type_callK F hT hC hi hb hrest ?_))
  refine codeAny_mono hq fun r s' z => ?_
  rcases r with e | (v | _ | _ | _) <;> exact z
end
end XV
end PySem
set_option Elab.async false
set_option linter.all false
set_option maxRecDepth 100000
set_option maxHeartbeats 4000000
set_option autoImplicit false
namespace L2
open PySem PySem.Spec PyProof.Rows Evl

/-- an exception of the class at C with these fields stands at a -/
def XAt (H : Hp) (a C : Addr) (fs : List (Str × V)) : Prop := ∃ d, H a = some (exo a C (some d)) ∧ H d = some (exd d fs)
theorem XAt.ex {H H' : Hp} {a C : Addr} {fs : List (Str × V)} (h : XAt H a C fs) (e : Ex H H') : XAt H' a C fs := by
  obtain ⟨d, h1, h2⟩ := h
  exact ⟨d, e _ _ h1, e _ _ h2⟩
/-- what an __init__ of an exception class promises: the fields are laid -/
def spInitX (C : Addr) (fs : List Str) : Sp := fun vs H Q _ => ∃ (a : Addr) (ws : List V), vs = .ref a :: ws ∧ ws.length = fs.length ∧ H a = some (exo a C none) ∧
  ∀ d H', H d = none → d ≠ a → H' a = some (exo a C (some d)) → H' d = some (exd d (fs.zip ws).reverse) → (∀ b o, H b = some o → b ≠ a → H' b = some o) → Q .non H'
/-- what the written part says of an exception class -/
structure XCl (K : PySem.W.Frag) (C : Addr) : Prop where
  oex : OexC K C
  xf : XfC K C
  hcl : (PySem.W.clsIn K C).isSome = true
  ha : PySem.W.findIn K (.ref C) "__class__" = some (some (.builtin "object.__class__"))
  hn : PySem.W.specialIn K (.builtin "object.__class__") "__get__" = some (some (.builtin "getset_descriptor.__get__"))
  ht : PySem.W.takesIn K (.builtin "object.__class__") = some true
  hm : PySem.W.mroIn K C (.type "object") = some true
structure XIn (K : PySem.W.Frag) (C fI : Addr) (fs : List Str) : Prop where
  cl : XCl K C
  init : PySem.W.findIn K (.ref C) "__init__" = some (some (.ref fI))
  tI : PySem.W.typeIn K (.ref fI) = some (.type "function")
  nof : ∀ f ∈ fs, PySem.W.findIn K (.ref C) f = some none

/-- C(..): what is made -/
def tXmk (C : Addr) (fs : List Str) (t : TA) : TE := fun σ H Q => t σ H fun vs H1 => vs.length = fs.length ∧ ∀ a H2, H1 a = none → Ex H1 H2 → XAt H2 a C (fs.zip vs).reverse → Q (.ref a) H2
section
variable {X : Cx} {k : Nat} {C fI : Addr} {fd : FuncData} {fs ps : List Str} {x : Str} {p pos : Pos} {e : Expr} {es : List Expr} {kws : List Keyword} {t : TA} {ta : TE}
theorem run_xmk {pins : List (Addr × Obj)} {σ : St} {H : Hp} {s : Shared} {Q : VK} {us : List Value} {kw : List (Str × Value)} {vs : List V} {bs : List Value} (T : XIn X.K C fI fs) (G : FnOk X.prog X.w X.K X.mg X.base CX0 k fI fd (("self" : Str) :: fs) (spInitX C fs)) (hr : Room (k + 1) X.A)
    (hb : ∀ (s' : Shared) (a : Value), X.K.In s'.heap → BindsTo s' fd ⟨a :: us, kw⟩ (((("self" : Str) :: fs)).zip (a :: bs))) (hus : us.length ≤ 1000)
    (I : Inv X pins σ H s) (r : Vals vs bs) (hl : vs.length = fs.length) (h : ∀ a H2, H a = none → Ex H H2 → XAt H2 a C (fs.zip vs).reverse → Q (.ref a) H2) :
    wpAny (model X.prog X.w) X.A (call (.ref C) us kw) (EP X pins σ Q) X.xe s := by
  obtain ⟨nm, q, N, bs', bm, sn, sub, ab, col, dd, k0, k1, k2, k3, k5, hC, hbm⟩ := T.cl.oex.cls
  obtain ⟨hp, g, dr, tk, os⟩ := s
  have hsz : hp.objs.size ≤ hp.objs.size + 1 := Nat.le_succ _
  have hn : H (hp.objs.size + 1) = none := I.hok.fresh hsz
  have kk : ∀ b o, hp.get? b = some o → ((hp.push (PySem.W.kdv_tup us)).push (PySem.HandSPX.excO C hp.objs.size)).get? b = some o := fun b o e => Heap.get?_push_of_some _ (Heap.get?_push_of_some _ e)
  have hget : ((hp.push (PySem.W.kdv_tup us)).push (PySem.HandSPX.excO C hp.objs.size)).get? (hp.objs.size + 1) = some (PySem.HandSPX.excO C hp.objs.size) := by heap_get
  have I2 : Inv X pins σ (upd H (hp.objs.size + 1) (exo (hp.objs.size + 1) C none)) ⟨(hp.push (PySem.W.kdv_tup us)).push (PySem.HandSPX.excO C hp.objs.size), g, dr, tk, os⟩ :=
    I.laid (t' := tk) (a := hp.objs.size + 1) (o := exo (hp.objs.size + 1) C none) (h' := (hp.push (PySem.W.kdv_tup us)).push (PySem.HandSPX.excO C hp.objs.size)) kk hsz (exo_ok hget)
  have r2 : Vals (V.ref (hp.objs.size + 1) :: vs) (Value.ref (hp.objs.size + 1) :: bs) := .cons rfl r
  have hus' : us.length ≤ sizeLine := by
    rw [sizeLine_eq]
    omega
  have hq : spInitX C fs (V.ref (hp.objs.size + 1) :: vs) (upd H (hp.objs.size + 1) (exo (hp.objs.size + 1) C none)) (fun v H2 => v = .non ∧ Q (.ref (hp.objs.size + 1)) H2) (fun _ _ _ => False) := by
    refine ⟨_, vs, rfl, hl, upd_same, fun d H' n1 n2 e1 e2 k => ⟨rfl, ?_⟩⟩
    refine h _ H' hn (fun b o e => k b o ?_ (ne_of_none e hn)) ⟨d, e1, e2⟩
    rw [upd_ne (ne_of_none e hn)]
    exact e
  refine wpAny_call (PySem.XV.callK F.excBase_ValueError (fun Y => PySem.HandSPX.refsVE_contains Y bm hbm) (I.kIn _ _ hC) (PySem.W.looks_findIn I.kIn T.init) (fun self => PySem.W.bind_fn I.kIn self T.tI) hus'
    (codeAny_mono (G.run _ X.stack _ _ ⟨Value.ref (hp.objs.size + 1) :: us, kw⟩ (Value.ref (hp.objs.size + 1) :: bs) _ _ (fun _ _ _ => False) (hr.make C us kw) (I2.env0.make C us kw) (hb _ _ I2.kIn) r2 hq) fun r s' hq' => ?_))
  cases r with
  | error er => exact pass0 (X := X) pins σ _ _ er s' I2 hq'
  | ok fl =>
    cases fl with
    | ret u =>
      obtain ⟨v, H2, I3, rv, ev, q2⟩ := I2.after hq'
      subst ev
      exact ⟨rv, ⟨V.ref (hp.objs.size + 1), H2, I3, rfl, q2⟩⟩
    | next => exact False.elim hq'
    | brk => exact False.elim hq'
    | cont => exact False.elim hq'

/-- C(e, ..) -/
theorem pe_xmk {sc : Scope} {qual : Str} {pa : Arguments} {bd : List Stmt} (T : XIn X.K C fI fs) (G : FnOk X.prog X.w X.K X.mg X.base CX0 k fI fd (("self" : Str) :: fs) (spInitX C fs)) (hb : Binds X.K fd (("self" : Str) :: fs) [])
    (hz : fs.length ≤ 1000) (hr : Room (k + 1) X.A) (hg : Gl X x) (hm : X.mg x = some (.ref C)) (ha : PA X (e :: es) t)
    (hdb : (x == ("__debug__" : Str)) = false := by decide) (he : starEach (e :: es) X.env = (false, eval e X.env) :: starEach es X.env := by rfl) (hpl : (backTo pos (starEach es X.env)).any (·.1) = false := by rfl) :
    PE X (.Call (.Name x p) (e :: es) [] pos) (tXmk C fs t) := by
  refine ⟨fun pins s σ H Q I h => ?_⟩
  refine wpAny_Call_Name_kw (ld_glob I hg hm ?_ hdb)
  refine PySem.W.callWith_K (h₀ := X.base) I.ok.mod.kin T.cl.oex.kC (thn (ha.run pos pins s σ H _ I h) fun us s1 ⟨vs, H1, I1, r1, hl, q1⟩ => ⟨I1.kIn, ?_⟩) he hpl
  have hl2 : us.length = fs.length := r1.length.symm.trans hl
  show wpAny _ _ (call (.ref C) us) _ _ _
  refine run_xmk T G hr (fun s' a hK => ?_) (by omega) I1 r1 hl q1
  have z := hb s' (a :: us) hK (by simp [hl2])
  simpa using z
/-- C(k = v, ..), no other -/
theorem pe_xmkK (T : XIn X.K C fI fs) (G : FnOk X.prog X.w X.K X.mg X.base CX0 k fI fd (("self" : Str) :: fs) (spInitX C fs)) {ks : List Str} {g : List Value → List Value} {gV : List V → List V}
    (hb : ∀ (s' : Shared) (a : Value) (ws : List Value), ws.length = ks.length → X.K.In s'.heap → BindsTo s' fd ⟨[a], ks.zip ws⟩ ((("self" : Str) :: fs).zip (a :: g ws)))
    (hv : ∀ {vs : List V} {us : List Value}, Vals vs us → Vals (gV vs) (g us)) {tk : TA}
    (hr : Room (k + 1) X.A) (hg : Gl X x) (hm : X.mg x = some (.ref C)) (hkw : PK X kws tk)
    (hall : (backToKw pos (keywordEach kws X.env)).all (·.1.isSome) = true := by rfl) (hks : (backToKw pos (keywordEach kws X.env)).filterMap (·.1) = ks := by rfl)
    (hdb : (x == ("__debug__" : Str)) = false := by decide) (hpl : ((backTo pos (starEach [] X.env)).any (·.1) || (backToKw pos (keywordEach kws X.env)).any (·.1.isNone)) = false := by rfl) :
    PE X (.Call (.Name x p) [] kws pos) (fun σ H Q => tk σ H fun zs H1 => zs.length = ks.length ∧ (gV zs).length = fs.length ∧ ∀ a H2, H1 a = none → Ex H1 H2 → XAt H2 a C (fs.zip (gV zs)).reverse → Q (.ref a) H2) := by
  refine ⟨fun pins s σ H Q I h => ?_⟩
  refine wpAny_Call_Name_kw (ld_glob I hg hm ?_ hdb)
  refine PySem.W.callWith_KW0 (h₀ := X.base) I.ok.mod.kin T.cl.oex.kC hall ?_ hpl
  refine thn (hkw.run pos pins s σ H _ I h) fun ws s2 ⟨zs, H2, I2, rz, l2, l3, q2⟩ => ⟨I2.kIn, ?_⟩
  rw [hks]
  exact run_xmk (us := []) T G hr (fun s' a hK => hb s' a ws (rz.length.symm.trans l2) hK) (Nat.zero_le _) I2 (hv rz) l3 q2
/-- C(), an own class without an own __init__ -/
theorem pe_xmk0 {bmB : List Value} {B newId initId : String} (F : ExcBaseFacts B newId initId bmB) (q : PySem.W.excIn X.K C bmB newId = true) (kC : PySem.W.keepIn X.K (.ref C) = true) (hg : Gl X x) (hm : X.mg x = some (.ref C))
    (hdb : (x == ("__debug__" : Str)) = false := by decide) :
    PE X (.Call (.Name x p) [] [] pos) (fun _ H Q => ∀ a, H a = none → Q (.ref a) (upd H a (exo a C none))) := by
  refine ⟨fun pins s σ H Q I h => ?_⟩
  refine wpAny_Call_Name_kw (ld_glob I hg hm ?_ hdb)
  refine PySem.W.callWith_K0 I.kIn kC ?_
  show wpAny _ _ (call (.ref C) []) _ _ _
  obtain ⟨bm, N, nm, qn, bs, hdct, sn, sub, ab, col, dd, k0, k1, k2, k3, k5, mN, hC, hN, hni, T⟩ := exc_obj I.kIn q
  refine wpAny_call_exc_subT F T hC hN hni (fun h' a hm => ?_) (by show 0 ≤ sizeLine; rw [sizeLine_eq]; omega)
  have hn : H a = none := I.hok.gone hm.new
  obtain ⟨t, ht, _, _⟩ := hm.there
  exact ⟨.ref a, upd H a (exo a C none), I.laidN hm.keeps hm.new hn (exo_ok ht), rfl, h a hn⟩
/-- e.f of an exception -/
def tXfl (K : PySem.W.Frag) (f : Str) (te : TE) : TE := fun σ H Q => te σ H fun x H1 => ∃ (a C : Addr) (fs : List (Str × V)) (v : V), x = .ref a ∧ XCl K C ∧ PySem.W.findIn K (.ref C) f = some none ∧ XAt H1 a C fs ∧ fs.lookup f = some v ∧ Q v H1
theorem pe_xfl {n : Str} {te : TE} (he : PE X e te) (hb : attributeBase e n X.env (eval e X.env) = eval e X.env := by rfl) : PE X (.Attribute e n pos) (tXfl X.K n te) := by
  refine ⟨fun pins s σ H Q I h => ?_⟩
  refine attr_of hb (thn (he.run pins s σ H _ I h) fun u s1 hh => ?_)
  obtain ⟨x, H1, I1, rx, a, C, fs, v, ex, T, hno, ⟨d, h1, h2⟩, l, q⟩ := hh
  subst ex
  obtain rfl : u = Value.ref a := rx
  obtain ⟨t1, ho⟩ := exo_at I1.hok h1
  obtain ⟨mA, hns, hr⟩ := exd_at I1.hok h2
  obtain ⟨od, hod, hl⟩ := lookIn_ns hns
  obtain ⟨u, hu, ru⟩ := RelO.some_of (v := v) (o := mA n) (by rw [← l]; exact hr n)
  have J : PySem.W.InstAt s1.heap a { cls := .ref C, dict := some d, data := .fields #[.ref t1, .none, .none, .none, .bool false, .none] } C (some od) := ⟨ho, rfl, rfl, hod⟩
  exact HandSPX.exc_get I1.kIn J T.xf.ga T.xf.gg T.xf.exC (PySem.W.findObj_own T.xf.hdC hno rfl (by rw [hl, hu])) (handed_of ru) ⟨v, H1, I1.tok _, ru, q⟩
/-- an exception stands at a, its dict too, or it has none -/
def XSt (H : Hp) (a C : Addr) : Prop := H a = some (exo a C none) ∨ ∃ fs, XAt H a C fs
theorem XSt.ex {H H' : Hp} {a C : Addr} (h : XSt H a C) (e : Ex H H') : XSt H' a C := by
  rcases h with h | ⟨fs, h⟩
  · exact .inl (e _ _ h)
  · exact .inr ⟨fs, h.ex e⟩
theorem XSt.inst {pins : List (Addr × Obj)} {σ : St} {H : Hp} {s : Shared} {a : Addr} (I : Inv X pins σ H s) (h : XSt H a C) : ∃ ox od, PySem.W.InstAt s.heap a ox C od := by
  rcases h with h | ⟨fs, d, h1, h2⟩
  · obtain ⟨t1, ho⟩ := exo_at I.hok h
    exact ⟨_, none, ho, rfl, rfl, True.intro⟩
  · obtain ⟨t1, ho⟩ := exo_at I.hok h1
    obtain ⟨mA, ⟨o, es, ep, e1, e2⟩, hr⟩ := exd_at I.hok h2
    exact ⟨_, some o, ho, rfl, rfl, e1⟩
theorem XCl.kit {a : Addr} {ox : Obj} {od : Option Obj} (T : XCl X.K C) : PySem.W.KitX X.K (.ref a) (.ref C) (fun h => PySem.W.InstAt h a ox C od) :=
  PySem.W.kitx_exc T.hcl T.xf.ga T.xf.gg T.xf.exC T.ha T.hn T.ht T.hm
/-- isinstance(e, c) of an exception -/
def rIsX (K : PySem.W.Frag) : List V → Hp → VK → Prop := fun xs H Q => ∃ (a C : Addr) (c : V) (u : Value) (b : Bool), xs = [.ref a, c] ∧ XCl K C ∧ XSt H a C ∧ ClsV c u ∧ PySem.W.kitOne K (.ref C) u = some b ∧ Q (.bl b) H
def rIsXT (K : PySem.W.Frag) : List V → Hp → VK → Prop := fun xs H Q => ∃ (a C tp : Addr) (cs : List V) (us : List Value) (b : Bool), xs = [.ref a, .ref tp] ∧ XCl K C ∧ XSt H a C ∧ H tp = some (.tup cs) ∧ Paired ClsV cs us ∧ PySem.W.kitAny K (.ref C) us = some b ∧ Q (.bl b) H
theorem call_isX : CallR X (.builtin "isinstance") (rIsX X.K) := by
  intro pins s σ H xs us Q I r h
  obtain ⟨a, C, c, u, b, rfl, T, hs, k, e, q⟩ := h
  obtain ⟨u1, u2, rfl, r1, r2⟩ := vals2 r
  have e2 := k.eq r2
  subst e2
  cases (show u1 = Value.ref a from r1)
  obtain ⟨ox, od, J⟩ := hs.inst I
  exact PySem.W.kia_one T.kit I.kIn J e (fun z => nomatch z) fun tk => ⟨.bl b, H, I.tok tk, rfl, q⟩
theorem call_isXT : CallR X (.builtin "isinstance") (rIsXT X.K) := by
  intro pins s σ H xs us Q I r h
  obtain ⟨a, C, tp, cs, ws, b, rfl, T, hs, hT, k, e, q⟩ := h
  obtain ⟨u1, u2, rfl, r1, r2⟩ := vals2 r
  cases (show u2 = Value.ref tp from r2)
  cases (show u1 = Value.ref a from r1)
  obtain ⟨ox, od, J⟩ := hs.inst I
  obtain ⟨_, its, rv, o, h1, h2, n, h3⟩ := (show ObjOk X.prog X.w H s.heap tp (.tup cs) from I.hok tp _ hT)
  have e3 := ClsV.all k rv
  subst e3
  obtain ⟨oc, odd, dt, sl⟩ := o
  simp only at h2 h3
  subst h2 h3
  exact PySem.W.kia_tup T.kit I.kIn J h1 e (fun z => nomatch z) fun tk => ⟨.bl b, H, I.tok tk, rfl, q⟩
end
end L2
set_option Elab.async false
set_option linter.all false
set_option maxRecDepth 100000
set_option maxHeartbeats 4000000
set_option autoImplicit false
/-! What the head must say of a program's exception classes; what follows. -/
namespace He
open PySem PySem.Spec PyProof.Rows L2
/-- a def's own data -/
def fdOf (K : PySem.W.Frag) (p : Str × Option Str) : FuncData := match K.lookup (fAd K p) with
  | some ⟨_, _, .func fd, _⟩ => fd
  | _ => default
theorem funD_at {fa : List Fa} {fn : List DefD} {K : PySem.W.Frag} (c : SaysD fa fn K) (i : Nat) {d : DefD} (h : fn[i]? = some d) : FunD K d.name d.qual d.params d.body d.scope (d.dvs K) (d.kws K) (fAd K d.at_) (fdOf K d.at_) := by
  obtain ⟨fd, F⟩ := c.def_ i h
  obtain ⟨oc, od, dV, kV, doc, pm, an, cdv, ct, osl, e, lk, _⟩ := id F.ex
  have e2 : fdOf K d.at_ = fd := by
    unfold fdOf
    rw [lk]
  rw [e2]
  exact F
def oexB (K : PySem.W.Frag) (C : Addr) : Bool := match K.lookup C with
  | some ⟨.type "type", _, .cls cd, sl⟩ => (match cd.mro, sl.toList with
    | .ref C' :: bm, [_, _, _, _, some (.builtin n), _] => C' == C && n == "ValueError.__new__" && !cd.hasDel && cd.hasDict && HandSPX.refsVE bm
    | _, _ => false)
  | _ => false
theorem oexB_ok {K : PySem.W.Frag} {C : Addr} (q : oexB K C = true) : ∃ nm q N bs bm sn sub ab col dd k0 k1 k2 k3 k5, K.lookup C = some (excClassObj nm q C N bs bm true sn sub ab col dd k0 k1 k2 k3 k5 "ValueError.__new__") ∧ PySem.HandSPX.refsVE bm = true := by
  unfold oexB at q
  split at q
  · rename_i dd cd sl ho
    split at q
    · rename_i C' bm k0 k1 k2 k3 n k5 hm hs
      simp only [Bool.and_eq_true, beq_iff_eq, Bool.not_eq_true'] at q
      obtain ⟨⟨⟨⟨rfl, rfl⟩, hdel⟩, hd⟩, hr⟩ := q
      obtain ⟨nm, bs, mro, ns, qn, hdc, sn, sub, ab, col, del⟩ := cd
      dsimp only at hm hdel hd
      subst hm hdel hd
      have hsl : sl = #[k0, k1, k2, k3, some (.builtin "ValueError.__new__"), k5] := by
        obtain ⟨l⟩ := sl
        simp only at hs
        rw [hs]
      subst hsl
      exact ⟨nm, qn, ns, bs, bm, sn, sub, ab, col, dd, k0, k1, k2, k3, k5, ho, hr⟩
    · cases q
  · cases q
/-- the classes that an exception class is below, itself first -/
def mroNames (K : PySem.W.Frag) (xs : List Str) : List Value := xs.map fun x => Value.ref (ga K x)
def mroB (K : PySem.W.Frag) (x : Str) (bases : List Str) : Bool := match PySem.W.clsIn K (ga K x) with
  | some cd => cd.mro == mroNames K (x :: bases) ++ HandSPX.veTail
  | none => false
def excB (K : PySem.W.Frag) (e : Str × List Str × List Str) : Bool :=
  oexB K (ga K e.1) && (eqO (PySem.W.findIn K (.ref (ga K e.1)) "__setattr__") (some (some (.builtin "object.__setattr__"))) && (decide (PySem.W.subIn K (.ref (ga K e.1)) (.type "BaseException") = some true) &&
    (decide (PySem.W.typeIn K (.ref (ga K e.1)) = some (.type "type")) && (PySem.W.keepIn K (.ref (ga K e.1)) && (xfB K (ga K e.1) && (eqO (PySem.W.findIn K (.ref (ga K e.1)) "__class__") (some (some (.builtin "object.__class__"))) &&
      (decide (PySem.W.mroIn K (ga K e.1) (.type "object") = some true) && ((e.2.2.all fun f => eqO (PySem.W.findIn K (.ref (ga K e.1)) f) (some none)) && mroB K e.1 e.2.1))))))))
def excsB (K : PySem.W.Frag) (xs : List (Str × List Str × List Str)) : Bool :=
  decide (xs.map fun e => ga K e.1).Nodup && (eqO (PySem.W.specialIn K (.builtin "object.__class__") "__get__") (some (some (.builtin "getset_descriptor.__get__"))) && (decide (PySem.W.takesIn K (.builtin "object.__class__") = some true) && xs.all fun e => excB K e))
section
variable {K : PySem.W.Frag} {xs : List (Str × List Str × List Str)}
theorem excsB_cl (h : excsB K xs = true) {x : Str} {bases fs : List Str} (m : (x, bases, fs) ∈ xs) : XCl K (ga K x) ∧ (∀ f ∈ fs, PySem.W.findIn K (.ref (ga K x)) f = some none) ∧ ∃ cd, PySem.W.clsIn K (ga K x) = some cd ∧ cd.mro = mroNames K (x :: bases) ++ HandSPX.veTail := by
  obtain ⟨_, h⟩ := ba h
  obtain ⟨hn, h⟩ := ba h
  obtain ⟨ht, h⟩ := ba h
  have e := List.all_eq_true.mp h _ m
  obtain ⟨e1, e⟩ := ba e
  obtain ⟨e2, e⟩ := ba e
  obtain ⟨e3, e⟩ := ba e
  obtain ⟨e4, e⟩ := ba e
  obtain ⟨e5, e⟩ := ba e
  obtain ⟨e6, e⟩ := ba e
  obtain ⟨e7, e⟩ := ba e
  obtain ⟨e8, e⟩ := ba e
  obtain ⟨e9, e10⟩ := ba e
  have hcd : ∃ cd, PySem.W.clsIn K (ga K x) = some cd ∧ cd.mro = mroNames K (x :: bases) ++ HandSPX.veTail := by
    have e10' : mroB K x bases = true := e10
    unfold mroB at e10'
    split at e10'
    · rename_i cd hc
      exact ⟨cd, hc, beq_iff_eq.mp e10'⟩
    · cases e10'
  refine ⟨⟨⟨oexB_ok e1, eqO_ok e2, of_decide_eq_true e3, of_decide_eq_true e4, e5⟩, xfB_ok e6, ?_, eqO_ok e7, eqO_ok hn, of_decide_eq_true ht, of_decide_eq_true e8⟩, fun f hf => eqO_ok (List.all_eq_true.mp e9 f hf), hcd⟩
  obtain ⟨cd, hc, _⟩ := hcd
  rw [hc]
  rfl
theorem inj_of_nodup {α β : Type} {f : α → β} : ∀ {l : List α}, (l.map f).Nodup → ∀ {a b : α}, a ∈ l → b ∈ l → f a = f b → a = b
  | [], _, _, _, ha, _, _ => nomatch ha
  | c :: r, nd, a, b, ha, hb, e => by
    rw [List.map_cons, List.nodup_cons] at nd
    rcases List.mem_cons.mp ha with ea | ha
    · rcases List.mem_cons.mp hb with eb | hb
      · rw [ea, eb]
      · exact absurd (List.mem_map.mpr ⟨b, hb, (ea ▸ e).symm⟩) nd.1
    · rcases List.mem_cons.mp hb with eb | hb
      · exact absurd (List.mem_map.mpr ⟨a, ha, eb ▸ e⟩) nd.1
      · exact inj_of_nodup nd.2 ha hb e
theorem ga_inj (h : excsB K xs = true) {x y : Str} (mx : x ∈ xs.map (·.1)) (my : y ∈ xs.map (·.1)) (e : ga K x = ga K y) : x = y := by
  obtain ⟨h1, _⟩ := ba h
  have nd : (xs.map fun e => ga K e.1).Nodup := of_decide_eq_true h1
  have e1 : (xs.map fun e => ga K e.1) = (xs.map (·.1)).map (ga K) := by rw [List.map_map] <;> rfl
  rw [e1] at nd
  exact inj_of_nodup nd mx my e
/-- isinstance against an own class -/
theorem kit_exc (h : excsB K xs = true) {x d : Str} {bases fs b2 f2 : List Str} (mx : (x, bases, fs) ∈ xs) (md : (d, b2, f2) ∈ xs) (hb : ∀ y ∈ bases, y ∈ xs.map (·.1)) :
    PySem.W.kitOne K (.ref (ga K x)) (.ref (ga K d)) = some (decide (d ∈ x :: bases)) := by
  obtain ⟨T, _, cd, hc, hm⟩ := excsB_cl h mx
  obtain ⟨T2, _, _⟩ := excsB_cl h md
  have mx' : x ∈ xs.map (·.1) := List.mem_map.mpr ⟨_, mx, rfl⟩
  have md' : d ∈ xs.map (·.1) := List.mem_map.mpr ⟨_, md, rfl⟩
  unfold PySem.W.kitOne
  by_cases e : x = d
  · subst e
    rw [if_pos (beq_iff_eq.mpr rfl), decide_eq_true List.mem_cons_self]
  · have ne : ¬ (Value.ref (ga K x) == Value.ref (ga K d)) = true := fun q => e (ga_inj h mx' md' (Value.ref.inj (beq_iff_eq.mp q)))
    rw [if_neg ne]
    unfold PySem.W.kitCls
    show (if ((PySem.W.clsIn K (ga K d)).isSome && PySem.W.typeIn K (.ref (ga K d)) == some (.type "type")) = true then PySem.W.subIn K (.ref (ga K x)) (.ref (ga K d)) else none) = _
    rw [if_pos (by rw [T2.hcl, T2.oex.tyC] <;> rfl)]
    show PySem.W.mroIn K (ga K x) (.ref (ga K d)) = _
    unfold PySem.W.mroIn
    rw [hc, Option.bind_some, if_neg (by rw [hm]; exact fun q => by cases q)]
    congr 1
    rw [hm]
    by_cases q : d ∈ x :: bases
    · rw [decide_eq_true q, List.contains_iff_mem]
      exact List.mem_append_left _ (List.mem_map.mpr ⟨d, q, rfl⟩)
    · rw [decide_eq_false q, Bool.eq_false_iff]
      intro z
      rw [List.contains_iff_mem] at z
      rcases List.mem_append.mp z with z | z
      · obtain ⟨y, hy, ey⟩ := List.mem_map.mp z
        have my : y ∈ xs.map (·.1) := by
          rcases List.mem_cons.mp hy with r | r
          · rw [r]
            exact mx'
          · exact hb y r
        exact q (ga_inj h my md' (Value.ref.inj ey) ▸ hy)
      · have z' : Value.ref (ga K d) ∈ [Value.type "ValueError", .type "Exception", .type "BaseException", .type "object"] := z
        simp at z'
/-- .. against a built-in one -/
theorem kit_excT (h : excsB K xs = true) {x : Str} {bases fs : List Str} (mx : (x, bases, fs) ∈ xs) {t : String} (ht : PySem.W.kitMeta t = true) :
    PySem.W.kitOne K (.ref (ga K x)) (.type t) = some (HandSPX.veTail.contains (.type t)) := by
  obtain ⟨T, _, cd, hc, hm⟩ := excsB_cl h mx
  unfold PySem.W.kitOne
  rw [if_neg (show ¬ (Value.ref (ga K x) == Value.type t) = true from fun q => nomatch (beq_iff_eq.mp q))]
  unfold PySem.W.kitCls
  show (if PySem.W.kitMeta t = true then PySem.W.subIn K (.ref (ga K x)) (.type t) else none) = _
  rw [if_pos ht]
  show PySem.W.mroIn K (ga K x) (.type t) = _
  unfold PySem.W.mroIn
  rw [hc, Option.bind_some, if_neg (by rw [hm]; exact fun q => by cases q)]
  congr 1
  rw [hm]
  have key : ∀ l : List Str, (mroNames K l ++ HandSPX.veTail).contains (.type t) = HandSPX.veTail.contains (.type t) := by
    intro l
    induction l with
    | nil => rfl
    | cons a r ih =>
      show (Value.ref (ga K a) :: (mroNames K r ++ HandSPX.veTail)).contains (.type t) = _
      rw [List.contains_cons, ih]
      rfl
  exact key _
end
end He
set_option Elab.async false
set_option linter.all false
set_option maxRecDepth 100000
set_option maxHeartbeats 4000000
set_option autoImplicit false
/-! Rules and words of our own for the laws: == of lists with decided items, the pen of a law, keywords. -/
namespace L2
open PySem PySem.Spec PyProof.Rows Evl

/-! ### == of items whose answer is known -/
inductive Eqv : V → V → Bool → Prop where
  | non : Eqv .non .non true
  | bl (a b : Bool) : Eqv (.bl a) (.bl b) (a == b)
  | int (a b : Int) : Eqv (.int a) (.int b) (a == b)
  | str (a b : Str) : Eqv (.str a) (.str b) (a == b)
  | same (a : Addr) : Eqv (.ref a) (.ref a) true
  | nonBl (b : Bool) : Eqv .non (.bl b) false
  | blNon (b : Bool) : Eqv (.bl b) .non false
  | nonInt (b : Int) : Eqv .non (.int b) false
  | intNon (b : Int) : Eqv (.int b) .non false
  | nonStr (b : Str) : Eqv .non (.str b) false
  | strNon (b : Str) : Eqv (.str b) .non false
theorem Eqv.at {A : Around} {s : Shared} {x y : V} {b : Bool} {u v : Value} (h : Eqv x y b) (rx : RelV x u) (ry : RelV y v) : SeqAt.EqAt A s u v b := by
  cases h with
  | non => cases rx; cases ry; exact SeqAt.EqAt.same _
  | bl a b => cases rx; cases ry; exact SeqAt.EqAt.bool_bool _ _
  | int a b => obtain ⟨t, rfl⟩ := rx; obtain ⟨t', rfl⟩ := ry; exact SeqAt.EqAt.int_int _ _ _ _
  | str a b => obtain ⟨t, rfl⟩ := rx; obtain ⟨t', rfl⟩ := ry; exact SeqAt.EqAt.str_str _ _ _ _
  | same a => cases rx; cases ry; exact SeqAt.EqAt.same _
  | nonBl b => cases rx; cases ry; exact SeqAt.EqAt.none_bool _
  | blNon b => cases rx; cases ry; exact SeqAt.EqAt.bool_none _
  | nonInt b => cases rx; obtain ⟨t', rfl⟩ := ry; exact SeqAt.EqAt.none_int _ _
  | intNon b => cases ry; obtain ⟨t', rfl⟩ := rx; exact SeqAt.EqAt.int_none _ _
  | nonStr b => cases rx; obtain ⟨t', rfl⟩ := ry; exact SeqAt.EqAt.none_str _ _
  | strNon b => cases ry; obtain ⟨t', rfl⟩ := rx; exact SeqAt.EqAt.str_none _ _
/-- two rows of values, item by item -/
inductive Eqvs : List V → List V → List Bool → Prop where
  | nil : Eqvs [] [] []
  | cons {x y : V} {b : Bool} {xs ys : List V} {bs : List Bool} : Eqv x y b → Eqvs xs ys bs → Eqvs (x :: xs) (y :: ys) (b :: bs)
theorem Eqvs.len {xs ys : List V} {bs : List Bool} (h : Eqvs xs ys bs) : xs.length = bs.length ∧ ys.length = bs.length := by
  induction h with
  | nil => exact ⟨rfl, rfl⟩
  | cons _ _ ih => exact ⟨congrArg Nat.succ ih.1, congrArg Nat.succ ih.2⟩
theorem Eqvs.at {A : Around} {s : Shared} {xs ys : List V} {bs : List Bool} (h : Eqvs xs ys bs) : ∀ {us vs : List Value}, Vals xs us → Vals ys vs → ∀ j (h1 : j < us.length) (h2 : j < vs.length), SeqAt.EqAt A s us[j] vs[j] (bs.getD j false) := by
  induction h with
  | nil =>
    intro us vs r1 r2 j h1 h2
    cases r1
    exact absurd h1 (Nat.not_lt_zero j)
  | cons h _ ih =>
    intro us vs r1 r2 j h1 h2
    cases r1 with
    | cons a1 b1 =>
      cases r2 with
      | cons a2 b2 =>
        cases j with
        | zero => exact h.at a1 a2
        | succ j => exact ih b1 b2 j (Nat.lt_of_succ_lt_succ h1) (Nat.lt_of_succ_lt_succ h2)
theorem range_all : ∀ (bs : List Bool), (List.range bs.length).all (fun j => bs.getD j false) = bs.all id
  | [] => rfl
  | b :: bs => by
    rw [List.length_cons, List.range_succ_eq_map, List.all_cons, List.all_map, List.all_cons]
    have h := range_all bs
    show (b && (List.range bs.length).all fun j => (b :: bs).getD (j + 1) false) = _
    rw [← h]
    rfl
/-- == of two lists: their lengths, then item by item -/
def LEq (xs ys : List V) (r : Bool) : Prop := (xs.length ≠ ys.length ∧ r = false) ∨ ∃ bs, Eqvs xs ys bs ∧ r = bs.all id
def rEqL (K : PySem.W.Frag) : R2 := fun x y H Q => ∃ a b xs ys r, x = .ref a ∧ y = .ref b ∧ SqL K H a xs ∧ SqL K H b ys ∧ LEq xs ys r ∧ Q (.bl r) H
def rNeL (K : PySem.W.Frag) : R2 := fun x y H Q => ∃ a b xs ys r, x = .ref a ∧ y = .ref b ∧ SqL K H a xs ∧ SqL K H b ys ∧ LEq xs ys r ∧ Q (.bl (!r)) H
section
variable {X : Cx}
theorem op_eqL (hu : X.A.units < cLine) : OpR X (compareOp .Eq) (rEqL X.K) := by
  intro pins s σ H x y v u Q I rx ry h
  obtain ⟨a, b, xs, ys, r, rfl, rfl, ha, hb, he, q⟩ := h
  cases (show v = Value.ref a from rx)
  cases (show u = Value.ref b from ry)
  obtain ⟨us, r1, p1, _⟩ := I.list ha
  obtain ⟨ws, r2, p2, _⟩ := I.list hb
  have l1 := r1.length
  have l2 := r2.length
  rcases he with ⟨hn, rfl⟩ | ⟨bs, he, rfl⟩
  · exact SeqAt.RcAt.lists_lengths p1.isList p2.isList (by simp only [List.size_toArray, bne_iff_ne]; omega) hu X.prog X.w _ _ ⟨.bl false, H, I, rfl, q⟩
  · have hl := he.len
    have hsz : us.toArray.size = ws.toArray.size := by simp only [List.size_toArray]; omega
    refine SeqAt.RcAt.lists (e := fun j => bs.getD j false) p1.isList p2.isList hsz hu (fun j h1 h2 => ?_) X.prog X.w _ _ ⟨.bl (bs.all id), H, I, ?_, q⟩
    · have k := he.at (A := X.A.in1) (s := s) r1 r2 j (by simpa using h1) (by simpa using h2)
      simpa using k
    · have e : us.toArray.size = bs.length := by simp only [List.size_toArray]; omega
      rw [e, range_all]
      rfl
theorem op_neL (hu : X.A.units < cLine) : OpR X (compareOp .NotEq) (rNeL X.K) := by
  intro pins s σ H x y v u Q I rx ry h
  obtain ⟨a, b, xs, ys, r, rfl, rfl, ha, hb, he, q⟩ := h
  cases (show v = Value.ref a from rx)
  cases (show u = Value.ref b from ry)
  obtain ⟨us, r1, p1, _⟩ := I.list ha
  obtain ⟨ws, r2, p2, _⟩ := I.list hb
  have l1 := r1.length
  have l2 := r2.length
  rcases he with ⟨hn, rfl⟩ | ⟨bs, he, rfl⟩
  · exact SeqAt.RcNeAt.lists_lengths p1.isList p2.isList (by simp only [List.size_toArray, bne_iff_ne]; omega) hu X.prog X.w _ _ ⟨.bl true, H, I, rfl, q⟩
  · have hl := he.len
    have hsz : us.toArray.size = ws.toArray.size := by simp only [List.size_toArray]; omega
    refine SeqAt.RcNeAt.lists (e := fun j => bs.getD j false) p1.isList p2.isList hsz hu (fun j h1 h2 => ?_) X.prog X.w _ _ ⟨.bl (!bs.all id), H, I, ?_, q⟩
    · have k := he.at (A := X.A.in1) (s := s) r1 r2 j (by simpa using h1) (by simpa using h2)
      simpa using k
    · have e : us.toArray.size = bs.length := by simp only [List.size_toArray]; omega
      rw [e, range_all]
      rfl
/-- a value that is asked whether it is unlike itself: it is not -/
def SelfV (K : PySem.W.Frag) (H : Hp) (x : V) : Prop := scal x x = true ∨ (∃ d, Dp K H x d ∧ SeqAt.shaped d = true) ∨ ∃ a, x = .ref a ∧ H a = some (.dK [])
def rNeSelf (K : PySem.W.Frag) : R2 := fun x y H Q => x = y ∧ SelfV K H x ∧ Q (.bl false) H
theorem op_neSelf (hu : X.A.units + 64 < cLine) : OpR X (compareOp .NotEq) (rNeSelf X.K) := by
  intro pins s σ H x y v u Q I rx ry h
  obtain ⟨rfl, hs, q⟩ := h
  rcases hs with hs | ⟨d, hd, sd⟩ | ⟨a, rfl, ha⟩
  · refine op_ne pins s σ H x x v u Q I rx ry ⟨hs, ?_⟩
    rw [decide_eq_true rfl]
    exact q
  · refine op_neD hu pins s σ H x x v u Q I rx ry ⟨d, d, hd, hd, sd, sd, ?_⟩
    rw [SeqAt.eqv_refl d (SeqAt.canLay_of_shaped sd)]
    exact q
  · exact op_ne_dictA (by omega) pins s σ H _ _ v u Q I rx ry ⟨a, a, [], [], rfl, rfl, ha, ha, rfl, fun p hp => (nomatch hp), q⟩
end

/-! ### keywords -/
section
variable {K : PySem.W.Frag} {x qual : Str} {params : Arguments} {body : List Stmt} {scope : Scope} {kws : List (Str × V)} {f : Addr} {fd : FuncData} {ps : List Str}
theorem FunD.kbindsP (F : FunD K x qual params body scope [] kws f fd) (n : Nat) (ks : List Str) (g : {α : Type} → List α → List α → List α)
    (hrel : ∀ {vs zs : List V} {us ws : List Value}, Vals vs us → Vals zs ws → Vals (g vs zs) (g us ws))
    (h : ∀ (kV doc pm : Value) (an : Option Addr) (cdv ct : Value) (us ws : List Value), us.length = n → ws.length = ks.length →
      bindArgs (PySem.W.fnOf x qual params body scope .none kV doc pm an cdv ct) ⟨us, ks.zip ws⟩ = pure (ps.zip (g us ws))) : KBn K fd ps n ks (fun us ws => g us ws) (fun vs zs => g vs zs) := by
  obtain ⟨oc, od, dV, kV, doc, pm, an, cdv, ct, osl, rfl, lk, hcd, hD, hK⟩ := F.ex
  rcases hD with ⟨_, rfl⟩ | ⟨e, _⟩
  · exact ⟨fun s us ws _ l1 l2 => .of_eq (h kV doc pm an cdv ct us ws l1 l2), fun r1 r2 => hrel r1 r2⟩
  · exact absurd rfl e
end
section
variable {X : Cx} {CX : CXT} {k n : Nat} {f : Addr} {fd : FuncData} {ps ks : List Str} {sp : Sp} {E : XK} {x : Str} {p pos : Pos} {kws : List Keyword} {tk : TA} {g : List Value → List Value → List Value} {gV : List V → List V → List V}
/-- f(k = v, ..) -/
theorem pe_callN0 (F : FnOk X.prog X.w X.K X.mg X.base CX k f fd ps sp) (hr : Room k X.A) (hg : Gl X x) (hm : X.mg x = some (.ref f)) (hk : PySem.W.keepIn X.K (.ref f) = true) (hb : KBn X.K fd ps 0 ks g gV) (hx : Passes CX X E)
    (hkw : PK X kws tk) (hall : (backToKw pos (keywordEach kws X.env)).all (·.1.isSome) = true := by rfl) (hks : (backToKw pos (keywordEach kws X.env)).filterMap (·.1) = ks := by rfl)
    (hdb : (x == ("__debug__" : Str)) = false := by decide) (hpl : ((backTo pos (starEach [] X.env)).any (·.1) || (backToKw pos (keywordEach kws X.env)).any (·.1.isNone)) = false := by rfl) :
    PE X (.Call (.Name x p) [] kws pos) (tCallN 0 ks.length sp gV E tNil tk) := by
  refine ⟨fun pins s σ H Q I h => ?_⟩
  refine wpAny_Call_Name_kw (ld_glob I hg hm ?_ hdb)
  refine PySem.W.callWith_KW0 (h₀ := X.base) I.ok.mod.kin hk hall ?_ hpl
  refine thn (hkw.run pos pins s σ H _ I h) fun ws s2 ⟨zs, H2, I2, rz, l1, l2, q2⟩ => ⟨I2.kIn, ?_⟩
  rw [hks]
  exact run_fnN (us := []) (vs := []) F hr hb hx I2 .nil rz rfl l2 q2
end

/-! ### the pen of a law: a list of its cells, how many were begun, and what is left of a great one -/
/-- all but p is as it was -/
def Off (p : Addr) (H H' : Hp) : Prop := ∀ a o, H a = some o → a ≠ p → H' a = some o
theorem Off.refl (p : Addr) (H : Hp) : Off p H H := fun _ _ h _ => h
theorem Off.trans {p : Addr} {H H1 H2 : Hp} (a : Off p H H1) (b : Off p H1 H2) : Off p H H2 := fun x o h n => b x o (a x o h n) n
theorem Off.of {p : Addr} {H H' : Hp} (e : Ex H H') : Off p H H' := fun a o h _ => e a o h
theorem Off.upd {p : Addr} {H H' : Hp} (e : Off p H H') {o : HO} : Off p H (upd H' p o) := fun a u h n => by
  rw [upd_ne n]
  exact e a u h n
structure PenAt (K : PySem.W.Frag) (n : Nat) (H : Hp) (p c : Addr) : Prop where
  at_ : ∃ (t r : Int) (ns : List Int), H p = some (.lst [.ref c, .int t, .int r]) ∧ H c = some (.lst (ns.map V.int)) ∧ c ≠ p ∧ 0 ≤ t ∧ t ≤ (n : Int) ∧ 0 ≤ r ∧ ns.length ≤ 100
theorem rd_ne {H H' : Hp} {p c : Addr} {u : HO} (e : Off p H H') (n : c ≠ p) (h : Rd H c u) : Rd H' c u := by
  rcases h with h | ⟨o, h⟩
  · exact .inl (e _ _ h n)
  · exact .inr ⟨o, e _ _ h n⟩
theorem Off.sq {K : PySem.W.Frag} {H H' : Hp} {p c : Addr} {xs : List V} (e : Off p H H') (n : c ≠ p) (h : SqL K H c xs) : SqL K H' c xs := by
  rcases h with h | h
  · exact .inl (rd_ne e n h)
  · exact .inr h
theorem Off.sqT {K : PySem.W.Frag} {H H' : Hp} {p c : Addr} {xs : List V} (e : Off p H H') (n : c ≠ p) (h : SqT K H c xs) : SqT K H' c xs := by
  rcases h with h | h
  · exact .inl (rd_ne e n h)
  · exact .inr h
theorem PenAt.ex {K : PySem.W.Frag} {n : Nat} {H H' : Hp} {p c : Addr} (h : PenAt K n H p c) (e : Ex H H') : PenAt K n H' p c := by
  obtain ⟨t, r, ns, h1, h2, h3⟩ := h
  exact ⟨t, r, ns, e _ _ h1, e _ _ h2, h3⟩
theorem PenAt.mono {K : PySem.W.Frag} {n m : Nat} {H : Hp} {p c : Addr} (h : PenAt K n H p c) (l : n ≤ m) : PenAt K m H p c := by
  obtain ⟨t, r, ns, h1, h2, h3, h4, h5, h6⟩ := h
  exact ⟨t, r, ns, h1, h2, h3, h4, by omega, h6⟩
theorem PenAt.there {K : PySem.W.Frag} {n : Nat} {H : Hp} {p c : Addr} (h : PenAt K n H p c) : ∃ o, H p = some o := by
  obtain ⟨t, r, ns, h1, _⟩ := h
  exact ⟨_, h1⟩
/-- what was new beside the pen may change -/
theorem PenAt.mut {K : PySem.W.Frag} {n m : Nat} {H H' : Hp} {p c q : Addr} (h : PenAt K n H p c) (hq : H q = none) (h' : PenAt K m H' p c) {o : HO} : PenAt K m (upd H' q o) p c := by
  obtain ⟨t, r, ns, h1, h2, _⟩ := h
  obtain ⟨t', r', ns', k1, k2, k3⟩ := h'
  exact ⟨t', r', ns', by rw [upd_ne (ne_of_none h1 hq)]; exact k1, by rw [upd_ne (ne_of_none h2 hq)]; exact k2, k3⟩
theorem Off.back {p q : Addr} {H H' : Hp} (e : Off p H H') {o : HO} (h : H' p = some o) (f : H' q = none) : H q = none := by
  cases z : H q with
  | none => rfl
  | some u =>
    by_cases n : q = p
    · rw [n, h] at f
      cases f
    · rw [e q u z n] at f
      cases f
/-- a draw below m: at most one cell more is begun -/
def spDraw (K : PySem.W.Frag) : Sp := fun vs H Q _ => ∃ (p c : Addr) (m : Int) (n : Nat), vs = [.ref p, .int m] ∧ 0 < m ∧ m < 1073741824 ∧ PenAt K n H p c ∧ n ≤ 100000 ∧
  ∀ (d : Int) (H' : Hp), 0 ≤ d → d < m → Off p H H' → PenAt K (n + 1) H' p c → Q (.int d) H'
/-- one of a list's items -/
def spPick (K : PySem.W.Frag) : Sp := fun vs H Q _ => ∃ (p c l : Addr) (xs : List V) (n : Nat), vs = [.ref p, .ref l] ∧ SqL K H l xs ∧ l ≠ p ∧ 0 < xs.length ∧ xs.length ≤ 1000 ∧ PenAt K n H p c ∧ n ≤ 100000 ∧
  ∀ (i : Nat) (x : V) (H' : Hp), xs[i]? = some x → Off p H H' → PenAt K (n + 1) H' p c → Q x H'
end L2
set_option Elab.async false
set_option linter.all false
set_option maxRecDepth 100000
set_option maxHeartbeats 4000000
set_option autoImplicit false
namespace L2
open PySem PySem.Spec PyProof.Rows Evl
/-! ### kinds of values -/
def kinds : List String := ["NoneType", "bool", "int", "str", "list", "tuple", "dict"]
/-- a value of a built-in kind -/
structure Kd (K : PySem.W.Frag) (H : Hp) (x : V) (T : String) : Prop where
  ty : TyX K H x (.type T)
  mem : T ∈ kinds
section
variable {K : PySem.W.Frag} {H : Hp} {a : Addr} {xs : List V}
theorem kd_non : Kd K H .non "NoneType" := ⟨.base .non, by decide⟩
theorem kd_bl (b : Bool) : Kd K H (.bl b) "bool" := ⟨.base (.bl b), by decide⟩
theorem kd_int (i : Int) : Kd K H (.int i) "int" := ⟨.base (.int i), by decide⟩
theorem kd_str (x : Str) : Kd K H (.str x) "str" := ⟨.base (.str x), by decide⟩
theorem kd_lst (h : H a = some (.lst xs)) : Kd K H (.ref a) "list" := ⟨.base (.lst h), by decide⟩
theorem kd_tup (h : H a = some (.tup xs)) : Kd K H (.ref a) "tuple" := ⟨.base (.tup h), by decide⟩
theorem kd_dK {kvs : List (Key × V)} (h : H a = some (.dK kvs)) : Kd K H (.ref a) "dict" := ⟨.base (.dK h), by decide⟩
theorem kd_sqL (h : SqL K H a xs) : Kd K H (.ref a) "list" := by
  refine ⟨?_, by decide⟩
  rcases h with (h | ⟨o, h⟩) | ⟨o, its, n, h1, h2, _⟩
  · exact .base (.lst h)
  · exact .base (.frz h)
  · exact .kList h1 h2
theorem kd_sqT (h : SqT K H a xs) : Kd K H (.ref a) "tuple" := by
  refine ⟨?_, by decide⟩
  rcases h with (h | ⟨o, h⟩) | ⟨o, its, n, h1, h2, _⟩
  · exact .base (.tup h)
  · exact .fTuple h
  · exact .kTuple h1 h2
theorem Kd.ex {H' : Hp} {x : V} {T : String} (h : Kd K H x T) (e : Ex H H') : Kd K H' x T := by
  refine ⟨?_, h.mem⟩
  cases h.ty with
  | base b =>
    cases b with
    | non => exact .base .non
    | bl x => exact .base (.bl x)
    | int i => exact .base (.int i)
    | str x => exact .base (.str x)
    | flt x => exact .base (.flt x)
    | lst h2 => exact .base (.lst (e _ _ h2))
    | frz h2 => exact .base (.frz (e _ _ h2))
    | tup h2 => exact .base (.tup (e _ _ h2))
    | dK h2 => exact .base (.dK (e _ _ h2))
    | dT h2 => exact .base (.dT (e _ _ h2))
  | byt b => exact .byt b
  | set h2 => exact .set (e _ _ h2)
  | kList h2 c => exact .kList h2 c
  | kTuple h2 c => exact .kTuple h2 c
  | kDict h2 c => exact .kDict h2 c
  | fTuple h2 => exact .fTuple (e _ _ h2)
  | fDict h2 => exact .fDict (e _ _ h2)
end
def kAns (T c : String) : Bool := T == c || (T == "bool" && c == "int")
theorem kd_isi {K : PySem.W.Frag} {T c : String} (hT : T ∈ kinds) (hc : c ∈ kinds) : PySem.W.kitOne K (.type T) (.type c) = some (kAns T c) := by
  have h : ∀ T ∈ kinds, ∀ c ∈ kinds, kitB T c = some (kAns T c) := by decide +kernel
  exact kit_ty (h T hT c hc)
/-- isinstance(x, C) of a value of a built-in kind, an answer -/
theorem rc_isi {K : PySem.W.Frag} {H : Hp} {x : V} {T c : String} (h : Kd K H x T) (hc : c ∈ kinds) : RC (rIsi K) [x, .ty c] H (.bl (kAns T c)) := fun H1 e Q q =>
  ⟨x, .ty c, .type T, .type c, kAns T c, rfl, .ty c, (h.ex e).ty, kd_isi h.mem hc, q H1 (Ex.refl H1)⟩
/-- isinstance(x, (C, D)), the tuple just made -/
def kAny (T : String) (cs : List String) : Bool := cs.any fun c => kAns T c
theorem kit_anyK {K : PySem.W.Frag} {T : String} (hT : T ∈ kinds) : ∀ (cs : List String), (∀ c ∈ cs, c ∈ kinds) → PySem.W.kitAny K (.type T) (cs.map .type) = some (kAny T cs)
  | [], _ => rfl
  | c :: cs, h => by
    have h1 := kd_isi (K := K) hT (h c List.mem_cons_self)
    refine kitAny_cons h1 (fun e => ?_) (fun e => ?_)
    · rw [kit_anyK hT cs fun d hd => h d (List.mem_cons_of_mem _ hd)]
      show some (kAny T cs) = some (kAns T c || kAny T cs)
      rw [e] <;> rfl
    · show (kAns T c || kAny T cs) = true
      rw [e] <;> rfl
theorem cls_all (cs : List String) : Paired ClsV (cs.map V.ty) (cs.map Value.type) := by
  induction cs with
  | nil => exact .nil
  | cons c cs ih => exact .cons (.ty c) ih
theorem ev_isiT {K : PySem.W.Frag} {σ : L2.St} {H : Hp} {x : V} {ta tu : TE} {T : String} (cs : List String) (ha : Ev ta σ H x) (hu : EvU tu σ H (cs.map V.ty)) (h : Kd K H x T) (hc : ∀ c ∈ cs, c ∈ kinds) : Ev (tCB (rIsiT K) (tCons ta (tCons tu tNil))) σ H (.bl (kAny T cs)) :=
  fun H1 e Q q => ha H1 e _ fun H2 e2 => hu H2 (e.trans e2) _ fun p H3 _ e3 hp => ⟨x, p, cs.map V.ty, .type T, cs.map .type, kAny T cs, rfl, hp, cls_all cs, (h.ex ((e.trans e2).trans e3)).ty, kit_anyK h.mem cs hc, q H3 (e2.trans e3)⟩
section
variable {X : Cx}
/-! ### is True, is False -/
def rIsBX : R2 := fun x y H Q => ∃ b, y = .bl b ∧ Q (.bl (decide (x = .bl b))) H
def rNotBX : R2 := fun x y H Q => ∃ b, y = .bl b ∧ Q (.bl (!decide (x = .bl b))) H
theorem rel_bool {x : V} {v : Value} {b : Bool} (r : RelV x v) : decide (x = .bl b) = (v == .bool b) := by
  cases x with
  | bl c =>
    cases (show v = Value.bool c from r)
    rw [dec_bl]
    cases c <;> cases b <;> rfl
  | non => cases (show v = Value.none from r); rfl
  | int i => obtain ⟨t, rfl⟩ := r; rfl
  | str i => obtain ⟨t, rfl⟩ := r; rfl
  | byt i => obtain ⟨t, rfl⟩ := r; rfl
  | flt i => obtain ⟨t, rfl⟩ := r; rfl
  | ref i => cases r; rfl
  | ty i => cases r; rfl
theorem op_is_bl : OpR X (compareOp .Is) rIsBX := by
  intro pins s σ H x y v u Q I rx ry h
  obtain ⟨b, rfl, q⟩ := h
  cases (show u = Value.bool b from ry)
  have fin : EP X pins σ Q (.bool (v == .bool b)) s := ⟨.bl _, H, I, congrArg Value.bool (rel_bool rx).symm, q⟩
  cases x <;> first
    | (cases rx; exact wpAny_pure fin)
    | (obtain ⟨t, rfl⟩ := rx; exact wpAny_pure fin)
theorem op_isnot_bl : OpR X (compareOp .IsNot) rNotBX := by
  intro pins s σ H x y v u Q I rx ry h
  obtain ⟨b, rfl, q⟩ := h
  cases (show u = Value.bool b from ry)
  have fin : EP X pins σ Q (.bool (!(v == .bool b))) s := ⟨.bl _, H, I, congrArg Value.bool (congrArg not (rel_bool rx).symm), q⟩
  cases x <;> first
    | (cases rx; exact wpAny_pure fin)
    | (obtain ⟨t, rfl⟩ := rx; exact wpAny_pure fin)
/-! ### a walk over a list or a tuple -/
theorem PI.or {tg iter : Expr} {w1 w2 : TI} (h : PI X tg iter w1) (h' : PI X tg iter w2) : PI X tg iter (fun σ H R => w1 σ H R ∨ w2 σ H R) :=
  ⟨fun pins s σ H R I q => q.elim (h.run pins s σ H R I) (h'.run pins s σ H R I)⟩
def iSeq (K : PySem.W.Frag) (tl : TE) : TI := fun σ H R => iList K tl σ H R ∨ iTup K tl σ H R
theorem pi_seq {tg l : Expr} {tl : TE} (hl : PE X l tl) : PI X tg l (iSeq X.K tl) := PI.or (pi_list hl) (pi_tup hl)
/-! ### texts -/
def signsV (z : Str) : List V := z.cps.toList.map fun c => .str ⟨#[c]⟩
def rListStr : List V → Hp → VK → Prop := fun xs H Q => ∃ z, xs = [.str z] ∧ z.length ≤ sizeLine ∧ ∀ l, H l = none → Q (.ref l) (upd H l (.lst (signsV z)))
theorem call_listStr (hc : X.calm = true) : CallR X (.type "list") rListStr := by
  intro pins s σ H xs us Q I r h
  obtain ⟨z, rfl, hz, q⟩ := h
  obtain ⟨u, rfl, t, rfl⟩ := vals1 r
  refine call_list_str (I.ok.hd hc) z t (hn := hz) fun h' tk acc' c' hk hS hacc => ?_
  have hf : H s.heap.objs.size = none := I.hok.fresh (Nat.le_refl _)
  have hv : Vals (signsV z) acc'.toList := by
    have e1 : (signsV z).length = acc'.toList.length := by
      unfold signsV
      rw [List.length_map, Array.length_toList, Array.length_toList]
      exact hacc.1.symm
    have key : ∀ (as : List V) (bs : List Value), as.length = bs.length → (∀ (j : Nat) (x : V) (v : Value), as[j]? = some x → bs[j]? = some v → RelV x v) → Vals as bs := by
      intro as
      induction as with
      | nil =>
        intro bs e _
        cases bs with
        | nil => exact .nil
        | cons _ _ => cases e
      | cons a as ih =>
        intro bs e k
        cases bs with
        | nil => cases e
        | cons b bs => exact .cons (k 0 a b rfl rfl) (ih bs (Nat.succ.inj e) fun j x v h1 h2 => k (j + 1) x v h1 h2)
    refine key _ _ e1 fun j x v h1 h2 => ?_
    obtain ⟨c, u, hc1, rfl⟩ := hacc.2 j v (by simpa using h2)
    unfold signsV at h1
    rw [List.getElem?_map] at h1
    have hc2 : z.cps.toList[j]? = some c := by simpa using hc1
    rw [hc2] at h1
    cases h1
    exact ⟨u, rfl⟩
  have new : ObjOk X.prog X.w (upd H s.heap.objs.size (.lst (signsV z))) h' s.heap.objs.size (.lst (signsV z)) :=
    ⟨by unfold signsV; rw [List.length_map]; exact hz, acc'.toList, c', hv, by simpa using hS⟩
  exact ⟨.ref _, _, I.laid (t' := tk) hk (Nat.le_refl _) new, rfl, q _ hf⟩
/-- a text, n times -/
def repS (z : Str) (n : Int) : Str := if n < 1 then Str.empty else if (n == 1 || z.length == 0) = true then z else ⟨(List.replicate n.toNat z.cps).foldl (· ++ ·) #[]⟩
theorem foldl_app (a : Array Nat) : ∀ (n : Nat) (acc : Array Nat), ((List.replicate n a).foldl (· ++ ·) acc).toList = acc.toList ++ (List.replicate n a.toList).flatten
  | 0, acc => by simp
  | n + 1, acc => by
    rw [List.replicate_succ, List.foldl_cons, foldl_app a n, List.replicate_succ, List.flatten_cons, Array.toList_append, List.append_assoc]
theorem repS_list (z : Str) (n : Int) : (repS z n).cps.toList = (List.replicate n.toNat z.cps.toList).flatten := by
  unfold repS
  by_cases c1 : n < 1
  · rw [if_pos c1, show n.toNat = 0 by omega]
    rfl
  · rw [if_neg c1]
    by_cases c2 : (n == 1 || z.length == 0) = true
    · rw [if_pos c2]
      rcases Bool.or_eq_true_iff.mp c2 with e | e
      · have e1 : n = 1 := by simpa using e
        rw [e1]
        simp
      · have e1 : z.cps.toList = [] := by
          have : z.cps.size = 0 := by simpa [Str.length] using e
          exact List.eq_nil_of_length_eq_zero (by simpa using this)
        rw [e1]
        simp
    · rw [if_neg c2]
      show ((List.replicate n.toNat z.cps).foldl (· ++ ·) #[]).toList = _
      rw [foldl_app]
      rfl
theorem op_mulStr : OpR X (binaryOp .Mult) (fun x y H Q => ∃ z n, x = .str z ∧ y = .int n ∧ -1000 ≤ n ∧ n ≤ 1000 ∧ z.length ≤ 1000 ∧ Q (.str (repS z n)) H) := by
  intro pins s σ H x y v u Q I rx ry h
  obtain ⟨z, n, rfl, rfl, h1, h2, h3, q⟩ := h
  obtain ⟨t, rfl⟩ := rx
  obtain ⟨t', rfl⟩ := ry
  refine PySem.P.mul_str (x := z) (n := n) ?_ (fun a b => ?_) (fun a b => ?_) ?_
  · rw [decide_eq_false (by omega), decide_eq_false (by omega)]
    rfl
  · intro hlt
    have e : (1000 : Int) * n ≤ 2 ^ 63 - 1 := by omega
    have e2 : (1000 : Int) ≤ (2 ^ 63 - 1) / n := Int.le_ediv_of_mul_le (by omega) e
    omega
  · have e : z.length * n.toNat ≤ 1000 * 1000 := Nat.mul_le_mul h3 (by omega)
    exact decide_eq_false (by rw [sizeLine_eq]; omega)
  · unfold repS at q
    by_cases c1 : n < 1
    · rw [if_pos c1] at q ⊢
      exact ⟨by decide, ⟨.str Str.empty, H, I.tok _, ⟨_, rfl⟩, q⟩⟩
    · rw [if_neg c1] at q ⊢
      by_cases c2 : (n == 1 || z.length == 0) = true
      · rw [if_pos c2] at q ⊢
        exact ⟨.str z, H, I, ⟨_, rfl⟩, q⟩
      · rw [if_neg c2] at q ⊢
        refine ⟨?_, ⟨.str _, H, I.tok _, ⟨_, rfl⟩, q⟩⟩
        have e := repS_list z n
        unfold repS at e
        rw [if_neg c1, if_neg c2] at e
        have e2 : (⟨(List.replicate n.toNat z.cps).foldl (· ++ ·) #[]⟩ : Str).length = n.toNat * z.length := by
          show ((List.replicate n.toNat z.cps).foldl (· ++ ·) #[]).size = _
          rw [← Array.length_toList]
          have e' : ((List.replicate n.toNat z.cps).foldl (· ++ ·) #[]).toList = (List.replicate n.toNat z.cps.toList).flatten := e
          rw [e', List.length_flatten, List.map_replicate, List.sum_replicate_nat, Array.length_toList]
          rfl
        rw [e2]
        have e3 : n.toNat * z.length ≤ 1000 * 1000 := Nat.mul_le_mul (by omega) h3
        rw [sizeLine_eq]
        omega
end
end L2
set_option Elab.async false
set_option linter.all false
set_option maxRecDepth 100000
set_option maxHeartbeats 4000000
set_option autoImplicit false
namespace Evl
open PySem PySem.Spec PyProof.Rows L2
section
variable {K : PySem.W.Frag} {σ : L2.St} {H : Hp} {te tl : TE} {t : TT}
/-- a comprehension over any walk that leaves the heap as it is -/
theorem el_lcW {J : It} {n : Nat} {G : Hp → Prop} {ys : Nat → V → Prop} {wi : TI} {j : Nat} {vs : List Nat} (f : Nat → Bool) (v : Nat → V) (w : Walk J n G (fun i H x H' => H' = H ∧ ys i x))
    (hi : ∀ H1, Ex H H1 → ∀ R : It → Hp → Prop, (∀ H2, Ex H1 H2 → G H2 → R J H2) → wi σ H1 R) (hG : ∀ H1 H2, G H1 → Ex H1 H2 → G H2) (hz : n ≤ 40000) (hw : ∀ x, wipe ((wipe σ vs).set j (some x)) vs = wipe σ vs)
    (ht : ∀ (i : Nat) (x : V) H1, Ex H H1 → i < n → ys i x → EvT t ((wipe σ vs).set j (some x)) H1 (f i)) (he : ∀ (i : Nat) (x : V) H1, Ex H H1 → i < n → ys i x → f i = true → Ev te ((wipe σ vs).set j (some x)) H1 (v i)) :
    EvL (tLc wi (gName j) t te vs) σ H (given n f v) := fun H0 e Q q => hi H0 e _ fun H1 e1 g1 => fun Dl hD =>
  lc_it w (Cw H1 f v Dl) ⟨hD, Ex.new hD, upd_same⟩ (fun i H' _ p => hG H1 H' g1 p.2.1) (fun i x H2 H' hi p y => by
    obtain ⟨rfl, hy⟩ := y
    exact ⟨hw x, cw_turn p (by omega) (ht i x H1 (e.trans e1) hi hy) (fun hf => he i x H1 (e.trans e1) hi hy hf)⟩)
    (fun H' p => q Dl H' (fresh_back e1 p.1) (e1.trans p.2.1) p.2.2)
theorem given_all {n : Nat} {v : Nat → V} {xs : List V} (h : xs.length = n) (e : ∀ i, i < n → xs[i]? = some (v i)) : given n (fun _ => true) v = xs := by
  unfold given
  rw [List.filter_eq_self.mpr (fun _ _ => rfl)]
  refine List.ext_getElem? fun i => ?_
  rw [List.getElem?_map]
  by_cases hi : i < n
  · rw [List.getElem?_range hi, e i hi]
    rfl
  · rw [List.getElem?_eq_none (by rw [List.length_range]; omega), List.getElem?_eq_none (by omega)]
    rfl
theorem et_yes : EvT tYes σ H true := fun H1 _ _ q => q H1 (Ex.refl H1)
/-- [f(x) for x in xs], xs a list or a tuple, g what f gives -/
theorem el_lcSeq {a : Addr} {xs : List V} {j : Nat} {vs : List Nat} (g : V → V) (h : Ev tl σ H (.ref a)) (hx : SqL K H a xs ∨ SqT K H a xs) (hz : xs.length ≤ 40000) (hw : ∀ x, wipe ((wipe σ vs).set j (some x)) vs = wipe σ vs)
    (he : ∀ (x : V) H1, Ex H H1 → x ∈ xs → Ev te ((wipe σ vs).set j (some x)) H1 (g x)) : EvL (tLc (iSeq K tl) (gName j) tYes te vs) σ H (xs.map g) := by
  have e0 : given xs.length (fun _ => true) (fun i => g (xs.getD i .non)) = xs.map g := by
    refine given_all (by rw [List.length_map]) fun i hi => ?_
    rw [List.getElem?_map, List.getElem?_eq_getElem hi, List.getD_eq_getElem?_getD, List.getElem?_eq_getElem hi]
    rfl
  rw [← e0]
  rcases hx with hx | hx
  · refine el_lcW (J := Itl K a) (n := xs.length) (G := fun H => SqL K H a xs) (ys := fun i x => xs[i]? = some x) _ _ walk_list (fun H1 e R q => .inl (h H1 e _ fun H2 e2 => ⟨a, rfl, ⟨xs, ex_l (e.trans e2) hx⟩, q H2 e2 (ex_l (e.trans e2) hx)⟩)) (fun H1 H2 g e => ex_l e g) hz hw (fun _ _ _ _ _ _ => et_yes) (fun i x H1 e hi hy _ => ?_)
    rw [List.getD_eq_getElem?_getD, hy]
    exact he x H1 e (List.mem_of_getElem? hy)
  · refine el_lcW (J := Itt K a) (n := xs.length) (G := fun H => SqT K H a xs) (ys := fun i x => xs[i]? = some x) _ _ walk_tup (fun H1 e R q => .inr (h H1 e _ fun H2 e2 => ⟨a, rfl, ⟨xs, ex_t (e.trans e2) hx⟩, q H2 e2 (ex_t (e.trans e2) hx)⟩)) (fun H1 H2 g e => ex_t e g) hz hw (fun _ _ _ _ _ _ => et_yes) (fun i x H1 e hi hy _ => ?_)
    rw [List.getD_eq_getElem?_getD, hy]
    exact he x H1 e (List.mem_of_getElem? hy)
/-- [f(c) for c in text] -/
theorem el_lcStr {z : Str} {j : Nat} {vs : List Nat} (g : Nat → V) (h : Ev tl σ H (.str z)) (hz : z.length ≤ 40000) (hw : ∀ x, wipe ((wipe σ vs).set j (some x)) vs = wipe σ vs)
    (he : ∀ (c : Nat) H1, Ex H H1 → c ∈ z.cps.toList → Ev te ((wipe σ vs).set j (some (.str ⟨#[c]⟩))) H1 (g c)) : EvL (tLc (iStr tl) (gName j) tYes te vs) σ H (z.cps.toList.map g) := by
  have e0 : given z.cps.size (fun _ => true) (fun i => g (z.cps.toList.getD i 0)) = z.cps.toList.map g := by
    refine given_all (by rw [List.length_map, Array.length_toList]) fun i hi => ?_
    have hi' : i < z.cps.toList.length := by rw [Array.length_toList]; exact hi
    rw [List.getElem?_map, List.getElem?_eq_getElem hi', List.getD_eq_getElem?_getD, List.getElem?_eq_getElem hi']
    rfl
  rw [← e0]
  refine el_lcW (J := Its z) (n := z.cps.size) (G := fun _ => True) (ys := fun i v => ∃ c, z.cps[i]? = some c ∧ v = .str ⟨#[c]⟩) _ _ walk_str (fun H1 e R q => h H1 e _ fun H2 e2 => ⟨z, rfl, q H2 e2 trivial⟩) (fun _ _ _ _ => trivial) hz hw (fun _ _ _ _ _ _ => et_yes) (fun i x H1 e hi hy _ => ?_)
  obtain ⟨c, hc, rfl⟩ := hy
  have hc2 : z.cps.toList[i]? = some c := by simpa using hc
  rw [List.getD_eq_getElem?_getD, hc2]
  exact he c H1 e (List.mem_of_getElem? hc2)
/-- all(..) of a new list of truths -/
theorem ev_all {ta : TE} {bs : List Bool} (h : EvL ta σ H (bs.map V.bl)) : Ev (tCB (rAll K) (tCons ta tNil)) σ H (.bl (bs.all id)) := fun H1 e Q q =>
  h H1 e _ fun p H2 _ e2 hp => ⟨p, bs, rfl, sq_of hp, q H2 e2⟩
theorem all_map {α : Type} (f : α → Bool) (xs : List α) : (xs.map f).all id = xs.all f := by
  rw [List.all_map]
  rfl
end
end Evl
set_option Elab.async false
set_option linter.all false
set_option maxRecDepth 100000
set_option maxHeartbeats 4000000
set_option autoImplicit false
/-! Static methods read off a class of the program's own; a head that also looks at defs told by their addresses. -/
namespace He
open PySem PySem.Spec PyProof.Rows L2 ClX
/-- C.m is a staticmethod: its record at p, its def at g -/
structure SMet (K : PySem.W.Frag) (C : Addr) (mc : Value) (m : Str) (p g : Addr) : Prop where
  cr : CRead K C mc
  at_ : PySem.W.findCls K (.ref C) mc m = some (.get (.builtin "staticmethod.__get__") (.ref p) .none (.ref C))
  rc : ∃ rest, PySem.W.recIn K p "staticmethod" = some (.ref g :: rest)
  kp : PySem.W.keepIn K (.ref g) = true
section
variable {X : Cx} {pins : List (Addr × Obj)} {σ : L2.St} {H : Hp} {s : Shared} {C p g : Addr} {mc : Value} {m : Str}
theorem getmethsm_ok {A : Around} {E : Value → Shared → Prop} {pl : Sem Bool} {Q : Value × List Value → Shared → Prop} (I : Inv X pins σ H s) (k : SMet X.K C mc m p g) (h : ∀ s', Inv X pins σ H s' → Q (.ref g, []) s') : wpAny (model X.prog X.w) A (getMethod (.ref C) m pl) Q E s := by
  obtain ⟨rest, hp⟩ := k.rc
  refine PySem.W.method_cls I.kIn k.cr.ga (PySem.W.cls_bind I.kIn k.cr.rd k.at_ (wpAny_call (PySem.W.sm_get (s := { s with toks := s.toks + 1 }) I.kIn hp (PySem.W.handed_on rfl ?_))))
  exact h _ (I.tok _)
end
section
variable {X : Cx} {CX : CXT} {k n : Nat} {f C p : Addr} {mc : Value} {m : Str} {fd : FuncData} {ps ks : List Str} {sp : Sp} {E : XK} {pos apos : Pos} {o e : Expr} {es : List Expr} {kws : List Keyword} {to : TE} {t tk : TA} {pl : Sem Bool} {g : List Value → List Value → List Value} {gV : List V → List V → List V}
/-- C.m(e, ..) -/
def tSMeth (C : Addr) (sp : Sp) (E : XK) (to : TE) (t : TA) : TE := fun σ H Q => to σ H fun x H1 => x = .ref C ∧ t σ H1 fun vs H2 => sp vs H2 Q E
theorem pe_smeth (ho : PE X o to) (c : SMet X.K C mc m p f) (F : FnOk X.prog X.w X.K X.mg X.base CX k f fd ps sp) (hr : Room k X.A) (hb : Binds X.K fd ps []) (hx : Passes CX X E) (ha : PA X (e :: es) t)
    (hst : starEach (e :: es) X.env = (false, eval e X.env) :: starEach es X.env := by rfl) (hpl : (backTo pos (starEach es X.env)).any (·.1) = false := by rfl)
    (ht : eval (.Call (.Attribute o m apos) (e :: es) [] pos) X.env = (do
      let ov ← eval o X.env
      standAt apos.atName
      let (f, first) ← holding [ov] (getMethod ov m pl)
      callWith pos f first (backTo pos (starEach (e :: es) X.env)) (backToKw pos (keywordEach [] X.env))) := by rfl) :
    PE X (.Call (.Attribute o m apos) (e :: es) [] pos) (tSMeth C sp E to t) := by
  refine ⟨fun pins s σ H Q I h => ?_⟩
  refine PySem.W.methodCall_KW (pl := pl) (thn (ho.run pins s σ H _ I h) fun u s1 ⟨x, H1, I1, rx, ex, q⟩ => ?_) ht
  subst ex
  obtain rfl : u = Value.ref C := rx
  refine getmethsm_ok I1 c fun s2 I2 => ?_
  refine PySem.W.callWith_K (h₀ := X.base) I2.ok.mod.kin c.kp (thn (ha.run pos pins s2 σ H1 _ I2 q) fun us s3 ⟨vs, H2, I3, r3, q2⟩ => ⟨I3.kIn, ?_⟩) hst hpl
  exact run_fn F hr hb .nil hx I3 r3 (by rw [List.append_nil]; exact q2)
/-- C.m(k = v, ..) -/
def tSMethK (C : Addr) (ks : Nat) (sp : Sp) (gV : List V → List V → List V) (E : XK) (to : TE) (t : TA) : TE := fun σ H Q => to σ H fun x H1 => x = .ref C ∧ t σ H1 fun zs H2 => zs.length = ks ∧ sp (gV [] zs) H2 Q E
theorem pe_smethK (ho : PE X o to) (c : SMet X.K C mc m p f) (F : FnOk X.prog X.w X.K X.mg X.base CX k f fd ps sp) (hr : Room k X.A) (hb : KBn X.K fd ps 0 ks g gV) (hx : Passes CX X E) (ha : PK X kws tk)
    (hall : (backToKw pos (keywordEach kws X.env)).all (·.1.isSome) = true := by rfl) (hks : (backToKw pos (keywordEach kws X.env)).filterMap (·.1) = ks := by rfl) (hpl : ((backTo pos (starEach [] X.env)).any (·.1) || (backToKw pos (keywordEach kws X.env)).any (·.1.isNone)) = false := by rfl)
    (ht : eval (.Call (.Attribute o m apos) [] kws pos) X.env = (do
      let ov ← eval o X.env
      standAt apos.atName
      let (f, first) ← holding [ov] (getMethod ov m pl)
      callWith pos f first (backTo pos (starEach [] X.env)) (backToKw pos (keywordEach kws X.env))) := by rfl) :
    PE X (.Call (.Attribute o m apos) [] kws pos) (tSMethK C ks.length sp gV E to tk) := by
  refine ⟨fun pins s σ H Q I h => ?_⟩
  refine PySem.W.methodCall_KW (pl := pl) (thn (ho.run pins s σ H _ I h) fun u s1 ⟨x, H1, I1, rx, ex, q⟩ => ?_) ht
  subst ex
  obtain rfl : u = Value.ref C := rx
  refine getmethsm_ok I1 c fun s2 I2 => ?_
  refine PySem.W.callWith_KW0 (h₀ := X.base) I2.ok.mod.kin c.kp hall ?_ hpl
  refine thn (ha.run pos pins s2 σ H1 _ I2 q) fun ws s3 ⟨zs, H2, I3, r3, l2, q2⟩ => ⟨I3.kIn, ?_⟩
  rw [hks]
  exact run_fnN (us := []) (vs := []) F hr hb hx I3 .nil r3 rfl l2 q2
end
/-! ### a head: defs by the addresses where they stand -/
/-- a def, told by where it stands -/
structure ED where
  d : DefD
  ad : PySem.W.Frag → Addr
def fnE (K : PySem.W.Frag) (a : Addr) : FnW := match K.lookup a with
  | some ⟨_, _, .func fd, _⟩ => some (fd.name, fd.qualname, fd.params, fd.body, fd.scope, fd.globals, fd.closure, fd.builtins)
  | _ => none
def ED.ok (K : PySem.W.Frag) (e : ED) : Bool := PySem.W.keepIn K (.ref (e.ad K)) && (match K.lookup (e.ad K) with
  | some ⟨_, _, .func fd, _⟩ => PySem.W.codeIn K fd.code e.d.qual && (dflB K fd.defaults (e.d.dvs K) && kwdB K fd.kwdefaults (e.d.kws K))
  | _ => false)
theorem ED.funD {K : PySem.W.Frag} {e : ED} (h : fnE K (e.ad K) = e.d.val) (c : e.ok K = true) : ∃ fd, FunD K e.d.name e.d.qual e.d.params e.d.body e.d.scope (e.d.dvs K) (e.d.kws K) (e.ad K) fd := by
  obtain ⟨kp, c2⟩ := ba c
  unfold fnE at h
  cases q : K.lookup (e.ad K) with
  | none =>
    rw [q] at c2
    exact nomatch c2
  | some o =>
    obtain ⟨o1, o2, o3, o4⟩ := o
    rw [q] at c2 h
    cases o3 with
    | func fd =>
      obtain ⟨a1, a2, a3, a4, a5, a6, a7, a8, a9, a10, a11, a12, a13, a14, a15⟩ := fd
      have h2 : (some (a1, a2, a3, a4, a5, a6, a7, a15) : FnW) = some (e.d.name, e.d.qual, e.d.params, .stmts e.d.body, e.d.scope, mainGlobals, [], builtinsNs) := h
      simp only [Option.some.injEq, Prod.mk.injEq] at h2
      obtain ⟨g1, g2, g3, g4, g5, g6, g7, g8⟩ := h2
      subst g1 g2 g3 g4 g5 g6 g7 g8
      obtain ⟨k1, k2⟩ := ba (show (PySem.W.codeIn K a13 e.d.qual && (dflB K a8 (e.d.dvs K) && kwdB K a9 (e.d.kws K))) = true from c2)
      obtain ⟨k3, k4⟩ := ba k2
      exact ⟨_, ⟨o1, o2, a8, a9, a10, a11, a12, a13, a14, o4, rfl, q, k1, dflB_ok k3, kwdB_ok k4⟩, kp⟩
    | _ => exact nomatch c2
/-- the def behind a staticmethod of a class -/
def sa (K : PySem.W.Frag) (x m : Str) : Addr := match PySem.W.recIn K (ma K (ga K x) m) "staticmethod" with
  | some (.ref g :: _) => g
  | _ => 0
/-- the class x's staticmethod m -/
def statB (K : PySem.W.Frag) (x m : Str) : Bool :=
  PySem.W.readsIn K (ga K x) (.type "type") && (eqO (PySem.W.specialIn K (.ref (ga K x)) "__getattribute__") (some (some (.builtin "type.__getattribute__"))) &&
    ((match PySem.W.findCls K (.ref (ga K x)) (.type "type") m with
      | some (.get (.builtin b) (.ref p) .none (.ref c)) => b == "staticmethod.__get__" && (p == ma K (ga K x) m && c == ga K x)
      | _ => false) && ((match PySem.W.recIn K (ma K (ga K x) m) "staticmethod" with
      | some (.ref g :: _) => g == sa K x m
      | _ => false) && PySem.W.keepIn K (.ref (sa K x m)))))
theorem statB_ok {K : PySem.W.Frag} {x m : Str} (h : statB K x m = true) : SMet K (ga K x) (.type "type") m (ma K (ga K x) m) (sa K x m) := by
  obtain ⟨h1, h⟩ := ba h
  obtain ⟨h2, h⟩ := ba h
  obtain ⟨h3, h⟩ := ba h
  obtain ⟨h4, h5⟩ := ba h
  have h3' : PySem.W.findCls K (.ref (ga K x)) (.type "type") m = some (.get (.builtin "staticmethod.__get__") (.ref (ma K (ga K x) m)) .none (.ref (ga K x))) := by
    split at h3
    · rename_i b p c hq
      obtain ⟨e1, h3⟩ := ba h3
      obtain ⟨e2, e3⟩ := ba h3
      rw [hq, eq_of_beq e1, eq_of_beq e2, eq_of_beq e3]
    · cases h3
  refine ⟨⟨h1, eqO_ok h2⟩, h3', ?_, h5⟩
  cases q : PySem.W.recIn K (ma K (ga K x) m) "staticmethod" with
  | none =>
    rw [q] at h4
    cases h4
  | some l =>
    rw [q] at h4
    match l, h4 with
    | .ref g :: r, h4 => exact ⟨r, by rw [show g = sa K x m from eq_of_beq h4]⟩
/-- a def's own data, by its address -/
def fdA (K : PySem.W.Frag) (a : Addr) : FuncData := match K.lookup a with
  | some ⟨_, _, .func fd, _⟩ => fd
  | _ => default
def obsR (chk : PySem.W.Frag → Bool) (fa : List Fa) (fn : List DefD) (ex : List ED) (K : PySem.W.Frag) : AlD :=
  (chk K && ((fa.all fun f => f.ok K) && ((fn.all fun d => d.ok K) && ex.all fun e => e.ok K)), (fn.map fun d => fnW K d.at_) ++ ex.map fun e => fnE K (e.ad K))
def valR (fn : List DefD) (ex : List ED) : AlD := (true, fn.map DefD.val ++ ex.map fun e => e.d.val)
def SaysR (chk : PySem.W.Frag → Bool) (fa : List Fa) (fn : List DefD) (ex : List ED) (K : PySem.W.Frag) : Prop := obsR chk fa fn ex K = valR fn ex
def obsRG (n : Nat) (chk : PySem.W.Frag → Bool) (fa : List Fa) (fn : List DefD) (ex : List ED) (g : Addr → Option Obj) : AlD := obsR chk fa fn ex (frG g (PySem.cStatics :: asD g n))
def hookR (n : Nat) (chk : PySem.W.Frag → Bool) (fa : List Fa) (fn : List DefD) (ex : List ED) : PySem.W.Hook where
  α := AlD
  obs := fun s => obsRG n chk fa fn ex s.heap.get?
  val := fun _ => valR fn ex
  says := fun _ h => ∃ K : PySem.W.Frag, K.In h ∧ SaysR chk fa fn ex K
  of := fun _ _ e => ⟨_, frG_in, e⟩
  keeps := fun _ _ _ ⟨K, hK, c⟩ k => ⟨K, PySem.W.Frag.In.keeps hK k, c⟩
theorem obsRG_eq {n : Nat} {chk : PySem.W.Frag → Bool} {fa : List Fa} {fn : List DefD} {ex : List ED} {g : Addr → Option Obj} {s : Shared} (h : ∀ a, g a = s.heap.get? a) : obsRG n chk fa fn ex g = (hookR n chk fa fn ex).obs s := by
  have e : g = s.heap.get? := funext h
  rw [e] <;> rfl
section
variable {chk : PySem.W.Frag → Bool} {fa : List Fa} {fn : List DefD} {ex : List ED} {K : PySem.W.Frag}
theorem SaysR.one (c : SaysR chk fa fn ex K) : (chk K && ((fa.all fun f => f.ok K) && ((fn.all fun d => d.ok K) && ex.all fun e => e.ok K))) = true := congrArg (fun z : AlD => z.1) c
theorem SaysR.two (c : SaysR chk fa fn ex K) : (fn.map fun d => fnW K d.at_) = fn.map DefD.val ∧ (ex.map fun e => fnE K (e.ad K)) = ex.map fun e => e.d.val := by
  have h : (fn.map fun d => fnW K d.at_) ++ (ex.map fun e => fnE K (e.ad K)) = fn.map DefD.val ++ ex.map fun e => e.d.val := congrArg (fun z : AlD => z.2) c
  exact List.append_inj h (by rw [List.length_map, List.length_map])
theorem SaysR.chk_ (c : SaysR chk fa fn ex K) : chk K = true := (ba c.one).1
theorem SaysR.says (c : SaysR chk fa fn ex K) : SaysD fa fn K := by
  have h1 := (ba c.one).2
  obtain ⟨h2, h3⟩ := ba h1
  show ((fa.all fun f => f.ok K) && fn.all fun d => d.ok K, fn.map fun d => fnW K d.at_) = (true, fn.map DefD.val)
  rw [c.two.1, h2, (ba h3).1] <;> rfl
theorem SaysR.ed (c : SaysR chk fa fn ex K) (i : Nat) {e : ED} (h : ex[i]? = some e) : FunD K e.d.name e.d.qual e.d.params e.d.body e.d.scope (e.d.dvs K) (e.d.kws K) (e.ad K) (fdA K (e.ad K)) := by
  have h1 := (ba (ba (ba c.one).2).2).2
  have hm : e ∈ ex := List.mem_of_getElem? h
  have e1 := congrArg (fun l : List FnW => l[i]?) c.two.2
  have e2 : fnE K (e.ad K) = e.d.val := by
    have e3 : (ex.map fun e => fnE K (e.ad K))[i]? = (ex.map fun e => e.d.val)[i]? := e1
    rw [List.getElem?_map, List.getElem?_map, h] at e3
    exact Option.some.inj e3
  obtain ⟨fd, F⟩ := ED.funD e2 (List.all_eq_true.mp h1 e hm)
  obtain ⟨oc, od, dV, kV, doc, pm, an, cdv, ct, osl, z, lk, _⟩ := id F.ex
  have q : fdA K (e.ad K) = fd := by
    unfold fdA
    rw [lk]
  rw [q]
  exact F
end
end He
set_option Elab.async false
set_option linter.all false
set_option maxRecDepth 100000
set_option maxHeartbeats 4000000
set_option autoImplicit false
/-! Objects of a class of the program's own whose class has its own ==, str, len. -/
namespace Own
open PySem PySem.Spec PyProof.Rows L2 Builtin
section
variable {prog : Program} {w : World} {A : Around} {E : Value → Shared → Prop} {s : Shared} {K : PySem.W.Frag} {x C f : Addr} {ox : Obj} {od : Option Obj}
/-- a built-in's special method found on an own class, asked where it may be bound -/
theorem ifBound_bi {name : Str} {id : String} {args : List Value} {Q : Option Value → Shared → Prop} (X : K.In s.heap) (I : PySem.W.InstAt s.heap x ox C od) (hs : PySem.W.findIn K (.ref C) name = some (some (.builtin id)))
    (hb : ∀ self, bindSpecial (.builtin id) self = pure (.builtin id, [self])) (h : wpAny (model prog w) A (call (.builtin id) (.ref x :: args)) (fun v => Q (some v)) E s) : wpAny (model prog w) A (callSpecialIfBound? (.ref x) name args) Q E s := by
  simp only [callSpecialIfBound?, bindSpecialIfBound?]
  refine wpAny_holding (wpAny_bind (wpAny_bind (wpAny_bind (I.type.here ((PySem.W.looks_findIn X hs).here ?_)))))
  refine wpAny_bind (wpAny_askSetting (wpAny_ite ?_))
  have go : wpAny (model prog w) A (call (.builtin id) ([.ref x] ++ args) >>= fun v => pure (some v)) Q E s := wpAny_bind (wpAny_mono h (fun v s' z => wpAny_pure z) fun _ _ z => z)
  split
  · exact wpAny_bind ((PySem.W.Looks.of_pure (hb _)).here (wpAny_pure (by exact go)))
  · exact wpAny_tryCatch (wpAny_bind ((PySem.W.Looks.of_pure (hb _)).here (wpAny_pure (by exact go))))
/-- object.__ne__ of an object with an own == -/
theorem ne_entry {b : Value} {Q : Fin → Shared → Prop} (hu : A.units < cLine) (X : K.In s.heap) (I : PySem.W.InstAt s.heap x ox C od) (hs : PySem.W.findIn K (.ref C) "__eq__" = some (some (.ref f))) (hf : PySem.W.isFn K (.ref f) = true)
    (h : wpAny (model prog w) A (call (.ref f) [.ref x, b]) (fun v s' => ∃ r, v = .bool r ∧ Q (.done (.ret (.bool (!r)))) s') E s) : wpAny (model prog w) A (Builtin.«object.__ne__» ⟨[.ref x, b], []⟩) Q E s := by
  unfold Builtin.«object.__ne__»
  refine wpAny_bind (m := slotArgs "__ne__" 1 _) (wpAny_pure ?_)
  refine wpAny_bind (m := cRoomFor _ _) (wpAny_cRoomFor hu ?_)
  refine wpAny_bind (m := callSpecialIfBound? (.ref x) (Str.ofString "__eq__") [b]) (PySem.W.ifBound_K X I hs hf (wpAny_mono h (fun v s' z => ?_) fun _ _ z => z))
  obtain ⟨r, rfl, q⟩ := z
  exact wpAny_bind (m := truthy (.bool r)) (wpAny_truthy_bool (wpAny_pure q))
/-- x != b, where x's class has its own == -/
theorem rc_ne {b tb : Value} {Q : Value → Shared → Prop} (hu : A.units + 1 < cLine) (X : K.In s.heap) (I : PySem.W.InstAt s.heap x ox C od) (hb : PySem.W.Looks (model prog w) s.heap (typeOf b) tb) (hn : PySem.W.notFirst K C tb = true) (hm : PySem.W.mroIn K C (.type "object") = some true)
    (he : PySem.W.findIn K (.ref C) "__ne__" = some (some (.builtin "object.__ne__"))) (hs : PySem.W.findIn K (.ref C) "__eq__" = some (some (.ref f))) (hf : PySem.W.isFn K (.ref f) = true)
    (h : wpAny (model prog w) A.in1 (call (.ref f) [.ref x, b]) (fun v s' => ∃ r, v = .bool r ∧ Q (.bool (!r)) s') E s) : wpAny (model prog w) A (richCompare .NotEq (.ref x) b) Q E s := by
  have one : wpAny (model prog w) A (tryCompare (.ref x) "__ne__" b) (fun r s' => ∃ v, r = some v ∧ Q v s') E s := by
    unfold tryCompare
    refine wpAny_bind (ifBound_bi X I he PySem.F.cmp_object.ne.bind (wpAny_call (codeAny_call_builtin PySem.F.cmp_object.ne.plain PySem.F.cmpEntry_ne
      (PySem.W.check_slot (i := "object.__ne__") (owner := "object") (n := "__ne__") PySem.F.cmpKind_ne PySem.F.cmpSplit_ne (I.type.andThen (PySem.W.looks_mroIn X hm)) (PySem.F.cmpArgs_ne _ _)
        (ne_entry (A := A.in1) (by show A.in1.units < cLine; have : A.in1.units = A.units + 1 := rfl; omega) X I hs hf (wpAny_mono h (fun v s' z => ?_) fun _ _ z => z))))))
    obtain ⟨r, rfl, q⟩ := z
    exact ⟨r, rfl, wpAny_pure ⟨_, rfl, q⟩⟩
  unfold richCompare
  simp only [oneThing_ref]
  refine wpAny_holding (wpAny_bind (wpAny_cRoomFor (Nat.lt_of_succ_lt hu) ?_))
  refine wpAny_bind (I.type.here (wpAny_bind (hb.here ?_)))
  have last : wpAny (model prog w) A (tryCompare (.ref x) "__ne__" b) (fun r s' => ∃ v, r = some v ∧ Q v s') E s := one
  split
  · rename_i q
    have e : PySem.W.subIn K tb (.ref C) = some false := by
      rcases Bool.or_eq_true_iff.mp hn with z | z
      · rw [beq_iff_eq.mp z] at q
        simp at q
      · exact beq_iff_eq.mp z
    refine wpAny_bind ((PySem.W.looks_subIn X e).here ?_)
    simp only [Bool.false_eq_true, if_false]
    refine wpAny_bind (wpAny_mono last (fun r s' z => ?_) fun _ _ z => z)
    obtain ⟨v, rfl, k⟩ := z
    exact wpAny_pure k
  · refine wpAny_bind (wpAny_pure ?_)
    simp only [Bool.false_eq_true, if_false]
    refine wpAny_bind (wpAny_mono last (fun r s' z => ?_) fun _ _ z => z)
    obtain ⟨v, rfl, k⟩ := z
    exact wpAny_pure k
end
/-- what the written part says of a class with an own == -/
structure EqC (K : PySem.W.Frag) (C f : Addr) : Prop where
  eq : PySem.W.findIn K (.ref C) "__eq__" = some (some (.ref f))
  ne : PySem.W.findIn K (.ref C) "__ne__" = some (some (.builtin "object.__ne__"))
  fn : PySem.W.isFn K (.ref f) = true
  ob : PySem.W.mroIn K C (.type "object") = some true
section
variable {X : Cx} {CX : CXT} {k : Nat} {C f : Addr} {fd : FuncData} {ps : List Str} {sp : Sp} {E : XK} {pins : List (Addr × Obj)} {σ : L2.St} {H : Hp} {s : Shared}
/-- a def called one level of C deeper -/
theorem run_in1 {Q : VK} {us : List Value} {vs : List V} (F : FnOk X.prog X.w X.K X.mg X.base CX k f fd ps sp) (hr : Room (k + 1) X.A) (hb : Binds X.K fd ps []) (hx : Passes CX X E) (I : Inv X pins σ H s) (r : Vals vs us) (h : sp vs H Q E) :
    wpAny (model X.prog X.w) X.A.in1 (call (.ref f) us) (EP X pins σ Q) X.xe s := by
  have e0 : Env0 X.prog X.w X.K X.mg X.base X.A.in1 X.stack s H := by
    have e := I.env0
    exact ⟨e.frames, e.mod, e.bs, e.bsz, e.funs, e.frf, e.hok, e.bare⟩
  have hl := F.len _ _ _ _ h
  refine wpAny_call (codeAny_mono (F.run X.A.in1 X.stack s H ⟨us, []⟩ us vs Q E hr.in1 e0 (by
    have z := hb s us I.kIn (by rw [List.append_nil, ← r.length]; exact hl)
    simpa using z) r h) fun q s' hq => ?_)
  cases q with
  | error e => exact hx pins σ H s e s' I hq
  | ok fl =>
    cases fl with
    | ret u =>
      obtain ⟨v, H', I', rv, q2⟩ := I.after hq
      exact ⟨v, H', I', rv, q2⟩
    | next => exact False.elim hq
    | brk => exact False.elim hq
    | cont => exact False.elim hq
theorem run_in2 {Q : VK} {us : List Value} {vs : List V} (F : FnOk X.prog X.w X.K X.mg X.base CX k f fd ps sp) (hr : Room (k + 2) X.A) (hb : Binds X.K fd ps []) (hx : Passes CX X E) (I : Inv X pins σ H s) (r : Vals vs us) (h : sp vs H Q E) :
    wpAny (model X.prog X.w) X.A.in1.in1 (call (.ref f) us) (EP X pins σ Q) X.xe s := by
  have e0 : Env0 X.prog X.w X.K X.mg X.base X.A.in1.in1 X.stack s H := by
    have e := I.env0
    exact ⟨e.frames, e.mod, e.bs, e.bsz, e.funs, e.frf, e.hok, e.bare⟩
  have hl := F.len _ _ _ _ h
  have hr2 : Room k X.A.in1.in1 := Room.in1 (k := k) (Room.in1 (k := k + 1) hr)
  refine wpAny_call (codeAny_mono (F.run X.A.in1.in1 X.stack s H ⟨us, []⟩ us vs Q E hr2 e0 (by
    have z := hb s us I.kIn (by rw [List.append_nil, ← r.length]; exact hl)
    simpa using z) r h) fun q s' hq => ?_)
  cases q with
  | error e => exact hx pins σ H s e s' I hq
  | ok fl =>
    cases fl with
    | ret u =>
      obtain ⟨v, H', I', rv, q2⟩ := I.after hq
      exact ⟨v, H', I', rv, q2⟩
    | next => exact False.elim hq
    | brk => exact False.elim hq
    | cont => exact False.elim hq
/-- x == y, x != y, x of a class with an own ==: sp says what that answers -/
def rEqO (K : PySem.W.Frag) (C : Addr) (sp : Sp) (E : XK) (neg : Bool) : R2 := fun x y H Q => ∃ (a dx : Addr) (fs : List (Str × V)) (tb : Value), x = .ref a ∧ H a = some (.ins C dx fs) ∧ TyX K H y tb ∧ PySem.W.notFirst K C tb = true ∧ sp [x, y] H (fun v H' => ∃ b, v = .bl b ∧ Q (.bl (if neg then !b else b)) H') E
theorem op_eqO (c : EqC X.K C f) (F : FnOk X.prog X.w X.K X.mg X.base CX k f fd ps sp) (hr : Room k X.A) (hb : Binds X.K fd ps []) (hx : Passes CX X E) : OpR X (compareOp .Eq) (rEqO X.K C sp E false) := by
  intro pins s σ H x y v u Q I rx ry h
  obtain ⟨a, dx, fs, tb, rfl, ha, ty, hn, h⟩ := h
  cases rx
  obtain ⟨mA, O, _⟩ := ins_get I.hok ha
  obtain ⟨od, J, _⟩ := O.look
  obtain ⟨P, kx, hP, _⟩ := kit_of I ry ty
  obtain ⟨m, hF⟩ := I.fr
  show wpAny _ _ (richCompare .Eq _ _) _ _ _
  refine PySem.W.cmp_K (op := .Eq) (tb := tb) hr.units0 hF I.ok.mod.kin J (kx.ty _ _ I.kIn hP) hn c.eq c.fn ?_
  refine thn (run_fn F hr hb .nil hx I (show Vals [V.ref a, y] [Value.ref a, u] from .cons rfl (.cons ry .nil)) h) fun z s1 hz => ?_
  obtain ⟨w', H1, I1, rw', b, rfl, q⟩ := hz
  cases rw'
  exact ⟨.bl b, H1, I1, rfl, q⟩
theorem op_neO (c : EqC X.K C f) (F : FnOk X.prog X.w X.K X.mg X.base CX k f fd ps sp) (hr : Room (k + 1) X.A) (hb : Binds X.K fd ps []) (hx : Passes CX X E) : OpR X (compareOp .NotEq) (rEqO X.K C sp E true) := by
  intro pins s σ H x y v u Q I rx ry h
  obtain ⟨a, dx, fs, tb, rfl, ha, ty, hn, h⟩ := h
  cases rx
  obtain ⟨mA, O, _⟩ := ins_get I.hok ha
  obtain ⟨od, J, _⟩ := O.look
  obtain ⟨P, kx, hP, _⟩ := kit_of I ry ty
  show wpAny _ _ (richCompare .NotEq _ _) _ _ _
  refine rc_ne (tb := tb) (by have := hr.units; omega) I.kIn J (kx.ty _ _ I.kIn hP) hn c.ob c.ne c.eq c.fn ?_
  refine thn (run_in1 F hr hb hx I (show Vals [V.ref a, y] [Value.ref a, u] from .cons rfl (.cons ry .nil)) h) fun z s1 hz => ?_
  obtain ⟨w', H1, I1, rw', b, rfl, q⟩ := hz
  cases rw'
  exact ⟨b, rfl, .bl (!b), H1, I1, rfl, q⟩
/-- str(x) by an own __str__ -/
def rStrO (C : Addr) (sp : Sp) (E : XK) : List V → Hp → VK → Prop := fun xs H Q => ∃ (a dx : Addr) (fs : List (Str × V)), xs = [.ref a] ∧ H a = some (.ins C dx fs) ∧ sp [.ref a] H (fun v H' => ∃ z, v = .str z ∧ Q (.str z) H') E
/-- len(x) by an own __len__ -/
def rLenO (C : Addr) (sp : Sp) (E : XK) : List V → Hp → VK → Prop := fun xs H Q => ∃ (a dx : Addr) (fs : List (Str × V)), xs = [.ref a] ∧ H a = some (.ins C dx fs) ∧ sp [.ref a] H (fun v H' => ∃ n : Int, v = .int n ∧ 0 ≤ n ∧ n < 2 ^ 63 ∧ Q (.int n) H') E
theorem cr_lenO (hs : PySem.W.findIn X.K (.ref C) "__len__" = some (some (.ref f))) (hf : PySem.W.isFn X.K (.ref f) = true) (F : FnOk X.prog X.w X.K X.mg X.base CX k f fd ps sp) (hr : Room (k + 1) X.A) (hb : Binds X.K fd ps []) (hx : Passes CX X E) : CallR X (.builtin "len") (rLenO C sp E) := by
  intro pins s σ H xs us Q I r h
  obtain ⟨a, dx, fs, rfl, ha, h⟩ := h
  obtain ⟨u, rfl, ru⟩ := vals1 r
  cases ru
  obtain ⟨mA, O, _⟩ := ins_get I.hok ha
  obtain ⟨od, J, _⟩ := O.look
  obtain ⟨m, hF⟩ := I.fr
  refine PySem.W.len_K hF I.ok.mod.kin J hs hf (thn (run_in1 F hr hb hx I (show Vals [V.ref a] [Value.ref a] from .cons rfl .nil) h) fun z s1 hz => ?_)
  obtain ⟨w', H1, I1, rw', n, rfl, n0, n1, q⟩ := hz
  obtain ⟨t, rfl⟩ := rw'
  exact ⟨⟨n0, n1⟩, .int n, H1, I1.tok _, ⟨_, rfl⟩, q⟩
theorem cr_strO (hs : PySem.W.findIn X.K (.ref C) "__str__" = some (some (.ref f))) (hf : PySem.W.isFn X.K (.ref f) = true) (F : FnOk X.prog X.w X.K X.mg X.base CX k f fd ps sp) (hr : Room (k + 2) X.A) (hb : Binds X.K fd ps []) (hx : Passes CX X E) : CallR X (.type "str") (rStrO C sp E) := by
  intro pins s σ H xs us Q I r h
  obtain ⟨a, dx, fs, rfl, ha, h⟩ := h
  obtain ⟨u, rfl, ru⟩ := vals1 r
  cases ru
  obtain ⟨mA, O, _⟩ := ins_get I.hok ha
  obtain ⟨od, J, _⟩ := O.look
  refine PySem.W.kso_call (by
    have := hr.units
    have e : X.A.in1.in1.units = X.A.units + 2 := rfl
    omega) I.kIn J hs hf (thn (run_in2 F hr hb hx I (show Vals [V.ref a] [Value.ref a] from .cons rfl .nil) h) fun z s1 hz => ?_)
  obtain ⟨w', H1, I1, rw', n, rfl, q⟩ := hz
  obtain ⟨t, rfl⟩ := rw'
  exact ⟨.str n, H1, I1, ⟨_, rfl⟩, q⟩
end
/-! ### what the head must say of such a class -/
section
variable {K : PySem.W.Frag}
open He
def clsB (K : PySem.W.Frag) (all : List Str) (x : Str) : Bool :=
  eqO (PySem.W.findIn K (.ref (ga K x)) "__class__") (some (some (.builtin "object.__class__"))) && (eqO (PySem.W.specialIn K (.builtin "object.__class__") "__get__") (some (some (.builtin "getset_descriptor.__get__"))) &&
    (decide (PySem.W.takesIn K (.builtin "object.__class__") = some true) && (decide (PySem.W.mroIn K (ga K x) (.type "object") = some true) &&
      ((all.all fun y => decide (PySem.W.kitOne K (.ref (ga K x)) (.ref (ga K y)) = some (decide (x = y))) && PySem.W.notFirst K (ga K x) (.ref (ga K y))) &&
        kinds.all fun t => decide (PySem.W.kitOne K (.ref (ga K x)) (.type t) = some false) && (decide (PySem.W.kitOne K (.type t) (.ref (ga K x)) = some false) && PySem.W.notFirst K (ga K x) (.type t))))))
structure ClsO (K : PySem.W.Frag) (all : List Str) (x : Str) : Prop where
  ha : PySem.W.findIn K (.ref (ga K x)) "__class__" = some (some (.builtin "object.__class__"))
  hn : PySem.W.specialIn K (.builtin "object.__class__") "__get__" = some (some (.builtin "getset_descriptor.__get__"))
  ht : PySem.W.takesIn K (.builtin "object.__class__") = some true
  hm : PySem.W.mroIn K (ga K x) (.type "object") = some true
  own : ∀ y ∈ all, PySem.W.kitOne K (.ref (ga K x)) (.ref (ga K y)) = some (decide (x = y)) ∧ PySem.W.notFirst K (ga K x) (.ref (ga K y)) = true
  bi : ∀ t ∈ kinds, PySem.W.kitOne K (.ref (ga K x)) (.type t) = some false ∧ PySem.W.kitOne K (.type t) (.ref (ga K x)) = some false ∧ PySem.W.notFirst K (ga K x) (.type t) = true
theorem clsB_ok {all : List Str} {x : Str} (h : clsB K all x = true) : ClsO K all x := by
  obtain ⟨h1, h⟩ := ba h
  obtain ⟨h2, h⟩ := ba h
  obtain ⟨h3, h⟩ := ba h
  obtain ⟨h4, h⟩ := ba h
  obtain ⟨h5, h6⟩ := ba h
  refine ⟨eqO_ok h1, eqO_ok h2, of_decide_eq_true h3, of_decide_eq_true h4, fun y hy => ?_, fun t ht => ?_⟩
  · obtain ⟨a, b⟩ := ba (List.all_eq_true.mp h5 y hy)
    exact ⟨of_decide_eq_true a, b⟩
  · obtain ⟨a, b⟩ := ba (List.all_eq_true.mp h6 t ht)
    obtain ⟨b, c⟩ := ba b
    exact ⟨of_decide_eq_true a, of_decide_eq_true b, c⟩
/-- x's own == at f -/
def eqB (K : PySem.W.Frag) (x : Str) : Bool := eqO (PySem.W.findIn K (.ref (ga K x)) "__ne__") (some (some (.builtin "object.__ne__")))
end
end Own
set_option Elab.async false
set_option linter.all false
set_option maxRecDepth 100000
set_option maxHeartbeats 4000000
set_option autoImplicit false
namespace K57
open PySem PySem.Spec PyProof.Rows L2 He Evl
/-! ### the text by places -/
def top (i : Nat) : Stmt := PySem.Challenge.pw_mutesigns_k57_ways_of_writing_make_sylla.main.body.getD i (.Pass ⟨0, 0, 0, 0⟩)
abbrev s_is_one_of : Stmt := top 7
abbrev s_is_heard : Stmt := top 12
abbrev s_is_value : Stmt := top 13
abbrev s_check_heard : Stmt := top 14
abbrev s_syllables : Stmt := top 15
abbrev s_consonant_of : Stmt := top 16
abbrev s_vowel_of : Stmt := top 17
abbrev s_check_value : Stmt := top 18
abbrev s_exchanged : Stmt := top 19
abbrev s_is_letter : Stmt := top 20
abbrev s_l_ear : Stmt := top 22
abbrev s_l_pull : Stmt := top 23
abbrev s_l_one : Stmt := top 24
abbrev s_l_cut : Stmt := top 25
abbrev s_l_spoken : Stmt := top 26
abbrev s_l_word : Stmt := top 27
abbrev s_l_heard : Stmt := top 28
abbrev s_l_put : Stmt := top 29
abbrev s_l_syllables_right : Stmt := top 30
abbrev s_l_exchanged_right : Stmt := top 31
abbrev s_l_checks_right : Stmt := top 32
abbrev s_l_refused_right : Stmt := top 33
abbrev s_law : Stmt := top 34
abbrev s_BadHeard_init : Stmt := inClass (top 2) 0
abbrev s_BadValue_init : Stmt := inClass (top 3) 0
abbrev s_Misfit_init : Stmt := inClass (top 4) 0

theorem sc_is_one_of : FnScope ["value", "strings"] ["value", "strings"] (defScope s_is_one_of) := ⟨rfl, rfl, rfl, by decide +kernel, rfl, by decide +kernel, by decide +kernel⟩
theorem sc_is_heard : FnScope ["value", "letter"] ["value"] (defScope s_is_heard) := ⟨rfl, rfl, rfl, by decide +kernel, rfl, by decide +kernel, by decide +kernel⟩
theorem sc_is_value : FnScope ["value"] ["value"] (defScope s_is_value) := ⟨rfl, rfl, rfl, by decide +kernel, rfl, by decide +kernel, by decide +kernel⟩
theorem sc_check_heard : FnScope ["heard"] ["heard"] (defScope s_check_heard) := ⟨rfl, rfl, rfl, by decide +kernel, rfl, by decide +kernel, by decide +kernel⟩
theorem sc_syllables : FnScope ["heard", "way", "found", "at", "letter", "is_led", "behind", "vowel"] ["heard", "way"] (defScope s_syllables) := ⟨rfl, rfl, rfl, by decide +kernel, rfl, by decide +kernel, by decide +kernel⟩
theorem sc_consonant_of : FnScope ["value"] ["value"] (defScope s_consonant_of) := ⟨rfl, rfl, rfl, by decide +kernel, rfl, by decide +kernel, by decide +kernel⟩
theorem sc_vowel_of : FnScope ["value"] ["value"] (defScope s_vowel_of) := ⟨rfl, rfl, rfl, by decide +kernel, rfl, by decide +kernel, by decide +kernel⟩
theorem sc_check_value : FnScope ["value"] ["value"] (defScope s_check_value) := ⟨rfl, rfl, rfl, by decide +kernel, rfl, by decide +kernel, by decide +kernel⟩
theorem sc_exchanged : FnScope ["heard", "one", "other", "letters", "letter"] ["heard", "one", "other"] (defScope s_exchanged) := ⟨rfl, rfl, rfl, by decide +kernel, rfl, by decide +kernel, by decide +kernel⟩
theorem sc_is_letter : FnScope ["value"] ["value"] (defScope s_is_letter) := ⟨rfl, rfl, rfl, by decide +kernel, rfl, by decide +kernel, by decide +kernel⟩
theorem sc_l_ear : FnScope ["_law_script", "_law_cell"] ["_law_script"] (defScope s_l_ear) := ⟨rfl, rfl, rfl, by decide +kernel, rfl, by decide +kernel, by decide +kernel⟩
theorem sc_l_pull : FnScope ["_law_ear_here", "_law_many", "_law_left", "_law_at", "_law_cell", "_law_mixed"] ["_law_ear_here", "_law_many"] (defScope s_l_pull) := ⟨rfl, rfl, rfl, by decide +kernel, rfl, by decide +kernel, by decide +kernel⟩
theorem sc_l_one : FnScope ["_law_ear_here", "_law_some"] ["_law_ear_here", "_law_some"] (defScope s_l_one) := ⟨rfl, rfl, rfl, by decide +kernel, rfl, by decide +kernel, by decide +kernel⟩
theorem sc_l_cut : FnScope ["_law_heard_here", "_law_way", "_law_found", "_law_vowel", "_law_free", "_law_letter"] ["_law_heard_here", "_law_way"] (defScope s_l_cut) := ⟨rfl, rfl, rfl, by decide +kernel, rfl, by decide +kernel, by decide +kernel⟩
theorem sc_l_spoken : FnScope ["_law_ear_here", "_law_told", "_law_way", "_law_heard_here", "_law_at", "_law_syllable", "_law_after", "_law_is_shut"] ["_law_ear_here", "_law_told", "_law_way"] (defScope s_l_spoken) := ⟨rfl, rfl, rfl, by decide +kernel, rfl, by decide +kernel, by decide +kernel⟩
theorem sc_l_word : FnScope ["_law_ear_here", "_law_told", "_law_spot", "_law_letters"] ["_law_ear_here"] (defScope s_l_word) := ⟨rfl, rfl, rfl, by decide +kernel, rfl, by decide +kernel, by decide +kernel⟩
theorem sc_l_heard : FnScope ["_law_ask", "_law_caught", "error"] ["_law_ask"] (defScope s_l_heard) := ⟨rfl, rfl, rfl, by decide +kernel, rfl, by decide +kernel, by decide +kernel⟩
theorem sc_l_put : FnScope ["_law_text", "_law_one_here", "_law_other", "_law_letter"] ["_law_text", "_law_one_here", "_law_other"] (defScope s_l_put) := ⟨rfl, rfl, rfl, by decide +kernel, rfl, by decide +kernel, by decide +kernel⟩
theorem sc_l_syllables_right : FnScope ["_law_heard_here", "_law_vowels", "_law_at", "_law_letter", "_law_shut", "_law_way", "_law_told", "_law_due", "_law_syllable"] ["_law_heard_here"] (defScope s_l_syllables_right) := ⟨rfl, rfl, rfl, by decide +kernel, rfl, by decide +kernel, by decide +kernel⟩
theorem sc_l_exchanged_right : FnScope ["_law_ear_here", "_law_heard_here", "_law_some", "_law_letter", "_law_one_here", "_law_other", "_law_turned", "_law_way", "_law_syllable"] ["_law_ear_here", "_law_heard_here"] (defScope s_l_exchanged_right) := ⟨rfl, rfl, rfl, by decide +kernel, rfl, by decide +kernel, by decide +kernel⟩
theorem sc_l_checks_right : FnScope ["_law_ear_here", "_law_values", "_law_letters", "_law_value", "_law_turn", "_law_due", "_law_words", "_law_sign"] ["_law_ear_here"] (defScope s_l_checks_right) := ⟨rfl, rfl, rfl, by decide +kernel, rfl, by decide +kernel, by decide +kernel⟩
theorem sc_l_refused_right : FnScope ["_law_ear_here", "_law_heard_here", "_law_odd", "_law_way", "_law_letter", "_law_far", "_law_heard_all"] ["_law_ear_here", "_law_heard_here"] (defScope s_l_refused_right) := ⟨rfl, rfl, rfl, by decide +kernel, rfl, by decide +kernel, by decide +kernel⟩
theorem sc_law : FnScope ["_law_script", "_law_ear_here", "_law_turn", "_law_heard_here"] ["_law_script"] (defScope s_law) := ⟨rfl, rfl, rfl, by decide +kernel, rfl, by decide +kernel, by decide +kernel⟩
theorem sc_BadHeard_init : FnScope ["self", "part"] ["self", "part"] (defScope s_BadHeard_init) := ⟨rfl, rfl, rfl, by decide +kernel, rfl, by decide +kernel, by decide +kernel⟩
theorem sc_BadValue_init : FnScope ["self", "part"] ["self", "part"] (defScope s_BadValue_init) := ⟨rfl, rfl, rfl, by decide +kernel, rfl, by decide +kernel, by decide +kernel⟩
theorem sc_Misfit_init : FnScope ["self", "part"] ["self", "part"] (defScope s_Misfit_init) := ⟨rfl, rfl, rfl, by decide +kernel, rfl, by decide +kernel, by decide +kernel⟩

/-! ### the facts -/
def plains : List Str := []
def excs : List (Str × List Str × List Str) := [("SignError", [], []), ("BadHeard", ["SignError"], ["part"]), ("BadValue", ["SignError"], ["part"]), ("Misfit", ["SignError"], ["part"])]
def defl : List He.DefD := [
  ⟨("is_one_of", none), "is_one_of", "is_one_of", defArgs s_is_one_of, defBody s_is_one_of, defScope s_is_one_of, [], []⟩,
  ⟨("is_heard", none), "is_heard", "is_heard", defArgs s_is_heard, defBody s_is_heard, defScope s_is_heard, [], []⟩,
  ⟨("is_value", none), "is_value", "is_value", defArgs s_is_value, defBody s_is_value, defScope s_is_value, [], []⟩,
  ⟨("check_heard", none), "check_heard", "check_heard", defArgs s_check_heard, defBody s_check_heard, defScope s_check_heard, [], []⟩,
  ⟨("syllables", none), "syllables", "syllables", defArgs s_syllables, defBody s_syllables, defScope s_syllables, [], []⟩,
  ⟨("consonant_of", none), "consonant_of", "consonant_of", defArgs s_consonant_of, defBody s_consonant_of, defScope s_consonant_of, [], []⟩,
  ⟨("vowel_of", none), "vowel_of", "vowel_of", defArgs s_vowel_of, defBody s_vowel_of, defScope s_vowel_of, [], []⟩,
  ⟨("_check_value", none), "_check_value", "_check_value", defArgs s_check_value, defBody s_check_value, defScope s_check_value, [], []⟩,
  ⟨("exchanged", none), "exchanged", "exchanged", defArgs s_exchanged, defBody s_exchanged, defScope s_exchanged, [], []⟩,
  ⟨("_is_letter", none), "_is_letter", "_is_letter", defArgs s_is_letter, defBody s_is_letter, defScope s_is_letter, [], []⟩,
  ⟨("_law_ear", none), "_law_ear", "_law_ear", defArgs s_l_ear, defBody s_l_ear, defScope s_l_ear, [], []⟩,
  ⟨("_law_pull", none), "_law_pull", "_law_pull", defArgs s_l_pull, defBody s_l_pull, defScope s_l_pull, [], []⟩,
  ⟨("_law_one", none), "_law_one", "_law_one", defArgs s_l_one, defBody s_l_one, defScope s_l_one, [], []⟩,
  ⟨("_law_cut", none), "_law_cut", "_law_cut", defArgs s_l_cut, defBody s_l_cut, defScope s_l_cut, [], []⟩,
  ⟨("_law_spoken", none), "_law_spoken", "_law_spoken", defArgs s_l_spoken, defBody s_l_spoken, defScope s_l_spoken, [], []⟩,
  ⟨("_law_word", none), "_law_word", "_law_word", defArgs s_l_word, defBody s_l_word, defScope s_l_word, [], []⟩,
  ⟨("_law_heard", none), "_law_heard", "_law_heard", defArgs s_l_heard, defBody s_l_heard, defScope s_l_heard, [], []⟩,
  ⟨("_law_put", none), "_law_put", "_law_put", defArgs s_l_put, defBody s_l_put, defScope s_l_put, [], []⟩,
  ⟨("_law_syllables_right", none), "_law_syllables_right", "_law_syllables_right", defArgs s_l_syllables_right, defBody s_l_syllables_right, defScope s_l_syllables_right, [], []⟩,
  ⟨("_law_exchanged_right", none), "_law_exchanged_right", "_law_exchanged_right", defArgs s_l_exchanged_right, defBody s_l_exchanged_right, defScope s_l_exchanged_right, [], []⟩,
  ⟨("_law_checks_right", none), "_law_checks_right", "_law_checks_right", defArgs s_l_checks_right, defBody s_l_checks_right, defScope s_l_checks_right, [], []⟩,
  ⟨("_law_refused_right", none), "_law_refused_right", "_law_refused_right", defArgs s_l_refused_right, defBody s_l_refused_right, defScope s_l_refused_right, [], []⟩,
  ⟨("law", none), "law", "law", defArgs s_law, defBody s_law, defScope s_law, [], []⟩,
  ⟨("BadHeard", some "__init__"), "__init__", "BadHeard.__init__", defArgs s_BadHeard_init, defBody s_BadHeard_init, defScope s_BadHeard_init, [], []⟩,
  ⟨("BadValue", some "__init__"), "__init__", "BadValue.__init__", defArgs s_BadValue_init, defBody s_BadValue_init, defScope s_BadValue_init, [], []⟩,
  ⟨("Misfit", some "__init__"), "__init__", "Misfit.__init__", defArgs s_Misfit_init, defBody s_Misfit_init, defScope s_Misfit_init, [], []⟩]
def edl : List ED := []
def facl : List He.Fa := [.glo "is_one_of", .glo "is_heard", .glo "is_value", .glo "check_heard", .glo "syllables", .glo "consonant_of", .glo "vowel_of", .glo "_check_value", .glo "exchanged", .glo "_is_letter", .glo "_law_ear", .glo "_law_pull", .glo "_law_one", .glo "_law_cut", .glo "_law_spoken", .glo "_law_word", .glo "_law_heard", .glo "_law_put", .glo "_law_syllables_right", .glo "_law_exchanged_right", .glo "_law_checks_right", .glo "_law_refused_right", .glo "law", .glo "SignError", .glo "BadHeard", .glo "BadValue", .glo "Misfit", .str "LETTERS" "abcdefghijklmnopqrstuvwxyz", .str "VOWELS" "aeiou", .glo "WAYS", .int "MOST_LETTERS" 12, .free "ValueError", .free "abs", .free "all", .free "enumerate", .free "int", .free "isinstance", .free "len", .free "list", .free "range", .free "str", .free "tuple", .exc "SignError", .meth "BadHeard" "__init__", .meth "BadValue" "__init__", .meth "Misfit" "__init__"]
/-! ### what stands behind the top -/
structure Tx (K : PySem.W.Frag) (mg : Str → Option Value) : Prop where
  f_is_one_of : FunD K "is_one_of" "is_one_of" (defArgs s_is_one_of) (defBody s_is_one_of) (defScope s_is_one_of) [] [] (ga K "is_one_of") (fdOf K ("is_one_of", none))
  f_is_heard : FunD K "is_heard" "is_heard" (defArgs s_is_heard) (defBody s_is_heard) (defScope s_is_heard) [] [] (ga K "is_heard") (fdOf K ("is_heard", none))
  f_is_value : FunD K "is_value" "is_value" (defArgs s_is_value) (defBody s_is_value) (defScope s_is_value) [] [] (ga K "is_value") (fdOf K ("is_value", none))
  f_check_heard : FunD K "check_heard" "check_heard" (defArgs s_check_heard) (defBody s_check_heard) (defScope s_check_heard) [] [] (ga K "check_heard") (fdOf K ("check_heard", none))
  f_syllables : FunD K "syllables" "syllables" (defArgs s_syllables) (defBody s_syllables) (defScope s_syllables) [] [] (ga K "syllables") (fdOf K ("syllables", none))
  f_consonant_of : FunD K "consonant_of" "consonant_of" (defArgs s_consonant_of) (defBody s_consonant_of) (defScope s_consonant_of) [] [] (ga K "consonant_of") (fdOf K ("consonant_of", none))
  f_vowel_of : FunD K "vowel_of" "vowel_of" (defArgs s_vowel_of) (defBody s_vowel_of) (defScope s_vowel_of) [] [] (ga K "vowel_of") (fdOf K ("vowel_of", none))
  f_check_value : FunD K "_check_value" "_check_value" (defArgs s_check_value) (defBody s_check_value) (defScope s_check_value) [] [] (ga K "_check_value") (fdOf K ("_check_value", none))
  f_exchanged : FunD K "exchanged" "exchanged" (defArgs s_exchanged) (defBody s_exchanged) (defScope s_exchanged) [] [] (ga K "exchanged") (fdOf K ("exchanged", none))
  f_is_letter : FunD K "_is_letter" "_is_letter" (defArgs s_is_letter) (defBody s_is_letter) (defScope s_is_letter) [] [] (ga K "_is_letter") (fdOf K ("_is_letter", none))
  f_l_ear : FunD K "_law_ear" "_law_ear" (defArgs s_l_ear) (defBody s_l_ear) (defScope s_l_ear) [] [] (ga K "_law_ear") (fdOf K ("_law_ear", none))
  f_l_pull : FunD K "_law_pull" "_law_pull" (defArgs s_l_pull) (defBody s_l_pull) (defScope s_l_pull) [] [] (ga K "_law_pull") (fdOf K ("_law_pull", none))
  f_l_one : FunD K "_law_one" "_law_one" (defArgs s_l_one) (defBody s_l_one) (defScope s_l_one) [] [] (ga K "_law_one") (fdOf K ("_law_one", none))
  f_l_cut : FunD K "_law_cut" "_law_cut" (defArgs s_l_cut) (defBody s_l_cut) (defScope s_l_cut) [] [] (ga K "_law_cut") (fdOf K ("_law_cut", none))
  f_l_spoken : FunD K "_law_spoken" "_law_spoken" (defArgs s_l_spoken) (defBody s_l_spoken) (defScope s_l_spoken) [] [] (ga K "_law_spoken") (fdOf K ("_law_spoken", none))
  f_l_word : FunD K "_law_word" "_law_word" (defArgs s_l_word) (defBody s_l_word) (defScope s_l_word) [] [] (ga K "_law_word") (fdOf K ("_law_word", none))
  f_l_heard : FunD K "_law_heard" "_law_heard" (defArgs s_l_heard) (defBody s_l_heard) (defScope s_l_heard) [] [] (ga K "_law_heard") (fdOf K ("_law_heard", none))
  f_l_put : FunD K "_law_put" "_law_put" (defArgs s_l_put) (defBody s_l_put) (defScope s_l_put) [] [] (ga K "_law_put") (fdOf K ("_law_put", none))
  f_l_syllables_right : FunD K "_law_syllables_right" "_law_syllables_right" (defArgs s_l_syllables_right) (defBody s_l_syllables_right) (defScope s_l_syllables_right) [] [] (ga K "_law_syllables_right") (fdOf K ("_law_syllables_right", none))
  f_l_exchanged_right : FunD K "_law_exchanged_right" "_law_exchanged_right" (defArgs s_l_exchanged_right) (defBody s_l_exchanged_right) (defScope s_l_exchanged_right) [] [] (ga K "_law_exchanged_right") (fdOf K ("_law_exchanged_right", none))
  f_l_checks_right : FunD K "_law_checks_right" "_law_checks_right" (defArgs s_l_checks_right) (defBody s_l_checks_right) (defScope s_l_checks_right) [] [] (ga K "_law_checks_right") (fdOf K ("_law_checks_right", none))
  f_l_refused_right : FunD K "_law_refused_right" "_law_refused_right" (defArgs s_l_refused_right) (defBody s_l_refused_right) (defScope s_l_refused_right) [] [] (ga K "_law_refused_right") (fdOf K ("_law_refused_right", none))
  f_law : FunD K "law" "law" (defArgs s_law) (defBody s_law) (defScope s_law) [] [] (ga K "law") (fdOf K ("law", none))
  f_BadHeard_init : FunD K "__init__" "BadHeard.__init__" (defArgs s_BadHeard_init) (defBody s_BadHeard_init) (defScope s_BadHeard_init) [] [] (ma K (ga K "BadHeard") "__init__") (fdOf K ("BadHeard", some "__init__"))
  f_BadValue_init : FunD K "__init__" "BadValue.__init__" (defArgs s_BadValue_init) (defBody s_BadValue_init) (defScope s_BadValue_init) [] [] (ma K (ga K "BadValue") "__init__") (fdOf K ("BadValue", some "__init__"))
  f_Misfit_init : FunD K "__init__" "Misfit.__init__" (defArgs s_Misfit_init) (defBody s_Misfit_init) (defScope s_Misfit_init) [] [] (ma K (ga K "Misfit") "__init__") (fdOf K ("Misfit", some "__init__"))
  g_is_one_of : mg "is_one_of" = some (.ref (ga K "is_one_of"))
  g_is_heard : mg "is_heard" = some (.ref (ga K "is_heard"))
  g_is_value : mg "is_value" = some (.ref (ga K "is_value"))
  g_check_heard : mg "check_heard" = some (.ref (ga K "check_heard"))
  g_syllables : mg "syllables" = some (.ref (ga K "syllables"))
  g_consonant_of : mg "consonant_of" = some (.ref (ga K "consonant_of"))
  g_vowel_of : mg "vowel_of" = some (.ref (ga K "vowel_of"))
  g_check_value : mg "_check_value" = some (.ref (ga K "_check_value"))
  g_exchanged : mg "exchanged" = some (.ref (ga K "exchanged"))
  g_is_letter : mg "_is_letter" = some (.ref (ga K "_is_letter"))
  g_l_ear : mg "_law_ear" = some (.ref (ga K "_law_ear"))
  g_l_pull : mg "_law_pull" = some (.ref (ga K "_law_pull"))
  g_l_one : mg "_law_one" = some (.ref (ga K "_law_one"))
  g_l_cut : mg "_law_cut" = some (.ref (ga K "_law_cut"))
  g_l_spoken : mg "_law_spoken" = some (.ref (ga K "_law_spoken"))
  g_l_word : mg "_law_word" = some (.ref (ga K "_law_word"))
  g_l_heard : mg "_law_heard" = some (.ref (ga K "_law_heard"))
  g_l_put : mg "_law_put" = some (.ref (ga K "_law_put"))
  g_l_syllables_right : mg "_law_syllables_right" = some (.ref (ga K "_law_syllables_right"))
  g_l_exchanged_right : mg "_law_exchanged_right" = some (.ref (ga K "_law_exchanged_right"))
  g_l_checks_right : mg "_law_checks_right" = some (.ref (ga K "_law_checks_right"))
  g_l_refused_right : mg "_law_refused_right" = some (.ref (ga K "_law_refused_right"))
  g_law : mg "law" = some (.ref (ga K "law"))
  g_SignError : mg "SignError" = some (.ref (ga K "SignError"))
  g_BadHeard : mg "BadHeard" = some (.ref (ga K "BadHeard"))
  g_BadValue : mg "BadValue" = some (.ref (ga K "BadValue"))
  g_Misfit : mg "Misfit" = some (.ref (ga K "Misfit"))
  g_LETTERS : ∃ t, mg "LETTERS" = some (.str "abcdefghijklmnopqrstuvwxyz" t)
  g_VOWELS : ∃ t, mg "VOWELS" = some (.str "aeiou" t)
  g_WAYS : mg "WAYS" = some (.ref (ga K "WAYS"))
  g_MOST_LETTERS : ∃ t, mg "MOST_LETTERS" = some (.int 12 t)
  n_ValueError : mg "ValueError" = none
  n_abs : mg "abs" = none
  n_all : mg "all" = none
  n_enumerate : mg "enumerate" = none
  n_int : mg "int" = none
  n_isinstance : mg "isinstance" = none
  n_len : mg "len" = none
  n_list : mg "list" = none
  n_range : mg "range" = none
  n_str : mg "str" = none
  n_tuple : mg "tuple" = none
  e_SignError : (He.Fa.exc "SignError").ok K = true
  m_BadHeard : Meth K (ga K "BadHeard") "__init__" (ma K (ga K "BadHeard") "__init__")
  m_BadValue : Meth K (ga K "BadValue") "__init__" (ma K (ga K "BadValue") "__init__")
  m_Misfit : Meth K (ga K "Misfit") "__init__" (ma K (ga K "Misfit") "__init__")
  xs : excsB K excs = true
  t_WAYS : tupB K "WAYS" [.str "drop", .str "next"] = true
def chk (K : PySem.W.Frag) : Bool := excsB K excs && tupB K "WAYS" [.str "drop", .str "next"]
theorem tx_of {K : PySem.W.Frag} {mg : Str → Option Value} {h : Heap} (X : K.In h) (G : h.Ns mainGlobals mg) (c : SaysR chk facl defl edl K) : Tx K mg := ⟨
  (funD_at c.says 0 (d := ⟨("is_one_of", none), "is_one_of", "is_one_of", defArgs s_is_one_of, defBody s_is_one_of, defScope s_is_one_of, [], []⟩) rfl),
  (funD_at c.says 1 (d := ⟨("is_heard", none), "is_heard", "is_heard", defArgs s_is_heard, defBody s_is_heard, defScope s_is_heard, [], []⟩) rfl),
  (funD_at c.says 2 (d := ⟨("is_value", none), "is_value", "is_value", defArgs s_is_value, defBody s_is_value, defScope s_is_value, [], []⟩) rfl),
  (funD_at c.says 3 (d := ⟨("check_heard", none), "check_heard", "check_heard", defArgs s_check_heard, defBody s_check_heard, defScope s_check_heard, [], []⟩) rfl),
  (funD_at c.says 4 (d := ⟨("syllables", none), "syllables", "syllables", defArgs s_syllables, defBody s_syllables, defScope s_syllables, [], []⟩) rfl),
  (funD_at c.says 5 (d := ⟨("consonant_of", none), "consonant_of", "consonant_of", defArgs s_consonant_of, defBody s_consonant_of, defScope s_consonant_of, [], []⟩) rfl),
  (funD_at c.says 6 (d := ⟨("vowel_of", none), "vowel_of", "vowel_of", defArgs s_vowel_of, defBody s_vowel_of, defScope s_vowel_of, [], []⟩) rfl),
  (funD_at c.says 7 (d := ⟨("_check_value", none), "_check_value", "_check_value", defArgs s_check_value, defBody s_check_value, defScope s_check_value, [], []⟩) rfl),
  (funD_at c.says 8 (d := ⟨("exchanged", none), "exchanged", "exchanged", defArgs s_exchanged, defBody s_exchanged, defScope s_exchanged, [], []⟩) rfl),
  (funD_at c.says 9 (d := ⟨("_is_letter", none), "_is_letter", "_is_letter", defArgs s_is_letter, defBody s_is_letter, defScope s_is_letter, [], []⟩) rfl),
  (funD_at c.says 10 (d := ⟨("_law_ear", none), "_law_ear", "_law_ear", defArgs s_l_ear, defBody s_l_ear, defScope s_l_ear, [], []⟩) rfl),
  (funD_at c.says 11 (d := ⟨("_law_pull", none), "_law_pull", "_law_pull", defArgs s_l_pull, defBody s_l_pull, defScope s_l_pull, [], []⟩) rfl),
  (funD_at c.says 12 (d := ⟨("_law_one", none), "_law_one", "_law_one", defArgs s_l_one, defBody s_l_one, defScope s_l_one, [], []⟩) rfl),
  (funD_at c.says 13 (d := ⟨("_law_cut", none), "_law_cut", "_law_cut", defArgs s_l_cut, defBody s_l_cut, defScope s_l_cut, [], []⟩) rfl),
  (funD_at c.says 14 (d := ⟨("_law_spoken", none), "_law_spoken", "_law_spoken", defArgs s_l_spoken, defBody s_l_spoken, defScope s_l_spoken, [], []⟩) rfl),
  (funD_at c.says 15 (d := ⟨("_law_word", none), "_law_word", "_law_word", defArgs s_l_word, defBody s_l_word, defScope s_l_word, [], []⟩) rfl),
  (funD_at c.says 16 (d := ⟨("_law_heard", none), "_law_heard", "_law_heard", defArgs s_l_heard, defBody s_l_heard, defScope s_l_heard, [], []⟩) rfl),
  (funD_at c.says 17 (d := ⟨("_law_put", none), "_law_put", "_law_put", defArgs s_l_put, defBody s_l_put, defScope s_l_put, [], []⟩) rfl),
  (funD_at c.says 18 (d := ⟨("_law_syllables_right", none), "_law_syllables_right", "_law_syllables_right", defArgs s_l_syllables_right, defBody s_l_syllables_right, defScope s_l_syllables_right, [], []⟩) rfl),
  (funD_at c.says 19 (d := ⟨("_law_exchanged_right", none), "_law_exchanged_right", "_law_exchanged_right", defArgs s_l_exchanged_right, defBody s_l_exchanged_right, defScope s_l_exchanged_right, [], []⟩) rfl),
  (funD_at c.says 20 (d := ⟨("_law_checks_right", none), "_law_checks_right", "_law_checks_right", defArgs s_l_checks_right, defBody s_l_checks_right, defScope s_l_checks_right, [], []⟩) rfl),
  (funD_at c.says 21 (d := ⟨("_law_refused_right", none), "_law_refused_right", "_law_refused_right", defArgs s_l_refused_right, defBody s_l_refused_right, defScope s_l_refused_right, [], []⟩) rfl),
  (funD_at c.says 22 (d := ⟨("law", none), "law", "law", defArgs s_law, defBody s_law, defScope s_law, [], []⟩) rfl),
  (funD_at c.says 23 (d := ⟨("BadHeard", some "__init__"), "__init__", "BadHeard.__init__", defArgs s_BadHeard_init, defBody s_BadHeard_init, defScope s_BadHeard_init, [], []⟩) rfl),
  (funD_at c.says 24 (d := ⟨("BadValue", some "__init__"), "__init__", "BadValue.__init__", defArgs s_BadValue_init, defBody s_BadValue_init, defScope s_BadValue_init, [], []⟩) rfl),
  (funD_at c.says 25 (d := ⟨("Misfit", some "__init__"), "__init__", "Misfit.__init__", defArgs s_Misfit_init, defBody s_Misfit_init, defScope s_Misfit_init, [], []⟩) rfl),
  (He.glo_ok X G (c.says.fact 0 (f := .glo "is_one_of") rfl)),
  (He.glo_ok X G (c.says.fact 1 (f := .glo "is_heard") rfl)),
  (He.glo_ok X G (c.says.fact 2 (f := .glo "is_value") rfl)),
  (He.glo_ok X G (c.says.fact 3 (f := .glo "check_heard") rfl)),
  (He.glo_ok X G (c.says.fact 4 (f := .glo "syllables") rfl)),
  (He.glo_ok X G (c.says.fact 5 (f := .glo "consonant_of") rfl)),
  (He.glo_ok X G (c.says.fact 6 (f := .glo "vowel_of") rfl)),
  (He.glo_ok X G (c.says.fact 7 (f := .glo "_check_value") rfl)),
  (He.glo_ok X G (c.says.fact 8 (f := .glo "exchanged") rfl)),
  (He.glo_ok X G (c.says.fact 9 (f := .glo "_is_letter") rfl)),
  (He.glo_ok X G (c.says.fact 10 (f := .glo "_law_ear") rfl)),
  (He.glo_ok X G (c.says.fact 11 (f := .glo "_law_pull") rfl)),
  (He.glo_ok X G (c.says.fact 12 (f := .glo "_law_one") rfl)),
  (He.glo_ok X G (c.says.fact 13 (f := .glo "_law_cut") rfl)),
  (He.glo_ok X G (c.says.fact 14 (f := .glo "_law_spoken") rfl)),
  (He.glo_ok X G (c.says.fact 15 (f := .glo "_law_word") rfl)),
  (He.glo_ok X G (c.says.fact 16 (f := .glo "_law_heard") rfl)),
  (He.glo_ok X G (c.says.fact 17 (f := .glo "_law_put") rfl)),
  (He.glo_ok X G (c.says.fact 18 (f := .glo "_law_syllables_right") rfl)),
  (He.glo_ok X G (c.says.fact 19 (f := .glo "_law_exchanged_right") rfl)),
  (He.glo_ok X G (c.says.fact 20 (f := .glo "_law_checks_right") rfl)),
  (He.glo_ok X G (c.says.fact 21 (f := .glo "_law_refused_right") rfl)),
  (He.glo_ok X G (c.says.fact 22 (f := .glo "law") rfl)),
  (He.glo_ok X G (c.says.fact 23 (f := .glo "SignError") rfl)),
  (He.glo_ok X G (c.says.fact 24 (f := .glo "BadHeard") rfl)),
  (He.glo_ok X G (c.says.fact 25 (f := .glo "BadValue") rfl)),
  (He.glo_ok X G (c.says.fact 26 (f := .glo "Misfit") rfl)),
  (He.str_ok X G (c.says.fact 27 (f := .str "LETTERS" "abcdefghijklmnopqrstuvwxyz") rfl)),
  (He.str_ok X G (c.says.fact 28 (f := .str "VOWELS" "aeiou") rfl)),
  (He.glo_ok X G (c.says.fact 29 (f := .glo "WAYS") rfl)),
  (He.int_ok X G (c.says.fact 30 (f := .int "MOST_LETTERS" 12) rfl)),
  (He.free_ok X G (c.says.fact 31 (f := .free "ValueError") rfl)),
  (He.free_ok X G (c.says.fact 32 (f := .free "abs") rfl)),
  (He.free_ok X G (c.says.fact 33 (f := .free "all") rfl)),
  (He.free_ok X G (c.says.fact 34 (f := .free "enumerate") rfl)),
  (He.free_ok X G (c.says.fact 35 (f := .free "int") rfl)),
  (He.free_ok X G (c.says.fact 36 (f := .free "isinstance") rfl)),
  (He.free_ok X G (c.says.fact 37 (f := .free "len") rfl)),
  (He.free_ok X G (c.says.fact 38 (f := .free "list") rfl)),
  (He.free_ok X G (c.says.fact 39 (f := .free "range") rfl)),
  (He.free_ok X G (c.says.fact 40 (f := .free "str") rfl)),
  (He.free_ok X G (c.says.fact 41 (f := .free "tuple") rfl)),
  (c.says.fact 42 (f := .exc "SignError") rfl),
  (He.meth_ok (c.says.fact 43 (f := .meth "BadHeard" "__init__") rfl)),
  (He.meth_ok (c.says.fact 44 (f := .meth "BadValue" "__init__") rfl)),
  (He.meth_ok (c.says.fact 45 (f := .meth "Misfit" "__init__") rfl)),
  (He.ba (c.chk_)).1,
  (He.ba (c.chk_)).2⟩
end K57
set_option Elab.async false
set_option linter.all false
set_option maxRecDepth 100000
set_option maxHeartbeats 4000000
set_option autoImplicit false
namespace K57
open PySem PySem.Spec PyProof.Rows L2 He Evl
section
variable {P : Program} {w : World} {K : PySem.W.Frag} {mg : Str → Option Value} {base : Heap}
theorem cmulL {i j : Int} (h1 : -1000000000000000000 < i) (h2 : i < 1000000000000000000) : CMul i j := .inl ⟨by omega, by omega⟩
theorem mul_bd {a b A B : Int} (a0 : 0 ≤ a) (aA : a ≤ A) (b0 : 0 ≤ b) (bB : b ≤ B) : 0 ≤ a * b ∧ a * b ≤ A * B := ⟨Int.mul_nonneg a0 b0, Int.mul_le_mul aA bB b0 (Int.le_trans a0 aA)⟩
theorem b_l_pull (T : Tx K mg) : Binds K (fdOf K ("_law_pull", none)) ["_law_ear_here", "_law_many"] [] := T.f_l_pull.bindsN fun _ _ _ _ _ _ us hl => match us, hl with | [_, _], _ => rfl
theorem ok_l_pull (T : Tx K mg) : FnOk P w K mg base CX0 1 (ga K "_law_pull") (fdOf K ("_law_pull", none)) ["_law_ear_here", "_law_many"] (spDraw K) := by
  refine T.f_l_pull.ok sc_l_pull (fun vs H Q E h => ?_) (fun cdv A outer s H vs Q E hr h => ?_)
  · obtain ⟨p, c, m, n, rfl, _⟩ := h
    rfl
  · have hu := hu_of hr
    refine ⟨_, PSs.nox (pss_cons (ps_if (pt_cmpR op_gt (pe_ix ix_list (pv 0) pe_int (fun _ _ => rfl)) pe_int (nomark _))
        (pss_cons (ps_set (i := 2) sc_l_pull.nd rfl (.inl rfl) (pe_callTy call_int1 (by rfl) T.n_int boot_int (pa_cons (pe_ix ix_list (pv 0) pe_int (fun _ _ => rfl)) pa_nil)))
        (pss_cons (ps_asg (pe_op op_fdiv (pv 2) (pv 1)) (pg_sub (pv 0) pe_int set_list))
        (pss_one (ps_ret (pe_op op_mod (pe_callTy call_int1 (by rfl) T.n_int boot_int (pa_cons (pv 2) pa_nil)) (pv 1))))))
        pss_nil)
      (pss_cons (ps_set (i := 3) sc_l_pull.nd rfl (.inl rfl) (pe_ix ix_list (pv 0) pe_int (fun _ _ => rfl)))
      (pss_cons (ps_asg (pe_op op_add (pv 3) pe_int) (pg_sub (pv 0) pe_int set_list))
      (pss_cons (ps_set (i := 4) sc_l_pull.nd rfl (.inl rfl) (pe_op op_add (pe_op op_mul pe_int (pv 3)) pe_int))
      (pss_cut (ps_if (pt_cmpR (op_neL hr.units0) (pe_ix ix_list (pv 0) pe_int (fun _ _ => rfl)) (pe_lst pa_nil) (nomark _))
        (pss_one (ps_set (i := 4) sc_l_pull.nd rfl (.inl rfl) (pe_ix ix_list (pe_ix ix_list (pv 0) pe_int (fun _ _ => rfl)) (pe_op op_mod (pe_callTy call_int1 (by rfl) T.n_int boot_int (pa_cons (pv 3) pa_nil)) (pe_callB call_len (by rfl) T.n_len boot_len (pa_cons (pe_ix ix_list (pv 0) pe_int (fun _ _ => rfl)) pa_nil))) (fun _ _ => rfl))))
        pss_nil)
      (pss_cut (ps_if (PW.pt (pw_and (pt_cmpR op_lt (pv 3) (pe_callB call_len (by rfl) T.n_len boot_len (pa_cons (pe_ix ix_list (pv 0) pe_int (fun _ _ => rfl)) pa_nil)) (nomark _)) (pw_and1 (pt_cmpR op_ge (pe_callB call_abs (by rfl) T.n_abs boot_abs (pa_cons (pv 4) pa_nil)) (pe_op op_pow pe_int pe_int) (nomark _)))))
        (pss_cons (ps_set (i := 2) sc_l_pull.nd rfl (.inl rfl) (pe_op op_add (pe_op op_mul pe_int (pe_op op_sub (pe_callB call_abs (by rfl) T.n_abs boot_abs (pa_cons (pe_callTy call_int1 (by rfl) T.n_int boot_int (pa_cons (pv 4) pa_nil)) pa_nil)) (pe_op op_pow pe_int pe_int))) (pe_callTy call_int1 (by rfl) T.n_int boot_int (pa_cons (pe_cmpR op_lt (pv 4) pe_int (nomark _)) pa_nil))))
        (pss_cons (ps_asg (pe_op op_fdiv (pv 2) (pv 1)) (pg_sub (pv 0) pe_int set_list))
        (pss_one (ps_ret (pe_op op_mod (pe_callTy call_int1 (by rfl) T.n_int boot_int (pa_cons (pv 2) pa_nil)) (pv 1))))))
        pss_nil)
      (pss_cons (ps_set (i := 5) sc_l_pull.nd rfl (.inl rfl) (pe_op op_mod (pe_callTy call_int1 (by rfl) T.n_int boot_int (pa_cons (pe_op op_pow (pe_op op_add (pe_op op_add (pe_op op_mod (pe_callTy call_int1 (by rfl) T.n_int boot_int (pa_cons (pv 4) pa_nil)) pe_int) (pe_op op_mul pe_int (pv 3))) pe_int) pe_int) pa_nil)) pe_int))
      (pss_cons (ps_set (i := 5) sc_l_pull.nd rfl (.inl rfl) (pe_op op_mod (pe_callTy call_int1 (by rfl) T.n_int boot_int (pa_cons (pe_op op_pow (pe_op op_add (pe_op op_add (pe_op op_mul (pv 5) (pe_op op_add (pe_op op_mul pe_int (pv 3)) pe_int)) (pe_op op_mul (pe_op op_mul pe_int (pv 3)) (pv 3))) pe_int) pe_int) pa_nil)) pe_int))
      (pss_one (ps_ret (pe_op op_mod (pe_callTy call_int1 (by rfl) T.n_int boot_int (pa_cons (pe_op op_fdiv (pv 5) pe_int) pa_nil)) (pv 1)))))))))))), ?_⟩
    -- slots: [(0, '_law_ear_here'), (1, '_law_many'), (2, '_law_left'), (3, '_law_at'), (4, '_law_cell'), (5, '_law_mixed')]
    obtain ⟨p, c, m, n, rfl, m0, m1, hP, hn, k⟩ := h
    obtain ⟨t, r, ns, hp, hc, hcp, t0, tn, r0, hz⟩ := hP
    have i0 : ∀ {a b d : V}, atI [a, b, d] 0 = some a := fun {a b d} => rfl
    have i1 : ∀ {a b d : V}, atI [a, b, d] 1 = some b := fun {a b d} => rfl
    have i2 : ∀ {a b d : V}, atI [a, b, d] 2 = some d := fun {a b d} => rfl
    refine ⟨_, rfl, p, _, _, _, rfl, rfl, SqL.of hp, i2, r, 0, rfl, rfl, _, rfl, ?_⟩
    refine ite2 (fun h0 => ?_) (fun h0 => ?_)
    · have h0' : (0 : Int) < r := of_decide_eq_true h0
      refine ⟨_, rfl, p, _, _, _, rfl, rfl, SqL.of hp, i2, .inl ⟨_, rfl, ?_⟩⟩
      refine ⟨_, rfl, _, rfl, _, _, rfl, rfl, ⟨m0, m1⟩, _, rfl, p, _, _, 2, rfl, rfl, hp, rfl, ?_⟩
      refine ⟨_, rfl, .inl ⟨_, rfl, _, rfl, _, _, rfl, rfl, m0, ?_⟩⟩
      refine k _ _ (Int.emod_nonneg r (by omega)) (Int.emod_lt_of_pos r m0) (Off.upd (Off.refl p H)) ⟨t, r / m, ns, upd_same, ?_, hcp, t0, by omega, Int.ediv_nonneg r0 (by omega), hz⟩
      exact (Off.upd (Off.refl p H)) _ _ hc hcp
    · have hr0 : r = 0 := by
        have : ¬ (0 : Int) < r := fun z => h0 (decide_eq_true z)
        omega
      refine ⟨_, rfl, p, _, _, _, rfl, rfl, SqL.of hp, i1, ?_⟩
      refine ⟨_, rfl, _, _, rfl, rfl, _, rfl, p, _, _, 1, rfl, rfl, hp, rfl, ?_⟩
      refine ⟨_, rfl, _, _, rfl, rfl, .inl ⟨by decide, by decide⟩, _, _, rfl, rfl, ?_⟩
      have o1 : Off p H (upd H p (.lst [V.ref c, V.int (t + 1), V.int r])) := Off.upd (Off.refl p H)
      have hp1 : upd H p (.lst [V.ref c, V.int (t + 1), V.int r]) p = some (.lst [V.ref c, V.int (t + 1), V.int r]) := upd_same
      have hc1 : (upd H p (.lst [V.ref c, V.int (t + 1), V.int r])) c = some (.lst (ns.map V.int)) := o1 _ _ hc hcp
      generalize hH1 : upd H p (.lst [V.ref c, V.int (t + 1), V.int r]) = H1 at o1 hp1 hc1
      have hH1' : upd H p (HO.lst ([V.ref c, V.int t, V.int r].set 1 ((fun i j => V.int (i + j)) t 1))) = H1 := hH1
      rw [hH1']
      refine ⟨fun σ H2 => Ex H1 H2 ∧ ∃ cell : Int, σ = [some (.ref p), some (.int m), none, some (.int t), some (.int cell), none], ?_, ?_⟩
      · refine ⟨_, rfl, p, _, _, _, rfl, rfl, SqL.of hp1, i0, ?_⟩
        refine ⟨by decide, fun l hl => ?_⟩
        have e1 : Ex H1 (upd H1 l (.lst [])) := Ex.new hl
        refine ⟨c, l, ns.map V.int, [], ns.isEmpty, rfl, rfl, SqL.of (e1 _ _ hc1), SqL.of upd_same, ?_, _, rfl, ?_⟩
        · cases ns with
          | nil => exact .inr ⟨[], .nil, rfl⟩
          | cons a b => exact .inl ⟨by simp, rfl⟩
        · refine ite2 (fun h1 => ?_) (fun h1 => ?_)
          · have hne : ns ≠ [] := by
              intro z
              rw [z] at h1
              exact absurd h1 (by decide)
            have hlen : 0 < ns.length := List.length_pos_iff.mpr hne
            have hlt : (t % (ns.length : Int)).toNat < ns.length := by
              have z1 := Int.emod_nonneg t (b := (ns.length : Int)) (by omega)
              have z2 := Int.emod_lt_of_pos t (b := (ns.length : Int)) (by omega)
              omega
            refine ⟨_, rfl, p, _, _, _, rfl, rfl, SqL.of (e1 _ _ hp1), i0, ?_⟩
            refine ⟨_, rfl, .inl ⟨_, rfl, ?_⟩⟩
            refine ⟨_, rfl, p, _, _, _, rfl, rfl, SqL.of (e1 _ _ hp1), i0, ?_⟩
            refine ⟨_, (ns.map V.int).length, rfl, .inl ⟨_, SqL.of (e1 _ _ hc1), rfl⟩, ?_⟩
            refine ⟨_, _, rfl, rfl, by rw [List.length_map]; omega, ?_⟩
            obtain ⟨j, hj, hjl⟩ : ∃ j : Nat, t % (ns.length : Int) = (j : Int) ∧ j < ns.length := ⟨(t % (ns.length : Int)).toNat, (Int.toNat_of_nonneg (Int.emod_nonneg t (by omega))).symm, hlt⟩
            refine ⟨c, _, _, .int ns[j], rfl, rfl, SqL.of (e1 _ _ hc1), ?_, e1, _, rfl⟩
            rw [List.length_map]
            refine at_of hj ?_
            rw [List.getElem?_map, List.getElem?_eq_getElem hjl]
            rfl
          · exact ⟨e1, _, rfl⟩
      · rintro σ' H2 ⟨e2, cell, rfl⟩
        have hp2 := e2 _ _ hp1
        have hc2 := e2 _ _ hc1
        have o2 : Off p H H2 := o1.trans (Off.of e2)
        refine ⟨fun σ' H' => σ' = [some (V.ref p), some (.int m), none, some (.int t), some (.int cell), none] ∧ H' = H2, ?_, ?_⟩
        · refine ⟨_, rfl, _, rfl, p, _, _, _, rfl, rfl, SqL.of hp2, i0, _, (ns.map V.int).length, rfl, .inl ⟨_, SqL.of hc2, rfl⟩, _, _, rfl, rfl, _, rfl, ?_⟩
          refine ite2 (fun h1 => ?_) (fun h1 => ?_)
          · refine ⟨_, rfl, cell, rfl, 10, 18, rfl, rfl, ⟨by decide, by decide, by decide⟩, _, _, rfl, rfl, _, rfl, ?_⟩
            refine ite2 (fun h2 => ?_) (fun h2 => ?_)
            · refine ⟨_, rfl, .inl ⟨_, rfl, cell, rfl, 10, 18, rfl, rfl, ⟨by decide, by decide, by decide⟩, _, _, rfl, rfl, 2, _, rfl, rfl, .inl ⟨by decide, by decide⟩, _, rfl, _, _, rfl, rfl, .inr ⟨_, rfl, _, _, rfl, rfl, ?_⟩⟩⟩
              have hg : (0 : Int) ≤ 2 * ((if cell < 0 then -cell else cell) - 10 ^ (18 : Int).toNat) + (if decide (cell < 0) = true then 1 else 0) := by
                have h3 : (10 : Int) ^ (18 : Int).toNat ≤ (if cell < 0 then -cell else cell) := of_decide_eq_true h2
                have h4 : (0 : Int) ≤ (if decide (cell < 0) = true then 1 else 0) := by
                  split <;> decide
                omega
              refine ⟨_, rfl, _, rfl, _, _, rfl, rfl, ⟨m0, m1⟩, _, rfl, p, _, _, 2, rfl, rfl, hp2, rfl, ?_⟩
              refine ⟨_, rfl, .inl ⟨_, rfl, _, rfl, _, _, rfl, rfl, m0, ?_⟩⟩
              refine k _ _ (Int.emod_nonneg _ (by omega)) (Int.emod_lt_of_pos _ m0) (Off.upd o2) ⟨t + 1, _, ns, upd_same, ?_, hcp, by omega, by omega, Int.ediv_nonneg hg (by omega), hz⟩
              exact (Off.upd (Off.refl p H2)) _ _ hc2 hcp
            · exact ⟨rfl, rfl⟩
          · exact iteF ⟨rfl, rfl⟩
        · rintro σ' H' ⟨rfl, rfl⟩
          have c1 := Int.emod_nonneg cell (b := 2147483549) (by decide)
          have c2 := Int.emod_lt_of_pos cell (b := 2147483549) (by decide)
          refine ⟨_, rfl, .inl ⟨_, rfl, _, _, rfl, rfl, (show (0 : Int) < 2147483549 by decide), _, rfl, _, _, rfl, rfl, .inl ⟨by decide, by decide⟩, _, _, rfl, rfl, _, _, rfl, rfl, _, _, rfl, rfl, ⟨by decide, by decide, ?_⟩, .inl ⟨_, rfl, _, _, rfl, rfl, (show (0 : Int) < 2147483579 by decide), ?_⟩⟩⟩
          · show (cell % 2147483549 + 69001 * t + 2311).natAbs < 2 ^ 64
            omega
          have d1 := Int.emod_nonneg ((cell % 2147483549 + 69001 * t + 2311) ^ (5 : Int).toNat) (b := 2147483579) (by decide)
          have d2 := Int.emod_lt_of_pos ((cell % 2147483549 + 69001 * t + 2311) ^ (5 : Int).toNat) (b := 2147483579) (by decide)
          generalize hm1 : (cell % 2147483549 + 69001 * t + 2311) ^ (5 : Int).toNat % 2147483579 = mx at d1 d2
          refine ⟨_, rfl, _, rfl, 2, t, rfl, rfl, .inl ⟨by decide, by decide⟩, _, _, rfl, rfl, mx, 2 * t + 1993, ?_, rfl, cmulL (by omega) (by omega), _, rfl, 71809, t, rfl, rfl, .inl ⟨by decide, by decide⟩, _, rfl, 71809 * t, t, rfl, rfl, cmulL (by omega) (by omega), _, _, rfl, rfl, _, _, rfl, rfl, _, _, rfl, rfl, ⟨by decide, by decide, ?_⟩, .inl ⟨_, rfl, _, _, rfl, rfl, (show (0 : Int) < 2147483587 by decide), ?_⟩⟩
          · exact congrArg V.int hm1
          · show (mx * (2 * t + 1993) + 71809 * t * t + 70001).natAbs < 2 ^ 64
            have b1 := mul_bd (a := mx) (b := 2 * t + 1993) (A := 2147483579) (B := 1200000) d1 (by omega) (by omega) (by omega)
            have b2 := mul_bd (a := 71809 * t) (b := t) (A := 100000 * 71809) (B := 100000) (by omega) (by omega) (by omega) (by omega)
            omega
          have f1 := Int.emod_nonneg ((mx * (2 * t + 1993) + 71809 * t * t + 70001) ^ (3 : Int).toNat) (b := 2147483587) (by decide)
          have f2 := Int.emod_lt_of_pos ((mx * (2 * t + 1993) + 71809 * t * t + 70001) ^ (3 : Int).toNat) (b := 2147483587) (by decide)
          generalize hm2 : (mx * (2 * t + 1993) + 71809 * t * t + 70001) ^ (3 : Int).toNat % 2147483587 = my at f1 f2
          refine ⟨_, rfl, my, 64, ?_, rfl, ⟨by decide, by decide⟩, .inl ⟨_, rfl, _, rfl, _, _, rfl, rfl, m0, ?_⟩⟩
          · exact congrArg V.int hm2
          refine k _ _ (Int.emod_nonneg (my / 64) (by omega)) (Int.emod_lt_of_pos (my / 64) m0) o2 ⟨t + 1, r, ns, hp2, hc2, hcp, by omega, by omega, by omega, hz⟩
end
end K57
set_option Elab.async false
set_option linter.all false
set_option maxRecDepth 100000
set_option maxHeartbeats 4000000
set_option autoImplicit false
namespace PySem
open Sem (wp)
open AutoSeq1 (wpAny_loadPart')
theorem meets_enumerate_newT {v : Value} {o : Obj} {H : Heap → Prop} (B : Begins v o H) :
    Meets (Builtin.«enumerate.__new__» ⟨[.type "enumerate", v], []⟩) (fun _ R s => H s.heap ∧
      R (.ok (.ret (.ref (s.heap.push o).objs.size))) { s with heap := (s.heap.push o).push { cls := .type "enumerate", data := .fields #[.none, .bool false, .ref s.heap.objs.size, rawInt 0, .none, .none] } }) :=
  .of_wp fun prog w A R s h => by
    obtain ⟨hp, g, d, tk, os⟩ := s; obtain ⟨h1, h⟩ := h
    have hsub := sub_enumerate
    have q1 : ∀ {A' : Around} {E : Value → Shared → Prop} {Q : Value → Shared → Prop}, Q (.ref hp.objs.size) ⟨hp.push o, g, d, tk, os⟩ → wpAny (model prog w) A' (pyIter v) Q E ⟨hp, g, d, tk, os⟩ :=
      fun q => B.iter prog w _ _ ⟨hp, g, d, tk, os⟩ _ h1 q
    wp_walk using q1
    refine wpAny_stack_any fun st => wpAny_pure ?_
    split
    · rename_i c _ _ _ _ _
      cases (c == Value.type "enumerate")
      · wp_walk using q1
        exact ⟨_, rfl, h⟩
      · wp_walk using q1
        exact ⟨_, rfl, h⟩
    · wp_walk using q1
      exact ⟨_, rfl, h⟩
section
variable {prog : Program} {w : World} {A : Around} {E : Value → Shared → Prop} {s : Shared}
theorem enum_begins1 {v : Value} {o : Obj} {H : Heap → Prop} {Q : Value → Shared → Prop} (B : Begins v o H) (h1 : H s.heap)
    (h : ∀ h', IsEnum h' (s.heap.objs.size + 1) s.heap.objs.size 0 .none → h'.get? s.heap.objs.size = some o → h'.objs.size = s.heap.objs.size + 2 →
      (∀ b o, s.heap.get? b = some o → h'.get? b = some o) → Q (.ref (s.heap.objs.size + 1)) { s with heap := h' }) :
    wpAny (model prog w) A (call (.type "enumerate") [v]) Q E s := by
  refine callType_new F.called_enumerate (by decide) (F.typeCall_enumerate_1 _) (F.newCall_enumerate_1 _) (fun obj => F.args_object_init_2 obj _) F.entry_enumerate_new
    (meets_enumerate_newT B) ⟨h1, ?_⟩
  have hz : (s.heap.push o).objs.size = s.heap.objs.size + 1 := Heap.size_push ..
  show _ ∧ _
  rw [hz]
  have he : IsEnum ((s.heap.push o).push { cls := .type "enumerate", data := .fields #[.none, .bool false, .ref s.heap.objs.size, rawInt 0, .none, .none] }) (s.heap.objs.size + 1) s.heap.objs.size 0 .none := by
    have := Heap.get?_push_size (s.heap.push o) (o := { cls := .type "enumerate", data := .fields #[.none, .bool false, .ref s.heap.objs.size, rawInt 0, .none, .none] }) rfl
    rw [hz] at this; exact this
  refine ⟨⟨_, he, rfl⟩, h _ he (Heap.get?_push_of_some _ (Heap.get?_push_size _ B.free)) (by rw [Heap.size_push, hz]) fun b o x => Heap.get?_push_of_some _ (Heap.get?_push_of_some _ x)⟩
end
end PySem
namespace L2
open PySem PySem.Spec PyProof.Rows
/-- the tuple at a, the items in new pairs -/
def IteT (K : PySem.W.Frag) (a : Addr) : It :=
  ⟨fun i H => ∃ (xs : List V) (x : V), SqT K H a xs ∧ xs[i]? = some x, fun i H v H' => ∃ T x, v = .ref T ∧ H T = none ∧ H' = upd H T (.tup [.int (i : Nat), x]) ∧ ∀ xs, SqT K H a xs → xs[i]? = some x, fun i H => ∃ xs : List V, SqT K H a xs ∧ xs.length ≤ i⟩
theorem turn_enumT {P : Program} {w : World} {K : PySem.W.Frag} {elts : List Expr} {kk : Nat} {tpos : Pos} (a e it : Addr) (hai : a ≠ it) :
    Turn P w K (.Tuple elts kk tpos) (IteT K a) [e, it] e (fun i h => (∃ old, IsEnum h e it ((i : Nat) : Int) old) ∧ h.IsTupleIter it a i ∧ e ≠ it ∧ e ≠ a) where
  mem := by simp
  obj := fun i h st b hb => by
    obtain ⟨⟨old, he⟩, ⟨o, ho, hc, hd⟩, _⟩ := st
    have e' : b = e ∨ b = it := by simpa using hb
    rcases e' with z | z
    · rw [z]; exact ⟨_, he, fun v q => nomatch q⟩
    · rw [z]; exact ⟨o, ho, fun v q => by rw [hd] at q; cases q⟩
  keep := fun i h h' st k => let ⟨⟨old, he⟩, hi, hne⟩ := st; ⟨⟨old, k e (by simp) _ he⟩, hi.at fun o q => k it (by simp) o q, hne⟩
  item := by
    intro X hP hw hK hc i pins s σ H E I hf st hg
    subst hP hw hK
    obtain ⟨⟨old, he⟩, hit, hne, hea⟩ := st
    obtain ⟨xs, x, hq, hx⟩ := hg
    obtain ⟨its, rv, p, hz⟩ := I.tuple hq
    obtain ⟨u, hu, ru⟩ := rv.get hx
    have hel : e < s.heap.objs.size := Heap.lt_size he
    have hil : it < s.heap.objs.size := by obtain ⟨_, q, _⟩ := hit; exact Heap.lt_size q
    have hts : s.heap.IsTuple a its.toArray := p
    have hu' : its.toArray[i]? = some u := by simpa using hu
    have hlt : i < its.toArray.size := by
      rcases Nat.lt_or_ge i its.toArray.size with z | z
      · exact z
      · rw [Array.getElem?_eq_none z] at hu'; cases hu'
    refine wpAny_pyNext_enum_itemD (Draws.tuple (A := X.A.in1) (I.ok.hd hc) it a hai its.toArray) he ⟨hit, hts⟩ hlt hne (by simp [hne, hea]) fun v h' tk hv ho hst hT hsz hk => ?_
    obtain rfl : v = u := by rw [hu'] at hv; exact (Option.some.inj hv).symm
    obtain ⟨hit', _⟩ := hst
    refine ⟨_, rfl, wpAny_letOwnedTupleGo_enum (s := { s with heap := h', toks := tk + 1 }) ho fun h'' he' sb => ?_⟩
    have hT2 : h''.get? s.heap.objs.size = some { cls := .type "tuple", data := .seq #[.int i tk, v] } := (sb.2 _ (Nat.ne_of_gt hel)).trans hT
    have new : ObjOk X.prog X.w (upd H s.heap.objs.size (.tup [.int (i : Nat), x])) h'' s.heap.objs.size (.tup [.int (i : Nat), x]) :=
      ⟨by show 2 ≤ sizeLine; decide, [.int i tk, v], .cons ⟨_, rfl⟩ (.cons ru .nil), ⟨_, hT2, rfl, _, rfl⟩⟩
    have I1 : Inv X pins σ (upd H s.heap.objs.size (.tup [.int (i : Nat), x])) { s with heap := h'', toks := tk + 1 } :=
      I.turnedNew (ch := [e, it]) (fun b ob hb q => (sb.2 b (fun z => hb (by simp [z]))).trans (hk b ob (fun z => hb (by simp [z])) (fun z => hb (by simp [z])) q)) hf (Nat.le_refl _) new
    refine ⟨.ref s.heap.objs.size, _, I1, rfl, ⟨_, x, rfl, I.hok.fresh (Nat.le_refl _), rfl, fun ys hy => by rw [I.tuple_inj hy hq]; exact hx⟩, ⟨⟨v, ?_⟩, hit'.at fun o q => (sb.2 it (Ne.symm hne)).trans q, hne, hea⟩, fun b hb => ?_⟩
    · have e1 : ((i + 1 : Nat) : Int) = (i : Int) + 1 := by omega
      rw [e1]; exact he'
    · have hb' : b < s.heap.objs.size := by
        have e' : b = e ∨ b = it := by simpa using hb
        rcases e' with z | z
        · rw [z]; exact hel
        · rw [z]; exact hil
      rw [upd_ne (Nat.ne_of_lt hb')]
      exact (hf b hb).1
  done := by
    intro X hP hw hK hc i pins s σ H E I hf st hg
    subst hP hw hK
    obtain ⟨⟨old, he⟩, hit, hne, hea⟩ := st
    obtain ⟨xs, hq, hx⟩ := hg
    obtain ⟨its, rv, p, hz⟩ := I.tuple hq
    obtain ⟨f0, f1, f2, f3, f4, f5⟩ := hf it (by simp)
    have hl := rv.length
    have hT : s.TypeIs (.ref e) "enumerate" := ⟨_, he, rfl⟩
    unfold pyNext
    refine wpAny_bind (wpAny_attempt (wpAny_callSpecial?_slot (name := Str.ofString "__next__") hT F.slot_enumerate_next
      (wpAny_call_entry F.slot_enumerate_next hT F.entry_enumerate_next ?_ (F.args_enumerate_next_1 _))))
    show wpAny _ _ (field (.ref e) 2 >>= _) _ _ _
    refine wpAny_bind (wpAny_field he rfl (x := .ref it) rfl ?_)
    refine wpAny_bind (wpAny_nextOf_tuple_end (A := X.A.in1) (I.ok.hd hc) hit (show s.heap.IsTuple a its.toArray from p) (by simp; omega) fun h' x he' hx' => ?_)
    obtain ⟨o, ho, hc'⟩ := hx'
    refine wpAny_bind (wpAny_isInstance (T := "StopIteration") (b := true) ⟨o, ho, hc'⟩ isSubtype_stop ?_)
    exact wpAny_pure ⟨rfl, I.turned (t' := s.toks) (fun b o hb q => he' b o hb q) f0 f1 f3 f4 f5⟩
  self := fun A i s Q E st h => let ⟨⟨_, he⟩, _⟩ := st; wpAny_pyIter_enum he h
def iEnumT (K : PySem.W.Frag) (ta : TA) : TI := fun σ H R => ta σ H fun vs H1 => ∃ a xs, vs = [.ref a] ∧ SqT K H1 a xs ∧ R (IteT K a) H1
theorem pi_enumT {X : Cx} {e : Expr} {ta : TA} {p pos tpos : Pos} {elts : List Expr} {kk : Nat} (hg : Gl X "enumerate") (hm : X.mg "enumerate" = none) (ha : PA X [e] ta) (hs : starEach [e] X.env = [(false, eval e X.env)] := by rfl) :
    PI X (.Tuple elts kk tpos) (.Call (.Name "enumerate" p) [e] [] pos) (iEnumT X.K ta) := by
  refine ⟨fun pins s σ H R I h => ?_⟩
  refine Call_ (ld_blt I hg hm boot_enumerate (PyProof.Rows.callWith_type1 (thn (ha.run pos pins s σ H _ I h) fun us s1 ⟨vs, H1, I1, r1, q1⟩ => ?_) hs rfl))
  obtain ⟨a, xs, ex, hq, q⟩ := q1
  subst ex
  cases r1 with
  | cons r rr =>
    cases rr
    cases r
    obtain ⟨its, rv, p', hz⟩ := I1.tuple hq
    have hal : a < s1.heap.objs.size := by obtain ⟨_, q, _⟩ := p'; exact Heap.lt_size q
    refine enum_begins1 (begins_tuple a its.toArray) p' fun h' he hit hsz hk => wpAny_pyIter_enum he ?_
    have I2 : Inv X pins σ H1 { s1 with heap := h' } := I1.kept (t' := s1.toks) hk
    refine ⟨s1.heap.objs.size + 1, [s1.heap.objs.size + 1, s1.heap.objs.size], _, _, H1, rfl, I2, turn_enumT a (s1.heap.objs.size + 1) s1.heap.objs.size (Nat.ne_of_lt hal), ⟨⟨.none, he⟩, ⟨_, hit, rfl, rfl⟩, Nat.succ_ne_self _, Nat.ne_of_gt (Nat.lt_succ_of_lt hal)⟩, fun b hb => ?_, q⟩
    have e' : b = s1.heap.objs.size + 1 ∨ b = s1.heap.objs.size := by simpa using hb
    have hle : s1.heap.objs.size ≤ b := by
      rcases e' with z | z
      · rw [z]; exact Nat.le_add_right _ _
      · rw [z]; exact Nat.le_refl _
    exact I1.fpOk hle (I1.hok.fresh hle)
end L2
set_option Elab.async false
set_option linter.all false
set_option maxRecDepth 100000
set_option maxHeartbeats 4000000
set_option autoImplicit false
/-! The program's own exceptions: their `__init__`s by spInitX, lists of them. -/
namespace He
open PySem PySem.Spec PyProof.Rows L2
def swap2 {α : Type} : List α → List α
  | [a, b] => [b, a]
  | l => l
theorem vals_swap2 {vs : List V} {us : List Value} (r : Vals vs us) : Vals (swap2 vs) (swap2 us) := by
  cases r with
  | nil => exact .nil
  | cons a r =>
    cases r with
    | nil => exact .cons a .nil
    | cons c r =>
      cases r with
      | nil => exact .cons c (.cons a .nil)
      | cons e f => exact .cons a (.cons c (.cons e f))
open PySem PySem.Spec PyProof.Rows L2 Evl
section
variable {K : PySem.W.Frag} {C : Addr} {f1 f2 : Str} {vs : List V} {H : Hp} {Q : VK} {E : XK}
theorem spInit_len {fs : List Str} (h : spInitX C fs vs H Q E) : vs.length = (("self" : Str) :: fs).length := by
  obtain ⟨a, ws, rfl, hl, _⟩ := h
  show ws.length + 1 = fs.length + 1
  rw [hl]
theorem init1 {N : List Str} (hN : N.length = 2) (T : XCl K C) (h1 : PySem.W.findIn K (.ref C) f1 = some none) (h : spInitX C [f1] vs H Q E) :
    tSeq (tOst K f1 (tVar 0) (tVar 1)) tNext { nx := fun _ H' => Q .non H', rt := Q } (start N vs) H := by
  obtain ⟨a, ws, rfl, hl, ha, k⟩ := h
  match N, hN, ws, hl with
  | [_, _], _, [w], _ =>
    refine ⟨w, rfl, .ref a, rfl, a, C, rfl, T.oex, h1, .inl ⟨ha, fun dx hd hne => k dx _ hd hne upd_same ?_ fun b o hb hne' => ?_⟩⟩
    · rw [upd_ne hne, upd_same]
      rfl
    · rw [upd_ne hne', upd_ne (ne_of_none hb hd)]
      exact hb
theorem init1o {N : List Str} (hN : N.length = 2) (T : XCl K C) (h1 : PySem.W.findIn K (.ref C) f1 = some none) (h : spInitX C [f1] vs H Q E) :
    tOst K f1 (tVar 0) (tVar 1) { nx := fun _ H' => Q .non H', rt := Q } (start N vs) H := init1 hN T h1 h
theorem init2 {N : List Str} (hN : N.length = 3) (T : XCl K C) (h1 : PySem.W.findIn K (.ref C) f1 = some none) (h2 : PySem.W.findIn K (.ref C) f2 = some none) (h : spInitX C [f1, f2] vs H Q E) :
    tSeq (tOst K f1 (tVar 0) (tVar 1)) (tOst K f2 (tVar 0) (tVar 2)) { nx := fun _ H' => Q .non H', rt := Q } (start N vs) H := by
  obtain ⟨a, ws, rfl, hl, ha, k⟩ := h
  match N, hN, ws, hl with
  | [_, _, _], _, [w, w2], _ =>
    refine ⟨w, rfl, .ref a, rfl, a, C, rfl, T.oex, h1, .inl ⟨ha, fun dx hd hne => ?_⟩⟩
    have e1 : (upd (upd H dx (exd dx [(f1, w)])) a (exo a C (some dx))) dx = some (exd dx [(f1, w)]) := by
      rw [upd_ne hne]
      exact upd_same
    refine ⟨w2, rfl, .ref a, rfl, a, C, rfl, T.oex, h2, .inr ⟨dx, _, upd_same, e1, by show 1 ≤ 900; decide, ?_⟩⟩
    refine k dx _ hd hne ?_ upd_same fun b o hb hne' => ?_
    · rw [upd_ne (Ne.symm hne)]
      exact upd_same
    · rw [upd_ne (ne_of_none hb hd), upd_ne hne', upd_ne (ne_of_none hb hd)]
      exact hb
end
/-! ### what makes an exception -/
section
variable {K : PySem.W.Frag} {σ : L2.St} {H H' : Hp} {te : TE} {t : TA} {C : Addr} {fs : List Str} {vs : List V}
def EvX (te : TE) (σ : L2.St) (H : Hp) (C : Addr) (fs : List (Str × V)) : Prop := ∀ H1, Ex H H1 → ∀ Q : VK, (∀ a H2, Ex H1 H2 → XAt H2 a C fs → Q (.ref a) H2) → te σ H1 Q
theorem evx_mk (h : EvA t σ H vs) (hl : vs.length = fs.length) : EvX (tXmk C fs t) σ H C (fs.zip vs).reverse := fun H1 e Q q =>
  h H1 e _ fun H2 e2 => ⟨hl, fun a H3 _ e3 x => q a H3 (e2.trans e3) x⟩
/-- C(k = v, ..) -/
def tXmkK (C : Addr) (fs ks : List Str) (gV : List V → List V) (tk : TA) : TE := fun σ H Q => tk σ H fun zs H1 => zs.length = ks.length ∧ (gV zs).length = fs.length ∧ ∀ a H2, H1 a = none → Ex H1 H2 → XAt H2 a C (fs.zip (gV zs)).reverse → Q (.ref a) H2
theorem evx_mkK {ks : List Str} {gV : List V → List V} (h : EvA t σ H vs) (hk : vs.length = ks.length) (hl : (gV vs).length = fs.length) : EvX (tXmkK C fs ks gV t) σ H C (fs.zip (gV vs)).reverse := fun H1 e Q q =>
  h H1 e _ fun H2 e2 => ⟨hk, hl, fun a H3 _ e3 x => q a H3 (e2.trans e3) x⟩
/-- exceptions one behind another: each of its class with its fields -/
def XsAt (K : PySem.W.Frag) (H : Hp) (as : List Addr) (tbl : List (Str × List (Str × V))) : Prop := Paired (fun a e => XAt H a (ga K e.1) e.2) as tbl
theorem XsAt.ex {as : List Addr} {tbl : List (Str × List (Str × V))} (h : XsAt K H as tbl) (e : Ex H H') : XsAt K H' as tbl := by
  induction h with
  | nil => exact .nil
  | cons a b ih => exact .cons (a.ex e) ih
def EvXs (K : PySem.W.Frag) (ta : TA) (σ : L2.St) (H : Hp) (tbl : List (Str × List (Str × V))) : Prop := ∀ H1, Ex H H1 → ∀ Q : List V → Hp → Prop, (∀ as H2, Ex H1 H2 → XsAt K H2 as tbl → Q (as.map V.ref) H2) → ta σ H1 Q
theorem exs_nil : EvXs K tNil σ H [] := fun H1 _ _ q => q [] H1 (Ex.refl H1) .nil
theorem exs_cons {x : Str} {fs : List (Str × V)} {ta : TA} {tbl : List (Str × List (Str × V))} (h : EvX te σ H (ga K x) fs) (hr : EvXs K ta σ H tbl) : EvXs K (tCons te ta) σ H ((x, fs) :: tbl) := fun H1 e Q q =>
  h H1 e _ fun a H2 e2 x => hr H2 (e.trans e2) _ fun as H3 e3 xs => q (a :: as) H3 (e2.trans e3) (.cons (x.ex e3) xs)
/-- a new list of exceptions -/
def EvXl (K : PySem.W.Frag) (te : TE) (σ : L2.St) (H : Hp) (tbl : List (Str × List (Str × V))) : Prop := ∀ H1, Ex H H1 → ∀ Q : VK, (∀ p as H2, Ex H1 H2 → H2 p = some (.lst (as.map V.ref)) → XsAt K H2 as tbl → Q (.ref p) H2) → te σ H1 Q
theorem paired_append {α β : Type} {R : α → β → Prop} {xs xs' : List α} {ys ys' : List β} (h : Paired R xs ys) (h' : Paired R xs' ys') : Paired R (xs ++ xs') (ys ++ ys') := by
  induction h with
  | nil => exact h'
  | cons a b ih => exact .cons a ih
theorem exl_lst {ta : TA} {tbl : List (Str × List (Str × V))} (h : EvXs K ta σ H tbl) (hl : tbl.length ≤ 1000) : EvXl K (tLst ta) σ H tbl := fun H1 e Q q =>
  h H1 e _ fun as H2 e2 xs => ⟨sz_of (by rw [List.length_map, xs.length]; omega), fun p hp => q p as _ (e2.trans (Ex.new hp)) upd_same (xs.ex (Ex.new hp))⟩
/-- xs + [..], xs a list of exceptions in a slot -/
theorem exl_cat {i : Nat} {p : Addr} {as : List Addr} {ta : TA} {t1 t2 : List (Str × List (Str × V))} (hv : σ[i]? = some (some (.ref p))) (hp : H p = some (.lst (as.map V.ref))) (hx : XsAt K H as t1) (h : EvXs K ta σ H t2) (h1 : t1.length ≤ 1000) (h2 : t2.length ≤ 1000) :
    EvXl K (tOp rCat (tVar i) (tLst ta)) σ H (t1 ++ t2) := fun H1 e Q q =>
  ⟨_, hv, exl_lst h h2 H1 e _ fun b bs H2 e2 hb xs => ⟨p, b, _, _, rfl, rfl, e2 _ _ (e _ _ hp), hb, sz_of (by rw [List.length_map, List.length_map, xs.length, hx.length]; omega), fun r hr => by
    have e3 : Ex H2 (upd H2 r (.lst (as.map V.ref ++ bs.map V.ref))) := Ex.new hr
    refine q r (as ++ bs) _ (e2.trans e3) ?_ (paired_append (hx.ex ((e.trans e2).trans e3)) (xs.ex e3))
    rw [List.map_append]
    exact upd_same⟩⟩
variable {D : Ends} {tz : TS}
theorem q_asgX {i : Nat} {tbl : List (Str × List (Str × V))} (h : EvXl K te σ H tbl) (k : ∀ p as H1, Ex H H1 → H1 p = some (.lst (as.map V.ref)) → XsAt K H1 as tbl → tz D (σ.set i (some (.ref p))) H1) : tSeq (tAsg te (gName i)) tz D σ H :=
  h H (Ex.refl H) _ fun p as H1 e hp hx => k p as H1 e hp hx
end
end He
set_option Elab.async false
set_option linter.all false
set_option maxRecDepth 100000
set_option maxHeartbeats 4000000
set_option autoImplicit false
namespace Evl
open PySem PySem.Spec PyProof.Rows L2
section
variable {K : PySem.W.Frag} {σ : L2.St} {H H' : Hp} {ta tb te tx : TE} {t u : TT} {x y z v : V} {D : Ends} {tu tw tz : TS} {g : TG}
theorem s_retC {ta : TA} {P : List V → Hp → Prop} (h : ∀ H1, Ex H H1 → ∀ Q : List V → Hp → Prop, (∀ vs H2, Ex H1 H2 → P vs H2 → Q vs H2) → ta σ H1 Q)
    (k : ∀ vs H1, Ex H H1 → P vs H1 → vs.length ≤ 1000 ∧ ∀ p, H1 p = none → D.rt (.ref p) (upd H1 p (.lst vs))) : tRet (tLst ta) D σ H :=
  h H (Ex.refl H) _ fun vs H1 e hp => ⟨sz_of (by have := (k vs H1 e hp).1; omega), (k vs H1 e hp).2⟩
theorem cut_to {xs : List V} {n : Nat} : cutV xs none (some (n : Int)) = xs.take n := by
  unfold cutV
  rw [HT.sIx_nat]
  show (xs.drop 0).take (min n xs.length - 0) = _
  rw [List.drop_zero, Nat.sub_zero]
  rcases Nat.le_total n xs.length with h | h
  · rw [Nat.min_eq_left h]
  · rw [Nat.min_eq_right h, List.take_length, List.take_of_length_le h]
theorem cut_from {xs : List V} {n : Nat} : cutV xs (some (n : Int)) none = xs.drop n := by
  unfold cutV
  rw [HT.sIx_nat]
  show (xs.drop (min n xs.length)).take (xs.length - min n xs.length) = _
  rcases Nat.le_total n xs.length with h | h
  · rw [Nat.min_eq_left h, List.take_of_length_le (by rw [List.length_drop]; omega)]
  · rw [Nat.min_eq_right h, List.drop_length, List.drop_of_length_le h, List.take_nil]
end
end Evl
namespace He
open PySem PySem.Spec PyProof.Rows L2 Evl
section
variable {K : PySem.W.Frag} {σ : L2.St} {H H' : Hp} {te tb : TE}
theorem el_cat {i : Nat} {p : Addr} {xs ys : List V} (hv : σ[i]? = some (some (.ref p))) (hp : H p = some (.lst xs)) (h : EvL tb σ H ys) (hz : xs.length + ys.length ≤ 100000) : EvL (tOp rCat (tVar i) tb) σ H (xs ++ ys) := fun H1 e Q q =>
  ⟨_, hv, h H1 e _ fun b H2 hb e2 h2 => ⟨p, b, _, _, rfl, rfl, e2 _ _ (e _ _ hp), h2, sz_of hz, fun r hr => q r _ (fresh_back e2 hr) (e2.trans (Ex.new hr)) upd_same⟩⟩
/-- an object of an exception class that the program has -/
structure XOb (K : PySem.W.Frag) (xs : List (Str × List Str × List Str)) (H : Hp) (a : Addr) (x : Str) (bases fs : List Str) : Prop where
  mem : (x, bases, fs) ∈ xs
  cl : XCl K (ga K x)
  st : XSt H a (ga K x)
theorem XOb.ex {xs : List (Str × List Str × List Str)} {a : Addr} {x : Str} {bases fs : List Str} (h : XOb K xs H a x bases fs) (e : Ex H H') : XOb K xs H' a x bases fs := ⟨h.mem, h.cl, h.st.ex e⟩
variable {xs : List (Str × List Str × List Str)} {a : Addr} {x : Str} {bases fs : List Str}
theorem rc_isX (hX : excsB K xs = true) (hc : ∀ e ∈ xs, ∀ y ∈ e.2.1, y ∈ xs.map (·.1)) (h : XOb K xs H a x bases fs) {d : Str} {b2 f2 : List Str} (md : (d, b2, f2) ∈ xs) :
    RC (rIsX K) [.ref a, .ref (ga K d)] H (.bl (decide (d ∈ x :: bases))) := fun H1 e Q q =>
  ⟨a, ga K x, .ref (ga K d), .ref (ga K d), _, rfl, h.cl, h.st.ex e, .own _, kit_exc hX h.mem md (hc _ h.mem), q H1 (Ex.refl H1)⟩
theorem kit_anyX (hX : excsB K xs = true) (mx : (x, bases, fs) ∈ xs) : ∀ (ts : List String), (∀ t ∈ ts, PySem.W.kitMeta t = true) → PySem.W.kitAny K (.ref (ga K x)) (ts.map .type) = some (ts.any fun t => HandSPX.veTail.contains (.type t))
  | [], _ => rfl
  | t :: r, h => by
    have h1 := kit_excT hX mx (h t List.mem_cons_self)
    have h2 := kit_anyX hX mx r fun u hu => h u (List.mem_cons_of_mem _ hu)
    show PySem.W.kitAny K (.ref (ga K x)) (.type t :: r.map .type) = _
    unfold PySem.W.kitAny
    rw [h1, List.any_cons]
    cases HandSPX.veTail.contains (.type t) with
    | true => rfl
    | false => exact h2
theorem rc_isXT (hX : excsB K xs = true) (h : XOb K xs H a x bases fs) {t : String} (ht : PySem.W.kitMeta t = true) : RC (rIsX K) [.ref a, .ty t] H (.bl (HandSPX.veTail.contains (.type t))) := fun H1 e Q q =>
  ⟨a, ga K x, .ty t, .type t, _, rfl, h.cl, h.st.ex e, .ty t, kit_excT hX h.mem ht, q H1 (Ex.refl H1)⟩
theorem ev_isXs (hX : excsB K xs = true) (h : XOb K xs H a x bases fs) {tu : TE} (ts : List String) (ht : ∀ t ∈ ts, PySem.W.kitMeta t = true) (ha : Ev te σ H (.ref a)) (hu : EvU tu σ H (ts.map V.ty)) :
    Ev (tCB (rIsXT K) (tCons te (tCons tu tNil))) σ H (.bl (ts.any fun t => HandSPX.veTail.contains (.type t))) := fun H1 e Q q =>
  ha H1 e _ fun H2 e2 => hu H2 (e.trans e2) _ fun p H3 _ e3 hp =>
    ⟨a, ga K x, p, ts.map V.ty, ts.map .type, _, rfl, h.cl, h.st.ex ((e.trans e2).trans e3), hp, cls_all ts, kit_anyX hX h.mem ts ht, q H3 (e2.trans e3)⟩
theorem eqvs_bools : ∀ l : List Bool, Eqvs (l.map V.bl) (l.map V.bl) (l.map fun _ => true)
  | [] => .nil
  | b :: r => .cons (by have h := Eqv.bl b b; rw [beq_self_eq_true] at h; exact h) (eqvs_bools r)
theorem leq_bools (l : List Bool) : LEq (l.map V.bl) (l.map V.bl) true := .inr ⟨_, eqvs_bools l, by rw [List.all_map]; exact (List.all_eq_true.mpr fun _ _ => rfl).symm⟩
theorem given_true (n : Nat) (v : Nat → V) : given n (fun _ => true) v = (List.range n).map v := by
  unfold given
  rw [List.filter_eq_self.mpr fun _ _ => rfl]
theorem ev_chain {r r' : R2} {ta tc : TE} {x y z : V} {b c : Bool} (ha : Ev ta σ H x) (hb : Ev tb σ H y) (hr : RV r x y H (.bl b)) (hc : b = true → Ev tc σ H z) (hr' : b = true → RV r' y z H (.bl c)) : Ev (tChain r r' ta tb tc) σ H (.bl (b && c)) := fun H1 e Q q =>
  ha H1 e _ fun H2 e2 => hb H2 (e.trans e2) _ fun H3 e3 => hr H3 ((e.trans e2).trans e3) _ fun H4 e4 => ⟨b, rfl, by
    cases b with
    | true =>
      show tc σ H4 fun w' H5 => r' y w' H5 Q
      exact hc rfl H4 (((e.trans e2).trans e3).trans e4) _ fun H5 e5 => hr' rfl H5 ((((e.trans e2).trans e3).trans e4).trans e5) Q fun H6 e6 => q H6 ((((e2.trans e3).trans e4).trans e5).trans e6)
    | false =>
      show Q (.bl false) H4
      exact q H4 ((e2.trans e3).trans e4)⟩
end
end He
set_option Elab.async false
set_option linter.all false
set_option maxRecDepth 100000
set_option maxHeartbeats 4000000
set_option autoImplicit false
namespace K57
open PySem PySem.Spec PyProof.Rows L2 He Evl
def spPen (K : PySem.W.Frag) : Sp := fun vs H Q _ => ∃ (a : Addr) (ns : List Int), vs = [.ref a] ∧ SqL K H a (ns.map V.int) ∧ ns.length ≤ 63 ∧ ∀ p c H', Ex H H' → PenAt K 0 H' p c → Q (.ref p) H'
section
variable {P : Program} {w : World} {K : PySem.W.Frag} {mg : Str → Option Value} {base : Heap}
theorem b_l_ear (T : Tx K mg) : Binds K (fdOf K ("_law_ear", none)) ["_law_script"] [] := T.f_l_ear.bindsN fun _ _ _ _ _ _ us hl => match us, hl with | [_], _ => rfl
theorem b_l_one (T : Tx K mg) : Binds K (fdOf K ("_law_one", none)) ["_law_ear_here", "_law_some"] [] := T.f_l_one.bindsN fun _ _ _ _ _ _ us hl => match us, hl with | [_, _], _ => rfl
theorem ok_l_ear (T : Tx K mg) : FnOk P w K mg base CX0 1 (ga K "_law_ear") (fdOf K ("_law_ear", none)) ["_law_script"] (spPen K) := by
  refine T.f_l_ear.ok sc_l_ear (fun vs H Q E h => ?_) (fun cdv A outer s H vs Q E hr h => ?_)
  · obtain ⟨a, ns, rfl, _⟩ := h
    rfl
  · refine ⟨_, PSs.nox (pss_one (ps_ret (pe_lst (pa_cons (pe_lc (own := [("_law_cell", 1)]) (g := (gName 1)) (tt := tYes) rfl sc_l_ear.nd (pi_list (pe_slice sl_list (pv 0) po_none (po_some pe_int))) (blkOk_by (N := ["_law_script", "_law_cell"]) (sc := defScope s_l_ear) (by decide +kernel)) (fun _ _ _ _ _ => pg_name (i := 1) sc_l_ear.nd rfl (Or.inl rfl)) (fun _ _ _ _ _ => pts_nil) (fun _ _ _ _ _ => (pe_callTy call_int1 (by rfl) T.n_int boot_int (pa_cons (pv 1) pa_nil)))) (pa_cons pe_int (pa_cons pe_int pa_nil)))))), ?_⟩
    -- slots: [(0, '_law_script'), (1, '_law_cell')]
    obtain ⟨a, ns, rfl, hq, hl, k⟩ := h
    have hsl : cutV (ns.map V.int) none (some 60) = (ns.take 60).map V.int := by
      exact (cut_to (n := 60)).trans (List.map_take ..).symm
    have el : EvL (tSl (rSlL K) (tVar 0) tNoPart (tPart (tC (.int 60)))) (start ["_law_script", "_law_cell"] [.ref a]) H ((ns.take 60).map V.int) := by
      rw [← hsl]
      exact el_sl (ev_var rfl) eo_none (eo_some ev_c) hq
    have hg : given ((ns.take 60).map V.int).length (fun _ => true) (fun i => .int ((ns.take 60).getD i 0)) = (ns.take 60).map V.int := by
      refine given_all rfl fun i hi => ?_
      rw [List.length_map] at hi
      rw [List.getElem?_map, List.getElem?_eq_getElem hi, List.getD_eq_getElem?_getD, List.getElem?_eq_getElem hi]
      rfl
    have el2 := el_lcNL (K := K) (j := 1) (vs := [1]) (t := tYes) (te := tCB (fun xs H Q => (∃ i, xs = [.int i] ∧ Q (.int i) H) ∨ ∃ k, xs = [.bl k] ∧ Q (.int (if k then 1 else 0)) H) (tCons (tVar 1) tNil)) (fun _ => true) (fun i => .int ((ns.take 60).getD i 0)) el (by rw [List.length_map, List.length_take]; omega) (fun _ => rfl) (fun _ _ _ _ _ => et_yes) (fun i x H1 e hi _ => by
      rw [List.getElem?_map] at hi
      cases hz : (ns.take 60)[i]? with
      | none =>
        rw [hz] at hi
        cases hi
      | some z =>
        rw [hz] at hi
        obtain rfl : V.int z = x := Option.some.inj hi
        rw [List.getD_eq_getElem?_getD, hz]
        exact ev_cb (ea_cons (ev_var rfl) ea_nil) (fun H1 _ Q q => .inl ⟨z, rfl, q H1 (Ex.refl H1)⟩))
    rw [hg] at el2
    have l3 := ea_consL (P := fun vs H2 => ∃ c, vs = [V.ref c, .int 0, .int 0] ∧ Ex H H2 ∧ H2 c = some (.lst ((ns.take 60).map V.int))) el2 (tr := tCons (tC (.int 0)) (tCons (tC (.int 0)) tNil)) (fun c H1 h1 e1 Q q => q _ H1 (Ex.refl H1) ⟨c, rfl, e1, h1⟩)
    refine s_retC (P := fun vs H2 => ∃ c, vs = [V.ref c, .int 0, .int 0] ∧ Ex H H2 ∧ H2 c = some (.lst ((ns.take 60).map V.int))) (fun H1 e1 Q q => ?_) (fun vs H2 e2 hv => ?_)
    · exact l3 H1 e1 Q q
    · obtain ⟨c, rfl, e3, h3⟩ := hv
      refine ⟨by show 3 ≤ 1000; decide, fun p hp => k p c _ (e3.trans (Ex.new hp)) ⟨0, 0, ns.take 60, upd_same, Ex.new hp _ _ h3, ne_of_none h3 hp, by decide, by decide, by decide, ?_⟩⟩
      rw [List.length_take]
      omega
end
end K57
set_option Elab.async false
set_option linter.all false
set_option maxRecDepth 100000
set_option maxHeartbeats 4000000
set_option autoImplicit false
namespace He
open PySem PySem.Spec PyProof.Rows L2 Evl
section
variable {K : PySem.W.Frag} {σ : L2.St} {H H' : Hp} {te tb : TE} {D : Ends} {tu tz : TS}
/-- a new tuple of exceptions -/
def EvXu (K : PySem.W.Frag) (te : TE) (σ : L2.St) (H : Hp) (tbl : List (Str × List (Str × V))) : Prop := ∀ H1, Ex H H1 → ∀ Q : VK, (∀ p as H2, Ex H1 H2 → H2 p = some (.tup (as.map V.ref)) → XsAt K H2 as tbl → Q (.ref p) H2) → te σ H1 Q
theorem exu_tup {ta : TA} {tbl : List (Str × List (Str × V))} (h : EvXs K ta σ H tbl) (hl : tbl.length ≤ 1000) : EvXu K (tTup ta) σ H tbl := fun H1 e Q q =>
  h H1 e _ fun as H2 e2 xs => ⟨sz_of (by rw [List.length_map, xs.length]; omega), fun p hp => q p as _ (e2.trans (Ex.new hp)) upd_same (xs.ex (Ex.new hp))⟩
theorem XsAt.get {as : List Addr} {tbl : List (Str × List (Str × V))} (h : XsAt K H as tbl) : ∀ {i : Nat} {a : Addr}, as[i]? = some a → ∃ e, tbl[i]? = some e ∧ XAt H a (ga K e.1) e.2 := by
  induction h with
  | nil => exact fun h => nomatch h
  | cons x _ ih =>
    intro i a h
    cases i with
    | zero =>
      obtain rfl := Option.some.inj h
      exact ⟨_, rfl, x⟩
    | succ i => exact ih h
theorem XsAt.gets {as : List Addr} {tbl : List (Str × List (Str × V))} (h : XsAt K H as tbl) : ∀ {i : Nat} {e : Str × List (Str × V)}, tbl[i]? = some e → ∃ a, as[i]? = some a ∧ XAt H a (ga K e.1) e.2 := by
  induction h with
  | nil => exact fun h => nomatch h
  | cons x _ ih =>
    intro i e h
    cases i with
    | zero =>
      obtain rfl := Option.some.inj h
      exact ⟨_, rfl, x⟩
    | succ i => exact ih h
/-- for e in (C(..), ..) -/
theorem q_forX {j : Nat} {tbl : List (Str × List (Str × V))} (S : L2.St → Prop) (h : EvXu K te σ H tbl) (h0 : S σ)
    (hs : ∀ (i : Nat) (a : Addr) (e : Str × List (Str × V)) (σ' : L2.St) (H' : Hp), Ex H H' → tbl[i]? = some e → XAt H' a (ga K e.1) e.2 → S σ' → ∀ N : L2.St → Hp → Prop, (∀ σ2 H2, Ex H' H2 → S σ2 → N σ2 H2) →
      tu { D with nx := N, ct := N, bk := tz D } (σ'.set j (some (.ref a))) H') (hd : ∀ σ' H', Ex H H' → S σ' → tz D σ' H') : tSeq (tFor (iTup K te) (gName j) tu) tz D σ H :=
  h H (Ex.refl H) _ fun p as H1 e1 hp hx => ⟨p, rfl, ⟨_, SqT.of hp⟩, for_tup (xs := as.map V.ref) (fun _ σ' H' => Ex H1 H' ∧ S σ') ⟨Ex.refl H1, h0⟩ (fun i σ' H' _ q => SqT.of (q.1 _ _ hp)) (fun i x σ' H' hi q => by
    obtain ⟨e2, hS⟩ := q
    rw [List.getElem?_map] at hi
    cases hz : as[i]? with
    | none =>
      rw [hz] at hi
      cases hi
    | some a =>
      rw [hz] at hi
      obtain rfl : V.ref a = x := Option.some.inj hi
      obtain ⟨e, he, xa⟩ := hx.get hz
      exact hs i a e σ' H' (e1.trans e2) he (xa.ex e2) hS _ fun σ2 H2 e3 s2 => ⟨e2.trans e3, s2⟩) fun σ' H' q => hd σ' H' (e1.trans q.1) q.2⟩
theorem s_forX {j : Nat} {tbl : List (Str × List (Str × V))} (S : L2.St → Prop) (h : EvXu K te σ H tbl) (h0 : S σ)
    (hs : ∀ (i : Nat) (a : Addr) (e : Str × List (Str × V)) (σ' : L2.St) (H' : Hp), Ex H H' → tbl[i]? = some e → XAt H' a (ga K e.1) e.2 → S σ' → ∀ N : L2.St → Hp → Prop, (∀ σ2 H2, Ex H' H2 → S σ2 → N σ2 H2) →
      tu { D with nx := N, ct := N, bk := D.nx } (σ'.set j (some (.ref a))) H') (hd : ∀ σ' H', Ex H H' → S σ' → D.nx σ' H') : tFor (iTup K te) (gName j) tu D σ H :=
  q_forX (tz := tNext) S h h0 hs hd
theorem ev_xfl {a C : Addr} {fs : List (Str × V)} {f : Str} {v : V} (h : Ev te σ H (.ref a)) (T : XCl K C) (hno : PySem.W.findIn K (.ref C) f = some none) (hx : XAt H a C fs) (hl : fs.lookup f = some v) : Ev (tXfl K f te) σ H v := fun H1 e Q q =>
  h H1 e _ fun H2 e2 => ⟨a, C, fs, v, rfl, T, hno, hx.ex (e.trans e2), hl, q H2 e2⟩
/-- [..] != [..] -/
theorem ev_neLL {xs ys : List V} {r : Bool} {ta tb : TE} (ha : EvL ta σ H xs) (hb : EvL tb σ H ys) (he : LEq xs ys r) : Ev (tOp (rNeL K) ta tb) σ H (.bl (!r)) :=
  ev_opLL ha hb fun p q H1 hp hq _ H2 e2 Q k => ⟨p, q, xs, ys, r, rfl, rfl, SqL.of (e2 _ _ hp), SqL.of (e2 _ _ hq), he, k H2 (Ex.refl H2)⟩
theorem ev_eqLL {xs ys : List V} {r : Bool} {ta tb : TE} (ha : EvL ta σ H xs) (hb : EvL tb σ H ys) (he : LEq xs ys r) : Ev (tOp (rEqL K) ta tb) σ H (.bl r) :=
  ev_opLL ha hb fun p q H1 hp hq _ H2 e2 Q k => ⟨p, q, xs, ys, r, rfl, rfl, SqL.of (e2 _ _ hp), SqL.of (e2 _ _ hq), he, k H2 (Ex.refl H2)⟩
end
end He
set_option Elab.async false
set_option linter.all false
set_option maxRecDepth 100000
set_option maxHeartbeats 4000000
set_option autoImplicit false
namespace L2
open PySem PySem.Spec PyProof.Rows Evl
mutual
theorem Dp.ex {K : PySem.W.Frag} {H H' : Hp} (e : Ex H H') : ∀ {v : V} {d : PyData}, Dp K H v d → Dp K H' v d
  | _, _, .non => .non
  | _, _, .bl b => .bl b
  | _, _, .int i => .int i
  | _, _, .str x => .str x
  | _, _, .lst h a => .lst (ex_l e h) (DpAll.ex e a)
  | _, _, .tup h a => .tup (ex_t e h) (DpAll.ex e a)
theorem DpAll.ex {K : PySem.W.Frag} {H H' : Hp} (e : Ex H H') : ∀ {vs : List V} {ds : List PyData}, DpAll K H vs ds → DpAll K H' vs ds
  | _, _, .nil => .nil
  | _, _, .cons h a => .cons (Dp.ex e h) (DpAll.ex e a)
end
theorem SelfV.ex {K : PySem.W.Frag} {H H' : Hp} {x : V} (h : SelfV K H x) (e : Ex H H') : SelfV K H' x := by
  rcases h with h | ⟨d, hd, sd⟩ | ⟨a, rfl, ha⟩
  · exact .inl h
  · exact .inr (.inl ⟨d, hd.ex e, sd⟩)
  · exact .inr (.inr ⟨a, rfl, e _ _ ha⟩)
end L2
namespace He
open PySem PySem.Spec PyProof.Rows L2 Evl
section
variable {K : PySem.W.Frag} {σ : L2.St} {H H' : Hp} {te tb ta : TE} {D : Ends} {tu tz : TS} {t : TT} {g : TG}
/-- evaluates to a value of which R holds from then on -/
def EvP (te : TE) (σ : L2.St) (H : Hp) (R : V → Hp → Prop) : Prop := ∀ H1, Ex H H1 → ∀ Q : VK, (∀ v H2, Ex H1 H2 → R v H2 → Q v H2) → te σ H1 Q
def Stab (R : V → Hp → Prop) : Prop := ∀ v H H', R v H → Ex H H' → R v H'
theorem evp_tup2 {t1 t2 : TE} {R1 R2 : V → Hp → Prop} (h1 : EvP t1 σ H R1) (h2 : EvP t2 σ H R2) (s1 : Stab R1) (s2 : Stab R2) : EvP (tTup (tCons t1 (tCons t2 tNil))) σ H (fun v H => ∃ p a b, v = .ref p ∧ H p = some (.tup [a, b]) ∧ R1 a H ∧ R2 b H) := fun H1 e Q q =>
  h1 H1 e _ fun a H2 e2 r1 => h2 H2 (e.trans e2) _ fun b H3 e3 r2 => ⟨by show 2 ≤ sizeLine; decide, fun p hp => q _ _ ((e2.trans e3).trans (Ex.new hp)) ⟨p, a, b, rfl, upd_same, s1 _ _ _ r1 (e3.trans (Ex.new hp)), s2 _ _ _ r2 (Ex.new hp)⟩⟩
/-- for .. in (a, b), R of both -/
theorem q_forP {R : V → Hp → Prop} (sR : Stab R) (S : L2.St → Prop) (h : EvP te σ H (fun v H => ∃ p a b, v = .ref p ∧ H p = some (.tup [a, b]) ∧ R a H ∧ R b H)) (h0 : S σ)
    (hs : ∀ (v : V) (σ' : L2.St) (H' : Hp), Ex H H' → R v H' → S σ' → ∀ N : L2.St → Hp → Prop, (∀ σ2 H2, Ex H' H2 → S σ2 → N σ2 H2) →
      g v σ' H' fun σ2 H2 => tu { D with nx := N, ct := N, bk := tz D } σ2 H2) (hd : ∀ σ' H', Ex H H' → S σ' → tz D σ' H') : tSeq (tFor (iTup K te) g tu) tz D σ H :=
  h H (Ex.refl H) _ fun v H1 e1 ⟨p, a, b, ev, hp, ra, rb⟩ => ⟨p, ev, ⟨_, SqT.of hp⟩, for_tup (xs := [a, b]) (fun _ σ' H' => Ex H1 H' ∧ S σ') ⟨Ex.refl H1, h0⟩ (fun i σ' H' _ q => SqT.of (q.1 _ _ hp)) (fun i x σ' H' hi q => by
    obtain ⟨e2, hS⟩ := q
    have hr : R x H' := by
      match i, hi with
      | 0, hi => exact Option.some.inj hi ▸ sR _ _ _ ra e2
      | 1, hi => exact Option.some.inj hi ▸ sR _ _ _ rb e2
    exact hs x σ' H' (e1.trans e2) hr hS _ fun σ2 H2 e3 s2 => ⟨e2.trans e3, s2⟩) fun σ' H' q => hd σ' H' (e1.trans q.1) q.2⟩
/-- for i, x in enumerate(xs), the heap grows alone -/
theorem s_enum {i j k n : Nat} {l : Addr} {xs : List V} (hn : n = 2) (hv : σ[k]? = some (some (.ref l))) (hl : SqL K H l xs) (S : L2.St → Prop) (h0 : S σ)
    (hs : ∀ (m : Nat) (v : V) (σ' : L2.St) (H' : Hp), Ex H H' → xs[m]? = some v → S σ' → ∀ N : L2.St → Hp → Prop, (∀ σ2 H2, Ex H' H2 → S σ2 → N σ2 H2) →
      tu { D with nx := N, ct := N, bk := D.nx } ((σ'.set i (some (.int (m : Nat)))).set j (some v)) H') (hd : ∀ σ' H', Ex H H' → S σ' → D.nx σ' H') :
    tFor (iEnum K (tCons (tVar k) tNil)) (gTup K n (gCons (gName i) (gCons (gName j) gNil))) tu D σ H := by
  subst hn
  refine ⟨_, hv, l, xs, rfl, hl, ?_⟩
  refine for_it (walk_enum (K := K) (xs := xs)) (fun _ σ' H' => Ex H H' ∧ S σ') ⟨Ex.refl H, h0⟩ (fun _ _ _ _ q => ex_l q.1 hl) ?_ fun σ' H' q => hd σ' H' q.1 q.2
  rintro m y σ' H' H'' hi ⟨e1, hS⟩ ⟨T, y1, y2, rfl, hT, rfl, hy1, hy2⟩
  obtain rfl : V.int (m : Nat) = y1 := Option.some.inj hy1
  refine ⟨T, _, rfl, SqT.of upd_same, rfl, _, _, rfl, _, _, rfl, rfl, ?_⟩
  exact hs m y2 σ' _ (e1.trans (Ex.new hT)) hy2 hS _ fun σ2 H2 e3 s2 => ⟨(e1.trans (Ex.new hT)).trans e3, s2⟩
theorem el_if {xs : List V} {b : Bool} (h : EvT t σ H b) (h1 : b = true → EvL ta σ H xs) (h2 : b = false → EvL tb σ H xs) : EvL (tIf t ta tb) σ H xs := fun H1 e Q q => h H1 e _ fun H2 e2 => by
  cases b with
  | true =>
    show ta σ H2 Q
    exact h1 rfl H2 (e.trans e2) Q fun p H3 hp e3 h3 => q p H3 (fresh_back e2 hp) (e2.trans e3) h3
  | false =>
    show tb σ H2 Q
    exact h2 rfl H2 (e.trans e2) Q fun p H3 hp e3 h3 => q p H3 (fresh_back e2 hp) (e2.trans e3) h3
theorem q_asgE {i : Nat} {C : Addr} {fs : List (Str × V)} (h : EvX te σ H C fs) (k : ∀ a H1, Ex H H1 → XAt H1 a C fs → tz D (σ.set i (some (.ref a))) H1) : tSeq (tAsg te (gName i)) tz D σ H :=
  h H (Ex.refl H) _ fun a H1 e hx => k a H1 e hx
theorem ev_xflX {C : Addr} {fs : List (Str × V)} {f : Str} {v : V} (h : EvX te σ H C fs) (T : XCl K C) (hno : PySem.W.findIn K (.ref C) f = some none) (hl : fs.lookup f = some v) : Ev (tXfl K f te) σ H v := fun H1 e Q q =>
  h H1 e _ fun a H2 e2 hx => ⟨a, C, fs, v, rfl, T, hno, hx, hl, q H2 e2⟩
theorem rv_neSelf {x : V} (h : SelfV K H x) : RV (rNeSelf K) x x H (.bl false) := fun H1 e Q q => ⟨rfl, h.ex e, q H1 (Ex.refl H1)⟩
/-- a list in a slot != [..] -/
theorem ev_neVL {xs ys : List V} {r : Bool} {p : Addr} (ha : Ev ta σ H (.ref p)) (hp : SqL K H p xs) (hb : EvL tb σ H ys) (he : LEq xs ys r) : Ev (tOp (rNeL K) ta tb) σ H (.bl (!r)) :=
  ev_opL ha hb fun q H1 hq e H2 e2 Q k => ⟨p, q, xs, ys, r, rfl, rfl, ex_l (e.trans e2) hp, SqL.of (e2 _ _ hq), he, k H2 (Ex.refl H2)⟩
theorem evx_p {C : Addr} {fs : List (Str × V)} (h : EvX te σ H C fs) : EvP te σ H (fun v H => ∃ a, v = .ref a ∧ XAt H a C fs) := fun H1 e Q q => h H1 e _ fun a H2 e2 hx => q _ H2 e2 ⟨a, rfl, hx⟩
end
end He
set_option Elab.async false
set_option linter.all false
set_option maxRecDepth 100000
set_option maxHeartbeats 4000000
set_option autoImplicit false
namespace He
open PySem PySem.Spec PyProof.Rows L2 Evl
section
variable {K : PySem.W.Frag} {σ : L2.St} {H H' : Hp} {te tb : TE} {ta : TA} {D : Ends} {tu tz : TS} {t : TT} {g : TG}
theorem Off.mut {p q : Addr} {H H' : Hp} (e : Off p H H') (h : H q = none) {o : HO} : Off p H (upd H' q o) := fun a u ha n => by
  rw [upd_ne (ne_of_none ha h)]
  exact e a u ha n
/-- [e for t in range(m)], m and the items drawn -/
theorem lc_pen {p c : Addr} {n0 L M : Nat} {j : Nat} {vs : List Nat} {R : V → Prop} {Q : VK} (hP : PenAt K n0 H p c) (hM : M ≤ 1000)
    (hta : ∀ Q' : List V → Hp → Prop, (∀ (m : Nat) H1, L ≤ m → m ≤ M → Off p H H1 → PenAt K (n0 + 1) H1 p c → Q' [.int (m : Nat)] H1) → ta σ H Q')
    (hw : ∀ x, wipe ((wipe σ vs).set j (some x)) vs = wipe σ vs)
    (hte : ∀ (i k : Nat) H1, i < M → k ≤ n0 + 1 + M → Off p H H1 → PenAt K k H1 p c → ∀ Q' : VK, (∀ x H2, R x → Off p H1 H2 → PenAt K (k + 1) H2 p c → Q' x H2) → te ((wipe σ vs).set j (some (.int (i : Nat)))) H1 Q')
    (hQ : ∀ (xs : List V) (l : Addr) H2, L ≤ xs.length → xs.length ≤ M → (∀ x ∈ xs, R x) → H2 l = some (.lst xs) → l ≠ p → H l = none → Off p H H2 → PenAt K (n0 + 1 + M) H2 p c → Q (.ref l) H2) :
    tLc (iRng1 ta) (gName j) tYes te vs σ H Q := by
  refine hta _ fun m H1 hL hm off1 pen1 => ⟨(m : Int), rfl, by omega, by omega, fun Dl hD => ?_⟩
  obtain ⟨op, hp1⟩ := pen1.there
  have hDp : p ≠ Dl := ne_of_none hp1 hD
  have hDl : H Dl = none := off1.back hp1 hD
  refine lc_range (lo := 0) (n := (m : Int).toNat) (fun i H' => ∃ acc, H' Dl = some (.lst acc) ∧ acc.length = i ∧ (∀ x ∈ acc, R x) ∧ Off p H1 H' ∧ PenAt K (n0 + 1 + i) H' p c) ⟨[], upd_same, rfl, fun x hx => (nomatch hx), Off.of (Ex.new hD), pen1.ex (Ex.new hD)⟩ ?_ ?_
  · rintro i H' hi ⟨acc, ha, hlen, hR, off2, pen2⟩
    have e0 : (0 : Int) + (i : Int) = (i : Int) := Int.zero_add _
    show wipe ((wipe σ vs).set j (some (.int ((0 : Int) + (i : Int))))) vs = wipe σ vs ∧ te ((wipe σ vs).set j (some (.int ((0 : Int) + (i : Int))))) H' fun y H4 => ∃ acc, H4 Dl = some (.lst acc) ∧ acc.length < sizeLine ∧ _
    rw [e0]
    refine ⟨hw _, hte i (n0 + 1 + i) H' (by omega) (by omega) (off1.trans off2) pen2 _ fun x H2 hx off3 pen3 => ⟨acc, off3 _ _ ha (Ne.symm hDp), sz_lt (by omega), acc ++ [x], upd_same, ?_, ?_, Off.mut (off2.trans off3) hD, ?_⟩⟩
    · rw [List.length_append, hlen]
      rfl
    · intro y hy
      rcases List.mem_append.mp hy with hy | hy
      · exact hR y hy
      · rw [List.mem_singleton.mp hy]
        exact hx
    · exact PenAt.mut pen1 hD pen3
  · rintro H' ⟨acc, ha, hlen, hR, off2, pen2⟩
    exact hQ acc Dl H' (by omega) (by omega) hR ha (Ne.symm hDp) hDl (off1.trans off2) (pen2.mono (by omega))
/-- [e for i, x in enumerate(xs) if t] -/
theorem el_lcE {k i j : Nat} {l : Addr} {xs : List V} {vs : List Nat} (f : Nat → Bool) (v : Nat → V) (hv : σ[k]? = some (some (.ref l))) (hl : SqL K H l xs) (hz : xs.length ≤ 40000)
    (hw : ∀ x y, wipe (((wipe σ vs).set i (some x)).set j (some y)) vs = wipe σ vs)
    (ht : ∀ (m : Nat) (x : V) H1, Ex H H1 → xs[m]? = some x → EvT t (((wipe σ vs).set i (some (.int (m : Nat)))).set j (some x)) H1 (f m))
    (he : ∀ (m : Nat) (x : V) H1, Ex H H1 → xs[m]? = some x → f m = true → Ev te (((wipe σ vs).set i (some (.int (m : Nat)))).set j (some x)) H1 (v m)) :
    EvL (tLc (iEnum K (tCons (tVar k) tNil)) (gTup K 2 (gCons (gName i) (gCons (gName j) gNil))) t te vs) σ H (given xs.length f v) := fun H1 e Q q =>
  ⟨_, hv, l, xs, rfl, ex_l e hl, fun Dl hD =>
    lc_it (walk_enum (K := K) (xs := xs)) (Cw H1 f v Dl) ⟨hD, Ex.new hD, upd_same⟩ (fun i H' _ p => ex_l (e.trans p.2.1) hl) (fun m x H2 H3 hm pc y => by
      obtain ⟨T, y1, y2, rfl, hT, rfl, hy1, hy2⟩ := y
      obtain rfl : V.int (m : Nat) = y1 := Option.some.inj hy1
      obtain ⟨p1, p2, p3⟩ := pc
      have pc' : Cw H1 f v Dl m (upd H2 T (.tup [.int (m : Nat), y2])) := ⟨p1, p2.trans (Ex.new hT), Ex.new hT _ _ p3⟩
      exact ⟨T, _, rfl, SqT.of upd_same, rfl, _, _, rfl, _, _, rfl, rfl, hw _ _, cw_turn pc' (by omega) (ht m y2 H1 e hy2) (fun hf => he m y2 H1 e hy2 hf)⟩)
      (fun H' p => q Dl H' p.1 p.2.1 p.2.2)⟩
theorem q_asgD {i : Nat} (h : te σ H fun v H1 => tz D (σ.set i (some v)) H1) : tSeq (tAsg te (gName i)) tz D σ H := h
theorem items_of {α : Type} {f : α → V} {P : α → Prop} : ∀ {xs : List V}, (∀ x ∈ xs, ∃ a, x = f a ∧ P a) → ∃ as : List α, xs = as.map f ∧ ∀ a ∈ as, P a
  | [], _ => ⟨[], rfl, fun _ h => nomatch h⟩
  | x :: xs, h => by
    obtain ⟨a, rfl, ha⟩ := h x List.mem_cons_self
    obtain ⟨as, rfl, has⟩ := items_of (xs := xs) fun y hy => h y (List.mem_cons_of_mem _ hy)
    refine ⟨a :: as, rfl, fun b hb => ?_⟩
    rcases List.mem_cons.mp hb with rfl | hb
    · exact ha
    · exact has b hb
/-- xs != [] -/
theorem ev_ne_nil {p : Addr} {xs : List V} (ha : Ev te σ H (.ref p)) (hp : SqL K H p xs) : Ev (tOp (rNeL K) te (tLst tNil)) σ H (.bl (decide (xs ≠ []))) := by
  cases xs with
  | nil => exact ev_neVL (r := true) ha hp (el_lst ea_nil (Nat.zero_le _)) (.inr ⟨[], .nil, rfl⟩)
  | cons x r => exact ev_is (ev_neVL (r := false) ha hp (el_lst ea_nil (Nat.zero_le _)) (.inl ⟨by simp, rfl⟩)) (by rw [decide_eq_true (by simp)] <;> rfl)
end
end He
set_option Elab.async false
set_option linter.all false
set_option maxRecDepth 100000
set_option maxHeartbeats 4000000
set_option autoImplicit false
namespace K57
open PySem PySem.Spec PyProof.Rows L2 He Evl
/-- a pick out of a list or of a text's signs -/
def spOne (K : PySem.W.Frag) : Sp := fun vs H Q _ => ∃ (p c : Addr) (v : V) (n : Nat), vs = [.ref p, v] ∧ PenAt K n H p c ∧ n ≤ 100000 ∧
  ((∃ (l : Addr) (xs : List V), v = .ref l ∧ SqL K H l xs ∧ l ≠ p ∧ 0 < xs.length ∧ xs.length ≤ 1000 ∧ ∀ (i : Nat) (x : V) H', xs[i]? = some x → Off p H H' → PenAt K (n + 1) H' p c → Q x H') ∨
   ∃ z : Str, v = .str z ∧ 0 < z.cps.toList.length ∧ z.cps.toList.length ≤ 1000 ∧ ∀ d H', d ∈ z.cps.toList → Off p H H' → PenAt K (n + 1) H' p c → Q (.str ⟨#[d]⟩) H')
section
variable {P : Program} {w : World} {K : PySem.W.Frag} {mg : Str → Option Value} {base : Heap}
theorem ok_l_one (T : Tx K mg) : FnOk P w K mg base CX0 2 (ga K "_law_one") (fdOf K ("_law_one", none)) ["_law_ear_here", "_law_some"] (spOne K) := by
  refine T.f_l_one.ok sc_l_one (fun vs H Q E h => ?_) (fun cdv A outer s H vs Q E hr h => ?_)
  · obtain ⟨p, c, v, n, rfl, _⟩ := h
    rfl
  · refine ⟨_, PSs.nox (pss_one (ps_ret (pe_ix ix_seq (pv 1) (pe_call (ok_l_pull T) (hr.mono (by decide)) (by rfl) T.g_l_pull T.f_l_pull.kp (b_l_pull T) .nil pass0 (pa_cons (pv 0) (pa_cons (pe_callB call_len (by rfl) T.n_len boot_len (pa_cons (pv 1) pa_nil)) pa_nil))) (fun _ _ => rfl)))), ?_⟩
    -- slots: [(0, '_law_ear_here'), (1, '_law_some')]
    obtain ⟨p, c, v, n, rfl, hP, hn, k⟩ := h
    rcases k with ⟨l, xs, rfl, hx, hne, h0, h1, k⟩ | ⟨z, rfl, h0, h1, k⟩
    · refine ⟨_, rfl, _, rfl, _, rfl, _, xs.length, rfl, .inl ⟨_, hx, rfl⟩, p, c, xs.length, n, rfl, by omega, by omega, hP, hn, fun d H' d0 d1 off pen => ?_⟩
      obtain ⟨j, hj, hjl⟩ : ∃ j : Nat, d = (j : Int) ∧ j < xs.length := ⟨d.toNat, (Int.toNat_of_nonneg d0).symm, by omega⟩
      have hxj : xs[j]? = some xs[j] := List.getElem?_eq_getElem hjl
      exact .inl ⟨l, xs, d, xs[j], rfl, rfl, Off.sq off hne hx, at_of hj hxj, k j xs[j] H' hxj off pen⟩
    · have hz : z.length = z.cps.toList.length := (Array.length_toList).symm
      refine ⟨_, rfl, _, rfl, _, rfl, _, z.length, rfl, ⟨sz_of (by omega), rfl⟩, p, c, z.length, n, rfl, by omega, by omega, hP, hn, fun d H' d0 d1 off pen => ?_⟩
      obtain ⟨j, hj, hjl⟩ : ∃ j : Nat, d = (j : Int) ∧ j < z.cps.toList.length := ⟨d.toNat, (Int.toNat_of_nonneg d0).symm, by omega⟩
      have hxj : z.cps.toList[j]? = some z.cps.toList[j] := List.getElem?_eq_getElem hjl
      exact .inr (.inr ⟨z, d, z.cps.toList[j], rfl, rfl, sz_of (by omega), (by rw [hj, atI_nat]; exact hxj), k _ H' (List.mem_of_getElem? hxj) off pen⟩)
end
end K57
set_option Elab.async false
set_option linter.all false
set_option maxRecDepth 100000
set_option maxHeartbeats 4000000
set_option autoImplicit false
namespace K57
open PySem PySem.Spec PyProof.Rows L2 He Evl
/-! ### what is heard, what is a value -/
def letters : Str := "abcdefghijklmnopqrstuvwxyz"
def vowels : Str := "aeiou"
def vow (c : Nat) : Bool := decide (c ∈ vowels.cps.toList)
def heardB (z : Str) : Bool := decide (1 ≤ z.length) && decide (z.length ≤ 12) && z.cps.toList.all fun c => decide (c ∈ letters.cps.toList)
def heardV : V → Bool
  | .str z => heardB z
  | _ => false
def valueB (z : Str) : Bool := heardB z && decide (z.length ≤ 2) && vow (z.cps.toList.getLastD 0) && (decide (z.length = 1) || !vow (z.cps.toList.getD 0 0))
def valueV : V → Bool
  | .str z => valueB z
  | _ => false
section
variable {K : PySem.W.Frag} {H : Hp} {x : V} {T : String}
theorem kd_cases (h : Kd K H x T) : (x = .non ∧ T = "NoneType") ∨ (∃ b, x = .bl b ∧ T = "bool") ∨ (∃ i, x = .int i ∧ T = "int") ∨ (∃ z, x = .str z ∧ T = "str") ∨ ∃ a, x = .ref a ∧ (T = "list" ∨ T = "tuple" ∨ T = "dict") := by
  have hm := h.mem
  cases h.ty with
  | base b =>
    cases b with
    | non => exact .inl ⟨rfl, rfl⟩
    | bl x => exact .inr (.inl ⟨_, rfl, rfl⟩)
    | int i => exact .inr (.inr (.inl ⟨_, rfl, rfl⟩))
    | str x => exact .inr (.inr (.inr (.inl ⟨_, rfl, rfl⟩)))
    | flt x => exact absurd hm (by decide)
    | lst h2 => exact .inr (.inr (.inr (.inr ⟨_, rfl, .inl rfl⟩)))
    | frz h2 => exact .inr (.inr (.inr (.inr ⟨_, rfl, .inl rfl⟩)))
    | tup h2 => exact .inr (.inr (.inr (.inr ⟨_, rfl, .inr (.inl rfl)⟩)))
    | dK h2 => exact .inr (.inr (.inr (.inr ⟨_, rfl, .inr (.inr rfl)⟩)))
    | dT h2 => exact .inr (.inr (.inr (.inr ⟨_, rfl, .inr (.inr rfl)⟩)))
  | byt b => exact absurd hm (by decide)
  | set h2 => exact absurd hm (by decide)
  | kList h2 c => exact .inr (.inr (.inr (.inr ⟨_, rfl, .inl rfl⟩)))
  | kTuple h2 c => exact .inr (.inr (.inr (.inr ⟨_, rfl, .inr (.inl rfl)⟩)))
  | kDict h2 c => exact .inr (.inr (.inr (.inr ⟨_, rfl, .inr (.inr rfl)⟩)))
  | fTuple h2 => exact .inr (.inr (.inr (.inr ⟨_, rfl, .inr (.inl rfl)⟩)))
  | fDict h2 => exact .inr (.inr (.inr (.inr ⟨_, rfl, .inr (.inr rfl)⟩)))
def isStr : V → Bool
  | .str _ => true
  | _ => false
theorem kd_str_eq (h : Kd K H x T) : kAns T "str" = isStr x := by
  rcases kd_cases h with ⟨rfl, rfl⟩ | ⟨b, rfl, rfl⟩ | ⟨i, rfl, rfl⟩ | ⟨z, rfl, rfl⟩ | ⟨a, rfl, rfl | rfl | rfl⟩ <;> (show _ = _; first | rfl | decide)
end
/-- an element that may be asked for a name -/
structure EOk (K : PySem.W.Frag) (H : Hp) (x : V) : Prop where
  kd : ∃ T, Kd K H x T
  len : ∀ z, x = .str z → z.length ≤ 1000
theorem EOk.ex {K : PySem.W.Frag} {H H' : Hp} {x : V} (h : EOk K H x) (e : Ex H H') : EOk K H' x := ⟨h.kd.imp fun _ k => k.ex e, h.len⟩
def spHeardV (K : PySem.W.Frag) : Sp := fun vs H Q _ => ∃ (x : V), vs = [x] ∧ EOk K H x ∧ RetV (.bl (heardV x)) H Q
def len1V : V → Bool
  | .str z => decide (z.length = 1)
  | _ => false
def letterV : V → Bool
  | .str z => heardB z && decide (z.length = 1)
  | _ => false
def spLetterV (K : PySem.W.Frag) : Sp := fun vs H Q _ => ∃ (x : V), vs = [x] ∧ EOk K H x ∧ RetV (.bl (letterV x)) H Q
def spValueV (K : PySem.W.Frag) : Sp := fun vs H Q _ => ∃ (x : V), vs = [x] ∧ EOk K H x ∧ RetV (.bl (valueV x)) H Q
section
variable {P : Program} {w : World} {K : PySem.W.Frag} {mg : Str → Option Value} {base : Heap}
theorem b_is_heard (T : Tx K mg) : Binds K (fdOf K ("is_heard", none)) ["value"] [] := T.f_is_heard.bindsN fun _ _ _ _ _ _ us hl => match us, hl with | [_], _ => rfl
theorem b_is_value (T : Tx K mg) : Binds K (fdOf K ("is_value", none)) ["value"] [] := T.f_is_value.bindsN fun _ _ _ _ _ _ us hl => match us, hl with | [_], _ => rfl
theorem b_is_letter (T : Tx K mg) : Binds K (fdOf K ("_is_letter", none)) ["value"] [] := T.f_is_letter.bindsN fun _ _ _ _ _ _ us hl => match us, hl with | [_], _ => rfl
theorem nameB_len {z : Str} (h1 : decide (1 ≤ z.length) = true) : ∃ c r, z.cps.toList = c :: r := by
  have h : 1 ≤ z.length := of_decide_eq_true h1
  cases e : z.cps.toList with
  | nil =>
    have : z.cps.toList.length = 0 := by rw [e]; rfl
    rw [Array.length_toList] at this
    exact absurd h (by show ¬ 1 ≤ z.cps.size; omega)
  | cons c r => exact ⟨c, r, rfl⟩
theorem ok_is_heard (T : Tx K mg) : FnOk P w K mg base CX0 1 (ga K "is_heard") (fdOf K ("is_heard", none)) ["value"] (spHeardV K) := by
  refine T.f_is_heard.ok sc_is_heard (fun vs H Q E h => ?_) (fun cdv A outer s H vs Q E hr h => ?_)
  · obtain ⟨x, rfl, _⟩ := h
    rfl
  · refine ⟨_, PSs.nox (pss_cons (ps_if (PW.pt (pw_or (pt_not (pt_val (pe_callB call_isi (by rfl) T.n_isinstance (by decide +kernel) (pa_cons (pv 0) (pa_cons (pe_bltn (v := .ty "str") (by rfl) T.n_str (by decide +kernel) rfl) pa_nil))))) (pw_or1 (pt_not (pt_chain op_le op_le pe_int (pe_callB call_len (by rfl) T.n_len boot_len (pa_cons (pv 0) pa_nil)) (pe_glob (v := .int 12) (by rfl) T.g_MOST_LETTERS.choose_spec ⟨_, rfl⟩))))))
        (pss_one (ps_ret pe_bl))
        pss_nil)
      (pss_one (ps_ret (pe_callB (cr_all rfl) (by rfl) T.n_all (by decide +kernel) (pa_cons (pe_lc (own := [("letter", 1)]) (g := (gName 1)) (tt := tYes) rfl sc_is_heard.nd (pi_str (pv 0)) (blkOk_by (N := ["value", "letter"]) (sc := defScope s_is_heard) (by decide +kernel)) (fun _ _ _ _ _ => pg_name (i := 1) sc_is_heard.nd rfl (Or.inl rfl)) (fun _ _ _ _ _ => pts_nil) (fun _ _ _ _ _ => (pe_cmpR op_in_sign (pv 1) (pe_glob (v := .str "abcdefghijklmnopqrstuvwxyz") (by rfl) T.g_LETTERS.choose_spec ⟨_, rfl⟩) (by rfl)))) pa_nil))))), ?_⟩
    -- slots: [(0, 'value'), (1, 'letter')]
    obtain ⟨x, rfl, ⟨⟨T', hk⟩, hl⟩, k⟩ := h
    have hs := kd_str_eq hk
    have i1 : EvT (tNot (tB (tCB (rIsi K) (tCons (tVar 0) (tCons (tC (.ty "str")) tNil))))) (start ["value", "letter"] [x]) H (!isStr x) :=
      et_not (et_B (ev_is (ev_cb (ea_cons (ev_var rfl) (ea_cons ev_c ea_nil)) (rc_isi hk (by decide))) (by rw [hs])))
    cases hx : isStr x with
    | false =>
      refine q_when (b := true) ?_ (fun _ H1 e1 => s_ret ev_c fun H2 e2 => ?_) (fun hb => nomatch hb)
      · refine et_is (et_or (b := true) i1 fun hb => ?_) (by rw [hx]; rfl)
        rw [hx] at hb; cases hb
      · have z := k H2 (e1.trans e2)
        cases x <;> first | exact z | cases hx
    | true =>
      obtain ⟨z, rfl⟩ : ∃ z, x = .str z := by
        cases x with
        | str z => exact ⟨z, rfl⟩
        | _ => cases hx
      have hz := hl z rfl
      refine q_when (b := !(decide (1 ≤ z.length) && decide (z.length ≤ 12))) ?_ (fun hb H1 e1 => s_ret ev_c fun H2 e2 => ?_) (fun hb H1 e1 => ?_)
      · refine et_is (et_or (a := false) (b := !(decide (1 ≤ z.length) && decide (z.length ≤ 12))) (et_is i1 rfl) fun _ => et_not ?_) rfl
        intro H1 e Q q
        refine ⟨_, rfl, _, z.length, rfl, ⟨Nat.le_trans hz (by decide), rfl⟩, _, _, rfl, rfl, decide ((1 : Int) ≤ (z.length : Int)), rfl, ?_⟩
        have q1 := q H1 (Ex.refl H1)
        by_cases h1 : 1 ≤ z.length
        · rw [decide_eq_true (show (1 : Int) ≤ (z.length : Int) by omega)]
          refine iteT ⟨_, _, rfl, rfl, decide ((z.length : Int) ≤ 12), rfl, ?_⟩
          have e3 : decide ((z.length : Int) ≤ 12) = decide (z.length ≤ 12) := decide_eq_decide.mpr (by omega)
          rw [e3]
          rw [decide_eq_true h1] at q1
          exact q1
        · rw [decide_eq_false (show ¬ (1 : Int) ≤ (z.length : Int) by omega)]
          rw [decide_eq_false h1] at q1
          exact iteF ⟨_, rfl, q1⟩
      · have e3 : heardV (.str z) = false := by
          show heardB z = false
          unfold heardB
          have : (decide (1 ≤ z.length) && decide (z.length ≤ 12)) = false := by
            revert hb
            cases (decide (1 ≤ z.length) && decide (z.length ≤ 12)) <;> simp
          rw [this] <;> rfl
        have z1 := k H2 (e1.trans e2)
        rw [e3] at z1
        exact z1
      · have hb2 : (decide (1 ≤ z.length) && decide (z.length ≤ 12)) = true := by
          revert hb
          cases (decide (1 ≤ z.length) && decide (z.length ≤ 12)) <;> simp
        refine s_ret (v := .bl (z.cps.toList.all fun c => decide (c ∈ letters.cps.toList))) ?_ fun H2 e2 => ?_
        · rw [← all_map (fun c => decide (c ∈ letters.cps.toList))]
          refine ev_all ?_
          rw [List.map_map]
          refine el_lcStr (fun c => .bl (decide (c ∈ letters.cps.toList))) (ev_var rfl) (Nat.le_trans hz (by decide)) (fun _ => rfl) fun c H3 e3 hc => ?_
          exact ev_op (ev_var rfl) ev_c fun H4 _ Q q => ⟨c, letters, rfl, rfl, q H4 (Ex.refl H4)⟩
        · have z1 := k H2 (e1.trans e2)
          have e3 : heardV (.str z) = (z.cps.toList.all fun c => decide (c ∈ letters.cps.toList)) := by
            show heardB z = _
            unfold heardB
            rw [hb2]
            rfl
          rw [e3] at z1
          exact z1
def spOneOf (K : PySem.W.Frag) : Sp := fun vs H Q _ => ∃ (x : V) (T : String) (a : Addr) (xs : List V), vs = [x, .ref a] ∧ Kd K H x T ∧ (∀ H1, Ex H H1 → SqT K H1 a xs) ∧ xs.all flatV = true ∧ RetV (.bl (isStr x && inV x xs)) H Q
theorem b_is_one_of (T : Tx K mg) : Binds K (fdOf K ("is_one_of", none)) ["value", "strings"] [] := T.f_is_one_of.bindsN fun _ _ _ _ _ _ us hl => match us, hl with | [_, _], _ => rfl
theorem ok_is_one_of (T : Tx K mg) : FnOk P w K mg base CX0 1 (ga K "is_one_of") (fdOf K ("is_one_of", none)) ["value", "strings"] (spOneOf K) := by
  refine T.f_is_one_of.ok sc_is_one_of (fun vs H Q E h => ?_) (fun cdv A outer s H vs Q E hr h => ?_)
  · obtain ⟨x, T', a, xs, rfl, _⟩ := h
    rfl
  · refine ⟨_, PSs.nox (pss_one (ps_ret (pe_and (pe_callB call_isi (by rfl) T.n_isinstance (by decide +kernel) (pa_cons (pv 0) (pa_cons (pe_bltn (v := .ty "str") (by rfl) T.n_str (by decide +kernel) rfl) pa_nil))) (pe_one (pe_cmpR op_in_seq (pv 0) (pv 1) (by rfl)))))), ?_⟩
    -- slots: [(0, 'value'), (1, 'strings')]
    obtain ⟨x, T', a, xs, rfl, hk, hS, hf, k⟩ := h
    have hs := kd_str_eq hk
    refine s_ret (v := .bl (isStr x && inV x xs)) (ev_andV (ev_is (ev_cb (ea_cons (ev_var rfl) (ea_cons ev_c ea_nil)) (rc_isi hk (by decide))) (by rw [hs])) fun hx => ?_) fun H1 e => k H1 e
    refine ev_op (ev_var rfl) (ev_var rfl) (fun H1 e => rv_isT (hS H1 e) ?_ hf H1 (Ex.refl H1))
    cases x <;> first | rfl | cases hx
theorem heard_split {z : Str} (hb : heardV (.str z) = true) : ∃ (c : Nat) (r : List Nat) (v : Nat) (l0 : List Nat), z.cps.toList = c :: r ∧ z.cps.toList = l0 ++ [v] ∧ 1 ≤ z.length ∧ z.length ≤ 12 ∧ valueV (.str z) = (decide (z.length ≤ 2) && vow v && (decide (z.length = 1) || !vow c)) := by
  have hB : heardB z = true := hb
  have h2 := hB
  unfold heardB at h2
  obtain ⟨h3, _⟩ := Bool.and_eq_true_iff.mp h2
  obtain ⟨h4, h5⟩ := Bool.and_eq_true_iff.mp h3
  obtain ⟨c, r, hc⟩ := nameB_len h4
  rcases List.eq_nil_or_concat z.cps.toList with e | ⟨l0, v, hv⟩
  · rw [hc] at e
    cases e
  · rw [List.concat_eq_append] at hv
    refine ⟨c, r, v, l0, hc, hv, of_decide_eq_true h4, of_decide_eq_true h5, ?_⟩
    show valueB z = _
    unfold valueB
    rw [hB]
    have e1 : z.cps.toList.getLastD 0 = v := by rw [hv]; simp
    have e2 : z.cps.toList.getD 0 0 = c := by rw [hc]; rfl
    rw [e1, e2, Bool.true_and]
theorem ok_is_value (T : Tx K mg) : FnOk P w K mg base CX0 2 (ga K "is_value") (fdOf K ("is_value", none)) ["value"] (spValueV K) := by
  refine T.f_is_value.ok sc_is_value (fun vs H Q E h => ?_) (fun cdv A outer s H vs Q E hr h => ?_)
  · obtain ⟨x, rfl, _⟩ := h
    rfl
  · refine ⟨_, PSs.nox (pss_cons (ps_if (PW.pt (pw_or (pt_not (pt_val (pe_call (ok_is_heard T) (hr.mono (by decide)) (by rfl) T.g_is_heard T.f_is_heard.kp (b_is_heard T) .nil pass0 (pa_cons (pv 0) pa_nil)))) (pw_or (pt_cmpR op_gt (pe_callB call_len (by rfl) T.n_len boot_len (pa_cons (pv 0) pa_nil)) pe_int (nomark _)) (pw_or1 (pt_cmpR op_notIn_sign (pe_ix ix_str (pv 0) (pe_un un_neg pe_int) (fun _ _ => rfl)) (pe_glob (v := .str "aeiou") (by rfl) T.g_VOWELS.choose_spec ⟨_, rfl⟩) (by rfl))))))
        (pss_one (ps_ret pe_bl))
        pss_nil)
      (pss_one (ps_ret (pe_or (pe_cmpR op_eq (pe_callB call_len (by rfl) T.n_len boot_len (pa_cons (pv 0) pa_nil)) pe_int (nomark _)) (pe_one (pe_cmpR op_notIn_sign (pe_ix ix_str (pv 0) pe_int (fun _ _ => rfl)) (pe_glob (v := .str "aeiou") (by rfl) T.g_VOWELS.choose_spec ⟨_, rfl⟩) (by rfl))))))), ?_⟩
    -- slots: [(0, 'value')]
    obtain ⟨x, rfl, hx, k⟩ := h
    have hE : Ev (tCall (spHeardV K) [] E0 (tCons (tVar 0) tNil)) (start ["value"] [x]) H (.bl (heardV x)) := ev_call (ea_cons (ev_var rfl) ea_nil) fun H1 e Q q E => ⟨x, rfl, hx.ex e, q⟩
    cases hb : heardV x with
    | false =>
      refine q_when (b := true) (et_is (et_or (b := true) (et_not (et_B hE)) fun z => by rw [hb] at z; cases z) (by rw [hb]; rfl)) (fun _ H1 e1 => s_ret ev_c fun H2 e2 => ?_) (fun z => nomatch z)
      have z := k H2 (e1.trans e2)
      have e3 : valueV x = false := by
        cases x with
        | str y =>
          show valueB y = false
          unfold valueB
          rw [show heardB y = false from hb]
          rfl
        | _ => rfl
      rw [e3] at z
      exact z
    | true =>
      obtain ⟨z, rfl⟩ : ∃ z, x = .str z := by
        cases x with
        | str z => exact ⟨z, rfl⟩
        | _ => cases hb
      obtain ⟨c, r, v, l0, hc, hv, l1, l12, hval⟩ := heard_split hb
      have lenE : ∀ {H1 : Hp}, Ev (tCB (fun xs H Q => ∃ x n, xs = [x] ∧ LenV K x H n ∧ Q (.int (n : Int)) H) (tCons (tVar 0) tNil)) (start ["value"] [V.str z]) H1 (.int (z.length : Int)) := fun H1 e Q q => ⟨_, rfl, _, z.length, rfl, ⟨sz_of (n := z.length) (by omega), rfl⟩, q H1 (Ex.refl H1)⟩
      have e0 : ∀ {H1 : Hp}, Ev (tOp rIxS (tVar 0) (tC (.int 0))) (start ["value"] [V.str z]) H1 (.str ⟨#[c]⟩) := ev_op (ev_var rfl) ev_c (rv_ixS (show z.length ≤ 100000 by omega) (by rw [hc]; exact atI_nat (xs := c :: r) (j := 0) (v := c) rfl))
      have eL : ∀ {H1 : Hp}, Ev (tOp rIxS (tVar 0) (tUn (rU fun i => .int (-i)) (tC (.int 1)))) (start ["value"] [V.str z]) H1 (.str ⟨#[v]⟩) := ev_op (ev_var rfl) (fun H1 e Q q => ⟨1, rfl, q H1 (Ex.refl H1)⟩) (rv_ixS (show z.length ≤ 100000 by omega) (by rw [hv]; exact atI_last l0 v))
      refine q_when (b := decide (2 < z.length) || !vow v) ?_ (fun hb H1 e1 => s_ret ev_c fun H2 e2 => ?_) (fun hb H1 e1 => ?_)
      · refine et_is (et_or (a := false) (b := decide (2 < z.length) || !vow v) (et_is (et_not (et_B hE)) (by rw [hb]; rfl)) fun _ => et_or (et_test (ev_is (ev_op lenE ev_c fun H1 e Q q => ⟨_, _, rfl, rfl, q H1 (Ex.refl H1)⟩) (congrArg V.bl (decide_eq_decide.mpr (by omega))))) fun _ => et_test (ev_op eL ev_c fun H1 e Q q => ⟨v, vowels, rfl, rfl, q H1 (Ex.refl H1)⟩)) rfl
      · have z1 := k H2 (e1.trans e2)
        rw [show valueV (.str z) = false from by
          rw [hval]
          revert hb
          by_cases h2 : 2 < z.length
          · rw [decide_eq_false (show ¬ z.length ≤ 2 by omega)]
            simp
          · rw [decide_eq_false h2]
            cases vow v <;> simp] at z1
        exact z1
      · refine s_ret (v := .bl (decide (z.length = 1) || !vow c)) (ev_orV (ev_is (ev_op lenE ev_c (rv_eq rfl)) (congrArg V.bl (decide_eq_decide.mpr ⟨fun h => by have := V.int.inj h; omega, fun h => by rw [h]; rfl⟩))) fun _ => ev_op e0 ev_c fun H1 e Q q => ⟨c, vowels, rfl, rfl, q H1 (Ex.refl H1)⟩) fun H2 e2 => ?_
        have z1 := k H2 (e1.trans e2)
        rw [show valueV (.str z) = (decide (z.length = 1) || !vow c) from by
          rw [hval]
          revert hb
          by_cases h2 : 2 < z.length
          · rw [decide_eq_true h2]
            simp
          · rw [decide_eq_true (show z.length ≤ 2 by omega)]
            cases vow v <;> simp] at z1
        exact z1
theorem ok_is_letter (T : Tx K mg) : FnOk P w K mg base CX0 2 (ga K "_is_letter") (fdOf K ("_is_letter", none)) ["value"] (spLetterV K) := by
  refine T.f_is_letter.ok sc_is_letter (fun vs H Q E h => ?_) (fun cdv A outer s H vs Q E hr h => ?_)
  · obtain ⟨x, rfl, _⟩ := h
    rfl
  · refine ⟨_, PSs.nox (pss_one (ps_ret (pe_and (pe_call (ok_is_heard T) (hr.mono (by decide)) (by rfl) T.g_is_heard T.f_is_heard.kp (b_is_heard T) .nil pass0 (pa_cons (pv 0) pa_nil)) (pe_one (pe_cmpR op_eq (pe_callB call_len (by rfl) T.n_len boot_len (pa_cons (pv 0) pa_nil)) pe_int (nomark _)))))), ?_⟩
    -- slots: [(0, 'value')]
    obtain ⟨x, rfl, hx, k⟩ := h
    have hE : Ev (tCall (spHeardV K) [] E0 (tCons (tVar 0) tNil)) (start ["value"] [x]) H (.bl (heardV x)) := ev_call (ea_cons (ev_var rfl) ea_nil) fun H1 e Q q E => ⟨x, rfl, hx.ex e, q⟩
    have e3 : letterV x = (heardV x && len1V x) := by cases x <;> rfl
    refine s_ret (v := .bl (letterV x)) (ev_is (ev_andV hE fun hb => (?_ : Ev _ _ _ (.bl (len1V x)))) (by rw [e3])) fun H1 e => k H1 e
    obtain ⟨z, rfl⟩ : ∃ z, x = .str z := by
      cases x with
      | str z => exact ⟨z, rfl⟩
      | _ => cases hb
    obtain ⟨c, r, v, l0, hc, hv, l1, l12, hval⟩ := heard_split hb
    have lenE : ∀ {H1 : Hp}, Ev (tCB (fun xs H Q => ∃ x n, xs = [x] ∧ LenV K x H n ∧ Q (.int (n : Int)) H) (tCons (tVar 0) tNil)) (start ["value"] [V.str z]) H1 (.int (z.length : Int)) := fun H1 e Q q => ⟨_, rfl, _, z.length, rfl, ⟨sz_of (n := z.length) (by omega), rfl⟩, q H1 (Ex.refl H1)⟩
    exact ev_is (ev_op lenE ev_c (rv_eq rfl)) (congrArg V.bl (decide_eq_decide.mpr ⟨fun h => by have := V.int.inj h; omega, fun h => by rw [h]; rfl⟩))
end
end K57
set_option Elab.async false
set_option linter.all false
set_option maxRecDepth 100000
set_option maxHeartbeats 4000000
set_option autoImplicit false
/-! try: .. except C as e: .. where the exception is kept beyond its suite. -/
namespace He
open PySem PySem.Spec PyProof.Rows L2
section
variable {X : Cx} {pins : List (Addr × Obj)} {σ : L2.St} {H : Hp} {s : Shared} {a : Addr} {o : HO}
/-- what stands untracked may be tracked, if it is younger than the def's beginning -/
theorem track (I : Inv X pins σ H s) (hn : H a = none) (n0 : X.s_0.heap.get? a = none) (nL : a ≠ X.env.locals) (nc : ∀ x c, X.env.cells.lookup x = some c → c ≠ a) (np : ∀ p ∈ X.pn ++ pins, p.1 ≠ a) (ok : ObjOk X.prog X.w (upd H a o) s.heap a o) : Inv X pins σ (upd H a o) s where
  ok := I.ok
  os := I.os
  bare := I.bare
  base := {
    keep := I.base.keep
    slot := I.base.slot
    free := fun b u e1 e2 e3 => by
      rw [upd_ne (fun z => by rw [z, n0] at e1; cases e1)]
      exact I.base.free b u e1 e2 e3
    there := I.base.there
    tups := fun b xs e => by
      have z := I.base.tups b xs e
      rw [upd_ne (ne_of_none z hn)]
      exact z
    frzs := fun b u v e => by
      have z := I.base.frzs b u v e
      rw [upd_ne (ne_of_none z hn)]
      exact z
    tbls := fun b ps e => by
      obtain ⟨more, z⟩ := I.base.tbls b ps e
      exact ⟨more, by rw [upd_ne (ne_of_none z hn)]; exact z⟩ }
  loc := I.loc
  cell := I.cell
  free := by rw [upd_ne (Ne.symm nL)]; exact I.free
  freeC := fun x c e => by rw [upd_ne (nc x c e)]; exact I.freeC x c e
  pin := fun p hp => by
    obtain ⟨p1, p2, p3⟩ := I.pin p hp
    exact ⟨p1, by rw [upd_ne (np p hp)]; exact p2, p3⟩
  hok := I.hok.laidN (fun _ _ z => z) hn ok
  len := I.len
/-- an exception that was caught, at a -/
def exk (a : Addr) (cls : Value) (d : Option Addr) : HO := .ext fun h => ∃ oe vs, h.get? a = some oe ∧ Zc cls d oe ∧ oe.data = .fields vs
theorem exk_ok {P : Program} {w : World} {h : Heap} {cls : Value} {d : Option Addr} {oe : Obj} {vs : Array Value} (e : h.get? a = some oe) (z : Zc cls d oe) (v : oe.data = .fields vs) : ObjOk P w H h a (exk a cls d) :=
  ⟨⟨oe, vs, e, z, v⟩, ⟨_, e⟩, fun h1 h2 p k => by
    obtain ⟨oe', vs', e', q⟩ := p
    exact ⟨oe', vs', k _ e', q⟩⟩
end
/-- what the clause wishes of an exception of the body: it stands at a, slot i is its name's -/
def wKeep (K : PySem.W.Frag) (c : Value) (i : Nat) (ts : Addr → Value → Option Addr → TS) (Wo : WX) (D : Ends) : WX := fun cls d σ H =>
  ∃ b, PySem.W.exmOne K cls c = some b ∧ (b = true → ∀ a, H a = none → ts a cls d { nx := fun σ1 H1 => D.nx (σ1.set i none) H1, rt := D.rt, bk := fun σ1 H1 => D.bk (σ1.set i none) H1, ct := fun σ1 H1 => D.ct (σ1.set i none) H1 } (σ.set i (some (.ref a))) (upd H a (exk a cls d))) ∧ (b = false → Wo cls d σ H)
section
variable {X : Cx} {x n : Str} {c : Value} {i : Nat} {body rest : List Stmt} {first : Stmt} {np pos pos2 : Pos} {tb : WX → TS} {ts : Addr → Value → Option Addr → TS} {Wo : WX}
/-- the suite's context and back, the exception no pin of it -/
theorem into_suite {pins : List (Addr × Obj)} {σ : L2.St} {H : Hp} {s : Shared} (I : Inv X pins σ H s) (a : Addr) : Inv (X.suite a (X.pn ++ pins)) [] σ H s where
  ok := I.ok.suite a (X.pn ++ pins)
  os := I.os
  bare := I.bare
  base := I.base
  loc := I.loc
  cell := I.cell
  free := I.free
  freeC := I.freeC
  pin := fun p hp => I.pin p (by rw [List.append_nil] at hp; exact hp)
  hok := I.hok
  len := I.len
theorem outof_suite {pins : List (Addr × Obj)} {σ : L2.St} {H : Hp} {s : Shared} {a : Addr} (I : Inv (X.suite a (X.pn ++ pins)) [] σ H s) (ok : X.Ok) : Inv X pins σ H s where
  ok := ok
  os := I.os
  bare := I.bare
  base := I.base
  loc := I.loc
  cell := I.cell
  free := I.free
  freeC := I.freeC
  pin := fun p hp => I.pin p (by rw [List.append_nil]; exact hp)
  hok := I.hok
  len := I.len
theorem ps_try_keep (hs : X.stack = X.env :: X.outer) (hf : X.env.frame = some X.env.locals) (hex : X.ex = []) (hN : X.N.Nodup) (hi : X.N[i]? = some n) (hln : X.env.kindOf n = some .local) (hc : Names X x c) (tk : Takes X Wo)
    (hb : ∀ (W : WX) (pn : List (Addr × Obj)) (xe : Value → Shared → Prop), Takes (X.tr pn xe) W → PassesOwn (model X.prog X.w) X.A X.env xe → PSs (X.tr pn xe) body (tb W))
    (hsu : ∀ (a : Addr) (cls : Value) (d : Option Addr) (pn : List (Addr × Obj)), PSs (X.suite a pn) (first :: rest) (ts a cls d)) :
    PS X (.Try body [.ExceptHandler (some (.Name x np)) (some n) (first :: rest) pos2] [] [] pos) (fun D σ H => tb (wKeep X.K c i ts Wo D) D σ H) := by
  refine ⟨fun pins s0 σ0 H0 D I0 wish => ?_⟩
  have okX := I0.ok
  have frX : X.A.frames = some (X.env :: X.outer) := by rw [okX.frames, hs]
  refine wpAny_Try_except ?_
  refine wpAny_mono ((hb (wKeep X.K c i ts Wo D) (X.pn ++ pins) (fun err z1 => wpAny (model X.prog X.w) X.A (noteFrame err X.env) (fun _ z2 => wpAny (model X.prog X.w) X.A (setFlight err none) (fun _ z3 =>
    wpAny (model X.prog X.w) X.A (handleBy err X.env [.ExceptHandler (some (.Name x np)) (some n) (first :: rest) pos2]) (SP X pins D) X.xe z3) X.xe z2) X.xe z1) (fun u t1 caught => ?_) PassesOwn.looking).run [] s0 σ0 H0 D (I0.toTry _) wish) (fun fl t1 sp => ?_) (fun err t1 z => z)
  · obtain ⟨a, B, sI, pins1, σ1, H1, cls, d, rfl, J', nb, up, sky, na, os, ag, b, hb1, yes, no⟩ := caught
    have J : Inv X pins σ1 H1 sI := J'.ofTry okX
    have skyX : Sky B (X.env :: X.outer) a (Zc cls d) X.env.locals t1.heap := by rw [← hs]; exact sky
    show wpAny (model X.prog X.w) X.A (noteFrame (.ref a) X.env) _ _ _
    refine Sky.land Zc.steady frX hf skyX fun k3 fl3 up3 => ?_
    have J3 : Inv X pins σ1 H1 { t1 with heap := k3 } := J.landed nb fl3.1 (up.trans up3) os ag
    obtain ⟨oe3, vs3, at3, z3, d3⟩ := fl3.there
    have offFr : a ∉ frs (X.env :: X.outer) := fun hm => by
      obtain ⟨_, ob, eb, nd⟩ := (fl3.2.2.1).mem hm
      rw [at3] at eb
      cases eb
      exact nd _ d3
    have nL : a ≠ X.env.locals := fun z => offFr (List.mem_filterMap.mpr ⟨X.env, List.mem_cons_self, by rw [hf, z]⟩)
    have nF : a ∉ X.fs := fun hm => by
      obtain ⟨e, he, q⟩ := List.mem_filterMap.mp hm
      exact offFr (List.mem_filterMap.mpr ⟨e, List.mem_cons_of_mem _ he, q⟩)
    -- nothing stood at a ahead of it
    have nB : B.get? a = none := fl3.2.1
    have nI : sI.heap.get? a = none := by
      cases z : sI.heap.get? a with
      | none => rfl
      | some u =>
        have q := nb a u z (by rw [hs]; exact offFr)
        rw [nB] at q
        cases q
    have n0 : X.s_0.heap.get? a = none := by
      cases z : X.s_0.heap.get? a with
      | none => rfl
      | some u =>
        obtain ⟨u2, q⟩ := J.base.there a u z (by rw [hex]; exact List.not_mem_nil)
        rw [nI] at q
        cases q
    have nc : ∀ y q, X.env.cells.lookup y = some q → q ≠ a := fun y q e z => by
      obtain ⟨v, ob, eb, _⟩ := J.cell y q e
      rw [z, nI] at eb
      cases eb
    have np' : ∀ p ∈ X.pn ++ pins, p.1 ≠ a := fun p hp z => by
      have q := (J.pin p hp).1
      rw [z, nI] at q
      cases q
    have S3 := J3.suite at3 d3 na nL nF
    refine wpAny_handleBy_cons (codeAny_handlers_test ?_) (by intro q; cases q)
    have seen : PySem.W.Looks (model X.prog X.w) k3 (typeOf (.ref a)) cls := fun A Q E s k q => wpAny_typeOf_ref (k _ _ at3) (by rw [z3.1]; exact q)
    have asked := PySem.W.exm_one (M := model X.prog X.w) (J3.kIn) seen hb1
    have named : ∀ {Q : Value → Shared → Prop} {E : Value → Shared → Prop}, Q c { t1 with heap := k3 } → wpAny (model X.prog X.w) (X.A.mark (some (.ref a))) (eval (.Name x np) X.env) Q E { t1 with heap := k3 } := fun {Q E} q => by
      obtain ⟨hg, hdb, hm | ⟨hm, hv, hnn⟩⟩ := hc
      · exact ld_glob (X := X.suite a ((a, oe3) :: (X.pn ++ pins))) S3 hg hm q hdb
      · exact ld_blt (X := X.suite a ((a, oe3) :: (X.pn ++ pins))) S3 hg hm hv q hnn hdb
    refine named (asked.here ?_)
    cases b with
    | true =>
      refine codeAny_handlers_suite_as ?_
      refine HandSPX.lands_againZ fl3 fun k4 fl4 up4 => ?_
      have J4 : Inv X pins σ1 H1 { t1 with heap := k4 } := J.landed nb fl4.1 ((up.trans up3).trans up4) os ag
      obtain ⟨oe4, vs4, at4, z4, d4⟩ := fl4.there
      have T4 : Inv X pins σ1 (upd H1 a (exk a cls d)) { t1 with heap := k4 } := track J4 na n0 nL nc np' (exk_ok at4 z4 d4)
      refine store_ok (X := X.suite a (X.pn ++ pins)) (v := .ref a) (into_suite T4 a) hN hi (.inl hln) rfl (fun t5 S5 => ?_) (.inr hln)
      refine wpAny_mono ((hsu a cls d (X.pn ++ pins)).run [] t5 _ _ _ S5 (yes rfl a na)) (fun fl t6 sp => ?_) (fun _ _ z => False.elim z)
      have leave : ∀ {σ6 : L2.St} {H6 : Hp} {Q : Shared → Prop}, Inv (X.suite a (X.pn ++ pins)) [] σ6 H6 t6 → (∀ t7, Inv X pins (σ6.set i none) H6 t7 → Q t7) →
          wpAny (model X.prog X.w) X.A (do bindName X.env n .none; unbindBehindTheSuite X.env n pos2) (fun _ t7 => Q t7) X.xe t6 := fun {σ6 H6 Q} S6 hq => gone_ok (outof_suite S6 okX) hN hi hln hq
      cases fl with
      | next =>
        obtain ⟨σ6, H6, S6, q6⟩ := sp
        exact leave S6 fun t7 J7 => ⟨_, _, J7, q6⟩
      | brk =>
        obtain ⟨σ6, H6, S6, q6⟩ := sp
        exact leave S6 fun t7 J7 => ⟨_, _, J7, q6⟩
      | cont =>
        obtain ⟨σ6, H6, S6, q6⟩ := sp
        exact leave S6 fun t7 J7 => ⟨_, _, J7, q6⟩
      | ret u =>
        obtain ⟨v6, σ6, H6, S6, r6, q6⟩ := sp
        exact leave S6 fun t7 J7 => ⟨_, _, _, J7, r6, q6⟩
    | false =>
      show wpAny _ X.A (handleBy (.ref a) X.env []) _ _ _
      refine wpAny_handleBy_nil ?_
      obtain ⟨k1, k2, k3', oe, vs, T, oT, ts', he, hz, hd, h1, hr⟩ := id fl3
      unfold PySem.passOn
      refine wpAny_bind (wpAny_field he hd h1 ?_)
      rw [if_neg (show ¬ ((Value.ref T == Value.none) = true) from by simp)]
      have on : wpAny (model X.prog X.w) X.A (setFlight (.ref a) X.env.frame) (fun _ t4 => wpAny (model X.prog X.w) X.A (throw (.ref a) : Sem Flow) (SP X pins D) X.xe t4) X.xe { t1 with heap := k3 } := by
        rw [hf]
        refine HandSPX.setFlight_upZ fl3 fun k4 hh4 up4 => wpAny_throw (tk _ _ ?_)
        exact ⟨a, B, sI, pins, σ1, H1, cls, d, rfl, J, nb, (up.trans up3).trans up4, .inr (.inr (by rw [hs]; exact hh4)), na, os, ag, no rfl⟩
      first
        | exact wpAny_bind (wpAny_pure (wpAny_bind on))
        | exact wpAny_bind on
  · cases fl with
    | next =>
      obtain ⟨σ2, H2, J2, q⟩ := sp
      exact wpAny_execs_nil ⟨σ2, H2, J2.ofTry okX, q⟩
    | brk =>
      obtain ⟨σ2, H2, J2, q⟩ := sp
      exact ⟨σ2, H2, J2.ofTry okX, q⟩
    | cont =>
      obtain ⟨σ2, H2, J2, q⟩ := sp
      exact ⟨σ2, H2, J2.ofTry okX, q⟩
    | ret u =>
      obtain ⟨v, σ2, H2, J2, r, q⟩ := sp
      exact ⟨v, σ2, H2, J2.ofTry okX, r, q⟩
end
/-! ### what was caught: its fields, its classes -/
/-- a caught exception of the own class at C stands at a, with these fields -/
def XKAt (H : Hp) (a C : Addr) (fs : List (Str × V)) : Prop := ∃ d, H a = some (exk a (.ref C) (some d)) ∧ H d = some (.xd fs)
theorem XKAt.ex {H H' : Hp} {a C : Addr} {fs : List (Str × V)} (h : XKAt H a C fs) (e : Evl.Ex H H') : XKAt H' a C fs := by
  obtain ⟨d, h1, h2⟩ := h
  exact ⟨d, e _ _ h1, e _ _ h2⟩
section
variable {X : Cx} {pins : List (Addr × Obj)} {σ : L2.St} {H : Hp} {s : Shared} {a C : Addr} {fs : List (Str × V)}
theorem XKAt.inst (I : Inv X pins σ H s) (h : XKAt H a C fs) : ∃ (ox od : Obj) (mA : Str → Option Value), PySem.W.InstAt s.heap a ox C (some od) ∧ (∀ m, PySem.W.lookIn m od = some (mA m)) ∧ ∀ f, RelO (fs.lookup f) (mA f) := by
  obtain ⟨d, h1, h2⟩ := h
  obtain ⟨⟨oe, vs, e, z, hv⟩, _⟩ := (show ObjOk X.prog X.w H s.heap a (exk a (.ref C) (some d)) from I.hok a _ h1)
  obtain ⟨mA, hns, hr⟩ := (show ObjOk X.prog X.w H s.heap d (.xd fs) from I.hok d _ h2)
  obtain ⟨od, ho, hl⟩ := lookIn_ns hns
  exact ⟨oe, od, mA, ⟨e, z.1, by unfold PySem.W.notCls; rw [hv] <;> rfl, by rw [z.2]; exact ho⟩, hl, hr⟩
/-- e.f of such -/
def tXfk (K : PySem.W.Frag) (f : Str) (te : TE) : TE := fun σ H Q => te σ H fun x H1 => ∃ (a C : Addr) (fs : List (Str × V)) (v : V), x = .ref a ∧ XCl K C ∧ PySem.W.findIn K (.ref C) f = some none ∧ XKAt H1 a C fs ∧ fs.lookup f = some v ∧ Q v H1
theorem pe_xfk {n : Str} {e : Expr} {te : TE} {pos : Pos} (he : PE X e te) (hb : attributeBase e n X.env (eval e X.env) = eval e X.env := by rfl) : PE X (.Attribute e n pos) (tXfk X.K n te) := by
  refine ⟨fun pins s σ H Q I h => ?_⟩
  refine attr_of hb (thn (he.run pins s σ H _ I h) fun u s1 ⟨x, H1, I1, rx, a, C, fs, v, ex, T, no, ha, l, q⟩ => ?_)
  subst ex
  obtain rfl : u = Value.ref a := rx
  obtain ⟨ox, od, mA, J, hl, hr⟩ := ha.inst I1
  obtain ⟨u, hu, ru⟩ := RelO.some_of (v := v) (o := mA n) (by rw [← l]; exact hr n)
  exact HandSPX.exc_get I1.kIn J T.xf.ga T.xf.gg T.xf.exC (PySem.W.findObj_own T.xf.hdC no rfl (by rw [hl, hu])) (handed_of ru) ⟨v, H1, I1.tok _, ru, q⟩
def rIsK (K : PySem.W.Frag) : List V → Hp → VK → Prop := fun xs H Q => ∃ (a C : Addr) (fs : List (Str × V)) (c : V) (u : Value) (b : Bool), xs = [.ref a, c] ∧ XCl K C ∧ XKAt H a C fs ∧ ClsV c u ∧ PySem.W.kitOne K (.ref C) u = some b ∧ Q (.bl b) H
def rIsKT (K : PySem.W.Frag) : List V → Hp → VK → Prop := fun xs H Q => ∃ (a C tp : Addr) (fs : List (Str × V)) (cs : List V) (us : List Value) (b : Bool), xs = [.ref a, .ref tp] ∧ XCl K C ∧ XKAt H a C fs ∧ H tp = some (.tup cs) ∧ Paired ClsV cs us ∧ PySem.W.kitAny K (.ref C) us = some b ∧ Q (.bl b) H
theorem call_isK : CallR X (.builtin "isinstance") (rIsK X.K) := by
  intro pins s σ H xs us Q I r h
  obtain ⟨a, C, fs, c, u, b, rfl, T, ha, k, e, q⟩ := h
  obtain ⟨u1, u2, rfl, r1, r2⟩ := vals2 r
  have e2 := k.eq r2
  subst e2
  cases (show u1 = Value.ref a from r1)
  obtain ⟨ox, od, mA, J, _⟩ := ha.inst I
  exact PySem.W.kia_one (XCl.kit (ox := ox) (od := some od) T) I.kIn J e (fun z => nomatch z) fun tk => ⟨.bl b, H, I.tok tk, rfl, q⟩
theorem call_isKT : CallR X (.builtin "isinstance") (rIsKT X.K) := by
  intro pins s σ H xs us Q I r h
  obtain ⟨a, C, tp, fs, cs, ws, b, rfl, T, ha, hT, k, e, q⟩ := h
  obtain ⟨u1, u2, rfl, r1, r2⟩ := vals2 r
  cases (show u2 = Value.ref tp from r2)
  cases (show u1 = Value.ref a from r1)
  obtain ⟨ox, od, mA, J, _⟩ := ha.inst I
  obtain ⟨_, its, rv, o, h1, h2, n, h3⟩ := (show ObjOk X.prog X.w H s.heap tp (.tup cs) from I.hok tp _ hT)
  have e3 := ClsV.all k rv
  subst e3
  obtain ⟨oc, od2, dt, sl⟩ := o
  simp only at h2 h3
  subst h2 h3
  exact PySem.W.kia_tup (XCl.kit (ox := ox) (od := some od) T) I.kIn J h1 e (fun z => nomatch z) fun tk => ⟨.bl b, H, I.tok tk, rfl, q⟩
/-- one rule or the other -/
theorem CallR.or2 {f : Value} {r1 r2 : List V → Hp → VK → Prop} (h1 : CallR X f r1) (h2 : CallR X f r2) : CallR X f (fun xs H Q => r1 xs H Q ∨ r2 xs H Q) := fun pins s σ H xs us Q I r h => h.elim (h1 pins s σ H xs us Q I r) (h2 pins s σ H xs us Q I r)
end
/-! ### raise C(..), the class with an own __init__ -/
theorem s_raise {C : Addr} {fs : List Str} {t : TA} {σ : L2.St} {H : Hp} {vs : List V} {Q : XK} (h : Evl.EvA t σ H vs) (hl : vs.length = fs.length) (hz : vs.length ≤ 1000)
    (k : ∀ d H2, Evl.Ex H H2 → H2 d = some (.xd (fs.zip vs).reverse) → Q (.ref C) (some d) H2) : tMkO C (spInitX C fs) [] t σ H Q :=
  h H (Evl.Ex.refl H) _ fun H1 e1 => ⟨hz, fun a ha => by
    refine ⟨a, vs, by rw [List.append_nil], hl, upd_same, fun d H' hd hne ea ed keep => ⟨rfl, d, _, ea, ed, ?_, k d _ (fun b o hb => ?_) upd_same⟩⟩
    · rw [upd_ne hne] at hd
      exact hd
    · have hb1 := e1 _ _ hb
      have nba : b ≠ a := ne_of_none hb1 ha
      have hb2 : upd H1 a (exo a C none) b = some o := by
        rw [upd_ne nba]
        exact hb1
      rw [upd_ne (ne_of_none hb2 hd)]
      show (if b = a then none else H' b) = some o
      rw [if_neg nba]
      exact keep b o hb2 nba⟩
end He
set_option Elab.async false
set_option linter.all false
set_option maxRecDepth 100000
set_option maxHeartbeats 4000000
set_option autoImplicit false
namespace K57
open PySem PySem.Spec PyProof.Rows L2 He Evl
section
variable {P : Program} {w : World} {K : PySem.W.Frag} {mg : Str → Option Value} {base : Heap} {X : Cx} {m : Nat} {e : Expr} {es : List Expr} {kws : List Keyword} {t : TA} {p pos : Pos}
theorem isFn_type {v : Value} (h : PySem.W.isFn K v = true) : PySem.W.typeIn K v = some (.type "function") := by
  unfold PySem.W.isFn at h
  exact eq_of_beq h
theorem mem_SignError : (("SignError", [], []) : Str × List Str × List Str) ∈ excs := List.mem_of_getElem? (i := 0) rfl
theorem xc_SignError (T : Tx K mg) : XCl K (ga K "SignError") := (excsB_cl T.xs mem_SignError).1
theorem x0_SignError (T : Tx X.K X.mg) (hr : Room m X.A) (hg : Gl X "SignError" := by rfl) : PE X (.Call (.Name "SignError" p) [] [] pos) (fun _ H Q => ∀ a, H a = none → Q (.ref a) (upd H a (exo a (ga X.K "SignError") none))) :=
  pe_xmk0 F.excBase_ValueError (exc_ok T.e_SignError).1 (xc_SignError T).oex.kC hg T.g_SignError
theorem mem_BadHeard : (("BadHeard", ["SignError"], ["part"]) : Str × List Str × List Str) ∈ excs := List.mem_of_getElem? (i := 1) rfl
theorem xc_BadHeard (T : Tx K mg) : XCl K (ga K "BadHeard") := (excsB_cl T.xs mem_BadHeard).1
theorem nf_BadHeard_part (T : Tx K mg) : PySem.W.findIn K (.ref (ga K "BadHeard")) "part" = some none := (excsB_cl T.xs mem_BadHeard).2.1 "part" (by simp)
theorem b_BadHeard_init (T : Tx K mg) : Binds K (fdOf K ("BadHeard", some "__init__")) ["self", "part"] [] := T.f_BadHeard_init.bindsN fun _ _ _ _ _ _ us hl => match us, hl with | [_, _], _ => rfl
theorem ok_BadHeard_init (T : Tx K mg) : FnOk P w K mg base CX0 1 (ma K (ga K "BadHeard") "__init__") (fdOf K ("BadHeard", some "__init__")) ["self", "part"] (spInitX (ga K "BadHeard") ["part"]) := by
  refine T.f_BadHeard_init.ok sc_BadHeard_init (fun vs H Q E h => spInit_len h) (fun cdv A outer s H vs Q E hr h => ?_)
  exact ⟨_, PSs.nox (pss_one (ps_ost (pv 0) (pv 1))), init1o rfl (xc_BadHeard T) (nf_BadHeard_part T) h⟩
theorem xi_BadHeard (T : Tx K mg) : XIn K (ga K "BadHeard") (ma K (ga K "BadHeard") "__init__") ["part"] := ⟨xc_BadHeard T, T.m_BadHeard.at_, isFn_type T.m_BadHeard.fn, (excsB_cl T.xs mem_BadHeard).2.1⟩
theorem xm_BadHeard (T : Tx X.K X.mg) (hr : Room m X.A) (ha : PA X (e :: es) t) (hm : 2 ≤ m := by decide) (hg : Gl X "BadHeard" := by rfl) (he : starEach (e :: es) X.env = (false, eval e X.env) :: starEach es X.env := by rfl) (hpl : (backTo pos (starEach es X.env)).any (·.1) = false := by rfl) :
    PE X (.Call (.Name "BadHeard" p) (e :: es) [] pos) (tXmk (ga X.K "BadHeard") ["part"] t) := pe_xmk (sc := default) (qual := "") (pa := default) (bd := []) (xi_BadHeard T) (ok_BadHeard_init T) (b_BadHeard_init T) (by decide) (hr.mono hm) hg T.g_BadHeard ha (by decide) he hpl
theorem xr_BadHeard {W : WX} {pos2 : Pos} (T : Tx X.K X.mg) (hr : Room m X.A) (tk : Takes X W) (ha : PA X (e :: es) t) (hm : 2 ≤ m := by decide) (hc : X.calm = true := by rfl) (hg : Gl X "BadHeard" := by rfl) (he : starEach (e :: es) X.env = (false, eval e X.env) :: starEach es X.env := by rfl) (hpl : (backTo pos (starEach es X.env)).any (·.1) = false := by rfl) :
    PS X (.Raise (some (.Call (.Name "BadHeard" p) (e :: es) [] pos)) none pos2) (fun _ σ H => tMkO (ga X.K "BadHeard") (spInitX (ga X.K "BadHeard") ["part"]) [] t σ H fun cls d H' => W cls d σ H') := ps_raise hc tk (pmk_oex (xc_BadHeard T).oex (xi_BadHeard T).init (xi_BadHeard T).tI (ok_BadHeard_init T) (hr.mono hm) (b_BadHeard_init T) .nil pass0 hg T.g_BadHeard ha (by decide) he hpl)
theorem mem_BadValue : (("BadValue", ["SignError"], ["part"]) : Str × List Str × List Str) ∈ excs := List.mem_of_getElem? (i := 2) rfl
theorem xc_BadValue (T : Tx K mg) : XCl K (ga K "BadValue") := (excsB_cl T.xs mem_BadValue).1
theorem nf_BadValue_part (T : Tx K mg) : PySem.W.findIn K (.ref (ga K "BadValue")) "part" = some none := (excsB_cl T.xs mem_BadValue).2.1 "part" (by simp)
theorem b_BadValue_init (T : Tx K mg) : Binds K (fdOf K ("BadValue", some "__init__")) ["self", "part"] [] := T.f_BadValue_init.bindsN fun _ _ _ _ _ _ us hl => match us, hl with | [_, _], _ => rfl
theorem ok_BadValue_init (T : Tx K mg) : FnOk P w K mg base CX0 1 (ma K (ga K "BadValue") "__init__") (fdOf K ("BadValue", some "__init__")) ["self", "part"] (spInitX (ga K "BadValue") ["part"]) := by
  refine T.f_BadValue_init.ok sc_BadValue_init (fun vs H Q E h => spInit_len h) (fun cdv A outer s H vs Q E hr h => ?_)
  exact ⟨_, PSs.nox (pss_one (ps_ost (pv 0) (pv 1))), init1o rfl (xc_BadValue T) (nf_BadValue_part T) h⟩
theorem xi_BadValue (T : Tx K mg) : XIn K (ga K "BadValue") (ma K (ga K "BadValue") "__init__") ["part"] := ⟨xc_BadValue T, T.m_BadValue.at_, isFn_type T.m_BadValue.fn, (excsB_cl T.xs mem_BadValue).2.1⟩
theorem xm_BadValue (T : Tx X.K X.mg) (hr : Room m X.A) (ha : PA X (e :: es) t) (hm : 2 ≤ m := by decide) (hg : Gl X "BadValue" := by rfl) (he : starEach (e :: es) X.env = (false, eval e X.env) :: starEach es X.env := by rfl) (hpl : (backTo pos (starEach es X.env)).any (·.1) = false := by rfl) :
    PE X (.Call (.Name "BadValue" p) (e :: es) [] pos) (tXmk (ga X.K "BadValue") ["part"] t) := pe_xmk (sc := default) (qual := "") (pa := default) (bd := []) (xi_BadValue T) (ok_BadValue_init T) (b_BadValue_init T) (by decide) (hr.mono hm) hg T.g_BadValue ha (by decide) he hpl
theorem xr_BadValue {W : WX} {pos2 : Pos} (T : Tx X.K X.mg) (hr : Room m X.A) (tk : Takes X W) (ha : PA X (e :: es) t) (hm : 2 ≤ m := by decide) (hc : X.calm = true := by rfl) (hg : Gl X "BadValue" := by rfl) (he : starEach (e :: es) X.env = (false, eval e X.env) :: starEach es X.env := by rfl) (hpl : (backTo pos (starEach es X.env)).any (·.1) = false := by rfl) :
    PS X (.Raise (some (.Call (.Name "BadValue" p) (e :: es) [] pos)) none pos2) (fun _ σ H => tMkO (ga X.K "BadValue") (spInitX (ga X.K "BadValue") ["part"]) [] t σ H fun cls d H' => W cls d σ H') := ps_raise hc tk (pmk_oex (xc_BadValue T).oex (xi_BadValue T).init (xi_BadValue T).tI (ok_BadValue_init T) (hr.mono hm) (b_BadValue_init T) .nil pass0 hg T.g_BadValue ha (by decide) he hpl)
theorem mem_Misfit : (("Misfit", ["SignError"], ["part"]) : Str × List Str × List Str) ∈ excs := List.mem_of_getElem? (i := 3) rfl
theorem xc_Misfit (T : Tx K mg) : XCl K (ga K "Misfit") := (excsB_cl T.xs mem_Misfit).1
theorem nf_Misfit_part (T : Tx K mg) : PySem.W.findIn K (.ref (ga K "Misfit")) "part" = some none := (excsB_cl T.xs mem_Misfit).2.1 "part" (by simp)
theorem b_Misfit_init (T : Tx K mg) : Binds K (fdOf K ("Misfit", some "__init__")) ["self", "part"] [] := T.f_Misfit_init.bindsN fun _ _ _ _ _ _ us hl => match us, hl with | [_, _], _ => rfl
theorem ok_Misfit_init (T : Tx K mg) : FnOk P w K mg base CX0 1 (ma K (ga K "Misfit") "__init__") (fdOf K ("Misfit", some "__init__")) ["self", "part"] (spInitX (ga K "Misfit") ["part"]) := by
  refine T.f_Misfit_init.ok sc_Misfit_init (fun vs H Q E h => spInit_len h) (fun cdv A outer s H vs Q E hr h => ?_)
  exact ⟨_, PSs.nox (pss_one (ps_ost (pv 0) (pv 1))), init1o rfl (xc_Misfit T) (nf_Misfit_part T) h⟩
theorem xi_Misfit (T : Tx K mg) : XIn K (ga K "Misfit") (ma K (ga K "Misfit") "__init__") ["part"] := ⟨xc_Misfit T, T.m_Misfit.at_, isFn_type T.m_Misfit.fn, (excsB_cl T.xs mem_Misfit).2.1⟩
theorem xm_Misfit (T : Tx X.K X.mg) (hr : Room m X.A) (ha : PA X (e :: es) t) (hm : 2 ≤ m := by decide) (hg : Gl X "Misfit" := by rfl) (he : starEach (e :: es) X.env = (false, eval e X.env) :: starEach es X.env := by rfl) (hpl : (backTo pos (starEach es X.env)).any (·.1) = false := by rfl) :
    PE X (.Call (.Name "Misfit" p) (e :: es) [] pos) (tXmk (ga X.K "Misfit") ["part"] t) := pe_xmk (sc := default) (qual := "") (pa := default) (bd := []) (xi_Misfit T) (ok_Misfit_init T) (b_Misfit_init T) (by decide) (hr.mono hm) hg T.g_Misfit ha (by decide) he hpl
theorem xr_Misfit {W : WX} {pos2 : Pos} (T : Tx X.K X.mg) (hr : Room m X.A) (tk : Takes X W) (ha : PA X (e :: es) t) (hm : 2 ≤ m := by decide) (hc : X.calm = true := by rfl) (hg : Gl X "Misfit" := by rfl) (he : starEach (e :: es) X.env = (false, eval e X.env) :: starEach es X.env := by rfl) (hpl : (backTo pos (starEach es X.env)).any (·.1) = false := by rfl) :
    PS X (.Raise (some (.Call (.Name "Misfit" p) (e :: es) [] pos)) none pos2) (fun _ σ H => tMkO (ga X.K "Misfit") (spInitX (ga X.K "Misfit") ["part"]) [] t σ H fun cls d H' => W cls d σ H') := ps_raise hc tk (pmk_oex (xc_Misfit T).oex (xi_Misfit T).init (xi_Misfit T).tI (ok_Misfit_init T) (hr.mono hm) (b_Misfit_init T) .nil pass0 hg T.g_Misfit ha (by decide) he hpl)
end
end K57
set_option Elab.async false
set_option linter.all false
set_option maxRecDepth 100000
set_option maxHeartbeats 4000000
set_option autoImplicit false
namespace K57
open PySem PySem.Spec PyProof.Rows L2 He Evl
def ErrX (K : PySem.W.Frag) (H : Hp) (E : XK) (C : Str) (fs : List (Str × V)) : Prop := ∀ d H2, Ex H H2 → H2 d = some (.xd fs) → E (.ref (ga K C)) (some d) H2
theorem ErrX.ex {K : PySem.W.Frag} {H H' : Hp} {E : XK} {C : Str} {fs : List (Str × V)} (h : ErrX K H E C fs) (e : Ex H H') : ErrX K H' E C fs := fun d H2 e2 h2 => h d H2 (e.trans e2) h2
/-- refused if b is false, else k -/
def OrX (K : PySem.W.Frag) (H : Hp) (E : XK) (b : Bool) (C : Str) (part : Str) (k : Prop) : Prop := (b = false → ErrX K H E C [("part", .str part)]) ∧ (b = true → k)
def spCheckH (K : PySem.W.Frag) : Sp := fun vs H Q E => ∃ (x : V), vs = [x] ∧ EOk K H x ∧ OrX K H E (heardV x) "BadHeard" "heard" (RetV .non H Q)
def spCheckV (K : PySem.W.Frag) : Sp := fun vs H Q E => ∃ (x : V), vs = [x] ∧ EOk K H x ∧ OrX K H E (valueV x) "BadValue" "value" (RetV .non H Q)
def butLast (z : Str) : Str := ⟨(z.cps.toList.dropLast).toArray⟩
def lastOf (z : Str) : Str := ⟨#[z.cps.toList.getLastD 0]⟩
def spCons (K : PySem.W.Frag) : Sp := fun vs H Q E => ∃ (x : V), vs = [x] ∧ EOk K H x ∧ OrX K H E (valueV x) "BadValue" "value" (∀ z, x = .str z → RetV (.str (butLast z)) H Q)
def spVow (K : PySem.W.Frag) : Sp := fun vs H Q E => ∃ (x : V), vs = [x] ∧ EOk K H x ∧ OrX K H E (valueV x) "BadValue" "value" (∀ z, x = .str z → RetV (.str (lastOf z)) H Q)
theorem cut_butS {z : Str} (h : 1 ≤ z.length) : cutS z none (some (-1)) = butLast z := by
  have hz : z.length = z.cps.toList.length := (Array.length_toList).symm
  have e1 : HT.sIx z.length 0 none = 0 := rfl
  have e2 : HT.sIx z.length z.length (some (-1)) = z.length - 1 := by
    show (if (-1 : Int) < 0 then ((-1 : Int) + (z.length : Int)).toNat else min (-1 : Int).toNat z.length) = z.length - 1
    rw [if_pos (by decide)]
    omega
  unfold cutS butLast
  rw [e1, e2, List.drop_zero, Nat.sub_zero, hz, List.dropLast_eq_take]
theorem val_split {x : V} (h : valueV x = true) : ∃ z, x = .str z ∧ ∃ (c : Nat) (r : List Nat) (v : Nat) (l0 : List Nat), z.cps.toList = c :: r ∧ z.cps.toList = l0 ++ [v] ∧ 1 ≤ z.length ∧ z.length ≤ 2 := by
  cases x with
  | str z =>
    have hb : heardV (.str z) = true := by
      have z1 : valueB z = true := h
      unfold valueB at z1
      exact (Bool.and_eq_true_iff.mp (Bool.and_eq_true_iff.mp (Bool.and_eq_true_iff.mp z1).1).1).1
    obtain ⟨c, r, v, l0, hc, hv, l1, l12, hval⟩ := heard_split hb
    rw [hval] at h
    exact ⟨z, rfl, c, r, v, l0, hc, hv, l1, of_decide_eq_true (Bool.and_eq_true_iff.mp (Bool.and_eq_true_iff.mp h).1).1⟩
  | _ => cases h
section
variable {P : Program} {w : World} {K : PySem.W.Frag} {mg : Str → Option Value} {base : Heap}
theorem ev_slS {σ : L2.St} {H : Hp} {te : TE} {z : Str} {tl th : TO} {lo hi : Option Int} (h : Ev te σ H (.str z)) (h1 : EvO tl σ H lo) (h2 : EvO th σ H hi) (hz : z.length ≤ 1000) : Ev (tSl rSlS te tl th) σ H (.str (cutS z lo hi)) := fun H1 e Q q =>
  h H1 e _ fun H2 e2 => h1 H2 (e.trans e2) _ fun H3 e3 => h2 H3 ((e.trans e2).trans e3) _ fun H4 e4 => ⟨z, rfl, sz_of (n := z.length) (by omega), q H4 ((e2.trans e3).trans e4)⟩
theorem ev_neg {σ : L2.St} {H : Hp} {i : Int} {te : TE} (h : Ev te σ H (.int i)) : Ev (tUn (rU fun i => .int (-i)) te) σ H (.int (-i)) := fun H1 e Q q => h H1 e _ fun H2 e2 => ⟨i, rfl, q H2 e2⟩
theorem b_check_heard (T : Tx K mg) : Binds K (fdOf K ("check_heard", none)) ["heard"] [] := T.f_check_heard.bindsN fun _ _ _ _ _ _ us hl => match us, hl with | [_], _ => rfl
theorem b_check_value (T : Tx K mg) : Binds K (fdOf K ("_check_value", none)) ["value"] [] := T.f_check_value.bindsN fun _ _ _ _ _ _ us hl => match us, hl with | [_], _ => rfl
theorem b_consonant_of (T : Tx K mg) : Binds K (fdOf K ("consonant_of", none)) ["value"] [] := T.f_consonant_of.bindsN fun _ _ _ _ _ _ us hl => match us, hl with | [_], _ => rfl
theorem b_vowel_of (T : Tx K mg) : Binds K (fdOf K ("vowel_of", none)) ["value"] [] := T.f_vowel_of.bindsN fun _ _ _ _ _ _ us hl => match us, hl with | [_], _ => rfl
theorem ok_check_heard (T : Tx K mg) : FnOk P w K mg base (L2.CX P w) 3 (ga K "check_heard") (fdOf K ("check_heard", none)) ["heard"] (spCheckH K) := by
  refine T.f_check_heard.ok sc_check_heard (fun vs H Q E h => ?_) (fun cdv A outer s H vs Q E hr h => ?_)
  · obtain ⟨x, rfl, _⟩ := h
    rfl
  · refine ⟨_, (pss_one (ps_if (pt_not (pt_val (pe_call (ok_is_heard T) (hr.mono (by decide)) (by rfl) T.g_is_heard T.f_is_heard.kp (b_is_heard T) .nil pass0 (pa_cons (pv 0) pa_nil))))
        (pss_one (xr_BadHeard T hr (takes_of rfl rfl rfl rfl) (pa_cons pe_str pa_nil)))
        pss_nil)), ?_⟩
    -- slots: [(0, 'heard')]
    obtain ⟨x, rfl, hx, k1, k2⟩ := h
    refine s_when (b := !heardV x) (et_not (et_B (ev_call (ea_cons (ev_var rfl) ea_nil) fun H1 e Q q E => ⟨x, rfl, hx.ex e, q⟩))) (fun z1 H1 e1 => ?_) (fun z1 H1 e1 => ?_)
    · exact s_raise (ea_cons ev_c ea_nil) rfl (by show 1 ≤ 1000; decide) fun d H2 e2 h2 => k1 (by revert z1; cases heardV x <;> simp) d H2 (e1.trans e2) h2
    · exact k2 (by revert z1; cases heardV x <;> simp) H1 e1
theorem ok_check_value (T : Tx K mg) : FnOk P w K mg base (L2.CX P w) 3 (ga K "_check_value") (fdOf K ("_check_value", none)) ["value"] (spCheckV K) := by
  refine T.f_check_value.ok sc_check_value (fun vs H Q E h => ?_) (fun cdv A outer s H vs Q E hr h => ?_)
  · obtain ⟨x, rfl, _⟩ := h
    rfl
  · refine ⟨_, (pss_one (ps_if (pt_not (pt_val (pe_call (ok_is_value T) (hr.mono (by decide)) (by rfl) T.g_is_value T.f_is_value.kp (b_is_value T) .nil pass0 (pa_cons (pv 0) pa_nil))))
        (pss_one (xr_BadValue T hr (takes_of rfl rfl rfl rfl) (pa_cons pe_str pa_nil)))
        pss_nil)), ?_⟩
    -- slots: [(0, 'value')]
    obtain ⟨x, rfl, hx, k1, k2⟩ := h
    refine s_when (b := !valueV x) (et_not (et_B (ev_call (ea_cons (ev_var rfl) ea_nil) fun H1 e Q q E => ⟨x, rfl, hx.ex e, q⟩))) (fun z1 H1 e1 => ?_) (fun z1 H1 e1 => ?_)
    · exact s_raise (ea_cons ev_c ea_nil) rfl (by show 1 ≤ 1000; decide) fun d H2 e2 h2 => k1 (by revert z1; cases valueV x <;> simp) d H2 (e1.trans e2) h2
    · exact k2 (by revert z1; cases valueV x <;> simp) H1 e1
theorem ok_consonant_of (T : Tx K mg) : FnOk P w K mg base (L2.CX P w) 4 (ga K "consonant_of") (fdOf K ("consonant_of", none)) ["value"] (spCons K) := by
  refine T.f_consonant_of.ok sc_consonant_of (fun vs H Q E h => ?_) (fun cdv A outer s H vs Q E hr h => ?_)
  · obtain ⟨x, rfl, _⟩ := h
    rfl
  · refine ⟨_, (pss_cons (ps_expr (pe_call (ok_check_value T) (hr.mono (by decide)) (by rfl) T.g_check_value T.f_check_value.kp (b_check_value T) .nil (passes_call (takes_of rfl rfl rfl rfl) (fun _ _ _ _ h => h)) (pa_cons (pv 0) pa_nil)))
      (pss_one (ps_ret (pe_slice sl_str (pv 0) po_none (po_some (pe_un un_neg pe_int)))))), ?_⟩
    -- slots: [(0, 'value')]
    obtain ⟨x, rfl, hx, k1, k2⟩ := h
    refine ⟨_, rfl, x, rfl, hx, k1, fun hb H1 e1 => ?_⟩
    obtain ⟨z, rfl, c, r, v, l0, hc, hv, l1, l2⟩ := val_split hb
    refine s_ret (v := .str (butLast z)) (ev_is (ev_slS (ev_var rfl) eo_none (eo_some (ev_neg ev_c)) (show z.length ≤ 1000 by omega)) (congrArg V.str (cut_butS l1))) fun H2 e2 => k2 hb z rfl H2 (e1.trans e2)
theorem ok_vowel_of (T : Tx K mg) : FnOk P w K mg base (L2.CX P w) 4 (ga K "vowel_of") (fdOf K ("vowel_of", none)) ["value"] (spVow K) := by
  refine T.f_vowel_of.ok sc_vowel_of (fun vs H Q E h => ?_) (fun cdv A outer s H vs Q E hr h => ?_)
  · obtain ⟨x, rfl, _⟩ := h
    rfl
  · refine ⟨_, (pss_cons (ps_expr (pe_call (ok_check_value T) (hr.mono (by decide)) (by rfl) T.g_check_value T.f_check_value.kp (b_check_value T) .nil (passes_call (takes_of rfl rfl rfl rfl) (fun _ _ _ _ h => h)) (pa_cons (pv 0) pa_nil)))
      (pss_one (ps_ret (pe_ix ix_str (pv 0) (pe_un un_neg pe_int) (fun _ _ => rfl))))), ?_⟩
    -- slots: [(0, 'value')]
    obtain ⟨x, rfl, hx, k1, k2⟩ := h
    refine ⟨_, rfl, x, rfl, hx, k1, fun hb H1 e1 => ?_⟩
    obtain ⟨z, rfl, c, r, v, l0, hc, hv, l1, l2⟩ := val_split hb
    have lz : lastOf z = ⟨#[v]⟩ := by
      unfold lastOf
      rw [hv]
      simp
    refine s_ret (v := .str ⟨#[v]⟩) (ev_op (ev_var rfl) (fun H1 e Q q => ⟨1, rfl, q H1 (Ex.refl H1)⟩) (rv_ixS (show z.length ≤ 100000 by omega) (by rw [hv]; exact atI_last l0 v))) fun H2 e2 => ?_
    have z2 := k2 hb z rfl H2 (e1.trans e2)
    rw [lz] at z2
    exact z2
end
end K57
set_option Elab.async false
set_option linter.all false
set_option maxRecDepth 100000
set_option maxHeartbeats 4000000
set_option autoImplicit false
/-! enumerate of a text. -/
namespace L2
open PySem PySem.Spec PyProof.Rows
theorem isStrIter_at {h h' : Heap} {it : Addr} {ty : String} {x : Str} {t : Tok} {i : Nat} (q : h.IsStrIter it ty x t i) (k : ∀ o, h.get? it = some o → h'.get? it = some o) : h'.IsStrIter it ty x t i := let ⟨o, ho, r⟩ := q; ⟨o, k o ho, r⟩
theorem text_end {prog : Program} {w : World} {A : Around} {s : Shared} {it : Addr} {x : Str} {t : Tok} {i : Nat} {Q : Value → Shared → Prop} {E : Value → Shared → Prop} (hh : A.handled = none) (hit : s.heap.IsStrIter it (strIterType x) x t i) (hx : x.cps.size ≤ i)
    (hE : ∀ h' e, Heap.ExtBut it s.heap h' → (∃ o, h'.get? e = some o ∧ o.cls = .type "StopIteration") → E (.ref e) { s with heap := h' }) : wpAny (model prog w) A (Builtin.SmallTypes.nextOf (.ref it)) Q E s := by
  have hx2 : x.cps[i]? = none := Array.getElem?_eq_none hx
  unfold strIterType at hit
  cases ha : x.cps.all (· < 128)
  · simp only [ha, Bool.false_eq_true, if_false] at hit
    exact wpAny_nextOf_wide_end hh hit hx2 hE
  · simp only [ha, if_true] at hit
    exact wpAny_nextOf_ascii_end hh hit hx2 hE
/-- a text's signs in new pairs -/
def IteS (x : Str) : It :=
  ⟨fun i _ => i < x.cps.size, fun i H v H' => ∃ T c, v = .ref T ∧ H T = none ∧ H' = upd H T (.tup [.int (i : Nat), .str ⟨#[c]⟩]) ∧ x.cps[i]? = some c, fun i _ => x.cps.size ≤ i⟩
theorem turn_enumS {P : Program} {w : World} {K : PySem.W.Frag} {elts : List Expr} {kk : Nat} {tpos : Pos} (x : Str) (t : Tok) (e it : Addr) :
    Turn P w K (.Tuple elts kk tpos) (IteS x) [e, it] e (fun i h => (∃ old, IsEnum h e it ((i : Nat) : Int) old) ∧ h.IsStrIter it (strIterType x) x t i ∧ e ≠ it) where
  mem := by simp
  obj := fun i h st b hb => by
    obtain ⟨⟨old, he⟩, ⟨o, ho, hc, hd⟩, _⟩ := st
    have e' : b = e ∨ b = it := by simpa using hb
    rcases e' with z | z
    · rw [z]; exact ⟨_, he, fun v q => nomatch q⟩
    · rw [z]; exact ⟨o, ho, fun v q => by rw [hd] at q; cases q⟩
  keep := fun i h h' st k => let ⟨⟨old, he⟩, hi, hne⟩ := st; ⟨⟨old, k e (by simp) _ he⟩, isStrIter_at hi fun o q => k it (by simp) o q, hne⟩
  item := by
    intro X hP hw hK hc i pins s σ H E I hf st hg
    subst hP hw hK
    obtain ⟨⟨old, he⟩, hit, hne⟩ := st
    have hel : e < s.heap.objs.size := Heap.lt_size he
    have hil : it < s.heap.objs.size := by obtain ⟨_, q, _⟩ := hit; exact Heap.lt_size q
    refine wpAny_pyNext_enum_itemD (Draws.text (A := X.A.in1) (I.ok.hd hc) it x t) he hit hg hne (by simp [hne]) fun v h' tk hv ho hit' hT hsz hk => ?_
    obtain ⟨c, u, hc2, rfl⟩ := hv
    refine ⟨_, rfl, wpAny_letOwnedTupleGo_enum (s := { s with heap := h', toks := tk + 1 }) ho fun h'' he' sb => ?_⟩
    have hT2 : h''.get? s.heap.objs.size = some { cls := .type "tuple", data := .seq #[.int i tk, .str ⟨#[c]⟩ u] } := (sb.2 _ (Nat.ne_of_gt hel)).trans hT
    have new : ObjOk X.prog X.w (upd H s.heap.objs.size (.tup [.int (i : Nat), .str ⟨#[c]⟩])) h'' s.heap.objs.size (.tup [.int (i : Nat), .str ⟨#[c]⟩]) :=
      ⟨by show 2 ≤ sizeLine; decide, [.int i tk, .str ⟨#[c]⟩ u], .cons ⟨_, rfl⟩ (.cons ⟨u, rfl⟩ .nil), ⟨_, hT2, rfl, _, rfl⟩⟩
    have I1 : Inv X pins σ (upd H s.heap.objs.size (.tup [.int (i : Nat), .str ⟨#[c]⟩])) { s with heap := h'', toks := tk + 1 } :=
      I.turnedNew (ch := [e, it]) (fun b ob hb q => (sb.2 b (fun z => hb (by simp [z]))).trans (hk b ob (fun z => hb (by simp [z])) (fun z => hb (by simp [z])) q)) hf (Nat.le_refl _) new
    refine ⟨.ref s.heap.objs.size, _, I1, rfl, ⟨_, c, rfl, I.hok.fresh (Nat.le_refl _), rfl, hc2⟩, ⟨⟨.str ⟨#[c]⟩ u, ?_⟩, isStrIter_at hit' fun o q => (sb.2 it (Ne.symm hne)).trans q, hne⟩, fun b hb => ?_⟩
    · have e1 : ((i + 1 : Nat) : Int) = (i : Int) + 1 := by omega
      rw [e1]; exact he'
    · have hb' : b < s.heap.objs.size := by
        have e' : b = e ∨ b = it := by simpa using hb
        rcases e' with z | z
        · rw [z]; exact hel
        · rw [z]; exact hil
      rw [upd_ne (Nat.ne_of_lt hb')]
      exact (hf b hb).1
  done := by
    intro X hP hw hK hc i pins s σ H E I hf st hg
    subst hP hw hK
    obtain ⟨⟨old, he⟩, hit, hne⟩ := st
    obtain ⟨f0, f1, f2, f3, f4, f5⟩ := hf it (by simp)
    have hT : s.TypeIs (.ref e) "enumerate" := ⟨_, he, rfl⟩
    have hge : x.cps.size ≤ i := hg
    unfold pyNext
    refine wpAny_bind (wpAny_attempt (wpAny_callSpecial?_slot (name := Str.ofString "__next__") hT F.slot_enumerate_next
      (wpAny_call_entry F.slot_enumerate_next hT F.entry_enumerate_next ?_ (F.args_enumerate_next_1 _))))
    show wpAny _ _ (field (.ref e) 2 >>= _) _ _ _
    refine wpAny_bind (wpAny_field he rfl (x := .ref it) rfl ?_)
    refine wpAny_bind (text_end (A := X.A.in1) (I.ok.hd hc) hit hge fun h' x he' hx' => ?_)
    obtain ⟨o, ho, hc'⟩ := hx'
    refine wpAny_bind (wpAny_isInstance (T := "StopIteration") (b := true) ⟨o, ho, hc'⟩ isSubtype_stop ?_)
    exact wpAny_pure ⟨rfl, I.turned (t' := s.toks) (fun b o hb q => he' b o hb q) f0 f1 f3 f4 f5⟩
  self := fun A i s Q E st h => let ⟨⟨_, he⟩, _⟩ := st; wpAny_pyIter_enum he h
def iEnumS (ta : TA) : TI := fun σ H R => ta σ H fun vs H1 => ∃ x, vs = [.str x] ∧ R (IteS x) H1
theorem pi_enumS {X : Cx} {e : Expr} {ta : TA} {p pos tpos : Pos} {elts : List Expr} {kk : Nat} (hg : Gl X "enumerate") (hm : X.mg "enumerate" = none) (ha : PA X [e] ta) (hs : starEach [e] X.env = [(false, eval e X.env)] := by rfl) :
    PI X (.Tuple elts kk tpos) (.Call (.Name "enumerate" p) [e] [] pos) (iEnumS ta) := by
  refine ⟨fun pins s σ H R I h => ?_⟩
  refine Call_ (ld_blt I hg hm boot_enumerate (PyProof.Rows.callWith_type1 (thn (ha.run pos pins s σ H _ I h) fun us s1 ⟨vs, H1, I1, r1, q1⟩ => ?_) hs rfl))
  obtain ⟨x, ex, q⟩ := q1
  subst ex
  cases r1 with
  | cons r rr =>
    cases rr
    obtain ⟨t, rfl⟩ := r
    refine enum_begins1 (begins_text x t) trivial fun h' he hit hsz hk => wpAny_pyIter_enum he ?_
    have I2 : Inv X pins σ H1 { s1 with heap := h' } := I1.kept (t' := s1.toks) hk
    refine ⟨s1.heap.objs.size + 1, [s1.heap.objs.size + 1, s1.heap.objs.size], _, _, H1, rfl, I2, turn_enumS x t (s1.heap.objs.size + 1) s1.heap.objs.size, ⟨⟨.none, he⟩, ⟨_, hit, rfl, rfl⟩, Nat.succ_ne_self _⟩, fun b hb => ?_, q⟩
    have e' : b = s1.heap.objs.size + 1 ∨ b = s1.heap.objs.size := by simpa using hb
    have hle : s1.heap.objs.size ≤ b := by
      rcases e' with z | z
      · rw [z]; exact Nat.le_add_right _ _
      · rw [z]; exact Nat.le_refl _
    exact I1.fpOk hle (I1.hok.fresh hle)
end L2
set_option Elab.async false
set_option linter.all false
set_option maxRecDepth 100000
set_option maxHeartbeats 4000000
set_option autoImplicit false
/-! loops over a text's signs with their numbers; comprehensions over a text with a test. -/
namespace K57
open PySem PySem.Spec PyProof.Rows L2 He Evl
section
variable {K : PySem.W.Frag} {σ : L2.St} {H : Hp} {te tl : TE} {t : TT} {D : Ends} {tu : TS} {z : Str}
theorem walk_enS : Walk (IteS z) z.cps.size (fun _ => True) (fun i H v H' => ∃ T c, v = .ref T ∧ H T = none ∧ H' = upd H T (.tup [.int (i : Nat), .str ⟨#[c]⟩]) ∧ z.cps[i]? = some c) :=
  ⟨fun _ _ hi _ => hi, fun _ _ => Nat.le_refl _, fun _ _ _ _ _ _ y => y⟩
theorem s_enS {i j k n : Nat} (hn : n = 2) (hv : σ[k]? = some (some (.str z))) (Pv : Nat → L2.St → Hp → Prop) (h0 : Pv 0 σ H)
    (hs : ∀ (m c : Nat) (σ' : L2.St) (H' H'' : Hp), m < z.cps.size → z.cps.toList[m]? = some c → Pv m σ' H' → Ex H' H'' →
      tu { D with nx := Pv (m + 1), ct := Pv (m + 1), bk := D.nx } ((σ'.set i (some (.int (m : Nat)))).set j (some (.str ⟨#[c]⟩))) H'') (hd : ∀ σ' H', Pv z.cps.size σ' H' → D.nx σ' H') :
    tFor (iEnumS (tCons (tVar k) tNil)) (gTup K n (gCons (gName i) (gCons (gName j) gNil))) tu D σ H := by
  subst hn
  refine ⟨_, hv, z, rfl, ?_⟩
  refine for_it walk_enS Pv h0 (fun _ _ _ _ _ => trivial) ?_ hd
  rintro m y σ' H' H'' hi hp ⟨T, c, rfl, hT, rfl, hc⟩
  refine ⟨T, _, rfl, SqT.of upd_same, rfl, _, _, rfl, _, _, rfl, rfl, ?_⟩
  exact hs m c σ' H' _ hi (by simpa using hc) hp (Ex.new hT)
theorem given_get (cs : List Nat) (f : Nat → Bool) (g : Nat → V) : given cs.length (fun i => f (cs.getD i 0)) (fun i => g (cs.getD i 0)) = (cs.filter f).map g := by
  have e : (List.range cs.length).map (fun i => cs.getD i 0) = cs := by
    refine List.ext_getElem? fun i => ?_
    rw [List.getElem?_map]
    by_cases hi : i < cs.length
    · rw [List.getElem?_range hi, List.getElem?_eq_getElem hi, Option.map_some, List.getD_eq_getElem?_getD, List.getElem?_eq_getElem hi]
      rfl
    · rw [List.getElem?_eq_none (by rw [List.length_range]; omega), List.getElem?_eq_none (by omega)]
      rfl
  unfold given
  conv => rhs; rw [← e, List.filter_map, List.map_map]
  rfl
/-- [f(c) for c in text if t(c)] -/
theorem el_lcStrT {j : Nat} {vs : List Nat} (f : Nat → Bool) (g : Nat → V) (h : Ev tl σ H (.str z)) (hz : z.length ≤ 40000) (hw : ∀ x, wipe ((wipe σ vs).set j (some x)) vs = wipe σ vs)
    (ht : ∀ (c : Nat) H1, Ex H H1 → c ∈ z.cps.toList → EvT t ((wipe σ vs).set j (some (.str ⟨#[c]⟩))) H1 (f c)) (he : ∀ (c : Nat) H1, Ex H H1 → c ∈ z.cps.toList → f c = true → Ev te ((wipe σ vs).set j (some (.str ⟨#[c]⟩))) H1 (g c)) :
    EvL (tLc (iStr tl) (gName j) t te vs) σ H ((z.cps.toList.filter f).map g) := by
  have hn : z.cps.size = z.cps.toList.length := (Array.length_toList).symm
  rw [← given_get, ← hn]
  refine el_lcW (J := Its z) (n := z.cps.size) (G := fun _ => True) (ys := fun i v => ∃ c, z.cps[i]? = some c ∧ v = .str ⟨#[c]⟩) _ _ walk_str (fun H1 e R q => h H1 e _ fun H2 e2 => ⟨z, rfl, q H2 e2 trivial⟩) (fun _ _ _ _ => trivial) hz hw (fun i x H1 e hi hy => ?_) (fun i x H1 e hi hy hf => ?_)
  · obtain ⟨c, hc, rfl⟩ := hy
    have hc2 : z.cps.toList[i]? = some c := by simpa using hc
    rw [List.getD_eq_getElem?_getD, hc2]
    exact ht c H1 e (List.mem_of_getElem? hc2)
  · obtain ⟨c, hc, rfl⟩ := hy
    have hc2 : z.cps.toList[i]? = some c := by simpa using hc
    rw [List.getD_eq_getElem?_getD, hc2] at hf ⊢
    exact he c H1 e (List.mem_of_getElem? hc2) hf
end
end K57
set_option Elab.async false
set_option linter.all false
set_option maxRecDepth 100000
set_option maxHeartbeats 4000000
set_option autoImplicit false
namespace K57
open PySem PySem.Spec PyProof.Rows L2 He Evl
def at0 (cs : List Nat) (i : Nat) : Nat := cs.getD i 0
/-- what the letter i makes: a syllable or none -/
def sylAt (cs : List Nat) (nx : Bool) (i : Nat) : Option Str :=
  if vow (at0 cs i) then some (if decide (0 < i) && !vow (at0 cs (i - 1)) then ⟨#[at0 cs (i - 1), at0 cs i]⟩ else ⟨#[at0 cs i]⟩)
  else if nx then (match (cs.drop (i + 1)).filter vow with
    | [] => none
    | v :: _ => if vow (at0 cs (i + 1)) then none else some ⟨#[at0 cs i, v]⟩)
  else none
def sylN (cs : List Nat) (nx : Bool) (n : Nat) : List Str := (List.range n).filterMap (sylAt cs nx)
def sylF (z : Str) (nx : Bool) : List Str := sylN z.cps.toList nx z.cps.toList.length
def wayV (x : V) : Bool := decide (x = .str "drop") || decide (x = .str "next")
def spSyl (K : PySem.W.Frag) : Sp := fun vs H Q E => ∃ (x y : V), vs = [x, y] ∧ EOk K H x ∧ EOk K H y ∧ OrX K H E (heardV x) "BadHeard" "heard" (OrX K H E (wayV y) "BadHeard" "way" (∀ z, x = .str z → ∀ a H', Ex H H' → H a = none → H' a = some (.tup ((sylF z (decide (y = .str "next"))).map V.str)) → Q (.ref a) H'))
theorem one_way (y : V) : (isStr y && inV y [.str "drop", .str "next"]) = wayV y := by
  cases y with
  | str w =>
    show (true && _) = _
    unfold wayV
    rw [Bool.true_and]
    have h2 : ∀ a b : Str, eqV (.str a) (.str b) = decide (V.str b = .str a) := fun a b => by
      rw [dec_str]
      show (a == b) = (b == a)
      exact Bool.beq_comm
    show (eqV (.str "drop") (.str w) || (eqV (.str "next") (.str w) || false)) = _
    rw [h2, h2, Bool.or_false]
  | _ => first | rfl | decide
theorem atI_at0 {cs : List Nat} {i : Int} {j : Nat} (e : i = (j : Int)) (h : j < cs.length) : atI cs i = some (at0 cs j) := by
  rw [e]
  refine atI_nat ?_
  unfold at0
  rw [List.getD_eq_getElem?_getD, List.getElem?_eq_getElem h]
  rfl
theorem way_str {y : V} (h : wayV y = true) : ∃ w, y = .str w := by
  cases y with
  | str w => exact ⟨w, rfl⟩
  | _ => simp [wayV] at h
theorem cut_fromS {z : Str} {m : Nat} : (cutS z (some ((m : Int) + 1)) none).cps.toList = z.cps.toList.drop (m + 1) := by
  have e1 : HT.sIx z.length 0 (some ((m : Int) + 1)) = min (m + 1) z.length := by
    show (if ((m : Int) + 1) < 0 then (((m : Int) + 1) + (z.length : Int)).toNat else min ((m : Int) + 1).toNat z.length) = _
    rw [if_neg (by omega)]
    rfl
  have e2 : HT.sIx z.length z.length none = z.length := rfl
  have nz : z.length = z.cps.toList.length := (Array.length_toList).symm
  unfold cutS
  rw [e1, e2]
  show List.take _ (List.drop _ _) = _
  rw [List.take_of_length_le (by rw [List.length_drop, nz]; exact Nat.le_refl _)]
  rcases Nat.le_total (m + 1) z.length with h | h
  · rw [Nat.min_eq_left h]
  · rw [Nat.min_eq_right h, nz, List.drop_length, List.drop_eq_nil_of_le (by omega)]
theorem sylN_succ (cs : List Nat) (nx : Bool) (m : Nat) : sylN cs nx (m + 1) = sylN cs nx m ++ (sylAt cs nx m).toList := by
  unfold sylN
  rw [List.range_succ, List.filterMap_append]
  cases h : sylAt cs nx m <;> simp [h]
theorem sylN_len (cs : List Nat) (nx : Bool) (m : Nat) : (sylN cs nx m).length ≤ m := by
  have h := List.length_filterMap_le (sylAt cs nx) (List.range m)
  rw [List.length_range] at h
  exact h
section
variable {P : Program} {w : World} {K : PySem.W.Frag} {mg : Str → Option Value} {base : Heap}
theorem b_syllables (T : Tx K mg) : Binds K (fdOf K ("syllables", none)) ["heard", "way"] [] := T.f_syllables.bindsN fun _ _ _ _ _ _ us hl => match us, hl with | [_, _], _ => rfl
theorem ok_syllables (T : Tx K mg) : FnOk P w K mg base (L2.CX P w) 4 (ga K "syllables") (fdOf K ("syllables", none)) ["heard", "way"] (spSyl K) := by
  refine T.f_syllables.ok sc_syllables (fun vs H Q E h => ?_) (fun cdv A outer s H vs Q E hr h => ?_)
  · obtain ⟨x, y, rfl, _⟩ := h
    rfl
  · refine ⟨_, (pss_cons (ps_expr (pe_call (ok_check_heard T) (hr.mono (by decide)) (by rfl) T.g_check_heard T.f_check_heard.kp (b_check_heard T) .nil (passes_call (takes_of rfl rfl rfl rfl) (fun _ _ _ _ h => h)) (pa_cons (pv 0) pa_nil)))
      (pss_cons (ps_if (pt_not (pt_val (pe_call (ok_is_one_of T) (hr.mono (by decide)) (by rfl) T.g_is_one_of T.f_is_one_of.kp (b_is_one_of T) .nil pass0 (pa_cons (pv 1) (pa_cons (pe_glob (v := .ref (ga K "WAYS")) (by rfl) T.g_WAYS rfl) pa_nil)))))
        (pss_one (xr_BadHeard T hr (takes_of rfl rfl rfl rfl) (pa_cons pe_str pa_nil)))
        pss_nil)
      (pss_cons (ps_set (i := 2) sc_syllables.nd rfl (.inl rfl) (pe_lst pa_nil))
      (pss_cons (ps_for (passes_of rfl) rfl (pi_enumS (by rfl) T.n_enumerate (pa_cons (pv 0) pa_nil)) (pg_tup rfl (pgs_cons (pg_name (i := 3) sc_syllables.nd rfl (.inl rfl)) (pgs_cons (pg_name (i := 4) sc_syllables.nd rfl (.inl rfl)) pgs_nil)))
        (pss_one (ps_if (pt_cmpR op_in_sign (pv 4) (pe_glob (v := .str "aeiou") (by rfl) T.g_VOWELS.choose_spec ⟨_, rfl⟩) (by rfl))
          (pss_cons (ps_set (i := 5) sc_syllables.nd rfl (.inl rfl) (pe_and (pe_cmpR op_gt (pv 3) pe_int (nomark _)) (pe_one (pe_cmpR op_notIn_sign (pe_ix ix_str (pv 0) (pe_op op_sub (pv 3) pe_int) (fun _ _ => rfl)) (pe_glob (v := .str "aeiou") (by rfl) T.g_VOWELS.choose_spec ⟨_, rfl⟩) (by rfl)))))
          (pss_one (ps_expr (pe_bm PySem.F.plainAttrs_list PySem.F.slot_list_append PySem.F.type_list_append mt_append (pv 2) (pa_cons (pe_ifExp (pt_val (pv 5)) (pe_op op_add_str (pe_ix ix_str (pv 0) (pe_op op_sub (pv 3) pe_int) (fun _ _ => rfl)) (pv 4)) (pv 4)) pa_nil)))))
          (pss_one (ps_if (pt_cmpR op_eq (pv 1) pe_str (nomark _))
            (pss_cons (ps_setLc (i := 6) (own := [("vowel", 7)]) (g := (gName 7))  (by rfl) sc_syllables.nd rfl rfl (sw_true rfl rfl rfl (by decide +kernel)) (pi_str (pe_slice sl_str (pv 0) (po_some (pe_op op_add (pv 3) pe_int)) po_none)) (blkOk_by (N := ["heard", "way", "found", "at", "letter", "is_led", "behind", "vowel"]) (sc := defScope s_syllables) (by decide +kernel)) (fun _ _ _ _ _ => pg_name (i := 7) sc_syllables.nd rfl (Or.inl rfl)) (fun _ _ _ _ _ => pts_one (pt_cmpR op_in_sign (pv 7) (pe_glob (v := .str "aeiou") (by rfl) T.g_VOWELS.choose_spec ⟨_, rfl⟩) (by rfl))) (fun _ _ _ _ _ => (pv 7)))
            (pss_one (ps_if (PW.pt (pw_and (pt_truth (pv 6) (fun _ => rfl)) (pw_and1 (pt_cmpR op_notIn_sign (pe_ix ix_str (pv 0) (pe_op op_add (pv 3) pe_int) (fun _ _ => rfl)) (pe_glob (v := .str "aeiou") (by rfl) T.g_VOWELS.choose_spec ⟨_, rfl⟩) (by rfl)))))
              (pss_one (ps_expr (pe_bm PySem.F.plainAttrs_list PySem.F.slot_list_append PySem.F.type_list_append mt_append (pv 2) (pa_cons (pe_op op_add_str (pv 4) (pe_ix ix_list (pv 6) pe_int (fun _ _ => rfl))) pa_nil))))
              pss_nil)))
            pss_nil)))))
      (pss_one (ps_ret (pe_callTy call_tuple_of (by rfl) T.n_tuple (by decide +kernel) (pa_cons (pv 2) pa_nil)))))))), ?_⟩
    -- slots: [(0, 'heard'), (1, 'way'), (2, 'found'), (3, 'at'), (4, 'letter'), (5, 'is_led'), (6, 'behind'), (7, 'vowel')]
    obtain ⟨x, y, rfl, hx, hy, k1, k2⟩ := h
    refine ⟨_, rfl, x, rfl, hx, k1, fun hb H1 e1 => ?_⟩
    obtain ⟨z, rfl⟩ : ∃ z, x = .str z := by
      cases x with
      | str z => exact ⟨z, rfl⟩
      | _ => cases hb
    obtain ⟨c0, r0, vl, l0, hc0, hv0, l1, l12, _⟩ := heard_split hb
    obtain ⟨k2a, k2b⟩ := k2 hb
    have hS : ∀ H, SqT K H (ga K "WAYS") [.str "drop", .str "next"] := fun H => tupB_ok T.t_WAYS H
    obtain ⟨T', hk⟩ := hy.kd
    have way : Ev (tCall (spOneOf K) [] E0 (tCons (tVar 1) (tCons (tC (V.ref (ga K "WAYS"))) tNil))) (start ["heard", "way", "found", "at", "letter", "is_led", "behind", "vowel"] [V.str z, y]) H1 (.bl (wayV y)) :=
      ev_is (ev_call (ea_cons (ev_var rfl) (ea_cons ev_c ea_nil)) fun H2 e Q q E => ⟨y, T', _, _, rfl, (hk.ex e1).ex e, fun H3 _ => hS H3, rfl, q⟩) (congrArg V.bl (one_way y))
    dsimp only
    refine q_when (b := !wayV y) (et_not (et_B way)) (fun z1 H2 e2 => ?_) (fun z1 H2 e2 => ?_)
    · exact s_raise (ea_cons ev_c ea_nil) rfl (by show 1 ≤ 1000; decide) fun d H3 e3 h3 => k2a (by revert z1; cases wayV y <;> simp) d H3 ((e1.trans e2).trans e3) h3
    have k3 := k2b (by revert z1; cases wayV y <;> simp) z rfl
    refine q_asgD ⟨Nat.zero_le _, fun l nl => ?_⟩
    have nl0 : H l = none := fresh_back (e1.trans e2) nl
    have e3 := Ex.new (o := .lst []) nl
    have nz : z.cps.size = z.cps.toList.length := (Array.length_toList).symm
    have n12 : z.cps.size ≤ 12 := l12
    refine s_enS (D := { nx := _, rt := Q, bk := _, ct := _ }) rfl (z := z) (rfl) (fun m σ' H' => ∃ u3 u4 u5 u6 u7, σ' = [some (.str z), some y, some (.ref l), u3, u4, u5, u6, u7] ∧ Ex H H' ∧ H' l = some (.lst ((sylN z.cps.toList (decide (y = .str "next")) m).map V.str))) ⟨_, _, _, _, _, rfl, (e1.trans e2).trans e3, upd_same⟩ ?_ ?_
    · rintro m c σ' H' H'' hm hc ⟨u3, u4, u5, u6, u7, rfl, e4, hl⟩ e5
      have hl5 := e5 _ _ hl
      have cm : at0 z.cps.toList m = c := by
        unfold at0
        rw [List.getD_eq_getElem?_getD, hc]
        rfl
      have e45 := e4.trans e5
      have hz : z.length ≤ 1000 := by omega
      have ns := sylN_len z.cps.toList (decide (y = .str "next")) m
      have inV_ : ∀ {d : Nat} {H2 : Hp}, RV (fun x y H Q => ∃ (c : Nat) (z : Str), x = .str ⟨#[c]⟩ ∧ y = .str z ∧ Q (.bl (decide (c ∈ z.cps.toList))) H) (.str ⟨#[d]⟩) (.str "aeiou") H2 (.bl (vow d)) := fun H1 e Q q => ⟨_, vowels, rfl, rfl, q H1 (Ex.refl H1)⟩
      have ninV_ : ∀ {d : Nat} {H2 : Hp}, RV (fun x y H Q => ∃ (c : Nat) (z : Str), x = .str ⟨#[c]⟩ ∧ y = .str z ∧ Q (.bl (!decide (c ∈ z.cps.toList))) H) (.str ⟨#[d]⟩) (.str "aeiou") H2 (.bl (!vow d)) := fun H1 e Q q => ⟨_, vowels, rfl, rfl, q H1 (Ex.refl H1)⟩
      -- where a syllable is put behind
      have put : ∀ {H2 H3 : Hp} {sy : Str}, Ex H H2 → H2 l = some (.lst ((sylN z.cps.toList (decide (y = .str "next")) m).map V.str)) → Ex H2 H3 → sylAt z.cps.toList (decide (y = .str "next")) m = some sy → Ex H (upd H3 l (.lst ((sylN z.cps.toList (decide (y = .str "next")) m).map V.str ++ [.str sy]))) ∧ (upd H3 l (.lst ((sylN z.cps.toList (decide (y = .str "next")) m).map V.str ++ [.str sy]))) l = some (.lst ((sylN z.cps.toList (decide (y = .str "next")) (m + 1)).map V.str)) := fun e0 h0 e1 hs => ⟨Ex.mut (e0.trans e1) nl0, by rw [upd_same, sylN_succ, hs, List.map_append]; rfl⟩
      have stay : ∀ {H2 : Hp}, Ex H'' H2 → sylAt z.cps.toList (decide (y = .str "next")) m = none → H2 l = some (.lst ((sylN z.cps.toList (decide (y = .str "next")) (m + 1)).map V.str)) := fun e0 hs => by
        rw [sylN_succ, hs, Option.toList_none, List.append_nil]
        exact e0 _ _ hl5
      have len_ : ((sylN z.cps.toList (decide (y = .str "next")) m).map V.str).length < 100000 := by rw [List.length_map]; omega
      refine s_if (b := vow c) (et_test (ev_op (ev_var rfl) ev_c inV_)) (fun hv H6 e6 => ?_) (fun hv H6 e6 => ?_)
      · have prev : ∀ {σ2 : L2.St} {H2 : Hp}, σ2[0]? = some (some (.str z)) → σ2[3]? = some (some (.int (m : Nat))) → 0 < m → Ev (tOp rIxS (tVar 0) (tOp (rI0 fun i j => V.int (i - j)) (tVar 3) (tC (V.int 1)))) σ2 H2 (.str ⟨#[at0 z.cps.toList (m - 1)]⟩) := fun h0 h3 hm0 =>
          ev_op (ev_var h0) (ev_op (ev_var h3) ev_c rv_I0) (rv_ixS (show z.length ≤ 100000 by omega) (atI_at0 (by omega) (by omega)))
        refine q_asg (v := .bl (decide (0 < m) && !vow (at0 z.cps.toList (m - 1)))) (ev_andV (ev_is (ev_op (ev_var rfl) ev_c rv_I0) (congrArg V.bl (decide_eq_decide.mpr (by omega)))) fun h0 => ev_op (prev rfl rfl (of_decide_eq_true h0)) ev_c ninV_) fun H7 e7 => ?_
        have hsy : sylAt z.cps.toList (decide (y = .str "next")) m = some (if decide (0 < m) && !vow (at0 z.cps.toList (m - 1)) then ⟨#[at0 z.cps.toList (m - 1), c]⟩ else ⟨#[c]⟩) := by
          unfold sylAt
          rw [cm, if_pos hv]
        refine s_app ((e6.trans e7) _ _ hl5) (ev_var rfl) (v := .str (if decide (0 < m) && !vow (at0 z.cps.toList (m - 1)) then ⟨#[at0 z.cps.toList (m - 1), c]⟩ else ⟨#[c]⟩)) (ev_if (et_B (ev_var rfl)) (fun hb1 => ?_) (fun hb1 => ?_)) len_ fun H8 e8 => ?_
        · rw [if_pos hb1]
          exact ev_op (prev rfl rfl (of_decide_eq_true (Bool.and_eq_true_iff.mp hb1).1)) (ev_var rfl) fun H1 e Q q => ⟨_, _, rfl, rfl, (by show 1 + 1 ≤ sizeLine; decide), q H1 (Ex.refl H1)⟩
        · rw [if_neg (by rw [hb1]; decide)]
          exact ev_var rfl
        · obtain ⟨p1, p2⟩ := put (e45.trans (e6.trans e7)) ((e6.trans e7) _ _ hl5) e8 hsy
          exact ⟨_, _, _, _, _, rfl, p1, p2⟩
      · obtain ⟨yw, rfl⟩ : ∃ yw, y = .str yw := way_str (by revert z1; cases wayV y <;> simp)
        refine s_if (b := decide (V.str yw = .str "next")) (et_test (ev_op (ev_var rfl) ev_c (rv_eq rfl))) (fun hx H7 e7 => ?_) (fun hx H7 e7 => ?_)
        · have cutE : (cutS z (some ((m : Int) + 1)) none).cps.toList = z.cps.toList.drop (m + 1) := cut_fromS
          have cutL : (cutS z (some ((m : Int) + 1)) none).length ≤ z.length := by
            have e9 : (cutS z (some ((m : Int) + 1)) none).length = (cutS z (some ((m : Int) + 1)) none).cps.toList.length := (Array.length_toList).symm
            have nz3 : z.length = z.cps.toList.length := nz
            rw [e9, cutE, List.length_drop]
            omega
          refine q_asgL (el_lcStrT vow (fun c => .str ⟨#[c]⟩) (ev_slS (ev_var rfl) (eo_some (ev_op (ev_var rfl) ev_c rv_I0)) eo_none hz) (by omega) (fun _ => rfl) (fun d H1 e hd => et_test (ev_op (ev_var rfl) ev_c inV_)) (fun d H1 e hd _ => ev_var rfl)) fun lb H8 nlb e8 hlb => ?_
          rw [cutE] at hlb
          have next_ : ∀ {σ2 : L2.St} {H2 : Hp}, σ2[0]? = some (some (.str z)) → σ2[3]? = some (some (.int (m : Nat))) → m + 1 < z.cps.toList.length → Ev (tOp rIxS (tVar 0) (tOp (rI0 fun i j => V.int (i + j)) (tVar 3) (tC (V.int 1)))) σ2 H2 (.str ⟨#[at0 z.cps.toList (m + 1)]⟩) := fun h0 h3 hm0 =>
            ev_op (ev_var h0) (ev_op (ev_var h3) ev_c rv_I0) (rv_ixS (show z.length ≤ 100000 by omega) (atI_at0 (by omega) hm0))
          have e68 := (e6.trans e7).trans e8
          cases hf : (z.cps.toList.drop (m + 1)).filter vow with
          | nil =>
            rw [hf] at hlb
            have hsy : sylAt z.cps.toList (decide (V.str yw = .str "next")) m = none := by
              unfold sylAt
              rw [cm, if_neg (by rw [hv]; decide), if_pos hx, hf]
            refine s_when (b := false) (fun H1 e Q q => ?_) (fun z => nomatch z) (fun _ H9 e9 => ⟨_, _, _, _, _, rfl, e45.trans (e68.trans e9), stay (e68.trans e9) hsy⟩)
            refine ⟨_, rfl, false, .inl ⟨_, SqL.of (e _ _ hlb), rfl⟩, ?_⟩
            exact q H1 (Ex.refl H1)
          | cons v vr =>
            rw [hf] at hlb
            have hlt : m + 1 < z.cps.toList.length := by
              rcases Nat.lt_or_ge (m + 1) z.cps.toList.length with h | h
              · exact h
              · rw [List.drop_eq_nil_of_le h] at hf
                cases hf
            refine s_when (b := !vow (at0 z.cps.toList (m + 1))) (fun H1 e Q q => ?_) (fun hb2 H9 e9 => ?_) (fun hb2 H9 e9 => ?_)
            · refine ⟨_, rfl, true, .inl ⟨_, SqL.of (e _ _ hlb), rfl⟩, ?_⟩
              exact (et_test (ev_op (next_ rfl rfl hlt) ev_c ninV_) : EvT _ _ _ _) H1 (Ex.refl H1) _ fun H2 e2 => q H2 e2
            · have hsy : sylAt z.cps.toList (decide (V.str yw = .str "next")) m = some ⟨#[c, v]⟩ := by
                unfold sylAt
                rw [cm, if_neg (by rw [hv]; decide), if_pos hx, hf]
                show (if vow (at0 z.cps.toList (m + 1)) = true then none else some _) = _
                rw [if_neg (by revert hb2; cases vow (at0 z.cps.toList (m + 1)) <;> simp)]
              refine s_app ((e68.trans e9) _ _ hl5) (ev_var rfl) (v := .str ⟨#[c, v]⟩) (ev_op (ev_var rfl) (ev_op (ev_var rfl) ev_c (rv_ixL (SqL.of (e9 _ _ hlb)) (atI_nat (j := 0) rfl))) fun H1 e Q q => ⟨⟨#[c]⟩, ⟨#[v]⟩, rfl, rfl, (by show 1 + 1 ≤ sizeLine; decide), q H1 (Ex.refl H1)⟩) len_ fun H10 e10 => ?_
              obtain ⟨p1, p2⟩ := put (e45.trans (e68.trans e9)) ((e68.trans e9) _ _ hl5) e10 hsy
              exact ⟨_, _, _, _, _, rfl, p1, p2⟩
            · have hsy : sylAt z.cps.toList (decide (V.str yw = .str "next")) m = none := by
                unfold sylAt
                rw [cm, if_neg (by rw [hv]; decide), if_pos hx, hf]
                show (if vow (at0 z.cps.toList (m + 1)) = true then none else some _) = _
                rw [if_pos (by revert hb2; cases vow (at0 z.cps.toList (m + 1)) <;> simp)]
              exact ⟨_, _, _, _, _, rfl, e45.trans (e68.trans e9), stay (e68.trans e9) hsy⟩
        · have hsy : sylAt z.cps.toList (decide (V.str yw = .str "next")) m = none := by
            unfold sylAt
            rw [cm, if_neg (by rw [hv]; decide), if_neg (by rw [hx]; decide)]
          exact ⟨_, _, _, _, _, rfl, e45.trans (e6.trans e7), stay (e6.trans e7) hsy⟩
    · rintro σ' H' ⟨u3, u4, u5, u6, u7, rfl, e4, hl⟩
      have nz2 : z.cps.size = z.cps.toList.length := nz
      refine ⟨_, rfl, l, _, rfl, .inl ⟨SqL.of hl, fun t nt => k3 t _ (e4.trans (Ex.new nt)) (fresh_back e4 nt) ?_⟩⟩
      rw [upd_same]
      unfold sylF
      rw [← nz2]
end
end K57
set_option Elab.async false
set_option linter.all false
set_option maxRecDepth 100000
set_option maxHeartbeats 4000000
set_option autoImplicit false
/-! the law's own cutting of a heard word, from behind, is the program's. -/
namespace K57
open PySem
/-- what the letter c makes, p ahead of it, r behind it -/
def syl1 (nx : Bool) (p : Option Nat) (c : Nat) (r : List Nat) : Option Str :=
  if vow c then some (match p with
    | some q => if vow q then ⟨#[c]⟩ else ⟨#[q, c]⟩
    | none => ⟨#[c]⟩)
  else if nx then (match r.filter vow with
    | [] => none
    | v :: _ => if vow (r.headD 0) then none else some ⟨#[c, v]⟩)
  else none
def sylR (nx : Bool) : Option Nat → List Nat → List Str
  | _, [] => []
  | p, c :: r => (syl1 nx p c r).toList ++ sylR nx (some c) r
/-- from behind: the syllables, the last vowel seen, whether the last letter seen was one -/
def cutL (nx : Bool) : List Nat → List Str × Str × Bool
  | [] => ([], "", false)
  | c :: r => match cutL nx r with
    | (f, v, fr) =>
      if vow c then (⟨#[c]⟩ :: f, ⟨#[c]⟩, true)
      else if fr then ((⟨#[c]⟩ ++ f.headD "") :: f.drop 1, v, false)
      else if decide (v ≠ "") && nx then ((⟨#[c]⟩ ++ v) :: f, v, fr)
      else (f, v, fr)
def headV : List Nat → Bool
  | [] => false
  | c :: _ => vow c
def vowS (l : List Nat) : Str := match l.filter vow with
  | [] => ""
  | v :: _ => ⟨#[v]⟩
theorem cut_spec (nx : Bool) : ∀ l : List Nat, (cutL nx l).1 = sylR nx none l ∧ (cutL nx l).2.1 = vowS l ∧ (cutL nx l).2.2 = headV l
  | [] => ⟨rfl, rfl, rfl⟩
  | c :: r => by
    obtain ⟨h1, h2, h3⟩ := cut_spec nx r
    have hr : cutL nx r = (sylR nx none r, vowS r, headV r) := by
      rw [← h1, ← h2, ← h3]
    have step : cutL nx (c :: r) = (match cutL nx r with
      | (f, v, fr) =>
        if vow c then (⟨#[c]⟩ :: f, ⟨#[c]⟩, true)
        else if fr then ((⟨#[c]⟩ ++ f.headD "") :: f.drop 1, v, false)
        else if decide (v ≠ "") && nx then ((⟨#[c]⟩ ++ v) :: f, v, fr)
        else (f, v, fr)) := rfl
    rw [step, hr]
    cases hc : vow c with
    | true =>
      refine ⟨?_, ?_, hc.symm⟩
      · show ⟨#[c]⟩ :: sylR nx none r = (syl1 nx none c r).toList ++ sylR nx (some c) r
        unfold syl1
        rw [if_pos hc]
        have e : sylR nx (some c) r = sylR nx none r := by
          cases r with
          | nil => rfl
          | cons d r =>
            show (syl1 nx (some c) d r).toList ++ _ = (syl1 nx none d r).toList ++ _
            unfold syl1
            simp only [hc, if_true]
        rw [e]
        rfl
      · show (⟨#[c]⟩ : Str) = vowS (c :: r)
        unfold vowS
        rw [List.filter_cons, if_pos hc]
    | false =>
      have vs : vowS (c :: r) = vowS r := by
        unfold vowS
        rw [List.filter_cons, if_neg (by rw [hc]; decide)]
      cases r with
      | nil =>
        refine ⟨?_, ?_, ?_⟩
        · show ([] : List Str) = (syl1 nx none c []).toList ++ []
          unfold syl1
          rw [if_neg (by rw [hc]; decide)]
          cases nx <;> rfl
        · rw [vs]; rfl
        · exact hc.symm
      | cons d r =>
        cases hd : vow d with
        | true =>
          simp only [headV, hd, Bool.false_eq_true, if_false, if_true]
          refine ⟨?_, vs.symm, hc.symm⟩
          have f1 : sylR nx none (d :: r) = ⟨#[d]⟩ :: sylR nx (some d) r := by
            show (syl1 nx none d r).toList ++ _ = _
            unfold syl1
            rw [if_pos hd]
            rfl
          have f2 : sylR nx (some c) (d :: r) = ⟨#[c, d]⟩ :: sylR nx (some d) r := by
            show (syl1 nx (some c) d r).toList ++ _ = _
            unfold syl1
            simp only [hd, hc, if_true, Bool.false_eq_true, if_false]
            rfl
          have f3 : syl1 nx none c (d :: r) = none := by
            unfold syl1
            rw [if_neg (by rw [hc]; decide)]
            cases nx with
            | false => rfl
            | true =>
              rw [if_pos rfl, List.filter_cons, if_pos hd]
              show (if vow d = true then none else _) = none
              rw [if_pos hd]
          show (⟨#[c]⟩ ++ (sylR nx none (d :: r)).headD "") :: (sylR nx none (d :: r)).drop 1 = (syl1 nx none c (d :: r)).toList ++ sylR nx (some c) (d :: r)
          rw [f1, f2, f3]
          rfl
        | false =>
          have f2 : sylR nx (some c) (d :: r) = sylR nx none (d :: r) := by
            show (syl1 nx (some c) d r).toList ++ _ = (syl1 nx none d r).toList ++ _
            unfold syl1
            simp only [hd, Bool.false_eq_true, if_false]
          simp only [headV, hd, Bool.false_eq_true, if_false]
          cases hf : (d :: r).filter vow with
          | nil =>
            have v0 : vowS (d :: r) = "" := by unfold vowS; rw [hf]
            have f3 : syl1 nx none c (d :: r) = none := by
              unfold syl1
              rw [if_neg (by rw [hc]; decide), hf]
              cases nx <;> rfl
            rw [if_neg (by rw [v0]; simp)]
            refine ⟨?_, vs.symm, hc.symm⟩
            show sylR nx none (d :: r) = (syl1 nx none c (d :: r)).toList ++ sylR nx (some c) (d :: r)
            rw [f2, f3]
            rfl
          | cons v vr =>
            have v1 : vowS (d :: r) = ⟨#[v]⟩ := by unfold vowS; rw [hf]
            have v2 : (⟨#[v]⟩ : Str) ≠ "" := fun e => by
              have z := congrArg (fun s : Str => s.cps.size) e
              exact absurd z (by show ¬ (1 = 0); decide)
            cases nx with
            | false =>
              rw [if_neg (by simp)]
              refine ⟨?_, vs.symm, hc.symm⟩
              show sylR false none (d :: r) = (syl1 false none c (d :: r)).toList ++ sylR false (some c) (d :: r)
              rw [f2]
              unfold syl1
              rw [if_neg (by rw [hc]; decide)]
              rfl
            | true =>
              rw [if_pos (by rw [v1]; simp [v2])]
              refine ⟨?_, vs.symm, hc.symm⟩
              show (⟨#[c]⟩ ++ vowS (d :: r)) :: sylR true none (d :: r) = (syl1 true none c (d :: r)).toList ++ sylR true (some c) (d :: r)
              rw [f2, v1]
              unfold syl1
              rw [if_neg (by rw [hc]; decide), if_pos rfl, hf]
              show _ = (if vow d = true then none else some _).toList ++ _
              rw [if_neg (by rw [hd]; decide)]
              rfl
theorem at0_app (pre : List Nat) (c : Nat) (r : List Nat) : at0 (pre ++ c :: r) pre.length = c := by
  unfold at0
  rw [List.getD_eq_getElem?_getD, List.getElem?_append_right (Nat.le_refl _), Nat.sub_self]
  rfl
theorem at0_next (pre : List Nat) (c : Nat) (r : List Nat) : at0 (pre ++ c :: r) (pre.length + 1) = r.headD 0 := by
  unfold at0
  rw [List.getD_eq_getElem?_getD, List.getElem?_append_right (by omega), show pre.length + 1 - pre.length = 1 by omega]
  cases r <;> rfl
theorem drop_app (pre : List Nat) (c : Nat) (r : List Nat) : (pre ++ c :: r).drop (pre.length + 1) = r := by
  have e : pre ++ c :: r = (pre ++ [c]) ++ r := by rw [List.append_assoc]; rfl
  have l : pre.length + 1 = (pre ++ [c]).length := by rw [List.length_append]; rfl
  rw [e, l, List.drop_left]
theorem syl_at (nx : Bool) (pre : List Nat) (c : Nat) (r : List Nat) : sylAt (pre ++ c :: r) nx pre.length = syl1 nx pre.getLast? c r := by
  unfold sylAt syl1
  rw [at0_app, at0_next, drop_app]
  have e : (if vow c = true then some (if (decide (0 < pre.length) && !vow (at0 (pre ++ c :: r) (pre.length - 1))) = true then (⟨#[at0 (pre ++ c :: r) (pre.length - 1), c]⟩ : Str) else ⟨#[c]⟩) else none) = (if vow c = true then some (match pre.getLast? with
    | some q => if vow q then (⟨#[c]⟩ : Str) else ⟨#[q, c]⟩
    | none => ⟨#[c]⟩) else none) := by
    rcases List.eq_nil_or_concat pre with rfl | ⟨p0, q, rfl⟩
    · rfl
    · rw [List.concat_eq_append]
      have l1 : (p0 ++ [q]).length - 1 = p0.length := by rw [List.length_append]; rfl
      have l2 : decide (0 < (p0 ++ [q]).length) = true := decide_eq_true (by rw [List.length_append]; show 0 < p0.length + 1; omega)
      have l3 : at0 (p0 ++ [q] ++ c :: r) p0.length = q := by rw [List.append_assoc]; exact at0_app p0 q (c :: r)
      rw [l1, l2, l3, List.getLast?_concat]
      cases hq : vow q <;> simp [hq]
  cases hc : vow c with
  | true =>
    rw [hc] at e
    simp only [if_true] at e ⊢
    exact e
  | false =>
    simp only [Bool.false_eq_true, if_false]
    all_goals (cases nx <;> first | rfl | (cases List.filter vow r <;> rfl))
theorem sylR_at (nx : Bool) : ∀ (l pre : List Nat), (List.range' pre.length l.length).filterMap (sylAt (pre ++ l) nx) = sylR nx pre.getLast? l
  | [], pre => rfl
  | c :: r, pre => by
    have ih := sylR_at nx r (pre ++ [c])
    rw [List.append_assoc, List.length_append, List.getLast?_concat] at ih
    have ih2 : (List.range' (pre.length + 1) r.length).filterMap (sylAt (pre ++ c :: r) nx) = sylR nx (some c) r := ih
    show List.filterMap _ (pre.length :: List.range' (pre.length + 1) r.length) = (syl1 nx pre.getLast? c r).toList ++ sylR nx (some c) r
    rw [← ih2, ← syl_at]
    rw [List.filterMap_cons]
    cases sylAt (pre ++ c :: r) nx pre.length <;> rfl
theorem sylF_eq (z : Str) (nx : Bool) : sylF z nx = (cutL nx z.cps.toList).1 := by
  rw [(cut_spec nx z.cps.toList).1]
  unfold sylF sylN
  rw [List.range_eq_range']
  exact sylR_at nx z.cps.toList []
end K57
set_option Elab.async false
set_option linter.all false
set_option maxRecDepth 100000
set_option maxHeartbeats 4000000
set_option autoImplicit false
/-! text[::-1]. -/
namespace L2
open PySem PySem.Spec PyProof.Rows
def revS (z : Str) : Str := ⟨z.cps.toList.reverse.toArray⟩
theorem sliceBy_rev (z : Str) (u : Tok) : Txt.sliceBy z none none (-1, u) = revS z := by
  refine Str.ext' (Array.toList_inj.mp ?_)
  rw [step_rev_list]
  unfold revS
  rw [List.toList_toArray]
  have nz : z.length = z.cps.toList.length := (Array.length_toList).symm
  refine List.ext_getElem? fun i => ?_
  rw [List.getElem?_map]
  by_cases hi : i < z.length
  · rw [List.getElem?_range hi, List.getElem?_reverse (by omega), Option.map_some, ← nz]
    have hj : z.length - 1 - i < z.cps.size := by show z.length - 1 - i < z.length; omega
    simp [Array.getD, hj]
  · rw [List.getElem?_eq_none (by rw [List.length_range]; omega), List.getElem?_eq_none (by rw [List.length_reverse]; omega)]
    rfl
def tRevS (te : TE) : TE := fun σ H Q => te σ H fun x H1 => ∃ z, x = .str z ∧ z.length ≤ sizeLine ∧ Q (.str (revS z)) H1
theorem pe_revS {X : Cx} {e : Expr} {te : TE} {k : Nat} {p1 p2 p3 pos : Pos} (he : PE X e te) : PE X (.Subscript e (.Slice none none (some (.UnaryOp .USub (.Constant (.int 1) k p1) p2)) p3) pos) (tRevS te) := by
  refine ⟨fun pins s σ H Q I h => ?_⟩
  refine Subscript_ (thn (he.run pins s σ H _ I h) fun v s1 ⟨x, H1, I1, r1, q1⟩ => ?_)
  obtain ⟨z, ex, hz, q⟩ := q1
  subst ex
  obtain ⟨t, rfl⟩ := r1
  have hst : PO X (some (.UnaryOp .USub (.Constant (.int 1) k p1) p2)) (tPart (tUn (rU fun i => .int (-i)) (tC (.int 1)))) := po_some (pe_un un_neg pe_int)
  refine wpAny_Slice (thn (po_none.run pins s1 σ H1 (fun o H2 => o = none ∧ H2 = H1) I1 ⟨rfl, rfl⟩) fun vl s2 ⟨l, H2, I2, pl, el, e2⟩ => ?_)
  subst el e2
  refine thn (po_none.run pins s2 σ H2 (fun o H3 => o = none ∧ H3 = H2) I2 ⟨rfl, rfl⟩) fun vu s3 ⟨u, H3, I3, pu, eu, e3⟩ => ?_
  subst eu e3
  refine thn (hst.run pins s3 σ H3 (fun o H4 => o = some (-1) ∧ H4 = H3) I3 ⟨1, rfl, -1, rfl, rfl, rfl⟩) fun vs s4 ⟨o, H4, I4, ps, eo, e4⟩ => ?_
  subst eo e4
  obtain ⟨l', rfl, el⟩ := IsPart.raw pl
  obtain ⟨u', rfl, eu⟩ := IsPart.raw pu
  obtain ⟨o', rfl, eo⟩ := IsPart.raw ps
  obtain rfl : l' = none := by cases l' <;> simp at el ⊢
  obtain rfl : u' = none := by cases u' <;> simp at eu ⊢
  obtain ⟨tk, rfl⟩ : ∃ tk, o' = some (-1, tk) := by
    cases o' with
    | none => simp at eo
    | some y =>
      obtain ⟨i, tk⟩ := y
      simp at eo
      exact ⟨tk, by rw [eo]⟩
  have I5 : Inv X pins σ H4 { s4 with heap := s4.heap.push { cls := .type "slice", data := .fields #[partValue none, partValue none, partValue (some (-1, tk))] } } := I4.kept (t' := s4.toks) fun b ob q => Heap.get?_push_of_some _ q
  show wpAny (model X.prog X.w) X.A (subscriptTail e (.Slice none none (some (.UnaryOp .USub (.Constant (.int 1) k p1) p2)) p3) (.str z t) (.ref s4.heap.objs.size)) (EP X pins σ Q) X.xe { s4 with heap := s4.heap.push { cls := .type "slice", data := .fields #[partValue none, partValue none, partValue (some (-1, tk))] } }
  refine tail_any (ops := [.ref s4.heap.objs.size, .str z t]) (typeIs_str _ _ _) F.slot_str_getitem.lookup ?_ (by with_unfolding_all rfl)
  refine wpAny_getItem_str_slice (l := none) (u := none) (st := some (-1, tk)) ⟨_, Heap.get?_push_size _ rfl, rfl, rfl⟩ rfl (post_val_or_str ⟨Nat.le_trans (Txt.sliceBy_le z none none (-1, tk) (show (-1 : Int) ≠ 0 by decide)) hz, fun t' c => ?_⟩)
  show EP X pins σ Q (.str (Txt.sliceBy z none none (-1, tk)) t') _
  rw [sliceBy_rev]
  exact ⟨.str _, H4, I5.tok _, ⟨_, rfl⟩, q⟩
end L2
set_option Elab.async false
set_option linter.all false
set_option maxRecDepth 100000
set_option maxHeartbeats 4000000
set_option autoImplicit false
/-! min and max of two texts; lists put together. -/
namespace He
open PySem PySem.Spec PySem.Calls PyProof.Rows L2 Evl
/-- the lesser and the greater of two texts, the first of equal ones -/
def strLt (x y : Str) : Bool := decide (x.cps.toList < y.cps.toList)
def minS (x y : Str) : Str := if strLt y x then y else x
def maxS (x y : Str) : Str := if strLt x y then y else x
section
variable {prog : Program} {w : World} {A : Around} {x y : Str} {t u : Tok}
theorem cmp_strs {op : CmpOp} {f : Str → Str → Bool} (hf : ∀ (a b : Str) (t u : Tok) (s : Shared) (Q E : Value → Shared → Prop), Q (.bool (f a b)) s → wpAny (model prog w) A (richCompare op (.str a t) (.str b u)) Q E s) :
    CmpOf prog w A op (fun i v => (#[Value.str x t, Value.str y u])[i]? = some v) (fun i j => f (if i = 0 then x else y) (if j = 0 then x else y)) := by
  have look : ∀ {i : Nat} {v : Value}, (#[Value.str x t, Value.str y u])[i]? = some v → ∃ tk, v = .str (if i = 0 then x else y) tk := fun {i v} h => by
    match i, h with
    | 0, h => exact ⟨t, (Option.some.inj h).symm⟩
    | 1, h => exact ⟨u, (Option.some.inj h).symm⟩
    | n + 2, h => exact nomatch (show (none : Option Value) = some v from h)
  intro i j vi vj s Q E hi hj h
  obtain ⟨_, rfl⟩ := look hi
  obtain ⟨_, rfl⟩ := look hj
  exact hf _ _ _ _ s Q E h
theorem lt_strs (a b : Str) (t u : Tok) (s : Shared) (Q E : Value → Shared → Prop) (h : Q (.bool (strLt a b)) s) : wpAny (model prog w) A (richCompare .Lt (.str a t) (.str b u)) Q E s := PyProof.Rows.lt_str h
theorem gt_strs (a b : Str) (t u : Tok) (s : Shared) (Q E : Value → Shared → Prop) (h : Q (.bool (strLt b a)) s) : wpAny (model prog w) A (richCompare .Gt (.str a t) (.str b u)) Q E s := PySem.P.gt_str h
end
section
variable {X : Cx}
theorem call_min2S (hc : X.calm = true) : CallR X (.builtin "min") (fun xs H Q => ∃ i j, xs = [.str i, .str j] ∧ Q (.str (minS i j)) H) := by
  intro pins s σ H xs us Q I r h
  obtain ⟨i, j, rfl, q⟩ := h
  obtain ⟨_, _, rfl, ⟨t, rfl⟩, ⟨u, rfl⟩⟩ := vals2 r
  have hT : (s.heap.push { cls := .type "tuple", data := .seq #[Value.str i t, Value.str j u] }).IsTuple s.heap.objs.size #[Value.str i t, Value.str j u] := ⟨_, Heap.get?_push_size _ rfl, rfl, 0, rfl⟩
  have hsz : (s.heap.push { cls := .type "tuple", data := .seq #[Value.str i t, Value.str j u] }).objs.size = s.heap.objs.size + 1 := Heap.size_push ..
  refine call_min_two (wpAny_pyIter_tuple hT ⟨_, [_, s.heap.objs.size], [_], _, _, _, _, rfl, Walks.tuple (A := X.A.in1) (I.ok.hd hc) _ s.heap.objs.size (by rw [hsz]; exact Nat.ne_of_lt (Nat.lt_succ_self _)) #[Value.str i t, Value.str j u],
    ⟨⟨_, Heap.get?_push_size _ rfl, rfl, rfl⟩, hT.push _⟩, fun c m => ?_, by simp, cmp_strs lt_strs, fun v h' tk hP hk => ?_⟩)
  · show c < ((s.heap.push _).push _).objs.size
    rw [Heap.size_push, hsz]
    simp only [List.mem_cons, List.not_mem_nil, or_false, hsz] at m
    rcases m with rfl | rfl
    · exact Nat.lt_succ_self _
    · exact Nat.lt_succ_of_lt (Nat.lt_succ_self _)
  · refine ⟨.str (minS i j), H, I.kept fun c o e => hk c o (fun m => ?_) (Heap.get?_push_of_some _ (Heap.get?_push_of_some _ e)), ?_, q⟩
    · have z := Heap.lt_size e
      rw [List.mem_singleton] at m
      rw [m, hsz] at z
      exact Nat.lt_irrefl _ (Nat.lt_of_succ_lt z)
    · unfold minS
      cases e : strLt j i with
      | true =>
        simp [argBest, e] at hP
        rw [← hP, if_pos rfl]
        exact ⟨u, rfl⟩
      | false =>
        simp [argBest, e] at hP
        rw [← hP, if_neg Bool.false_ne_true]
        exact ⟨t, rfl⟩
theorem call_max2S (hc : X.calm = true) : CallR X (.builtin "max") (fun xs H Q => ∃ i j, xs = [.str i, .str j] ∧ Q (.str (maxS i j)) H) := by
  intro pins s σ H xs us Q I r h
  obtain ⟨i, j, rfl, q⟩ := h
  obtain ⟨_, _, rfl, ⟨t, rfl⟩, ⟨u, rfl⟩⟩ := vals2 r
  have hT : (s.heap.push { cls := .type "tuple", data := .seq #[Value.str i t, Value.str j u] }).IsTuple s.heap.objs.size #[Value.str i t, Value.str j u] := ⟨_, Heap.get?_push_size _ rfl, rfl, 0, rfl⟩
  have hsz : (s.heap.push { cls := .type "tuple", data := .seq #[Value.str i t, Value.str j u] }).objs.size = s.heap.objs.size + 1 := Heap.size_push ..
  refine call_max_two (wpAny_pyIter_tuple hT ⟨_, [_, s.heap.objs.size], [_], _, _, _, _, rfl, Walks.tuple (A := X.A.in1) (I.ok.hd hc) _ s.heap.objs.size (by rw [hsz]; exact Nat.ne_of_lt (Nat.lt_succ_self _)) #[Value.str i t, Value.str j u],
    ⟨⟨_, Heap.get?_push_size _ rfl, rfl, rfl⟩, hT.push _⟩, fun c m => ?_, by simp, cmp_strs (f := fun a b => strLt b a) gt_strs, fun v h' tk hP hk => ?_⟩)
  · show c < ((s.heap.push _).push _).objs.size
    rw [Heap.size_push, hsz]
    simp only [List.mem_cons, List.not_mem_nil, or_false, hsz] at m
    rcases m with rfl | rfl
    · exact Nat.lt_succ_self _
    · exact Nat.lt_succ_of_lt (Nat.lt_succ_self _)
  · refine ⟨.str (maxS i j), H, I.kept fun c o e => hk c o (fun m => ?_) (Heap.get?_push_of_some _ (Heap.get?_push_of_some _ e)), ?_, q⟩
    · have z := Heap.lt_size e
      rw [List.mem_singleton] at m
      rw [m, hsz] at z
      exact Nat.lt_irrefl _ (Nat.lt_of_succ_lt z)
    · unfold maxS
      cases e : strLt i j with
      | true =>
        simp [argBest, e] at hP
        rw [← hP, if_pos rfl]
        exact ⟨u, rfl⟩
      | false =>
        simp [argBest, e] at hP
        rw [← hP, if_neg Bool.false_ne_true]
        exact ⟨t, rfl⟩
variable {K : PySem.W.Frag} {σ : L2.St} {H H' : Hp} {ta tb te : TE} {D : Ends} {t : TT}
theorem rc_minS {x y : Str} : RC (fun xs H Q => ∃ i j, xs = [.str i, .str j] ∧ Q (.str (minS i j)) H) [.str x, .str y] H (.str (minS x y)) := fun H1 e Q q => ⟨x, y, rfl, q H1 (Ex.refl H1)⟩
theorem rc_maxS {x y : Str} : RC (fun xs H Q => ∃ i j, xs = [.str i, .str j] ∧ Q (.str (maxS i j)) H) [.str x, .str y] H (.str (maxS x y)) := fun H1 e Q q => ⟨x, y, rfl, q H1 (Ex.refl H1)⟩
theorem el_catV {xs ys : List V} {p : Addr} (h : EvL ta σ H xs) (hb : Ev tb σ H (.ref p)) (hp : H p = some (.lst ys)) (hz : xs.length + ys.length ≤ 100000) : EvL (tOp rCat ta tb) σ H (xs ++ ys) := fun H1 e Q q =>
  h H1 e _ fun a H2 ha e2 h2 => hb H2 (e.trans e2) _ fun H3 e3 => ⟨a, p, _, _, rfl, rfl, e3 _ _ h2, e3 _ _ (e2 _ _ (e _ _ hp)), sz_of hz, fun r hr => q r _ (fresh_back (e2.trans e3) hr) ((e2.trans e3).trans (Ex.new hr)) upd_same⟩
theorem s_retP {R : V → Hp → Prop} (h : EvP te σ H R) (k : ∀ v H1, Ex H H1 → R v H1 → D.rt v H1) : tRet te D σ H := h H (Ex.refl H) _ k
theorem evp_if {R : V → Hp → Prop} {b : Bool} (h : EvT t σ H b) (h1 : b = true → EvP ta σ H R) (h2 : b = false → EvP tb σ H R) : EvP (tIf t ta tb) σ H R := fun H1 e Q q => h H1 e _ fun H2 e2 => by
  cases b with
  | true =>
    show ta σ H2 Q
    exact h1 rfl H2 (e.trans e2) Q fun v H3 e3 r => q v H3 (e2.trans e3) r
  | false =>
    show tb σ H2 Q
    exact h2 rfl H2 (e.trans e2) Q fun v H3 e3 r => q v H3 (e2.trans e3) r
/-- a list that is new to an earlier heap -/
def NewL (H0 : Hp) (xs : List V) : V → Hp → Prop := fun v H => ∃ p, v = .ref p ∧ H0 p = none ∧ H p = some (.lst xs)
theorem evp_new {H0 : Hp} {xs : List V} (e0 : Ex H0 H) (h : EvL te σ H xs) : EvP te σ H (NewL H0 xs) := fun H1 e Q q => h H1 e _ fun p H2 hp e2 h2 => q _ H2 e2 ⟨p, rfl, fresh_back (e0.trans e) hp, h2⟩
theorem evp_old {H0 : Hp} {xs : List V} {p : Addr} (h : Ev te σ H (.ref p)) (h0 : H0 p = none) (hp : H p = some (.lst xs)) : EvP te σ H (NewL H0 xs) := fun H1 e Q q => h H1 e _ fun H2 e2 => q _ H2 e2 ⟨p, rfl, h0, e2 _ _ (e _ _ hp)⟩
end
end He
set_option Elab.async false
set_option linter.all false
set_option maxRecDepth 100000
set_option maxHeartbeats 4000000
set_option autoImplicit false
namespace K57
open PySem PySem.Spec PyProof.Rows L2 He Evl
def spCut (K : PySem.W.Frag) : Sp := fun vs H Q _ => ∃ (z : Str) (w : Str), vs = [.str z, .str w] ∧ z.length ≤ 1000 ∧ ∀ l H', Ex H H' → H l = none → H' l = some (.lst ((cutL (decide (w = "next")) z.cps.toList).1.map V.str)) → Q (.ref l) H'
theorem cut_step (nx : Bool) (c : Nat) (D : List Nat) : cutL nx (c :: D) = if vow c then (⟨#[c]⟩ :: (cutL nx D).1, ⟨#[c]⟩, true)
      else if (cutL nx D).2.2 then ((⟨#[c]⟩ ++ (cutL nx D).1.headD "") :: (cutL nx D).1.drop 1, (cutL nx D).2.1, false)
      else if decide ((cutL nx D).2.1 ≠ "") && nx then ((⟨#[c]⟩ ++ (cutL nx D).2.1) :: (cutL nx D).1, (cutL nx D).2.1, (cutL nx D).2.2)
      else ((cutL nx D).1, (cutL nx D).2.1, (cutL nx D).2.2) := rfl
theorem cut_len (nx : Bool) : ∀ D, (cutL nx D).1.length ≤ D.length
  | [] => Nat.le_refl _
  | c :: D => by
    have h := cut_len nx D
    rw [cut_step]
    split
    · show _ + 1 ≤ _ + 1; omega
    split
    · show (List.drop 1 _).length + 1 ≤ D.length + 1
      rw [List.length_drop]; omega
    split
    · show _ + 1 ≤ _ + 1; omega
    · show (cutL nx D).1.length ≤ D.length + 1; omega
theorem cut_vlen (nx : Bool) (D : List Nat) : (cutL nx D).2.1.length ≤ 1 := by
  rw [(cut_spec nx D).2.1]
  unfold vowS
  split
  · show 0 ≤ 1; decide
  · show 1 ≤ 1; decide
theorem cut_free (nx : Bool) : ∀ D, (cutL nx D).2.2 = true → ∃ s r, (cutL nx D).1 = s :: r ∧ s.length ≤ 1
  | [], h => nomatch h
  | c :: D, h => by
    rw [cut_step] at h ⊢
    by_cases hv : vow c = true
    · rw [if_pos hv]
      exact ⟨_, _, rfl, Nat.le_refl _⟩
    · rw [if_neg hv] at h
      by_cases hf : (cutL nx D).2.2 = true
      · rw [if_pos hf] at h
        cases h
      · rw [if_neg hf] at h
        split at h
        · exact absurd h hf
        · exact absurd h hf
theorem str_eq (a b : Str) : decide (V.str a = V.str b) = decide (a = b) := decide_eq_decide.mpr ⟨fun h => V.str.inj h, fun h => by rw [h]⟩
theorem str_ne (a b : Str) : (!decide (V.str a = V.str b)) = decide (a ≠ b) := by
  rw [str_eq]
  exact (decide_not).symm
theorem el_catL {σ : L2.St} {H : Hp} {ta tb : TE} {xs ys : List V} (h : EvL ta σ H xs) (hb : EvL tb σ H ys) (hz : xs.length + ys.length ≤ 100000) : EvL (tOp rCat ta tb) σ H (xs ++ ys) := fun H1 e Q q =>
  h H1 e _ fun a H2 ha e2 h2 => hb H2 (e.trans e2) _ fun b H3 hb2 e3 h3 => ⟨a, b, _, _, rfl, rfl, e3 _ _ h2, h3, sz_of hz, fun r hr => q r _ (fresh_back (e2.trans e3) hr) ((e2.trans e3).trans (Ex.new hr)) upd_same⟩
section
variable {P : Program} {w : World} {K : PySem.W.Frag} {mg : Str → Option Value} {base : Heap}
theorem b_l_cut (T : Tx K mg) : Binds K (fdOf K ("_law_cut", none)) ["_law_heard_here", "_law_way"] [] := T.f_l_cut.bindsN fun _ _ _ _ _ _ us hl => match us, hl with | [_, _], _ => rfl
theorem ok_l_cut (T : Tx K mg) : FnOk P w K mg base CX0 1 (ga K "_law_cut") (fdOf K ("_law_cut", none)) ["_law_heard_here", "_law_way"] (spCut K) := by
  refine T.f_l_cut.ok sc_l_cut (fun vs H Q E h => ?_) (fun cdv A outer s H vs Q E hr h => ?_)
  · obtain ⟨z, w, rfl, _⟩ := h
    rfl
  · refine ⟨_, PSs.nox (pss_cons (ps_par3 (i := 2) (j := 3) (l := 4) (by rfl) sc_l_cut.nd rfl rfl rfl (by decide) (by decide) (by decide) rfl rfl rfl (pa_cons (pe_lst pa_nil) (pa_cons pe_str (pa_cons pe_bl pa_nil))) (by rfl))
      (pss_cons (ps_for PassesOwn.never rfl (pi_str (pe_revS (pv 0))) (pg_name (i := 5) sc_l_cut.nd rfl (.inl rfl))
        (pss_one (ps_if (pt_cmpR op_in_sign (pv 5) pe_str (by rfl))
          (pss_one (ps_par3 (i := 2) (j := 3) (l := 4) (by rfl) sc_l_cut.nd rfl rfl rfl (by decide) (by decide) (by decide) rfl rfl rfl (pa_cons (pe_op op_cat (pe_lst (pa_cons (pv 5) pa_nil)) (pv 2)) (pa_cons (pv 5) (pa_cons pe_bl pa_nil))) (by rfl)))
          (pss_one (ps_if (pt_val (pv 4))
            (pss_one (ps_par (i := 2) (j := 4) (by rfl) sc_l_cut.nd rfl rfl (by decide) rfl rfl (pa_cons (pe_op op_cat (pe_lst (pa_cons (pe_op op_add_str (pv 5) (pe_ix ix_list (pv 2) pe_int (fun _ _ => rfl))) pa_nil)) (pe_slice sl_list (pv 2) (po_some pe_int) po_none)) (pa_cons pe_bl pa_nil)) (by rfl)))
            (pss_one (ps_if (PW.pt (pw_and (pt_cmpR op_ne (pv 3) pe_str (nomark _)) (pw_and1 (pt_cmpR op_eq (pv 1) pe_str (nomark _)))))
              (pss_one (ps_set (i := 2) sc_l_cut.nd rfl (.inl rfl) (pe_op op_cat (pe_lst (pa_cons (pe_op op_add_str (pv 5) (pv 3)) pa_nil)) (pv 2))))
              pss_nil)))))))
      (pss_one (ps_ret (pv 2))))), ?_⟩
    -- slots: [(0, '_law_heard_here'), (1, '_law_way'), (2, '_law_found'), (3, '_law_vowel'), (4, '_law_free'), (5, '_law_letter')]
    obtain ⟨z, wy, rfl, hz, k⟩ := h
    have nzl : z.length = z.cps.toList.length := (Array.length_toList).symm
    have rl : (revS z).cps.toList = z.cps.toList.reverse := List.toList_toArray
    have rs : (revS z).cps.size = z.cps.toList.length := by rw [← Array.length_toList, rl, List.length_reverse]
    refine ⟨Nat.zero_le _, fun l0 n0 => ⟨_, _, _, rfl, ?_⟩⟩
    have e0 := Ex.new (o := .lst []) n0
    refine ⟨_, rfl, z, rfl, sz_of (n := z.length) (by omega), revS z, rfl, ?_⟩
    refine for_it walk_str (fun m σ' H' => ∃ (fl : Addr) (lt : Option V), σ' = [some (.str z), some (.str wy), some (.ref fl), some (.str (cutL (decide (wy = "next")) (z.cps.toList.drop (z.cps.toList.length - m))).2.1), some (.bl (cutL (decide (wy = "next")) (z.cps.toList.drop (z.cps.toList.length - m))).2.2), lt] ∧ Ex H H' ∧ H fl = none ∧ H' fl = some (.lst ((cutL (decide (wy = "next")) (z.cps.toList.drop (z.cps.toList.length - m))).1.map V.str))) ⟨l0, none, by rw [Nat.sub_zero, List.drop_length]; rfl, e0, n0, by rw [Nat.sub_zero, List.drop_length]; exact upd_same⟩ (fun _ _ _ _ _ => trivial) ?_ ?_
    · rintro m y σ' H1 H2 hm ⟨fl, lt, rfl, e1, nf, hf⟩ ⟨rfl, c, hc, rfl⟩
      have hm2 : m < z.cps.toList.length := by rw [← rs]; exact hm
      have hc2 : z.cps.toList.reverse[m]? = some c := by rw [← rl]; simpa using hc
      have hdr : z.cps.toList.drop (z.cps.toList.length - (m + 1)) = c :: z.cps.toList.drop (z.cps.toList.length - m) := by
        rw [List.getElem?_reverse hm2] at hc2
        obtain ⟨hlt, hg⟩ := List.getElem?_eq_some_iff.mp hc2
        have e : z.cps.toList.length - (m + 1) = z.cps.toList.length - 1 - m := by omega
        rw [e, List.drop_eq_getElem_cons hlt, hg]
        congr 2
        omega
      have lenD : (z.cps.toList.drop (z.cps.toList.length - m)).length ≤ 1000 := by rw [List.length_drop]; omega
      rw [hdr]
      generalize z.cps.toList.drop (z.cps.toList.length - m) = D at hf lenD ⊢
      have flen := cut_len (decide (wy = "next")) D
      have fvow := cut_vlen (decide (wy = "next")) D
      have ffree := cut_free (decide (wy = "next")) D
      have step := cut_step (decide (wy = "next")) c D
      generalize hg1 : (cutL (decide (wy = "next")) D).1 = F at *
      generalize hg2 : (cutL (decide (wy = "next")) D).2.1 = Vw at *
      generalize hg3 : (cutL (decide (wy = "next")) D).2.2 = Fr at *
      have inV_ : ∀ {d : Nat} {H2 : Hp}, RV (fun x y H Q => ∃ (c : Nat) (z : Str), x = .str ⟨#[c]⟩ ∧ y = .str z ∧ Q (.bl (decide (c ∈ z.cps.toList))) H) (.str ⟨#[d]⟩) (.str "aeiou") H2 (.bl (vow d)) := fun H1 e Q q => ⟨_, vowels, rfl, rfl, q H1 (Ex.refl H1)⟩
      have flM : (F.map V.str).length ≤ 1000 := by rw [List.length_map]; omega
      refine s_if (b := vow c) (et_test (ev_op (ev_var rfl) ev_c inV_)) (fun hv H3 e3 => ?_) (fun hv H3 e3 => ?_)
      · have st : cutL (decide (wy = "next")) (c :: D) = (⟨#[c]⟩ :: F, ⟨#[c]⟩, true) := by rw [step, if_pos hv]
        have el : EvL (tOp rCat (tLst (tCons (tVar 5) tNil)) (tVar 2)) [some (.str z), some (.str wy), some (.ref fl), some (.str Vw), some (.bl Fr), some (.str ⟨#[c]⟩)] H3 ([.str ⟨#[c]⟩] ++ F.map V.str) := el_catV (el_lst (ea_cons (ev_var rfl) ea_nil) (by show 1 ≤ 100000; decide)) (ev_var rfl) (e3 _ _ hf) (by show 1 + (F.map V.str).length ≤ 100000; omega)
        refine el H3 (Ex.refl H3) _ fun p H4 np e4 hp => ⟨_, rfl, _, _, _, rfl, ?_⟩
        rw [st]
        exact ⟨p, _, rfl, (e1.trans e3).trans e4, fresh_back (e1.trans e3) np, hp⟩
      · refine s_if (b := Fr) (et_B (ev_var rfl)) (fun hb H4 e4 => ?_) (fun hb H4 e4 => ?_)
        · obtain ⟨s0, sr, hF, ls⟩ := ffree hb
          subst hF
          have st : cutL (decide (wy = "next")) (c :: D) = ((⟨#[c]⟩ ++ s0) :: sr, Vw, false) := by rw [step, if_neg (by rw [hv]; decide), if_pos hb]; rfl
          have cut1 : cutV ((s0 :: sr).map V.str) (some 1) none = sr.map V.str := cut_from (n := 1)
          have el : EvL (tOp rCat (tLst (tCons (tOp (fun x y H Q => ∃ i j, x = V.str i ∧ y = V.str j ∧ i.length + j.length ≤ sizeLine ∧ Q (V.str (i ++ j)) H) (tVar 5) (tOp (rIxL K) (tVar 2) (tC (V.int 0)))) tNil)) (tSl (rSlL K) (tVar 2) (tPart (tC (V.int 1))) tNoPart)) [some (.str z), some (.str wy), some (.ref fl), some (.str Vw), some (.bl Fr), some (.str ⟨#[c]⟩)] H4 ([.str (⟨#[c]⟩ ++ s0)] ++ sr.map V.str) := by
            refine el_catL (el_lst (ea_cons (ev_op (ev_var rfl) (ev_op (ev_var rfl) ev_c (rv_ixL (SqL.of (e4 _ _ (e3 _ _ hf))) (atI_nat (j := 0) rfl))) fun H5 e Q q => ⟨⟨#[c]⟩, s0, rfl, rfl, sz_of (by show 1 + s0.length ≤ 100000; omega), q H5 (Ex.refl H5)⟩) ea_nil) (by show 1 ≤ 100000; decide)) ?_ (by show 1 + (sr.map V.str).length ≤ 100000; rw [List.length_map] at flM ⊢; rw [List.length_cons] at flM; omega)
            rw [← cut1]
            exact el_sl (ev_var rfl) (eo_some ev_c) eo_none (SqL.of (e4 _ _ (e3 _ _ hf)))
          refine el H4 (Ex.refl H4) _ fun p H5 np e5 hp => ⟨_, _, rfl, ?_⟩
          rw [st]
          exact ⟨p, _, rfl, ((e1.trans e3).trans e4).trans e5, fresh_back ((e1.trans e3).trans e4) np, hp⟩
        · have tst : EvT (tAnd (tTest (tOp rNe (tVar 3) (tC (V.str "")))) (tTest (tOp rEq (tVar 1) (tC (V.str "next"))))) [some (.str z), some (.str wy), some (.ref fl), some (.str Vw), some (.bl Fr), some (.str ⟨#[c]⟩)] H4 (decide (Vw ≠ "") && decide (wy = "next")) :=
            et_and (et_test (ev_is (ev_op (ev_var rfl) ev_c (rv_ne rfl)) (congrArg V.bl (str_ne _ _)))) fun _ => et_test (ev_is (ev_op (ev_var rfl) ev_c (rv_eq rfl)) (congrArg V.bl (str_eq _ _)))
          refine s_when tst (fun hb2 H5 e5 => ?_) (fun hb2 H5 e5 => ?_)
          · have st : cutL (decide (wy = "next")) (c :: D) = ((⟨#[c]⟩ ++ Vw) :: F, Vw, Fr) := by rw [step, if_neg (by rw [hv]; decide), if_neg (by rw [hb]; decide), if_pos hb2]
            refine s_asgL (el_catV (el_lst (ea_cons (ev_op (ev_var rfl) (ev_var rfl) fun H6 e Q q => ⟨⟨#[c]⟩, Vw, rfl, rfl, sz_of (by show 1 + Vw.length ≤ 100000; omega), q H6 (Ex.refl H6)⟩) ea_nil) (by show 1 ≤ 100000; decide)) (ev_var rfl) ((e4.trans e5) _ _ (e3 _ _ hf)) (by show 1 + (F.map V.str).length ≤ 100000; omega)) fun p H6 np e6 hp => ?_
            rw [st]
            exact ⟨p, _, rfl, (((e1.trans e3).trans e4).trans e5).trans e6, fresh_back (((e1.trans e3).trans e4).trans e5) np, hp⟩
          · have st : cutL (decide (wy = "next")) (c :: D) = (F, Vw, Fr) := by rw [step, if_neg (by rw [hv]; decide), if_neg (by rw [hb]; decide), if_neg (by rw [hb2]; decide)]
            show ∃ fl lt, _
            rw [st]
            exact ⟨fl, _, rfl, ((e1.trans e3).trans e4).trans e5, nf, (e4.trans e5) _ _ (e3 _ _ hf)⟩
    · rintro σ' H1 ⟨fl, lt, rfl, e1, nf, hf⟩
      refine s_ret (ev_var rfl) fun H2 e2 => k fl H2 (e1.trans e2) nf ?_
      rw [rs, Nat.sub_self, List.drop_zero] at hf
      exact e2 _ _ hf
end
end K57
set_option Elab.async false
set_option linter.all false
set_option maxRecDepth 100000
set_option maxHeartbeats 4000000
set_option autoImplicit false
/-! list(d.values()); comprehensions over a dict's keys, the dict locked for the while. -/
namespace Evl
open PySem PySem.Spec PyProof.Rows L2 He
def tLvals (td : TE) : TE := fun σ H Q => td σ H fun x H1 => ∃ (d : Addr) (kvs : List (Key × V)), x = .ref d ∧ H1 d = some (.dK kvs) ∧ ∀ l, H1 l = none → Q (.ref l) (upd H1 l (.lst (kvs.map Prod.snd)))
theorem vals_at : ∀ {xs : List V} {us : List Value}, xs.length = us.length → (∀ (i : Nat) (x : V) (u : Value), xs[i]? = some x → us[i]? = some u → RelV x u) → Vals xs us
  | [], [], _, _ => .nil
  | [], _ :: _, h, _ => nomatch h
  | _ :: _, [], h, _ => nomatch h
  | x :: xs, u :: us, h, k => .cons (k 0 x u rfl rfl) (vals_at (Nat.succ.inj h) fun i y v e1 e2 => k (i + 1) y v e1 e2)
theorem paired_at {α β : Type} {R : α → β → Prop} : ∀ {xs : List α} {ys : List β}, Paired R xs ys → ∀ {i : Nat} {x : α} {y : β}, xs[i]? = some x → ys[i]? = some y → R x y
  | _, _, .nil, _, _, _, h, _ => by simp at h
  | _, _, .cons r _, 0, x, y, h1, h2 => by
    simp at h1 h2
    subst h1 h2
    exact r
  | _, _, .cons _ t, i + 1, x, y, h1, h2 => paired_at t (i := i) (by simpa using h1) (by simpa using h2)
section
variable {X : Cx} {e : Expr} {td : TE} {p pos apos cpos : Pos}
theorem pe_listVals (he : PE X e td) (calm : X.calm = true) (hg : Gl X "list") (hm : X.mg "list" = none) (hb : bootBuiltins "list" = some (.type "list")) (hbase : attributeBase e "values" X.env (eval e X.env) = eval e X.env := by rfl) (hline : (apos.endLine == cpos.line) = true := by rfl)
    (hst : starEach [.Call (.Attribute e "values" apos) [] [] cpos] X.env = (false, eval (.Call (.Attribute e "values" apos) [] [] cpos) X.env) :: starEach [] X.env := by rfl) :
    PE X (.Call (.Name "list" p) [.Call (.Attribute e "values" apos) [] [] cpos] [] pos) (tLvals td) := by
  refine ⟨fun pins s σ H Q I h => ?_⟩
  refine wpAny_Call_Name_kw (ld_blt I hg hm hb ?_ (by decide) (by decide))
  refine PyProof.Rows.callWith_type1 ?_ hst rfl
  rw [hst]
  show wpAny _ _ (spliced ((false, eval (.Call (.Attribute e "values" apos) [] [] cpos) X.env) :: [])) _ _ s
  refine PySem.Calls.spliced_cons ?_
  refine wpAny_Call_method (T := "dict") (id := "dict.values") hbase rfl hline F.plainAttrs_dict F.slot_dict_values F.type_dict_values (thn (he.run pins s σ H _ I h) fun u s1 ⟨x, H1, J, rx, d, kvs, ex, hd, q⟩ => ?_)
  subst ex
  obtain rfl : u = Value.ref d := rx
  obtain ⟨hz, hs, vs, kv, o, es, ep, od, ox, dt, r⟩ := J.hok d _ hd
  have at_ : s1.heap.DictAt (mixKind X.prog X.w) d vs ep := ⟨o, es, od, ox, dt, r⟩
  have len : kvs.length = vs.length := Paired.length kv
  refine ⟨at_.dictOf.typeIs, at_.dictOf.mapOf.noDict, ?_⟩
  have J2 : Inv X pins σ H1 { s1 with heap := s1.heap.push { cls := .type "dict_values", data := .fields #[.ref d] } } := J.kept (t' := s1.toks) fun b ob z => Heap.get?_push_of_some _ z
  show wpAny _ _ (callWith cpos (.builtin "dict.values") [.ref d] [] []) _ X.xe s1
  refine method_meetsIn F.slot_dict_values F.entry_dict_values rfl (PySem.evalArgs_none ⟨rfl, at_.dictOf.typeIs, F.args_dict_values_1 _, _, meets_dict_values (mixKind X.prog X.w) d hs, ⟨vs, at_.dictOf⟩, ?_⟩)
  refine PySem.Calls.spliced_nil ?_
  refine PySem.W.kdl_call (PySem.W.kdl_values (knd := mixKind X.prog X.w) (kvs := vs) (ep := ep) (d := d) (r := s1.heap.objs.size)) (J.ok.hd calm) ⟨⟨_, Heap.get?_push_size _ rfl, rfl, rfl⟩, at_.push _⟩ (by rw [← len]; exact hz) fun h' tk acc c kp al it => ?_
  have rv : Vals (kvs.map Prod.snd) acc.toList := by
    refine vals_at ((List.length_map _).trans (len.trans (it.1.symm.trans Array.length_toList.symm))) fun i y v e1 e2 => ?_
    have e3 : acc[i]? = some v := by simpa using e2
    obtain ⟨key, e4⟩ := it.2 i v e3
    rw [List.getElem?_map] at e1
    cases e5 : kvs[i]? with
    | none => rw [e5] at e1; cases e1
    | some kx =>
      rw [e5] at e1
      cases e1
      exact (paired_at kv e5 e4).2
  refine ⟨.ref _, _, J2.laid (t' := tk) kp (Nat.le_refl _) (show ObjOk X.prog X.w _ h' _ (.lst (kvs.map Prod.snd)) from ⟨by rw [List.length_map]; exact hz, acc.toList, c, rv, by rw [Array.toArray_toList]; exact al⟩), rfl, q _ (J2.hok.fresh (Nat.le_refl _))⟩
end
section
variable {K : PySem.W.Frag} {σ : L2.St} {H : Hp} {td te : TE} {d : Addr} {kvs : List (Key × V)}
theorem el_listVals (h : Ev td σ H (.ref d)) (hd : H d = some (.dK kvs)) : EvL (tLvals td) σ H (kvs.map Prod.snd) := fun H1 e Q q =>
  h H1 e _ fun H2 e2 => ⟨d, kvs, rfl, e2 _ _ (e _ _ hd), fun l hl => q l _ (fresh_back e2 hl) (e2.trans (Ex.new hl)) upd_same⟩
/-- a walk over a locked thing -/
theorem el_lock {t : TE} {u : HO} {xs : List V} (hd : H d = some u) (mu : Mut (some u)) (h : ∀ od, EvL t σ (upd H d (.frz od u)) xs) : EvL (tLockE t) σ H xs := fun H1 e Q q => by
  have hd1 := e _ _ hd
  refine ⟨d, u, hd1, mu, fun od => h od _ (fun b o z => ?_) _ fun p H2 np e2 hp => ?_⟩
  · by_cases hb : b = d
    · subst hb
      rw [upd_same] at z ⊢
      exact z
    · rw [upd_ne hb] at z ⊢
      exact e _ _ z
  · have hd2 : H2 d = some (.frz od u) := e2 _ _ upd_same
    have nd : p ≠ d := fun z => by rw [z, upd_same] at np; cases np
    rw [upd_ne nd] at np
    refine ⟨hd2, q p _ np (fun b o z => ?_) ((upd_ne nd).trans hp)⟩
    by_cases hb : b = d
    · subst hb
      rw [upd_same, ← z, hd1]
    · rw [upd_ne hb]
      exact e2 _ _ ((upd_ne hb).trans z)
/-- [g k for k in d] -/
theorem el_lcKeys {j : Nat} {vs : List Nat} (g : V → V) {o : Obj} (h : Ev td σ H (.ref d)) (hd : H d = some (.frz o (.dK kvs))) (hz : kvs.length ≤ 40000) (hw : ∀ x, wipe ((wipe σ vs).set j (some x)) vs = wipe σ vs)
    (he : ∀ k H1, Ex H H1 → k ∈ kvs.map (fun kv => kV kv.1) → Ev te ((wipe σ vs).set j (some k)) H1 (g k)) : EvL (tLc (iKeys td) (gName j) tYes te vs) σ H (kvs.map fun kv => g (kV kv.1)) := by
  have e0 : given kvs.length (fun _ => true) (fun i => g ((kvs.map fun kv => kV kv.1).getD i .non)) = kvs.map fun kv => g (kV kv.1) := by
    refine given_all (by rw [List.length_map]) fun i hi => ?_
    rw [List.getElem?_map, List.getElem?_eq_getElem hi, List.getD_eq_getElem?_getD, List.getElem?_map, List.getElem?_eq_getElem hi]
    rfl
  rw [← e0]
  refine el_lcW (J := Itk d o kvs) (n := kvs.length) (G := fun H => H d = some (.frz o (.dK kvs))) (ys := fun i x => ∃ k v, kvs[i]? = some (k, v) ∧ x = kV k) _ _ walk_keys (fun H1 e R q => h H1 e _ fun H2 e2 => ⟨d, o, rfl, .inl ⟨kvs, e2 _ _ (e _ _ hd), q H2 e2 (e2 _ _ (e _ _ hd))⟩⟩) (fun H1 H2 z e => e _ _ z) hz hw (fun _ _ _ _ _ _ => et_yes) (fun i x H1 e hi hy _ => ?_)
  obtain ⟨k, v, hk, rfl⟩ := hy
  have e1 : (kvs.map fun kv => kV kv.1)[i]? = some (kV k) := by rw [List.getElem?_map, hk]; rfl
  rw [List.getD_eq_getElem?_getD, e1]
  exact he _ H1 e (List.mem_of_getElem? e1)
/-- [g x for x in l] -/
theorem el_lcLm {tl : TE} {a : Addr} {xs : List V} {j : Nat} {vs : List Nat} (g : V → V) (h : Ev tl σ H (.ref a)) (hx : SqL K H a xs) (hz : xs.length ≤ 40000) (hw : ∀ x, wipe ((wipe σ vs).set j (some x)) vs = wipe σ vs)
    (he : ∀ (x : V) H1, Ex H H1 → x ∈ xs → Ev te ((wipe σ vs).set j (some x)) H1 (g x)) : EvL (tLc (iList K tl) (gName j) tYes te vs) σ H (xs.map g) := by
  have e0 : given xs.length (fun _ => true) (fun i => g (xs.getD i .non)) = xs.map g := by
    refine given_all (by rw [List.length_map]) fun i hi => ?_
    rw [List.getElem?_map, List.getElem?_eq_getElem hi, List.getD_eq_getElem?_getD, List.getElem?_eq_getElem hi]
    rfl
  rw [← e0]
  refine el_lcL _ _ h hx hz hw (fun _ _ _ _ _ => et_yes) fun i x H1 e hi _ => ?_
  rw [List.getD_eq_getElem?_getD, hi]
  exact he x H1 e (List.mem_of_getElem? hi)
end
end Evl
set_option Elab.async false
set_option linter.all false
set_option maxRecDepth 100000
set_option maxHeartbeats 4000000
set_option autoImplicit false
/-! [f(x) for x in xs] where f gives a new object, or any value of which R holds. -/
namespace He
open PySem PySem.Spec PyProof.Rows L2 Evl
section
variable {K : PySem.W.Frag} {σ : L2.St} {H : Hp} {te tl : TE} {α : Type}
/-- all but lists stay -/
def ExN (H H' : Hp) : Prop := ∀ a u, H a = some u → (∀ xs, u ≠ .lst xs) → H' a = some u
theorem ExN.of {H H' : Hp} (e : Ex H H') : ExN H H' := fun a u h _ => e a u h
theorem ExN.trans {H H1 H2 : Hp} (a : ExN H H1) (b : ExN H1 H2) : ExN H H2 := fun x u h n => b x u (a x u h n) n
theorem ExN.upd {H : Hp} {p : Addr} {acc : List V} {o : HO} (h : H p = some (.lst acc)) : ExN H (upd H p o) := fun a u ha n => by
  rw [upd_ne (fun z => by rw [z, h] at ha; exact n acc (Option.some.inj ha).symm)]
  exact ha
def StabN (R : V → Hp → Prop) : Prop := ∀ v H H', R v H → ExN H H' → R v H'
/-- each of vs is the value of its x -/
inductive Each (R : α → V → Hp → Prop) (H : Hp) : List α → List V → Prop
  | nil : Each R H [] []
  | cons {x : α} {v : V} {xs : List α} {vs : List V} : R x v H → Each R H xs vs → Each R H (x :: xs) (v :: vs)
theorem Each.ex {R : α → V → Hp → Prop} {H H' : Hp} (st : ∀ x, StabN (R x)) (e : ExN H H') : ∀ {xs : List α} {vs : List V}, Each R H xs vs → Each R H' xs vs
  | _, _, .nil => .nil
  | _, _, .cons h t => .cons (st _ _ _ _ h e) (t.ex st e)
theorem Each.len {R : α → V → Hp → Prop} {H : Hp} : ∀ {xs : List α} {vs : List V}, Each R H xs vs → xs.length = vs.length
  | _, _, .nil => rfl
  | _, _, .cons _ t => congrArg (· + 1) t.len
theorem Each.snoc {R : α → V → Hp → Prop} {H : Hp} {y : α} {v : V} (h : R y v H) : ∀ {xs : List α} {vs : List V}, Each R H xs vs → Each R H (xs ++ [y]) (vs ++ [v])
  | _, _, .nil => .cons h .nil
  | _, _, .cons h1 t => .cons h1 (t.snoc h)
/-- a list of values, each as R says -/
def EvLP (te : TE) (σ : L2.St) (H : Hp) (R : α → V → Hp → Prop) (xs : List α) : Prop := ∀ H1, Ex H H1 → ∀ Q : VK, (∀ p vs H2, H1 p = none → Ex H1 H2 → H2 p = some (.lst vs) → Each R H2 xs vs → Q (.ref p) H2) → te σ H1 Q
theorem el_lcPW {J : It} {G : Hp → Prop} {wi : TI} {j : Nat} {vs : List Nat} {R : α → V → Hp → Prop} (st : ∀ x, StabN (R x)) (f : α → V) {xs : List α} (w : Walk J xs.length G (fun i H x H' => H' = H ∧ (xs.map f)[i]? = some x))
    (hi : ∀ H1, Ex H H1 → ∀ N : It → Hp → Prop, (∀ H2, Ex H1 H2 → G H2 → N J H2) → wi σ H1 N) (hG : ∀ H1 H2, G H1 → Ex H1 H2 → G H2) (hz : xs.length ≤ 40000) (hw : ∀ x, wipe ((wipe σ vs).set j (some x)) vs = wipe σ vs)
    (he : ∀ (x : α) H1, Ex H H1 → x ∈ xs → EvP te ((wipe σ vs).set j (some (f x))) H1 (R x)) : EvLP (tLc wi (gName j) tYes te vs) σ H R xs := fun H0 e Q q => hi H0 e _ fun H1 e1 g1 => fun Dl hD =>
  lc_it w (fun i H' => ∃ acc, H' Dl = some (.lst acc) ∧ Ex H1 H' ∧ Each R H' (xs.take i) acc) ⟨[], upd_same, Ex.new hD, .nil⟩ (fun i H' _ p => let ⟨_, _, e2, _⟩ := p; hG H1 H' g1 e2) (fun i x H2 H' hlt p y => by
    obtain ⟨rfl, hy⟩ := y
    obtain ⟨acc, ha, e2, all⟩ := p
    rw [List.getElem?_map] at hy
    obtain ⟨z, hz1, rfl⟩ := Option.map_eq_some_iff.mp hy
    have hlen := all.len
    rw [List.length_take] at hlen
    refine ⟨hw _, ?_⟩
    refine he z H1 (e.trans e1) (List.mem_of_getElem? hz1) H' e2 _ fun v H4 e4 r => ⟨acc, e4 _ _ ha, sz_lt (by omega), acc ++ [v], upd_same, Ex.mut (e2.trans e4) hD, ?_⟩
    have n2 : ExN H4 (upd H4 Dl (.lst (acc ++ [v]))) := ExN.upd (e4 _ _ ha)
    rw [List.take_succ, hz1]
    exact (all.ex st ((ExN.of e4).trans n2)).snoc (st _ _ _ _ r n2))
    (fun H' p => by
      obtain ⟨acc, ha, e2, all⟩ := p
      rw [List.take_length] at all
      exact q Dl acc H' (fresh_back e1 hD) (e1.trans e2) ha all)
theorem el_lcP {a : Addr} {j : Nat} {vs : List Nat} {R : α → V → Hp → Prop} (st : ∀ x, StabN (R x)) (f : α → V) {xs : List α} (h : Ev tl σ H (.ref a)) (hx : SqL K H a (xs.map f) ∨ SqT K H a (xs.map f)) (hz : xs.length ≤ 40000)
    (hw : ∀ x, wipe ((wipe σ vs).set j (some x)) vs = wipe σ vs) (he : ∀ (x : α) H1, Ex H H1 → x ∈ xs → EvP te ((wipe σ vs).set j (some (f x))) H1 (R x)) : EvLP (tLc (iSeq K tl) (gName j) tYes te vs) σ H R xs := by
  have el : (xs.map f).length = xs.length := List.length_map _
  rcases hx with hx | hx
  · exact el_lcPW (J := Itl K a) (G := fun H => SqL K H a (xs.map f)) st f (by rw [← el]; exact walk_list) (fun H1 e R q => .inl (h H1 e _ fun H2 e2 => ⟨a, rfl, ⟨_, ex_l (e.trans e2) hx⟩, q H2 e2 (ex_l (e.trans e2) hx)⟩)) (fun H1 H2 g e => ex_l e g) hz hw he
  · exact el_lcPW (J := Itt K a) (G := fun H => SqT K H a (xs.map f)) st f (by rw [← el]; exact walk_tup) (fun H1 e R q => .inr (h H1 e _ fun H2 e2 => ⟨a, rfl, ⟨_, ex_t (e.trans e2) hx⟩, q H2 e2 (ex_t (e.trans e2) hx)⟩)) (fun H1 H2 g e => ex_t e g) hz hw he
end
end He
set_option Elab.async false
set_option linter.all false
set_option maxRecDepth 100000
set_option maxHeartbeats 4000000
set_option autoImplicit false
/-! [f(x) for x in e], e a new list. -/
namespace He
open PySem PySem.Spec PyProof.Rows L2 Evl
section
variable {K : PySem.W.Frag} {σ : L2.St} {H : Hp} {te tl : TE} {α : Type}
/-- evaluates to a list of which G holds -/
def EvG (te : TE) (σ : L2.St) (H : Hp) (ref : α → V) (G : List α → Hp → Prop) : Prop := ∀ H1, Ex H H1 → ∀ Q : VK, (∀ p ms H2, H1 p = none → Ex H1 H2 → H2 p = some (.lst (ms.map ref)) → G ms H2 → Q (.ref p) H2) → te σ H1 Q
theorem el_lcSrc {ref : α → V} {G : List α → Hp → Prop} {xs : List V} {j : Nat} {vs : List Nat} (src : EvG tl σ H ref G) (g : α → V) (few : ∀ ms H2, G ms H2 → ms.length ≤ 40000) (out : ∀ ms H2, G ms H2 → ms.map g = xs)
    (hw : ∀ x, wipe ((wipe σ vs).set j (some x)) vs = wipe σ vs) (he : ∀ ms H2, Ex H H2 → G ms H2 → ∀ x ∈ ms, ∀ H3, Ex H2 H3 → Ev te ((wipe σ vs).set j (some (ref x))) H3 (g x)) : EvL (tLc (iList K tl) (gName j) tYes te vs) σ H xs := fun H1 e Q q =>
  src H1 e _ fun p ms H2 np e2 hp good => by
    have len : (ms.map ref).length = ms.length := List.length_map _
    have e0 : given (ms.map ref).length (fun _ => true) (fun i => ((ms[i]?).map g).getD .non) = xs := by
      rw [← out ms H2 good]
      refine given_all (by rw [List.length_map, List.length_map]) fun i hi => ?_
      have hi2 : i < ms.length := by rw [← len]; exact hi
      rw [List.getElem?_map, List.getElem?_eq_getElem hi2]
      rfl
    have z := el_lcL (K := K) (te := te) (t := tYes) (j := j) (vs := vs) (tl := tC (.ref p)) (σ := σ) (H := H2) (a := p) (xs := ms.map ref) (fun _ => true) (fun i => ((ms[i]?).map g).getD .non) ev_c (SqL.of hp) (by rw [len]; exact few ms H2 good) hw (fun _ _ _ _ _ => et_yes) fun i x H3 e3 hi _ => by
      rw [List.getElem?_map] at hi
      obtain ⟨m, hm, rfl⟩ := Option.map_eq_some_iff.mp hi
      rw [hm]
      exact he ms H2 (e.trans e2) good m (List.mem_of_getElem? hm) H3 e3
    rw [e0] at z
    exact z H2 (Ex.refl H2) Q fun r H3 nr e3 hr => q r H3 (fresh_back e2 nr) (e2.trans e3) hr
theorem el_lcPL {a : Addr} {j : Nat} {vs : List Nat} {R : α → V → Hp → Prop} (st : ∀ x, StabN (R x)) (f : α → V) {xs : List α} (h : Ev tl σ H (.ref a)) (hx : SqL K H a (xs.map f)) (hz : xs.length ≤ 40000)
    (hw : ∀ x, wipe ((wipe σ vs).set j (some x)) vs = wipe σ vs) (he : ∀ (x : α) H1, Ex H H1 → x ∈ xs → EvP te ((wipe σ vs).set j (some (f x))) H1 (R x)) : EvLP (tLc (iList K tl) (gName j) tYes te vs) σ H R xs := by
  have el : (xs.map f).length = xs.length := List.length_map _
  exact el_lcPW (J := Itl K a) (G := fun H => SqL K H a (xs.map f)) st f (by rw [← el]; exact walk_list) (fun H1 e R q => h H1 e _ fun H2 e2 => ⟨a, rfl, ⟨_, ex_l (e.trans e2) hx⟩, q H2 e2 (ex_l (e.trans e2) hx)⟩) (fun H1 H2 g e => ex_l e g) hz hw he
end
end He
set_option Elab.async false
set_option linter.all false
set_option maxRecDepth 100000
set_option maxHeartbeats 4000000
set_option autoImplicit false
/-! [f(k) for k in d], d a dict, f(k) a new object. -/
namespace He
open PySem PySem.Spec PyProof.Rows L2 Evl
section
variable {K : PySem.W.Frag} {σ : L2.St} {H : Hp} {te td : TE} {α : Type} {d : Addr}
theorem Each.imp {R S : α → V → Hp → Prop} {H H' : Hp} (h : ∀ x v, R x v H → S x v H') : ∀ {xs : List α} {vs : List V}, Each R H xs vs → Each S H' xs vs
  | _, _, .nil => .nil
  | _, _, .cons r t => .cons (h _ _ r) (t.imp h)
/-- a walk over a locked thing -/
theorem elp_lock {t : TE} {u : HO} {R : α → V → Hp → Prop} {xs : List α} (hd : H d = some u) (mu : Mut (some u)) (un : ∀ x v H' od, R x v H' → H' d = some (.frz od u) → R x v (upd H' d u)) (h : ∀ od, EvLP t σ (upd H d (.frz od u)) R xs) : EvLP (tLockE t) σ H R xs := fun H1 e Q q => by
  have hd1 := e _ _ hd
  refine ⟨d, u, hd1, mu, fun od => h od _ (fun b o z => ?_) _ fun p vs H2 np e2 hp all => ?_⟩
  · by_cases hb : b = d
    · subst hb
      rw [upd_same] at z ⊢
      exact z
    · rw [upd_ne hb] at z ⊢
      exact e _ _ z
  · have hd2 : H2 d = some (.frz od u) := e2 _ _ upd_same
    have nd : p ≠ d := fun z => by rw [z, upd_same] at np; cases np
    rw [upd_ne nd] at np
    refine ⟨hd2, q p vs _ np (fun b o z => ?_) ((upd_ne nd).trans hp) (all.imp fun x v r => un x v H2 od r hd2)⟩
    by_cases hb : b = d
    · subst hb
      rw [upd_same, ← z, hd1]
    · rw [upd_ne hb]
      exact e2 _ _ ((upd_ne hb).trans z)
/-- [f(k) for k in d] -/
theorem elp_keys {j : Nat} {vs : List Nat} {kvs : List (Key × V)} {R : Key × V → V → Hp → Prop} {o : Obj} (st : ∀ x, StabN (R x)) (h : Ev td σ H (.ref d)) (hd : H d = some (.frz o (.dK kvs))) (hz : kvs.length ≤ 40000) (hw : ∀ x, wipe ((wipe σ vs).set j (some x)) vs = wipe σ vs)
    (he : ∀ (kv : Key × V) H1, Ex H H1 → kv ∈ kvs → EvP te ((wipe σ vs).set j (some (kV kv.1))) H1 (R kv)) : EvLP (tLc (iKeys td) (gName j) tYes te vs) σ H R kvs := by
  have w : Walk (Itk d o kvs) kvs.length (fun H => H d = some (.frz o (.dK kvs))) (fun i H x H' => H' = H ∧ ∃ k v, kvs[i]? = some (k, v) ∧ x = kV k) := walk_keys
  refine el_lcPW (J := Itk d o kvs) (G := fun H => H d = some (.frz o (.dK kvs))) st (fun kv : Key × V => kV kv.1) ⟨fun i H l g => w.goes i H l g, fun H g => w.stops H g, fun i H x H' l g y => ?_⟩ (fun H1 e R q => h H1 e _ fun H2 e2 => ⟨d, o, rfl, .inl ⟨kvs, e2 _ _ (e _ _ hd), q H2 e2 (e2 _ _ (e _ _ hd))⟩⟩) (fun H1 H2 z e => e _ _ z) hz hw he
  obtain ⟨e, k, v, hk, ex⟩ := w.yields i H x H' l g y
  exact ⟨e, by rw [List.getElem?_map, hk, ex]; rfl⟩
end
end He
set_option Elab.async false
set_option linter.all false
set_option maxRecDepth 100000
set_option maxHeartbeats 4000000
set_option autoImplicit false
namespace K57
open PySem PySem.Spec PyProof.Rows L2 He Evl TL
/-- letters exchanged -/
def exC (a b c : Nat) : Nat := if c = b then a else if c = a then b else c
def exF (z : Str) (a b : Nat) : Str := ⟨(z.cps.toList.map (exC a b)).toArray⟩
def spExch (K : PySem.W.Frag) : Sp := fun vs H Q E => ∃ (x y u : V), vs = [x, y, u] ∧ EOk K H x ∧ EOk K H y ∧ EOk K H u ∧ OrX K H E (heardV x) "BadHeard" "heard" (OrX K H E (letterV y) "BadHeard" "one" (OrX K H E (letterV u) "BadHeard" "other"
  (∀ z a b, x = .str z → y = .str ⟨#[a]⟩ → u = .str ⟨#[b]⟩ → OrX K H E (vow a == vow b) "Misfit" "letters" (RetV (.str (exF z a b)) H Q))))
theorem letter_one {y : V} (h : letterV y = true) : ∃ a, y = .str ⟨#[a]⟩ := by
  cases y with
  | str z =>
    have h1 : z.length = 1 := of_decide_eq_true (Bool.and_eq_true_iff.mp (show (heardB z && decide (z.length = 1)) = true from h)).2
    have nz : z.length = z.cps.toList.length := (Array.length_toList).symm
    obtain ⟨a, ha⟩ := List.length_eq_one_iff.mp (nz.symm.trans h1)
    refine ⟨a, congrArg V.str (Str.ext' (Array.toList_inj.mp ha))⟩
  | _ => cases h
theorem get_two {a b c : Nat} : (valV (mergeK [] [((.inr ⟨#[a]⟩ : Key), V.str ⟨#[b]⟩), (.inr ⟨#[b]⟩, .str ⟨#[a]⟩)]) (.inr ⟨#[c]⟩)).getD (.str ⟨#[c]⟩) = .str ⟨#[exC a b c]⟩ := by
  have eqk : ∀ p q : Nat, ((Sum.inr (⟨#[p]⟩ : Str) : Key) = .inr ⟨#[q]⟩) ↔ p = q := fun p q => ⟨fun h => by
    have h1 := congrArg (fun s : Str => s.cps.toList) (Sum.inr.inj h)
    simpa using h1, fun h => by rw [h]⟩
  show (valV (putK (putK [] _ _) _ _) _).getD _ = _
  rw [valV_put, valV_put]
  unfold exC
  by_cases h1 : c = b
  · rw [if_pos ((eqk _ _).mpr h1), if_pos h1]
    rfl
  · rw [if_neg (fun h => h1 ((eqk _ _).mp h)), if_neg h1]
    by_cases h2 : c = a
    · rw [if_pos ((eqk _ _).mpr h2), if_pos h2]
      rfl
    · rw [if_neg (fun h => h2 ((eqk _ _).mp h)), if_neg h2]
      rfl
theorem joinL_one (f : Nat → Nat) : ∀ cs : List Nat, joinL (tl "") (cs.map (tl ∘ fun c => (⟨#[f c]⟩ : Str))) = cs.map f
  | [] => rfl
  | [c] => rfl
  | c :: d :: r => by
    have h := joinL_one f (d :: r)
    show f c :: (joinL (tl "") ((d :: r).map (tl ∘ fun c => (⟨#[f c]⟩ : Str)))) = _
    rw [h]
    rfl
theorem sum_one (f : Nat → Nat) : ∀ cs : List Nat, ((cs.map fun c => (⟨#[f c]⟩ : Str)).map (·.length)).sum = cs.length
  | [] => rfl
  | c :: r => by
    have h := sum_one f r
    rw [List.map_cons, List.map_cons, List.sum_cons, h, List.length_cons]
    show 1 + r.length = _
    omega
section
variable {K : PySem.W.Frag} {σ : L2.St} {H : Hp} {to te : TE}
theorem ev_join {a : Str} {ys : List Str} (h1 : Ev to σ H (.str a)) (h2 : EvL te σ H (ys.map V.str)) (hz : (ys.map (·.length)).sum + ys.length * a.length ≤ 16777216) : Ev (tM1 (fun x xs H Q => ∃ a p, ∃ ys : List Str, x = .str a ∧ xs = [.ref p] ∧ (SqL K H p (ys.map V.str) ∨ SqT K H p (ys.map V.str)) ∧ (ys.map (·.length)).sum + ys.length * a.length ≤ 16777216 ∧ Q (.str (Txt.join a ys)) H) to te) σ H (.str (Txt.join a ys)) := fun H1 e Q q =>
  h1 H1 e _ fun H2 e2 => ⟨⟨a, rfl⟩, h2 H2 (e.trans e2) _ fun p H3 hp e3 h3 => ⟨a, p, ys, rfl, rfl, .inl (SqL.of h3), hz, q H3 (e2.trans e3)⟩⟩
end
section
variable {P : Program} {w : World} {K : PySem.W.Frag} {mg : Str → Option Value} {base : Heap}
theorem b_exchanged (T : Tx K mg) : Binds K (fdOf K ("exchanged", none)) ["heard", "one", "other"] [] := T.f_exchanged.bindsN fun _ _ _ _ _ _ us hl => match us, hl with | [_, _, _], _ => rfl
theorem ok_exchanged (T : Tx K mg) : FnOk P w K mg base (L2.CX P w) 4 (ga K "exchanged") (fdOf K ("exchanged", none)) ["heard", "one", "other"] (spExch K) := by
  refine T.f_exchanged.ok sc_exchanged (fun vs H Q E h => ?_) (fun cdv A outer s H vs Q E hr h => ?_)
  · obtain ⟨x, y, u, rfl, _⟩ := h
    rfl
  · have hu : (A.deeper (envOfC "exchanged" (defScope s_exchanged) s.heap.objs.size (ga K "exchanged") cdv)).units + 1 < cLine := by have := hr.un; omega
    refine ⟨_, (pss_cons (ps_expr (pe_call (ok_check_heard T) (hr.mono (by decide)) (by rfl) T.g_check_heard T.f_check_heard.kp (b_check_heard T) .nil (passes_call (takes_of rfl rfl rfl rfl) (fun _ _ _ _ h => h)) (pa_cons (pv 0) pa_nil)))
      (pss_cons (ps_if (pt_not (pt_val (pe_call (ok_is_letter T) (hr.mono (by decide)) (by rfl) T.g_is_letter T.f_is_letter.kp (b_is_letter T) .nil pass0 (pa_cons (pv 1) pa_nil))))
        (pss_one (xr_BadHeard T hr (takes_of rfl rfl rfl rfl) (pa_cons pe_str pa_nil)))
        pss_nil)
      (pss_cons (ps_if (pt_not (pt_val (pe_call (ok_is_letter T) (hr.mono (by decide)) (by rfl) T.g_is_letter T.f_is_letter.kp (b_is_letter T) .nil pass0 (pa_cons (pv 2) pa_nil))))
        (pss_one (xr_BadHeard T hr (takes_of rfl rfl rfl rfl) (pa_cons pe_str pa_nil)))
        pss_nil)
      (pss_cons (ps_if (pt_cmpR op_ne (pe_cmpR op_in_sign (pv 1) (pe_glob (v := .str "aeiou") (by rfl) T.g_VOWELS.choose_spec ⟨_, rfl⟩) (by rfl)) (pe_cmpR op_in_sign (pv 2) (pe_glob (v := .str "aeiou") (by rfl) T.g_VOWELS.choose_spec ⟨_, rfl⟩) (by rfl)) (nomark _))
        (pss_one (xr_Misfit T hr (takes_of rfl rfl rfl rfl) (pa_cons pe_str pa_nil)))
        pss_nil)
      (pss_cons (ps_set (i := 3) sc_exchanged.nd rfl (.inr rfl) (pe_disp (pps_cons (pv 1) (pv 2) (pps_cons (pv 2) (pv 1) pps_nil)) rfl rfl (by simp) (by simp)))
      (pss_one (ps_ret (pe_join pe_str (pe_lc (own := [("letter", 4)]) (g := (gName 4)) (tt := tYes) (te := tDGet2 (tVar 3) (tVar 4) (tVar 4)) rfl sc_exchanged.nd (pi_str (pv 0)) (blkOk_by (N := ["heard", "one", "other", "letters", "letter"]) (sc := defScope s_exchanged) (by decide +kernel)) (fun _ _ _ _ _ => pg_name (i := 4) sc_exchanged.nd rfl (Or.inl rfl)) (fun _ _ _ _ _ => pts_nil) (fun _ _ _ _ _ => (pe_dget2 hu (pv 3) (pv 4) (pv 4) ⟨rfl, rfl, rfl, rfl⟩))))))))))), ?_⟩
    -- slots: [(0, 'heard'), (1, 'one'), (2, 'other'), (3, 'letters'), (4, 'letter')]
    obtain ⟨x, y, u, rfl, hx, hy, hu_, k1, k2⟩ := h
    refine ⟨_, rfl, x, rfl, hx, k1, fun hb H1 e1 => ?_⟩
    obtain ⟨z, rfl⟩ : ∃ z, x = .str z := by
      cases x with
      | str z => exact ⟨z, rfl⟩
      | _ => cases hb
    obtain ⟨c0, r0, vl, l0, hc0, hv0, l1, l12, _⟩ := heard_split hb
    obtain ⟨k2a, k2b⟩ := k2 hb
    dsimp only
    refine q_when (b := !letterV y) (et_not (et_B (ev_call (ea_cons (ev_var rfl) ea_nil) fun H2 e Q q E => ⟨y, rfl, hy.ex (e1.trans e), q⟩))) (fun z1 H2 e2 => ?_) (fun z1 H2 e2 => ?_)
    · exact s_raise (ea_cons ev_c ea_nil) rfl (by show 1 ≤ 1000; decide) fun d H3 e3 h3 => k2a (by revert z1; cases letterV y <;> simp) d H3 ((e1.trans e2).trans e3) h3
    have ly : letterV y = true := by revert z1; cases letterV y <;> simp
    obtain ⟨k3a, k3b⟩ := k2b ly
    refine q_when (b := !letterV u) (et_not (et_B (ev_call (ea_cons (ev_var rfl) ea_nil) fun H3 e Q q E => ⟨u, rfl, hu_.ex ((e1.trans e2).trans e), q⟩))) (fun z2 H3 e3 => ?_) (fun z2 H3 e3 => ?_)
    · exact s_raise (ea_cons ev_c ea_nil) rfl (by show 1 ≤ 1000; decide) fun d H4 e4 h4 => k3a (by revert z2; cases letterV u <;> simp) d H4 (((e1.trans e2).trans e3).trans e4) h4
    have lu : letterV u = true := by revert z2; cases letterV u <;> simp
    obtain ⟨a, rfl⟩ := letter_one ly
    obtain ⟨b, rfl⟩ := letter_one lu
    obtain ⟨k4a, k4b⟩ := k3b lu z a b rfl rfl rfl
    have e13 := (e1.trans e2).trans e3
    have inV_ : ∀ {d : Nat} {H2 : Hp}, RV (fun x y H Q => ∃ (c : Nat) (z : Str), x = .str ⟨#[c]⟩ ∧ y = .str z ∧ Q (.bl (decide (c ∈ z.cps.toList))) H) (.str ⟨#[d]⟩) (.str "aeiou") H2 (.bl (vow d)) := fun H1 e Q q => ⟨_, vowels, rfl, rfl, q H1 (Ex.refl H1)⟩
    refine q_when (b := !(vow a == vow b)) (et_test (ev_is (ev_op (ev_op (ev_var rfl) ev_c inV_) (ev_op (ev_var rfl) ev_c inV_) (rv_ne rfl)) (congrArg V.bl (by cases vow a <;> cases vow b <;> rfl)))) (fun z3 H4 e4 => ?_) (fun z3 H4 e4 => ?_)
    · exact s_raise (ea_cons ev_c ea_nil) rfl (by show 1 ≤ 1000; decide) fun d H5 e5 h5 => k4a (by revert z3; cases vow a <;> cases vow b <;> simp) d H5 ((e13.trans e4).trans e5) h5
    have k5 := k4b (by revert z3; cases vow a <;> cases vow b <;> simp)
    refine q_asgD (fun t nt => ⟨_, rfl, _, rfl, _, rfl, _, rfl, upd_same, [(.inr ⟨#[a]⟩, .str ⟨#[b]⟩), (.inr ⟨#[b]⟩, .str ⟨#[a]⟩)], rfl, by show 2 ≤ 15; decide, ?_⟩)
    have e5 : Ex H4 (upd (upd H4 t (.dK [])) t (.dK (mergeK [] [(.inr ⟨#[a]⟩, .str ⟨#[b]⟩), (.inr ⟨#[b]⟩, .str ⟨#[a]⟩)]))) := Ex.mut (Ex.new nt) nt
    have ht : (upd (upd H4 t (.dK [])) t (.dK (mergeK [] [(.inr ⟨#[a]⟩, .str ⟨#[b]⟩), (.inr ⟨#[b]⟩, .str ⟨#[a]⟩)]))) t = some (.dK (mergeK [] [(.inr ⟨#[a]⟩, .str ⟨#[b]⟩), (.inr ⟨#[b]⟩, .str ⟨#[a]⟩)])) := upd_same
    generalize upd (upd H4 t (.dK [])) t (.dK (mergeK [] [(.inr ⟨#[a]⟩, .str ⟨#[b]⟩), (.inr ⟨#[b]⟩, .str ⟨#[a]⟩)])) = H5 at e5 ht
    have el : EvL (tLc (iStr (tVar 0)) (gName 4) tYes (tDGet2 (tVar 3) (tVar 4) (tVar 4)) [4]) [some (V.str z), some (.str ⟨#[a]⟩), some (.str ⟨#[b]⟩), some (.ref t), none] H5 ((z.cps.toList.map fun c => (⟨#[exC a b c]⟩ : Str)).map V.str) := by
      rw [List.map_map]
      refine el_lcStr (fun c => .str ⟨#[exC a b c]⟩) (ev_var rfl) (by omega) (fun _ => rfl) fun c H6 e6 hc => fun H7 e7 Q q => ⟨_, rfl, t, rfl, .inl ⟨_, .inl (e7 _ _ (e6 _ _ ht))⟩, _, rfl, _, rfl, _, DGet.k (k := .inr ⟨#[c]⟩) (e7 _ _ (e6 _ _ ht)), ?_⟩
      rw [get_two]
      exact q H7 (Ex.refl H7)
    refine s_ret (v := .str (exF z a b)) (ev_is (ev_join ev_c el ?_) (congrArg V.str ?_)) fun H6 e6 => k5 H6 (((e13.trans e4).trans e5).trans e6)
    · rw [sum_one, List.length_map]
      show z.cps.toList.length + z.cps.toList.length * 0 ≤ 16777216
      have nz : z.length = z.cps.toList.length := (Array.length_toList).symm
      omega
    · rw [join_eq]
      refine Str.ext' (Array.toList_inj.mp ?_)
      show tl (Str.join "" (z.cps.toList.map fun c => (⟨#[exC a b c]⟩ : Str))) = _
      rw [tl_join, List.map_map]
      exact (joinL_one (exC a b) z.cps.toList).trans rfl
end
end K57
set_option Elab.async false
set_option linter.all false
set_option maxRecDepth 100000
set_option maxHeartbeats 4000000
set_option autoImplicit false
namespace K57
open PySem PySem.Spec PyProof.Rows L2 He Evl TL
def spPut (K : PySem.W.Frag) : Sp := fun vs H Q _ => ∃ (z : Str) (a b : Nat), vs = [.str z, .str ⟨#[a]⟩, .str ⟨#[b]⟩] ∧ z.length ≤ 1000 ∧ RetV (.str (exF z a b)) H Q
theorem exC_put (a b c : Nat) : exC a b c = if c = a then b else if c = b then a else c := by
  unfold exC
  by_cases h1 : c = b <;> by_cases h2 : c = a
  · rw [if_pos h1, if_pos h2, ← h1, h2]
  · rw [if_pos h1, if_neg h2, if_pos h1]
  · rw [if_neg h1, if_pos h2, if_pos h2]
  · rw [if_neg h1, if_neg h2, if_neg h2, if_neg h1]
theorem str1_eq (p q : Nat) : (V.str ⟨#[p]⟩ = V.str ⟨#[q]⟩) ↔ p = q := ⟨fun h => by
  have h1 := congrArg (fun s : Str => s.cps.toList) (V.str.inj h)
  simpa using h1, fun h => by rw [h]⟩
section
variable {P : Program} {w : World} {K : PySem.W.Frag} {mg : Str → Option Value} {base : Heap}
theorem b_l_put (T : Tx K mg) : Binds K (fdOf K ("_law_put", none)) ["_law_text", "_law_one_here", "_law_other"] [] := T.f_l_put.bindsN fun _ _ _ _ _ _ us hl => match us, hl with | [_, _, _], _ => rfl
theorem ok_l_put (T : Tx K mg) : FnOk P w K mg base CX0 1 (ga K "_law_put") (fdOf K ("_law_put", none)) ["_law_text", "_law_one_here", "_law_other"] (spPut K) := by
  refine T.f_l_put.ok sc_l_put (fun vs H Q E h => ?_) (fun cdv A outer s H vs Q E hr h => ?_)
  · obtain ⟨z, a, b, rfl, _⟩ := h
    rfl
  · refine ⟨_, PSs.nox (pss_one (ps_ret (pe_join pe_str (pe_lc (own := [("_law_letter", 3)]) (g := (gName 3)) (tt := tYes) rfl sc_l_put.nd (pi_str (pv 0)) (blkOk_by (N := ["_law_text", "_law_one_here", "_law_other", "_law_letter"]) (sc := defScope s_l_put) (by decide +kernel)) (fun _ _ _ _ _ => pg_name (i := 3) sc_l_put.nd rfl (Or.inl rfl)) (fun _ _ _ _ _ => pts_nil) (fun _ _ _ _ _ => (pe_ifExp (pt_cmpR op_eq (pv 3) (pv 1) (nomark _)) (pv 2) (pe_ifExp (pt_cmpR op_eq (pv 3) (pv 2) (nomark _)) (pv 1) (pv 3)))))))), ?_⟩
    -- slots: [(0, '_law_text'), (1, '_law_one_here'), (2, '_law_other'), (3, '_law_letter')]
    obtain ⟨z, a, b, rfl, hz, k⟩ := h
    have el : EvL (tLc (iStr (tVar 0)) (gName 3) tYes (tIf (tTest (tOp rEq (tVar 3) (tVar 1))) (tVar 2) (tIf (tTest (tOp rEq (tVar 3) (tVar 2))) (tVar 1) (tVar 3))) [3]) [some (V.str z), some (.str ⟨#[a]⟩), some (.str ⟨#[b]⟩), none] H ((z.cps.toList.map fun c => (⟨#[exC a b c]⟩ : Str)).map V.str) := by
      rw [List.map_map]
      refine el_lcStr (fun c => .str ⟨#[exC a b c]⟩) (ev_var rfl) (by omega) (fun _ => rfl) fun c H6 e6 hc => ?_
      rw [exC_put]
      refine ev_if (b := decide (c = a)) (et_test (ev_is (ev_op (ev_var rfl) (ev_var rfl) (rv_eq rfl)) (congrArg V.bl (decide_eq_decide.mpr (str1_eq _ _))))) (fun h => ?_) (fun h => ?_)
      · rw [if_pos (of_decide_eq_true h)]
        exact ev_var rfl
      · rw [if_neg (of_decide_eq_false h)]
        refine ev_if (b := decide (c = b)) (et_test (ev_is (ev_op (ev_var rfl) (ev_var rfl) (rv_eq rfl)) (congrArg V.bl (decide_eq_decide.mpr (str1_eq _ _))))) (fun h => ?_) (fun h => ?_)
        · rw [if_pos (of_decide_eq_true h)]
          exact ev_var rfl
        · rw [if_neg (of_decide_eq_false h)]
          exact ev_var rfl
    refine s_ret (v := .str (exF z a b)) (ev_is (ev_join ev_c el ?_) (congrArg V.str ?_)) fun H6 e6 => k H6 e6
    · rw [sum_one, List.length_map]
      show z.cps.toList.length + z.cps.toList.length * 0 ≤ 16777216
      have nz : z.length = z.cps.toList.length := (Array.length_toList).symm
      omega
    · rw [join_eq]
      refine Str.ext' (Array.toList_inj.mp ?_)
      show tl (Str.join "" (z.cps.toList.map fun c => (⟨#[exC a b c]⟩ : Str))) = _
      rw [tl_join, List.map_map]
      exact (joinL_one (exC a b) z.cps.toList).trans rfl
end
end K57
set_option Elab.async false
set_option linter.all false
set_option maxRecDepth 100000
set_option maxHeartbeats 4000000
set_option autoImplicit false
namespace K57
open PySem PySem.Spec PyProof.Rows L2 He Evl
/-- all letters -/
def lettersB (l : List Nat) : Bool := l.all fun c => decide (c ∈ letters.cps.toList)
/-- a syllable of the law's menu -/
def MenuS (s : Str) : Prop := 1 ≤ s.cps.toList.length ∧ s.cps.toList.length ≤ 2 ∧ lettersB s.cps.toList = true
def spSpoken (K : PySem.W.Frag) : Sp := fun vs H Q _ => ∃ (p c l : Addr) (ss : List Str) (wy : Str) (n : Nat), vs = [.ref p, .ref l, .str wy] ∧ PenAt K n H p c ∧ n ≤ 90000 ∧ l ≠ p ∧ H l = some (.lst (ss.map V.str)) ∧ 1 ≤ ss.length ∧ ss.length ≤ 3 ∧ (∀ s ∈ ss, MenuS s) ∧
  ∀ (z : Str) H', heardB z = true → Off p H H' → PenAt K (n + 20) H' p c → Q (.str z) H'
theorem letters_app (a b : Str) : lettersB (a ++ b).cps.toList = (lettersB a.cps.toList && lettersB b.cps.toList) := by
  show lettersB (TL.tl (a ++ b)) = _
  rw [TL.tl_append]
  exact List.all_append
theorem int_eq2 (i : Nat) : decide (V.int (i : Int) = V.int 2) = decide (i = 2) := decide_eq_decide.mpr ⟨fun h => by have := V.int.inj h; omega, fun h => by rw [h]; rfl⟩
theorem cut_one {z : Str} : (cutS z none (some 1)).cps.toList = z.cps.toList.take 1 := by
  have e1 : HT.sIx z.length 0 none = 0 := rfl
  have e2 : HT.sIx z.length z.length (some 1) = min 1 z.length := rfl
  have nz : z.length = z.cps.toList.length := (Array.length_toList).symm
  unfold cutS
  rw [e1, e2]
  show List.take _ (List.drop 0 _) = _
  rw [List.drop_zero, Nat.sub_zero]
  rcases Nat.le_total 1 z.length with h | h
  · rw [Nat.min_eq_left h]
  · rw [Nat.min_eq_right h, nz, List.take_length, List.take_of_length_le (by omega)]
theorem one_of {l : List Nat} (h : 1 ≤ l.length) (h2 : lettersB l = true) : 1 ≤ (l.take 1).length ∧ (l.take 1).length ≤ 2 ∧ lettersB (l.take 1) = true := by
  match l, h, h2 with
  | c :: r, _, h2 =>
    refine ⟨Nat.le_refl _, by show 1 ≤ 2; decide, ?_⟩
    have h3 : (decide (c ∈ letters.cps.toList) && lettersB r) = true := h2
    show (decide (c ∈ letters.cps.toList) && true) = true
    rw [(Bool.and_eq_true_iff.mp h3).1]
    rfl
theorem len_e {t : Str} (h : t ∈ (["", "", "", "d"] : List Str)) : t.length ≤ 1 := by
  simp only [List.mem_cons, List.not_mem_nil, or_false] at h
  rcases h with rfl | rfl | rfl | rfl <;> decide
theorem letters_e {t : Str} (h : t ∈ (["", "", "", "d"] : List Str)) : lettersB t.cps.toList = true := by
  simp only [List.mem_cons, List.not_mem_nil, or_false] at h
  rcases h with rfl | rfl | rfl | rfl <;> decide +kernel
theorem heard_cut {z : Str} (h : 1 ≤ z.cps.toList.length) (hl : lettersB z.cps.toList = true) : heardB (cutS z none (some 12)) = true := by
  have nz : z.length = z.cps.toList.length := (Array.length_toList).symm
  have e : (cutS z none (some 12)).cps.toList = z.cps.toList.take 12 := by
    have e1 : HT.sIx z.length 0 none = 0 := rfl
    have e2 : HT.sIx z.length z.length (some 12) = min 12 z.length := rfl
    unfold cutS
    rw [e1, e2]
    show List.take _ (List.drop 0 _) = _
    rw [List.drop_zero, Nat.sub_zero]
    rcases Nat.le_total 12 z.length with h | h
    · rw [Nat.min_eq_left h]
    · rw [Nat.min_eq_right h, nz, List.take_length, List.take_of_length_le (by omega)]
  have n2 : (cutS z none (some 12)).length = (z.cps.toList.take 12).length := by rw [← e]; exact (Array.length_toList).symm
  have hall : (z.cps.toList.take 12).all (fun c => decide (c ∈ letters.cps.toList)) = true := List.all_eq_true.mpr fun c hc => List.all_eq_true.mp hl c (List.mem_of_mem_take hc)
  unfold heardB
  rw [n2, e, hall, decide_eq_true (show 1 ≤ (z.cps.toList.take 12).length by rw [List.length_take]; omega), decide_eq_true (show (z.cps.toList.take 12).length ≤ 12 by rw [List.length_take]; omega)]
  rfl
theorem len_md {t : Str} (h : t ∈ (["m", "d"] : List Str)) : t.length = 1 := by
  simp only [List.mem_cons, List.not_mem_nil, or_false] at h
  rcases h with rfl | rfl <;> rfl
theorem letters_md {t : Str} (h : t ∈ (["m", "d"] : List Str)) : lettersB t.cps.toList = true := by
  simp only [List.mem_cons, List.not_mem_nil, or_false] at h
  rcases h with rfl | rfl <;> decide +kernel
section
variable {K : PySem.W.Frag} {σ : L2.St} {H : Hp} {D : Ends} {tu tz : TS} {t u : TT}
/-- for i, x in enumerate(xs), any turn -/
theorem q_enum {i j k n : Nat} {l : Addr} {xs : List V} (hn : n = 2) (hv : σ[k]? = some (some (.ref l))) (hl : SqL K H l xs) (Pv : Nat → L2.St → Hp → Prop) (h0 : Pv 0 σ H) (hk : ∀ m σ' H', m ≤ xs.length → Pv m σ' H' → SqL K H' l xs)
    (hs : ∀ (m : Nat) (v : V) (σ' : L2.St) (H' H'' : Hp), xs[m]? = some v → Pv m σ' H' → Ex H' H'' → tu { D with nx := Pv (m + 1), ct := Pv (m + 1), bk := tz D } ((σ'.set i (some (.int (m : Nat)))).set j (some v)) H'') (hd : ∀ σ' H', Pv xs.length σ' H' → tz D σ' H') :
    tSeq (tFor (iEnum K (tCons (tVar k) tNil)) (gTup K n (gCons (gName i) (gCons (gName j) gNil))) tu) tz D σ H := by
  subst hn
  refine ⟨_, hv, l, xs, rfl, hl, ?_⟩
  refine for_it (walk_enum (K := K) (xs := xs)) Pv h0 hk ?_ hd
  rintro m y σ' H' H'' hi hp ⟨T, y1, y2, rfl, hT, rfl, hy1, hy2⟩
  obtain rfl : V.int (m : Nat) = y1 := Option.some.inj hy1
  refine ⟨T, _, rfl, SqT.of upd_same, rfl, _, _, rfl, _, _, rfl, rfl, ?_⟩
  exact hs m y2 σ' H' _ hy2 hp (Ex.new hT)
/-- a test that may draw, R behind it -/
def AnyT (t : TT) (σ : L2.St) (H : Hp) (R : Hp → Prop) : Prop := ∀ Q : Bool → Hp → Prop, (∀ b H2, R H2 → Q b H2) → t σ H Q
theorem anyT_and {b : Bool} {R : Hp → Prop} (h1 : EvT t σ H b) (h2 : b = true → ∀ H1, Ex H H1 → AnyT u σ H1 R) (h3 : ∀ H1, Ex H H1 → R H1) : AnyT (tAnd t u) σ H R := fun Q q => h1 H (Ex.refl H) _ fun H1 e1 => by
  cases b with
  | true => exact h2 rfl H1 e1 Q q
  | false => exact q false H1 (h3 H1 e1)
theorem q_ifAny {R : Hp → Prop} {S : L2.St → Hp → Prop} (h : AnyT t σ H R) (h1 : ∀ N : L2.St → Hp → Prop, (∀ σ1 H1, S σ1 H1 → N σ1 H1) → ∀ H1, R H1 → tu { D with nx := N } σ H1) (h2 : ∀ H1, R H1 → S σ H1) (h3 : ∀ σ1 H1, S σ1 H1 → tz D σ1 H1) : tSeq (tIfS t tu tNext) tz D σ H :=
  h _ fun b H1 r => by
    cases b with
    | true => exact h1 _ h3 H1 r
    | false => exact h3 _ _ (h2 H1 r)
/-- one of these texts is picked -/
theorem one_texts {ta : TA} {te : TE} {p c : Addr} {n : Nat} {Q : VK} (ts : List Str) (hv : Ev te σ H (.ref p)) (ha : EvA ta σ H (ts.map V.str)) (hP : PenAt K n H p c) (hn : n ≤ 100000) (h0 : 0 < ts.length ∧ ts.length ≤ 1000)
    (k : ∀ s H', s ∈ ts → Off p H H' → PenAt K (n + 1) H' p c → Q (.str s) H') : tCall (spOne K) [] E0 (tCons te (tCons (tLst ta) tNil)) σ H Q :=
  hv H (Ex.refl H) _ fun H1 e1 => (el_lst ha (by rw [List.length_map]; omega) : EvL (tLst ta) σ H (ts.map V.str)) H1 e1 _ fun a H2 na e2 h2 => by
    obtain ⟨o, ho⟩ := hP.there
    refine ⟨p, c, .ref a, n, rfl, hP.ex (e1.trans e2), hn, .inl ⟨a, _, rfl, SqL.of h2, Ne.symm (ne_of_none (e1 _ _ ho) na), by rw [List.length_map]; exact h0.1, by rw [List.length_map]; exact h0.2, fun i x H3 hx off pen => ?_⟩⟩
    rw [List.getElem?_map] at hx
    obtain ⟨s, hs, rfl⟩ := Option.map_eq_some_iff.mp hx
    exact k s H3 (List.mem_of_getElem? hs) ((Off.of (e1.trans e2)).trans off) pen
end
section
variable {P : Program} {w : World} {K : PySem.W.Frag} {mg : Str → Option Value} {base : Heap}
theorem b_l_spoken (T : Tx K mg) : Binds K (fdOf K ("_law_spoken", none)) ["_law_ear_here", "_law_told", "_law_way"] [] := T.f_l_spoken.bindsN fun _ _ _ _ _ _ us hl => match us, hl with | [_, _, _], _ => rfl
theorem ok_l_spoken (T : Tx K mg) : FnOk P w K mg base CX0 3 (ga K "_law_spoken") (fdOf K ("_law_spoken", none)) ["_law_ear_here", "_law_told", "_law_way"] (spSpoken K) := by
  refine T.f_l_spoken.ok sc_l_spoken (fun vs H Q E h => ?_) (fun cdv A outer s H vs Q E hr h => ?_)
  · obtain ⟨p, c, l, ss, wy, n, rfl, _⟩ := h
    rfl
  · refine ⟨_, PSs.nox (pss_cons (ps_set (i := 3) sc_l_spoken.nd rfl (.inl rfl) pe_str)
      (pss_cons (ps_for PassesOwn.never rfl (pi_enum (by rfl) T.n_enumerate (pa_cons (pv 1) pa_nil)) (pg_tup rfl (pgs_cons (pg_name (i := 4) sc_l_spoken.nd rfl (.inl rfl)) (pgs_cons (pg_name (i := 5) sc_l_spoken.nd rfl (.inl rfl)) pgs_nil)))
        (pss_cons (ps_set (i := 6) sc_l_spoken.nd rfl (.inl rfl) (pe_ix ix_list (pe_op op_cat (pv 1) (pe_lst (pa_cons pe_str pa_nil))) (pe_op op_add (pv 4) pe_int) (fun _ _ => rfl)))
        (pss_cons (ps_if (PW.pt (pw_and (pt_cmpR op_eq (pv 2) pe_str (nomark _)) (pw_and (pt_cmpR op_eq (pe_callB call_len (by rfl) T.n_len boot_len (pa_cons (pv 5) pa_nil)) pe_int (nomark _)) (pw_and1 (pt_cmpR op_eq (pe_call (ok_l_pull T) (hr.mono (by decide)) (by rfl) T.g_l_pull T.f_l_pull.kp (b_l_pull T) .nil pass0 (pa_cons (pv 0) (pa_cons pe_int pa_nil))) pe_int (nomark _))))))
          (pss_one (ps_set (i := 3) sc_l_spoken.nd rfl (.inl rfl) (pe_op op_add_str (pv 3) (pe_call (ok_l_one T) (hr.mono (by decide)) (by rfl) T.g_l_one T.f_l_one.kp (b_l_one T) .nil pass0 (pa_cons (pv 0) (pa_cons (pe_lst (pa_cons pe_str (pa_cons pe_str pa_nil))) pa_nil))))))
          pss_nil)
        (pss_cons (ps_set (i := 7) sc_l_spoken.nd rfl (.inl rfl) (pe_and (pe_cmpR op_eq (pv 2) pe_str (nomark _)) (pe_and (pe_cmpR op_eq (pe_callB call_len (by rfl) T.n_len boot_len (pa_cons (pv 5) pa_nil)) pe_int (nomark _)) (pe_and (pe_cmpR op_eq (pe_callB call_len (by rfl) T.n_len boot_len (pa_cons (pv 6) pa_nil)) pe_int (nomark _)) (pe_one (pe_cmpR op_eq (pe_ix ix_str (pv 6) pe_int (fun _ _ => rfl)) (pe_ix ix_str (pv 5) pe_int (fun _ _ => rfl)) (nomark _)))))))
        (pss_one (ps_set (i := 3) sc_l_spoken.nd rfl (.inl rfl) (pe_op op_add_str (pv 3) (pe_ifExp (PW.pt (pw_and (pt_val (pv 7)) (pw_and1 (pt_cmpR op_eq (pe_call (ok_l_pull T) (hr.mono (by decide)) (by rfl) T.g_l_pull T.f_l_pull.kp (b_l_pull T) .nil pass0 (pa_cons (pv 0) (pa_cons pe_int pa_nil))) pe_int (nomark _))))) (pe_slice sl_str (pv 5) po_none (po_some pe_int)) (pv 5)))))))))
      (pss_one (ps_ret (pe_slice sl_str (pe_op op_add_str (pv 3) (pe_call (ok_l_one T) (hr.mono (by decide)) (by rfl) T.g_l_one T.f_l_one.kp (b_l_one T) .nil pass0 (pa_cons (pv 0) (pa_cons (pe_lst (pa_cons pe_str (pa_cons pe_str (pa_cons pe_str (pa_cons pe_str pa_nil))))) pa_nil)))) po_none (po_some pe_int)))))), ?_⟩
    -- slots: [(0, '_law_ear_here'), (1, '_law_told'), (2, '_law_way'), (3, '_law_heard_here'), (4, '_law_at'), (5, '_law_syllable'), (6, '_law_after'), (7, '_law_is_shut')]
    obtain ⟨p, c, l, ss, wy, n, rfl, hP, hn, lp, hl, l1, l3, hs, k⟩ := h
    refine q_asg ev_c fun H0 e0 => ?_
    have hl0 := e0 _ _ hl
    refine q_enum rfl rfl (SqL.of hl0) (fun m σ' H' => ∃ (hw : Str) (u4 u5 u6 u7 : Option V), σ' = [some (.ref p), some (.ref l), some (.str wy), some (.str hw), u4, u5, u6, u7] ∧ Off p H0 H' ∧ PenAt K (n + 3 * m) H' p c ∧ lettersB hw.cps.toList = true ∧ hw.cps.toList.length ≤ 3 * m ∧ (1 ≤ m → 1 ≤ hw.cps.toList.length)) ⟨"", _, _, _, _, rfl, Off.refl p H0, hP.ex e0, rfl, Nat.le_refl _, fun h => absurd h (by decide)⟩ (fun m σ' H' _ ⟨_, _, _, _, _, _, o, _⟩ => SqL.of (o _ _ hl0 lp)) ?_ ?_
    · rintro m v σ' H1 H2 hm ⟨hw, u4, u5, u6, u7, rfl, o1, pn, lt, ln, l1m⟩ e2
      rw [List.getElem?_map] at hm
      obtain ⟨sy, hsy, rfl⟩ := Option.map_eq_some_iff.mp hm
      have hms : m < ss.length := (List.getElem?_eq_some_iff.mp hsy).1
      obtain ⟨sy1, sy2, sy3⟩ := hs sy (List.mem_of_getElem? hsy)
      have nsy : sy.length = sy.cps.toList.length := (Array.length_toList).symm
      have pn2 := pn.ex e2
      have hl2 := e2 _ _ (o1 _ _ hl0 lp)
      -- the next one, or none
      obtain ⟨af, afl, haf⟩ : ∃ af : Str, af.length ≤ 2 ∧ (ss.map V.str ++ [.str ""])[m + 1]? = some (.str af) := by
        by_cases h : m + 1 < ss.length
        · obtain ⟨t1, t2, t3⟩ := hs ss[m + 1] (List.getElem_mem h)
          refine ⟨ss[m + 1], by rw [show (ss[m + 1]).length = (ss[m + 1]).cps.toList.length from (Array.length_toList).symm]; exact t2, ?_⟩
          rw [List.getElem?_append_left (by rw [List.length_map]; exact h), List.getElem?_map, List.getElem?_eq_getElem h]
          rfl
        · have e : m + 1 = (ss.map V.str).length := by rw [List.length_map]; omega
          refine ⟨"", by decide, ?_⟩
          rw [e, List.getElem?_append_right (Nat.le_refl _), Nat.sub_self]
          rfl
      have el : ∀ {σ2 : L2.St} {H5 : Hp}, σ2[1]? = some (some (.ref l)) → H5 l = some (.lst (ss.map V.str)) → EvL (tOp rCat (tVar 1) (tLst (tCons (tC (V.str "")) tNil))) σ2 H5 (ss.map V.str ++ [.str ""]) := fun h1 h2 =>
        el_cat h1 h2 (el_lst (ea_cons ev_c ea_nil) (by show 1 ≤ 100000; decide)) (by rw [List.length_map]; show _ + 1 ≤ 100000; omega)
      refine q_asg (v := .str af) (fun H3 e3 Q q => el rfl (e3 _ _ hl2) H3 (Ex.refl H3) _ fun a H4 na e4 ha => ⟨_, rfl, _, _, rfl, rfl, a, _, _, _, rfl, rfl, SqL.of ha, at_of (j := m + 1) (by omega) haf, q H4 e4⟩) fun H3 e3 => ?_
      have pn3 := pn2.ex e3
      have o3 : Off p H0 H3 := (o1.trans (Off.of e2)).trans (Off.of e3)
      have nhw : hw.length = hw.cps.toList.length := (Array.length_toList).symm
      have lenE : ∀ {σ2 : L2.St} {H5 : Hp} {j : Nat} {t : Str}, t.length ≤ 1000 → σ2[j]? = some (some (.str t)) → Ev (tCB (fun xs H Q => ∃ x n, xs = [x] ∧ LenV K x H n ∧ Q (.int (n : Int)) H) (tCons (tVar j) tNil)) σ2 H5 (.int (t.length : Int)) := fun {σ2 H5 j t} h1 h2 H1 e Q q => ⟨_, h2, _, t.length, rfl, ⟨sz_of (n := t.length) (by omega), rfl⟩, q H1 (Ex.refl H1)⟩
      refine q_ifAny (R := fun H4 => Off p H0 H4 ∧ PenAt K (n + 3 * m + 1) H4 p c) (S := fun σ1 H4 => ∃ hw2 : Str, σ1 = [some (.ref p), some (.ref l), some (.str wy), some (.str hw2), some (.int (m : Nat)), some (.str sy), some (.str af), u7] ∧ Off p H0 H4 ∧ PenAt K (n + 3 * m + 2) H4 p c ∧ lettersB hw2.cps.toList = true ∧ hw2.cps.toList.length ≤ 3 * m + 1)
        (anyT_and (et_test (ev_op (ev_var rfl) ev_c (rv_eq rfl))) (fun _ H4 e4 => anyT_and (et_test (ev_op (lenE (by omega) rfl) ev_c (rv_eq rfl))) (fun _ H5 e5 Q q => ⟨_, rfl, p, c, 4, n + 3 * m, rfl, by decide, by decide, (pn3.ex e4).ex e5, by omega, fun d H6 d0 d1 off pen => ⟨rfl, _, rfl, q _ H6 ⟨((o3.trans (Off.of e4)).trans (Off.of e5)).trans off, pen⟩⟩⟩) (fun H5 e5 => ⟨(o3.trans (Off.of e4)).trans (Off.of e5), ((pn3.ex e4).ex e5).mono (by omega)⟩)) (fun H4 e4 => ⟨o3.trans (Off.of e4), (pn3.ex e4).mono (by omega)⟩)) ?_ ?_ ?_
      · rintro N hN H4 ⟨o4, pn4⟩
        refine ⟨_, rfl, one_texts ["m", "d"] (ev_var rfl) (ea_cons ev_c (ea_cons ev_c ea_nil)) pn4 (by omega) (by decide) fun t H5 ht o5 pn5 => ⟨hw, t, rfl, rfl, ?_, hN _ _ ⟨hw ++ t, rfl, o4.trans o5, pn5, ?_, ?_⟩⟩⟩
        · exact sz_of (by rw [nhw, len_md ht]; omega)
        · rw [letters_app, lt, letters_md ht]
          rfl
        · show (TL.tl (hw ++ t)).length ≤ _
          rw [TL.tl_append, List.length_append, ← TL.len_tl t, len_md ht]
          show hw.cps.toList.length + 1 ≤ _
          omega
      · rintro H4 ⟨o4, pn4⟩
        exact ⟨hw, rfl, o4, pn4.mono (by omega), lt, by omega⟩
      · rintro σ1 H4 ⟨hw2, rfl, o4, pn4, lt2, ln2⟩
        have sec : ∀ {t : Str} {j : Nat} {σ2 : L2.St} {H5 : Hp}, t.length = 2 → σ2[j]? = some (some (.str t)) → Ev (tOp rIxS (tVar j) (tC (V.int 1))) σ2 H5 (.str ⟨#[at0 t.cps.toList 1]⟩) := fun {t j σ2 H5} h1 h2 =>
          ev_op (ev_var h2) ev_c (rv_ixS (show t.length ≤ 100000 by omega) (atI_at0 (j := 1) rfl (by rw [show t.cps.toList.length = t.length from Array.length_toList]; omega)))
        refine q_asg (v := .bl (decide (wy = "next") && (decide (sy.length = 2) && (decide (af.length = 2) && decide (at0 af.cps.toList 1 = at0 sy.cps.toList 1))))) (ev_andV (ev_is (ev_op (ev_var rfl) ev_c (rv_eq rfl)) (congrArg V.bl (str_eq _ _))) fun _ => ev_andV (ev_is (ev_op (lenE (by omega) rfl) ev_c (rv_eq rfl)) (congrArg V.bl (int_eq2 _))) fun h5 => ev_andV (ev_is (ev_op (lenE (by omega) rfl) ev_c (rv_eq rfl)) (congrArg V.bl (int_eq2 _))) fun h6 =>
          ev_is (ev_op (sec (of_decide_eq_true h6) rfl) (sec (of_decide_eq_true h5) rfl) (rv_eq rfl)) (congrArg V.bl (decide_eq_decide.mpr (str1_eq _ _)))) fun H5 e5 => ?_
        have pn5 := pn4.ex e5
        refine ⟨_, rfl, (anyT_and (R := fun H6 => Off p H0 H6 ∧ PenAt K (n + 3 * m + 3) H6 p c) (et_B (ev_var rfl)) (fun _ H6 e6 Q q => ⟨_, rfl, p, c, 2, n + 3 * m + 2, rfl, by decide, by decide, pn5.ex e6, by omega, fun d H7 d0 d1 off pen => ⟨rfl, _, rfl, q _ H7 ⟨((o4.trans (Off.of e5)).trans (Off.of e6)).trans off, pen⟩⟩⟩) (fun H6 e6 => ⟨(o4.trans (Off.of e5)).trans (Off.of e6), (pn5.ex e6).mono (by omega)⟩)) _ fun bb H6 ⟨o6, pn6⟩ => ?_⟩
        have fin : ∀ (t : Str) (H7 : Hp), 1 ≤ t.cps.toList.length → t.cps.toList.length ≤ 2 → lettersB t.cps.toList = true → Ex H6 H7 → ∃ i j, V.str hw2 = V.str i ∧ V.str t = V.str j ∧ i.length + j.length ≤ sizeLine ∧ ∃ (hw3 : Str) (u4 u5 u6 u7 : Option V), [some (.ref p), some (.ref l), some (.str wy), some (.str (i ++ j)), some (.int (m : Nat)), some (.str sy), some (.str af), some (.bl (decide (wy = "next") && (decide (sy.length = 2) && (decide (af.length = 2) && decide (at0 af.cps.toList 1 = at0 sy.cps.toList 1)))))] = [some (.ref p), some (.ref l), some (.str wy), some (.str hw3), u4, u5, u6, u7] ∧ Off p H0 H7 ∧ PenAt K (n + 3 * (m + 1)) H7 p c ∧ lettersB hw3.cps.toList = true ∧ hw3.cps.toList.length ≤ 3 * (m + 1) ∧ (1 ≤ m + 1 → 1 ≤ hw3.cps.toList.length) := fun t H7 t1 t2 t3 e7 => by
          have la : (hw2 ++ t).cps.toList.length = hw2.cps.toList.length + t.cps.toList.length := by
            show (TL.tl (hw2 ++ t)).length = _
            rw [TL.tl_append, List.length_append]
          refine ⟨hw2, t, rfl, rfl, sz_of ?_, hw2 ++ t, _, _, _, _, rfl, o6.trans (Off.of e7), (pn6.ex e7).mono (by omega), by rw [letters_app, lt2, t3]; rfl, by rw [la]; omega, fun _ => by rw [la]; omega⟩
          rw [show hw2.length = hw2.cps.toList.length from (Array.length_toList).symm, show t.length = t.cps.toList.length from (Array.length_toList).symm]
          omega
        cases bb with
        | true =>
          show tSl rSlS (tVar 5) tNoPart (tPart (tC (V.int 1))) _ H6 _
          exact (ev_slS (ev_var rfl) eo_none (eo_some ev_c) (show sy.length ≤ 1000 by omega)) H6 (Ex.refl H6) _ fun H7 e7 => fin (cutS sy none (some 1)) H7 (by rw [cut_one]; exact (one_of sy1 sy3).1) (by rw [cut_one]; exact (one_of sy1 sy3).2.1) (by rw [cut_one]; exact (one_of sy1 sy3).2.2) e7
        | false =>
          rw [if_neg Bool.false_ne_true]
          exact ⟨_, rfl, fin sy H6 sy1 sy2 sy3 (Ex.refl H6)⟩
    · rintro σ' H1 ⟨hw, u4, u5, u6, u7, rfl, o1, pn, lt, ln, l1m⟩
      rw [List.length_map] at pn ln l1m
      have l1' := l1m l1
      obtain ⟨zs, hp⟩ : ∃ zs, H1 p = some (.lst zs) := let ⟨_, _, _, z, _⟩ := pn; ⟨_, z⟩
      have nhw : hw.length = hw.cps.toList.length := (Array.length_toList).symm
      refine ⟨_, rfl, one_texts ["", "", "", "d"] (ev_var rfl) (ea_cons ev_c (ea_cons ev_c (ea_cons ev_c (ea_cons ev_c ea_nil)))) pn (by omega) (by decide) fun t H5 ht o5 pn5 => ⟨hw, t, rfl, rfl, sz_of (by rw [nhw]; have := len_e ht; omega), ?_⟩⟩
      have la : (hw ++ t).cps.toList.length = hw.cps.toList.length + t.cps.toList.length := by
        show (TL.tl (hw ++ t)).length = _
        rw [TL.tl_append, List.length_append]
      have nt : t.length = t.cps.toList.length := (Array.length_toList).symm
      have lt1 := len_e ht
      have nht : (hw ++ t).length = (hw ++ t).cps.toList.length := (Array.length_toList).symm
      refine ⟨12, rfl, hw ++ t, rfl, sz_of (by rw [nht, la]; omega), k _ H5 ?_ ((Off.of e0).trans (o1.trans o5)) (pn5.mono (by omega))⟩
      refine heard_cut (by rw [la]; omega) ?_
      rw [letters_app, lt, letters_e ht]
      rfl
end
end K57
set_option Elab.async false
set_option linter.all false
set_option maxRecDepth 100000
set_option maxHeartbeats 4000000
set_option autoImplicit false
/-! a drawn list of texts. -/
namespace K57
open PySem PySem.Spec PyProof.Rows L2 He Evl
section
variable {K : PySem.W.Frag} {σ : L2.St} {H : Hp} {te : TE} {p c : Addr} {n : Nat}
theorem draw_texts {most : Nat} {G : Str → Prop} {vs : List Nat} {j : Nat} {Q : VK} (hv : σ[0]? = some (some (.ref p))) (m1 : 1 ≤ most ∧ most ≤ 12) (pen : PenAt K n H p c) (hn : n ≤ 90000) (hw : ∀ x, wipe ((wipe σ vs).set j (some x)) vs = wipe σ vs)
    (each : ∀ (i : Nat) H1 k, Off p H H1 → PenAt K k H1 p c → k ≤ 95000 → ∀ Q : VK, (∀ t H2, G t → Off p H1 H2 → PenAt K (k + 1) H2 p c → Q (.str t) H2) → te ((wipe σ vs).set j (some (.int (i : Nat)))) H1 Q)
    (q : ∀ (l : Addr) (ts : List Str) (H' : Hp), Off p H H' → PenAt K (n + 13) H' p c → l ≠ p → H' l = some (.lst (ts.map V.str)) → 1 ≤ ts.length → ts.length ≤ most → (∀ t ∈ ts, G t) → Q (.ref l) H') :
    tLc (iRng1 (tCons (tOp (rI0 fun i j => V.int (i + j)) (tC (V.int 1)) (tCall (spDraw K) [] E0 (tCons (tVar 0) (tCons (tC (V.int (most : Nat))) tNil)))) tNil)) (gName j) tYes te vs σ H Q := by
  refine ⟨_, hv, p, c, most, n, rfl, by omega, by omega, pen, by omega, fun d H2 d0 d1 off2 pen2 => ⟨1, d, rfl, rfl, 1 + d, rfl, by omega, by omega, fun Dl hD => ?_⟩⟩
  obtain ⟨zs, hp⟩ : ∃ zs, H2 p = some (.lst zs) := let ⟨_, _, _, z, _⟩ := pen2; ⟨_, z⟩
  have nDl : Dl ≠ p := (ne_of_none hp hD).symm
  refine lc_range (lo := 0) (n := (1 + d).toNat) (fun i H' => ∃ ts : List Str, H' Dl = some (.lst (ts.map V.str)) ∧ ts.length = i ∧ (∀ t ∈ ts, G t) ∧ Off p H2 H' ∧ PenAt K (n + 1 + i) H' p c) ⟨[], upd_same, rfl, (fun _ z => nomatch z), Off.of (Ex.new hD), pen2.ex (Ex.new hD)⟩ ?_ ?_
  · rintro i H' hi ⟨ts, h1, h2, h3, h4, h5⟩
    refine ⟨by rw [Int.zero_add]; exact hw _, ?_⟩
    rw [Int.zero_add]
    refine each i H' (n + 1 + i) (off2.trans h4) h5 (by omega) _ fun t H3 gt off3 pen3 => ?_
    have hD3 := off3 _ _ h1 nDl
    refine ⟨_, hD3, sz_lt (by rw [List.length_map]; omega), ts ++ [t], by rw [upd_same, List.map_append]; rfl, by rw [List.length_append, h2]; rfl, fun u hu => ?_, Off.mut (h4.trans off3) hD, PenAt.mut (o := .lst (ts.map V.str ++ [.str t])) pen2 hD pen3⟩
    rcases List.mem_append.mp hu with z | z
    · exact h3 u z
    · rw [List.mem_singleton.mp z]; exact gt
  · rintro H' ⟨ts, h1, h2, h3, h4, h5⟩
    exact q Dl ts H' (off2.trans h4) (h5.mono (by omega)) nDl h1 (by omega) (by omega) h3
end
end K57
set_option Elab.async false
set_option linter.all false
set_option maxRecDepth 100000
set_option maxHeartbeats 4000000
set_option autoImplicit false
namespace K57
open PySem PySem.Spec PyProof.Rows L2 He Evl TL
def spWord (K : PySem.W.Frag) : Sp := fun vs H Q _ => ∃ (p c : Addr) (n : Nat), vs = [.ref p] ∧ PenAt K n H p c ∧ n ≤ 80000 ∧ ∀ (z : Str) H', heardB z = true → Off p H H' → PenAt K (n + 40) H' p c → Q (.str z) H'
def OneL (t : Str) : Prop := ∃ d, t = ⟨#[d]⟩ ∧ d ∈ letters.cps.toList
theorem menu_ok {t : Str} (h : t ∈ (["ka", "o", "ne", "na", "su", "so", "ti"] : List Str)) : MenuS t := by
  simp only [List.mem_cons, List.not_mem_nil, or_false] at h
  rcases h with rfl | rfl | rfl | rfl | rfl | rfl | rfl <;> exact ⟨by decide +kernel, by decide +kernel, by decide +kernel⟩
theorem lots_ok {t : Str} (h : t ∈ (["aeknst", "aoknmpt", "aeiou", "bcdaz", "abcdefghijklmnopqrstuvwxyz", "knst", "okn"] : List Str)) : 0 < t.cps.toList.length ∧ t.cps.toList.length ≤ 1000 ∧ ∀ d ∈ t.cps.toList, d ∈ letters.cps.toList := by
  simp only [List.mem_cons, List.not_mem_nil, or_false] at h
  rcases h with rfl | rfl | rfl | rfl | rfl | rfl | rfl <;> exact ⟨by decide +kernel, by decide +kernel, by decide +kernel⟩
theorem ones_of : ∀ {ts : List Str}, (∀ t ∈ ts, OneL t) → ∃ ds : List Nat, ts = ds.map (fun c => (⟨#[id c]⟩ : Str)) ∧ ∀ d ∈ ds, d ∈ letters.cps.toList
  | [], _ => ⟨[], rfl, fun _ h => nomatch h⟩
  | t :: ts, h => by
    obtain ⟨d, e, hd⟩ := h t List.mem_cons_self
    obtain ⟨ds, e2, h2⟩ := ones_of (ts := ts) fun u hu => h u (List.mem_cons_of_mem _ hu)
    exact ⟨d :: ds, by rw [e, e2]; rfl, fun x hx => (List.mem_cons.mp hx).elim (fun z => by rw [z]; exact hd) (h2 x)⟩
theorem join_ones {ts : List Str} (h : ∀ t ∈ ts, OneL t) : (Txt.join "" ts).cps.toList.length = ts.length ∧ lettersB (Txt.join "" ts).cps.toList = true ∧ (ts.map (·.length)).sum = ts.length := by
  obtain ⟨ds, rfl, hd⟩ := ones_of h
  have e : (Txt.join "" (ds.map (fun c => (⟨#[id c]⟩ : Str)))).cps.toList = ds := by
    rw [join_eq]
    show tl (Str.join "" _) = _
    rw [tl_join, List.map_map]
    exact (joinL_one id ds).trans (List.map_id ds)
  rw [e, sum_one, List.length_map]
  exact ⟨rfl, List.all_eq_true.mpr fun c hc => decide_eq_true (hd c hc), rfl⟩
theorem heard_of {z : Str} (h1 : 1 ≤ z.cps.toList.length) (h2 : z.cps.toList.length ≤ 12) (hl : lettersB z.cps.toList = true) : heardB z = true := by
  have nz : z.length = z.cps.toList.length := (Array.length_toList).symm
  unfold heardB
  rw [nz, decide_eq_true h1, decide_eq_true h2, show (z.cps.toList.all fun c => decide (c ∈ letters.cps.toList)) = true from hl]
  rfl
section
variable {P : Program} {w : World} {K : PySem.W.Frag} {mg : Str → Option Value} {base : Heap}
theorem b_l_word (T : Tx K mg) : Binds K (fdOf K ("_law_word", none)) ["_law_ear_here"] [] := T.f_l_word.bindsN fun _ _ _ _ _ _ us hl => match us, hl with | [_], _ => rfl
theorem ok_l_word (T : Tx K mg) : FnOk P w K mg base CX0 4 (ga K "_law_word") (fdOf K ("_law_word", none)) ["_law_ear_here"] (spWord K) := by
  refine T.f_l_word.ok sc_l_word (fun vs H Q E h => ?_) (fun cdv A outer s H vs Q E hr h => ?_)
  · obtain ⟨p, c, n, rfl, _⟩ := h
    rfl
  · refine ⟨_, PSs.nox (pss_cons (ps_if (pt_cmpR op_eq (pe_call (ok_l_pull T) (hr.mono (by decide)) (by rfl) T.g_l_pull T.f_l_pull.kp (b_l_pull T) .nil pass0 (pa_cons (pv 0) (pa_cons pe_int pa_nil))) pe_int (nomark _))
        (pss_cons (ps_setLc (i := 1) (own := [("_law_spot", 2)]) (g := (gName 2)) (tt := tYes) (by rfl) sc_l_word.nd rfl rfl (sw_true rfl rfl rfl (by decide +kernel)) (pi_range1 (by rfl) T.n_range (pa_cons (pe_op op_add pe_int (pe_call (ok_l_pull T) (hr.mono (by decide)) (by rfl) T.g_l_pull T.f_l_pull.kp (b_l_pull T) .nil pass0 (pa_cons (pv 0) (pa_cons pe_int pa_nil)))) pa_nil)) (blkOk_by (N := ["_law_ear_here", "_law_told", "_law_spot", "_law_letters"]) (sc := defScope s_l_word) (by decide +kernel)) (fun _ _ _ _ _ => pg_name (i := 2) sc_l_word.nd rfl (Or.inl rfl)) (fun _ _ _ _ _ => pts_nil) (fun _ _ _ _ _ => (pe_call (ok_l_one T) (hr.mono (by decide)) (by rfl) T.g_l_one T.f_l_one.kp (b_l_one T) .nil pass0 (pa_cons (pv 0) (pa_cons (pe_lst (pa_cons pe_str (pa_cons pe_str (pa_cons pe_str (pa_cons pe_str (pa_cons pe_str (pa_cons pe_str (pa_cons pe_str pa_nil)))))))) pa_nil)))))
        (pss_one (ps_ret (pe_call (ok_l_spoken T) (hr.mono (by decide)) (by rfl) T.g_l_spoken T.f_l_spoken.kp (b_l_spoken T) .nil pass0 (pa_cons (pv 0) (pa_cons (pv 1) (pa_cons (pe_call (ok_l_one T) (hr.mono (by decide)) (by rfl) T.g_l_one T.f_l_one.kp (b_l_one T) .nil pass0 (pa_cons (pv 0) (pa_cons (pe_lst (pa_cons pe_str (pa_cons pe_str pa_nil))) pa_nil))) pa_nil)))))))
        pss_nil)
      (pss_cons (ps_set (i := 3) sc_l_word.nd rfl (.inr rfl) (pe_call (ok_l_one T) (hr.mono (by decide)) (by rfl) T.g_l_one T.f_l_one.kp (b_l_one T) .nil pass0 (pa_cons (pv 0) (pa_cons (pe_lst (pa_cons pe_str (pa_cons pe_str (pa_cons pe_str (pa_cons pe_str (pa_cons pe_str (pa_cons pe_str (pa_cons pe_str pa_nil)))))))) pa_nil))))
      (pss_one (ps_ret (pe_join pe_str (pe_lc (own := [("_law_spot", 2)]) (g := (gName 2)) (tt := tYes) rfl sc_l_word.nd (pi_range1 (by rfl) T.n_range (pa_cons (pe_op op_add pe_int (pe_call (ok_l_pull T) (hr.mono (by decide)) (by rfl) T.g_l_pull T.f_l_pull.kp (b_l_pull T) .nil pass0 (pa_cons (pv 0) (pa_cons pe_int pa_nil)))) pa_nil)) (blkOk_by (N := ["_law_ear_here", "_law_told", "_law_spot", "_law_letters"]) (sc := defScope s_l_word) (by decide +kernel)) (fun _ _ _ _ _ => pg_name (i := 2) sc_l_word.nd rfl (Or.inl rfl)) (fun _ _ _ _ _ => pts_nil) (fun _ _ _ _ _ => (pe_call (ok_l_one T) (hr.mono (by decide)) (by rfl) T.g_l_one T.f_l_one.kp (b_l_one T) .nil pass0 (pa_cons (pv 0) (pa_cons (pv 3) pa_nil)))))))))), ?_⟩
    -- slots: [(0, '_law_ear_here'), (1, '_law_told'), (2, '_law_spot'), (3, '_law_letters')]
    obtain ⟨p, c, n, rfl, hP, hn, k⟩ := h
    refine ⟨_, rfl, p, c, 3, n, rfl, by decide, by decide, hP, by omega, fun d H1 d0 d1 off1 pen1 => ⟨rfl, _, rfl, ?_⟩⟩
    refine ite2 (fun h => ?_) (fun h => ?_)
    · refine q_asgD (draw_texts (G := MenuS) (most := 3) rfl ⟨by decide, by decide⟩ pen1 (by omega) (fun _ => rfl) (fun i H2 kk o pk hk Q q => one_texts ["ka", "o", "ne", "na", "su", "so", "ti"] (ev_var rfl) (ea_cons ev_c (ea_cons ev_c (ea_cons ev_c (ea_cons ev_c (ea_cons ev_c (ea_cons ev_c (ea_cons ev_c ea_nil))))))) pk (by omega) (by decide) fun t H3 ht off pen => q t H3 (menu_ok ht) off pen) fun l ts H2 off2 pen2 nl hl l1 l3 g => ?_)
      refine ⟨_, rfl, _, rfl, one_texts ["drop", "next"] (ev_var rfl) (ea_cons ev_c (ea_cons ev_c ea_nil)) pen2 (by omega) (by decide) fun wy H3 hwy off3 pen3 => ⟨p, c, l, ts, wy, n + 1 + 13 + 1, rfl, pen3, by omega, nl, off3 _ _ hl nl, l1, l3, g, fun z H4 hz off4 pen4 => k z H4 hz (((off1.trans off2).trans off3).trans off4) (pen4.mono (by omega))⟩⟩
    · refine q_asgD (one_texts ["aeknst", "aoknmpt", "aeiou", "bcdaz", "abcdefghijklmnopqrstuvwxyz", "knst", "okn"] (ev_var rfl) (ea_cons ev_c (ea_cons ev_c (ea_cons ev_c (ea_cons ev_c (ea_cons ev_c (ea_cons ev_c (ea_cons ev_c ea_nil))))))) pen1 (by omega) (by decide) fun tx H2 htx off2 pen2 => ?_)
      obtain ⟨t1, t2, t3⟩ := lots_ok htx
      refine ⟨⟨"", rfl⟩, draw_texts (G := OneL) (most := 12) rfl ⟨by decide, by decide⟩ pen2 (by omega) (fun _ => rfl) (fun i H3 kk o pk hk Q q => ⟨_, rfl, _, rfl, p, c, .str tx, kk, rfl, pk, by omega, .inr ⟨tx, rfl, t1, t2, fun d H4 hd off pen => q _ H4 ⟨d, rfl, t3 d hd⟩ off pen⟩⟩) fun l ts H3 off3 pen3 nl hl l1 l12 g => ?_⟩
      obtain ⟨j1, j2, j3⟩ := join_ones g
      exact ⟨"", l, ts, rfl, rfl, .inl (SqL.of hl), by rw [j3]; show ts.length + ts.length * 0 ≤ 16777216; omega, k _ H3 (heard_of (by omega) (by omega) j2) ((off1.trans off2).trans off3) (pen3.mono (by omega))⟩
end
end K57
set_option Elab.async false
set_option linter.all false
set_option maxRecDepth 100000
set_option maxHeartbeats 4000000
set_option autoImplicit false
/-! calls with keywords that k57's law makes. -/
namespace K57
open PySem PySem.Spec PyProof.Rows L2 He Evl
section
variable {P : Program} {w : World} {K : PySem.W.Frag} {mg : Str → Option Value} {base : Heap}
theorem kb_syllables_way_heard_0 (T : Tx K mg) : KBn K (fdOf K ("syllables", none)) ["heard", "way"] 0 ["way", "heard"] (fun us ws => us ++ ws.reverse) (fun us ws => us ++ ws.reverse) := T.f_syllables.kbindsP 0 ["way", "heard"] (fun us ws => us ++ ws.reverse) (fun r1 r2 => r1.append r2.reverse) fun _ _ _ _ _ _ us ws l1 l2 => match us, ws, l1, l2 with | [], [_, _], _, _ => rfl
theorem kb_consonant_of_value_0 (T : Tx K mg) : KBn K (fdOf K ("consonant_of", none)) ["value"] 0 ["value"] (fun us ws => us ++ ws) (fun us ws => us ++ ws) := T.f_consonant_of.kbindsP 0 ["value"] (fun us ws => us ++ ws) (fun r1 r2 => r1.append r2) fun _ _ _ _ _ _ us ws l1 l2 => match us, ws, l1, l2 with | [], [_], _, _ => rfl
theorem kb_vowel_of_value_0 (T : Tx K mg) : KBn K (fdOf K ("vowel_of", none)) ["value"] 0 ["value"] (fun us ws => us ++ ws) (fun us ws => us ++ ws) := T.f_vowel_of.kbindsP 0 ["value"] (fun us ws => us ++ ws) (fun r1 r2 => r1.append r2) fun _ _ _ _ _ _ us ws l1 l2 => match us, ws, l1, l2 with | [], [_], _, _ => rfl
theorem kb_is_value_value_0 (T : Tx K mg) : KBn K (fdOf K ("is_value", none)) ["value"] 0 ["value"] (fun us ws => us ++ ws) (fun us ws => us ++ ws) := T.f_is_value.kbindsP 0 ["value"] (fun us ws => us ++ ws) (fun r1 r2 => r1.append r2) fun _ _ _ _ _ _ us ws l1 l2 => match us, ws, l1, l2 with | [], [_], _, _ => rfl
theorem kb_is_heard_value_0 (T : Tx K mg) : KBn K (fdOf K ("is_heard", none)) ["value"] 0 ["value"] (fun us ws => us ++ ws) (fun us ws => us ++ ws) := T.f_is_heard.kbindsP 0 ["value"] (fun us ws => us ++ ws) (fun r1 r2 => r1.append r2) fun _ _ _ _ _ _ us ws l1 l2 => match us, ws, l1, l2 with | [], [_], _, _ => rfl
theorem kb_exchanged_other_one_heard_0 (T : Tx K mg) : KBn K (fdOf K ("exchanged", none)) ["heard", "one", "other"] 0 ["other", "one", "heard"] (fun us ws => us ++ ws.reverse) (fun us ws => us ++ ws.reverse) := T.f_exchanged.kbindsP 0 ["other", "one", "heard"] (fun us ws => us ++ ws.reverse) (fun r1 r2 => r1.append r2.reverse) fun _ _ _ _ _ _ us ws l1 l2 => match us, ws, l1, l2 with | [], [_, _, _], _, _ => rfl
end
end K57
set_option Elab.async false
set_option linter.all false
set_option maxRecDepth 100000
set_option maxHeartbeats 4000000
set_option autoImplicit false
/-! how many syllables there are; each is a value. -/
namespace K57
open PySem
def vowI (cs : List Nat) : List Nat := (List.range cs.length).filter fun i => vow (cs.getD i 0)
def shutB (cs : List Nat) (i : Nat) : Bool := !vow (cs.getD i 0) && (!((vowI cs).contains (i + 1)) && (decide (vowI cs ≠ []) && decide (i < (vowI cs).getLastD 0)))
def shutI (cs : List Nat) : List Nat := (List.range cs.length).filter (shutB cs)
theorem last_ge : ∀ {l : List Nat} {j : Nat}, l.Pairwise (· < ·) → j ∈ l → j ≤ l.getLastD 0
  | [], _, _, h => nomatch h
  | [a], j, _, h => by rw [List.mem_singleton.mp h]; exact Nat.le_refl _
  | a :: b :: r, j, hp, h => by
    have hp2 := List.pairwise_cons.mp hp
    have ih : ∀ k ∈ (b :: r), k ≤ (b :: r).getLastD 0 := fun k hk => last_ge hp2.2 hk
    have e : (a :: b :: r).getLastD 0 = (b :: r).getLastD 0 := by simp [List.getLastD]
    rw [e]
    rcases List.mem_cons.mp h with rfl | h
    · exact Nat.le_trans (Nat.le_of_lt (hp2.1 b List.mem_cons_self)) (ih b List.mem_cons_self)
    · exact ih j h
theorem last_mem : ∀ {l : List Nat}, l ≠ [] → l.getLastD 0 ∈ l
  | [], h => absurd rfl h
  | [a], _ => List.mem_singleton.mpr rfl
  | a :: b :: r, _ => by
    have e : (a :: b :: r).getLastD 0 = (b :: r).getLastD 0 := by simp [List.getLastD]
    rw [e]
    exact List.mem_cons_of_mem _ (last_mem (l := b :: r) (by simp))
theorem vowI_pw (cs : List Nat) : (vowI cs).Pairwise (· < ·) := List.Pairwise.filter _ List.pairwise_lt_range
theorem mem_vowI {cs : List Nat} {i : Nat} : i ∈ vowI cs ↔ i < cs.length ∧ vow (cs.getD i 0) = true := by
  unfold vowI
  rw [List.mem_filter, List.mem_range]
theorem vow_zero : vow 0 = false := by decide +kernel
theorem cont_next (cs : List Nat) (i : Nat) : (vowI cs).contains (i + 1) = vow (at0 cs (i + 1)) := by
  rw [Bool.eq_iff_iff, List.contains_iff_mem, mem_vowI]
  constructor
  · exact fun h => h.2
  · intro h
    refine ⟨?_, h⟩
    rcases Nat.lt_or_ge (i + 1) cs.length with hl | hl
    · exact hl
    · unfold at0 at h
      rw [List.getD_eq_getElem?_getD, List.getElem?_eq_none hl] at h
      rw [show (none : Option Nat).getD 0 = 0 from rfl, vow_zero] at h
      cases h
theorem later_iff (cs : List Nat) (i : Nat) : (cs.drop (i + 1)).filter vow ≠ [] ↔ vowI cs ≠ [] ∧ i < (vowI cs).getLastD 0 := by
  constructor
  · intro h
    obtain ⟨v, r, hv⟩ := List.exists_cons_of_ne_nil h
    have hm : v ∈ (cs.drop (i + 1)).filter vow := by rw [hv]; exact List.mem_cons_self
    obtain ⟨hm1, hm2⟩ := List.mem_filter.mp hm
    obtain ⟨k, hk, he⟩ := List.getElem_of_mem hm1
    rw [List.length_drop] at hk
    rw [List.getElem_drop] at he
    have hj : i + 1 + k ∈ vowI cs := mem_vowI.mpr ⟨by omega, by
      rw [List.getD_eq_getElem?_getD, List.getElem?_eq_getElem (by omega : i + 1 + k < cs.length), Option.getD_some, he]
      exact hm2⟩
    exact ⟨List.ne_nil_of_mem hj, by have := last_ge (vowI_pw cs) hj; omega⟩
  · rintro ⟨h1, h2⟩
    have hm := last_mem h1
    obtain ⟨m1, m2⟩ := mem_vowI.mp hm
    have h3 : cs.getD ((vowI cs).getLastD 0) 0 ∈ (cs.drop (i + 1)).filter vow := by
      refine List.mem_filter.mpr ⟨?_, m2⟩
      rw [List.getD_eq_getElem?_getD, List.getElem?_eq_getElem m1, Option.getD_some]
      have e : (cs.drop (i + 1))[(vowI cs).getLastD 0 - (i + 1)]? = some cs[(vowI cs).getLastD 0] := by
        rw [List.getElem?_drop, show i + 1 + ((vowI cs).getLastD 0 - (i + 1)) = (vowI cs).getLastD 0 by omega, List.getElem?_eq_getElem m1]
      exact List.mem_of_getElem? e
    exact List.ne_nil_of_mem h3
theorem some_at (cs : List Nat) (nx : Bool) (i : Nat) : (sylAt cs nx i).isSome = (vow (cs.getD i 0) || (nx && shutB cs i)) := by
  unfold sylAt shutB
  show Option.isSome (if vow (at0 cs i) = true then _ else _) = (vow (at0 cs i) || (nx && (!vow (at0 cs i) && _)))
  rw [cont_next]
  cases hv : vow (at0 cs i) with
  | true => rfl
  | false =>
    rw [if_neg (by decide)]
    cases nx with
    | false => rfl
    | true =>
      rw [if_pos rfl]
      have l := later_iff cs i
      cases hf : (cs.drop (i + 1)).filter vow with
      | nil =>
        rw [hf] at l
        have n : ¬ (vowI cs ≠ [] ∧ i < (vowI cs).getLastD 0) := fun h => l.mpr h rfl
        have e : (decide (vowI cs ≠ []) && decide (i < (vowI cs).getLastD 0)) = false := by
          rw [← Bool.decide_and]
          exact decide_eq_false n
        rw [e]
        cases vow (at0 cs (i + 1)) <;> rfl
      | cons v r =>
        rw [hf] at l
        obtain ⟨a, b⟩ := l.mp (by simp)
        rw [decide_eq_true a, decide_eq_true b]
        cases vow (at0 cs (i + 1)) <;> rfl
theorem len_fm {α β : Type} (f : α → Option β) : ∀ l : List α, (l.filterMap f).length = (l.filter fun x => (f x).isSome).length
  | [] => rfl
  | x :: l => by
    rw [List.filterMap_cons, List.filter_cons]
    cases h : f x with
    | none =>
      simp only [Option.isSome_none, Bool.false_eq_true, if_false]
      exact len_fm f l
    | some y =>
      simp only [Option.isSome_some, if_true, List.length_cons, len_fm f l]
theorem len_or {α : Type} (p q : α → Bool) (h : ∀ x, p x = true → q x = false) : ∀ l : List α, (l.filter fun x => p x || q x).length = (l.filter p).length + (l.filter q).length
  | [] => rfl
  | x :: l => by
    rw [List.filter_cons, List.filter_cons, List.filter_cons]
    have ih := len_or p q h l
    cases hp : p x with
    | true =>
      have hq := h x hp
      simp only [hq, Bool.or_false, if_true, Bool.false_eq_true, if_false, List.length_cons, ih]
      omega
    | false =>
      cases hq : q x with
      | true =>
        simp only [Bool.or_true, if_true, Bool.false_eq_true, if_false, List.length_cons, ih]
        omega
      | false => simp only [Bool.or_false, Bool.false_eq_true, if_false, ih]
theorem sylF_len (z : Str) (nx : Bool) : (sylF z nx).length = (vowI z.cps.toList).length + (if nx then (shutI z.cps.toList).length else 0) := by
  unfold sylF sylN
  rw [len_fm]
  have e : (fun i => (sylAt z.cps.toList nx i).isSome) = fun i => vow (z.cps.toList.getD i 0) || (nx && shutB z.cps.toList i) := funext fun i => some_at _ _ _
  rw [e, len_or]
  · cases nx with
    | true => rfl
    | false =>
      have z0 : (List.filter (fun i => false && shutB z.cps.toList i) (List.range z.cps.toList.length)) = [] := by
        rw [List.filter_eq_nil_iff]
        intro a _
        simp
      rw [z0]
      rfl
  · intro i hi
    show (nx && (!vow (z.cps.toList.getD i 0) && _)) = false
    rw [hi]
    cases nx <;> rfl
/-- what a syllable is -/
def SylS (s : Str) : Prop := ∃ (b : List Nat) (v : Nat), s = ⟨(b ++ [v]).toArray⟩ ∧ vow v = true ∧ v ∈ letters.cps.toList ∧ (b = [] ∨ ∃ c, b = [c] ∧ vow c = false ∧ c ∈ letters.cps.toList)
theorem let_at {cs : List Nat} (h : ∀ c ∈ cs, c ∈ letters.cps.toList) {i : Nat} (hi : i < cs.length) : at0 cs i ∈ letters.cps.toList := by
  unfold at0
  rw [List.getD_eq_getElem?_getD, List.getElem?_eq_getElem hi]
  exact h _ (List.getElem_mem hi)
theorem sylF_all {z : Str} {nx : Bool} (hz : heardB z = true) : ∀ s ∈ sylF z nx, SylS s := by
  have hl : ∀ c ∈ z.cps.toList, c ∈ letters.cps.toList := fun c hc => by
    unfold heardB at hz
    exact of_decide_eq_true (List.all_eq_true.mp (Bool.and_eq_true_iff.mp hz).2 c hc)
  intro s hs
  unfold sylF sylN at hs
  obtain ⟨i, hi, e⟩ := List.mem_filterMap.mp hs
  have hi2 : i < z.cps.toList.length := List.mem_range.mp hi
  generalize z.cps.toList = cs at hl e hi2
  unfold sylAt at e
  by_cases hv : vow (at0 cs i) = true
  · rw [if_pos hv] at e
    have e2 := Option.some.inj e
    by_cases hp : (decide (0 < i) && !vow (at0 cs (i - 1))) = true
    · rw [if_pos hp] at e2
      obtain ⟨p1, p2⟩ := Bool.and_eq_true_iff.mp hp
      have p1 := of_decide_eq_true p1
      refine ⟨[at0 cs (i - 1)], at0 cs i, e2.symm, hv, let_at hl hi2, .inr ⟨_, rfl, by revert p2; cases vow (at0 cs (i - 1)) <;> simp, let_at hl (by omega)⟩⟩
    · rw [if_neg hp] at e2
      exact ⟨[], at0 cs i, e2.symm, hv, let_at hl hi2, .inl rfl⟩
  · rw [if_neg hv] at e
    cases nx with
    | false => cases e
    | true =>
      rw [if_pos rfl] at e
      cases hf : (cs.drop (i + 1)).filter vow with
      | nil =>
        rw [hf] at e
        cases e
      | cons v r =>
        rw [hf] at e
        have hm : v ∈ (cs.drop (i + 1)).filter vow := by rw [hf]; exact List.mem_cons_self
        obtain ⟨m1, m2⟩ := List.mem_filter.mp hm
        by_cases hn : vow (at0 cs (i + 1)) = true
        · simp only [hn, if_true] at e
          cases e
        · simp only [hn, if_false, Bool.false_eq_true] at e
          exact ⟨[at0 cs i], v, (Option.some.inj e).symm, m2, hl _ (List.mem_of_mem_drop m1), .inr ⟨_, rfl, by revert hv; cases vow (at0 cs i) <;> simp, let_at hl hi2⟩⟩
theorem SylS.facts {s : Str} (h : SylS s) : valueB s = true ∧ butLast s ++ lastOf s = s ∧ (∃ v, lastOf s = ⟨#[v]⟩ ∧ vow v = true) ∧ (butLast s = "" ∨ ∃ c, butLast s = ⟨#[c]⟩ ∧ vow c = false) ∧ s.length ≤ 2 ∧ (butLast s).length ≤ 1 := by
  obtain ⟨b, v, rfl, hv, lv, hb⟩ := h
  rcases hb with rfl | ⟨c, rfl, hc, lc⟩
  · refine ⟨?_, rfl, ⟨v, rfl, hv⟩, .inl rfl, (by show 1 ≤ 2; decide), (by show 0 ≤ 1; decide)⟩
    show ((decide ((1 : Nat) ≤ 1) && decide ((1 : Nat) ≤ 12) && ([v].all fun c => decide (c ∈ letters.cps.toList))) && decide ((1 : Nat) ≤ 2) && vow v && (decide ((1 : Nat) = 1) || !vow v)) = true
    rw [hv]
    simp [show v ∈ letters.cps by simpa using lv]
  · refine ⟨?_, rfl, ⟨v, rfl, hv⟩, .inr ⟨c, rfl, hc⟩, (by show 2 ≤ 2; decide), (by show 1 ≤ 1; decide)⟩
    show ((decide ((1 : Nat) ≤ 2) && decide ((2 : Nat) ≤ 12) && ([c, v].all fun c => decide (c ∈ letters.cps.toList))) && decide ((2 : Nat) ≤ 2) && vow v && (decide ((2 : Nat) = 1) || !vow c)) = true
    rw [hv, hc]
    simp [show v ∈ letters.cps by simpa using lv, show c ∈ letters.cps by simpa using lc]
end K57
set_option Elab.async false
set_option linter.all false
set_option maxRecDepth 100000
set_option maxHeartbeats 4000000
set_option autoImplicit false
/-! != of two tuples with decided items; [e for i, c in enumerate(text) if t]; list(text). -/
namespace L2
open PySem PySem.Spec PyProof.Rows Evl
def rNeU (K : PySem.W.Frag) : R2 := fun x y H Q => ∃ a b xs ys bs, x = .ref a ∧ y = .ref b ∧ SqT K H a xs ∧ SqT K H b ys ∧ Eqvs xs ys bs ∧ Q (.bl (!bs.all id)) H
theorem op_neU2 {X : Cx} (hu : X.A.units < cLine) : OpR X (compareOp .NotEq) (rNeU X.K) := by
  intro pins s σ H x y v u Q I rx ry h
  rcases h with ⟨a, b, xs, ys, bs, rfl, rfl, ha, hb, he, q⟩
  cases (show v = Value.ref a from rx)
  cases (show u = Value.ref b from ry)
  obtain ⟨us, r1, p1, _⟩ := I.tuple ha
  obtain ⟨ws, r2, p2, _⟩ := I.tuple hb
  have l1 := r1.length
  have l2 := r2.length
  have hl := he.len
  refine SeqAt.RcNeAt.tuples (e := fun j => bs.getD j false) p1 p2 hu (fun j h1 h2 => ?_) X.prog X.w _ _ ⟨.bl (!bs.all id), H, I, ?_, q⟩
  · have k := he.at (A := X.A.in1) (s := s) r1 r2 j (by simpa using h1) (by simpa using h2)
    simpa using k
  · have e1 : us.toArray.size = bs.length := by simp only [List.size_toArray]; omega
    have e2 : ws.toArray.size = bs.length := by simp only [List.size_toArray]; omega
    rw [e1, e2, Nat.min_self, range_all, beq_self_eq_true, Bool.and_true]
    rfl
theorem eqvs_texts : ∀ ts : List Str, ∃ bs, Eqvs (ts.map V.str) (ts.map V.str) bs ∧ bs.all id = true
  | [] => ⟨[], .nil, rfl⟩
  | t :: ts => by
    obtain ⟨bs, h, e⟩ := eqvs_texts ts
    exact ⟨_, .cons (.str t t) h, by rw [List.all_cons, e]; simp⟩
section
variable {K : PySem.W.Frag} {σ : L2.St} {H : Hp} {te : TE} {t : TT} {z : Str}
theorem el_lcEnS {i j k n : Nat} {vs : List Nat} (f : Nat → Bool) (v : Nat → V) (hn : n = 2) (hv : σ[k]? = some (some (.str z))) (hz : z.cps.size ≤ 40000)
    (hw : ∀ x y, wipe (((wipe σ vs).set i (some x)).set j (some y)) vs = wipe σ vs)
    (ht : ∀ (m c : Nat) H1, Ex H H1 → m < z.cps.size → z.cps.toList[m]? = some c → EvT t (((wipe σ vs).set i (some (.int (m : Nat)))).set j (some (.str ⟨#[c]⟩))) H1 (f m))
    (he : ∀ (m c : Nat) H1, Ex H H1 → m < z.cps.size → z.cps.toList[m]? = some c → f m = true → Ev te (((wipe σ vs).set i (some (.int (m : Nat)))).set j (some (.str ⟨#[c]⟩))) H1 (v m)) :
    EvL (tLc (iEnumS (tCons (tVar k) tNil)) (gTup K n (gCons (gName i) (gCons (gName j) gNil))) t te vs) σ H (given z.cps.size f v) := fun H1 e Q q => by
  subst hn
  exact ⟨_, hv, z, rfl, fun Dl hD =>
    lc_it (K57.walk_enS (z := z)) (Cw H1 f v Dl) ⟨hD, Ex.new hD, upd_same⟩ (fun _ _ _ _ => trivial) (fun m x H2 H3 hm pc y => by
      obtain ⟨T, c, rfl, hT, rfl, hc⟩ := y
      have hc2 : z.cps.toList[m]? = some c := by simpa using hc
      obtain ⟨p1, p2, p3⟩ := pc
      have pc' : Cw H1 f v Dl m (upd H2 T (.tup [.int (m : Nat), .str ⟨#[c]⟩])) := ⟨p1, p2.trans (Ex.new hT), Ex.new hT _ _ p3⟩
      exact ⟨T, _, rfl, SqT.of upd_same, rfl, _, _, rfl, _, _, rfl, rfl, hw _ _, cw_turn pc' (by omega) (ht m c H1 e hm hc2) (fun hf => he m c H1 e hm hc2 hf)⟩)
      (fun H' p => q Dl H' p.1 p.2.1 p.2.2)⟩
theorem el_listS {ta : TE} (h : Ev ta σ H (.str z)) (hz : z.length ≤ 40000) : EvL (tCB rListStr (tCons ta tNil)) σ H (signsV z) := fun H1 e Q q =>
  h H1 e _ fun H2 e2 => ⟨z, rfl, sz_of (n := z.length) (by omega), fun l hl => q l _ (fresh_back e2 hl) (e2.trans (Ex.new hl)) upd_same⟩
end
end L2
set_option Elab.async false
set_option linter.all false
set_option maxRecDepth 100000
set_option maxHeartbeats 4000000
set_option autoImplicit false
/-! words of general use: lengths, copies, loops over a tuple made in the head, calls by name. -/
namespace L2
open PySem PySem.Spec PyProof.Rows Evl
section
variable {K : PySem.W.Frag} {σ : L2.St} {H : Hp} {ta tb te tl : TE} {tu tz : TS} {t : TT} {D : Ends} {g : TG}
abbrev rLenV (K : PySem.W.Frag) : List V → Hp → VK → Prop := fun xs H Q => ∃ x n, xs = [x] ∧ LenV K x H n ∧ Q (.int n) H
abbrev rCopy (K : PySem.W.Frag) : List V → Hp → VK → Prop := fun xs H Q => ∃ p ys, xs = [.ref p] ∧ (SqL K H p ys ∨ SqT K H p ys) ∧ ∀ l : Addr, H l = none → Q (.ref l) (upd H l (.lst ys))
theorem ex_lt {H H' : Hp} {p : Addr} {xs : List V} (e : Ex H H') (h : SqL K H p xs ∨ SqT K H p xs) : SqL K H' p xs ∨ SqT K H' p xs := h.imp (ex_l e) (ex_t e)
/-- len of a list or a tuple -/
theorem ev_lenQ {p : Addr} {xs : List V} (h : Ev te σ H (.ref p)) (hp : SqL K H p xs ∨ SqT K H p xs) : Ev (tCB (rLenV K) (tCons te tNil)) σ H (.int (xs.length : Nat)) := fun H1 e Q q =>
  h H1 e _ fun H2 e2 => ⟨_, xs.length, rfl, hp.elim (fun z => .inl ⟨xs, ex_l (e.trans e2) z, rfl⟩) fun z => .inr ⟨xs, ex_t (e.trans e2) z, rfl⟩, q H2 e2⟩
theorem ev_lenNL {xs : List V} (h : EvL te σ H xs) : Ev (tCB (rLenV K) (tCons te tNil)) σ H (.int (xs.length : Nat)) := fun H1 e Q q =>
  h H1 e _ fun p H2 _ e2 h2 => ⟨_, xs.length, rfl, .inl ⟨xs, SqL.of h2, rfl⟩, q H2 e2⟩
theorem ev_lenNU {xs : List V} (h : EvU te σ H xs) : Ev (tCB (rLenV K) (tCons te tNil)) σ H (.int (xs.length : Nat)) := fun H1 e Q q =>
  h H1 e _ fun p H2 _ e2 h2 => ⟨_, xs.length, rfl, .inr ⟨xs, SqT.of h2, rfl⟩, q H2 e2⟩
theorem ev_lenZ {z : Str} (h : Ev te σ H (.str z)) (hz : z.length ≤ 1000) : Ev (tCB (rLenV K) (tCons te tNil)) σ H (.int (z.length : Nat)) := fun H1 e Q q =>
  h H1 e _ fun H2 e2 => ⟨_, z.length, rfl, ⟨sz_of (by omega), rfl⟩, q H2 e2⟩
/-- list(xs) -/
theorem el_copy {p : Addr} {xs : List V} (h : Ev te σ H (.ref p)) (hp : SqL K H p xs ∨ SqT K H p xs) : EvL (tCB (rCopy K) (tCons te tNil)) σ H xs := fun H1 e Q q =>
  h H1 e _ fun H2 e2 => ⟨p, xs, rfl, ex_lt (e.trans e2) hp, fun l hl => q l _ (fresh_back e2 hl) (e2.trans (Ex.new hl)) upd_same⟩
theorem el_copyL {xs : List V} (h : EvL te σ H xs) : EvL (tCB (rCopy K) (tCons te tNil)) σ H xs := fun H1 e Q q =>
  h H1 e _ fun p H2 _ e2 h2 => ⟨p, xs, rfl, .inl (SqL.of h2), fun l hl => q l _ (fresh_back e2 hl) (e2.trans (Ex.new hl)) upd_same⟩
theorem el_copyU {xs : List V} (h : EvU te σ H xs) : EvL (tCB (rCopy K) (tCons te tNil)) σ H xs := fun H1 e Q q =>
  h H1 e _ fun p H2 _ e2 h2 => ⟨p, xs, rfl, .inr (SqT.of h2), fun l hl => q l _ (fresh_back e2 hl) (e2.trans (Ex.new hl)) upd_same⟩
/-- the first operand a new tuple -/
theorem ev_opU1 {r : R2} {y z : V} {xs : List V} (ha : EvU ta σ H xs) (hb : ∀ H1, Ex H H1 → Ev tb σ H1 y) (hr : ∀ p H1, H1 p = some (.tup xs) → Ex H H1 → RV r (.ref p) y H1 z) : Ev (tOp r ta tb) σ H z := fun H1 e Q q =>
  ha H1 e _ fun p H2 _ e2 hp => hb H2 (e.trans e2) H2 (Ex.refl H2) _ fun H3 e3 => hr p H3 (e3 p _ hp) ((e.trans e2).trans e3) H3 (Ex.refl H3) Q fun H4 e4 => q H4 ((e2.trans e3).trans e4)
/-- over a tuple that is made in the head -/
theorem s_forNU {xs : List V} (h : EvU tl σ H xs) (Pv : Addr → Nat → L2.St → Hp → Prop) (h0 : ∀ p H1, H p = none → Ex H H1 → H1 p = some (.tup xs) → Pv p 0 σ H1) (hl : ∀ p i σ' H', i ≤ xs.length → Pv p i σ' H' → SqT K H' p xs)
    (hs : ∀ p i x σ' H', xs[i]? = some x → Pv p i σ' H' → g x σ' H' fun σ2 H2 => tu { D with nx := Pv p (i + 1), ct := Pv p (i + 1), bk := D.nx } σ2 H2) (hd : ∀ p σ' H', Pv p xs.length σ' H' → D.nx σ' H') : tFor (iTup K tl) g tu D σ H :=
  h H (Ex.refl H) _ fun p H1 hp e h1 => ⟨p, rfl, ⟨xs, st_of h1⟩, for_tup (Pv p) (h0 p H1 hp e h1) (hl p) (hs p) (hd p)⟩
theorem q_forNU {xs : List V} (h : EvU tl σ H xs) (Pv : Addr → Nat → L2.St → Hp → Prop) (h0 : ∀ p H1, H p = none → Ex H H1 → H1 p = some (.tup xs) → Pv p 0 σ H1) (hl : ∀ p i σ' H', i ≤ xs.length → Pv p i σ' H' → SqT K H' p xs)
    (hs : ∀ p i x σ' H', xs[i]? = some x → Pv p i σ' H' → g x σ' H' fun σ2 H2 => tu { D with nx := Pv p (i + 1), ct := Pv p (i + 1), bk := tz D } σ2 H2) (hd : ∀ p σ' H', Pv p xs.length σ' H' → tz D σ' H') : tSeq (tFor (iTup K tl) g tu) tz D σ H :=
  s_forNU (D := { D with nx := tz D }) h Pv h0 hl hs hd
def SpU (sp : Sp) (vs : List V) (H : Hp) (xs : List V) : Prop := ∀ H1, Ex H H1 → ∀ Q : VK, (∀ p H2, H1 p = none → Ex H1 H2 → H2 p = some (.tup xs) → Q (.ref p) H2) → ∀ E : XK, sp vs H1 Q E
theorem eu_call {sp : Sp} {dvs vs xs : List V} {E : XK} {tq : TA} (h : EvA tq σ H vs) (hs : SpU sp (vs ++ dvs) H xs) : EvU (tCall sp dvs E tq) σ H xs := fun H1 e Q q =>
  h H1 e _ fun H2 e2 => hs H2 (e.trans e2) Q (fun p H3 hp e3 h3 => q p H3 (fresh_back e2 hp) (e2.trans e3) h3) E
theorem ev_callN0 {sp : Sp} {gV : List V → List V → List V} {ws : List V} {z : V} {n : Nat} {E : XK} {tk : TA} (h : EvA tk σ H ws) (hl : ws.length = n) (hs : SpV sp (gV [] ws) H z) : Ev (tCallN 0 n sp gV E tNil tk) σ H z := fun H1 e Q q =>
  h H1 e _ fun H2 e2 => ⟨rfl, hl, hs H2 (e.trans e2) Q (fun H3 e3 => q H3 (e2.trans e3)) E⟩
theorem eu_callN0 {sp : Sp} {gV : List V → List V → List V} {ws xs : List V} {n : Nat} {E : XK} {tk : TA} (h : EvA tk σ H ws) (hl : ws.length = n) (hs : SpU sp (gV [] ws) H xs) : EvU (tCallN 0 n sp gV E tNil tk) σ H xs := fun H1 e Q q =>
  h H1 e _ fun H2 e2 => ⟨rfl, hl, hs H2 (e.trans e2) Q (fun p H3 hp e3 h3 => q p H3 (fresh_back e2 hp) (e2.trans e3) h3) E⟩
theorem el_callN0 {sp : Sp} {gV : List V → List V → List V} {ws xs : List V} {n : Nat} {E : XK} {tk : TA} (h : EvA tk σ H ws) (hl : ws.length = n) (hs : SpL sp (gV [] ws) H xs) : EvL (tCallN 0 n sp gV E tNil tk) σ H xs := fun H1 e Q q =>
  h H1 e _ fun H2 e2 => ⟨rfl, hl, hs H2 (e.trans e2) Q (fun p H3 hp e3 h3 => q p H3 (fresh_back e2 hp) (e2.trans e3) h3) E⟩
theorem q_asgU {i : Nat} {xs : List V} (h : EvU te σ H xs) (k : ∀ p H1, H p = none → Ex H H1 → H1 p = some (.tup xs) → tz D (σ.set i (some (.ref p))) H1) : tSeq (tAsg te (gName i)) tz D σ H := h H (Ex.refl H) _ fun p H1 hp e h1 => k p H1 hp e h1
theorem inV_nats (a : Nat) : ∀ l : List Nat, inV (.int (a : Int)) (l.map fun i => V.int (i : Nat)) = l.contains a
  | [] => rfl
  | b :: l => by
    have ih := inV_nats a l
    show (((b : Int) == (a : Int)) || inV (.int (a : Int)) (l.map fun i => V.int (i : Nat))) = _
    rw [ih, List.contains_cons]
    congr 1
    rw [Bool.eq_iff_iff, beq_iff_eq, beq_iff_eq]
    omega
theorem flat_nats : ∀ l : List Nat, (l.map fun i => V.int (i : Nat)).all flatV = true
  | [] => rfl
  | b :: l => flat_nats l
theorem inV_strs (a : Str) : ∀ l : List Str, inV (.str a) (l.map V.str) = l.contains a
  | [] => rfl
  | b :: l => by
    have ih := inV_strs a l
    show ((b == a) || inV (.str a) (l.map V.str)) = _
    rw [ih, List.contains_cons]
    congr 1
    exact Bool.beq_comm
theorem flat_strs : ∀ l : List Str, (l.map V.str).all flatV = true
  | [] => rfl
  | b :: l => flat_strs l
/-- [f(x) for x in t], t a tuple that is made for it -/
theorem el_lcT {a : Addr} {xs : List V} {j : Nat} {vs : List Nat} (f : Nat → Bool) (v : Nat → V) (h : Ev tl σ H (.ref a)) (hx : SqT K H a xs) (hz : xs.length ≤ 40000) (hw : ∀ x, wipe ((wipe σ vs).set j (some x)) vs = wipe σ vs)
    (ht : ∀ (i : Nat) (x : V) H1, Ex H H1 → xs[i]? = some x → EvT t ((wipe σ vs).set j (some x)) H1 (f i)) (he : ∀ (i : Nat) (x : V) H1, Ex H H1 → xs[i]? = some x → f i = true → Ev te ((wipe σ vs).set j (some x)) H1 (v i)) : EvL (tLc (iTup K tl) (gName j) t te vs) σ H (given xs.length f v) :=
  el_lcW (J := Itt K a) (n := xs.length) (G := fun H => SqT K H a xs) (ys := fun i x => xs[i]? = some x) _ _ walk_tup (fun H1 e R q => h H1 e _ fun H2 e2 => ⟨a, rfl, ⟨xs, ex_t (e.trans e2) hx⟩, q H2 e2 (ex_t (e.trans e2) hx)⟩) (fun H1 H2 g e => ex_t e g) hz hw (fun i x H1 e _ hy => ht i x H1 e hy) (fun i x H1 e _ hy hf => he i x H1 e hy hf)
theorem el_lcTm {a : Addr} {xs : List V} {j : Nat} {vs : List Nat} (g : V → V) (h : Ev tl σ H (.ref a)) (hx : SqT K H a xs) (hz : xs.length ≤ 40000) (hw : ∀ x, wipe ((wipe σ vs).set j (some x)) vs = wipe σ vs)
    (he : ∀ (x : V) H1, Ex H H1 → x ∈ xs → Ev te ((wipe σ vs).set j (some x)) H1 (g x)) : EvL (tLc (iTup K tl) (gName j) tYes te vs) σ H (xs.map g) := by
  have e0 : given xs.length (fun _ => true) (fun i => g (xs.getD i .non)) = xs.map g := by
    refine given_all (by rw [List.length_map]) fun i hi => ?_
    rw [List.getElem?_map, List.getElem?_eq_getElem hi, List.getD_eq_getElem?_getD, List.getElem?_eq_getElem hi]
    rfl
  rw [← e0]
  refine el_lcT _ _ h hx hz hw (fun _ _ _ _ _ => et_yes) (fun i x H1 e hy _ => ?_)
  rw [List.getD_eq_getElem?_getD, hy]
  exact he x H1 e (List.mem_of_getElem? hy)
theorem el_lcNU {xs : List V} {j : Nat} {vs : List Nat} (g : V → V) (h : EvU tl σ H xs) (hz : xs.length ≤ 40000) (hw : ∀ x, wipe ((wipe σ vs).set j (some x)) vs = wipe σ vs)
    (he : ∀ (x : V) H1, Ex H H1 → x ∈ xs → Ev te ((wipe σ vs).set j (some x)) H1 (g x)) : EvL (tLc (iTup K tl) (gName j) tYes te vs) σ H (xs.map g) := fun H1 e Q q =>
  h H1 e _ fun p H2 _ e2 hp =>
    (el_lcTm (K := K) (te := te) (tl := tC (.ref p)) (σ := σ) (H := H2) (vs := vs) (j := j) g ev_c (SqT.of hp) hz hw fun x H3 e3 hx => he x H3 ((e.trans e2).trans e3) hx) H2 (Ex.refl H2) Q fun r H3 nr e3 hr => q r H3 (fresh_back e2 nr) (e2.trans e3) hr
/-- tuple(xs) of a new list -/
abbrev rTupOf (K : PySem.W.Frag) : List V → Hp → VK → Prop := fun xs H Q => ∃ p ys, xs = [.ref p] ∧ ((SqL K H p ys ∧ ∀ l : Addr, H l = none → Q (.ref l) (upd H l (.tup ys))) ∨ SqT K H p ys ∧ Q (.ref p) H)
theorem eu_tupL {xs : List V} (h : EvL te σ H xs) : EvU (tCB (rTupOf K) (tCons te tNil)) σ H xs := fun H1 e Q q =>
  h H1 e _ fun p H2 _ e2 h2 => ⟨p, xs, rfl, .inl ⟨SqL.of h2, fun l hl => q l _ (fresh_back e2 hl) (e2.trans (Ex.new hl)) upd_same⟩⟩
theorem eu_tupV {a : Addr} {xs : List V} (h : Ev te σ H (.ref a)) (ha : SqL K H a xs) : EvU (tCB (rTupOf K) (tCons te tNil)) σ H xs := fun H1 e Q q =>
  h H1 e _ fun H2 e2 => ⟨a, xs, rfl, .inl ⟨ex_l (e.trans e2) ha, fun l hl => q l _ (fresh_back e2 hl) (e2.trans (Ex.new hl)) upd_same⟩⟩
/-- [..] == [] -/
theorem ev_eq_nilL {xs : List V} (h : EvL te σ H xs) : Ev (tOp (rEqL K) te (tLst tNil)) σ H (.bl (decide (xs = []))) := ev_opLL h (el_lst ea_nil (Nat.zero_le _)) fun p q H1 hp hq _ H2 e2 Q k => by
  cases xs with
  | nil => exact ⟨p, q, _, _, true, rfl, rfl, SqL.of (e2 _ _ hp), SqL.of (e2 _ _ hq), .inr ⟨[], .nil, rfl⟩, k H2 (Ex.refl H2)⟩
  | cons x r =>
    rw [decide_eq_false (by simp)] at k
    exact ⟨p, q, _, _, false, rfl, rfl, SqL.of (e2 _ _ hp), SqL.of (e2 _ _ hq), .inl ⟨by simp, rfl⟩, k H2 (Ex.refl H2)⟩
theorem inv_sign (d : Nat) : ∀ l : List Nat, inV (.str ⟨#[d]⟩) (l.map fun c => V.str ⟨#[c]⟩) = l.contains d
  | [] => rfl
  | b :: l => by
    have ih := inv_sign d l
    show (((⟨#[b]⟩ : Str) == (⟨#[d]⟩ : Str)) || inV (.str ⟨#[d]⟩) (l.map fun c => V.str ⟨#[c]⟩)) = _
    rw [ih, List.contains_cons]
    congr 1
    rw [Bool.eq_iff_iff, beq_iff_eq, beq_iff_eq]
    constructor
    · intro h
      have h1 := congrArg (fun s : Str => s.cps.toList) h
      exact (List.cons.inj h1).1.symm
    · intro h
      rw [h]
end
end L2
set_option Elab.async false
set_option linter.all false
set_option maxRecDepth 100000
set_option maxHeartbeats 4000000
set_option autoImplicit false
namespace K57
open PySem PySem.Spec PyProof.Rows L2 He Evl TL
def spSylR (K : PySem.W.Frag) : Sp := fun vs H Q _ => ∃ z : Str, vs = [.str z] ∧ heardB z = true ∧ RetV (.bl true) H Q
theorem heard_len {z : Str} (h : heardB z = true) : z.length ≤ 12 := by
  unfold heardB at h
  exact of_decide_eq_true (Bool.and_eq_true_iff.mp (Bool.and_eq_true_iff.mp h).1).2
theorem value_len {z : Str} (h : valueB z = true) : z.length ≤ 12 := by
  unfold valueB at h
  exact heard_len (Bool.and_eq_true_iff.mp (Bool.and_eq_true_iff.mp (Bool.and_eq_true_iff.mp h).1).1).1
section
variable {P : Program} {w : World} {K : PySem.W.Frag} {mg : Str → Option Value} {base : Heap} {H : Hp} {Q : VK} {E : XK}
theorem eok_s {z : Str} (h : z.length ≤ 12) : EOk K H (.str z) := ⟨⟨_, kd_str z⟩, fun z' e => by cases e; omega⟩
theorem way_ok {w : Str} (hw : w = "drop" ∨ w = "next") : wayV (.str w) = true := by rcases hw with rfl | rfl <;> decide
theorem way_dec (w : Str) : decide (V.str w = .str "next") = decide (w = "next") := decide_eq_decide.mpr ⟨fun h => V.str.inj h, fun h => by rw [h]⟩
theorem syl_or {z w : Str} (hz : heardB z = true) (hw : w = "drop" ∨ w = "next") (q : ∀ a H', Ex H H' → H a = none → H' a = some (.tup ((sylF z (decide (w = "next"))).map V.str)) → Q (.ref a) H') :
    OrX K H E (heardV (.str z)) "BadHeard" "heard" (OrX K H E (wayV (.str w)) "BadHeard" "way" (∀ z', V.str z = .str z' → ∀ a H', Ex H H' → H a = none → H' a = some (.tup ((sylF z' (decide (V.str w = .str "next"))).map V.str)) → Q (.ref a) H')) := by
  have h1 : heardV (.str z) = true := hz
  refine ⟨(fun h => by cases h1.symm.trans h), fun _ => ⟨(fun h => by cases (way_ok hw).symm.trans h), fun _ => ?_⟩⟩
  intro z' e a H' e1 n h
  cases e
  rw [way_dec] at h
  exact q a H' e1 n h
theorem syl_SpU {z w : Str} (hz : heardB z = true) (hw : w = "drop" ∨ w = "next") : SpU (spSyl K) [.str z, .str w] H ((sylF z (decide (w = "next"))).map V.str) := fun H1 e Q q E => ⟨_, _, rfl, eok_s (heard_len hz), eok_s (by rcases hw with rfl | rfl <;> decide), syl_or hz hw fun a H2 e2 n h => q a H2 n e2 h⟩
theorem cons_SpV {s : Str} (hs : valueB s = true) : SpV (spCons K) [.str s] H (.str (butLast s)) := fun H1 e Q q E => by
  have h1 : valueV (.str s) = true := hs
  exact ⟨_, rfl, eok_s (value_len hs), ⟨(fun h => by cases h1.symm.trans h), fun _ z' e2 => (by cases e2; exact q)⟩⟩
theorem vow_SpV {s : Str} (hs : valueB s = true) : SpV (spVow K) [.str s] H (.str (lastOf s)) := fun H1 e Q q E => by
  have h1 : valueV (.str s) = true := hs
  exact ⟨_, rfl, eok_s (value_len hs), ⟨(fun h => by cases h1.symm.trans h), fun _ z' e2 => (by cases e2; exact q)⟩⟩
theorem sign_of {c d : Nat} {s : Str} (h : (⟨#[c]⟩ : Str) = s) (e : s.cps.toList = [d]) : c = d := by
  rw [← h] at e
  exact (List.cons.inj e).1
theorem last_at {l : List Nat} (h : l ≠ []) : atI (l.map fun i => V.int (i : Nat)) (-1) = some (.int (l.getLastD 0 : Nat)) := by
  obtain ⟨l0, a, rfl⟩ : ∃ l0 a, l = l0 ++ [a] := by
    rcases List.eq_nil_or_concat l with rfl | ⟨l0, a, rfl⟩
    · exact absurd rfl h
    · exact ⟨l0, a, List.concat_eq_append⟩
  rw [List.map_append, show (l0 ++ [a]).getLastD 0 = a by simp]
  exact atI_last _ _
theorem inv_s (s : Str) : inV (.str s) (signsV "aeiou") = (["a", "e", "i", "o", "u"] : List Str).contains s := inV_strs s ["a", "e", "i", "o", "u"]
theorem in_vow {v : Nat} (h : vow v = true) : inV (.str ⟨#[v]⟩) (signsV "aeiou") = true := by
  rw [inv_s]
  have hm : v ∈ vowels.cps.toList := of_decide_eq_true h
  have e : vowels.cps.toList = [97, 101, 105, 111, 117] := by decide +kernel
  rw [e] at hm
  simp only [List.mem_cons, List.not_mem_nil, or_false] at hm
  rcases hm with rfl | rfl | rfl | rfl | rfl <;> decide +kernel
theorem nin_vow {s : Str} (h : s = "" ∨ ∃ c, s = ⟨#[c]⟩ ∧ vow c = false) : inV (.str s) (signsV "aeiou") = false := by
  rw [inv_s]
  rcases h with rfl | ⟨c, rfl, hc⟩
  · decide +kernel
  · rw [← Bool.not_eq_true]
    intro h
    rw [List.contains_iff_mem] at h
    simp only [List.mem_cons, List.not_mem_nil, or_false] at h
    rcases h with h | h | h | h | h
    · have e : c = 97 := sign_of h (by decide +kernel)
      subst e; revert hc; decide +kernel
    · have e : c = 101 := sign_of h (by decide +kernel)
      subst e; revert hc; decide +kernel
    · have e : c = 105 := sign_of h (by decide +kernel)
      subst e; revert hc; decide +kernel
    · have e : c = 111 := sign_of h (by decide +kernel)
      subst e; revert hc; decide +kernel
    · have e : c = 117 := sign_of h (by decide +kernel)
      subst e; revert hc; decide +kernel
theorem el_vows {σ : L2.St} : EvL (tCB rListStr (tCons (tC (V.str "aeiou")) tNil)) σ H (signsV "aeiou") := el_listS ev_c (by decide)
theorem flat_vows : (signsV "aeiou").all flatV = true := flat_strs ["a", "e", "i", "o", "u"]
theorem b_l_syllables_right (T : Tx K mg) : Binds K (fdOf K ("_law_syllables_right", none)) ["_law_heard_here"] [] := T.f_l_syllables_right.bindsN fun _ _ _ _ _ _ us hl => match us, hl with | [_], _ => rfl
theorem ok_l_syllables_right (T : Tx K mg) : FnOk P w K mg base CX0 6 (ga K "_law_syllables_right") (fdOf K ("_law_syllables_right", none)) ["_law_heard_here"] (spSylR K) := by
  refine T.f_l_syllables_right.ok sc_l_syllables_right (fun vs H Q E h => ?_) (fun cdv A outer s H vs Q E hr h => ?_)
  · obtain ⟨z, rfl, _⟩ := h
    rfl
  · have hu : (A.deeper (envOfC "_law_syllables_right" (defScope s_l_syllables_right) s.heap.objs.size (ga K "_law_syllables_right") cdv)).units < cLine := by have := hr.units; omega
    refine ⟨_, PSs.nox (pss_cons (ps_set (i := 1) sc_l_syllables_right.nd rfl (.inr rfl) (pe_lc (own := [("_law_at", 2), ("_law_letter", 3)]) (g := (gTup K 2 (gCons (gName 2) (gCons (gName 3) gNil))))  rfl sc_l_syllables_right.nd (pi_enumS (by rfl) T.n_enumerate (pa_cons (pv 0) pa_nil)) (blkOk_by (N := ["_law_heard_here", "_law_vowels", "_law_at", "_law_letter", "_law_shut", "_law_way", "_law_told", "_law_due", "_law_syllable"]) (sc := defScope s_l_syllables_right) (by decide +kernel)) (fun _ _ _ _ _ => pg_tup rfl (pgs_cons (pg_name (i := 2) sc_l_syllables_right.nd rfl (Or.inl rfl)) (pgs_cons (pg_name (i := 3) sc_l_syllables_right.nd rfl (Or.inl rfl)) pgs_nil))) (fun _ _ _ _ _ => pts_one (pt_cmpR op_in_sign (pv 3) pe_str (by rfl))) (fun _ _ _ _ _ => (pv 2))))
      (pss_cons (ps_setLc (i := 4) (own := [("_law_at", 2), ("_law_letter", 3)]) (g := (gTup K 2 (gCons (gName 2) (gCons (gName 3) gNil)))) (tt := tAnd (tTest (tOp (fun x y H Q => ∃ c z, x = V.str ⟨#[c]⟩ ∧ y = V.str z ∧ Q (V.bl (!decide (c ∈ z.cps.toList))) H) (tVar 3) (tC (V.str "aeiou")))) (tAnd (tTest (tOp (rIn K true) (tOp (rI0 fun i j => V.int (i + j)) (tVar 2) (tC (V.int 1))) (tVar 1))) (tAnd (tTest (tOp (rNeL K) (tVar 1) (tLst tNil))) (tTest (tOp (rI0 fun i j => V.bl (decide (i < j))) (tVar 2) (tOp (rIxL K) (tVar 1) (tUn (rU fun i => V.int (-i)) (tC (V.int 1))))))))) (by rfl) sc_l_syllables_right.nd rfl rfl (sw_true rfl rfl rfl (by decide +kernel)) (pi_enumS (by rfl) T.n_enumerate (pa_cons (pv 0) pa_nil)) (blkOk_by (N := ["_law_heard_here", "_law_vowels", "_law_at", "_law_letter", "_law_shut", "_law_way", "_law_told", "_law_due", "_law_syllable"]) (sc := defScope s_l_syllables_right) (by decide +kernel)) (fun _ _ _ _ _ => pg_tup rfl (pgs_cons (pg_name (i := 2) sc_l_syllables_right.nd rfl (Or.inl rfl)) (pgs_cons (pg_name (i := 3) sc_l_syllables_right.nd rfl (Or.inl rfl)) pgs_nil))) (fun _ _ _ _ _ => pts_one (PW.pt (pw_and (pt_cmpR op_notIn_sign (pv 3) pe_str (by rfl)) (pw_and (pt_cmpR op_notIn_seq (pe_op op_add (pv 2) pe_int) (pv 1) (by rfl)) (pw_and (pt_cmpR (op_neL hu) (pv 1) (pe_lst pa_nil) (nomark _)) (pw_and1 (pt_cmpR op_lt (pv 2) (pe_ix ix_list (pv 1) (pe_un un_neg pe_int) (fun _ _ => rfl)) (nomark _)))))))) (fun _ _ _ _ _ => (pv 2)))
      (pss_cons (ps_for PassesOwn.never rfl (pi_tup (pe_tup (pa_cons pe_str (pa_cons pe_str pa_nil)))) (pg_name (i := 5) sc_l_syllables_right.nd rfl (.inl rfl))
        (pss_cons (ps_par (i := 6) (j := 7) (by rfl) sc_l_syllables_right.nd rfl rfl (by decide) rfl rfl (pa_cons (pe_call (ok_syllables T) (hr.mono (by decide)) (by rfl) T.g_syllables T.f_syllables.kp (b_syllables T) .nil passL (pa_cons (pv 0) (pa_cons (pv 5) pa_nil))) (pa_cons (pe_call (ok_l_cut T) (hr.mono (by decide)) (by rfl) T.g_l_cut T.f_l_cut.kp (b_l_cut T) .nil pass0 (pa_cons (pv 0) (pa_cons (pv 5) pa_nil))) pa_nil)) (by rfl))
        (pss_cons (ps_if (PW.pt (pw_or (pt_not (pt_val (pe_callB call_isi (by rfl) T.n_isinstance (by decide +kernel) (pa_cons (pv 6) (pa_cons (pe_bltn (v := .ty "tuple") (by rfl) T.n_tuple (by decide +kernel) rfl) pa_nil))))) (pw_or (pt_cmpR (op_neL hu) (pe_callTy call_list_of (by rfl) T.n_list (by decide +kernel) (pa_cons (pv 6) pa_nil)) (pv 7) (nomark _)) (pw_or1 (pt_cmpR (op_neU2 hu) (pe_callN0 (ok_syllables T) (hr.mono (by decide)) (by rfl) T.g_syllables T.f_syllables.kp (kb_syllables_way_heard_0 T) passL (pk_cons (pv 5) (pk_cons (pv 0) pk_nil))) (pv 6) (nomark _))))))
          (pss_one (ps_ret pe_bl))
          pss_nil)
        (pss_cons (ps_if (pt_cmpR op_ne (pe_callB call_len (by rfl) T.n_len boot_len (pa_cons (pv 6) pa_nil)) (pe_op op_add (pe_callB call_len (by rfl) T.n_len boot_len (pa_cons (pv 1) pa_nil)) (pe_ifExp (pt_cmpR op_eq (pv 5) pe_str (nomark _)) (pe_callB call_len (by rfl) T.n_len boot_len (pa_cons (pv 4) pa_nil)) pe_int)) (nomark _))
          (pss_one (ps_ret pe_bl))
          pss_nil)
        (pss_one (ps_for PassesOwn.never rfl (pi_tup (pv 6)) (pg_name (i := 8) sc_l_syllables_right.nd rfl (.inl rfl))
          (pss_cons (ps_if (PW.pt (pw_or (pt_cmpR op_isnot_bl (pe_call (ok_is_value T) (hr.mono (by decide)) (by rfl) T.g_is_value T.f_is_value.kp (b_is_value T) .nil pass0 (pa_cons (pv 8) pa_nil)) pe_bl (nomark _)) (pw_or1 (pt_cmpR op_ne (pe_op op_add_str (pe_call (ok_consonant_of T) (hr.mono (by decide)) (by rfl) T.g_consonant_of T.f_consonant_of.kp (b_consonant_of T) .nil passL (pa_cons (pv 8) pa_nil)) (pe_callN0 (ok_vowel_of T) (hr.mono (by decide)) (by rfl) T.g_vowel_of T.f_vowel_of.kp (kb_vowel_of_value_0 T) passL (pk_cons (pv 8) pk_nil))) (pv 8) (nomark _)))))
            (pss_one (ps_ret pe_bl))
            pss_nil)
          (pss_one (ps_if (PW.pt (pw_or (pt_cmpR op_notIn_seq (pe_call (ok_vowel_of T) (hr.mono (by decide)) (by rfl) T.g_vowel_of T.f_vowel_of.kp (b_vowel_of T) .nil passL (pa_cons (pv 8) pa_nil)) (pe_callTy (call_listStr rfl) (by rfl) T.n_list (by decide +kernel) (pa_cons pe_str pa_nil)) (by rfl)) (pw_or1 (pt_cmpR op_in_seq (pe_callN0 (ok_consonant_of T) (hr.mono (by decide)) (by rfl) T.g_consonant_of T.f_consonant_of.kp (kb_consonant_of_value_0 T) passL (pk_cons (pv 8) pk_nil)) (pe_callTy (call_listStr rfl) (by rfl) T.n_list (by decide +kernel) (pa_cons pe_str pa_nil)) (by rfl)))))
            (pss_one (ps_ret pe_bl))
            pss_nil)))))))))
      (pss_one (ps_ret (pe_and (pe_cmpR op_is_bl (pe_call (ok_is_heard T) (hr.mono (by decide)) (by rfl) T.g_is_heard T.f_is_heard.kp (b_is_heard T) .nil pass0 (pa_cons (pv 0) pa_nil)) pe_bl (nomark _)) (pe_one (pe_cmpR op_eq (pe_callB call_len (by rfl) T.n_len boot_len (pa_cons (pv 4) pa_nil)) (pe_op op_sub (pe_callB call_len (by rfl) T.n_len boot_len (pa_cons (pe_call (ok_syllables T) (hr.mono (by decide)) (by rfl) T.g_syllables T.f_syllables.kp (b_syllables T) .nil passL (pa_cons (pv 0) (pa_cons pe_str pa_nil))) pa_nil)) (pe_callB call_len (by rfl) T.n_len boot_len (pa_cons (pe_call (ok_syllables T) (hr.mono (by decide)) (by rfl) T.g_syllables T.f_syllables.kp (b_syllables T) .nil passL (pa_cons (pv 0) (pa_cons pe_str pa_nil))) pa_nil))) (nomark _))))))))), ?_⟩
    -- slots: [(0, '_law_heard_here'), (1, '_law_vowels'), (2, '_law_at'), (3, '_law_letter'), (4, '_law_shut'), (5, '_law_way'), (6, '_law_told'), (7, '_law_due'), (8, '_law_syllable')]
    obtain ⟨z, rfl, hz, k⟩ := h
    have hz12 := heard_len hz
    have zsz : z.cps.size ≤ 12 := hz12
    have inV_ : ∀ {d : Nat} {H2 : Hp}, RV (fun x y H Q => ∃ (c : Nat) (z : Str), x = .str ⟨#[c]⟩ ∧ y = .str z ∧ Q (.bl (decide (c ∈ z.cps.toList))) H) (.str ⟨#[d]⟩) (.str "aeiou") H2 (.bl (vow d)) := fun H1 e Q q => ⟨_, vowels, rfl, rfl, q H1 (Ex.refl H1)⟩
    have ninV_ : ∀ {d : Nat} {H2 : Hp}, RV (fun x y H Q => ∃ (c : Nat) (z : Str), x = .str ⟨#[c]⟩ ∧ y = .str z ∧ Q (.bl (!decide (c ∈ z.cps.toList))) H) (.str ⟨#[d]⟩) (.str "aeiou") H2 (.bl (!vow d)) := fun H1 e Q q => ⟨_, vowels, rfl, rfl, q H1 (Ex.refl H1)⟩
    have gd : ∀ {m c : Nat}, z.cps.toList[m]? = some c → z.cps.toList.getD m 0 = c := fun h => by rw [List.getD_eq_getElem?_getD, h]; rfl
    refine q_asgL (el_lcEnS (fun i => vow (z.cps.toList.getD i 0)) (fun i => .int (i : Nat)) rfl rfl (by omega) (fun _ _ => rfl) (fun m c H1 e hm hc => ?_) (fun m c H1 e hm hc _ => ev_var rfl)) fun l1 H1 n1 e1 h1 => ?_
    · show EvT _ _ _ (vow (z.cps.toList.getD m 0))
      rw [gd hc]
      exact et_test (ev_op (ev_var rfl) ev_c inV_)
    have h1 : H1 l1 = some (.lst ((vowI z.cps.toList).map fun i => V.int (i : Nat))) := h1
    refine q_asgL (el_lcEnS (shutB z.cps.toList) (fun i => .int (i : Nat)) rfl rfl (by omega) (fun _ _ => rfl) (fun m c H1 e hm hc => ?_) (fun m c H1 e hm hc _ => ev_var rfl)) fun l2 H2 n2 e2 h2 => ?_
    · unfold shutB
      rw [gd hc]
      refine et_and (et_test (ev_op (ev_var rfl) ev_c ninV_)) fun _ => et_and (et_test (ev_is (ev_op (x := .int ((m + 1 : Nat) : Int)) (ev_op (ev_var rfl) ev_c rv_I0) (ev_var rfl) (rv_niL (SqL.of (e _ _ h1)) rfl (flat_nats _))) (by rw [inV_nats]))) fun _ => et_and (et_test (ev_is (ev_ne_nil (ev_var rfl) (SqL.of (e _ _ h1))) (congrArg V.bl (decide_eq_decide.mpr (by simp))))) fun hne => et_test (ev_is (ev_op (ev_var rfl) (ev_op (ev_var rfl) (ev_neg ev_c) (rv_ixL (SqL.of (e _ _ h1)) (last_at (of_decide_eq_true hne)))) rv_I0) (congrArg V.bl (decide_eq_decide.mpr (by omega))))
    have h2 : H2 l2 = some (.lst ((shutI z.cps.toList).map fun i => V.int (i : Nat))) := h2
    have h1 := e2 _ _ h1
    have e02 := e1.trans e2
    have lens : ∀ nx, (sylF z nx).length = (vowI z.cps.toList).length + (if nx then (shutI z.cps.toList).length else 0) := sylF_len z
    refine q_forNU (eu_tup (ea_cons ev_c (ea_cons ev_c ea_nil)) (by show 2 ≤ 100000; decide)) (fun p i σ' H' => (∃ u2 u3 u5 u6 u7 u8, σ' = [some (.str z), some (.ref l1), u2, u3, some (.ref l2), u5, u6, u7, u8]) ∧ Ex H2 H' ∧ H' p = some (.tup [.str "drop", .str "next"])) (fun p H3 np e3 h3 => ⟨⟨_, _, _, _, _, _, rfl⟩, e3, h3⟩) (fun p i σ' H' _ pv => SqT.of pv.2.2) ?_ ?_
    · rintro p i x σ' H3 hx ⟨⟨u2, u3, u5, u6, u7, u8, rfl⟩, e3, h3⟩
      obtain ⟨wy, rfl, hw⟩ : ∃ wy : Str, x = .str wy ∧ (wy = "drop" ∨ wy = "next") := by
        match i, hx with
        | 0, hx => exact ⟨_, (Option.some.inj hx).symm, .inl rfl⟩
        | 1, hx => exact ⟨_, (Option.some.inj hx).symm, .inr rfl⟩
        | _ + 2, hx => cases hx
      have sl := sylF_all (nx := decide (wy = "next")) hz
      have sle : (sylF z (decide (wy = "next"))).length ≤ 12 := Nat.le_trans (sylN_len _ _ _) hz12
      have hwl : wy.length ≤ 12 := by rcases hw with rfl | rfl <;> decide
      have hwv := way_ok hw
      have hzv : heardV (.str z) = true := hz
      refine ⟨_, rfl, _, rfl, _, _, rfl, eok_s hz12, eok_s hwl, (fun h => by cases hzv.symm.trans h), fun _ => ⟨(fun h => by cases hwv.symm.trans h), fun _ z' ez a H4 e4 n4 h4 => ?_⟩⟩
      obtain rfl := V.str.inj ez
      rw [way_dec] at h4
      refine ⟨_, rfl, _, rfl, z, wy, rfl, (by omega), fun b H5 e5 n5 h5 => ⟨_, _, rfl, ?_⟩⟩
      have h4 := e5 _ _ h4
      rw [← sylF_eq] at h5
      obtain ⟨bs, eq1, eq2⟩ := eqvs_texts (sylF z (decide (wy = "next")))
      have e25 := (e3.trans e4).trans e5
      refine q_when (b := false) (et_is (et_or (a := false) (b := false) (et_is (et_not (et_B (ev_cb (ea_cons (ev_var rfl) (ea_cons ev_c ea_nil)) (rc_isi (kd_tup h4) (by decide))))) (by decide)) fun _ => et_or (a := false) (b := false) (et_test (ev_is (ev_opL1 (el_copy (ev_var rfl) (.inr (SqT.of h4))) (fun _ _ => ev_var rfl) fun q H6 hq e6 H7 e7 Q k => ⟨q, b, _, _, true, rfl, rfl, SqL.of (e7 _ _ hq), SqL.of (e7 _ _ (e6 _ _ h5)), .inr ⟨bs, eq1, eq2.symm⟩, k H7 (Ex.refl H7)⟩) rfl)) fun _ => et_test (ev_opU1 (eu_callN0 (ws := [.str wy, .str z]) (ea_cons (ev_var rfl) (ea_cons (ev_var rfl) ea_nil)) rfl (syl_SpU hz hw)) (fun _ _ => ev_var rfl) fun q H6 hq e6 H7 e7 Q k => ⟨q, a, _, _, bs, rfl, rfl, SqT.of (e7 _ _ hq), SqT.of (e7 _ _ (e6 _ _ h4)), eq1, by rw [eq2]; exact k H7 (Ex.refl H7)⟩)) rfl) (fun z => nomatch z) fun _ H6 e6 => ?_
      refine q_when (b := false) (et_test (ev_is (ev_op (ev_lenQ (ev_var rfl) (.inr (SqT.of (e6 _ _ h4)))) (ev_op (ev_lenQ (ev_var rfl) (.inl (SqL.of (e6 _ _ (e25 _ _ h1))))) (ev_if (b := decide (wy = "next")) (v := .int ((if decide (wy = "next") then (shutI z.cps.toList).length else 0 : Nat) : Int)) (et_test (ev_is (ev_op (ev_var rfl) ev_c (rv_eq rfl)) (congrArg V.bl (way_dec wy)))) (fun hb => by rw [if_pos hb]; exact ev_is (ev_lenQ (ev_var rfl) (.inl (SqL.of (e6 _ _ (e25 _ _ h2))))) (by rw [List.length_map])) (fun hb => by rw [if_neg (by rw [hb]; decide)]; exact ev_c)) rv_I0) (rv_ne rfl)) (by rw [List.length_map, List.length_map, lens]; simp))) (fun z => nomatch z) fun _ H7 e7 => ?_
      have h4b := e7 _ _ (e6 _ _ h4)
      refine s_forT (ev_var rfl) (SqT.of h4b) (fun j σ' H' => (∃ u8, σ' = [some (.str z), some (.ref l1), u2, u3, some (.ref l2), some (.str wy), some (.ref a), some (.ref b), u8]) ∧ Ex H7 H') (fun H8 e8 => ⟨⟨_, rfl⟩, e8⟩) (fun j σ' H' _ pv => SqT.of (pv.2 _ _ h4b)) ?_ ?_
      · rintro j x σ' H8 hx ⟨⟨u8, rfl⟩, e8⟩
        obtain ⟨s, hs, rfl⟩ : ∃ s, s ∈ sylF z (decide (wy = "next")) ∧ x = .str s := by
          obtain ⟨s, hs, e⟩ := List.mem_map.mp (List.mem_of_getElem? hx)
          exact ⟨s, hs, e.symm⟩
        obtain ⟨f1, f2, ⟨v, f3, f3v⟩, f4, f5, f6⟩ := (sl s hs).facts
        refine q_when (b := false) (et_is (et_or (a := false) (b := false) (et_test (ev_is (ev_op (ev_call (ea_cons (ev_var rfl) ea_nil) (z := .bl true) fun H9 e9 Q q E => ⟨_, rfl, eok_s (by omega), by rw [show valueV (.str s) = valueB s from rfl, f1]; exact q⟩) ev_c fun H9 _ Q q => ⟨true, rfl, q H9 (Ex.refl H9)⟩) (by simp))) fun _ => et_test (ev_is (ev_op (ev_op (z := .str (butLast s ++ lastOf s)) (ev_call (ea_cons (ev_var rfl) ea_nil) (cons_SpV f1)) (ev_callN0 (ws := [.str s]) (ea_cons (ev_var rfl) ea_nil) rfl (vow_SpV f1)) fun H9 _ Q q => ⟨_, _, rfl, rfl, sz_of (by rw [f3]; show (butLast s).length + 1 ≤ 100000; omega), q H9 (Ex.refl H9)⟩) (ev_var rfl) (rv_ne rfl)) (by rw [f2]; simp))) rfl) (fun z => nomatch z) fun _ H9 e9 => ?_
        refine s_when (b := false) (et_is (et_or (a := false) (b := false) (et_test (ev_is (ev_opL (ev_call (ea_cons (ev_var rfl) ea_nil) (vow_SpV f1)) el_vows fun p H10 hp _ => rv_niL (SqL.of hp) rfl flat_vows) (by rw [f3, in_vow f3v]; rfl))) fun _ => et_test (ev_is (ev_opL (ev_callN0 (ws := [.str s]) (ea_cons (ev_var rfl) ea_nil) rfl (cons_SpV f1)) el_vows fun p H10 hp _ => rv_isL (SqL.of hp) rfl flat_vows) (by rw [nin_vow f4]))) rfl) (fun z => nomatch z) fun _ H10 e10 => ⟨⟨_, rfl⟩, (e8.trans e9).trans e10⟩
      · rintro σ' H8 ⟨⟨u8, rfl⟩, e8⟩
        exact ⟨⟨_, _, _, _, _, _, rfl⟩, ((e25.trans e6).trans e7).trans e8, e8 _ _ (e7 _ _ (e6 _ _ (e5 _ _ (e4 _ _ h3))))⟩
    · rintro p σ' H3 ⟨⟨u2, u3, u5, u6, u7, u8, rfl⟩, e3, h3⟩
      refine s_ret (v := .bl true) (ev_is (ev_andV (a := true) (b := true) (ev_is (ev_op (ev_call (ea_cons (ev_var rfl) ea_nil) (z := .bl true) fun H9 e9 Q q E => ⟨_, rfl, eok_s hz12, by rw [show heardV (.str z) = heardB z from rfl, hz]; exact q⟩) ev_c fun H9 _ Q q => ⟨true, rfl, q H9 (Ex.refl H9)⟩) (by simp)) fun _ => ev_is (ev_op (ev_lenQ (ev_var rfl) (.inl (SqL.of (e3 _ _ h2)))) (ev_op (ev_lenNU (eu_call (ea_cons (ev_var rfl) (ea_cons ev_c ea_nil)) (syl_SpU hz (.inr rfl)))) (ev_lenNU (eu_call (ea_cons (ev_var rfl) (ea_cons ev_c ea_nil)) (syl_SpU hz (.inl rfl)))) rv_I0) (rv_eq rfl)) ?_) rfl) fun H4 e4 => k H4 ((e02.trans e3).trans e4)
      rw [List.length_map, List.length_map, List.length_map, lens, lens]
      have : (decide (("next" : Str) = "next")) = true := by decide
      rw [this, show (decide (("drop" : Str) = "next")) = false by decide]
      simp only [if_true, Bool.false_eq_true, if_false]
      refine congrArg V.bl (decide_eq_true ?_)
      exact congrArg V.int (by omega)
end
end K57
set_option Elab.async false
set_option linter.all false
set_option maxRecDepth 100000
set_option maxHeartbeats 4000000
set_option autoImplicit false
/-! letters exchanged in a heard word are exchanged in its syllables. -/
namespace K57
open PySem
theorem ex_vow {a b : Nat} (h : (vow a == vow b) = true) (c : Nat) : vow (exC a b c) = vow c := by
  have h := eq_of_beq h
  unfold exC
  split
  · next e => rw [h, e]
  · split
    · next e => rw [← h, e]
    · rfl
theorem ex_back (a b c : Nat) : exC b a (exC a b c) = c := by
  unfold exC
  by_cases h1 : c = b
  · rw [if_pos h1, if_pos rfl, h1]
  · rw [if_neg h1]
    by_cases h2 : c = a
    · rw [if_pos h2]
      by_cases h3 : b = a
      · rw [if_pos h3, h2, h3]
      · rw [if_neg h3, if_pos rfl, h2]
    · rw [if_neg h2, if_neg h2, if_neg h1]
theorem exF_back (z : Str) (a b : Nat) : exF (exF z a b) b a = z := by
  refine Str.ext' ?_
  show ((z.cps.toList.map (exC a b)).toArray.toList.map (exC b a)).toArray = z.cps
  rw [List.toList_toArray, List.map_map]
  have e : (exC b a ∘ exC a b) = id := funext fun c => ex_back a b c
  rw [e, List.map_id]
theorem exF_list (z : Str) (a b : Nat) : (exF z a b).cps.toList = z.cps.toList.map (exC a b) := List.toList_toArray
theorem exF_heard {z : Str} {a b : Nat} (hz : heardB z = true) (ha : a ∈ letters.cps.toList) (hb : b ∈ letters.cps.toList) : heardB (exF z a b) = true := by
  have nz : (exF z a b).length = z.length := by
    have e1 : (exF z a b).length = (exF z a b).cps.toList.length := (Array.length_toList).symm
    have e2 : z.length = z.cps.toList.length := (Array.length_toList).symm
    rw [e1, exF_list, List.length_map, e2]
  unfold heardB at hz ⊢
  rw [nz]
  obtain ⟨h1, h2⟩ := Bool.and_eq_true_iff.mp hz
  rw [h1, Bool.true_and, exF_list, List.all_map]
  refine List.all_eq_true.mpr fun c hc => ?_
  have hc2 := List.all_eq_true.mp h2 c hc
  show decide (exC a b c ∈ _) = true
  unfold exC
  split
  · exact decide_eq_true ha
  · split
    · exact decide_eq_true hb
    · exact hc2
theorem let_pos {c : Nat} (h : c ∈ letters.cps.toList) : c ≠ 0 := fun e => by
  rw [e] at h
  revert h
  decide +kernel
theorem at0_map (f : Nat → Nat) (h0 : f 0 = 0) (cs : List Nat) (i : Nat) : at0 (cs.map f) i = f (at0 cs i) := by
  unfold at0
  rw [List.getD_eq_getElem?_getD, List.getD_eq_getElem?_getD, List.getElem?_map]
  cases cs[i]? with
  | none => exact h0.symm
  | some c => rfl
theorem exF_at {cs : List Nat} {nx : Bool} {a b i : Nat} (h : (vow a == vow b) = true) (h0 : exC a b 0 = 0) : sylAt (cs.map (exC a b)) nx i = (sylAt cs nx i).map (exF · a b) := by
  have hf : ((cs.map (exC a b)).drop (i + 1)).filter vow = ((cs.drop (i + 1)).filter vow).map (exC a b) := by
    rw [← List.map_drop, List.filter_map]
    congr 1
    refine List.filter_congr fun c _ => ?_
    exact ex_vow h c
  unfold sylAt
  rw [at0_map _ h0, at0_map _ h0, at0_map _ h0, ex_vow h, ex_vow h, ex_vow h, hf]
  cases vow (at0 cs i) with
  | true =>
    rw [if_pos rfl, if_pos rfl]
    show some _ = some _
    congr 1
    cases (decide (0 < i) && !vow (at0 cs (i - 1))) <;> rfl
  | false =>
    simp only [Bool.false_eq_true, if_false]
    cases nx with
    | false => rfl
    | true =>
      simp only [if_true]
      cases (cs.drop (i + 1)).filter vow with
      | nil => rfl
      | cons v r =>
        show (if vow (at0 cs (i + 1)) = true then none else some _) = Option.map _ (if vow (at0 cs (i + 1)) = true then none else some _)
        cases vow (at0 cs (i + 1)) <;> rfl
theorem exF_syl {z : Str} {nx : Bool} {a b : Nat} (h : (vow a == vow b) = true) (ha : a ∈ letters.cps.toList) (hb : b ∈ letters.cps.toList) : sylF (exF z a b) nx = (sylF z nx).map (exF · a b) := by
  have h0 : exC a b 0 = 0 := by
    unfold exC
    rw [if_neg (fun e => let_pos hb e.symm), if_neg (fun e => let_pos ha e.symm)]
  unfold sylF sylN
  rw [exF_list, List.length_map]
  generalize List.range z.cps.toList.length = l
  rw [List.map_filterMap]
  refine congrArg (fun f => l.filterMap f) (funext fun i => exF_at h h0)
/-- texts all of whose signs are letters of one sort -/
def SortS (t : Str) : Prop := ∃ v : Bool, ∀ c ∈ t.cps.toList, vow c = v ∧ c ∈ letters.cps.toList
end K57
set_option Elab.async false
set_option linter.all false
set_option maxRecDepth 100000
set_option maxHeartbeats 4000000
set_option autoImplicit false
namespace K57
open PySem PySem.Spec PyProof.Rows L2 He Evl TL
def spExR (K : PySem.W.Frag) : Sp := fun vs H Q _ => ∃ (p c : Addr) (z : Str) (n : Nat), vs = [.ref p, .str z] ∧ heardB z = true ∧ PenAt K n H p c ∧ n ≤ 80000 ∧ ∀ H', Off p H H' → PenAt K (n + 3) H' p c → Q (.bl true) H'
section
variable {K : PySem.W.Frag} {H : Hp}
theorem one_let {a : Nat} (h : a ∈ letters.cps.toList) : letterV (.str ⟨#[a]⟩) = true := by
  show (decide ((1 : Nat) ≤ 1) && decide ((1 : Nat) ≤ 12) && ([a].all fun c => decide (c ∈ letters.cps.toList)) && decide ((1 : Nat) = 1)) = true
  simp [show a ∈ letters.cps by simpa using h]
theorem exch_SpV {z : Str} {a b : Nat} (hz : heardB z = true) (ha : a ∈ letters.cps.toList) (hb : b ∈ letters.cps.toList) (hv : (vow a == vow b) = true) : SpV (spExch K) [.str z, .str ⟨#[a]⟩, .str ⟨#[b]⟩] H (.str (exF z a b)) := fun H1 e Q q E => by
  have h1 : heardV (.str z) = true := hz
  have h2 := one_let ha
  have h3 := one_let hb
  refine ⟨_, _, _, rfl, eok_s (heard_len hz), eok_s (by show 1 ≤ 12; decide), eok_s (by show 1 ≤ 12; decide), ⟨(fun h => by cases h1.symm.trans h), fun _ => ⟨(fun h => by cases h2.symm.trans h), fun _ => ⟨(fun h => by cases h3.symm.trans h), fun _ => ?_⟩⟩⟩⟩
  intro z' a' b' e1 e2 e3
  have e1 := V.str.inj e1
  have e2 : a = a' := (str1_eq _ _).mp e2
  have e3 : b = b' := (str1_eq _ _).mp e3
  subst e1 e2 e3
  exact ⟨(fun h => by cases hv.symm.trans h), fun _ => q⟩
theorem put_SpV {z : Str} {a b : Nat} (hz : z.length ≤ 1000) : SpV (spPut K) [.str z, .str ⟨#[a]⟩, .str ⟨#[b]⟩] H (.str (exF z a b)) := fun H1 e Q q E => ⟨z, a, b, rfl, hz, q⟩
def exV (a b : Nat) : V → V
  | .str s => .str (exF s a b)
  | v => v
end
section
variable {P : Program} {w : World} {K : PySem.W.Frag} {mg : Str → Option Value} {base : Heap}
theorem b_l_exchanged_right (T : Tx K mg) : Binds K (fdOf K ("_law_exchanged_right", none)) ["_law_ear_here", "_law_heard_here"] [] := T.f_l_exchanged_right.bindsN fun _ _ _ _ _ _ us hl => match us, hl with | [_, _], _ => rfl
theorem ok_l_exchanged_right (T : Tx K mg) : FnOk P w K mg base CX0 6 (ga K "_law_exchanged_right") (fdOf K ("_law_exchanged_right", none)) ["_law_ear_here", "_law_heard_here"] (spExR K) := by
  refine T.f_l_exchanged_right.ok sc_l_exchanged_right (fun vs H Q E h => ?_) (fun cdv A outer s H vs Q E hr h => ?_)
  · obtain ⟨p, c, z, n, rfl, _⟩ := h
    rfl
  · have hu : (A.deeper (envOfC "_law_exchanged_right" (defScope s_l_exchanged_right) s.heap.objs.size (ga K "_law_exchanged_right") cdv)).units < cLine := by have := hr.units; omega
    refine ⟨_, PSs.nox (pss_cons (ps_set (i := 2) sc_l_exchanged_right.nd rfl (.inl rfl) (pe_call (ok_l_one T) (hr.mono (by decide)) (by rfl) T.g_l_one T.f_l_one.kp (b_l_one T) .nil pass0 (pa_cons (pv 0) (pa_cons (pe_lst (pa_cons pe_str (pa_cons pe_str (pa_cons (pe_op op_add_str (pe_join pe_str (pe_lc (own := [("_law_letter", 3)]) (g := (gName 3))  rfl sc_l_exchanged_right.nd (pi_str (pv 1)) (blkOk_by (N := ["_law_ear_here", "_law_heard_here", "_law_some", "_law_letter", "_law_one_here", "_law_other", "_law_turned", "_law_way", "_law_syllable"]) (sc := defScope s_l_exchanged_right) (by decide +kernel)) (fun _ _ _ _ _ => pg_name (i := 3) sc_l_exchanged_right.nd rfl (Or.inl rfl)) (fun _ _ _ _ _ => pts_one (pt_cmpR op_notIn_sign (pv 3) pe_str (by rfl))) (fun _ _ _ _ _ => (pv 3)))) pe_str) pa_nil)))) pa_nil))))
      (pss_cons (ps_asg (pe_tup (pa_cons (pe_call (ok_l_one T) (hr.mono (by decide)) (by rfl) T.g_l_one T.f_l_one.kp (b_l_one T) .nil pass0 (pa_cons (pv 0) (pa_cons (pv 2) pa_nil))) (pa_cons (pe_call (ok_l_one T) (hr.mono (by decide)) (by rfl) T.g_l_one T.f_l_one.kp (b_l_one T) .nil pass0 (pa_cons (pv 0) (pa_cons (pv 2) pa_nil))) pa_nil))) (pg_tup rfl (pgs_cons (pg_name (i := 4) sc_l_exchanged_right.nd rfl (.inr rfl)) (pgs_cons (pg_name (i := 5) sc_l_exchanged_right.nd rfl (.inr rfl)) pgs_nil))))
      (pss_cons (ps_set (i := 6) sc_l_exchanged_right.nd rfl (.inl rfl) (pe_call (ok_exchanged T) (hr.mono (by decide)) (by rfl) T.g_exchanged T.f_exchanged.kp (b_exchanged T) .nil passL (pa_cons (pv 1) (pa_cons (pv 4) (pa_cons (pv 5) pa_nil)))))
      (pss_cons (ps_if (PW.pt (pw_or (pt_cmpR op_ne (pv 6) (pe_call (ok_l_put T) (hr.mono (by decide)) (by rfl) T.g_l_put T.f_l_put.kp (b_l_put T) .nil pass0 (pa_cons (pv 1) (pa_cons (pv 4) (pa_cons (pv 5) pa_nil)))) (nomark _)) (pw_or1 (pt_cmpR op_ne (pe_callN0 (ok_exchanged T) (hr.mono (by decide)) (by rfl) T.g_exchanged T.f_exchanged.kp (kb_exchanged_other_one_heard_0 T) passL (pk_cons (pv 4) (pk_cons (pv 5) (pk_cons (pv 6) pk_nil)))) (pv 1) (nomark _)))))
        (pss_one (ps_ret pe_bl))
        pss_nil)
      (pss_cons (ps_for PassesOwn.never rfl (pi_tup (pe_glob (v := .ref (ga K "WAYS")) (by rfl) T.g_WAYS rfl)) (pg_name (i := 7) sc_l_exchanged_right.nd rfl (.inl rfl))
        (pss_one (ps_if (pt_cmpR (op_neU2 hu) (pe_call (ok_syllables T) (hr.mono (by decide)) (by rfl) T.g_syllables T.f_syllables.kp (b_syllables T) .nil passL (pa_cons (pv 6) (pa_cons (pv 7) pa_nil))) (pe_callTy call_tuple_of (by rfl) T.n_tuple (by decide +kernel) (pa_cons (pe_lc (own := [("_law_syllable", 8)]) (g := (gName 8)) (tt := tYes) rfl sc_l_exchanged_right.nd (pi_tup (pe_call (ok_syllables T) (hr.mono (by decide)) (by rfl) T.g_syllables T.f_syllables.kp (b_syllables T) .nil passL (pa_cons (pv 1) (pa_cons (pv 7) pa_nil)))) (blkOk_by (N := ["_law_ear_here", "_law_heard_here", "_law_some", "_law_letter", "_law_one_here", "_law_other", "_law_turned", "_law_way", "_law_syllable"]) (sc := defScope s_l_exchanged_right) (by decide +kernel)) (fun _ _ _ _ _ => pg_name (i := 8) sc_l_exchanged_right.nd rfl (Or.inl rfl)) (fun _ _ _ _ _ => pts_nil) (fun _ _ _ _ _ => (pe_call (ok_l_put T) (hr.mono (by decide)) (by rfl) T.g_l_put T.f_l_put.kp (b_l_put T) .nil pass0 (pa_cons (pv 8) (pa_cons (pv 4) (pa_cons (pv 5) pa_nil)))))) pa_nil)) (nomark _))
          (pss_one (ps_ret pe_bl))
          pss_nil)))
      (pss_one (ps_ret pe_bl))))))), ?_⟩
    -- slots: [(0, '_law_ear_here'), (1, '_law_heard_here'), (2, '_law_some'), (3, '_law_letter'), (4, '_law_one_here'), (5, '_law_other'), (6, '_law_turned'), (7, '_law_way'), (8, '_law_syllable')]
    obtain ⟨p, c, z, n, rfl, hz, hP, hn, k⟩ := h
    have hz12 := heard_len hz
    have hzv : heardV (.str z) = true := hz
    have hzl : ∀ d ∈ z.cps.toList, d ∈ letters.cps.toList := fun d hd => by
      unfold heardB at hz
      exact of_decide_eq_true (List.all_eq_true.mp (Bool.and_eq_true_iff.mp hz).2 d hd)
    have nz : z.length = z.cps.toList.length := (Array.length_toList).symm
    have ninV_ : ∀ {d : Nat} {H2 : Hp}, RV (fun x y H Q => ∃ (c : Nat) (z : Str), x = .str ⟨#[c]⟩ ∧ y = .str z ∧ Q (.bl (!decide (c ∈ z.cps.toList))) H) (.str ⟨#[d]⟩) (.str "aeiou") H2 (.bl (!vow d)) := fun H1 e Q q => ⟨_, vowels, rfl, rfl, q H1 (Ex.refl H1)⟩
    -- the consonants of the heard word
    let cs := z.cps.toList.filter fun c => !vow c
    have csl : cs.length ≤ 12 := Nat.le_trans (List.length_filter_le _ _) (by omega)
    have cj : (Txt.join "" (cs.map fun c => (⟨#[id c]⟩ : Str))).cps.toList = cs := by
      rw [join_eq]
      show tl (Str.join "" _) = _
      rw [tl_join, List.map_map]
      exact (joinL_one id cs).trans (List.map_id cs)
    have cjl : (Txt.join "" (cs.map fun c => (⟨#[id c]⟩ : Str))).length = cs.length := by
      have e : (Txt.join "" (cs.map fun c => (⟨#[id c]⟩ : Str))).length = (Txt.join "" (cs.map fun c => (⟨#[id c]⟩ : Str))).cps.toList.length := (Array.length_toList).symm
      rw [e, cj]
    refine q_asgD (one_texts ["aeiou", "knstmdbcpz", Txt.join "" (cs.map fun c => (⟨#[id c]⟩ : Str)) ++ "kr"] (ev_var rfl) (ea_cons ev_c (ea_cons ev_c (ea_cons (ev_op (ev_join ev_c (ys := cs.map fun c => (⟨#[id c]⟩ : Str)) ?_ ?_) ev_c fun H1 e Q q => ⟨_, _, rfl, rfl, sz_of (n := _ + 2) (by rw [cjl]; omega), q H1 (Ex.refl H1)⟩) ea_nil))) hP (by omega) ⟨by show 0 < 3; decide, by show 3 ≤ 1000; decide⟩ fun t H1 ht off1 pen1 => ?_)
    · rw [List.map_map]
      exact el_lcStrT (fun c => !vow c) (fun c => .str ⟨#[c]⟩) (ev_var rfl) (by omega) (fun _ => rfl) (fun c H1 e hc => et_test (ev_op (ev_var rfl) ev_c ninV_)) (fun c H1 e hc _ => ev_var rfl)
    · rw [sum_one id]
      show cs.length + _ * 0 ≤ 16777216
      omega
    obtain ⟨⟨vv, hs⟩, t0, t1⟩ : SortS t ∧ 0 < t.cps.toList.length ∧ t.cps.toList.length ≤ 1000 := by
      simp only [List.mem_cons, List.not_mem_nil, or_false] at ht
      rcases ht with rfl | rfl | rfl
      · exact ⟨⟨true, by decide +kernel⟩, by decide +kernel, by decide +kernel⟩
      · exact ⟨⟨false, by decide +kernel⟩, by decide +kernel, by decide +kernel⟩
      · have e : (Txt.join "" (cs.map fun c => (⟨#[id c]⟩ : Str)) ++ "kr" : Str).cps.toList = cs ++ [107, 114] := by
          show ((Txt.join "" (cs.map fun c => (⟨#[id c]⟩ : Str))).cps ++ ("kr" : Str).cps).toList = _
          rw [Array.toList_append, cj]
          congr 1
        rw [e]
        refine ⟨⟨false, fun c hc => ?_⟩, by rw [List.length_append]; show 0 < cs.length + 2; omega, by rw [List.length_append]; show cs.length + 2 ≤ 1000; omega⟩
        rw [e] at hc
        rcases List.mem_append.mp hc with h | h
        · obtain ⟨h1, h2⟩ := List.mem_filter.mp h
          exact ⟨by revert h2; cases vow c <;> simp, hzl c h1⟩
        · have z0 : ∀ c ∈ ([107, 114] : List Nat), vow c = false ∧ c ∈ letters.cps.toList := by decide +kernel
          exact z0 c h
    refine ⟨_, rfl, _, rfl, p, c, .str t, n + 1, rfl, pen1, by omega, .inr ⟨t, rfl, t0, t1, fun a H2 ha off2 pen2 => ⟨_, rfl, _, rfl, p, c, .str t, n + 2, rfl, pen2, by omega, .inr ⟨t, rfl, t0, t1, fun b H3 hb off3 pen3 => ?_⟩⟩⟩⟩
    obtain ⟨a1, a2⟩ := hs a ha
    obtain ⟨b1, b2⟩ := hs b hb
    have hv : (vow a == vow b) = true := by rw [a1, b1]; simp
    have ofA := (off1.trans off2).trans off3
    refine ⟨by show 2 ≤ sizeLine; decide, fun pt npt => ⟨pt, _, rfl, SqT.of upd_same, rfl, _, _, rfl, _, _, rfl, rfl, ?_⟩⟩
    have e4 := Ex.new (o := .tup [.str ⟨#[a]⟩, .str ⟨#[b]⟩]) npt
    have lsy : ∀ nx s, s ∈ sylF z nx → s.length ≤ 2 := fun nx s hs => ((sylF_all hz s hs).facts).2.2.2.2.1
    refine q_asg (v := .str (exF z a b)) (ev_call (ea_cons (ev_var rfl) (ea_cons (ev_var rfl) (ea_cons (ev_var rfl) ea_nil))) (exch_SpV hz a2 b2 hv)) fun H5 e5 => ?_
    refine q_when (b := false) (et_is (et_or (a := false) (b := false) (et_test (ev_is (ev_op (ev_var rfl) (ev_call (ea_cons (ev_var rfl) (ea_cons (ev_var rfl) (ea_cons (ev_var rfl) ea_nil))) (put_SpV (show z.length ≤ 1000 by omega))) (rv_ne rfl)) (by simp))) fun _ => et_test (ev_is (ev_op (ev_callN0 (ws := [.str ⟨#[a]⟩, .str ⟨#[b]⟩, .str (exF z a b)]) (ea_cons (ev_var rfl) (ea_cons (ev_var rfl) (ea_cons (ev_var rfl) ea_nil))) rfl (exch_SpV (exF_heard hz a2 b2) b2 a2 (by rw [a1, b1]; simp))) (ev_var rfl) (rv_ne rfl)) (by rw [exF_back]; simp))) rfl) (fun z => nomatch z) fun _ H6 e6 => ?_
    refine q_forT ev_c (tupB_ok T.t_WAYS H6) (fun i σ' H' => (∃ u3 u7 u8, σ' = [some (.ref p), some (.str z), some (.str t), u3, some (.str ⟨#[a]⟩), some (.str ⟨#[b]⟩), some (.str (exF z a b)), u7, u8]) ∧ Ex H6 H') (fun H7 e7 => ⟨⟨_, _, _, rfl⟩, e7⟩) (fun i σ' H' _ _ => tupB_ok T.t_WAYS H') ?_ ?_
    · rintro i x σ' H7 hx ⟨⟨u3, u7, u8, rfl⟩, e7⟩
      obtain ⟨wy, rfl, hw⟩ : ∃ wy : Str, x = .str wy ∧ (wy = "drop" ∨ wy = "next") := by
        match i, hx with
        | 0, hx => exact ⟨_, (Option.some.inj hx).symm, .inl rfl⟩
        | 1, hx => exact ⟨_, (Option.some.inj hx).symm, .inr rfl⟩
        | _ + 2, hx => cases hx
      have el : EvL (tLc (iTup K (tCall (spSyl K) [] E0 (tCons (tVar 1) (tCons (tVar 7) tNil)))) (gName 8) tYes (tCall (spPut K) [] E0 (tCons (tVar 8) (tCons (tVar 4) (tCons (tVar 5) tNil)))) [8]) [some (.ref p), some (.str z), some (.str t), u3, some (.str ⟨#[a]⟩), some (.str ⟨#[b]⟩), some (.str (exF z a b)), some (.str wy), u8] H7 ((sylF (exF z a b) (decide (wy = "next"))).map V.str) := by
        have em : (sylF (exF z a b) (decide (wy = "next"))).map V.str = ((sylF z (decide (wy = "next"))).map V.str).map (exV a b) := by
          rw [exF_syl hv a2 b2, List.map_map, List.map_map]
          rfl
        rw [em]
        refine el_lcNU (exV a b) (eu_call (ea_cons (ev_var rfl) (ea_cons (ev_var rfl) ea_nil)) (syl_SpU hz hw)) (by rw [List.length_map]; have := sylN_len z.cps.toList (decide (wy = "next")) z.cps.toList.length; show (sylN _ _ _).length ≤ 40000; omega) (fun _ => rfl) fun x H1 e hx => ?_
        obtain ⟨s, hs, rfl⟩ := List.mem_map.mp hx
        exact ev_call (ea_cons (ev_var rfl) (ea_cons (ev_var rfl) (ea_cons (ev_var rfl) ea_nil))) (put_SpV (by have := lsy _ s hs; omega))
      obtain ⟨bs, eq1, eq2⟩ := eqvs_texts (sylF (exF z a b) (decide (wy = "next")))
      refine s_when (b := false) (et_test (ev_opUU (eu_call (ea_cons (ev_var rfl) (ea_cons (ev_var rfl) ea_nil)) (syl_SpU (exF_heard hz a2 b2) hw)) (eu_tupL el) fun q1 q2 H1 h1 h2 e H2 e2 Q k => ⟨q1, q2, _, _, bs, rfl, rfl, SqT.of (e2 _ _ h1), SqT.of (e2 _ _ h2), eq1, by rw [eq2]; exact k H2 (Ex.refl H2)⟩)) (fun z => nomatch z) fun _ H8 e8 => ⟨⟨_, _, _, rfl⟩, e7.trans e8⟩
    · rintro σ' H7 ⟨⟨u3, u7, u8, rfl⟩, e7⟩
      refine s_ret ev_c fun H8 e8 => ?_
      have e38 := ((((e4.trans e5).trans e6).trans e7).trans e8)
      exact k H8 (ofA.trans (Off.of e38)) (pen3.ex e38)
end
end K57
set_option Elab.async false
set_option linter.all false
set_option maxRecDepth 100000
set_option maxHeartbeats 4000000
set_option autoImplicit false
/-! Lambdas without parameters that are kept (in a list, say) and called later by a def that is handed one. -/
namespace Lam
open PySem PySem.Spec PyProof.Rows L2 LamX NdefX
/-- a lambda that was made: its words, the cells that it holds, its code object -/
structure LD where
  qual : Str
  params : Arguments
  body : Expr
  scope : Scope
  cl : List (Str × Addr)
  c : Addr
abbrev LD.fd (D : LD) (pm ctv : Value) : FuncData := PySem.W.kla_fn "<lambda>" D.qual D.params D.body D.scope D.cl pm (.ref D.c) ctv
/-- the object at f is this lambda -/
def LamO (f : Addr) (D : LD) : HO := .ext fun h => ∃ (u : Option Addr) (sl : Array (Option Value)) (pm ctv : Value), h.get? f = some (⟨.type "function", u, .func (D.fd pm ctv), sl⟩ : Obj)
theorem lamO_tbl {f : Addr} {D : LD} (ps : Array Value) : LamO f D ≠ .tbl ps := fun z => by
  unfold LamO at z
  cases z
theorem lamO_at {P : Program} {w : World} {H : Hp} {h : Heap} {f : Addr} {D : LD} (hk : HOk P w H h) (e : H f = some (LamO f D)) : ∃ (u : Option Addr) (sl : Array (Option Value)) (pm ctv : Value), h.get? f = some (⟨.type "function", u, .func (D.fd pm ctv), sl⟩ : Obj) := (hk f _ e).1
theorem lamO_fnAt {P : Program} {w : World} {H : Hp} {h : Heap} {f : Addr} {D : LD} (hk : HOk P w H h) (e : H f = some (LamO f D)) : PySem.W.FnAt f h :=
  let ⟨_, sl, _, _, z⟩ := lamO_at hk e
  ⟨_, _, _, sl, z⟩
section
variable {X : Cx} {pins : List (Addr × Obj)} {σ : L2.St} {H : Hp} {s : Shared}
/-- the function object of a lambda is laid behind all others, and known -/
theorem inv_lam {D : LD} {g : Heap} {t u : Nat} {pm ctv : Value} (J : Inv X pins σ H { s with heap := g, toks := t }) :
    Inv X pins σ (upd H g.objs.size (LamO g.objs.size D)) { s with heap := g.push { cls := .type "function", data := .func (D.fd pm ctv) }, toks := u } := by
  have at_ : (g.push ({ cls := .type "function", data := .func (D.fd pm ctv) } : Obj)).get? g.objs.size = some ⟨.type "function", none, .func (D.fd pm ctv), #[]⟩ := Heap.get?_push_size _ rfl
  exact Inv.laid (s := { s with heap := g, toks := t }) J (fun b o z => Heap.get?_push_of_some _ z) (Nat.le_refl g.objs.size)
    ⟨⟨none, #[], pm, ctv, at_⟩, ⟨_, at_⟩, fun h1 h2 ⟨u1, u2, u3, u4, z⟩ keep => ⟨u1, u2, u3, u4, keep _ z⟩⟩
/-- what the lambda leaves: itself and its code object known, all else but tables as it was -/
structure Made (T : List (Addr × Str)) (H : Hp) (f : Addr) (D : LD) (H' : Hp) : Prop where
  ext : ExtN H H'
  back : ∀ b, H' b = none → H b = none
  tabs : Tabs T H'
  new : H f = none
  fn : H' f = some (LamO f D)
  code : H' D.c = some (CodeO D.c D.qual)
def tLamM (T : List (Addr × Str)) (mk : Addr → LD) : TE := fun _ H Q => Tabs T H ∧ ∀ (f c' : Addr) (H' : Hp), Made T H f (mk c') H' → Q (.ref f) H'
theorem upd_tbl {H : Hp} {P a : Addr} {ps : Array Value} {o : HO} (hP : H P = some (.tbl ps)) (n : H a = none) : ∀ b u, H b = some u → (∀ q, u ≠ .tbl q) → ∀ o', upd (upd H P o') a o b = some u := fun b u e k o' => by
  rw [upd_ne (ne_of_none e n), upd_ne (fun z => by rw [z, hP] at e; exact k ps (Option.some.inj e).symm)]
  exact e
theorem pe_lam {T : List (Addr × Str)} {q : Str} {c P : Addr} {params : Arguments} {body : Expr} {scope : Scope} {pos : Pos} (B : TabB X.base X.mg c P) (hc : X.env.code = .ref c) (hq : q = X.env.qual ++ "<lambda>") (hm : (P, q) ∈ T) (one : ∀ p ∈ T, p.1 = P → p.2 = q)
    (S : LamS X.env.scope scope) (hd : defaultsOf params X.env = ([], [])) : PE X (.Lambda params body scope pos) (tLamM T fun c' => ⟨q, params, body, scope, cloFrom X.env.cells scope.names [], c'⟩) := by
  subst hq
  refine ⟨fun pins s σ H Q I ⟨hT, k⟩ => PySem.W.kla_eval hd ?_⟩
  obtain ⟨ps, tP, tOk, among⟩ := hT _ hm
  have cl_ := closure_ok (S.has I.ok)
  have gl_ := I.mod.glob.keeps I.bk
  have cd_ := B.code.keeps I.bk
  have hP_ : s.heap.get? P = some { cls := .none, data := .fields ps } := I.hok P _ tP
  have bm_ : s.heap.BuiltinsAt X.mg P := B.bm.keeps I.bk
  have done : ∀ (g : Heap) (t u : Nat) (ctv : Value) (c' : Addr) (H1 : Hp), Inv X pins σ H1 { s with heap := g, toks := t } → ExtN H H1 → (∀ b, H1 b = none → H b = none) → Tabs T H1 → H1 c' = some (CodeO c' (X.env.qual ++ "<lambda>")) → c' ≠ g.objs.size →
      EP X pins σ Q (.ref g.objs.size) { s with heap := g.push (PySem.W.kla_obj "<lambda>" (X.env.qual ++ "<lambda>") params body scope (cloFrom X.env.cells scope.names []) ((X.mg "__name__").getD .none) c' ctv), toks := u } := by
    intro g t u ctv c' H1 J eN nn T1 hco ne
    have fr : H1 g.objs.size = none := J.hok.fresh (Nat.le_refl _)
    have up : ∀ b o, H1 b = some o → upd H1 g.objs.size (LamO g.objs.size ⟨X.env.qual ++ "<lambda>", params, body, scope, cloFrom X.env.cells scope.names [], c'⟩) b = some o := fun b o e => by
      rw [upd_ne (ne_of_none e fr)]
      exact e
    refine ⟨.ref g.objs.size, _, inv_lam (D := ⟨X.env.qual ++ "<lambda>", params, body, scope, cloFrom X.env.cells scope.names [], c'⟩) (u := u) (pm := (X.mg "__name__").getD .none) (ctv := ctv) J, rfl, k _ c' _ ⟨fun b o e n => up b o (eN b o e n), fun b e => nn b (upd_none e), T1.ext up, nn _ fr, upd_same, up _ _ hco⟩⟩
  cases seen : codeAmong pos ps.toList with
  | some cv =>
    obtain ⟨c', rfl, hco⟩ := among pos cv seen
    refine PySem.W.kla_makeFunctionHit (mg := X.mg) (c := c) (P := P) (ps := ps) cl_ I.ok.glob gl_ hc cd_ hP_ tOk seen bm_ fun ctv g tk keep sz => ?_
    have J : Inv X pins σ H { s with heap := g, toks := tk } := I.kept keep
    exact done g tk tk ctv c' H J (ExtN.refl H) (fun _ e => e) hT hco (fun z => by
      have l := J.hok.fresh (Nat.le_refl g.objs.size)
      rw [← z, hco] at l
      cases l)
  | none =>
    refine PySem.W.kla_makeFunction (mg := X.mg) (c := c) (P := P) (ps := ps) cl_ I.ok.glob gl_ hc cd_ hP_ tOk seen B.gP bm_ fun c' ctv g tk keep lo hi rec_ tb_ => ?_
    obtain ⟨_, oc, vs, tt, ec, o1, o2, o3⟩ := rec_
    cases ec
    have nC : H c' = none := I.hok.fresh lo
    have J := inv_table (t' := tk) (more := #[rawInt pos.line, rawInt pos.col, .ref c']) (h' := g) I tP (fun b o nb e => keep b o nb e) tb_ lo ⟨oc, vs, tt, o1, o2, o3⟩
    have eN : ExtN H (upd (upd H P (.tbl (ps ++ #[rawInt pos.line, rawInt pos.col, .ref c']))) c' (CodeO c' (X.env.qual ++ "<lambda>"))) := fun b u e n => upd_tbl tP nC b u e n _
    have ls : (ps ++ #[rawInt pos.line, rawInt pos.col, .ref c']).toList = ps.toList ++ [rawInt pos.line, rawInt pos.col, .ref c'] := by simp
    refine done g tk tk ctv c' _ J eN (fun b e => upd_none (upd_none e)) (fun p hp => ?_) upd_same (Nat.ne_of_lt hi)
    by_cases at_ : p.1 = P
    · rw [one p hp at_, at_]
      refine ⟨_, (upd_ne (ne_of_none tP nC)).trans upd_same, by rw [ls]; exact TriplesOk_snoc _ _ _ _ tOk, fun p2 v2 h2 => ?_⟩
      rw [ls] at h2
      rcases among_app _ tOk h2 with z | z
      · obtain ⟨c0, e1, e2⟩ := among p2 v2 z
        exact ⟨c0, e1, eN _ _ e2 codeO_ne⟩
      · exact ⟨c', z, upd_same⟩
    · obtain ⟨pz, a1, a2, a3⟩ := hT p hp
      refine ⟨pz, (upd_ne (ne_of_none a1 nC)).trans ((upd_ne at_).trans a1), a2, fun p2 v2 h2 => ?_⟩
      obtain ⟨c0, e1, e2⟩ := a3 p2 v2 h2
      exact ⟨c0, e1, eN _ _ e2 codeO_ne⟩
end
end Lam
set_option Elab.async false
set_option linter.all false
set_option maxRecDepth 100000
set_option maxHeartbeats 4000000
set_option autoImplicit false
/-! Lambdas: what a call of one promises; a call of one by a def that was handed it. -/
namespace Lam
open PySem PySem.Spec PyProof.Rows L2 LamX NdefX
/-- the words of a lambda, as those of a def that was made within -/
abbrev LD.nf (D : LD) : NF := ⟨"<lambda>", D.qual, D.params, [], D.scope, D.cl, D.c⟩
/-- what a lambda's call wants: what its cells hold, the heap, the answer's wish, the exception's -/
abbrev LSp := List (Option V) → Hp → VK → XK → Prop
/-- the promise of the lambda D at f -/
def LamOk (CX : CXT) (P : Program) (w : World) (K : PySem.W.Frag) (mg : Str → Option Value) (base : Heap) (k : Nat) (f : Addr) (D : LD) (fr : List Str) (sp : LSp) : Prop :=
  ∀ (A : Around) (outer : List Env) (s : Shared) (H : Hp) (ws : List (Option V)) (Q : VK) (E : XK), Room k A → Env0 P w K mg base A outer s H → H f = some (LamO f D) → H D.c = some (CodeO D.c D.qual) → CellsAt D.cl fr ws s.heap H → sp ws H Q E →
    codeAny (model P w) A (.call (.ref f) ⟨[], []⟩) (CR CX outer P w H s Q E) s
section
variable {CX : CXT} {P : Program} {w : World} {K : PySem.W.Frag} {mg : Str → Option Value} {base : Heap} {N fr : List Str} {D : LD} {f : Addr} {k j : Nat} {sp : LSp}
theorem LamOk.mono (o : LamOk CX P w K mg base j f D fr sp) (h : j ≤ k) : LamOk CX P w K mg base k f D fr sp := fun A outer s H ws Q E hr => o A outer s H ws Q E (hr.mono h)
theorem lamOk_of (S : NScope N [] fr D.scope) (hb : ∀ pm ctv : Value, bindArgs (D.fd pm ctv) ⟨[], []⟩ = pure [])
    (body : ∀ (A : Around) (outer : List Env) (s : Shared) (H : Hp) (ws : List (Option V)) (Q : VK) (E : XK), Room k (A.deeper (envF D.nf f s.heap.objs.size)) → ws.length = fr.length → sp ws H Q E →
      ∃ t, PE (ncx CX P w K mg base N D.nf f A outer s H E) D.body t ∧ t (startF N [] ws) H Q) : LamOk CX P w K mg base (k + 1) f D fr sp := by
  intro A outer s H ws Q E hr e0 hf hc C want
  obtain ⟨u, sl, pm, ctv, at_⟩ := lamO_at e0.hok hf
  have free_ : s.heap.NoLimit := e0.mod.nolimit.keeps fun b o e => (e0.bs b o e).1
  refine PySem.W.kla_callFunE hr.depth at_ rfl S.co S.gen rfl (codeO_at e0.hok hc) ?_
  rw [hb pm ctv]
  refine wpAny_pure (wpAny_newFunctionEnv S.nocell (fun y hy => absurd hy List.not_mem_nil) (fun g ns sb => ⟨free_.fresh _ sb, ?_⟩) S.kind)
  show codeAny _ _ (.expr D.body (envF D.nf f s.heap.objs.size)) _ _
  have kept : ∀ b o, s.heap.get? b = some o → g.get? b = some o := fun b o e => sb.extBut b o (Nat.ne_of_lt (Heap.lt_size e)) (Heap.get?_push_of_some _ e)
  obtain ⟨t, pe, ht⟩ := body A outer s H ws Q E (hr.deeper _) C.len want
  have J : Inv (ncx CX P w K mg base N D.nf f A outer s H E) [] (startF N [] ws) H { s with heap := g, toks := s.toks + ([] : List (Str × Value)).length } :=
    inv_startN (F := D.nf) (ps := []) (us := []) (vs := []) S hr.hd e0 rfl .nil C ns kept
  exact PySem.W.kla_codeExpr (wpAny_mono (pe.run [] _ _ H Q J ht) (fun v s' ⟨y, H', J', rv, q⟩ => ⟨y, H', J'.os, J'.bare, J'.base, J'.hok, rv, q⟩) fun e s' z => z)
end
/-- what cells hold stays while all that is untracked stays -/
theorem cells_un {fs ex : List Addr} {H H' : Hp} {h h' : Heap} {cl : List (Str × Addr)} {fr : List Str} {ws : List (Option V)} (C : CellsAt cl fr ws h H) (u : Un fs ex H H' h h') (out : ∀ y c, cl.lookup y = some c → c ∉ ex) : CellsAt cl fr ws h' H' where
  len := C.len
  inj := C.inj
  all := fun y c e => by
    obtain ⟨n, v, o, e1, e2⟩ := C.all y c e
    obtain ⟨sl, z⟩ := u.any e1 n (out y c e)
    exact ⟨u.free c o e1 n (out y c e), v, _, z, e2⟩
  has := fun i y e => by
    obtain ⟨c, hc, hv⟩ := C.has i y e
    refine ⟨c, hc, fun v ev => ?_⟩
    obtain ⟨x, r, o, e1, e2⟩ := hv v ev
    obtain ⟨sl, z⟩ := u.any e1 (C.all y c hc).1 (out y c hc)
    exact ⟨x, r, _, z, e2⟩
/-- f may be called in all states that come of (s, H) by defs that run behind the frames fs -/
def ActAt (CX : CXT) (P : Program) (w : World) (K : PySem.W.Frag) (mg : Str → Option Value) (base : Heap) (k : Nat) (fs : List Addr) (s : Shared) (H : Hp) (f : Addr) (tl : XK → Hp → VK → Prop) : Prop :=
  ∀ (A : Around) (outer : List Env) (s' : Shared) (H' : Hp) (Q : VK) (E : XK), Room k A → Env0 P w K mg base A outer s' H' → Un fs [] H H' s.heap s'.heap → tl E H' Q → codeAny (model P w) A (.call (.ref f) ⟨[], []⟩) (CR CX outer P w H' s' Q E) s'
/-- what a lambda's call reads -/
def tlOf (f : Addr) (D : LD) (ws : List (Option V)) (sp : LSp) : XK → Hp → VK → Prop := fun E H Q => H f = some (LamO f D) ∧ H D.c = some (CodeO D.c D.qual) ∧ sp ws H Q E
theorem act_of {CX : CXT} {P : Program} {w : World} {K : PySem.W.Frag} {mg : Str → Option Value} {base : Heap} {k : Nat} {fs : List Addr} {s : Shared} {H : Hp} {f : Addr} {D : LD} {fr : List Str} {ws : List (Option V)} {sp : LSp}
    (o : LamOk CX P w K mg base k f D fr sp) (C : CellsAt D.cl fr ws s.heap H) : ActAt CX P w K mg base k fs s H f (tlOf f D ws sp) :=
  fun A outer s' H' Q E hr e0 u ⟨h1, h2, h3⟩ => o A outer s' H' ws Q E hr e0 h1 h2 (cells_un C u fun _ _ _ => List.not_mem_nil) h3
section
variable {X : Cx} {CX : CXT} {k i : Nat} {f : Addr} {E : XK} {tl : XK → Hp → VK → Prop} {x : Str} {p pos : Pos}
/-- x(), x a name that holds f -/
theorem pe_act0 (hex : X.ex = []) (act : ActAt CX X.prog X.w X.K X.mg X.base k X.fs X.s_0 X.H_0 f tl) (hr : Room k X.A) (hx : Passes CX X E) (hN : X.N[i]? = some x) (hv : Vis X.env.scope x)
    (hd : (x == ("__debug__" : Str)) = false := by decide) (hcd : (x == ("__classdict__" : Str)) = false := by decide) :
    PE X (.Call (.Name x p) [] [] pos) (fun σ H Q => σ[i]? = some (some (.ref f)) ∧ (∃ D, H f = some (LamO f D)) ∧ tl E H Q) := by
  refine ⟨fun pins s σ H Q I ⟨hs, ⟨D, hf⟩, want⟩ => ?_⟩
  refine wpAny_Call_Name_kw (thn ((pe_var (pos := p) hN hv hd hcd).run pins s σ H (fun v H1 => v = .ref f ∧ H1 = H) I ⟨.ref f, hs, rfl, rfl⟩) fun u s1 ⟨v, H1, J, r, ev, eH⟩ => ?_)
  subst ev eH
  obtain rfl : u = Value.ref f := r
  refine PySem.W.callWith_F0 (first := []) (lamO_fnAt J.hok hf) (wpAny_call (codeAny_mono (act X.A X.stack s1 H1 Q E hr J.env0 (hex ▸ J.base) want) fun r s2 z => ?_))
  cases r with
  | error e => exact hx pins σ H1 s1 e s2 J z
  | ok fl =>
    cases fl with
    | ret u => exact J.after z
    | next => exact z.elim
    | brk => exact z.elim
    | cont => exact z.elim
end
end Lam
set_option Elab.async false
set_option linter.all false
set_option maxRecDepth 100000
set_option maxHeartbeats 4000000
set_option autoImplicit false
/-! A list comprehension whose test or element leans on what the cells of the def around hold: the block's rules may ask the state in which the block began. -/
namespace Lam
open PySem PySem.Spec PyProof.Rows L2 LamX NdefX
/-- the block began at (s, H), which the def around left in order; fp: the iterator's objects -/
structure From (X : Cx) (pins : List (Addr × Obj)) (σ : L2.St) (fp : List Addr) (s : Shared) (H : Hp) : Prop where
  inv : Inv X pins σ H s
  off : ∀ b ∈ fp, FpOk X pins H b
/-- in such a block the cells of the def around hold what they held -/
theorem From.cells {X : Cx} {pins pins' : List (Addr × Obj)} {σ σ' : L2.St} {fp : List Addr} {s s' : Shared} {H H' : Hp} {scope : Scope} {env : Env} {cl : List (Str × Addr)} {fr : List Str} {js : List Nat} (F : From X pins σ fp s H) (c : Caps X cl fr js)
    (J : Inv (X.blk s H scope env fp) pins' σ' H' s') : CellsAt cl fr (js.map (slotAt σ)) s'.heap H' :=
  cells_un (cells_of F.inv c) J.base fun y a e hx => (F.off a hx).2.2.2.2.1 y a (c.sub y a e) rfl
section
variable {X : Cx} {elt tg iter : Expr} {ifs : List Expr} {scope : Scope} {own : List (Str × Nat)} {wi : TI} {g : TG} {tt : TT} {te : TE}
/-- rules of the block, for the state in which it begins -/
abbrev BlkI (X : Cx) (pins : List (Addr × Obj)) (σ : L2.St) (scope : Scope) (R : Cx → Prop) : Prop :=
  ∀ (s : Shared) (H : Hp) (C : Addr) (cl : List (Str × Addr)) (fp : List Addr), From X pins σ fp s H → R (X.blk s H scope (compEnvC scope cl C X.env) fp)
theorem lcI_run {pins : List (Addr × Obj)} {s : Shared} {σ : L2.St} {H : Hp} {Q : VK} {pos at_ : Pos} {use : Option (Value → Sem Unit)} {G : Value → Shared → Prop} (calm : X.calm = true) (nd : X.N.Nodup) (I : Inv X pins σ H s) (walk : PI X tg iter wi) (blk : BlkOk X.N X.env.scope scope own)
    (rg : BlkI X pins σ scope fun Z => PG Z tg g) (rt : BlkI X pins σ scope fun Z => PTs Z ifs tt) (re : BlkI X pins σ scope fun Z => PE Z elt te) (nofold : ∀ x, foldedSetIterable iter X.env x = pure x) (want : tLc wi g tt te (own.map (·.2)) σ H Q)
    (leave : ∀ D C z m K, Inv X pins σ K z → Q (.ref D) K → z.heap.Ns C m → FpOk X pins K C → compPost (model X.prog X.w) X.A X.xe use G (.ref D) C (.ok .next) z) :
    wpAny (model X.prog X.w) X.A (comprehension (.ListComp elt [⟨tg, iter, ifs, 0⟩] scope pos) scope X.env at_ (newList []) false (eval iter X.env) use) G X.xe s := by
  have caught : ∀ y ∈ scope.names, y.2 = .free → ∃ a, X.env.cells.lookup y.1 = some a := fun y m e =>
    (blk.free y m e).elim (fun k => I.ok.has _ (.inl k)) (fun k => I.ok.has _ (.inr k))
  refine wpAny_comprehension_free (use := use) rfl nofold (closure_ok caught) blk.kind (fun y m e => (blk.uniq y m).trans (congrArg some e))
    (thn (walk.run pins s σ H _ I want) fun v z1 c1 => thn c1 fun u z2 ⟨it, fp, tn, J, K2, eu, I2, T, t2, off2, want2⟩ => ?_)
  subst eu
  refine wpAny_newObj_type (newEnv_comp ?_) (by show 0 ≤ sizeLine; decide)
  obtain ⟨D, eD⟩ : ∃ D, D = z2.heap.objs.size := ⟨_, rfl⟩
  rw [← eD]
  have nD : K2 D = none := I2.hok.fresh (Nat.le_of_eq eD.symm)
  obtain ⟨W, ⟨m0, w0⟩, turn⟩ := want2 D nD
  obtain ⟨z3, e3⟩ : ∃ z3 : Shared, z3 = { z2 with heap := z2.heap.push { cls := .type "list", data := .seq ([] : List Value).toArray } } := ⟨_, rfl⟩
  rw [← e3]
  have up3 : ∀ b o, z2.heap.get? b = some o → z3.heap.get? b = some o := fun b o e => by
    rw [e3]
    exact Heap.get?_push_of_some _ e
  have I3 : Inv X pins σ (upd K2 D (.lst [])) z3 := by
    subst e3 eD
    exact Inv.laid (t' := z2.toks) I2 (fun b o e => Heap.get?_push_of_some _ e) (Nat.le_refl _) ⟨Nat.zero_le _, [], 0, .nil, Heap.get?_push_size _ rfl⟩
  have young : ∀ b ∈ fp, b < z2.heap.objs.size := fun b m => let ⟨_, e, _⟩ := T.obj _ _ t2 b m; Heap.lt_size e
  have off3 : ∀ b ∈ fp, FpOk X pins (upd K2 D (.lst [])) b ∧ b < z3.heap.objs.size := fun b m => by
    have l := young b m
    refine ⟨⟨(upd_ne (by rw [eD]; exact Nat.ne_of_lt l)).trans (off2 b m).1, (off2 b m).2⟩, ?_⟩
    rw [e3]
    show b < (z2.heap.push _).objs.size
    rw [Heap.size_push]
    exact Nat.lt_succ_of_lt l
  have t3 : tn 0 z3.heap := T.keep _ _ _ t2 fun b _ o e => up3 b o e
  have J4 := block_start I3 blk nd off3
  have start : From X pins σ fp z3 (upd K2 D (.lst [])) := ⟨I3, fun b m => (off3 b m).1⟩
  have pg := rg z3 (upd K2 D (.lst [])) z3.heap.objs.size (cellsFrom (z3.heap.objs.size + 1) scope.names (cloFrom X.env.cells scope.names [])) fp start
  have pt := rt z3 (upd K2 D (.lst [])) z3.heap.objs.size (cellsFrom (z3.heap.objs.size + 1) scope.names (cloFrom X.env.cells scope.names [])) fp start
  have pe := re z3 (upd K2 D (.lst [])) z3.heap.objs.size (cellsFrom (z3.heap.objs.size + 1) scope.names (cloFrom X.env.cells scope.names [])) fp start
  show codeAny _ _ (.compStart (.ListComp elt [⟨tg, iter, ifs, 0⟩] scope pos) 0 (.ref it) (.ref D) (compEnvC scope (cellsFrom (z3.heap.objs.size + 1) scope.names (cloFrom X.env.cells scope.names [])) z3.heap.objs.size X.env))
    (compPost (model X.prog X.w) X.A X.xe use G (.ref D) z3.heap.objs.size) { z3 with heap := pushCells (z3.heap.push { cls := .type "dict", data := .dict #[] }) scope.names }
  have here : (compEnvC scope (cellsFrom (z3.heap.objs.size + 1) scope.names (cloFrom X.env.cells scope.names [])) z3.heap.objs.size X.env).locals = z3.heap.objs.size := rfl
  generalize compEnvC scope (cellsFrom (z3.heap.objs.size + 1) scope.names (cloFrom X.env.cells scope.names [])) z3.heap.objs.size X.env = ce at J4 pg pt pe here ⊢
  have nfp : ∀ b ∈ fp, upd K2 D (.lst []) b = none := fun b m => (off3 b m).1.1
  generalize upd K2 D (.lst []) = K3 at I3 J4 pg pt pe w0 nfp off3
  obtain ⟨z4, e4⟩ : ∃ z4 : Shared, z4 = { z3 with heap := pushCells (z3.heap.push { cls := .type "dict", data := .dict #[] }) scope.names } := ⟨_, rfl⟩
  rw [← e4] at J4 ⊢
  have t4 : tn 0 z4.heap := T.keep _ _ _ t3 fun b _ o e => by
    rw [e4]
    exact pushCells_keeps _ _ _ _ (Heap.get?_push_of_some _ e)
  have stat : ∀ {ρ : L2.St} {K : Hp} {z : Shared}, Inv (X.blk z3 K3 scope ce fp) [] ρ K z → (∀ b ∈ fp, K b = none) → ∀ b ∈ fp, FpOk (X.blk z3 K3 scope ce fp) [] K b := fun {ρ K z} J' n b m =>
    ⟨n b m, (J'.ok.exf b m).1, J'.ok.exfs b m, .inl m, fun y c e => (J'.ok.exf b m).2 y c e, fun p hp => by cases hp⟩
  refine codeAny_compStart_list ?_ (T.self X.A 0 _ _ _ t4 ?_)
  all_goals
    refine compLoop_any (fun n z => ∃ i K, Inv (X.blk z3 K3 scope ce fp) [] (wipe σ (own.map (·.2))) K z ∧ tn i z.heap ∧ (∀ b ∈ fp, K b = none) ∧ W i n K) ?_ m0 ⟨0, K3, J4, t4, nfp, w0⟩
    rintro n z5 ⟨i, K5, J5, t5, n5, w5⟩
    rcases turn i n K5 w5 with ⟨halt, done⟩ | ⟨goes, Nx, less, step⟩
    · refine thnF (T.done (X.blk z3 K3 scope ce fp) rfl rfl rfl calm i [] z5 _ K5 (fun _ _ => False) J5 (stat J5 n5) t5 halt) fun r z6 ⟨er, J6⟩ => ?_
      subst er
      have I7 : Inv X pins σ K5 z6 := Inv.call' (ch := fp) I3 J6.os J6.base J6.hok J6.bare fun b m =>
        let ⟨_, o1, _, o3, o4, o5⟩ := (off3 b m).1
        ⟨o3, o1, o4, o5⟩
      obtain ⟨m, ns, _⟩ := J6.loc
      have ns : z6.heap.Ns ce.locals m := ns
      have nC : K5 ce.locals = none := J6.free
      rw [here] at ns nC
      exact leave D z3.heap.objs.size z6 m K5 I7 done ns (I3.fpOk (Nat.le_refl _) nC)
    · refine thnF (T.item (X.blk z3 K3 scope ce fp) rfl rfl rfl calm i [] z5 _ K5 (fun _ _ => False) J5 (stat J5 n5) t5 goes) fun r z6 ⟨u, er, c6⟩ => ?_
      subst er
      refine thnF c6 fun _ z7 ⟨x, K7, J7, rx, y7, t7, n7⟩ => ?_
      refine thnF (pg.run _ z7 _ K7 x u _ (J7.pinned (stat J7 n7) (T.obj _ _ t7)) rx (step x K7 y7)) fun _ z8 ⟨ρ, K8, J8, eρ, q8⟩ => ?_
      have fin : ∀ {z : Shared} {K : Hp}, Inv (X.blk z3 K3 scope ce fp) ([] ++ pinsAt fp z7.heap) ρ K z → Nx K → ∃ m, m < n ∧ ∃ i K, Inv (X.blk z3 K3 scope ce fp) [] (wipe σ (own.map (·.2))) K z ∧ tn i z.heap ∧ (∀ b ∈ fp, K b = none) ∧ W i m K := by
        intro z K J' nx
        obtain ⟨m', lt, w'⟩ := less K nx
        have stays : ∀ b ∈ fp, ∀ o, z7.heap.get? b = some o → z.heap.get? b = some o ∧ K b = none := fun b hb o e =>
          let ⟨p1, p2, _⟩ := J'.pin (b, o) (List.mem_append_right _ (List.mem_append_right _ (mem_pinsAt hb e)))
          ⟨p1, p2⟩
        refine ⟨m', lt, i + 1, K, (J'.unpinned (pins := [])).weak ?_ (fun j v e => ?_), T.keep _ _ _ t7 fun b hb o e => (stays b hb o e).1, fun b hb => ?_, w'⟩
        · rw [← eρ, wipe_length]
        · rw [← eρ] at e
          exact (wipe_some e).1
        · obtain ⟨o, e, _⟩ := T.obj _ _ t7 b hb
          exact (stays b hb o e).2
      refine thnF (pt.run _ z8 ρ K8 _ J8 q8) fun b z9 ⟨K9, J9, q9⟩ => ?_
      cases b with
      | true =>
        simp only [if_true] at q9 ⊢
        refine thnF (pe.run _ z9 ρ K9 _ J9 q9) fun y z10 ⟨yv, K10, J10, ry, acc, eL, room, nx⟩ => ?_
        exact app_ok (X := X.blk z3 K3 scope ce fp) J10 eL room ry fun z11 J11 => fin J11 nx
      | false =>
        simp only [Bool.false_eq_true, if_false] at q9 ⊢
        exact fin J9 q9
end
end Lam
set_option Elab.async false
set_option linter.all false
set_option maxRecDepth 100000
set_option maxHeartbeats 4000000
set_option autoImplicit false
/-! A def that calls what it is handed; such a def called in a comprehension's block. -/
namespace Lam
open PySem PySem.Spec PyProof.Rows L2 LamX NdefX
/-- the def at g, called with any f that may be called from then on, answers as HT says -/
def Hears (CXl CX : CXT) (P : Program) (w : World) (K : PySem.W.Frag) (mg : Str → Option Value) (base : Heap) (k j : Nat) (g : Addr) (HT : (XK → Hp → VK → Prop) → Hp → VK → Prop) : Prop :=
  ∀ (A : Around) (outer : List Env) (s : Shared) (H : Hp) (f : Addr) (D : LD) (tl : XK → Hp → VK → Prop) (Q : VK) (E : XK), Room j A → Env0 P w K mg base A outer s H → H f = some (LamO f D) → ActAt CXl P w K mg base k (frs outer) s H f tl → HT tl H Q →
    codeAny (model P w) A (.call (.ref g) ⟨[.ref f], []⟩) (CR CX outer P w H s Q E) s
/-- the state itself is told to a def's body -/
theorem runS {CX : CXT} {P : Program} {w : World} {K : PySem.W.Frag} {mg : Str → Option Value} {base : Heap} {k : Nat} {g : Addr} {x qual a : Str} {params : Arguments} {body : List Stmt} {scope : Scope} {fd : FuncData} {N : List Str} (F : FunD K x qual params body scope [] [] g fd)
    (S : FnScope N [a] scope) (b : L2.Binds K fd [a] []) {A : Around} {outer : List Env} {s : Shared} {H : Hp} {f : Addr} {Q : VK} {E : XK} (hr : Room (k + 1) A) (e0 : Env0 P w K mg base A outer s H)
    (run : ∀ cdv, Room k (A.deeper (envOfC qual scope s.heap.objs.size g cdv)) → ∃ t, PSs (cxOf CX P w K mg base N qual scope g cdv A outer s H E) body t ∧ t { nx := fun _ H' => Q .non H', rt := Q } (L2.start N [.ref f]) H) :
    codeAny (model P w) A (.call (.ref g) ⟨[.ref f], []⟩) (CR CX outer P w H s Q E) s := by
  obtain ⟨oc, od, dV, kV, doc, pm, an, cdv, ct, osl, rfl, lk, hcd, _, _⟩ := F.ex
  exact run_ofS (ps := [a]) (us := [.ref f]) (vs := [.ref f]) lk hcd S hr e0 (b s [.ref f] (e0.mod.kin.keeps fun b o e => (e0.bs b o e).1) rfl) (.cons rfl .nil) rfl (run cdv)
section
variable {X : Cx} {CXl CX : CXT} {k j m i : Nat} {g : Addr} {x a : Str} {HT : (XK → Hp → VK → Prop) → Hp → VK → Prop} {scope : Scope} {env : Env} {p1 p2 pos : Pos}
/-- x(a) in a comprehension's block that began at (s, H): a holds a lambda of the def around -/
def tHear (X : Cx) (CXl : CXT) (k i : Nat) (HT : (XK → Hp → VK → Prop) → Hp → VK → Prop) (σ0 : L2.St) : TE := fun σ H Q => ∃ (f : Addr) (D : LD) (fr : List Str) (js : List Nat) (sp : LSp),
  σ[i]? = some (some (.ref f)) ∧ H f = some (LamO f D) ∧ (X.Ok → Caps X D.cl fr js) ∧ LamOk CXl X.prog X.w X.K X.mg X.base k f D fr sp ∧ HT (tlOf f D (js.map (slotAt σ0)) sp) H Q
theorem pe_hear {pins : List (Addr × Obj)} {σ0 : L2.St} {fp : List Addr} {s : Shared} {H : Hp} (F : From X pins σ0 fp s H) (R : Hears CXl CX X.prog X.w X.K X.mg X.base k j g HT) (hr : Room m X.A) (hj : j ≤ m) (hg : Gl (X.blk s H scope env fp) x) (hm : X.mg x = some (.ref g)) (hk : PySem.W.keepIn X.K (.ref g) = true)
    (hx : Passes CX (X.blk s H scope env fp) E0) (hN : X.N[i]? = some a) (hv : Vis env.scope a) (hdb : (x == ("__debug__" : Str)) = false := by decide) (hd : (a == ("__debug__" : Str)) = false := by decide) (hcd : (a == ("__classdict__" : Str)) = false := by decide) :
    PE (X.blk s H scope env fp) (.Call (.Name x p1) [.Name a p2] [] pos) (tHear X CXl k i HT σ0) := by
  refine ⟨fun pins' s1 σ H1 Q J ⟨f, D, fr, js, sp, hs, hf, cp, o, want⟩ => ?_⟩
  refine wpAny_Call_Name_kw (ld_glob J hg hm ?_ hdb)
  refine PySem.W.callWith_K (h₀ := X.base) F.inv.ok.mod.kin hk (thn ((pa_cons (pe_var (X := X.blk s H scope env fp) (pos := p2) hN hv hd hcd) pa_nil).run pos pins' s1 σ H1 (fun vs H2 => vs = [.ref f] ∧ H2 = H1) J ⟨.ref f, hs, rfl, rfl⟩) fun us s2 ⟨vs, H2, J2, r, ev, eH⟩ => ⟨J2.kIn, ?_⟩) (by rfl) (by rfl)
  subst ev eH
  obtain ⟨u, rfl, ru⟩ : ∃ u, us = [u] ∧ L2.RelV (.ref f) u := vals1 r
  obtain rfl : u = Value.ref f := ru
  have act : ActAt CXl X.prog X.w X.K X.mg X.base k (frs X.stack) s2 H2 f (tlOf f D (js.map (slotAt σ0)) sp) := act_of o (F.cells (cp F.inv.ok) J2)
  refine wpAny_call (codeAny_mono (R X.A X.stack s2 H2 f D _ Q E0 (hr.mono hj) J2.env0 hf act want) fun r s3 z => ?_)
  cases r with
  | error e => exact hx pins' σ H2 s2 e s3 J2 z
  | ok fl =>
    cases fl with
    | ret u => exact J2.after z
    | next => exact z.elim
    | brk => exact z.elim
    | cont => exact z.elim
end
/-- the comprehension as a value; its rules may ask the def's slots at its beginning -/
theorem pe_lcI {X : Cx} {elt tg iter : Expr} {ifs : List Expr} {scope : Scope} {own : List (Str × Nat)} {pos : Pos} {wi : TI} {g : TG} {tt : L2.St → TT} {te : L2.St → TE} (calm : X.calm = true) (nd : X.N.Nodup) (walk : PI X tg iter wi) (blk : BlkOk X.N X.env.scope scope own)
    (rg : ∀ pins σ, BlkI X pins σ scope fun Z => PG Z tg g) (rt : ∀ pins σ, BlkI X pins σ scope fun Z => PTs Z ifs (tt σ)) (re : ∀ pins σ, BlkI X pins σ scope fun Z => PE Z elt (te σ)) (nofold : ∀ x, foldedSetIterable iter X.env x = pure x := by intro _; rfl) :
    PE X (.ListComp elt [⟨tg, iter, ifs, 0⟩] scope pos) (fun σ H Q => tLc wi g (tt σ) (te σ) (own.map (·.2)) σ H Q) := by
  refine ⟨fun pins s σ H Q I want => ?_⟩
  rw [eval_ListComp]
  exact lcI_run calm nd I walk blk (rg pins σ) (rt pins σ) (re pins σ) nofold want fun D C z m K J q ns ⟨f0, f1, f2, f3, f4, f5⟩ =>
    ⟨m, ns, fun h2 sb => ⟨.ref D, K, J.turned (t' := z.toks) (fun b o ne e => (sb.2 b ne).trans e) f0 f1 f3 f4 f5, rfl, q⟩⟩
end Lam
set_option Elab.async false
set_option linter.all false
set_option maxRecDepth 100000
set_option maxHeartbeats 4000000
set_option autoImplicit false
/-! What was handed in, called within a try; None asked for own classes of exceptions. -/
namespace Lam
open PySem PySem.Spec PyProof.Rows L2 LamX NdefX
section
variable {X : Cx} {W : WX} {k i : Nat} {f : Addr} {tl : XK → Hp → VK → Prop} {x : Str} {p pos : Pos}
/-- x() in a try's body: what it lets out is the clause's business -/
def tActW (i : Nat) (f : Addr) (tl : XK → Hp → VK → Prop) (W : WX) : TE := fun σ H Q => ∃ Ech : XK, (∀ cls d H', Ech cls d H' → W cls d σ H') ∧ σ[i]? = some (some (.ref f)) ∧ (∃ D, H f = some (LamO f D)) ∧ tl Ech H Q
theorem pe_actW (tk : Takes X W) (hex : X.ex = []) (act : ActAt (L2.CX X.prog X.w) X.prog X.w X.K X.mg X.base k X.fs X.s_0 X.H_0 f tl) (hr : Room k X.A) (hN : X.N[i]? = some x) (hv : Vis X.env.scope x)
    (hd : (x == ("__debug__" : Str)) = false := by decide) (hcd : (x == ("__classdict__" : Str)) = false := by decide) : PE X (.Call (.Name x p) [] [] pos) (tActW i f tl W) := by
  refine ⟨fun pins s σ H Q I ⟨Ech, out, hs, ⟨D, hf⟩, want⟩ => ?_⟩
  refine wpAny_Call_Name_kw (thn ((pe_var (pos := p) hN hv hd hcd).run pins s σ H (fun v H1 => v = .ref f ∧ H1 = H) I ⟨.ref f, hs, rfl, rfl⟩) fun u s1 ⟨v, H1, J, r, ev, eH⟩ => ?_)
  subst ev eH
  obtain rfl : u = Value.ref f := r
  refine PySem.W.callWith_F0 (first := []) (lamO_fnAt J.hok hf) (wpAny_call (codeAny_mono (act X.A X.stack s1 H1 Q Ech hr J.env0 (hex ▸ J.base) want) fun r s2 z => ?_))
  cases r with
  | error e => exact tk e s2 (XE.of_call J out z)
  | ok fl =>
    cases fl with
    | ret u => exact J.after z
    | next => exact z.elim
    | brk => exact z.elim
    | cont => exact z.elim
end
end Lam
namespace He
open PySem PySem.Spec PyProof.Rows L2
theorem kit_nonX {K : PySem.W.Frag} {C : Addr} (T : XCl K C) : PySem.W.kitOne K (.type "NoneType") (.ref C) = some false := by
  unfold PySem.W.kitOne
  rw [if_neg (show ¬ (Value.type "NoneType" == Value.ref C) = true from fun q => nomatch (beq_iff_eq.mp q))]
  unfold PySem.W.kitCls
  show (if ((PySem.W.clsIn K C).isSome && PySem.W.typeIn K (.ref C) == some (.type "type")) = true then PySem.W.subIn K (.type "NoneType") (.ref C) else none) = _
  rw [if_pos (by rw [T.hcl, T.oex.tyC] <;> rfl)]
  show (fastBuiltinMro "NoneType").map (·.contains (.ref C)) = _
  have e : fastBuiltinMro "NoneType" = some [.type "NoneType", .type "object"] := by decide +kernel
  rw [e]
  rfl
/-! ### isinstance of what was caught, or of None -/
section
variable {K : PySem.W.Frag} {xs : List (Str × List Str × List Str)} {x d : Str} {bases fs b2 f2 : List Str} {H : Hp} {σ : L2.St} {te tu : TE} {a : Addr}
theorem exm_exc (h : excsB K xs = true) (mx : (x, bases, fs) ∈ xs) (md : (d, b2, f2) ∈ xs) (hb : ∀ y ∈ bases, y ∈ xs.map (·.1)) (ne : x ≠ d) : PySem.W.exmOne K (.ref (ga K x)) (.ref (ga K d)) = some (decide (d ∈ x :: bases)) := by
  have q := kit_exc h mx md hb
  obtain ⟨T2, _, _⟩ := excsB_cl h md
  unfold PySem.W.kitOne at q
  rw [if_neg (fun z => ne (ga_inj h (List.mem_map.mpr ⟨_, mx, rfl⟩) (List.mem_map.mpr ⟨_, md, rfl⟩) (Value.ref.inj (beq_iff_eq.mp z))))] at q
  unfold PySem.W.exmOne
  rw [if_pos (by rw [T2.oex.exC] <;> rfl)]
  exact q
theorem kitAny_all {t : Value} {f : Value → Bool} : ∀ (us : List Value), (∀ u ∈ us, PySem.W.kitOne K t u = some (f u)) → PySem.W.kitAny K t us = some (us.any f)
  | [], _ => rfl
  | u :: r, h => by
    have h1 := h u List.mem_cons_self
    have h2 := kitAny_all r fun v hv => h v (List.mem_cons_of_mem _ hv)
    unfold PySem.W.kitAny
    rw [h1, List.any_cons]
    cases f u with
    | true => rfl
    | false => exact h2
/-- either rule of isinstance -/
abbrev rIs2 (K : PySem.W.Frag) : List V → Hp → VK → Prop := fun xs H Q => rIsi K xs H Q ∨ rIsK K xs H Q
abbrev rIs2T (K : PySem.W.Frag) : List V → Hp → VK → Prop := fun xs H Q => rIsiT K xs H Q ∨ rIsKT K xs H Q
theorem cls_owns : ∀ ds : List Str, Paired ClsV (ds.map fun d => V.ref (ga K d)) (ds.map fun d => Value.ref (ga K d))
  | [] => .nil
  | _ :: r => .cons (.own _) (cls_owns r)
theorem ev_isN (T : XCl K (ga K d)) (h : Evl.Ev te σ H .non) : Evl.Ev (tCB (rIs2 K) (tCons te (tCons (tC (.ref (ga K d))) tNil))) σ H (.bl false) := fun H1 e Q q =>
  h H1 e _ fun H2 e2 => .inl ⟨.non, _, .type "NoneType", _, false, rfl, .own _, .base .non, kit_nonX T, q H2 e2⟩
theorem ev_isNs {ds : List Str} (T : ∀ d ∈ ds, XCl K (ga K d)) (h : Evl.Ev te σ H .non) (hu : Evl.EvU tu σ H (ds.map fun d => V.ref (ga K d))) : Evl.Ev (tCB (rIs2T K) (tCons te (tCons tu tNil))) σ H (.bl false) := fun H1 e Q q =>
  h H1 e _ fun H2 e2 => hu H2 (e.trans e2) _ fun p H3 _ e3 hp => .inl ⟨.non, p, _, .type "NoneType", _, false, rfl, hp, cls_owns ds, .base .non, by
    rw [kitAny_all (f := fun _ => false) _ fun u hu => by
      obtain ⟨d, hd, rfl⟩ := List.mem_map.mp hu
      exact kit_nonX (T d hd)]
    simp, q H3 (e2.trans e3)⟩
variable {vs : List (Str × V)}
theorem ev_isK (h : excsB K xs = true) (mx : (x, bases, fs) ∈ xs) (md : (d, b2, f2) ∈ xs) (hb : ∀ y ∈ bases, y ∈ xs.map (·.1)) (ha : XKAt H a (ga K x) vs) (he : Evl.Ev te σ H (.ref a)) :
    Evl.Ev (tCB (rIs2 K) (tCons te (tCons (tC (.ref (ga K d))) tNil))) σ H (.bl (decide (d ∈ x :: bases))) := fun H1 e Q q =>
  he H1 e _ fun H2 e2 => .inr ⟨a, ga K x, vs, _, _, _, rfl, (excsB_cl h mx).1, (ha.ex e).ex e2, .own _, kit_exc h mx md hb, q H2 e2⟩
theorem ev_isKs {ds : List Str} (h : excsB K xs = true) (mx : (x, bases, fs) ∈ xs) (md : ∀ d ∈ ds, ∃ b f, (d, b, f) ∈ xs) (hb : ∀ y ∈ bases, y ∈ xs.map (·.1)) (ha : XKAt H a (ga K x) vs) (he : Evl.Ev te σ H (.ref a)) (hu : Evl.EvU tu σ H (ds.map fun d => V.ref (ga K d))) :
    Evl.Ev (tCB (rIs2T K) (tCons te (tCons tu tNil))) σ H (.bl (ds.any fun d => decide (d ∈ x :: bases))) := fun H1 e Q q =>
  he H1 e _ fun H2 e2 => hu H2 (e.trans e2) _ fun p H3 _ e3 hp => .inr ⟨a, ga K x, p, vs, _, _, _, rfl, (excsB_cl h mx).1, ((ha.ex e).ex e2).ex e3, hp, cls_owns ds, by
    have step : ∀ l : List Str, (∀ d ∈ l, ∃ b f, (d, b, f) ∈ xs) → PySem.W.kitAny K (.ref (ga K x)) (l.map fun d => Value.ref (ga K d)) = some (l.any fun d => decide (d ∈ x :: bases)) := by
      intro l
      induction l with
      | nil => intro _; rfl
      | cons d r ih =>
        intro hl
        obtain ⟨b, f, m⟩ := hl d List.mem_cons_self
        have h1 := kit_exc h mx m hb
        rw [List.map_cons]
        unfold PySem.W.kitAny
        rw [h1, List.any_cons]
        cases decide (d ∈ x :: bases) with
        | true => rfl
        | false => exact ih fun y hy => hl y (List.mem_cons_of_mem _ hy)
    exact step ds md, q H3 (e2.trans e3)⟩
/-- a field of what was caught -/
theorem ev_xfk {f : Str} {v : V} (T : XCl K (ga K x)) (no : PySem.W.findIn K (.ref (ga K x)) f = some none) (ha : XKAt H a (ga K x) vs) (he : Evl.Ev te σ H (.ref a)) (l : vs.lookup f = some v) : Evl.Ev (tXfk K f te) σ H v := fun H1 e Q q =>
  he H1 e _ fun H2 e2 => ⟨a, ga K x, vs, v, rfl, T, no, (ha.ex e).ex e2, l, q H2 e2⟩
end
end He
set_option Elab.async false
set_option linter.all false
set_option maxRecDepth 100000
set_option maxHeartbeats 4000000
set_option autoImplicit false
namespace K57
open PySem PySem.Spec PyProof.Rows L2 He Evl Lam
/-- what the law reads off an exception of the class x -/
def toldX (x : Str) (fs : List (Str × V)) : Option (List V) :=
  if x = "BadHeard" then (fs.lookup ("part" : Str)).map fun v => [.str "heard", v] else
  if x = "BadValue" then (fs.lookup ("part" : Str)).map fun v => [.str "value", v] else
  if x = "Misfit" then (fs.lookup ("part" : Str)).map fun v => [.str "misfit", v] else none
def heardT (K : PySem.W.Frag) : (XK → Hp → VK → Prop) → Hp → VK → Prop := fun tl H Q => ∃ Ech : XK, (∀ Q' : VK, (∀ v H1, (∀ H2, Ex H1 H2 → Q .non H2) → Q' v H1) → tl Ech H Q') ∧ ∀ cls d H1, Ech cls d H1 →
  ∃ (x : Str) (dx : Addr) (fs : List (Str × V)) (vs : List V), cls = .ref (ga K x) ∧ d = some dx ∧ H1 dx = some (.xd fs) ∧ toldX x fs = some vs ∧ ∀ p H2, Ex H1 H2 → H1 p = none → H2 p = some (.tup vs) → Q (.ref p) H2
section
variable {P : Program} {w : World} {K : PySem.W.Frag} {mg : Str → Option Value} {base : Heap} {k : Nat}
theorem b_l_heard (T : Tx K mg) : Binds K (fdOf K ("_law_heard", none)) ["_law_ask"] [] := T.f_l_heard.bindsN fun _ _ _ _ _ _ us hl => match us, hl with | [_], _ => rfl
theorem ok_l_heard (T : Tx K mg) : Hears (L2.CX P w) CX0 P w K mg base k (k + 1) (ga K "_law_heard") (heardT K) := by
  intro A outer s H f D tl Q E hr e0 hf act want
  refine runS T.f_l_heard sc_l_heard (b_l_heard T) hr e0 fun cdv hr => ?_
  refine ⟨_, PSs.nox (pss_cons (ps_set (i := 1) sc_l_heard.nd rfl (.inl rfl) pe_non)
    (pss_cons (ps_try_keep (i := 2) rfl rfl rfl sc_l_heard.nd rfl rfl ⟨rfl, by decide, .inl T.g_SignError⟩ LamX.takes0 (fun W pn xe tk _ => (pss_one (ps_expr (pe_actW (i := 0) tk rfl act hr rfl (.inl rfl)))))
      (fun a cls d pn => (pss_one (ps_set (i := 1) sc_l_heard.nd rfl (.inl rfl) (pv 2)))))
    (pss_cons (ps_if (PW.pt (pw_or (pt_val (pe_callB (CallR.or2 call_isi call_isK) (by rfl) T.n_isinstance (by decide +kernel) (pa_cons (pv 1) (pa_cons (pe_glob (v := .ref (ga K "BadHeard")) (by rfl) T.g_BadHeard rfl) pa_nil)))) (pw_or1 (pt_val (pe_callB (CallR.or2 call_isi call_isK) (by rfl) T.n_isinstance (by decide +kernel) (pa_cons (pv 1) (pa_cons (pe_glob (v := .ref (ga K "BadValue")) (by rfl) T.g_BadValue rfl) pa_nil)))))))
      (pss_one (ps_ret (pe_tup (pa_cons (pe_ifExp (pt_val (pe_callB (CallR.or2 call_isi call_isK) (by rfl) T.n_isinstance (by decide +kernel) (pa_cons (pv 1) (pa_cons (pe_glob (v := .ref (ga K "BadHeard")) (by rfl) T.g_BadHeard rfl) pa_nil)))) pe_str pe_str) (pa_cons (pe_xfk (pv 1)) pa_nil)))))
      pss_nil)
    (pss_cons (ps_if (pt_val (pe_callB (CallR.or2 call_isi call_isK) (by rfl) T.n_isinstance (by decide +kernel) (pa_cons (pv 1) (pa_cons (pe_glob (v := .ref (ga K "Misfit")) (by rfl) T.g_Misfit rfl) pa_nil))))
      (pss_one (ps_ret (pe_tup (pa_cons pe_str (pa_cons (pe_xfk (pv 1)) pa_nil)))))
      pss_nil)
    (pss_one (ps_ret (pe_ifExp (pt_cmpR op_isN (pv 1) pe_non (nomark _)) pe_non (pe_tup (pa_cons pe_str (pa_cons pe_non pa_nil)))))))))), ?_⟩
  -- slots: [(0, '_law_ask'), (1, '_law_caught'), (2, 'error')]
  obtain ⟨Ech, fine, bad⟩ := want
  refine q_asgD ?_
  show tActW 0 f tl _ _ _ _
  refine ⟨Ech, fun cls d H1 hx => ?_, rfl, ⟨D, hf⟩, fine _ fun v H1 k => ?_⟩
  · obtain ⟨x, dx, fs, vs, rfl, rfl, hd, tol, k⟩ := bad cls d H1 hx
    have bs : ∀ y ∈ (["SignError"] : List Str), y ∈ excs.map (·.1) := by intro y hy; simp at hy; subst hy; decide
    have ne2 : ∀ {a : Addr}, H1 a = none → XKAt (upd H1 a (exk a (.ref (ga K x)) (some dx))) a (ga K x) fs := fun {a} na => ⟨dx, upd_same, (upd_ne (ne_of_none hd na)).trans hd⟩
    have up : ∀ {a : Addr} {o : HO}, H1 a = none → Ex H1 (upd H1 a o) := fun {a o} na b u e => (upd_ne (ne_of_none e na)).trans e
    unfold toldX at tol
    by_cases hx0 : x = "BadHeard"
    · rw [if_pos hx0] at tol
      subst hx0
      have mx := mem_BadHeard
      refine ⟨true, exm_exc T.xs mx mem_SignError bs (by decide), fun _ a na => ?_, fun z => nomatch z⟩
      have hX := ne2 na
      have u0 := up (o := exk a (.ref (ga K "BadHeard")) (some dx)) na
      obtain ⟨v, lv, rfl⟩ := Option.map_eq_some_iff.mp tol
      refine s_asg (ev_var rfl) fun H2 e2 => ?_
      have x2 := hX.ex e2
      have t2 := u0.trans e2
      refine q_when (b := true || false) (et_or (et_B (ev_isK T.xs mx mem_BadHeard bs x2 (ev_var rfl))) (fun z => nomatch z)) (fun _ H3 e3 => ?_) (fun z => nomatch z)
      have x3 := x2.ex e3
      exact s_retU (eu_tup (ea_cons (ev_if (b := true) (et_B (ev_isK T.xs mx mem_BadHeard bs x3 (ev_var rfl))) (fun _ => ev_c) (fun z => nomatch z)) (ea_cons (ev_xfk (xc_BadHeard T) (nf_BadHeard_part T) x3 (ev_var rfl) lv) ea_nil)) (by show 2 ≤ 100000; decide)) fun p H4 np e4 hp => k p H4 ((t2.trans e3).trans e4) (fresh_back (t2.trans e3) np) hp
    rw [if_neg hx0] at tol
    by_cases hx0 : x = "BadValue"
    · rw [if_pos hx0] at tol
      subst hx0
      have mx := mem_BadValue
      refine ⟨true, exm_exc T.xs mx mem_SignError bs (by decide), fun _ a na => ?_, fun z => nomatch z⟩
      have hX := ne2 na
      have u0 := up (o := exk a (.ref (ga K "BadValue")) (some dx)) na
      obtain ⟨v, lv, rfl⟩ := Option.map_eq_some_iff.mp tol
      refine s_asg (ev_var rfl) fun H2 e2 => ?_
      have x2 := hX.ex e2
      have t2 := u0.trans e2
      refine q_when (b := false || true) (et_or (et_B (ev_isK T.xs mx mem_BadHeard bs x2 (ev_var rfl))) (fun _ => et_B (ev_isK T.xs mx mem_BadValue bs x2 (ev_var rfl)))) (fun _ H3 e3 => ?_) (fun z => nomatch z)
      have x3 := x2.ex e3
      exact s_retU (eu_tup (ea_cons (ev_if (b := false) (et_B (ev_isK T.xs mx mem_BadHeard bs x3 (ev_var rfl))) (fun z => nomatch z) (fun _ => ev_c)) (ea_cons (ev_xfk (xc_BadValue T) (nf_BadValue_part T) x3 (ev_var rfl) lv) ea_nil)) (by show 2 ≤ 100000; decide)) fun p H4 np e4 hp => k p H4 ((t2.trans e3).trans e4) (fresh_back (t2.trans e3) np) hp
    rw [if_neg hx0] at tol
    by_cases hx0 : x = "Misfit"
    · rw [if_pos hx0] at tol
      subst hx0
      have mx := mem_Misfit
      refine ⟨true, exm_exc T.xs mx mem_SignError bs (by decide), fun _ a na => ?_, fun z => nomatch z⟩
      have hX := ne2 na
      have u0 := up (o := exk a (.ref (ga K "Misfit")) (some dx)) na
      obtain ⟨v, lv, rfl⟩ := Option.map_eq_some_iff.mp tol
      refine s_asg (ev_var rfl) fun H2 e2 => ?_
      have x2 := hX.ex e2
      have t2 := u0.trans e2
      refine q_when (b := false || false) (et_or (et_B (ev_isK T.xs mx mem_BadHeard bs x2 (ev_var rfl))) (fun _ => et_B (ev_isK T.xs mx mem_BadValue bs x2 (ev_var rfl)))) (fun z => nomatch z) (fun _ H3 e3 => ?_)
      have x3 := x2.ex e3
      have t3 := t2.trans e3
      refine q_when (b := true) (et_B (ev_isK T.xs mx mem_Misfit bs x3 (ev_var rfl))) (fun _ H4 e4 => ?_) (fun z => nomatch z)
      have x4 := x3.ex e4
      have t4 := t3.trans e4
      exact s_retU (eu_tup (ea_cons ev_c (ea_cons (ev_xfk (xc_Misfit T) (nf_Misfit_part T) x4 (ev_var rfl) lv) ea_nil)) (by show 2 ≤ 100000; decide)) fun p H9 np e9 hp => k p H9 (t4.trans e9) (fresh_back t4 np) hp
    rw [if_neg hx0] at tol
    cases tol
  · have none1 : ∀ {H2 : Hp}, Ev (tVar 1) ((L2.start ["_law_ask", "_law_caught", "error"] [V.ref f]).set 1 (some .non)) H2 .non := ev_var rfl
    refine q_when (b := false || false) (et_or (et_B (ev_isN (xc_BadHeard T) none1)) (fun _ => et_B (ev_isN (xc_BadValue T) none1))) (fun z => nomatch z) fun _ H2 e2 => ?_
    refine q_when (b := false) (et_B (ev_isN (xc_Misfit T) none1)) (fun z => nomatch z) fun _ H3 e3 => ?_
    refine s_ret (v := .non) (ev_if (b := true) (et_test (ev_op none1 ev_c fun H6 e6 Q q => ⟨rfl, q H6 (Ex.refl H6)⟩)) (fun _ => ev_c) (fun z => nomatch z)) fun H6 e6 => ?_
    exact k H6 ((e2.trans e3).trans e6)
end
end K57
set_option Elab.async false
set_option linter.all false
set_option maxRecDepth 100000
set_option maxHeartbeats 4000000
set_option autoImplicit false
/-! A head that knows of defs the empty tables of their code objects; a def's rule that tells its code object. -/
namespace He
open PySem PySem.Spec PyProof.Rows L2
def obsZ (n : Nat) (chk : PySem.W.Frag → Bool) (fa : List Fa) (fn : List DefD) (ex : List ED) (tf : List Defn) (g : Addr → Option Obj) : AlD × Bool :=
  (obsR chk fa fn ex (frT g (PySem.cStatics :: asD g n)), tabsB g tf (frT g (PySem.cStatics :: asD g n)))
structure SaysZ (chk : PySem.W.Frag → Bool) (fa : List Fa) (fn : List DefD) (ex : List ED) (tf : List Defn) (h : Heap) (K : PySem.W.Frag) : Prop where
  r : SaysR chk fa fn ex K
  hd : ∀ p ∈ tf, PySem.W.codeHdIn K (cT K p).1 (cT K p).2 = true
  out : ∀ p ∈ tf, K.lookup (cT K p).2 = none
  empty : ∀ p ∈ tf, h.get? (cT K p).2 = some { cls := .none, data := .fields #[] }
theorem saysZ_of {n : Nat} {chk : PySem.W.Frag → Bool} {fa : List Fa} {fn : List DefD} {ex : List ED} {tf : List Defn} {h : Heap} (e : obsZ n chk fa fn ex tf h.get? = (valR fn ex, true)) : SaysZ chk fa fn ex tf h (frT h.get? (PySem.cStatics :: asD h.get? n)) := by
  have e1 : obsR chk fa fn ex (frT h.get? (PySem.cStatics :: asD h.get? n)) = valR fn ex := congrArg (fun z : AlD × Bool => z.1) e
  have h2 : tabsB h.get? tf (frT h.get? (PySem.cStatics :: asD h.get? n)) = true := congrArg (fun z : AlD × Bool => z.2) e
  have key : ∀ p ∈ tf, PySem.W.codeHdIn (frT h.get? (PySem.cStatics :: asD h.get? n)) (cT (frT h.get? (PySem.cStatics :: asD h.get? n)) p).1 (cT (frT h.get? (PySem.cStatics :: asD h.get? n)) p).2 = true ∧ ∃ o, h.get? (cT (frT h.get? (PySem.cStatics :: asD h.get? n)) p).2 = some o ∧ emptyTab o = true := fun p hp => by
    obtain ⟨h3, h4⟩ := ba (List.all_eq_true.mp h2 p hp)
    refine ⟨h3, ?_⟩
    cases q : h.get? (cT (frT h.get? (PySem.cStatics :: asD h.get? n)) p).2 with
    | none =>
      rw [q] at h4
      cases h4
    | some o =>
      rw [q] at h4
      exact ⟨o, rfl, h4⟩
  exact ⟨e1, fun p hp => (key p hp).1, fun p hp => by
    obtain ⟨_, o, q, z⟩ := key p hp
    exact frT_none q z, fun p hp => by
    obtain ⟨_, o, q, z⟩ := key p hp
    rw [q, emptyTab_eq z]⟩
def hookZ (n : Nat) (chk : PySem.W.Frag → Bool) (fa : List Fa) (fn : List DefD) (ex : List ED) (tf : List Defn) : PySem.W.Hook where
  α := AlD × Bool
  obs := fun s => obsZ n chk fa fn ex tf s.heap.get?
  val := fun _ => (valR fn ex, true)
  says := fun _ h => ∃ K : PySem.W.Frag, K.In h ∧ SaysZ chk fa fn ex tf h K
  of := fun _ _ e => ⟨_, frT_in, saysZ_of e⟩
  keeps := fun _ _ _ ⟨K, hK, c⟩ k => ⟨K, PySem.W.Frag.In.keeps hK k, ⟨c.r, c.hd, c.out, fun p hp => k _ _ (c.empty p hp)⟩⟩
theorem obsZ_eq {n : Nat} {chk : PySem.W.Frag → Bool} {fa : List Fa} {fn : List DefD} {ex : List ED} {tf : List Defn} {g : Addr → Option Obj} {s : Shared} (h : ∀ a, g a = s.heap.get? a) : obsZ n chk fa fn ex tf g = (hookZ n chk fa fn ex tf).obs s := by
  have e : g = s.heap.get? := funext h
  rw [e] <;> rfl
/-- a def's rule that tells its code object -/
theorem funD_okC {P : Program} {w : World} {K : PySem.W.Frag} {mg : Str → Option Value} {base : Heap} {x qual : Str} {params : Arguments} {body : List Stmt} {scope : Scope} {dvs : List V} {kws : List (Str × V)} {at_ : Defn} {fd : FuncData} {CX : CXT} {N ps : List Str} {k : Nat} {sp : Sp}
    (F : FunD K x qual params body scope dvs kws (fAd K at_) fd) (S : FnScope N ps scope) (len : ∀ vs H Q E, sp vs H Q E → vs.length = ps.length)
    (hbody : ∀ (A : Around) (outer : List Env) (s : Shared) (H : Hp) (vs : List V) (Q : VK) (E : XK), Room k (A.deeper (envOfC qual scope s.heap.objs.size (fAd K at_) (.ref (codeOf K at_)))) → sp vs H Q E →
      ∃ t, PSs (cxOf CX P w K mg base N qual scope (fAd K at_) (.ref (codeOf K at_)) A outer s H E) body t ∧ t { nx := fun _ H' => Q .non H', rt := Q } (start N vs) H) : FnOk P w K mg base CX (k + 1) (fAd K at_) fd ps sp := by
  obtain ⟨oc, od, dV, kV, doc, pm, an, cdv, ct, osl, rfl, lk, hcd, _, _⟩ := F.ex
  obtain ⟨c, rfl⟩ := codeIn_ref hcd
  have e := codeOf_eq lk (c := c) rfl
  rw [e] at hbody
  exact fn_of lk hcd S len fun A outer s H vs Q E hr hsp => hbody A outer s H vs Q E hr hsp
end He
set_option Elab.async false
set_option linter.all false
set_option maxRecDepth 100000
set_option maxHeartbeats 4000000
set_option autoImplicit false
/-! odd values that a law draws out of a display; what stays where lists, tables and the pen change. -/
namespace Odd
open PySem PySem.Spec PyProof.Rows L2 LamX NdefX He Evl Lam
/-- all but Z and tables stay -/
def Off2 (Z : List Addr) (H H' : Hp) : Prop := ∀ a u, H a = some u → a ∉ Z → (∀ ps, u ≠ .tbl ps) → H' a = some u
theorem Off2.refl (Z : List Addr) (H : Hp) : Off2 Z H H := fun _ _ h _ _ => h
theorem Off2.trans {Z : List Addr} {H H1 H2 : Hp} (a : Off2 Z H H1) (b : Off2 Z H1 H2) : Off2 Z H H2 := fun x u h n t => b x u (a x u h n t) n t
theorem Off2.sub {Z W : List Addr} {H H' : Hp} (h : Off2 Z H H') (s : ∀ a ∈ Z, a ∈ W) : Off2 W H H' := fun a u e n t => h a u e (fun z => n (s a z)) t
theorem Off2.of {Z : List Addr} {H H' : Hp} (e : Ex H H') : Off2 Z H H' := fun a u h _ _ => e a u h
theorem Off2.off {p : Addr} {H H' : Hp} (e : Off p H H') : Off2 [p] H H' := fun a u h n _ => e a u h fun z => n (List.mem_singleton.mpr z)
theorem Off2.extN {Z : List Addr} {H H' : Hp} (e : ExtN H H') : Off2 Z H H' := fun a u h _ t => e a u h t
theorem Off2.mut {Z : List Addr} {H H' : Hp} {q : Addr} (e : Off2 Z H H') (m : q ∈ Z) {o : HO} : Off2 Z H (upd H' q o) := fun a u h n t => by
  rw [upd_ne (fun z => n (by rw [z]; exact m))]
  exact e a u h n t
theorem lamO_lst {f : Addr} {D : LD} (xs : List V) : LamO f D ≠ .lst xs := fun z => by
  unfold LamO at z
  cases z
theorem codeO_lst {c : Addr} {q : Str} (xs : List V) : CodeO c q ≠ .lst xs := fun z => by
  unfold CodeO at z
  cases z
/-- what is no list stays where p and q are lists -/
theorem Off2.keep {H H' : Hp} {p q : Addr} (o : Off2 [p, q] H H') {xs ys : List V} (hp : H p = some (.lst xs)) (hq : H q = some (.lst ys)) {a : Addr} {u : HO} (h : H a = some u) (n : ∀ zs, u ≠ .lst zs) (t : ∀ ps, u ≠ .tbl ps) : H' a = some u := o a u h (fun z => by
  rcases List.mem_cons.mp z with e | z
  · rw [e, hp] at h
    exact n _ (Option.some.inj h).symm
  · rw [List.mem_singleton.mp z, hq] at h
    exact n _ (Option.some.inj h).symm) t
/-! tables -/
theorem tabs_off {T : List (Addr × Str)} {H H' : Hp} {p : Addr} {xs : List V} (t : Tabs T H) (hp : H p = some (.lst xs)) (o : Off p H H') : Tabs T H' := fun m hm => by
  obtain ⟨ps, h1, h2, h3⟩ := t m hm
  have ne : ∀ {a : Addr} {u : HO}, H a = some u → (∀ zs, u ≠ .lst zs) → a ≠ p := fun h n z => by
    rw [z, hp] at h
    exact n _ (Option.some.inj h).symm
  refine ⟨ps, o _ _ h1 (ne h1 fun _ z => nomatch z), h2, fun pos cv hc => ?_⟩
  obtain ⟨c, e1, e2⟩ := h3 pos cv hc
  exact ⟨c, e1, o _ _ e2 (ne e2 codeO_lst)⟩
theorem tabs_mut {T : List (Addr × Str)} {H : Hp} {q : Addr} {xs : List V} {o : HO} (t : Tabs T H) (hq : H q = some (.lst xs)) : Tabs T (upd H q o) := tabs_off t hq fun a u h n => by
  rw [upd_ne n]
  exact h
def isSc : V → Bool
  | .non => true
  | .bl _ => true
  | .int _ => true
  | .str z => decide (z.length ≤ 1000)
  | _ => false
def scKind : V → String
  | .non => "NoneType"
  | .bl _ => "bool"
  | .int _ => "int"
  | _ => "str"
section
variable {K : PySem.W.Frag} {H H' : Hp} {v : V} {p q : Addr}
theorem sc_kd (h : isSc v = true) : Kd K H v (scKind v) := by
  cases v with
  | non => exact kd_non
  | bl b => exact kd_bl b
  | int i => exact kd_int i
  | str z => exact kd_str z
  | _ => cases h
theorem off2_fresh (o : Off2 [p, q] H H') (n : H q = none) : Off2 [p] H H' := fun a u h m t => o a u h (fun z => by
  rcases List.mem_cons.mp z with e | z
  · exact m (List.mem_singleton.mpr e)
  · exact ne_of_none h n (List.mem_singleton.mp z)) t
theorem off2_at (o : Off2 [p] H H') {a : Addr} {u : HO} (n : a ≠ p) (h : H a = some u) (t : ∀ ps, u ≠ .tbl ps) : H' a = some u := o a u h (fun z => n (List.mem_singleton.mp z)) t
/-- no f: a plain value that is none, or a list -/
def GB (f : V → Bool) (p : Addr) (v : V) (H : Hp) : Prop := (isSc v = true ∧ f v = false) ∨ ∃ a xs, v = .ref a ∧ a ≠ p ∧ H a = some (.lst xs)
theorem GB.st {f : V → Bool} (h : GB f p v H) (o : Off2 [p] H H') : GB f p v H' := h.imp id fun ⟨a, xs, e, n, z⟩ => ⟨a, xs, e, n, off2_at o n z fun _ y => nomatch y⟩
theorem GB.kd {f : V → Bool} (h : GB f p v H) : ∃ T, Kd K H v T := by
  rcases h with ⟨h, _⟩ | ⟨a, xs, rfl, _, z⟩
  · exact ⟨_, sc_kd h⟩
  · exact ⟨_, kd_lst z⟩
theorem GB.no {f : V → Bool} (hf : ∀ a, f (.ref a) = false) (h : GB f p v H) : f v = false := by
  rcases h with ⟨_, h⟩ | ⟨a, xs, rfl, _, _⟩
  · exact h
  · exact hf a
end
section
variable {K : PySem.W.Frag} {σ : L2.St} {H : Hp} {te tl tk tv : TE} {ta : TA} {p c : Addr} {G : V → Hp → Prop} {m n : Nat} {Q : VK}
/-- each of so many items has G -/
def EvAll (ta : TA) (σ : L2.St) (H : Hp) (G : V → Hp → Prop) (m : Nat) : Prop := ∀ H1, Ex H H1 → ∀ N : List V → Hp → Prop, (∀ vs H2, Ex H1 H2 → vs.length = m → (∀ v ∈ vs, G v H2) → N vs H2) → ta σ H1 N
theorem all_nil : EvAll tNil σ H G 0 := fun H1 _ N q => q [] H1 (Ex.refl H1) rfl fun _ h => nomatch h
theorem all_cons (st : Stab G) (h : EvP te σ H G) (hr : EvAll ta σ H G m) : EvAll (tCons te ta) σ H G (m + 1) := fun H1 e N q =>
  h H1 e _ fun v H2 e2 g => hr H2 (e.trans e2) _ fun vs H3 e3 l all => q (v :: vs) H3 (e2.trans e3) (by rw [List.length_cons, l]) fun x hx => (List.mem_cons.mp hx).elim (fun z => by rw [z]; exact st _ _ _ g e3) (all x)
/-- a list of so many items, each has G -/
def EvLG (te : TE) (σ : L2.St) (H : Hp) (G : V → Hp → Prop) (m : Nat) : Prop := ∀ H1, Ex H H1 → ∀ Q : VK, (∀ l vs H2, H1 l = none → Ex H1 H2 → H2 l = some (.lst vs) → vs.length = m → (∀ v ∈ vs, G v H2) → Q (.ref l) H2) → te σ H1 Q
theorem lg_lst (st : Stab G) (h : EvAll ta σ H G m) (few : m ≤ 1000) : EvLG (tLst ta) σ H G m := fun H1 e Q q =>
  h H1 e _ fun vs H2 e2 l all => ⟨sz_of (by omega), fun a na => q a vs _ (fresh_back e2 na) (e2.trans (Ex.new na)) upd_same l fun v hv => st _ _ _ (all v hv) (Ex.new na)⟩
theorem lg_cat {a : Addr} {xs : List V} (st : Stab G) (h : Ev te σ H (.ref a)) (ha : H a = some (.lst xs)) (hx : ∀ v ∈ xs, G v H) (hb : EvLG tl σ H G m) (few : xs.length + m ≤ 1000) : EvLG (tOp rCat te tl) σ H G (xs.length + m) := fun H1 e Q q =>
  h H1 e _ fun H2 e2 => hb H2 (e.trans e2) _ fun b vs H3 nb e3 hb l all => ⟨a, b, xs, vs, rfl, rfl, ((e.trans e2).trans e3) _ _ ha, hb, sz_of (by omega), fun r nr => q r _ _ (fresh_back (e2.trans e3) nr) ((e2.trans e3).trans (Ex.new nr)) upd_same (by rw [List.length_append, l]) fun v hv => (List.mem_append.mp hv).elim (fun z => st _ _ _ (hx v z) (((e.trans e2).trans e3).trans (Ex.new nr))) fun z => st _ _ _ (all v z) (Ex.new nr)⟩
theorem evp_ev {v : V} {R : V → Hp → Prop} (h : Ev te σ H v) (r : ∀ H1, Ex H H1 → R v H1) : EvP te σ H R := fun H1 e Q q => h H1 e _ fun H2 e2 => q v H2 e2 (r H2 (e.trans e2))
theorem evp_c {v : V} (h : ∀ H1, Ex H H1 → G v H1) : EvP (tC v) σ H G := evp_ev ev_c h
/-- a new list, off p -/
theorem evp_lstG {vs : List V} (hp : ∃ o, H p = some o) (h : EvA ta σ H vs) (few : vs.length ≤ 1000) (g : ∀ a H1, a ≠ p → H1 a = some (.lst vs) → Ex H H1 → G (.ref a) H1) : EvP (tLst ta) σ H G := fun H1 e Q q =>
  (el_lst h (by omega)) H1 e _ fun a H2 na e2 ha => q _ H2 e2 (g a H2 (Ne.symm (ne_of_none (e _ _ hp.choose_spec) na)) ha (e.trans e2))
theorem evp_tupG {vs : List V} (hp : ∃ o, H p = some o) (h : EvA ta σ H vs) (few : vs.length ≤ 1000) (g : ∀ a H1, a ≠ p → H1 a = some (.tup vs) → Ex H H1 → G (.ref a) H1) : EvP (tTup ta) σ H G := fun H1 e Q q =>
  (eu_tup h (by omega)) H1 e _ fun a H2 na e2 ha => q _ H2 e2 (g a H2 (Ne.symm (ne_of_none (e _ _ hp.choose_spec) na)) ha (e.trans e2))
theorem gb_st {f : V → Bool} : Stab (GB f p) := fun v H H' h e => h.st (Off2.of e)
theorem gb_off {f : V → Bool} : ∀ v H1 H2, GB f p v H1 → Off p H1 H2 → GB f p v H2 := fun v H H' h e => h.st (Off2.off e)
/-- a plain value, or a list or a tuple off p -/
def GV (p : Addr) (v : V) (H : Hp) : Prop := isSc v = true ∨ ∃ a, v = .ref a ∧ a ≠ p ∧ ((∃ xs, H a = some (.lst xs)) ∨ ∃ xs, H a = some (.tup xs))
theorem GV.st {v : V} {H H' : Hp} (h : GV p v H) (o : Off2 [p] H H') : GV p v H' := h.imp id fun ⟨a, e, n, h⟩ => ⟨a, e, n, h.imp (fun ⟨xs, z⟩ => ⟨xs, off2_at o n z fun _ y => nomatch y⟩) fun ⟨xs, z⟩ => ⟨xs, off2_at o n z fun _ y => nomatch y⟩⟩
theorem gv_st : Stab (GV p) := fun v H H' h e => h.st (Off2.of e)
theorem gv_off : ∀ v H1 H2, GV p v H1 → Off p H1 H2 → GV p v H2 := fun v H H' h e => h.st (Off2.off e)
theorem GV.kd {v : V} (h : GV p v H) : ∃ T, Kd K H v T := by
  rcases h with h | ⟨a, rfl, _, ⟨xs, z⟩ | ⟨xs, z⟩⟩
  · exact ⟨_, sc_kd h⟩
  · exact ⟨_, kd_lst z⟩
  · exact ⟨_, kd_tup z⟩
theorem gv_c {v : V} {σ : L2.St} {H : Hp} (h : isSc v = true) : EvP (tC v) σ H (GV p) := evp_c fun _ _ => .inl h
theorem gv_l {vs : List V} {ta : TA} {σ : L2.St} {H : Hp} (hp : ∃ o, H p = some o) (h : EvA ta σ H vs) (few : vs.length ≤ 1000) : EvP (tLst ta) σ H (GV p) := evp_lstG hp h few fun a H1 n z _ => .inr ⟨a, rfl, n, .inl ⟨_, z⟩⟩
theorem gv_t {vs : List V} {ta : TA} {σ : L2.St} {H : Hp} (hp : ∃ o, H p = some o) (h : EvA ta σ H vs) (few : vs.length ≤ 1000) : EvP (tTup ta) σ H (GV p) := evp_tupG hp h few fun a H1 n z _ => .inr ⟨a, rfl, n, .inr ⟨_, z⟩⟩
end
end Odd
set_option Elab.async false
set_option linter.all false
set_option maxRecDepth 100000
set_option maxHeartbeats 4000000
set_option autoImplicit false
/-! words for deep data: texts, numbers, lists and tuples of such. -/
namespace L2
open PySem PySem.Spec PyProof.Rows Evl
section
variable {K : PySem.W.Frag} {σ : L2.St} {H H' : Hp} {ta tb te tl : TE} {tq : TA} {d e : PyData} {ds es : List PyData}
def EvD (K : PySem.W.Frag) (te : TE) (σ : L2.St) (H : Hp) (d : PyData) : Prop := ∀ H1, Ex H H1 → ∀ Q : VK, (∀ v H2, Ex H1 H2 → Dp K H2 v d → Q v H2) → te σ H1 Q
def EvDA (K : PySem.W.Frag) (ta : TA) (σ : L2.St) (H : Hp) (ds : List PyData) : Prop := ∀ H1, Ex H H1 → ∀ N : List V → Hp → Prop, (∀ vs H2, Ex H1 H2 → DpAll K H2 vs ds → N vs H2) → ta σ H1 N
/-- a new list of such -/
def EvDL (K : PySem.W.Frag) (te : TE) (σ : L2.St) (H : Hp) (ds : List PyData) : Prop := ∀ H1, Ex H H1 → ∀ Q : VK, (∀ p xs H2, H1 p = none → Ex H1 H2 → H2 p = some (.lst xs) → DpAll K H2 xs ds → Q (.ref p) H2) → te σ H1 Q
theorem dpAll_len : ∀ {vs : List V} {ds : List PyData}, DpAll K H vs ds → vs.length = ds.length
  | _, _, .nil => rfl
  | _, _, .cons _ a => congrArg Nat.succ (dpAll_len a)
theorem dpAll_app : ∀ {vs ws : List V} {ds es : List PyData}, DpAll K H vs ds → DpAll K H ws es → DpAll K H (vs ++ ws) (ds ++ es)
  | _, _, _, _, .nil, h => h
  | _, _, _, _, .cons x a, h => .cons x (dpAll_app a h)
theorem dpAll_map {α : Type} (f : α → V) (g : α → PyData) (h : ∀ x, Dp K H (f x) (g x)) : ∀ xs : List α, DpAll K H (xs.map f) (xs.map g)
  | [] => .nil
  | x :: xs => .cons (h x) (dpAll_map f g h xs)
theorem dpAll_mem {α : Type} (f : α → V) (g : α → PyData) : ∀ xs : List α, (∀ x ∈ xs, Dp K H (f x) (g x)) → DpAll K H (xs.map f) (xs.map g)
  | [], _ => .nil
  | x :: xs, h => .cons (h x List.mem_cons_self) (dpAll_mem f g xs fun y hy => h y (List.mem_cons_of_mem _ hy))
theorem EvD.mono (a : Ex H H') (h : EvD K te σ H d) : EvD K te σ H' d := fun H1 e Q q => h H1 (a.trans e) Q q
theorem ed_ev {v : V} (h : Ev te σ H v) (hd : ∀ H1, Ex H H1 → Dp K H1 v d) : EvD K te σ H d := fun H1 e Q q => h H1 e _ fun H2 e2 => q v H2 e2 (hd H2 (e.trans e2))
theorem ed_c {v : V} (hd : ∀ H1, Dp K H1 v d) : EvD K (tC v) σ H d := ed_ev ev_c fun H1 _ => hd H1
theorem ed_str {z : Str} : EvD K (tC (.str z)) σ H (.str z) := ed_c fun _ => .str z
theorem ed_int {i : Int} : EvD K (tC (.int i)) σ H (.int i) := ed_c fun _ => .int i
theorem ed_U {xs : List V} (h : EvU te σ H xs) (hd : ∀ H1, Ex H H1 → DpAll K H1 xs ds) : EvD K te σ H (.tuple ds) := fun H1 e Q q => h H1 e _ fun p H2 _ e2 hp => q _ H2 e2 (.tup (SqT.of hp) (hd H2 (e.trans e2)))
theorem ed_L {xs : List V} (h : EvL te σ H xs) (hd : ∀ H1, Ex H H1 → DpAll K H1 xs ds) : EvD K te σ H (.list ds) := fun H1 e Q q => h H1 e _ fun p H2 _ e2 hp => q _ H2 e2 (.lst (SqL.of hp) (hd H2 (e.trans e2)))
theorem ed_DL (h : EvDL K te σ H ds) : EvD K te σ H (.list ds) := fun H1 e Q q => h H1 e _ fun p xs H2 _ e2 hp a => q _ H2 e2 (.lst (SqL.of hp) a)
theorem da_nil : EvDA K tNil σ H [] := fun H1 _ N q => q [] H1 (Ex.refl H1) .nil
theorem da_cons (h : EvD K te σ H d) (hr : EvDA K tq σ H ds) : EvDA K (tCons te tq) σ H (d :: ds) := fun H1 e N q =>
  h H1 e _ fun v H2 e2 hd => hr H2 (e.trans e2) _ fun vs H3 e3 a => q (v :: vs) H3 (e2.trans e3) (.cons (hd.ex e3) a)
theorem ed_tup (h : EvDA K tq σ H ds) (few : ds.length ≤ 100000) : EvD K (tTup tq) σ H (.tuple ds) := fun H1 e Q q =>
  h H1 e _ fun vs H2 e2 a => ⟨sz_of (by rw [dpAll_len a]; exact few), fun p np => q _ _ (e2.trans (Ex.new np)) (.tup (SqT.of upd_same) (a.ex (Ex.new np)))⟩
theorem dl_lst (h : EvDA K tq σ H ds) (few : ds.length ≤ 100000) : EvDL K (tLst tq) σ H ds := fun H1 e Q q =>
  h H1 e _ fun vs H2 e2 a => ⟨sz_of (by rw [dpAll_len a]; exact few), fun p np => q p vs _ (fresh_back e2 np) (e2.trans (Ex.new np)) upd_same (a.ex (Ex.new np))⟩
theorem dl_cat (h : EvDL K ta σ H ds) (hb : EvDL K tb σ H es) (few : ds.length + es.length ≤ 100000) : EvDL K (tOp rCat ta tb) σ H (ds ++ es) := fun H1 e Q q =>
  h H1 e _ fun a xs H2 na e2 ha da => hb H2 (e.trans e2) _ fun b ys H3 nb e3 hb db => ⟨a, b, xs, ys, rfl, rfl, e3 _ _ ha, hb, sz_of (by rw [dpAll_len da, dpAll_len db]; exact few), fun r nr => q r _ _ (fresh_back (e2.trans e3) nr) ((e2.trans e3).trans (Ex.new nr)) upd_same (dpAll_app ((da.ex e3).ex (Ex.new nr)) (db.ex (Ex.new nr)))⟩
theorem ev_eqD (ha : EvD K ta σ H d) (hb : EvD K tb σ H e) (sd : SeqAt.shaped d = true) (se : SeqAt.shaped e = true) : Ev (tOp (rEqD K) ta tb) σ H (.bl (PyData.eqv d e)) := fun H1 e1 Q q =>
  ha H1 e1 _ fun v H2 e2 dv => hb H2 (e1.trans e2) _ fun w H3 e3 dw => ⟨d, e, dv.ex e3, dw, sd, se, q H3 (e2.trans e3)⟩
theorem ev_neD (ha : EvD K ta σ H d) (hb : EvD K tb σ H e) (sd : SeqAt.shaped d = true) (se : SeqAt.shaped e = true) : Ev (tOp (rNeD K) ta tb) σ H (.bl (!PyData.eqv d e)) := fun H1 e1 Q q =>
  ha H1 e1 _ fun v H2 e2 dv => hb H2 (e1.trans e2) _ fun w H3 e3 dw => ⟨d, e, dv.ex e3, dw, sd, se, q H3 (e2.trans e3)⟩
theorem eqv_same (sd : SeqAt.shaped d = true) : PyData.eqv d d = true := SeqAt.eqv_refl d (SeqAt.canLay_of_shaped sd)
end
end L2
set_option Elab.async false
set_option linter.all false
set_option maxRecDepth 100000
set_option maxHeartbeats 4000000
set_option autoImplicit false
/-! g(lambda: e), written straight: the lambda is made and handed to a def that calls it. -/
namespace Lam
open PySem PySem.Spec PyProof.Rows L2 LamX NdefX
def spTL (t : XK → TE) (fr : List Str) : LSp := fun ws H Q E => t E (startF fr [] ws) H Q
/-- what the lambda's call reads: its body over the names that it took along -/
def tHearL (T : List (Addr × Str)) (HT : (XK → Hp → VK → Prop) → Hp → VK → Prop) (js : List Nat) (fr : List Str) (t : XK → TE) : TE := fun σ H Q => Tabs T H ∧ ∀ H', ExtN H H' → (∀ b, H' b = none → H b = none) → Tabs T H' → HT (fun E H2 Q2 => t E (startF fr [] (js.map (slotAt σ))) H2 Q2) H' Q
def MonoHT (HT : (XK → Hp → VK → Prop) → Hp → VK → Prop) : Prop := ∀ (tl tl' : XK → Hp → VK → Prop) H Q, (∀ E Q', tl E H Q' → tl' E H Q') → HT tl H Q → HT tl' H Q
theorem pe_hearL {X : Cx} {CXl CX : CXT} {T : List (Addr × Str)} {q : Str} {c P g : Addr} {x : Str} {params : Arguments} {body : Expr} {scope : Scope} {pos p1 lp : Pos} {k j m : Nat} {HT : (XK → Hp → VK → Prop) → Hp → VK → Prop} {fr : List Str} {js : List Nat} {t : XK → TE}
    (B : TabB X.base X.mg c P) (hc : X.env.code = .ref c) (hq : q = X.env.qual ++ "<lambda>") (hm : (P, q) ∈ T) (one : ∀ p ∈ T, p.1 = P → p.2 = q) (S : LamS X.env.scope scope) (hd : defaultsOf params X.env = ([], []))
    (hfr : ∀ y ∈ fr, (y, NameKind.free) ∈ scope.names) (hjs : js.map (fun j => X.N[j]?) = fr.map some) (S2 : NScope fr [] fr scope) (hb : ∀ (cl : List (Str × Addr)) (c' : Addr) (pm ctv : Value), bindArgs ((⟨q, params, body, scope, cl, c'⟩ : LD).fd pm ctv) ⟨[], []⟩ = pure [])
    (pe : ∀ (cl : List (Str × Addr)) (c' f : Addr) (A : Around) (outer : List Env) (s : Shared) (H : Hp) (E : XK), Room k (A.deeper (envF (⟨q, params, body, scope, cl, c'⟩ : LD).nf f s.heap.objs.size)) → PE (ncx CXl X.prog X.w X.K X.mg X.base fr (⟨q, params, body, scope, cl, c'⟩ : LD).nf f A outer s H E) body (t E))
    (R : Hears CXl CX X.prog X.w X.K X.mg X.base (k + 1) j g HT) (mono : MonoHT HT) (hr : Room m X.A) (hj : j ≤ m) (hg : Gl X x) (hmg : X.mg x = some (.ref g)) (hk : PySem.W.keepIn X.K (.ref g) = true) (hx : Passes CX X E0)
    (hdb : (x == ("__debug__" : Str)) = false := by decide) : PE X (.Call (.Name x p1) [.Lambda params body scope lp] [] pos) (tHearL T HT js fr t) := by
  refine ⟨fun pins s σ H Q I ⟨hT, want⟩ => ?_⟩
  refine wpAny_Call_Name_kw (ld_glob I hg hmg ?_ hdb)
  refine PySem.W.callWith_K (h₀ := X.base) I.ok.mod.kin hk (thn ((pa_cons (pe_lam (pos := lp) B hc hq hm one S hd) pa_nil).run pos pins s σ H (fun vs H2 => ∃ f c', vs = [.ref f] ∧ Made T H f ⟨q, params, body, scope, cloFrom X.env.cells scope.names [], c'⟩ H2) I ⟨hT, fun f c' H' made => ⟨f, c', rfl, made⟩⟩) fun us s2 ⟨vs, H2, J2, r, f, c', ev, made⟩ => ⟨J2.kIn, ?_⟩) (by rfl) (by rfl)
  subst ev
  obtain ⟨u, rfl, ru⟩ : ∃ u, us = [u] ∧ L2.RelV (.ref f) u := vals1 r
  obtain rfl : u = Value.ref f := ru
  have lo : LamOk CXl X.prog X.w X.K X.mg X.base (k + 1) f ⟨q, params, body, scope, cloFrom X.env.cells scope.names [], c'⟩ fr (spTL t fr) :=
    lamOk_of S2 (fun pm ctv => hb _ _ pm ctv) fun A outer s H ws Q E hr _ h => ⟨t E, pe _ _ f A outer s H E hr, h⟩
  have cp : Caps X (cloFrom X.env.cells scope.names []) fr js := Caps.made I.ok S.free hfr hjs
  have act : ActAt CXl X.prog X.w X.K X.mg X.base (k + 1) (frs X.stack) s2 H2 f (tlOf f ⟨q, params, body, scope, cloFrom X.env.cells scope.names [], c'⟩ (js.map (slotAt σ)) (spTL t fr)) := act_of lo (cells_of J2 cp)
  have want2 := mono _ (tlOf f ⟨q, params, body, scope, cloFrom X.env.cells scope.names [], c'⟩ (js.map (slotAt σ)) (spTL t fr)) _ _ (fun E Q' h => ⟨made.fn, made.code, h⟩) (want H2 made.ext made.back made.tabs)
  refine wpAny_call (codeAny_mono (R X.A X.stack s2 H2 f _ _ Q E0 (hr.mono hj) J2.env0 made.fn act want2) fun r s3 z => ?_)
  cases r with
  | error e => exact hx pins σ H2 s2 e s3 J2 z
  | ok fl =>
    cases fl with
    | ret u => exact J2.after z
    | next => exact z.elim
    | brk => exact z.elim
    | cont => exact z.elim
end Lam
set_option Elab.async false
set_option linter.all false
set_option maxRecDepth 100000
set_option maxHeartbeats 4000000
set_option autoImplicit false
/-! a list of what was heard: lambdas made and asked one behind another. -/
namespace Odd
open PySem PySem.Spec PyProof.Rows L2 LamX NdefX He Evl Lam
/-- what a call that is heard answers: None, or a tuple told by the exception -/
def heardG (told : Str → List (Str × V) → Option (List V)) (K : PySem.W.Frag) : (XK → Hp → VK → Prop) → Hp → VK → Prop := fun tl H Q => ∃ Ech : XK, (∀ Q' : VK, (∀ v H1, (∀ H2, Ex H1 H2 → Q .non H2) → Q' v H1) → tl Ech H Q') ∧ ∀ cls d H1, Ech cls d H1 →
  ∃ (x : Str) (dx : Addr) (fs : List (Str × V)) (vs : List V), cls = .ref (ga K x) ∧ d = some dx ∧ H1 dx = some (.xd fs) ∧ told x fs = some vs ∧ ∀ p H2, Ex H1 H2 → H1 p = none → H2 p = some (.tup vs) → Q (.ref p) H2
theorem mono_heardG (told : Str → List (Str × V) → Option (List V)) (K : PySem.W.Frag) : MonoHT (heardG told K) := fun tl tl' H Q h ⟨Ech, a, b⟩ => ⟨Ech, fun Q' q => h _ _ (a Q' q), b⟩
section
variable {K : PySem.W.Frag} {told : Str → List (Str × V) → Option (List V)} {T : List (Addr × Str)} {p c q : Addr} {n m : Nat} {H0 H H' : Hp} {es : List (List V)} {σ : L2.St} {D : Ends} {tz : TS} {i : Nat} {js : List Nat} {fr : List Str} {t : XK → TE}
/-- the pen, the tables, and all else as it was at H0 -/
structure PJ (K : PySem.W.Frag) (T : List (Addr × Str)) (p c : Addr) (n : Nat) (H0 H : Hp) : Prop where
  pen0 : ∃ k, PenAt K k H0 p c
  pen : PenAt K n H p c
  tabs : Tabs T H
  rel : Off2 [p] H0 H
  back : ∀ b, H b = none → H0 b = none
theorem pen_at (h : PenAt K n H p c) : ∃ zs, H p = some (.lst zs) := let ⟨_, _, _, z, _⟩ := h; ⟨_, z⟩
theorem pen_ext (h : PenAt K n H p c) (e : ExtN H H') : PenAt K n H' p c := by
  obtain ⟨t, r, ns, h1, h2, h3⟩ := h
  exact ⟨t, r, ns, e _ _ h1 (fun _ z => nomatch z), e _ _ h2 (fun _ z => nomatch z), h3⟩
theorem PJ.start (pen : PenAt K n H p c) (tabs : Tabs T H) : PJ K T p c n H H := ⟨⟨_, pen⟩, pen, tabs, Off2.refl _ _, fun _ h => h⟩
theorem PJ.ex (I : PJ K T p c n H0 H) (e : Ex H H') : PJ K T p c n H0 H' := ⟨I.pen0, I.pen.ex e, I.tabs.ext e, I.rel.trans (Off2.of e), fun b h => I.back b (fresh_back e h)⟩
theorem PJ.off (I : PJ K T p c n H0 H) (o : Off p H H') (pen' : PenAt K m H' p c) : PJ K T p c m H0 H' :=
  ⟨I.pen0, pen', tabs_off I.tabs (pen_at I.pen).choose_spec o, I.rel.trans (Off2.off o), fun b h => I.back b (Off.back o (pen_at pen').choose_spec h)⟩
theorem PJ.extN (I : PJ K T p c n H0 H) (e : ExtN H H') (bk : ∀ b, H' b = none → H b = none) (tabs : Tabs T H') : PJ K T p c n H0 H' :=
  ⟨I.pen0, pen_ext I.pen e, tabs, I.rel.trans (Off2.extN e), fun b h => I.back b (bk b h)⟩
theorem PJ.mono (I : PJ K T p c n H0 H) (l : n ≤ m) : PJ K T p c m H0 H := { I with pen := I.pen.mono l }
theorem PJ.ne (I : PJ K T p c n H0 H) (nq : H q = none) : q ≠ p := (ne_of_none (pen_at I.pen).choose_spec nq).symm
/-- and a list of what was heard so far -/
structure RJ (K : PySem.W.Frag) (T : List (Addr × Str)) (p c q : Addr) (n : Nat) (H0 H : Hp) (es : List (Option (List V))) : Prop where
  pen0 : ∃ k, PenAt K k H0 p c
  nq : H0 q = none
  pen : PenAt K n H p c
  tabs : Tabs T H
  rel : Off2 [p, q] H0 H
  qp : q ≠ p
  hq : ∃ vs : List V, H q = some (.lst vs) ∧ vs.length = es.length ∧ ∀ (i : Nat) (v : V) (e : Option (List V)), vs[i]? = some v → es[i]? = some e → match e with
    | none => v = .non
    | some xs => ∃ a, v = .ref a ∧ a ≠ p ∧ a ≠ q ∧ H a = some (.tup xs)
variable {es : List (Option (List V))}
theorem RJ.keep (I : RJ K T p c q n H0 H es) (pen : PenAt K m H' p c) (tabs : Tabs T H') (o : ∀ a u, H a = some u → a ≠ p → (∀ ps, u ≠ .tbl ps) → H' a = some u) : RJ K T p c q m H0 H' es where
  pen0 := I.pen0
  nq := I.nq
  pen := pen
  tabs := tabs
  rel := fun a u h n t => o a u (I.rel a u h n t) (fun z => n (by rw [z]; exact List.mem_cons_self)) t
  qp := I.qp
  hq := by
    obtain ⟨vs, h1, h2, h3⟩ := I.hq
    refine ⟨vs, o _ _ h1 I.qp (fun _ z => nomatch z), h2, fun i v e hv he => ?_⟩
    have z := h3 i v e hv he
    cases e with
    | none => exact z
    | some xs =>
      obtain ⟨a, z1, z2, z3, z4⟩ := z
      exact ⟨a, z1, z2, z3, o _ _ z4 z2 (fun _ y => nomatch y)⟩
theorem RJ.ex (I : RJ K T p c q n H0 H es) (e : Ex H H') : RJ K T p c q n H0 H' es := I.keep (I.pen.ex e) (I.tabs.ext e) fun a u h _ _ => e a u h
theorem RJ.off (I : RJ K T p c q n H0 H es) (o : Off p H H') (pen' : PenAt K m H' p c) : RJ K T p c q m H0 H' es := I.keep pen' (tabs_off I.tabs (pen_at I.pen).choose_spec o) fun a u h n _ => o a u h n
theorem RJ.extN (I : RJ K T p c q n H0 H es) (e : ExtN H H') (tabs : Tabs T H') : RJ K T p c q n H0 H' es := I.keep (pen_ext I.pen e) tabs fun a u h _ t => e a u h t
theorem RJ.mono (I : RJ K T p c q n H0 H es) (l : n ≤ m) : RJ K T p c q m H0 H es := { I with pen := I.pen.mono l }
theorem RJ.at0 (I : RJ K T p c q n H0 H es) : Off2 [p] H0 H := off2_fresh I.rel I.nq
theorem RJ.list (I : RJ K T p c q n H0 H es) : ∃ vs, H q = some (.lst vs) := let ⟨vs, h, _⟩ := I.hq; ⟨vs, h⟩
theorem RJ.begin (I : PJ K T p c n H0 H) (nq : H q = none) {v : V} {e : Option (List V)} (hv : match e with
    | none => v = .non
    | some xs => ∃ a, v = .ref a ∧ a ≠ p ∧ H a = some (.tup xs)) : RJ K T p c q n H0 (upd H q (.lst [v])) [e] where
  pen0 := I.pen0
  nq := I.back q nq
  pen := I.pen.ex (Ex.new nq)
  tabs := I.tabs.ext (Ex.new nq)
  rel := (I.rel.sub fun a ha => by rw [List.mem_singleton.mp ha]; exact List.mem_cons_self).trans (Off2.of (Ex.new nq))
  qp := I.ne nq
  hq := ⟨[v], upd_same, rfl, fun i v' e' hv' he' => by
    cases i with
    | succ i => cases hv'
    | zero =>
      cases hv'
      cases he'
      cases e with
      | none => exact hv
      | some xs =>
        obtain ⟨a, z1, z2, z3⟩ := hv
        exact ⟨a, z1, z2, ne_of_none z3 nq, Ex.new nq _ _ z3⟩⟩
theorem RJ.app (I : RJ K T p c q n H0 H es) {vs : List V} (hq : H q = some (.lst vs)) {v : V} {e : Option (List V)} (hv : match e with
    | none => v = .non
    | some xs => ∃ a, v = .ref a ∧ a ≠ p ∧ a ≠ q ∧ H a = some (.tup xs)) : RJ K T p c q n H0 (upd H q (.lst (vs ++ [v]))) (es ++ [e]) where
  pen0 := I.pen0
  nq := I.nq
  pen := by
    obtain ⟨t, r, ns, h1, h2, h3⟩ := I.pen
    refine ⟨t, r, ns, by rw [upd_ne I.qp.symm]; exact h1, ?_, h3⟩
    by_cases z : c = q
    · exfalso
      obtain ⟨k, t', r', ns', k1, k2, _⟩ := I.pen0
      exact ne_of_none k2 I.nq z
    · rw [upd_ne z]
      exact h2
  tabs := tabs_mut I.tabs hq
  rel := I.rel.mut (List.mem_cons_of_mem _ List.mem_cons_self)
  qp := I.qp
  hq := by
    obtain ⟨vs', h1, h2, h3⟩ := I.hq
    obtain rfl : vs' = vs := by
      rw [hq] at h1
      exact (HO.lst.inj (Option.some.inj h1)).symm
    refine ⟨vs' ++ [v], upd_same, by rw [List.length_append, List.length_append, h2]; rfl, fun i v' e' hv' he' => ?_⟩
    by_cases hi : i < vs'.length
    · rw [List.getElem?_append_left hi] at hv'
      rw [List.getElem?_append_left (by omega)] at he'
      have z := h3 i v' e' hv' he'
      cases e' with
      | none => exact z
      | some xs =>
        obtain ⟨a, z1, z2, z3, z4⟩ := z
        exact ⟨a, z1, z2, z3, by rw [upd_ne z3]; exact z4⟩
    · rw [List.getElem?_append_right (by omega)] at hv' he'
      rw [h2] at hv'
      cases hj : i - es.length with
      | succ j =>
        rw [hj] at hv'
        cases hv'
      | zero =>
        rw [hj] at hv' he'
        cases hv'
        cases he'
        cases e with
        | none => exact hv
        | some xs =>
          obtain ⟨a, z1, z2, z3, z4⟩ := hv
          exact ⟨a, z1, z2, z3, by rw [upd_ne z3]; exact z4⟩

/-! ### what is asked -/
variable {x : Str} {fs : List (Str × V)} {xs : List V} {Q : VK} {tl : XK → Hp → VK → Prop} {R : Hp → Prop}
theorem heard_err (tol : told x fs = some xs) (run : ∀ E Q', (∀ dx H1, H1 dx = some (.xd fs) → R H1 → E (.ref (ga K x)) (some dx) H1) → tl E H Q') (k : ∀ H1 a H2, R H1 → Ex H1 H2 → H1 a = none → H2 a = some (.tup xs) → Q (.ref a) H2) : heardG told K tl H Q :=
  ⟨fun cls d H1 => ∃ dx, cls = .ref (ga K x) ∧ d = some dx ∧ H1 dx = some (.xd fs) ∧ R H1, fun Q' _ => run _ Q' fun dx H1 h r => ⟨dx, rfl, rfl, h, r⟩, fun cls d H1 ⟨dx, e1, e2, h, r⟩ => ⟨x, dx, fs, xs, e1, e2, h, tol, fun a H2 e na ha => k H1 a H2 r e na ha⟩⟩
theorem heard_fine (run : ∀ E Q', (∀ v H1, R H1 → Q' v H1) → tl E H Q') (k : ∀ H1 H2, R H1 → Ex H1 H2 → Q .non H2) : heardG told K tl H Q :=
  ⟨fun _ _ _ => False, fun Q' q => run _ Q' fun v H1 r => q v H1 fun H2 e => k H1 H2 r e, fun _ _ _ h => h.elim⟩
/-- xs = [heard(lambda: ..)] -/
theorem q_hear1 (I : PJ K T p c n H0 H) (tol : told x fs = some xs) (run : ∀ H', PJ K T p c n H0 H' → ∀ E Q', (∀ dx H1, H1 dx = some (.xd fs) → PJ K T p c m H0 H1 → E (.ref (ga K x)) (some dx) H1) → t E (startF fr [] (js.map (slotAt σ))) H' Q')
    (k : ∀ q H2, RJ K T p c q m H0 H2 [some xs] → tz D (σ.set i (some (.ref q))) H2) : tSeq (tAsg (tLst (tCons (tHearL T (heardG told K) js fr t) tNil)) (gName i)) tz D σ H :=
  ⟨I.tabs, fun H' e bk tabs => heard_err (R := fun H1 => PJ K T p c m H0 H1) tol (fun E Q' h => run H' (I.extN e bk tabs) E Q' h) fun H1 a H2 r e2 na ha => ⟨by show 1 ≤ sizeLine; decide, fun q nq => k q _ (RJ.begin (e := some xs) (r.ex e2) nq ⟨a, rfl, (ne_of_none (pen_at r.pen).choose_spec na).symm, ha⟩)⟩⟩
/-- xs.append(heard(lambda: ..)) -/
theorem q_hear (I : RJ K T p c q n H0 H es) (hv : σ[i]? = some (some (.ref q))) (few : es.length < 1000) (tol : told x fs = some xs) (run : ∀ H', RJ K T p c q n H0 H' es → ∀ E Q', (∀ dx H1, H1 dx = some (.xd fs) → RJ K T p c q m H0 H1 es → E (.ref (ga K x)) (some dx) H1) → t E (startF fr [] (js.map (slotAt σ))) H' Q')
    (k : ∀ H2, RJ K T p c q m H0 H2 (es ++ [some xs]) → tz D σ H2) : tSeq (tDrop (tBM K "list" rAppend (tVar i) (tCons (tHearL T (heardG told K) js fr t) tNil))) tz D σ H := by
  obtain ⟨vs0, hq0⟩ := I.list
  refine ⟨.ref q, hv, Or.inl ⟨rfl, vs0, SqL.of hq0⟩, I.tabs, fun H' e bk tabs => heard_err (R := fun H1 => RJ K T p c q m H0 H1 es) tol (fun E Q' h => run H' (I.extN e tabs) E Q' h) fun H1 a H2 r e2 na ha => ?_⟩
  have r2 := r.ex e2
  obtain ⟨vs, hq, hl, _⟩ := r2.hq
  obtain ⟨vs1, hq1⟩ := r.list
  exact ⟨q, vs, .ref a, rfl, rfl, hq, sz_lt (by omega), k _ (r2.app hq (e := some xs) ⟨a, rfl, (ne_of_none (pen_at r.pen).choose_spec na).symm, (ne_of_none hq1 na).symm, ha⟩)⟩
theorem q_hearN (I : RJ K T p c q n H0 H es) (hv : σ[i]? = some (some (.ref q))) (few : es.length < 1000) (run : ∀ H', RJ K T p c q n H0 H' es → ∀ E Q', (∀ v H1, RJ K T p c q m H0 H1 es → Q' v H1) → t E (startF fr [] (js.map (slotAt σ))) H' Q')
    (k : ∀ H2, RJ K T p c q m H0 H2 (es ++ [none]) → tz D σ H2) : tSeq (tDrop (tBM K "list" rAppend (tVar i) (tCons (tHearL T (heardG told K) js fr t) tNil))) tz D σ H := by
  obtain ⟨vs0, hq0⟩ := I.list
  refine ⟨.ref q, hv, Or.inl ⟨rfl, vs0, SqL.of hq0⟩, I.tabs, fun H' e bk tabs => heard_fine (R := fun H1 => RJ K T p c q m H0 H1 es) (fun E Q' h => run H' (I.extN e tabs) E Q' h) fun H1 H2 r e2 => ?_⟩
  have r2 := r.ex e2
  obtain ⟨vs, hq, hl, _⟩ := r2.hq
  exact ⟨q, vs, .non, rfl, rfl, hq, sz_lt (by omega), k _ (r2.app hq (e := none) rfl)⟩
/-! ### the list, as data -/
def vD : V → PyData
  | .str z => .str z
  | .int i => .int i
  | .bl b => .bool b
  | _ => .none
def okD : V → Bool
  | .str _ => true
  | .int _ => true
  | .bl _ => true
  | .non => true
  | _ => false
theorem dp_v {H : Hp} : ∀ {v : V}, okD v = true → Dp K H v (vD v)
  | .str z, _ => .str z
  | .int i, _ => .int i
  | .bl b, _ => .bl b
  | .non, _ => .non
theorem dp_vs {H : Hp} : ∀ {vs : List V}, vs.all okD = true → DpAll K H vs (vs.map vD)
  | [], _ => .nil
  | v :: vs, h => .cons (dp_v (Bool.and_eq_true_iff.mp h).1) (dp_vs (Bool.and_eq_true_iff.mp h).2)
def eD : Option (List V) → PyData
  | none => .none
  | some xs => .tuple (xs.map vD)
def okE : Option (List V) → Bool
  | none => true
  | some xs => xs.all okD
def esD (es : List (Option (List V))) : List PyData := es.map eD
def esOk (es : List (Option (List V))) : Bool := es.all okE
theorem es_all {H : Hp} : ∀ {vs : List V} {es : List (Option (List V))}, vs.length = es.length → esOk es = true → (∀ (i : Nat) (v : V) (e : Option (List V)), vs[i]? = some v → es[i]? = some e → match e with
    | none => v = .non
    | some xs => ∃ a, v = .ref a ∧ a ≠ p ∧ a ≠ q ∧ H a = some (.tup xs)) → DpAll K H vs (esD es)
  | [], [], _, _, _ => .nil
  | v :: vs, e :: es, hl, ok, h => by
    obtain ⟨o1, o2⟩ := Bool.and_eq_true_iff.mp (show (okE e && esOk es) = true from ok)
    have h0 := h 0 v e rfl rfl
    refine .cons ?_ (es_all (Nat.succ.inj hl) o2 fun i v' e' a b => h (i + 1) v' e' a b)
    cases e with
    | none =>
      rw [show v = .non from h0]
      exact .non
    | some xs =>
      obtain ⟨a, rfl, _, _, ha⟩ := h0
      exact .tup (SqT.of ha) (dp_vs o1)
theorem dpAll_rep {H : Hp} {xs : List V} {ds : List PyData} (h : DpAll K H xs ds) : ∀ m : Nat, DpAll K H (List.replicate m xs).flatten (List.replicate m ds).flatten
  | 0 => .nil
  | m + 1 => by
    rw [List.replicate_succ, List.replicate_succ, List.flatten_cons, List.flatten_cons]
    exact dpAll_app h (dpAll_rep h m)
theorem dl_rep {σ : L2.St} {H : Hp} {ta tb : TE} {ds : List PyData} {k : Int} (h : EvDL K ta σ H ds) (hb : Ev tb σ H (.int k)) (few : 0 ≤ k ∧ k ≤ 1000 ∧ ds.length ≤ 1000) : EvDL K (tOp rRep ta tb) σ H (List.replicate k.toNat ds).flatten := fun H1 e Q q =>
  h H1 e _ fun a xs H2 na e2 ha da => hb H2 (e.trans e2) _ fun H3 e3 => ⟨a, k, xs, rfl, rfl, e3 _ _ ha, by omega, by omega, by rw [dpAll_len da, sizeLine_eq]; have := Nat.mul_le_mul few.2.2 (show k.toNat ≤ 1000 by omega); omega, fun r nr => q r _ _ (fresh_back (e2.trans e3) nr) ((e2.trans e3).trans (Ex.new nr)) upd_same (dpAll_rep ((da.ex e3).ex (Ex.new nr)) _)⟩
theorem RJ.data (I : RJ K T p c q n H0 H es) (ok : esOk es = true) : Dp K H (.ref q) (.list (esD es)) := by
  obtain ⟨vs, h1, h2, h3⟩ := I.hq
  exact .lst (SqL.of h1) (es_all h2 ok h3)
theorem open2 {ta tb : TE} {g : TG} (h : ta σ H fun v H1 => tb σ H1 fun w H2 => ([v, w] : List V).length ≤ sizeLine ∧ ∀ p, H2 p = none → g (.ref p) σ (upd H2 p (.tup [v, w])) fun σ1 H3 => tz D σ1 H3) : tSeq (tAsg (tTup (tCons ta (tCons tb tNil))) g) tz D σ H := h
end
end Odd
set_option Elab.async false
set_option linter.all false
set_option maxRecDepth 100000
set_option maxHeartbeats 4000000
set_option autoImplicit false
namespace K57
open PySem PySem.Spec PyProof.Rows L2 He Evl TL Lam LamX NdefX Odd
abbrev defC : Defn := ("_law_checks_right", none)
abbrev lamC : Str := (envOfC "_law_checks_right" (defScope s_l_checks_right) 0 0 .none).qual ++ "<lambda>"
abbrev defR : Defn := ("_law_refused_right", none)
abbrev lamQ : Str := (envOfC "_law_refused_right" (defScope s_l_refused_right) 0 0 .none).qual ++ "<lambda>"
/-- the tables of both defs with lambdas -/
abbrev Tt (K : PySem.W.Frag) : List (Addr × Str) := [((cT K defC).2, lamC), ((cT K defR).2, lamQ)]
theorem memC {K : PySem.W.Frag} : ((cT K defC).2, lamC) ∈ Tt K := List.mem_cons_self
theorem memR {K : PySem.W.Frag} : ((cT K defR).2, lamQ) ∈ Tt K := List.mem_cons_of_mem _ List.mem_cons_self
theorem oneC {K : PySem.W.Frag} (ne : (cT K defC).2 ≠ (cT K defR).2) : ∀ p ∈ Tt K, p.1 = (cT K defC).2 → p.2 = lamC := fun p hp e => by
  rcases List.mem_cons.mp hp with rfl | hp
  · rfl
  · rw [List.mem_singleton.mp hp] at e
    exact absurd e.symm ne
theorem oneR {K : PySem.W.Frag} (ne : (cT K defC).2 ≠ (cT K defR).2) : ∀ p ∈ Tt K, p.1 = (cT K defR).2 → p.2 = lamQ := fun p hp e => by
  rcases List.mem_cons.mp hp with rfl | hp
  · exact absurd e ne
  · rw [List.mem_singleton.mp hp]
theorem heard_mono {K : PySem.W.Frag} : MonoHT (heardT K) := mono_heardG toldX K
theorem EOk.gb {K : PySem.W.Frag} {H : Hp} {f : V → Bool} {p : Addr} {v : V} (h : GB f p v H) : EOk K H v := by
  rcases h with ⟨h, _⟩ | ⟨a, xs, rfl, _, z⟩
  · exact ⟨⟨_, sc_kd h⟩, fun z hz => by subst hz; exact of_decide_eq_true h⟩
  · exact ⟨⟨_, kd_lst z⟩, fun y e => nomatch (show V.ref a = V.str y from e)⟩
def spRefR (K : PySem.W.Frag) : Sp := fun vs H Q _ => ∃ (p c : Addr) (z : Str) (n : Nat), vs = [.ref p, .str z] ∧ heardB z = true ∧ PenAt K n H p c ∧ n ≤ 80000 ∧ Tabs (Tt K) H ∧ ∀ H', Q (.bl true) H'
section
variable {K : PySem.W.Frag} {σ : L2.St} {H : Hp} {te tl : TE} {p c : Addr} {G : V → Hp → Prop} {m n : Nat} {Q : VK} {E : XK}
/-- one of such items is picked -/
theorem run_oneG (of : ∀ v H1 H2, G v H1 → Off p H1 H2 → G v H2) (hP : PenAt K n H p c) (hn : n ≤ 100000) (hv : Ev te σ H (.ref p)) (h : EvLG tl σ H G m) (hl : 0 < m ∧ m ≤ 1000) (k : ∀ x H1, G x H1 → Off p H H1 → PenAt K (n + 1) H1 p c → Q x H1) :
    tCall (spOne K) [] E0 (tCons te (tCons tl tNil)) σ H Q :=
  hv H (Ex.refl H) _ fun H1 e1 => h H1 e1 _ fun l vs H2 nl e2 hl2 len all => by
    obtain ⟨o, ho⟩ := hP.there
    exact ⟨p, c, .ref l, n, rfl, hP.ex (e1.trans e2), hn, .inl ⟨l, vs, rfl, SqL.of hl2, Ne.symm (ne_of_none (e1 _ _ ho) nl), by omega, by omega, fun i x H4 hx off pen => k x H4 (of _ _ _ (all x (List.mem_of_getElem? hx)) off) ((Off.of (e1.trans e2)).trans off) pen⟩⟩
theorem no_f {b : Bool} {C : Prop} (h : b = true) (z : b = false) : C := by cases h.symm.trans z
theorem no_t {b : Bool} {C : Prop} (h : b = false) (z : b = true) : C := by cases h.symm.trans z
end
section
variable {P : Program} {w : World} {K : PySem.W.Frag} {mg : Str → Option Value} {base : Heap}
theorem ok_l_refused_right (T : Tx K mg) (B : TabB base mg (cT K defR).1 (cT K defR).2) (ne : (cT K defC).2 ≠ (cT K defR).2) : FnOk P w K mg base CX0 9 (fAd K defR) (fdOf K defR) ["_law_ear_here", "_law_heard_here"] (spRefR K) := by
  refine funD_okC T.f_l_refused_right sc_l_refused_right (fun vs H Q E h => by obtain ⟨p, c, z, n, rfl, _⟩ := h; rfl) (fun A outer s H vs Q E hr h => ?_)
  have hu : (A.deeper (envOfC "_law_refused_right" (defScope s_l_refused_right) s.heap.objs.size (fAd K defR) (.ref (codeOf K defR)))).units + 64 < cLine := by have := hr.units; omega
  refine ⟨_, PSs.nox (pss_cons (ps_asg (pe_tup (pa_cons (pe_call (ok_l_one T) (hr.mono (by decide)) (by rfl) T.g_l_one T.f_l_one.kp (b_l_one T) .nil pass0 (pa_cons (pv 0) (pa_cons (pe_lst (pa_cons pe_str (pa_cons pe_str (pa_cons pe_str (pa_cons pe_non (pa_cons pe_int (pa_cons (pe_lst (pa_cons pe_str pa_nil)) (pa_cons pe_str (pa_cons pe_bl pa_nil))))))))) pa_nil))) (pa_cons (pe_call (ok_l_one T) (hr.mono (by decide)) (by rfl) T.g_l_one T.f_l_one.kp (b_l_one T) .nil pass0 (pa_cons (pv 0) (pa_cons (pe_lst (pa_cons pe_str (pa_cons pe_str (pa_cons pe_non (pa_cons pe_int (pa_cons (pe_lst (pa_cons pe_str pa_nil)) (pa_cons pe_str (pa_cons pe_bl pa_nil)))))))) pa_nil))) pa_nil))) (pg_tup rfl (pgs_cons (pg_name (i := 2) sc_l_refused_right.nd rfl (.inr rfl)) (pgs_cons (pg_name (i := 3) sc_l_refused_right.nd rfl (.inr rfl)) pgs_nil))))
    (pss_cons (ps_asg (pe_tup (pa_cons (pe_call (ok_l_one T) (hr.mono (by decide)) (by rfl) T.g_l_one T.f_l_one.kp (b_l_one T) .nil pass0 (pa_cons (pv 0) (pa_cons (pe_lst (pa_cons pe_str (pa_cons pe_str (pa_cons pe_str (pa_cons pe_non (pa_cons pe_int (pa_cons (pe_lst (pa_cons pe_str pa_nil)) (pa_cons pe_str (pa_cons pe_str pa_nil))))))))) pa_nil))) (pa_cons (pe_call (ok_l_one T) (hr.mono (by decide)) (by rfl) T.g_l_one T.f_l_one.kp (b_l_one T) .nil pass0 (pa_cons (pv 0) (pa_cons (pe_lst (pa_cons pe_str (pa_cons pe_non (pa_cons pe_str (pa_cons pe_int pa_nil))))) pa_nil))) pa_nil))) (pg_tup rfl (pgs_cons (pg_name (i := 4) sc_l_refused_right.nd rfl (.inr rfl)) (pgs_cons (pg_name (i := 5) sc_l_refused_right.nd rfl (.inr rfl)) pgs_nil))))
    (pss_cons (ps_set (i := 6) sc_l_refused_right.nd rfl (.inl rfl) (pe_lst (pa_cons (pe_hearL (k := 5) (T := Tt K) (q := lamQ) (c := (cT K defR).1) (P := (cT K defR).2) (fr := ["_law_odd", "_law_way"]) (js := [2, 3]) B rfl rfl memR (oneR ne) (lamS_by (sc := defScope s_l_refused_right) (by decide +kernel)) rfl (by decide +kernel) rfl (nscope_by (by decide +kernel)) (fun _ _ _ _ => rfl) (fun cl c' f A outer s H E hr => (pe_call (ok_syllables T) (hr.mono (by decide)) (by rfl) T.g_syllables T.f_syllables.kp (b_syllables T) .nil (passes_call (takes_of rfl rfl rfl rfl) (fun _ _ _ _ h => h)) (pa_cons (pv 0) (pa_cons (pv 1) pa_nil)))) (ok_l_heard T) heard_mono hr (by decide) (by rfl) T.g_l_heard T.f_l_heard.kp pass0) pa_nil)))
    (pss_cons (ps_expr (pe_bm PySem.F.plainAttrs_list PySem.F.slot_list_append PySem.F.type_list_append mt_append (pv 6) (pa_cons (pe_hearL (k := 5) (T := Tt K) (q := lamQ) (c := (cT K defR).1) (P := (cT K defR).2) (fr := ["_law_heard_here", "_law_way"]) (js := [1, 3]) B rfl rfl memR (oneR ne) (lamS_by (sc := defScope s_l_refused_right) (by decide +kernel)) rfl (by decide +kernel) rfl (nscope_by (by decide +kernel)) (fun _ _ _ _ => rfl) (fun cl c' f A outer s H E hr => (pe_call (ok_syllables T) (hr.mono (by decide)) (by rfl) T.g_syllables T.f_syllables.kp (b_syllables T) .nil (passes_call (takes_of rfl rfl rfl rfl) (fun _ _ _ _ h => h)) (pa_cons (pv 0) (pa_cons (pv 1) pa_nil)))) (ok_l_heard T) heard_mono hr (by decide) (by rfl) T.g_l_heard T.f_l_heard.kp pass0) pa_nil)))
    (pss_cons (ps_expr (pe_bm PySem.F.plainAttrs_list PySem.F.slot_list_append PySem.F.type_list_append mt_append (pv 6) (pa_cons (pe_hearL (k := 5) (T := Tt K) (q := lamQ) (c := (cT K defR).1) (P := (cT K defR).2) (fr := ["_law_odd", "_law_letter", "_law_far"]) (js := [2, 4, 5]) B rfl rfl memR (oneR ne) (lamS_by (sc := defScope s_l_refused_right) (by decide +kernel)) rfl (by decide +kernel) rfl (nscope_by (by decide +kernel)) (fun _ _ _ _ => rfl) (fun cl c' f A outer s H E hr => (pe_call (ok_exchanged T) (hr.mono (by decide)) (by rfl) T.g_exchanged T.f_exchanged.kp (b_exchanged T) .nil (passes_call (takes_of rfl rfl rfl rfl) (fun _ _ _ _ h => h)) (pa_cons (pv 0) (pa_cons (pv 1) (pa_cons (pv 2) pa_nil))))) (ok_l_heard T) heard_mono hr (by decide) (by rfl) T.g_l_heard T.f_l_heard.kp pass0) pa_nil)))
    (pss_cons (ps_expr (pe_bm PySem.F.plainAttrs_list PySem.F.slot_list_append PySem.F.type_list_append mt_append (pv 6) (pa_cons (pe_hearL (k := 5) (T := Tt K) (q := lamQ) (c := (cT K defR).1) (P := (cT K defR).2) (fr := ["_law_heard_here", "_law_letter", "_law_far"]) (js := [1, 4, 5]) B rfl rfl memR (oneR ne) (lamS_by (sc := defScope s_l_refused_right) (by decide +kernel)) rfl (by decide +kernel) rfl (nscope_by (by decide +kernel)) (fun _ _ _ _ => rfl) (fun cl c' f A outer s H E hr => (pe_call (ok_exchanged T) (hr.mono (by decide)) (by rfl) T.g_exchanged T.f_exchanged.kp (b_exchanged T) .nil (passes_call (takes_of rfl rfl rfl rfl) (fun _ _ _ _ h => h)) (pa_cons (pv 0) (pa_cons (pv 1) (pa_cons (pv 2) pa_nil))))) (ok_l_heard T) heard_mono hr (by decide) (by rfl) T.g_l_heard T.f_l_heard.kp pass0) pa_nil)))
    (pss_cons (ps_expr (pe_bm PySem.F.plainAttrs_list PySem.F.slot_list_append PySem.F.type_list_append mt_append (pv 6) (pa_cons (pe_hearL (k := 5) (T := Tt K) (q := lamQ) (c := (cT K defR).1) (P := (cT K defR).2) (fr := ["_law_heard_here", "_law_far", "_law_ear_here"]) (js := [1, 5, 0]) B rfl rfl memR (oneR ne) (lamS_by (sc := defScope s_l_refused_right) (by decide +kernel)) rfl (by decide +kernel) rfl (nscope_by (by decide +kernel)) (fun _ _ _ _ => rfl) (fun cl c' f A outer s H E hr => (pe_call (ok_exchanged T) (hr.mono (by decide)) (by rfl) T.g_exchanged T.f_exchanged.kp (b_exchanged T) .nil (passes_call (takes_of rfl rfl rfl rfl) (fun _ _ _ _ h => h)) (pa_cons (pv 0) (pa_cons (pe_call (ok_l_one T) (hr.mono (by decide)) (by rfl) T.g_l_one T.f_l_one.kp (b_l_one T) .nil pass0 (pa_cons (pv 2) (pa_cons pe_str pa_nil))) (pa_cons (pv 1) pa_nil))))) (ok_l_heard T) heard_mono hr (by decide) (by rfl) T.g_l_heard T.f_l_heard.kp pass0) pa_nil)))
    (pss_cons (ps_expr (pe_bm PySem.F.plainAttrs_list PySem.F.slot_list_append PySem.F.type_list_append mt_append (pv 6) (pa_cons (pe_hearL (k := 5) (T := Tt K) (q := lamQ) (c := (cT K defR).1) (P := (cT K defR).2) (fr := ["_law_heard_here", "_law_ear_here"]) (js := [1, 0]) B rfl rfl memR (oneR ne) (lamS_by (sc := defScope s_l_refused_right) (by decide +kernel)) rfl (by decide +kernel) rfl (nscope_by (by decide +kernel)) (fun _ _ _ _ => rfl) (fun cl c' f A outer s H E hr => (pe_call (ok_exchanged T) (hr.mono (by decide)) (by rfl) T.g_exchanged T.f_exchanged.kp (b_exchanged T) .nil (passes_call (takes_of rfl rfl rfl rfl) (fun _ _ _ _ h => h)) (pa_cons (pv 0) (pa_cons (pe_call (ok_l_one T) (hr.mono (by decide)) (by rfl) T.g_l_one T.f_l_one.kp (b_l_one T) .nil pass0 (pa_cons (pv 1) (pa_cons pe_str pa_nil))) (pa_cons (pe_call (ok_l_one T) (hr.mono (by decide)) (by rfl) T.g_l_one T.f_l_one.kp (b_l_one T) .nil pass0 (pa_cons (pv 1) (pa_cons pe_str pa_nil))) pa_nil))))) (ok_l_heard T) heard_mono hr (by decide) (by rfl) T.g_l_heard T.f_l_heard.kp pass0) pa_nil)))
    (pss_cons (ps_expr (pe_bm PySem.F.plainAttrs_list PySem.F.slot_list_append PySem.F.type_list_append mt_append (pv 6) (pa_cons (pe_hearL (k := 5) (T := Tt K) (q := lamQ) (c := (cT K defR).1) (P := (cT K defR).2) (fr := ["_law_heard_here", "_law_ear_here"]) (js := [1, 0]) B rfl rfl memR (oneR ne) (lamS_by (sc := defScope s_l_refused_right) (by decide +kernel)) rfl (by decide +kernel) rfl (nscope_by (by decide +kernel)) (fun _ _ _ _ => rfl) (fun cl c' f A outer s H E hr => (pe_call (ok_exchanged T) (hr.mono (by decide)) (by rfl) T.g_exchanged T.f_exchanged.kp (b_exchanged T) .nil (passes_call (takes_of rfl rfl rfl rfl) (fun _ _ _ _ h => h)) (pa_cons (pv 0) (pa_cons (pe_call (ok_l_one T) (hr.mono (by decide)) (by rfl) T.g_l_one T.f_l_one.kp (b_l_one T) .nil pass0 (pa_cons (pv 1) (pa_cons pe_str pa_nil))) (pa_cons (pe_call (ok_l_one T) (hr.mono (by decide)) (by rfl) T.g_l_one T.f_l_one.kp (b_l_one T) .nil pass0 (pa_cons (pv 1) (pa_cons pe_str pa_nil))) pa_nil))))) (ok_l_heard T) heard_mono hr (by decide) (by rfl) T.g_l_heard T.f_l_heard.kp pass0) pa_nil)))
    (pss_one (ps_ret (pe_cmpR (op_eqD hu) (pv 6) (pe_op op_cat (pe_lst (pa_cons (pe_tup (pa_cons pe_str (pa_cons pe_str pa_nil))) (pa_cons (pe_tup (pa_cons pe_str (pa_cons pe_str pa_nil))) (pa_cons (pe_tup (pa_cons pe_str (pa_cons pe_str pa_nil))) (pa_cons (pe_tup (pa_cons pe_str (pa_cons pe_str pa_nil))) (pa_cons (pe_tup (pa_cons pe_str (pa_cons pe_str pa_nil))) pa_nil)))))) (pe_op op_rep (pe_lst (pa_cons (pe_tup (pa_cons pe_str (pa_cons pe_str pa_nil))) pa_nil)) pe_int)) (nomark _))))))))))))), ?_⟩
  -- slots: [(0, '_law_ear_here'), (1, '_law_heard_here'), (2, '_law_odd'), (3, '_law_way'), (4, '_law_letter'), (5, '_law_far'), (6, '_law_heard_all')]
  obtain ⟨p, c, z, n, rfl, hz, pen, hn, tabs, k⟩ := h
  have hz12 := heard_len hz
  have hzv : heardV (.str z) = true := hz
  have sc : ∀ {f : V → Bool} {v : V} {H5 : Hp}, isSc v = true → f v = false → GB f p v H5 := fun a b => .inl ⟨a, b⟩
  have cns : ∀ {f : V → Bool} {v : V} {σ' : L2.St} {H5 : Hp}, isSc v = true → f v = false → EvP (tC v) σ' H5 (GB f p) := fun a b => evp_c fun _ _ => sc a b
  have lns : ∀ {f : V → Bool} {v : V} {σ' : L2.St} {H5 : Hp}, (∃ o, H5 p = some o) → EvP (tLst (tCons (tC v) tNil)) σ' H5 (GB f p) := fun hp => evp_lstG hp (ea_cons ev_c ea_nil) (by show 1 ≤ 1000; decide) fun a H5 n h _ => .inr ⟨a, _, rfl, n, h⟩
  refine open2 (run_oneG (m := 8) gb_off pen (by omega) (ev_var rfl) (lg_lst (G := GB heardV p) gb_st (all_cons gb_st (cns (by decide) (by decide)) (all_cons gb_st (cns (by decide) (by decide +kernel)) (all_cons gb_st (cns (by decide) (by decide +kernel)) (all_cons gb_st (cns (by decide) (by decide)) (all_cons gb_st (cns (by decide) (by decide)) (all_cons gb_st (lns pen.there) (all_cons gb_st (cns (by decide) (by decide +kernel)) (all_cons gb_st (cns (by decide) (by decide)) all_nil)))))))) (by decide)) (by decide) fun odd H1 godd off1 pen1 => ?_)
  refine run_oneG (m := 7) gb_off pen1 (by omega) (ev_var rfl) (lg_lst (G := GB wayV p) gb_st (all_cons gb_st (cns (by decide) (by decide)) (all_cons gb_st (cns (by decide) (by decide)) (all_cons gb_st (cns (by decide) (by decide)) (all_cons gb_st (cns (by decide) (by decide)) (all_cons gb_st (lns pen1.there) (all_cons gb_st (cns (by decide) (by decide)) (all_cons gb_st (cns (by decide) (by decide)) all_nil))))))) (by decide)) (by decide) fun wy H2 gwy off2 pen2 => ?_
  refine ⟨by show 2 ≤ sizeLine; decide, fun pt npt => ⟨pt, _, rfl, SqT.of upd_same, rfl, _, _, rfl, _, _, rfl, rfl, ?_⟩⟩
  have e3 := Ex.new (o := .tup [odd, wy]) npt
  have godd3 := (godd.st (Off2.off off2)).st (Off2.of e3)
  have gwy3 := gwy.st (Off2.of e3)
  have pen3 := pen2.ex e3
  have tabs3 := (tabs_off (tabs_off tabs (pen_at pen).choose_spec off1) (pen_at pen1).choose_spec off2).ext e3
  generalize upd H2 pt (.tup [odd, wy]) = H3 at godd3 gwy3 pen3 tabs3
  refine open2 (run_oneG (m := 8) gb_off pen3 (by omega) (ev_var rfl) (lg_lst (G := GB letterV p) gb_st (all_cons gb_st (cns (by decide) (by decide)) (all_cons gb_st (cns (by decide) (by decide +kernel)) (all_cons gb_st (cns (by decide) (by decide +kernel)) (all_cons gb_st (cns (by decide) (by decide)) (all_cons gb_st (cns (by decide) (by decide)) (all_cons gb_st (lns pen3.there) (all_cons gb_st (cns (by decide) (by decide +kernel)) (all_cons gb_st (cns (by decide) (by decide +kernel)) all_nil)))))))) (by decide)) (by decide) fun lt H4 glt off4 pen4 => ?_)
  refine run_oneG (m := 4) gb_off pen4 (by omega) (ev_var rfl) (lg_lst (G := GB letterV p) gb_st (all_cons gb_st (cns (by decide) (by decide +kernel)) (all_cons gb_st (cns (by decide) (by decide)) (all_cons gb_st (cns (by decide) (by decide +kernel)) (all_cons gb_st (cns (by decide) (by decide)) all_nil)))) (by decide)) (by decide) fun far H5 gfar off5 pen5 => ?_
  refine ⟨by show 2 ≤ sizeLine; decide, fun pt npt => ⟨pt, _, rfl, SqT.of upd_same, rfl, _, _, rfl, _, _, rfl, rfl, ?_⟩⟩
  have e6 := Ex.new (o := .tup [lt, far]) npt
  have o6 := ((Off2.off off4).trans (Off2.off off5)).trans (Off2.of e6)
  have godd6 := godd3.st o6
  have gwy6 := gwy3.st o6
  have glt6 := (glt.st (Off2.off off5)).st (Off2.of e6)
  have gfar6 := gfar.st (Off2.of e6)
  have pen6 := pen5.ex e6
  have tabs6 := (tabs_off (tabs_off tabs3 (pen_at pen3).choose_spec off4) (pen_at pen4).choose_spec off5).ext e6
  generalize upd H5 pt (.tup [lt, far]) = H6 at godd6 gwy6 glt6 gfar6 pen6 tabs6
  have nodd := godd6.no (fun _ => rfl)
  have nwy := gwy6.no (fun _ => rfl)
  have nlt := glt6.no (fun _ => rfl)
  have nfar := gfar6.no (fun _ => rfl)
  refine q_hear1 (told := toldX) (xs := [.str "heard", .str "heard"]) (m := n + 4) (PJ.start pen6 tabs6) rfl (fun H' I E Q' h => ⟨_, rfl, _, rfl, _, _, rfl, EOk.gb (godd6.st I.rel), EOk.gb (gwy6.st I.rel), (fun _ d H1 e1 h1 => h d H1 h1 (I.ex e1)), fun y => no_t nodd y⟩) fun q H7 R7 => ?_
  refine q_hear (told := toldX) (xs := [.str "heard", .str "way"]) (m := n + 4) R7 rfl (by show 1 < 1000; decide) rfl (fun H' I E Q' h => ⟨_, rfl, _, rfl, _, _, rfl, eok_s hz12, EOk.gb (gwy6.st I.at0), (fun y => no_f hzv y), fun _ => ⟨(fun _ d H1 e1 h1 => h d H1 h1 (I.ex e1)), fun y => no_t nwy y⟩⟩) fun H8 R8 => ?_
  refine q_hear (told := toldX) (xs := [.str "heard", .str "heard"]) (m := n + 4) R8 rfl (by show 2 < 1000; decide) rfl (fun H' I E Q' h => ⟨_, rfl, _, rfl, _, rfl, _, _, _, rfl, EOk.gb (godd6.st I.at0), EOk.gb (glt6.st I.at0), EOk.gb (gfar6.st I.at0), (fun _ d H1 e1 h1 => h d H1 h1 (I.ex e1)), fun y => no_t nodd y⟩) fun H9 R9 => ?_
  refine q_hear (told := toldX) (xs := [.str "heard", .str "one"]) (m := n + 4) R9 rfl (by show 3 < 1000; decide) rfl (fun H' I E Q' h => ⟨_, rfl, _, rfl, _, rfl, _, _, _, rfl, eok_s hz12, EOk.gb (glt6.st I.at0), EOk.gb (gfar6.st I.at0), (fun y => no_f hzv y), fun _ => ⟨(fun _ d H1 e1 h1 => h d H1 h1 (I.ex e1)), fun y => no_t nlt y⟩⟩) fun H10 R10 => ?_
  refine q_hear (told := toldX) (x := "BadHeard") (fs := [("part", .str "other")]) (xs := [.str "heard", .str "other"]) (m := n + 5) R10 rfl (by show 4 < 1000; decide) rfl (fun H' I E Q' h => ⟨_, rfl, _, rfl, p, c, .str "aknz", n + 4, rfl, I.pen, by omega, .inr ⟨"aknz", rfl, by decide, by decide, fun d H1 hd off pen' => ?_⟩⟩) fun H11 R11 => ?_
  · have I1 := I.off off pen'
    have hd2 : d ∈ letters.cps.toList := (by decide +kernel : ∀ d ∈ ("aknz" : Str).cps.toList, d ∈ letters.cps.toList) d hd
    exact ⟨_, rfl, _, _, _, rfl, eok_s hz12, eok_s (by show 1 ≤ 12; decide), EOk.gb (gfar6.st I1.at0), (fun y => no_f hzv y), fun _ => ⟨(fun y => no_f (one_let hd2) y), fun _ => ⟨(fun _ d H1 e1 h1 => h d H1 h1 (I1.ex e1)), fun y => no_t nfar y⟩⟩⟩
  have mis : ∀ (t1 t2 : Str) (v1 v2 : Bool) (m : Nat) (es : List (Option (List V))) (H' : Hp) (Q' : VK) (E : XK), m ≤ 90000 → (0 < t1.cps.toList.length ∧ t1.cps.toList.length ≤ 1000 ∧ 0 < t2.cps.toList.length ∧ t2.cps.toList.length ≤ 1000) → (∀ d ∈ t1.cps.toList, vow d = v1 ∧ d ∈ letters.cps.toList) → (∀ d ∈ t2.cps.toList, vow d = v2 ∧ d ∈ letters.cps.toList) → (v1 == v2) = false →
      RJ K (Tt K) p c q m H6 H' es → (∀ dx H1, H1 dx = some (.xd [("part", .str "letters")]) → RJ K (Tt K) p c q (m + 2) H6 H1 es → E (.ref (ga K "Misfit")) (some dx) H1) →
      tCall (spExch K) [] E (tCons (tVar 0) (tCons (tCall (spOne K) [] E0 (tCons (tVar 1) (tCons (tC (V.str t1)) tNil))) (tCons (tCall (spOne K) [] E0 (tCons (tVar 1) (tCons (tC (V.str t2)) tNil))) tNil))) (startF ["_law_heard_here", "_law_ear_here"] [] [some (.str z), some (.ref p)]) H' Q' := by
    intro t1 t2 v1 v2 m es H' Q' E hm ⟨s1, s2, s3, s4⟩ h1 h2 hv I h
    refine ⟨_, rfl, _, rfl, p, c, .str t1, m, rfl, I.pen, by omega, .inr ⟨t1, rfl, s1, s2, fun a Ha ha offa pena => ⟨_, rfl, p, c, .str t2, m + 1, rfl, pena, by omega, .inr ⟨t2, rfl, s3, s4, fun b Hb hb offb penb => ?_⟩⟩⟩⟩
    have I2 := (I.off offa pena).off offb penb
    obtain ⟨a1, a2⟩ := h1 a ha
    obtain ⟨b1, b2⟩ := h2 b hb
    refine ⟨_, _, _, rfl, eok_s hz12, eok_s (by show 1 ≤ 12; decide), eok_s (by show 1 ≤ 12; decide), (fun y => no_f hzv y), fun _ => ⟨(fun y => no_f (one_let a2) y), fun _ => ⟨(fun y => no_f (one_let b2) y), fun _ => ?_⟩⟩⟩
    intro z' a' b' _ ea eb
    have ea : a = a' := (str1_eq _ _).mp ea
    have eb : b = b' := (str1_eq _ _).mp eb
    subst ea eb
    exact ⟨fun _ d H1 e1 h1 => h d H1 h1 (I2.ex e1), fun y => no_t (by rw [a1, b1]; exact hv) y⟩
  refine q_hear (told := toldX) (xs := [.str "misfit", .str "letters"]) (m := n + 7) R11 rfl (by show 5 < 1000; decide) rfl (fun H' I E Q' h => mis "aeiou" "knz" true false (n + 5) _ H' Q' E (by omega) (by decide) (by decide +kernel) (by decide +kernel) rfl I h) fun H12 R12 => ?_
  refine q_hear (told := toldX) (xs := [.str "misfit", .str "letters"]) (m := n + 9) R12 rfl (by show 6 < 1000; decide) rfl (fun H' I E Q' h => mis "knz" "aeiou" false true (n + 7) _ H' Q' E (by omega) (by decide) (by decide +kernel) (by decide +kernel) rfl I h) fun H13 R13 => ?_
  have two : ∀ {a b : Str} {σ' : L2.St} {H' : Hp}, EvD K (tTup (tCons (tC (V.str a)) (tCons (tC (V.str b)) tNil))) σ' H' (.tuple [.str a, .str b]) := ed_tup (da_cons ed_str (da_cons ed_str da_nil)) (by show 2 ≤ 100000; decide)
  refine s_ret (v := .bl true) (ev_is (ev_eqD (ed_ev (ev_var rfl) fun H1 e1 => (R13.ex e1).data rfl) (ed_DL (dl_cat (dl_lst (da_cons two (da_cons two (da_cons two (da_cons two (da_cons two da_nil))))) (by decide)) (dl_rep (k := 2) (dl_lst (da_cons two da_nil) (by decide)) ev_c (by decide)) (by decide))) (by decide +kernel) (by decide +kernel)) (by decide +kernel)) fun H14 _ => k H14
end
end K57
set_option Elab.async false
set_option linter.all false
set_option maxRecDepth 100000
set_option maxHeartbeats 4000000
set_option autoImplicit false
/-! a call of what an expression gives: one of several defs. -/
namespace L2
open PySem PySem.Spec PyProof.Rows Evl
def tCallE (S : Addr → Prop) (ty : Addr → Sp) (E : XK) (tf : TE) (ta : TA) : TE := fun σ H Q => tf σ H fun v H1 => ∃ g, v = .ref g ∧ S g ∧ ta σ H1 fun vs H2 => ty g (vs ++ []) H2 Q E
theorem pe_callE {X : Cx} {CX : CXT} {S : Addr → Prop} {ty : Addr → Sp} {E : XK} {f e : Expr} {es : List Expr} {tf : TE} {ta : TA} {pos : Pos} (hf : PE X f tf)
    (fns : ∀ g, S g → ∃ (k : Nat) (fd : FuncData) (ps : List Str), FnOk X.prog X.w X.K X.mg X.base CX k g fd ps (ty g) ∧ Room k X.A ∧ PySem.W.keepIn X.K (.ref g) = true ∧ Binds X.K fd ps []) (hx : Passes CX X E) (ha : PA X (e :: es) ta)
    (he : starEach (e :: es) X.env = (false, eval e X.env) :: starEach es X.env := by rfl) (hpl : (backTo pos (starEach es X.env)).any (·.1) = false := by rfl)
    (ht : eval (.Call f (e :: es) [] pos) X.env = (do callWith pos (← eval f X.env) [] (backTo pos (starEach (e :: es) X.env)) (backToKw pos (keywordEach [] X.env))) := by rfl) :
    PE X (.Call f (e :: es) [] pos) (tCallE S ty E tf ta) := by
  refine ⟨fun pins s σ H Q I h => ?_⟩
  refine Call_ (thn (hf.run pins s σ H _ I h) fun u s1 ⟨x, H1, I1, rx, g, ex, hS, q⟩ => ?_) ht
  subst ex
  obtain rfl : u = Value.ref g := rx
  obtain ⟨k, fd, ps, F, hr, hk, hb⟩ := fns g hS
  refine PySem.W.callWith_K (h₀ := X.base) I1.ok.mod.kin hk (thn (ha.run pos pins s1 σ H1 _ I1 q) fun us s2 ⟨vs, H2, I2, r, q2⟩ => ⟨I2.kIn, ?_⟩) he hpl
  exact run_fn F hr hb .nil hx I2 r q2
end L2
set_option Elab.async false
set_option linter.all false
set_option maxRecDepth 100000
set_option maxHeartbeats 4000000
set_option autoImplicit false
/-! steps by what a reading does, the continuation as it stands; drawn lists; tests that draw and come out false. -/
namespace L2
open PySem PySem.Spec PyProof.Rows Evl
section
variable {K : PySem.W.Frag} {σ : L2.St} {H H' : Hp} {ta tb te tl : TE} {tq tr : TA} {tu tw tz : TS} {t u : TT} {D : Ends} {g : TG} {Q : VK}
theorem op_go {r : R2} (h : ta σ H fun x H1 => tb σ H1 fun y H2 => r x y H2 Q) : tOp r ta tb σ H Q := h
theorem cons_go {N : List V → Hp → Prop} (h : te σ H fun v H1 => tq σ H1 fun vs H2 => N (v :: vs) H2) : tCons te tq σ H N := h
theorem call_go {sp : Sp} {dvs : List V} {E : XK} (h : tq σ H fun vs H1 => sp (vs ++ dvs) H1 Q E) : tCall sp dvs E tq σ H Q := h
theorem ret_go (h : te σ H D.rt) : tRet te D σ H := h
theorem asg_go (h : te σ H fun v H1 => g v σ H1 fun σ1 H2 => tz D σ1 H2) : tSeq (tAsg te g) tz D σ H := h
/-- a loop over a list that is reckoned in the head, by what is reckoned -/
def contL (K : PySem.W.Frag) (R : It → Hp → Prop) : VK := fun x H1 => ∃ a, x = .ref a ∧ (∃ xs, SqL K H1 a xs) ∧ R (Itl K a) H1
def contT (K : PySem.W.Frag) (R : It → Hp → Prop) : VK := fun x H1 => ∃ a, x = .ref a ∧ (∃ xs, SqT K H1 a xs) ∧ R (Itt K a) H1
def forR (g : TG) (tb : TS) (D : Ends) (σ : L2.St) : It → Hp → Prop := fun J H1 => ∃ W : Nat → Nat → L2.St → Hp → Prop, (∃ m, W 0 m σ H1) ∧ ∀ i m σ H, W i m σ H →
  (J.stop i H ∧ D.nx σ H) ∨ (J.go i H ∧ ∃ N : L2.St → Hp → Prop, (∀ σ' H', N σ' H' → ∃ m', m' < m ∧ W (i + 1) m' σ' H') ∧ ∀ x H', J.yld i H x H' → g x σ H' fun σ2 H2 => tb { D with nx := N, ct := N, bk := D.nx } σ2 H2)
theorem q_forI (h : ∀ R : It → Hp → Prop, (∀ (a : Addr) (xs : List V) (H1 : Hp) (Pv : Nat → L2.St → Hp → Prop), Pv 0 σ H1 → (∀ i σ' H', i ≤ xs.length → Pv i σ' H' → SqL K H' a xs) →
      (∀ i x σ' H', xs[i]? = some x → Pv i σ' H' → g x σ' H' fun σ2 H2 => tu { D with nx := Pv (i + 1), ct := Pv (i + 1), bk := tz D } σ2 H2) → (∀ σ' H', Pv xs.length σ' H' → tz D σ' H') → R (Itl K a) H1) → tl σ H (contL K R)) :
    tSeq (tFor (iList K tl) g tu) tz D σ H := h (forR g tu { D with nx := tz D } σ) fun a xs H1 Pv h0 hl hs hd => for_list (D := { D with nx := tz D }) Pv h0 hl hs hd
theorem s_forI (h : ∀ R : It → Hp → Prop, (∀ (a : Addr) (xs : List V) (H1 : Hp) (Pv : Nat → L2.St → Hp → Prop), Pv 0 σ H1 → (∀ i σ' H', i ≤ xs.length → Pv i σ' H' → SqL K H' a xs) →
      (∀ i x σ' H', xs[i]? = some x → Pv i σ' H' → g x σ' H' fun σ2 H2 => tu { D with nx := Pv (i + 1), ct := Pv (i + 1), bk := D.nx } σ2 H2) → (∀ σ' H', Pv xs.length σ' H' → D.nx σ' H') → R (Itl K a) H1) → tl σ H (contL K R)) :
    tFor (iList K tl) g tu D σ H := h (forR g tu D σ) fun a xs H1 Pv h0 hl hs hd => for_list Pv h0 hl hs hd
/-- comes out so, R behind it -/
def BoolT (t : TT) (σ : L2.St) (H : Hp) (b : Bool) (R : Hp → Prop) : Prop := ∀ Q : Bool → Hp → Prop, (∀ H2, R H2 → Q b H2) → t σ H Q
theorem bt_ev {b : Bool} {R : Hp → Prop} (h : EvT t σ H b) (k : ∀ H1, Ex H H1 → R H1) : BoolT t σ H b R := fun Q q => h H (Ex.refl H) _ fun H1 e => q H1 (k H1 e)
theorem bt_and {b : Bool} {R : Hp → Prop} (h1 : EvT t σ H true) (h2 : ∀ H1, Ex H H1 → BoolT u σ H1 b R) : BoolT (tAnd t u) σ H b R := fun Q q => h1 H (Ex.refl H) _ fun H1 e1 => by
  rw [if_pos rfl]
  exact h2 H1 e1 Q q
theorem bt_test {b : Bool} {R : Hp → Prop} (h : ∀ Q : VK, (∀ H2, R H2 → Q (.bl b) H2) → te σ H Q) : BoolT (tTest te) σ H b R := fun Q q => h _ fun H2 r => ⟨b, rfl, q H2 r⟩
theorem bt_or {b : Bool} {R : Hp → Prop} (h1 : EvT t σ H false) (h2 : ∀ H1, Ex H H1 → BoolT u σ H1 b R) : BoolT (tOr t u) σ H b R := fun Q q => h1 H (Ex.refl H) _ fun H1 e1 => by
  rw [if_neg (by decide)]
  exact h2 H1 e1 Q q
theorem bt_orB {b : Bool} {R R2 : Hp → Prop} (h1 : BoolT t σ H false R) (h2 : ∀ H1, R H1 → BoolT u σ H1 b R2) : BoolT (tOr t u) σ H b R2 := fun Q q => h1 _ fun H1 r => by
  rw [if_neg (by decide)]
  exact h2 H1 r Q q
theorem bt_not {b : Bool} {R : Hp → Prop} (h : BoolT t σ H b R) : BoolT (tNot t) σ H (!b) R := fun Q q => h _ fun H1 r => q H1 r
theorem bt_B {b : Bool} {R : Hp → Prop} (h : ∀ Q : VK, (∀ H2, R H2 → Q (.bl b) H2) → te σ H Q) : BoolT (tB te) σ H b R := fun Q q => h _ fun H2 r => ⟨b, rfl, q H2 r⟩
theorem s_whenF {R : Hp → Prop} (h : BoolT t σ H false R) (k : ∀ H1, R H1 → D.nx σ H1) : tIfS t tu tNext D σ H := h _ fun H1 r => by
  rw [if_neg (by decide)]
  exact k H1 r
theorem q_whenF {R : Hp → Prop} (h : BoolT t σ H false R) (k : ∀ H1, R H1 → tz D σ H1) : tSeq (tIfS t tu tNext) tz D σ H := s_whenF (D := { D with nx := tz D }) h k
/-- [e for t in range(M)], each item drawn by so many draws -/
theorem lc_penC {p c : Addr} {n0 S M : Nat} {j : Nat} {vs : List Nat} {R : V → Prop} (hP : PenAt K n0 H p c) (hM : M ≤ 1000) (hw : ∀ x, wipe ((wipe σ vs).set j (some x)) vs = wipe σ vs)
    (hte : ∀ (i k : Nat) H1, i < M → k ≤ n0 + S * M → Off p H H1 → PenAt K k H1 p c → ∀ Q' : VK, (∀ x H2, R x → Off p H1 H2 → PenAt K (k + S) H2 p c → Q' x H2) → te ((wipe σ vs).set j (some (.int (i : Nat)))) H1 Q')
    (hQ : ∀ (xs : List V) (l : Addr) H2, xs.length = M → (∀ x ∈ xs, R x) → H2 l = some (.lst xs) → l ≠ p → H l = none → Off p H H2 → PenAt K (n0 + S * M) H2 p c → Q (.ref l) H2) :
    tLc (iRng1 (tCons (tC (.int (M : Nat))) tNil)) (gName j) tYes te vs σ H Q := by
  refine ⟨(M : Int), rfl, by omega, by omega, fun Dl hD => ?_⟩
  obtain ⟨op, hp1⟩ := hP.there
  have hDp : p ≠ Dl := ne_of_none hp1 hD
  refine lc_range (lo := 0) (n := (M : Int).toNat) (fun i H' => ∃ acc, H' Dl = some (.lst acc) ∧ acc.length = i ∧ (∀ x ∈ acc, R x) ∧ Off p H H' ∧ PenAt K (n0 + S * i) H' p c) ⟨[], upd_same, rfl, fun x hx => (nomatch hx), Off.of (Ex.new hD), hP.ex (Ex.new hD)⟩ ?_ ?_
  · rintro i H' hi ⟨acc, ha, hlen, hR, off2, pen2⟩
    have hi2 : i < M := by omega
    have e0 : (0 : Int) + (i : Int) = (i : Int) := Int.zero_add _
    show wipe ((wipe σ vs).set j (some (.int ((0 : Int) + (i : Int))))) vs = wipe σ vs ∧ te ((wipe σ vs).set j (some (.int ((0 : Int) + (i : Int))))) H' fun y H4 => ∃ acc, H4 Dl = some (.lst acc) ∧ acc.length < sizeLine ∧ _
    rw [e0]
    refine ⟨hw _, hte i (n0 + S * i) H' hi2 (Nat.add_le_add_left (Nat.mul_le_mul_left S (Nat.le_of_lt hi2)) n0) off2 pen2 _ fun x H2 hx off3 pen3 => ⟨acc, off3 _ _ ha (Ne.symm hDp), sz_lt (by omega), acc ++ [x], upd_same, ?_, ?_, He.Off.mut (off2.trans off3) hD, ?_⟩⟩
    · rw [List.length_append, hlen]
      rfl
    · intro y hy
      rcases List.mem_append.mp hy with hy | hy
      · exact hR y hy
      · rw [List.mem_singleton.mp hy]
        exact hx
    · have z := PenAt.mut (o := .lst (acc ++ [x])) hP hD pen3
      rw [Nat.add_assoc, ← Nat.mul_succ] at z
      exact z
  · rintro H' ⟨acc, ha, hlen, hR, off2, pen2⟩
    have hm : (M : Int).toNat = M := Int.toNat_natCast M
    rw [hm] at hlen pen2
    exact hQ acc Dl H' hlen hR ha (Ne.symm hDp) hD off2 pen2
end
end L2
set_option Elab.async false
set_option linter.all false
set_option maxRecDepth 100000
set_option maxHeartbeats 4000000
set_option autoImplicit false
namespace K57
open PySem PySem.Spec PyProof.Rows L2 He Evl TL Lam LamX NdefX Odd
def spChkR (K : PySem.W.Frag) : Sp := fun vs H Q _ => ∃ (p c : Addr) (n : Nat), vs = [.ref p] ∧ PenAt K n H p c ∧ n ≤ 80000 ∧ Tabs (Tt K) H ∧ ∀ H', Tabs (Tt K) H' → PenAt K (n + 40) H' p c → Q (.bl true) H'
def SCV (K : PySem.W.Frag) (g : Addr) : Prop := g = ga K "consonant_of" ∨ g = ga K "vowel_of"
def tyCV (K : PySem.W.Frag) (g : Addr) : Sp := if g = ga K "consonant_of" then spCons K else spVow K
def consS : Str := "bcdfghjklmnpqrstvwxyz"
theorem cons_iff (d : Nat) : consS.cps.toList.contains d = (decide (d ∈ letters.cps.toList) && !vow d) := by
  by_cases h : d < 128
  · have z : ∀ d < 128, consS.cps.toList.contains d = (decide (d ∈ letters.cps.toList) && !vow d) := by decide +kernel
    exact z d h
  · have z1 : ∀ c ∈ consS.cps.toList, c < 128 := by decide +kernel
    have z2 : ∀ c ∈ letters.cps.toList, c < 128 := by decide +kernel
    rw [decide_eq_false (fun m => h (z2 d m)), Bool.false_and]
    rw [← Bool.not_eq_true, List.contains_iff_mem]
    exact fun m => h (z1 d m)
theorem vow_let {d : Nat} (h : vow d = true) : d ∈ letters.cps.toList := by
  have z : ∀ c ∈ vowels.cps.toList, c ∈ letters.cps.toList := by decide +kernel
  exact z d (of_decide_eq_true h)
theorem inv_vow (d : Nat) : inV (.str ⟨#[d]⟩) (signsV "aeiou") = vow d := by
  rw [show signsV "aeiou" = vowels.cps.toList.map fun c => V.str ⟨#[c]⟩ from rfl, inv_sign]
  unfold vow
  rw [Bool.eq_iff_iff, List.contains_iff_mem, decide_eq_true_eq]
theorem inv_cons (d : Nat) : inV (.str ⟨#[d]⟩) ([.str ""] ++ signsV consS) = (decide (d ∈ letters.cps.toList) && !vow d) := by
  rw [← cons_iff, ← inv_sign]
  show (((("" : Str) == (⟨#[d]⟩ : Str))) || inV (.str ⟨#[d]⟩) (signsV consS)) = _
  rw [show ((("" : Str) == (⟨#[d]⟩ : Str))) = false from rfl, Bool.false_or]
  rfl
theorem due_value (z : Str) : (inV (.int (z.length : Nat)) [.int 1, .int 2] && (inV (.str (lastOf z)) (signsV "aeiou") && inV (.str (butLast z)) ([.str ""] ++ signsV consS))) = valueB z := by
  obtain ⟨⟨l⟩⟩ := z
  match l with
  | [] => rfl
  | [c] =>
    show (true && (inV (.str ⟨#[c]⟩) (signsV "aeiou") && true)) = ((decide ((1 : Nat) ≤ 1) && decide ((1 : Nat) ≤ 12) && ([c].all fun c => decide (c ∈ letters.cps.toList))) && decide ((1 : Nat) ≤ 2) && vow c && (decide ((1 : Nat) = 1) || !vow c))
    rw [inv_vow]
    cases h : vow c with
    | false => simp
    | true => simp [show c ∈ letters.cps by simpa using vow_let h]
  | [b, c] =>
    show (true && (inV (.str ⟨#[c]⟩) (signsV "aeiou") && inV (.str ⟨#[b]⟩) ([.str ""] ++ signsV consS))) = ((decide ((1 : Nat) ≤ 2) && decide ((2 : Nat) ≤ 12) && ([b, c].all fun c => decide (c ∈ letters.cps.toList))) && decide ((2 : Nat) ≤ 2) && vow c && (decide ((2 : Nat) = 1) || !vow b))
    rw [inv_vow, inv_cons]
    cases h : vow c with
    | false => simp
    | true =>
      have h2 := decide_eq_true (vow_let h)
      simp [show c ∈ letters.cps by simpa using vow_let h]
  | a :: b :: c :: r =>
    have e1 : inV (.int (((⟨⟨a :: b :: c :: r⟩⟩ : Str).length : Nat) : Int)) [.int 1, .int 2] = false := by
      show (((1 : Int) == ((r.length + 3 : Nat) : Int)) || (((2 : Int) == ((r.length + 3 : Nat) : Int)) || false)) = false
      rw [beq_eq_false_iff_ne.mpr (by omega), beq_eq_false_iff_ne.mpr (by omega)]
      rfl
    have e2 : decide ((⟨⟨a :: b :: c :: r⟩⟩ : Str).length ≤ 2) = false := decide_eq_false (by show ¬ (r.length + 3 ≤ 2); omega)
    rw [e1]
    unfold valueB
    rw [e2]
    simp
theorem due_heard (z : Str) : (decide ((0 : Int) < (z.length : Nat)) && decide (((z.length : Nat) : Int) < 13) && decide (((z.cps.toList.filter fun c => !(decide (c ∈ letters.cps.toList))).map fun c => V.str ⟨#[c]⟩) = [])) = heardB z := by
  unfold heardB
  congr 1
  · congr 1
    · exact decide_eq_decide.mpr (by omega)
    · exact decide_eq_decide.mpr (by omega)
  · rw [Bool.eq_iff_iff, decide_eq_true_eq, List.map_eq_nil_iff, List.filter_eq_nil_iff, List.all_eq_true]
    constructor
    · intro h c hc
      have := h c hc
      revert this
      cases decide (c ∈ letters.cps.toList) <;> simp
    · intro h c hc
      rw [h c hc]
      simp
theorem EOk.gv {K : PySem.W.Frag} {H : Hp} {p : Addr} {v : V} (h : GV p v H) : EOk K H v := by
  rcases h with h | ⟨a, rfl, _, ⟨xs, z⟩ | ⟨xs, z⟩⟩
  · exact ⟨⟨_, sc_kd h⟩, fun z hz => by subst hz; exact of_decide_eq_true h⟩
  · exact ⟨⟨_, kd_lst z⟩, fun y e => nomatch (show V.ref a = V.str y from e)⟩
  · exact ⟨⟨_, kd_tup z⟩, fun y e => nomatch (show V.ref a = V.str y from e)⟩
theorem heardT_of {K : PySem.W.Frag} {tl : XK → Hp → VK → Prop} {H : Hp} {Q : VK} (h : heardG toldX K tl H Q) : heardT K tl H Q := h
theorem callE_go {S : Addr → Prop} {ty : Addr → Sp} {E : XK} {tf : TE} {ta : TA} {σ : L2.St} {H : Hp} {Q : VK} (h : tf σ H fun v H1 => ∃ g, v = .ref g ∧ S g ∧ ta σ H1 fun vs H2 => ty g (vs ++ []) H2 Q E) : tCallE S ty E tf ta σ H Q := h
section
variable {P : Program} {w : World} {K : PySem.W.Frag} {mg : Str → Option Value} {base : Heap}
theorem fns_cv {A : Around} {k : Nat} (T : Tx K mg) (hr : Room k A) (hk : 4 ≤ k) : ∀ g, SCV K g → ∃ (k : Nat) (fd : FuncData) (ps : List Str), FnOk P w K mg base (L2.CX P w) k g fd ps (tyCV K g) ∧ Room k A ∧ PySem.W.keepIn K (.ref g) = true ∧ Binds K fd ps [] := by
  intro g hg
  unfold tyCV
  by_cases h : g = ga K "consonant_of"
  · subst h
    rw [if_pos rfl]
    exact ⟨4, _, _, ok_consonant_of T, hr.mono hk, T.f_consonant_of.kp, b_consonant_of T⟩
  · rw [if_neg h]
    obtain rfl := hg.resolve_left h
    exact ⟨4, _, _, ok_vowel_of T, hr.mono hk, T.f_vowel_of.kp, b_vowel_of T⟩
theorem ok_l_checks_right (T : Tx K mg) (B : TabB base mg (cT K defC).1 (cT K defC).2) (ne : (cT K defC).2 ≠ (cT K defR).2) : FnOk P w K mg base CX0 9 (fAd K defC) (fdOf K defC) ["_law_ear_here"] (spChkR K) := by
  refine funD_okC T.f_l_checks_right sc_l_checks_right (fun vs H Q E h => by obtain ⟨p, c, n, rfl, _⟩ := h; rfl) (fun A outer s H vs Q E hr h => ?_)
  have hu : (A.deeper (envOfC "_law_checks_right" (defScope s_l_checks_right) s.heap.objs.size (fAd K defC) (.ref (codeOf K defC)))).units + 64 < cLine := by have := hr.units; omega
  have hu1 : (A.deeper (envOfC "_law_checks_right" (defScope s_l_checks_right) s.heap.objs.size (fAd K defC) (.ref (codeOf K defC)))).units < cLine := by omega
  refine ⟨_, PSs.nox (pss_cons (ps_set (i := 1) sc_l_checks_right.nd rfl (.inr rfl) (pe_lst (pa_cons pe_str (pa_cons pe_str (pa_cons pe_str (pa_cons pe_str (pa_cons pe_str (pa_cons pe_str (pa_cons pe_str (pa_cons pe_str (pa_cons pe_str (pa_cons pe_str (pa_cons pe_str (pa_cons pe_str (pa_cons pe_str (pa_cons pe_str (pa_cons pe_non (pa_cons pe_int (pa_cons pe_bl (pa_cons (pe_lst (pa_cons pe_str (pa_cons pe_str pa_nil))) (pa_cons (pe_tup (pa_cons pe_str pa_nil)) (pa_cons pe_str pa_nil))))))))))))))))))))))
    (pss_cons (ps_set (i := 2) sc_l_checks_right.nd rfl (.inr rfl) pe_str)
    (pss_cons (ps_for PassesOwn.never rfl (pi_list (pe_op op_cat (pe_lc (own := [("_law_turn", 4)]) (g := (gName 4)) (tt := tYes) rfl sc_l_checks_right.nd (pi_range1 (by rfl) T.n_range (pa_cons pe_int pa_nil)) (blkOk_by (N := ["_law_ear_here", "_law_values", "_law_letters", "_law_value", "_law_turn", "_law_due", "_law_words", "_law_sign"]) (sc := defScope s_l_checks_right) (by decide +kernel)) (fun _ _ _ _ _ => pg_name (i := 4) sc_l_checks_right.nd rfl (Or.inl rfl)) (fun _ _ _ _ _ => pts_nil) (fun _ _ _ _ _ => (pe_call (ok_l_one T) (hr.mono (by decide)) (by rfl) T.g_l_one T.f_l_one.kp (b_l_one T) .nil pass0 (pa_cons (pv 0) (pa_cons (pv 1) pa_nil))))) (pe_lc (own := [("_law_turn", 4)]) (g := (gName 4)) (tt := tYes) rfl sc_l_checks_right.nd (pi_range1 (by rfl) T.n_range (pa_cons pe_int pa_nil)) (blkOk_by (N := ["_law_ear_here", "_law_values", "_law_letters", "_law_value", "_law_turn", "_law_due", "_law_words", "_law_sign"]) (sc := defScope s_l_checks_right) (by decide +kernel)) (fun _ _ _ _ _ => pg_name (i := 4) sc_l_checks_right.nd rfl (Or.inl rfl)) (fun _ _ _ _ _ => pts_nil) (fun _ _ _ _ _ => (pe_op op_add_str (pe_call (ok_l_one T) (hr.mono (by decide)) (by rfl) T.g_l_one T.f_l_one.kp (b_l_one T) .nil pass0 (pa_cons (pv 0) (pa_cons (pv 2) pa_nil))) (pe_call (ok_l_one T) (hr.mono (by decide)) (by rfl) T.g_l_one T.f_l_one.kp (b_l_one T) .nil pass0 (pa_cons (pv 0) (pa_cons (pe_op op_add_str (pv 2) pe_str) pa_nil)))))))) (pg_name (i := 3) sc_l_checks_right.nd rfl (.inr rfl))
      (pss_cons (ps_set (i := 5) sc_l_checks_right.nd rfl (.inl rfl) (pe_and (pe_callB call_isi (by rfl) T.n_isinstance (by decide +kernel) (pa_cons (pv 3) (pa_cons (pe_bltn (v := .ty "str") (by rfl) T.n_str (by decide +kernel) rfl) pa_nil))) (pe_and (pe_cmpR op_in_seq (pe_callB call_len (by rfl) T.n_len boot_len (pa_cons (pv 3) pa_nil)) (pe_tup (pa_cons pe_int (pa_cons pe_int pa_nil))) (by rfl)) (pe_and (pe_cmpR op_in_seq (pe_ix ix_str (pv 3) (pe_un un_neg pe_int) (fun _ _ => rfl)) (pe_callTy (call_listStr rfl) (by rfl) T.n_list (by decide +kernel) (pa_cons pe_str pa_nil)) (by rfl)) (pe_one (pe_cmpR op_in_seq (pe_slice sl_str (pv 3) po_none (po_some (pe_un un_neg pe_int))) (pe_op op_cat (pe_lst (pa_cons pe_str pa_nil)) (pe_callTy (call_listStr rfl) (by rfl) T.n_list (by decide +kernel) (pa_cons pe_str pa_nil))) (by rfl)))))))
      (pss_cons (ps_if (PW.pt (pw_or (pt_cmpR op_ne (pe_call (ok_is_value T) (hr.mono (by decide)) (by rfl) T.g_is_value T.f_is_value.kp (b_is_value T) .nil pass0 (pa_cons (pv 3) pa_nil)) (pv 5) (nomark _)) (pw_or1 (pt_cmpR op_ne (pe_callN0 (ok_is_value T) (hr.mono (by decide)) (by rfl) T.g_is_value T.f_is_value.kp (kb_is_value_value_0 T) pass0 (pk_cons (pv 3) pk_nil)) (pv 5) (nomark _)))))
        (pss_one (ps_ret pe_bl))
        pss_nil)
      (pss_one (ps_if (PW.pt (pw_and (pt_not (pt_val (pv 5))) (pw_and1 (pt_cmpR (op_neU2 hu1) (pe_hearL (k := 5) (T := Tt K) (q := lamC) (c := (cT K defC).1) (P := (cT K defC).2) (fr := ["_law_value", "_law_ear_here"]) (js := [3, 0]) B rfl rfl memC (oneC ne) (lamS_by (sc := defScope s_l_checks_right) (by decide +kernel)) rfl (by decide +kernel) rfl (nscope_by (by decide +kernel)) (fun _ _ _ _ => rfl) (fun cl c' f A outer s H E hr => (pe_callE (pe_call (ok_l_one T) (hr.mono (by decide)) (by rfl) T.g_l_one T.f_l_one.kp (b_l_one T) .nil pass0 (pa_cons (pv 1) (pa_cons (pe_lst (pa_cons (pe_glob (v := .ref (ga K "consonant_of")) (by rfl) T.g_consonant_of rfl) (pa_cons (pe_glob (v := .ref (ga K "vowel_of")) (by rfl) T.g_vowel_of rfl) pa_nil))) pa_nil))) (fns_cv T hr (by decide)) (passes_call (takes_of rfl rfl rfl rfl) (fun _ _ _ _ h => h)) (pa_cons (pv 0) pa_nil))) (ok_l_heard T) heard_mono hr (by decide) (by rfl) T.g_l_heard T.f_l_heard.kp pass0) (pe_tup (pa_cons pe_str (pa_cons pe_str pa_nil))) (nomark _)))))
        (pss_one (ps_ret pe_bl))
        pss_nil)))))
    (pss_cons (ps_set (i := 6) sc_l_checks_right.nd rfl (.inr rfl) (pe_lst (pa_cons pe_str (pa_cons pe_str (pa_cons pe_str (pa_cons pe_str (pa_cons pe_str (pa_cons pe_str (pa_cons pe_str (pa_cons pe_non (pa_cons pe_int (pa_cons (pe_lst (pa_cons pe_str pa_nil)) (pa_cons pe_str (pa_cons pe_bl (pa_cons pe_str pa_nil)))))))))))))))
    (pss_cons (ps_for PassesOwn.never rfl (pi_list (pe_lc (own := [("_law_turn", 4)]) (g := (gName 4)) (tt := tYes) rfl sc_l_checks_right.nd (pi_range1 (by rfl) T.n_range (pa_cons pe_int pa_nil)) (blkOk_by (N := ["_law_ear_here", "_law_values", "_law_letters", "_law_value", "_law_turn", "_law_due", "_law_words", "_law_sign"]) (sc := defScope s_l_checks_right) (by decide +kernel)) (fun _ _ _ _ _ => pg_name (i := 4) sc_l_checks_right.nd rfl (Or.inl rfl)) (fun _ _ _ _ _ => pts_nil) (fun _ _ _ _ _ => (pe_call (ok_l_one T) (hr.mono (by decide)) (by rfl) T.g_l_one T.f_l_one.kp (b_l_one T) .nil pass0 (pa_cons (pv 0) (pa_cons (pv 6) pa_nil)))))) (pg_name (i := 3) sc_l_checks_right.nd rfl (.inr rfl))
      (pss_cons (ps_set (i := 5) sc_l_checks_right.nd rfl (.inl rfl) (pe_and (pe_callB call_isi (by rfl) T.n_isinstance (by decide +kernel) (pa_cons (pv 3) (pa_cons (pe_bltn (v := .ty "str") (by rfl) T.n_str (by decide +kernel) rfl) pa_nil))) (pe_and (pe_chain op_lt op_lt pe_int (pe_callB call_len (by rfl) T.n_len boot_len (pa_cons (pv 3) pa_nil)) pe_int) (pe_one (pe_cmpR (op_eqL hu1) (pe_lc (own := [("_law_sign", 7)]) (g := (gName 7)) (tt := tTest (tOp (rIn K true) (tVar 7) (tCB rListStr (tCons (tC (V.str "abcdefghijklmnopqrstuvwxyz")) tNil)))) rfl sc_l_checks_right.nd (pi_str (pv 3)) (blkOk_by (N := ["_law_ear_here", "_law_values", "_law_letters", "_law_value", "_law_turn", "_law_due", "_law_words", "_law_sign"]) (sc := defScope s_l_checks_right) (by decide +kernel)) (fun _ _ _ _ _ => pg_name (i := 7) sc_l_checks_right.nd rfl (Or.inl rfl)) (fun _ _ _ _ _ => pts_one (pt_cmpR op_notIn_seq (pv 7) (pe_callTy (call_listStr rfl) (by rfl) T.n_list (by decide +kernel) (pa_cons pe_str pa_nil)) (by rfl))) (fun _ _ _ _ _ => (pv 7))) (pe_lst pa_nil) (nomark _))))))
      (pss_one (ps_if (pt_cmpR op_ne (pe_callN0 (ok_is_heard T) (hr.mono (by decide)) (by rfl) T.g_is_heard T.f_is_heard.kp (kb_is_heard_value_0 T) pass0 (pk_cons (pv 3) pk_nil)) (pv 5) (nomark _))
        (pss_one (ps_ret pe_bl))
        pss_nil))))
    (pss_one (ps_ret (pe_cmpR (op_eqD hu) (pe_glob (v := .ref (ga K "WAYS")) (by rfl) T.g_WAYS rfl) (pe_tup (pa_cons pe_str (pa_cons pe_str pa_nil))) (nomark _))))))))), ?_⟩
  -- slots: [(0, '_law_ear_here'), (1, '_law_values'), (2, '_law_letters'), (3, '_law_value'), (4, '_law_turn'), (5, '_law_due'), (6, '_law_words'), (7, '_law_sign')]
  obtain ⟨p, c, n, rfl, pen, hn, tabs, k⟩ := h
  refine q_asgD ((lg_lst (G := GV p) (m := 20) gv_st (all_cons gv_st (gv_c (by decide)) (all_cons gv_st (gv_c (by decide)) (all_cons gv_st (gv_c (by decide)) (all_cons gv_st (gv_c (by decide)) (all_cons gv_st (gv_c (by decide)) (all_cons gv_st (gv_c (by decide)) (all_cons gv_st (gv_c (by decide)) (all_cons gv_st (gv_c (by decide)) (all_cons gv_st (gv_c (by decide)) (all_cons gv_st (gv_c (by decide)) (all_cons gv_st (gv_c (by decide)) (all_cons gv_st (gv_c (by decide)) (all_cons gv_st (gv_c (by decide)) (all_cons gv_st (gv_c (by decide)) (all_cons gv_st (gv_c (by decide)) (all_cons gv_st (gv_c (by decide)) (all_cons gv_st (gv_c (by decide)) (all_cons gv_st (gv_l pen.there (ea_cons ev_c (ea_cons ev_c ea_nil)) (by decide)) (all_cons gv_st (gv_t pen.there (ea_cons ev_c ea_nil) (by decide)) (all_cons gv_st (gv_c (by decide)) all_nil)))))))))))))))))))) (by decide)) H (Ex.refl H) _ fun l vs H1 nl e1 hl len all => ?_)
  refine q_asg ev_c fun H2 e2 => ?_
  have e02 := e1.trans e2
  have lp : l ≠ p := (ne_of_none (pen_at pen).choose_spec nl).symm
  have hl2 := e2 _ _ hl
  have pen2 := pen.ex e02
  have tabs2 := tabs.ext e02
  have g2 : ∀ v ∈ vs, GV p v H2 := fun v hv => (all v hv).st (Off2.of e2)
  refine q_forI fun R hR => op_go (lc_penC (S := 1) (M := 6) (R := fun v => v ∈ vs) pen2 (by decide) (fun _ => rfl) (fun i k' H3 hi hk off pen3 Q' q => ⟨_, rfl, _, rfl, p, c, .ref l, k', rfl, pen3, by omega, .inl ⟨l, vs, rfl, SqL.of (off _ _ hl2 lp), lp, by omega, by omega, fun j x H4 hx off' pen' => q x H4 (List.mem_of_getElem? hx) off' pen'⟩⟩) fun xs1 a1 H3 len1 all1 h1 na1 nH1 off3 pen3 => ?_)
  refine lc_penC (S := 2) (M := 6) (R := fun v => ∃ s : Str, v = .str s ∧ s.length ≤ 2) pen3 (by decide) (fun _ => rfl) (fun i k' H4 hi hk off pen4 Q' q => ?_) fun xs2 a2 H4 len2 all2 h2 na2 nH2 off4 pen4 => ?_
  · exact ⟨_, rfl, _, rfl, p, c, .str "abcdefghijklmnopqrstuvwxyz", k', rfl, pen4, by omega, .inr ⟨_, rfl, by decide +kernel, by decide +kernel, fun d H5 hd off' pen' => ⟨_, rfl, _, rfl, _, _, rfl, rfl, by decide, p, c, .str ("abcdefghijklmnopqrstuvwxyz" ++ "aeiouaeiouaeiou"), k' + 1, rfl, pen', by omega, .inr ⟨_, rfl, by decide +kernel, by decide +kernel, fun d2 H6 hd2 off'' pen'' => ⟨⟨#[d]⟩, ⟨#[d2]⟩, rfl, rfl, by show 1 + 1 ≤ sizeLine; decide, q _ H6 ⟨_, rfl, by show 2 ≤ 2; decide⟩ (off'.trans off'') pen''⟩⟩⟩⟩⟩
  refine ⟨a1, a2, xs1, xs2, rfl, rfl, off4 _ _ h1 na1, h2, sz_of (by omega), fun r nr => ⟨r, rfl, ⟨_, SqL.of upd_same⟩, ?_⟩⟩
  have e5 := Ex.new (o := .lst (xs1 ++ xs2)) nr
  have rp : r ≠ p := (ne_of_none (pen_at pen4).choose_spec nr).symm
  have o25 := ((Off2.off off3).trans (Off2.off off4)).trans (Off2.of e5)
  have pen5 := pen4.ex e5
  have tabs5 := (tabs_off (tabs_off tabs2 (pen_at pen2).choose_spec off3) (pen_at pen3).choose_spec off4).ext e5
  have hr5 : upd H4 r (.lst (xs1 ++ xs2)) r = some (.lst (xs1 ++ xs2)) := upd_same
  have gx : ∀ v ∈ xs1 ++ xs2, GV p v (upd H4 r (.lst (xs1 ++ xs2))) := fun v hv => by
    rcases List.mem_append.mp hv with h | h
    · exact (g2 v (all1 v h)).st o25
    · obtain ⟨s, rfl, hs⟩ := all2 v h
      exact .inl (decide_eq_true (by omega))
  generalize upd H4 r (.lst (xs1 ++ xs2)) = H5 at o25 pen5 tabs5 hr5 gx
  have isi : ∀ {σ' : L2.St} {x : V} {H6 : Hp}, σ'[3]? = some (some x) → GV p x H6 → Ev (tCB (rIsi K) (tCons (tVar 3) (tCons (tC (V.ty "str")) tNil))) σ' H6 (.bl (isStr x)) := fun h g => by
    obtain ⟨T', hk⟩ := g.kd (K := K)
    exact ev_is (ev_cb (ea_cons (ev_var h) (ea_cons ev_c ea_nil)) (rc_isi hk (by decide))) (congrArg V.bl (kd_str_eq hk))
  refine hR r (xs1 ++ xs2) H5 (fun i σ' H' => (∃ u3 u4 u5, σ' = [some (.ref p), some (.ref l), some (.str "abcdefghijklmnopqrstuvwxyz"), u3, u4, u5, none, none]) ∧ Off2 [p] H5 H' ∧ PenAt K (n + 18 + i) H' p c ∧ Tabs (Tt K) H') ⟨⟨_, _, _, rfl⟩, Off2.refl _ _, pen5, tabs5⟩ (fun i σ' H' _ ⟨_, o, _, _⟩ => SqL.of (off2_at o rp hr5 fun _ y => nomatch y)) ?_ ?_
  · rintro i x σ' H6 hx ⟨⟨u3, u4, u5, rfl⟩, o6, pen6, tabs6⟩
    have i12 : i < 12 := by
      have := (List.getElem?_eq_some_iff.mp hx).1
      rw [List.length_append] at this
      omega
    have gx6 := (gx x (List.mem_of_getElem? hx)).st o6
    refine q_asg (v := .bl (valueV x)) ?_ fun H7 e7 => ?_
    · by_cases hs : isStr x = true
      · obtain ⟨z, rfl⟩ : ∃ z, x = .str z := by
          cases x with
          | str z => exact ⟨z, rfl⟩
          | _ => cases hs
        have hz : z.length ≤ 1000 := by
          rcases gx6 with h | ⟨a, h, _⟩
          · exact of_decide_eq_true h
          · cases h
        refine ev_is (ev_andV (a := true) (ev_is (isi rfl gx6) (congrArg V.bl hs)) fun _ => ev_andV (ev_inU (ev_lenZ (ev_var rfl) hz) (eu_tup (ea_cons ev_c (ea_cons ev_c ea_nil)) (by decide)) rfl rfl) fun hlen => ev_andV (ev_opL (ev_op (ev_var rfl) (ev_neg ev_c) (rv_ixS (c := z.cps.toList.getLastD 0) (show z.length ≤ 100000 by omega) ?_)) el_vows fun p H hp _ => rv_isL (SqL.of hp) rfl flat_vows) fun _ => ev_opL (ev_is (ev_slS (ev_var rfl) eo_none (eo_some (ev_neg ev_c)) hz) (congrArg V.str (cut_butS ?_))) (el_catL (el_lst (ea_cons ev_c ea_nil) (by decide)) (el_listS (z := consS) ev_c (by decide)) (by decide)) fun p H hp _ => rv_isL (SqL.of hp) rfl (by decide +kernel)) (congrArg V.bl ((Bool.true_and _).trans (due_value z)))
        · have hne : z.cps.toList ≠ [] := fun e => by
            have e2 : z.length = 0 := by
              have e3 : z.length = z.cps.toList.length := (Array.length_toList).symm
              rw [e3, e]; rfl
            rw [e2] at hlen
            exact absurd hlen (by decide)
          obtain ⟨l0, a, hl0⟩ : ∃ l0 a, z.cps.toList = l0 ++ [a] := by
            rcases List.eq_nil_or_concat z.cps.toList with h | ⟨l0, a, h⟩
            · exact absurd h hne
            · exact ⟨l0, a, h.trans List.concat_eq_append⟩
          rw [hl0, show (l0 ++ [a]).getLastD 0 = a by simp]
          exact atI_last l0 a
        · rcases Nat.eq_zero_or_pos z.length with e2 | h
          · rw [e2] at hlen
            exact absurd hlen (by decide)
          · exact h
      · have hs : isStr x = false := by revert hs; cases isStr x <;> simp
        have hv : valueV x = false := by
          cases x with
          | str z => cases hs
          | _ => rfl
        exact ev_is (ev_andV (a := false) (b := false) (ev_is (isi rfl gx6) (congrArg V.bl hs)) (fun z => nomatch z)) (congrArg V.bl hv.symm)
    · have gx7 := gx6.st (Off2.of e7)
      have isv : ∀ {H8 : Hp}, Ex H7 H8 → SpV (spValueV K) [x] H8 (.bl (valueV x)) := fun e8 H9 e9 Q q E => ⟨x, rfl, EOk.gv ((gx7.st (Off2.of e8)).st (Off2.of e9)), q⟩
      refine q_when (b := false) (et_is (et_or (a := false) (b := false) (et_test (ev_is (ev_op (ev_call (ea_cons (ev_var rfl) ea_nil) (isv (Ex.refl _))) (ev_var rfl) (rv_ne rfl)) (by simp))) fun _ => et_test (ev_is (ev_op (ev_callN0 (ws := [x]) (ea_cons (ev_var rfl) ea_nil) rfl (isv (Ex.refl _))) (ev_var rfl) (rv_ne rfl)) (by simp))) rfl) (fun z => nomatch z) fun _ H8 e8 => ?_
      have e68 := e7.trans e8
      have o8 := o6.trans (Off2.of e68)
      have pen8 := pen6.ex e68
      have tabs8 := tabs6.ext e68
      have gx8 := gx7.st (Off2.of e8)
      cases hv : valueV x with
      | true =>
        refine s_when (b := false) (et_is (et_and (a := false) (b := false) (et_is (et_not (et_B (ev_var rfl))) (by decide)) (fun z => nomatch z)) rfl) (fun z => nomatch z) fun _ H9 e9 => ⟨⟨_, _, _, rfl⟩, o8.trans (Off2.of e9), (pen8.ex e9).mono (by omega), tabs8.ext e9⟩
      | false =>
        refine s_whenF (R := fun H9 => Off2 [p] H8 H9 ∧ PenAt K (n + 18 + i + 1) H9 p c ∧ Tabs (Tt K) H9) (bt_and (et_is (et_not (et_B (ev_var rfl))) (by decide)) fun H9 e9 => bt_test fun Q' q' => op_go ⟨tabs8.ext e9, fun H' eN bk tabs' => heardT_of (heard_err (x := "BadValue") (fs := [("part", .str "value")]) (xs := [.str "value", .str "value"]) (R := fun H1 => Off2 [p] H8 H1 ∧ PenAt K (n + 18 + i + 1) H1 p c ∧ Tabs (Tt K) H1) rfl (fun E Q' h => ?_) fun H1 a H2 r e2 na ha => ?_)⟩) fun H9 ⟨o9, pen9, tabs9⟩ => ⟨⟨_, _, _, rfl⟩, o8.trans o9, pen9, tabs9⟩
        · have o' := (Off2.of (Z := [p]) e9).trans (Off2.extN eN)
          have pen' := pen_ext (pen8.ex e9) eN
          have st : Stab (fun (v : V) (_ : Hp) => ∃ g, v = .ref g ∧ SCV K g) := fun _ _ _ h _ => h
          refine callE_go (run_oneG (G := fun v _ => ∃ g, v = .ref g ∧ SCV K g) (m := 2) (fun _ _ _ h _ => h) pen' (by omega) (ev_var rfl) (lg_lst st (all_cons st (evp_c fun _ _ => ⟨_, rfl, .inl rfl⟩) (all_cons st (evp_c fun _ _ => ⟨_, rfl, .inr rfl⟩) all_nil)) (by decide)) (by decide) fun v H1 ⟨g, ev, hg⟩ off1 pen1 => ⟨g, ev, hg, _, rfl, ?_⟩)
          have o1 := o'.trans (Off2.off off1)
          have eok1 : EOk K H1 x := EOk.gv (gx8.st o1)
          have tabs1 := tabs_off tabs' (pen_at pen').choose_spec off1
          have er : ∀ d H2, Ex H1 H2 → H2 d = some (.xd [("part", .str "value")]) → E (.ref (ga K "BadValue")) (some d) H2 := fun d H2 e2 h2 => h d H2 h2 ⟨o1.trans (Off2.of e2), pen1.ex e2, tabs1.ext e2⟩
          show tyCV K g [x] H1 Q' E
          unfold tyCV
          by_cases hg1 : g = ga K "consonant_of"
          · rw [if_pos hg1]
            exact ⟨x, rfl, eok1, fun _ => er, fun y => no_t hv y⟩
          · rw [if_neg hg1]
            exact ⟨x, rfl, eok1, fun _ => er, fun y => no_t hv y⟩
        · obtain ⟨r1, r2, r3⟩ := r
          refine (eu_tup (vs := [.str "value", .str "value"]) (ea_cons ev_c (ea_cons ev_c ea_nil)) (by decide)) H2 (Ex.refl H2) _ fun b H3 nb e3 hb => ⟨a, b, _, _, _, rfl, rfl, SqT.of (e3 _ _ ha), SqT.of hb, .cons (.str _ _) (.cons (.str _ _) .nil), q' H3 ⟨(r1.trans (Off2.of e2)).trans (Off2.of e3), (r2.ex e2).ex e3, (r3.ext e2).ext e3⟩⟩
  rintro σ' H6 ⟨⟨u3, u4, u5, rfl⟩, o6, pen6, tabs6⟩
  have pen6 : PenAt K (n + 30) H6 p c := pen6.mono (by rw [List.length_append]; omega)
  refine q_asgD ((lg_lst (G := GV p) (m := 13) gv_st (all_cons gv_st (gv_c (by decide)) (all_cons gv_st (gv_c (by decide)) (all_cons gv_st (gv_c (by decide)) (all_cons gv_st (gv_c (by decide)) (all_cons gv_st (gv_c (by decide)) (all_cons gv_st (gv_c (by decide)) (all_cons gv_st (gv_c (by decide)) (all_cons gv_st (gv_c (by decide)) (all_cons gv_st (gv_c (by decide)) (all_cons gv_st (gv_l pen6.there (ea_cons ev_c ea_nil) (by decide)) (all_cons gv_st (gv_c (by decide)) (all_cons gv_st (gv_c (by decide)) (all_cons gv_st (gv_c (by decide)) all_nil))))))))))))) (by decide)) H6 (Ex.refl H6) _ fun l2 vs2 H7 nl2 e7 hl7 len7 all7 => ?_)
  have lp2 : l2 ≠ p := (ne_of_none (pen_at pen6).choose_spec nl2).symm
  refine q_forI fun R2 hR2 => lc_penC (S := 1) (M := 5) (R := fun v => v ∈ vs2) (pen6.ex e7) (by decide) (fun _ => rfl) (fun i k' H8 hi hk off pen8 Q' q => ⟨_, rfl, _, rfl, p, c, .ref l2, k', rfl, pen8, by omega, .inl ⟨l2, vs2, rfl, SqL.of (off _ _ hl7 lp2), lp2, by omega, by omega, fun j x H4 hx off' pen' => q x H4 (List.mem_of_getElem? hx) off' pen'⟩⟩) fun xs3 a3 H8 len3 all3 h3 na3 nH3 off8 pen8 => ?_
  have gx8 : ∀ v ∈ xs3, GV p v H8 := fun v hv => (all7 v (all3 v hv)).st (Off2.off off8)
  refine ⟨a3, rfl, ⟨_, SqL.of h3⟩, hR2 a3 xs3 H8 (fun i σ' H' => (∃ u3 u4 u5 u7, σ' = [some (.ref p), some (.ref l), some (.str "abcdefghijklmnopqrstuvwxyz"), u3, u4, u5, some (.ref l2), u7]) ∧ Ex H8 H') ⟨⟨_, _, _, _, rfl⟩, Ex.refl _⟩ (fun i σ' H' _ ⟨_, o⟩ => SqL.of (o _ _ h3)) ?_ ?_⟩
  · rintro i x σ' H9 hx ⟨⟨u3, u4, u5, u7, rfl⟩, e9⟩
    have gx9 := (gx8 x (List.mem_of_getElem? hx)).st (Off2.of e9)
    refine q_asg (v := .bl (heardV x)) ?_ fun H10 e10 => ?_
    · by_cases hs : isStr x = true
      · obtain ⟨z, rfl⟩ : ∃ z, x = .str z := by
          cases x with
          | str z => exact ⟨z, rfl⟩
          | _ => cases hs
        have hz : z.length ≤ 1000 := by
          rcases gx9 with h | ⟨a, h, _⟩
          · exact of_decide_eq_true h
          · cases h
        refine ev_is (ev_andV (a := true) (ev_is (isi rfl gx9) (congrArg V.bl hs)) fun _ => ev_andV (ev_chain ev_c (ev_lenZ (ev_var rfl) hz) rv_I0 (fun _ => ev_c) (fun _ => rv_I0)) fun _ => ev_eq_nilL (el_lcStrT (fun c => !(decide (c ∈ letters.cps.toList))) (fun c => .str ⟨#[c]⟩) (ev_var rfl) (by omega) (fun _ => rfl) (fun d H1 e hd => et_test (ev_is (ev_opL (ev_var rfl) (el_listS (z := letters) ev_c (by decide)) fun p H hp _ => rv_niL (SqL.of hp) rfl (by decide +kernel)) ?_)) (fun d H1 e hd _ => ev_var rfl))) (congrArg V.bl ((Bool.true_and _).trans ?_))
        · rw [show signsV letters = letters.cps.toList.map fun c => V.str ⟨#[c]⟩ from rfl, inv_sign]
          congr 2
          rw [Bool.eq_iff_iff, List.contains_iff_mem, decide_eq_true_eq]
        · exact due_heard z
      · have hs : isStr x = false := by revert hs; cases isStr x <;> simp
        have hv : heardV x = false := by
          cases x with
          | str z => cases hs
          | _ => rfl
        exact ev_is (ev_andV (a := false) (b := false) (ev_is (isi rfl gx9) (congrArg V.bl hs)) (fun z => nomatch z)) (congrArg V.bl hv.symm)
    · have gx10 := gx9.st (Off2.of e10)
      refine s_when (b := false) (et_test (ev_is (ev_op (ev_callN0 (ws := [x]) (ea_cons (ev_var rfl) ea_nil) rfl (fun H11 e11 Q q E => ⟨x, rfl, EOk.gv (gx10.st (Off2.of e11)), q⟩ : SpV (spHeardV K) [x] H10 (.bl (heardV x)))) (ev_var rfl) (rv_ne rfl)) (by simp))) (fun z => nomatch z) fun _ H11 e11 => ⟨⟨_, _, _, _, rfl⟩, (e9.trans e10).trans e11⟩
  rintro σ' H9 ⟨⟨u3, u4, u5, u7, rfl⟩, e9⟩
  refine s_ret (v := .bl true) (ev_is (ev_eqD (d := .tuple [.str "drop", .str "next"]) (ed_c fun H10 => .tup (tupB_ok T.t_WAYS H10) (.cons (.str _) (.cons (.str _) .nil))) (ed_tup (da_cons ed_str (da_cons ed_str da_nil)) (by decide)) (by decide +kernel) (by decide +kernel)) (by decide +kernel)) fun H10 e10 => k H10 (((tabs_off (tabs6.ext e7) (pen_at (pen6.ex e7)).choose_spec off8).ext e9).ext e10) ?_
  · exact ((pen8.ex e9).ex e10).mono (by omega)
end
end K57
set_option Elab.async false
set_option linter.all false
set_option maxRecDepth 100000
set_option maxHeartbeats 0
set_option autoImplicit false
namespace K57
open PySem PySem.Spec PyProof.Rows L2 He Evl
abbrev R : PySem.W.OpenRow := PySem.W.OpenLaw.row PySem.Challenge.rw_mutesigns_k57_ways_of_writing_make_sylla
def tabl : List He.Defn := [("_law_checks_right", none), ("_law_refused_right", none)]
def chk2 (K : PySem.W.Frag) : Bool := chk K && decide ((cT K ("_law_checks_right", none)).2 ≠ (cT K ("_law_refused_right", none)).2)
abbrev hk : PySem.W.Hook := hookZ 5 chk2 facl defl edl tabl
def ob (s : PySem.W.SharedT) : He.AlD × Bool := obsZ 5 chk2 facl defl edl tabl (HandSHeadRun.getT s)
theorem ob_eq (s : PySem.W.SharedT) : ob s = hk.obs s.abs := obsZ_eq (HandSHeadRun.getT_eq s)
def loose0 : List Str := ["is_one_of", "is_heard", "is_value", "check_heard", "syllables", "consonant_of", "vowel_of", "_check_value", "exchanged", "_is_letter", "_law_ear", "_law_pull", "_law_one", "_law_cut", "_law_spoken", "_law_word", "_law_heard", "_law_put", "_law_syllables_right", "_law_exchanged_right", "_law_checks_right", "_law_refused_right", "SignError", "BadHeard", "BadValue", "Misfit", "LETTERS", "VOWELS", "WAYS", "MOST_LETTERS"]
abbrev looseAll : List Str := loose0
theorem run (w : World) : HandSHeadRun.RunEq R (PySem.W.view R.prog [34]) hk ob 9000 looseAll w := by
  intro os
  kernel_rfl
end K57
set_option Elab.async false
set_option linter.all false
set_option maxRecDepth 100000
set_option maxHeartbeats 4000000
set_option autoImplicit false
/-! a look of two parts. -/
namespace He
open PySem PySem.Spec PyProof.Rows L2
theorem says_and {c1 c2 : PySem.W.Frag → Bool} {fa : List Fa} {fn : List DefD} {ex : List ED} {K : PySem.W.Frag} (c : SaysR (fun K => c1 K && c2 K) fa fn ex K) : SaysR c1 fa fn ex K ∧ c2 K = true := by
  obtain ⟨a, b⟩ := ba c.chk_
  refine ⟨?_, b⟩
  have z : SaysR (fun _ => true) fa fn ex K := by
    have y : obsR (fun K => c1 K && c2 K) fa fn ex K = obsR (fun _ => true) fa fn ex K := by
      unfold obsR
      simp only [a, b, Bool.true_and]
    exact y.symm.trans c
  have y : obsR c1 fa fn ex K = obsR (fun _ => true) fa fn ex K := by
    unfold obsR
    rw [a]
  exact y.trans z
end He
set_option Elab.async false
set_option linter.all false
set_option maxRecDepth 100000
set_option maxHeartbeats 4000000
set_option autoImplicit false
namespace K57
open PySem PySem.Spec PyProof.Rows L2 He Evl TL Lam LamX NdefX Odd
def sp_law (K : PySem.W.Frag) : Sp := fun vs H Q _ => ∃ (a : Addr) (ns : List Int), vs = [.ref a] ∧ SqL K H a (ns.map V.int) ∧ ns.length ≤ 63 ∧ H (cT K defC).2 = some (.tbl #[]) ∧ H (cT K defR).2 = some (.tbl #[]) ∧ ∀ H', Q (.bl true) H'
section
variable {P : Program} {w : World} {K : PySem.W.Frag} {mg : Str → Option Value} {base : Heap}
theorem b_law (T : Tx K mg) : Binds K (fdOf K ("law", none)) ["_law_script"] [] := T.f_law.bindsN fun _ _ _ _ _ _ us hl => match us, hl with | [_], _ => rfl
theorem b_l_refused_right (T : Tx K mg) : Binds K (fdOf K ("_law_refused_right", none)) ["_law_ear_here", "_law_heard_here"] [] := T.f_l_refused_right.bindsN fun _ _ _ _ _ _ us hl => match us, hl with | [_, _], _ => rfl
theorem b_l_checks_right (T : Tx K mg) : Binds K (fdOf K ("_law_checks_right", none)) ["_law_ear_here"] [] := T.f_l_checks_right.bindsN fun _ _ _ _ _ _ us hl => match us, hl with | [_], _ => rfl
theorem ok_law (T : Tx K mg) (BC : TabB base mg (cT K defC).1 (cT K defC).2) (BR : TabB base mg (cT K defR).1 (cT K defR).2) (ne : (cT K defC).2 ≠ (cT K defR).2) : FnOk P w K mg base CX0 12 (ga K "law") (fdOf K ("law", none)) ["_law_script"] (sp_law K) := by
  refine T.f_law.ok sc_law (fun vs H Q E h => by obtain ⟨a, ns, rfl, _⟩ := h; rfl) (fun cdv A outer s H vs Q E hr h => ?_)
  refine ⟨_, PSs.nox (pss_cons (ps_set (i := 1) sc_law.nd rfl (.inl rfl) (pe_call (ok_l_ear T) (hr.mono (by decide)) (by rfl) T.g_l_ear T.f_l_ear.kp (b_l_ear T) .nil pass0 (pa_cons (pv 0) pa_nil)))
    (pss_cons (ps_for PassesOwn.never rfl (pi_range1 (by rfl) T.n_range (pa_cons pe_int pa_nil)) (pg_name (i := 2) sc_law.nd rfl (.inl rfl))
      (pss_cons (ps_set (i := 3) sc_law.nd rfl (.inl rfl) (pe_call (ok_l_word T) (hr.mono (by decide)) (by rfl) T.g_l_word T.f_l_word.kp (b_l_word T) .nil pass0 (pa_cons (pv 1) pa_nil)))
      (pss_one (ps_if (PW.pt (pw_or (pt_not (pt_val (pe_call (ok_l_syllables_right T) (hr.mono (by decide)) (by rfl) T.g_l_syllables_right T.f_l_syllables_right.kp (b_l_syllables_right T) .nil pass0 (pa_cons (pv 3) pa_nil)))) (pw_or1 (pt_not (pt_val (pe_call (ok_l_exchanged_right T) (hr.mono (by decide)) (by rfl) T.g_l_exchanged_right T.f_l_exchanged_right.kp (b_l_exchanged_right T) .nil pass0 (pa_cons (pv 1) (pa_cons (pv 3) pa_nil))))))))
        (pss_one (ps_ret pe_bl))
        pss_nil))))
    (pss_one (ps_ret (pe_and (pe_call (ok_l_checks_right T BC ne) (hr.mono (by decide)) (by rfl) T.g_l_checks_right T.f_l_checks_right.kp (b_l_checks_right T) .nil pass0 (pa_cons (pv 1) pa_nil)) (pe_one (pe_call (ok_l_refused_right T BR ne) (hr.mono (by decide)) (by rfl) T.g_l_refused_right T.f_l_refused_right.kp (b_l_refused_right T) .nil pass0 (pa_cons (pv 1) (pa_cons (pe_call (ok_l_word T) (hr.mono (by decide)) (by rfl) T.g_l_word T.f_l_word.kp (b_l_word T) .nil pass0 (pa_cons (pv 1) pa_nil)) pa_nil))))))))), ?_⟩
  -- slots: [(0, '_law_script'), (1, '_law_ear_here'), (2, '_law_turn'), (3, '_law_heard_here')]
  obtain ⟨a, ns, rfl, hq, hl, htC, htR, k⟩ := h
  have tabs : Tabs (Tt K) H := fun m hm => by
    rcases List.mem_cons.mp hm with rfl | hm
    · exact TabS.nil htC
    · rw [List.mem_singleton.mp hm]
      exact TabS.nil htR
  refine q_asgD ⟨_, rfl, a, ns, rfl, hq, hl, fun p c H1 e1 pen1 => ?_⟩
  refine q_forR1 (ea_cons ev_c ea_nil) (by decide) (fun i σ' H' => (∃ u2 u3, σ' = [some (.ref a), some (.ref p), u2, u3]) ∧ PenAt K (60 * i) H' p c ∧ Tabs (Tt K) H') (fun H2 e2 => ⟨⟨_, _, rfl⟩, pen1.ex e2, (tabs.ext e1).ext e2⟩) ?_ ?_
  · rintro i σ' H2 hi ⟨⟨u2, u3, rfl⟩, pen2, tabs2⟩
    refine q_asgD ⟨_, rfl, p, c, 60 * i, rfl, pen2, by omega, fun z H3 hz off3 pen3 => ?_⟩
    have tabs3 := tabs_off tabs2 (pen_at pen2).choose_spec off3
    refine s_whenF (R := fun H4 => PenAt K (60 * (i + 1)) H4 p c ∧ Tabs (Tt K) H4) (bt_or (et_is (et_not (et_B (ev_call (ea_cons (ev_var rfl) ea_nil) (z := .bl true) fun H4 e4 Q q E => ⟨z, rfl, hz, q⟩))) rfl) fun H4 e4 => bt_not (b := true) (bt_B fun Q q => ⟨_, rfl, _, rfl, p, c, z, 60 * i + 40, rfl, hz, pen3.ex e4, by omega, fun H5 off5 pen5 => q H5 ⟨pen5.mono (by omega), tabs_off (tabs3.ext e4) (pen_at (pen3.ex e4)).choose_spec off5⟩⟩)) fun H4 ⟨pen4, tabs4⟩ => ⟨⟨_, _, rfl⟩, pen4, tabs4⟩
  · rintro σ' H2 ⟨⟨u2, u3, rfl⟩, pen2, tabs2⟩
    have pen2 : PenAt K 360 H2 p c := pen2
    refine ⟨_, rfl, p, c, 360, rfl, pen2, by omega, tabs2, fun H3 tabs3 pen3 => ⟨true, rfl, ?_⟩⟩
    rw [if_pos rfl]
    exact ⟨_, rfl, _, rfl, p, c, 400, rfl, pen3, by omega, fun z H4 hz off4 pen4 => ⟨p, c, z, 440, rfl, hz, pen4, by omega, tabs_off tabs3 (pen_at pen3).choose_spec off4, k⟩⟩
end
end K57
open PySem PySem.W PySem.Calls PyProof.Rows
set_option maxRecDepth 100000 in
set_option maxHeartbeats 0 in
theorem PySem.Challenge.cw_mutesigns_k57_ways_of_writing_make_sylla_holds : PySem.Challenge.rw_mutesigns_k57_ways_of_writing_make_sylla.Holds := by
  w_on; o_law
  refine HandSHeadRun.head_any (r := OpenLaw.row PySem.Challenge.rw_mutesigns_k57_ways_of_writing_make_sylla) (q := view (OpenLaw.row PySem.Challenge.rw_mutesigns_k57_ways_of_writing_make_sylla).prog [34]) (H := K57.hk) (ob := K57.ob) (M := 9000) (loose := K57.looseAll) (d := HandSHeadRun.topDef (OpenLaw.row PySem.Challenge.rw_mutesigns_k57_ways_of_writing_make_sylla).prog 34) (kwd := []) K57.ob_eq
    (by kernel_rfl) (fun s => by kernel_rfl) K57.run (by kernel_rfl) (by kernel_rfl) (by kernel_rfl) (by rfl) (by first | assumption | decide +kernel) (by decide +kernel) ⟨rfl, rfl, rfl, rfl, rfl, by decide +kernel⟩ ?hw ?hc
  case hw => w_witness2
  case hc =>
    refine LamX.walk_ofTsE (l := PySem.Challenge.rw_mutesigns_k57_ways_of_writing_make_sylla) (n := 63) (k := 12) (x := "_law_script") (CX := fun _ => L2.CX0) rfl (by decide) (by kernel_rfl) ⟨rfl, by decide, by decide⟩ ?F (fun _ _ _ _ _ z => z)
    intro w mg fa h Y G hmg0
    obtain ⟨K, KX, c⟩ := Y
    have hmg : mg ("law" : PySem.Str) = some (.ref fa) := by
      have e : (HandSHeadRun.topDef (OpenLaw.row PySem.Challenge.rw_mutesigns_k57_ways_of_writing_make_sylla).prog 34).name = ("law" : PySem.Str) := by kernel_rfl
      rw [← e]
      exact hmg0
    obtain ⟨cr, cn⟩ := He.says_and (c1 := K57.chk) (c2 := fun K => decide ((He.cT K K57.defC).2 ≠ (He.cT K K57.defR).2)) c.r
    have T := K57.tx_of KX G cr
    have ne : (He.cT K K57.defC).2 ≠ (He.cT K K57.defR).2 := of_decide_eq_true cn
    have e := hmg.symm.trans T.g_law
    cases e
    have two : ∀ {q : PySem.Addr × PySem.Addr}, q ∈ [He.cT K K57.defC, He.cT K K57.defR] → ∃ d, d ∈ K57.tabl ∧ q = He.cT K d := fun m => by
      rcases List.mem_cons.mp m with rfl | m
      · exact ⟨K57.defC, List.mem_cons_self, rfl⟩
      · exact ⟨K57.defR, List.mem_cons_of_mem _ List.mem_cons_self, List.mem_singleton.mp m⟩
    refine ⟨K, KX, He.fdOf K ("law", none), [He.cT K K57.defC, He.cT K K57.defR], K57.sp_law K, fun q m => ?_, fun q m => ?_, fun q m => ?_, fun s v => T.f_law.bindsA (ps := ["_law_script"]) (fun _ _ _ _ _ _ us hl => match us, hl with | [_], _ => rfl) s [v] rfl, fun H a ns hl _ hH hS => ⟨a, ns, rfl, hS, hl, hH _ List.mem_cons_self, hH _ (List.mem_cons_of_mem _ List.mem_cons_self), fun _ => rfl⟩, fun base _ _ B => K57.ok_law T (B _ List.mem_cons_self) (B _ (List.mem_cons_of_mem _ List.mem_cons_self)) ne⟩
    · obtain ⟨d, hd, rfl⟩ := two m
      exact c.empty d hd
    · obtain ⟨d, hd, rfl⟩ := two m
      exact c.out d hd
    · obtain ⟨d, hd, rfl⟩ := two m
      exact PySem.W.codeHd_of_K KX (c.hd d hd)
