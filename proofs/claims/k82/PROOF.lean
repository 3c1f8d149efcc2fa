import PyProof.Rows.All
import Wide.All
import OpenK.AllK
import Wide.FinOn
import KE.KStateDown
import Lean
import HandS.Base
import HandS.Call
import HandS.Ends
import HandS.More
import HandS.Words
import HandS.WordsExc
import HandS.Defaults
import HandS.Head0
import HandS.Head1
import HandS.Head2
import HandS.HeadEnd
import HandS.HeadHook1
import HandS.HeadHook2
import PyProof.EqAt
import PyProof.EqKinds
import PyProof.NeKinds
import PyProof.TupleCall
import KE.KFromBytes
import KE.KExcIs
import HandS.List
import HandS.Exc
import HandS.ExcOwn
import HandS.ExcInit
import HandS.ExcField
import HandS.IsInst
import HandS.Evl
import HandS.ExcValue
import HandS.WordsList
import HandS.ForMost
import HandS.Steps
import HandS.Flow
import HandS.DictComp
import HandS.SetKeys
import HandS.Walk
import HandS.Style
import PyProof.ListStr
import PyProof.StrOps2
import HandS.ClsMeth
import KE.KCallOwn
import KE.KFmtOwn
import PyProof.InstNe
import PySem.Challenge.RW_mutesigns_k82_squares_of_words
import KE.GoesMore
import HandS.TryMany
import HandS.Lambda
import HandS.Nested
import HandS.EndTab
import HandS.HeadHook4
import HandS.HeadWalk
import HandS.Sort
import HandS.Flt
import HandS.Text
import KE.SortData
set_option Elab.async false
set_option linter.all false
set_option maxRecDepth 100000
set_option maxHeartbeats 4000000
/-! A head by facts, with any Bool look at the written part besides. -/
namespace Hx
open PySem PySem.Spec PyProof.Rows L2 He
def obsX (chk : PySem.W.Frag → Bool) (fa : List Fa) (fn : List DefD) (K : PySem.W.Frag) : AlD := (chk K && ((fa.all fun f => f.ok K) && fn.all fun d => d.ok K), fn.map fun d => fnW K d.at_)
def SaysX (chk : PySem.W.Frag → Bool) (fa : List Fa) (fn : List DefD) (K : PySem.W.Frag) : Prop := obsX chk fa fn K = valD fn
def obsXG (n : Nat) (chk : PySem.W.Frag → Bool) (fa : List Fa) (fn : List DefD) (g : Addr → Option Obj) : AlD := obsX chk fa fn (frG g (asD g n))
def hookX (n : Nat) (chk : PySem.W.Frag → Bool) (fa : List Fa) (fn : List DefD) : PySem.W.Hook where
  α := AlD
  obs := fun s => obsXG n chk fa fn s.heap.get?
  val := fun _ => valD fn
  says := fun _ h => ∃ K : PySem.W.Frag, K.In h ∧ SaysX chk fa fn K
  of := fun _ _ e => ⟨_, frG_in, e⟩
  keeps := fun _ _ _ ⟨K, hK, c⟩ k => ⟨K, PySem.W.Frag.In.keeps hK k, c⟩
theorem obsXG_eq {n : Nat} {chk : PySem.W.Frag → Bool} {fa : List Fa} {fn : List DefD} {g : Addr → Option Obj} {s : Shared} (h : ∀ a, g a = s.heap.get? a) : obsXG n chk fa fn g = (hookX n chk fa fn).obs s := by
  have e : g = s.heap.get? := funext h
  rw [e] <;> rfl
section
variable {chk : PySem.W.Frag → Bool} {fa : List Fa} {fn : List DefD} {K : PySem.W.Frag}
theorem SaysX.chk_ (c : SaysX chk fa fn K) : chk K = true := (ba (show (chk K && ((fa.all fun f => f.ok K) && fn.all fun d => d.ok K)) = true from congrArg (fun z : AlD => z.1) c)).1
theorem SaysX.says (c : SaysX chk fa fn K) : SaysD fa fn K := by
  have h1 := (ba (show (chk K && ((fa.all fun f => f.ok K) && fn.all fun d => d.ok K)) = true from congrArg (fun z : AlD => z.1) c)).2
  have h2 : fn.map (fun d => fnW K d.at_) = fn.map DefD.val := congrArg (fun z : AlD => z.2) c
  show ((fa.all fun f => f.ok K) && fn.all fun d => d.ok K, fn.map fun d => fnW K d.at_) = (true, fn.map DefD.val)
  rw [h1, h2]
end
end Hx
set_option Elab.async false
set_option linter.all false
set_option maxRecDepth 100000
set_option maxHeartbeats 4000000
/-! Own exceptions as values: made by place or by name, their fields read, isinstance asked of them. -/
namespace PySem
namespace XV
open PySem.W PySem.Calls PyProof.Rows PySem.HandSPX
section
open Builtin Builtin.ObjectAttr
variable {M : Model} {A : Around} {E : Value → Shared → Prop} {h : Heap} {g : Array GenState} {d : Drawn} {t : Nat} {os : OsState}
variable {nm q : Str} {C N : Addr} {bs bm bmB : List Value} {hdct : Bool} {sn : List Str} {sub : List Value} {ab : Bool} {col : Option Bool} {dd : Option Addr} {k0 k1 k2 k3 k5 : Option Value} {B newId initId : String}
theorem check_newK (F : ExcBaseFacts B newId initId bmB) (hT : ∀ X : String, bm.contains (.type X) = bmB.contains (.type X)) {rest : List Value} {kw : List (Str × Value)} {Q : Unit → Shared → Prop}
    (hC : h.get? C = some (excClassObj nm q C N bs bm hdct sn sub ab col dd k0 k1 k2 k3 k5 newId)) (hq : Q () ⟨h, g, d, t, os⟩) : wpAny M A (checkBuiltinCall newId ⟨.ref C :: rest, kw⟩) Q E ⟨h, g, d, t, os⟩ := by
  have hcont : (Value.ref C :: bm).contains (.type B) = true := by rw [List.contains_cons, hT, F.hasB, Bool.or_true]
  have hstar := F.noStar
  simp only [checkBuiltinCall, F.newKind, F.newSplit, F.newRow]
  repeat (first | refine wpAny_loadPart_at hC ?_ | (refine wpAny_isSubtype_exc hC ?_; rw [hcont]) | refine wpAny_staticBase_exc hC ?_ | refine wpAny_madeBy_exc hC ?_ | simp only [bne_self_eq_false, Bool.false_eq_true, if_false] | wp_step)
  exact hq
theorem check_type_callK {rest : List Value} {kw : List (Str × Value)} {Q : Unit → Shared → Prop} (hC : h.get? C = some (excClassObj nm q C N bs bm hdct sn sub ab col dd k0 k1 k2 k3 k5 newId))
    (hq : Q () ⟨h, g, d, t, os⟩) : wpAny M A (checkBuiltinCall "type.__call__" ⟨.ref C :: rest, kw⟩) Q E ⟨h, g, d, t, os⟩ := by
  have f3 := tc_sub
  have hT : (⟨h, g, d, t, os⟩ : Shared).TypeIs (.ref C) "type" := ⟨_, hC, rfl⟩
  simp only [checkBuiltinCall, tc_kind, tc_split]
  repeat (any_goals (first | assumption | with_reducible refine wpAny_loadPart_at hC ?_ | with_reducible refine wpAny_onRaise ?_ | with_reducible refine wpAny_map ?_ | wp_step))
end
section
variable {prog : Program} {w : World} {A : Around} {E : Value → Shared → Prop} {R : Result → Shared → Prop} {h : Heap} {g : Array GenState} {d : Drawn} {t : Nat} {os : OsState}
variable {nm q : Str} {C N : Addr} {bs bm bmB : List Value} {hdct : Bool} {sn : List Str} {sub : List Value} {ab : Bool} {col : Option Bool} {dd : Option Addr} {k0 k1 k2 k3 k5 : Option Value} {B newId initId : String}
theorem newK (F : ExcBaseFacts B newId initId bmB) (hT : ∀ X : String, bm.contains (.type X) = bmB.contains (.type X)) {rest : List Value} {kw : List (Str × Value)}
    (hC : h.get? C = some (excClassObj nm q C N bs bm hdct sn sub ab col dd k0 k1 k2 k3 k5 newId))
    (hq : R (.ok (.ret (.ref (h.objs.size + 1)))) ⟨(h.push { cls := .type "tuple", data := .seq rest.toArray }).push
      { cls := .ref C, data := .fields #[.ref h.objs.size, .none, .none, .none, .bool false, .none] }, g, d, t, os⟩) (hrest : rest.length ≤ sizeLine) :
    codeAny (model prog w) A (.builtin newId ⟨.ref C :: rest, kw⟩) R ⟨h, g, d, t, os⟩ := by
  have hends := F.ends
  have hcB : (Value.ref C :: bm).contains (.type B) = true := by rw [List.contains_cons, hT, F.hasB, Bool.or_true]
  have hcA : (Value.ref C :: bm).contains (.type "AttributeError") = false := by rw [List.contains_cons, hT, F.noAttr]; rfl
  have hcN : (Value.ref C :: bm).contains (.type "NameError") = false := by rw [List.contains_cons, hT, F.noName]; rfl
  refine codeAny_builtinAt F.entry ?_
  unfold Builtin.«BaseException.__new__»
  refine wpAt_bind ?_
  show wpAt _ _ _ (stack >>= _) _ _ _
  refine wpAt_bind (wpAt_stack fun p below => wpAt_of_wpAny ?_)
  wp_walk
  refine wpAt_of_wpAny ?_
  rw [F.owner]
  repeat (first | with_reducible refine wpAny_madeHere_exc F.canon hC ?_ | with_reducible refine wpAny_loadPart_at hC ?_ | (with_reducible refine wpAny_isSubtype_exc hC ?_; first | rw [hcB] | rw [hcA] | rw [hcN]) | wp_step)
  show R _ _
  rw [Heap.size_push]
  exact hq
theorem type_callK (F : ExcBaseFacts B newId initId bmB) (hT : ∀ X : String, bm.contains (.type X) = bmB.contains (.type X)) {rest : List Value} {kw : List (Str × Value)} {fI : Addr} {Q : Fin → Shared → Prop}
    (hC : h.get? C = some (excClassObj nm q C N bs bm hdct sn sub ab col dd k0 k1 k2 k3 k5 newId))
    (hi : W.Looks (model prog w) h (typeLookup (.ref C) "__init__") (some (.ref fI))) (hb : ∀ self, W.Looks (model prog w) h (bindSpecial (.ref fI) self) (.ref fI, [self])) (hrest : rest.length ≤ sizeLine)
    (hq : codeAny (model prog w) A (.call (.ref fI) ⟨.ref (h.objs.size + 1) :: rest, kw⟩)
      (fun r s' => match r with | .ok (.ret v) => v = .none ∧ Q (.done (.ret (.ref (h.objs.size + 1)))) s' | .ok _ => False | .error e => E e s')
      ⟨(h.push (W.kdv_tup rest)).push (excO C h.objs.size), g, d, t, os⟩) :
    wpAny (model prog w) A (Builtin.«type.__call__» ⟨.ref C :: rest, kw⟩) Q E ⟨h, g, d, t, os⟩ := by
  repeat (first | with_reducible refine wpAny_loadPart_at hC ?_ | with_reducible refine wpAny_madeBy_exc hC ?_ | wp_step)
  refine codeAny_call_builtin_code (Code.quiet_builtin _ F.quiet) (check_newK F hT hC ?_)
  refine newK F hT hC ?_ hrest
  show wpAny _ _ _ _ _ _
  have k : ∀ b o, h.get? b = some o → ((h.push (W.kdv_tup rest)).push (excO C h.objs.size)).get? b = some o := fun b o e => Heap.get?_push_of_some _ (Heap.get?_push_of_some _ e)
  have hC₁ := k _ _ hC
  have hget : ((h.push (W.kdv_tup rest)).push (excO C h.objs.size)).get? (h.objs.size + 1) = some (excO C h.objs.size) := by heap_get
  have hcC : (Value.ref C :: bm).contains (.ref C) = true := by simp
  have i1 := hi.keeps k
  have b1 := (hb (.ref (h.objs.size + 1))).keeps k
  unfold isInstance
  repeat (first | with_reducible refine wpAny_loadPart_at hget ?_ | (with_reducible refine wpAny_isSubtype_exc hC₁ ?_; rw [hcC]) | wp_step)
  show wpAny _ _ (typeLookup (.ref C) _) _ _ _
  refine i1.at ?_
  refine wpAny_holding (wpAny_bind (b1.at ?_))
  refine wpAny_bind (wpAny_call (codeAny_mono hq fun r s' z => ?_))
  rcases r with e | (v | _ | _ | _) <;> first | exact z | exact z.elim | skip
  obtain ⟨rfl, z⟩ := z
  first
    | exact wpAny_pure (wpAny_pure z)
    | (wp_walk; exact z)
theorem callK (F : ExcBaseFacts B newId initId bmB) (hT : ∀ X : String, bm.contains (.type X) = bmB.contains (.type X)) {rest : List Value} {kw : List (Str × Value)} {fI : Addr}
    (hC : h.get? C = some (excClassObj nm q C N bs bm hdct sn sub ab col dd k0 k1 k2 k3 k5 newId))
    (hi : W.Looks (model prog w) h (typeLookup (.ref C) "__init__") (some (.ref fI))) (hb : ∀ self, W.Looks (model prog w) h (bindSpecial (.ref fI) self) (.ref fI, [self])) (hrest : rest.length ≤ sizeLine)
    (hq : codeAny (model prog w) (A.under (.builtin "type.__call__" ⟨.ref C :: rest, kw⟩)) (.call (.ref fI) ⟨.ref (h.objs.size + 1) :: rest, kw⟩) (W.InitBack (h.objs.size + 1) R)
      ⟨(h.push (W.kdv_tup rest)).push (excO C h.objs.size), g, d, t, os⟩) :
    codeAny (model prog w) A (.call (.ref C) ⟨rest, kw⟩) R ⟨h, g, d, t, os⟩ := by
  have f1 := tc_lookup
  have f2 := tc_bind (.ref C)
  have hTy : (⟨h, g, d, t, os⟩ : Shared).TypeIs (.ref C) "type" := ⟨_, hC, rfl⟩
  refine codeAny_of_tree ?_
  show wpAny _ _ (callAny (.ref C) _) _ _ _
  repeat (any_goals (first | assumption | with_reducible refine wpAny_loadPart_at hC ?_ | wp_step))
  refine ⟨rfl, ?_⟩
  refine codeAny_call_builtin_at (Code.quiet_builtin _ (by decide +kernel)) entry_typeCall (check_type_callK hC (type_callK F hT hC hi hb hrest ?_))
  refine codeAny_mono hq fun r s' z => ?_
  rcases r with e | (v | _ | _ | _) <;> exact z
end
end XV
end PySem
set_option Elab.async false
set_option linter.all false
set_option maxRecDepth 100000
set_option maxHeartbeats 4000000
set_option autoImplicit false
namespace L2
open PySem PySem.Spec PyProof.Rows Evl

/-- an exception of the class at C with these fields stands at a -/
def XAt (H : Hp) (a C : Addr) (fs : List (Str × V)) : Prop := ∃ d, H a = some (exo a C (some d)) ∧ H d = some (exd d fs)
theorem XAt.ex {H H' : Hp} {a C : Addr} {fs : List (Str × V)} (h : XAt H a C fs) (e : Ex H H') : XAt H' a C fs := by
  obtain ⟨d, h1, h2⟩ := h
  exact ⟨d, e _ _ h1, e _ _ h2⟩
/-- what an __init__ of an exception class promises: the fields are laid -/
def spInitX (C : Addr) (fs : List Str) : Sp := fun vs H Q _ => ∃ (a : Addr) (ws : List V), vs = .ref a :: ws ∧ ws.length = fs.length ∧ H a = some (exo a C none) ∧
  ∀ d H', H d = none → d ≠ a → H' a = some (exo a C (some d)) → H' d = some (exd d (fs.zip ws).reverse) → (∀ b o, H b = some o → b ≠ a → H' b = some o) → Q .non H'
/-- what the written part says of an exception class -/
structure XCl (K : PySem.W.Frag) (C : Addr) : Prop where
  oex : OexC K C
  xf : XfC K C
  hcl : (PySem.W.clsIn K C).isSome = true
  ha : PySem.W.findIn K (.ref C) "__class__" = some (some (.builtin "object.__class__"))
  hn : PySem.W.specialIn K (.builtin "object.__class__") "__get__" = some (some (.builtin "getset_descriptor.__get__"))
  ht : PySem.W.takesIn K (.builtin "object.__class__") = some true
  hm : PySem.W.mroIn K C (.type "object") = some true
structure XIn (K : PySem.W.Frag) (C fI : Addr) (fs : List Str) : Prop where
  cl : XCl K C
  init : PySem.W.findIn K (.ref C) "__init__" = some (some (.ref fI))
  tI : PySem.W.typeIn K (.ref fI) = some (.type "function")
  nof : ∀ f ∈ fs, PySem.W.findIn K (.ref C) f = some none

/-- C(..): what is made -/
def tXmk (C : Addr) (fs : List Str) (t : TA) : TE := fun σ H Q => t σ H fun vs H1 => vs.length = fs.length ∧ ∀ a H2, H1 a = none → Ex H1 H2 → XAt H2 a C (fs.zip vs).reverse → Q (.ref a) H2
section
variable {X : Cx} {k : Nat} {C fI : Addr} {fd : FuncData} {fs ps : List Str} {x : Str} {p pos : Pos} {e : Expr} {es : List Expr} {kws : List Keyword} {t : TA} {ta : TE}
theorem run_xmk {pins : List (Addr × Obj)} {σ : St} {H : Hp} {s : Shared} {Q : VK} {us : List Value} {kw : List (Str × Value)} {vs : List V} {bs : List Value} (T : XIn X.K C fI fs) (G : FnOk X.prog X.w X.K X.mg X.base CX0 k fI fd (("self" : Str) :: fs) (spInitX C fs)) (hr : Room (k + 1) X.A)
    (hb : ∀ (s' : Shared) (a : Value), X.K.In s'.heap → BindsTo s' fd ⟨a :: us, kw⟩ (((("self" : Str) :: fs)).zip (a :: bs))) (hus : us.length ≤ 1000)
    (I : Inv X pins σ H s) (r : Vals vs bs) (hl : vs.length = fs.length) (h : ∀ a H2, H a = none → Ex H H2 → XAt H2 a C (fs.zip vs).reverse → Q (.ref a) H2) :
    wpAny (model X.prog X.w) X.A (call (.ref C) us kw) (EP X pins σ Q) X.xe s := by
  obtain ⟨nm, q, N, bs', bm, sn, sub, ab, col, dd, k0, k1, k2, k3, k5, hC, hbm⟩ := T.cl.oex.cls
  obtain ⟨hp, g, dr, tk, os⟩ := s
  have hsz : hp.objs.size ≤ hp.objs.size + 1 := Nat.le_succ _
  have hn : H (hp.objs.size + 1) = none := I.hok.fresh hsz
  have kk : ∀ b o, hp.get? b = some o → ((hp.push (PySem.W.kdv_tup us)).push (PySem.HandSPX.excO C hp.objs.size)).get? b = some o := fun b o e => Heap.get?_push_of_some _ (Heap.get?_push_of_some _ e)
  have hget : ((hp.push (PySem.W.kdv_tup us)).push (PySem.HandSPX.excO C hp.objs.size)).get? (hp.objs.size + 1) = some (PySem.HandSPX.excO C hp.objs.size) := by heap_get
  have I2 : Inv X pins σ (upd H (hp.objs.size + 1) (exo (hp.objs.size + 1) C none)) ⟨(hp.push (PySem.W.kdv_tup us)).push (PySem.HandSPX.excO C hp.objs.size), g, dr, tk, os⟩ :=
    I.laid (t' := tk) (a := hp.objs.size + 1) (o := exo (hp.objs.size + 1) C none) (h' := (hp.push (PySem.W.kdv_tup us)).push (PySem.HandSPX.excO C hp.objs.size)) kk hsz (exo_ok hget)
  have r2 : Vals (V.ref (hp.objs.size + 1) :: vs) (Value.ref (hp.objs.size + 1) :: bs) := .cons rfl r
  have hus' : us.length ≤ sizeLine := by
    rw [sizeLine_eq]
    omega
  have hq : spInitX C fs (V.ref (hp.objs.size + 1) :: vs) (upd H (hp.objs.size + 1) (exo (hp.objs.size + 1) C none)) (fun v H2 => v = .non ∧ Q (.ref (hp.objs.size + 1)) H2) (fun _ _ _ => False) := by
    refine ⟨_, vs, rfl, hl, upd_same, fun d H' n1 n2 e1 e2 k => ⟨rfl, ?_⟩⟩
    refine h _ H' hn (fun b o e => k b o ?_ (ne_of_none e hn)) ⟨d, e1, e2⟩
    rw [upd_ne (ne_of_none e hn)]
    exact e
  refine wpAny_call (PySem.XV.callK F.excBase_ValueError (fun Y => PySem.HandSPX.refsVE_contains Y bm hbm) (I.kIn _ _ hC) (PySem.W.looks_findIn I.kIn T.init) (fun self => PySem.W.bind_fn I.kIn self T.tI) hus'
    (codeAny_mono (G.run _ X.stack _ _ ⟨Value.ref (hp.objs.size + 1) :: us, kw⟩ (Value.ref (hp.objs.size + 1) :: bs) _ _ (fun _ _ _ => False) (hr.make C us kw) (I2.env0.make C us kw) (hb _ _ I2.kIn) r2 hq) fun r s' hq' => ?_))
  cases r with
  | error er => exact pass0 (X := X) pins σ _ _ er s' I2 hq'
  | ok fl =>
    cases fl with
    | ret u =>
      obtain ⟨v, H2, I3, rv, ev, q2⟩ := I2.after hq'
      subst ev
      exact ⟨rv, ⟨V.ref (hp.objs.size + 1), H2, I3, rfl, q2⟩⟩
    | next => exact False.elim hq'
    | brk => exact False.elim hq'
    | cont => exact False.elim hq'

/-- C(e, ..) -/
theorem pe_xmk {sc : Scope} {qual : Str} {pa : Arguments} {bd : List Stmt} (T : XIn X.K C fI fs) (G : FnOk X.prog X.w X.K X.mg X.base CX0 k fI fd (("self" : Str) :: fs) (spInitX C fs)) (hb : Binds X.K fd (("self" : Str) :: fs) [])
    (hz : fs.length ≤ 1000) (hr : Room (k + 1) X.A) (hg : Gl X x) (hm : X.mg x = some (.ref C)) (ha : PA X (e :: es) t)
    (hdb : (x == ("__debug__" : Str)) = false := by decide) (he : starEach (e :: es) X.env = (false, eval e X.env) :: starEach es X.env := by rfl) (hpl : (backTo pos (starEach es X.env)).any (·.1) = false := by rfl) :
    PE X (.Call (.Name x p) (e :: es) [] pos) (tXmk C fs t) := by
  refine ⟨fun pins s σ H Q I h => ?_⟩
  refine wpAny_Call_Name_kw (ld_glob I hg hm ?_ hdb)
  refine PySem.W.callWith_K (h₀ := X.base) I.ok.mod.kin T.cl.oex.kC (thn (ha.run pos pins s σ H _ I h) fun us s1 ⟨vs, H1, I1, r1, hl, q1⟩ => ⟨I1.kIn, ?_⟩) he hpl
  have hl2 : us.length = fs.length := r1.length.symm.trans hl
  show wpAny _ _ (call (.ref C) us) _ _ _
  refine run_xmk T G hr (fun s' a hK => ?_) (by omega) I1 r1 hl q1
  have z := hb s' (a :: us) hK (by simp [hl2])
  simpa using z
/-- C(k = v, ..), no other -/
theorem pe_xmkK (T : XIn X.K C fI fs) (G : FnOk X.prog X.w X.K X.mg X.base CX0 k fI fd (("self" : Str) :: fs) (spInitX C fs)) {ks : List Str} {g : List Value → List Value} {gV : List V → List V}
    (hb : ∀ (s' : Shared) (a : Value) (ws : List Value), ws.length = ks.length → X.K.In s'.heap → BindsTo s' fd ⟨[a], ks.zip ws⟩ ((("self" : Str) :: fs).zip (a :: g ws)))
    (hv : ∀ {vs : List V} {us : List Value}, Vals vs us → Vals (gV vs) (g us)) {tk : TA}
    (hr : Room (k + 1) X.A) (hg : Gl X x) (hm : X.mg x = some (.ref C)) (hkw : PK X kws tk)
    (hall : (backToKw pos (keywordEach kws X.env)).all (·.1.isSome) = true := by rfl) (hks : (backToKw pos (keywordEach kws X.env)).filterMap (·.1) = ks := by rfl)
    (hdb : (x == ("__debug__" : Str)) = false := by decide) (hpl : ((backTo pos (starEach [] X.env)).any (·.1) || (backToKw pos (keywordEach kws X.env)).any (·.1.isNone)) = false := by rfl) :
    PE X (.Call (.Name x p) [] kws pos) (fun σ H Q => tk σ H fun zs H1 => zs.length = ks.length ∧ (gV zs).length = fs.length ∧ ∀ a H2, H1 a = none → Ex H1 H2 → XAt H2 a C (fs.zip (gV zs)).reverse → Q (.ref a) H2) := by
  refine ⟨fun pins s σ H Q I h => ?_⟩
  refine wpAny_Call_Name_kw (ld_glob I hg hm ?_ hdb)
  refine PySem.W.callWith_KW0 (h₀ := X.base) I.ok.mod.kin T.cl.oex.kC hall ?_ hpl
  refine thn (hkw.run pos pins s σ H _ I h) fun ws s2 ⟨zs, H2, I2, rz, l2, l3, q2⟩ => ⟨I2.kIn, ?_⟩
  rw [hks]
  exact run_xmk (us := []) T G hr (fun s' a hK => hb s' a ws (rz.length.symm.trans l2) hK) (Nat.zero_le _) I2 (hv rz) l3 q2
/-- C(), an own class without an own __init__ -/
theorem pe_xmk0 {bmB : List Value} {B newId initId : String} (F : ExcBaseFacts B newId initId bmB) (q : PySem.W.excIn X.K C bmB newId = true) (kC : PySem.W.keepIn X.K (.ref C) = true) (hg : Gl X x) (hm : X.mg x = some (.ref C))
    (hdb : (x == ("__debug__" : Str)) = false := by decide) :
    PE X (.Call (.Name x p) [] [] pos) (fun _ H Q => ∀ a, H a = none → Q (.ref a) (upd H a (exo a C none))) := by
  refine ⟨fun pins s σ H Q I h => ?_⟩
  refine wpAny_Call_Name_kw (ld_glob I hg hm ?_ hdb)
  refine PySem.W.callWith_K0 I.kIn kC ?_
  show wpAny _ _ (call (.ref C) []) _ _ _
  obtain ⟨bm, N, nm, qn, bs, hdct, sn, sub, ab, col, dd, k0, k1, k2, k3, k5, mN, hC, hN, hni, T⟩ := exc_obj I.kIn q
  refine wpAny_call_exc_subT F T hC hN hni (fun h' a hm => ?_) (by show 0 ≤ sizeLine; rw [sizeLine_eq]; omega)
  have hn : H a = none := I.hok.gone hm.new
  obtain ⟨t, ht, _, _⟩ := hm.there
  exact ⟨.ref a, upd H a (exo a C none), I.laidN hm.keeps hm.new hn (exo_ok ht), rfl, h a hn⟩
/-- e.f of an exception -/
def tXfl (K : PySem.W.Frag) (f : Str) (te : TE) : TE := fun σ H Q => te σ H fun x H1 => ∃ (a C : Addr) (fs : List (Str × V)) (v : V), x = .ref a ∧ XCl K C ∧ PySem.W.findIn K (.ref C) f = some none ∧ XAt H1 a C fs ∧ fs.lookup f = some v ∧ Q v H1
theorem pe_xfl {n : Str} {te : TE} (he : PE X e te) (hb : attributeBase e n X.env (eval e X.env) = eval e X.env := by rfl) : PE X (.Attribute e n pos) (tXfl X.K n te) := by
  refine ⟨fun pins s σ H Q I h => ?_⟩
  refine attr_of hb (thn (he.run pins s σ H _ I h) fun u s1 hh => ?_)
  obtain ⟨x, H1, I1, rx, a, C, fs, v, ex, T, hno, ⟨d, h1, h2⟩, l, q⟩ := hh
  subst ex
  obtain rfl : u = Value.ref a := rx
  obtain ⟨t1, ho⟩ := exo_at I1.hok h1
  obtain ⟨mA, hns, hr⟩ := exd_at I1.hok h2
  obtain ⟨od, hod, hl⟩ := lookIn_ns hns
  obtain ⟨u, hu, ru⟩ := RelO.some_of (v := v) (o := mA n) (by rw [← l]; exact hr n)
  have J : PySem.W.InstAt s1.heap a { cls := .ref C, dict := some d, data := .fields #[.ref t1, .none, .none, .none, .bool false, .none] } C (some od) := ⟨ho, rfl, rfl, hod⟩
  exact HandSPX.exc_get I1.kIn J T.xf.ga T.xf.gg T.xf.exC (PySem.W.findObj_own T.xf.hdC hno rfl (by rw [hl, hu])) (handed_of ru) ⟨v, H1, I1.tok _, ru, q⟩
/-- an exception stands at a, its dict too, or it has none -/
def XSt (H : Hp) (a C : Addr) : Prop := H a = some (exo a C none) ∨ ∃ fs, XAt H a C fs
theorem XSt.ex {H H' : Hp} {a C : Addr} (h : XSt H a C) (e : Ex H H') : XSt H' a C := by
  rcases h with h | ⟨fs, h⟩
  · exact .inl (e _ _ h)
  · exact .inr ⟨fs, h.ex e⟩
theorem XSt.inst {pins : List (Addr × Obj)} {σ : St} {H : Hp} {s : Shared} {a : Addr} (I : Inv X pins σ H s) (h : XSt H a C) : ∃ ox od, PySem.W.InstAt s.heap a ox C od := by
  rcases h with h | ⟨fs, d, h1, h2⟩
  · obtain ⟨t1, ho⟩ := exo_at I.hok h
    exact ⟨_, none, ho, rfl, rfl, True.intro⟩
  · obtain ⟨t1, ho⟩ := exo_at I.hok h1
    obtain ⟨mA, ⟨o, es, ep, e1, e2⟩, hr⟩ := exd_at I.hok h2
    exact ⟨_, some o, ho, rfl, rfl, e1⟩
theorem XCl.kit {a : Addr} {ox : Obj} {od : Option Obj} (T : XCl X.K C) : PySem.W.KitX X.K (.ref a) (.ref C) (fun h => PySem.W.InstAt h a ox C od) :=
  PySem.W.kitx_exc T.hcl T.xf.ga T.xf.gg T.xf.exC T.ha T.hn T.ht T.hm
/-- isinstance(e, c) of an exception -/
def rIsX (K : PySem.W.Frag) : List V → Hp → VK → Prop := fun xs H Q => ∃ (a C : Addr) (c : V) (u : Value) (b : Bool), xs = [.ref a, c] ∧ XCl K C ∧ XSt H a C ∧ ClsV c u ∧ PySem.W.kitOne K (.ref C) u = some b ∧ Q (.bl b) H
def rIsXT (K : PySem.W.Frag) : List V → Hp → VK → Prop := fun xs H Q => ∃ (a C tp : Addr) (cs : List V) (us : List Value) (b : Bool), xs = [.ref a, .ref tp] ∧ XCl K C ∧ XSt H a C ∧ H tp = some (.tup cs) ∧ Paired ClsV cs us ∧ PySem.W.kitAny K (.ref C) us = some b ∧ Q (.bl b) H
theorem call_isX : CallR X (.builtin "isinstance") (rIsX X.K) := by
  intro pins s σ H xs us Q I r h
  obtain ⟨a, C, c, u, b, rfl, T, hs, k, e, q⟩ := h
  obtain ⟨u1, u2, rfl, r1, r2⟩ := vals2 r
  have e2 := k.eq r2
  subst e2
  cases (show u1 = Value.ref a from r1)
  obtain ⟨ox, od, J⟩ := hs.inst I
  exact PySem.W.kia_one T.kit I.kIn J e (fun z => nomatch z) fun tk => ⟨.bl b, H, I.tok tk, rfl, q⟩
theorem call_isXT : CallR X (.builtin "isinstance") (rIsXT X.K) := by
  intro pins s σ H xs us Q I r h
  obtain ⟨a, C, tp, cs, ws, b, rfl, T, hs, hT, k, e, q⟩ := h
  obtain ⟨u1, u2, rfl, r1, r2⟩ := vals2 r
  cases (show u2 = Value.ref tp from r2)
  cases (show u1 = Value.ref a from r1)
  obtain ⟨ox, od, J⟩ := hs.inst I
  obtain ⟨_, its, rv, o, h1, h2, n, h3⟩ := (show ObjOk X.prog X.w H s.heap tp (.tup cs) from I.hok tp _ hT)
  have e3 := ClsV.all k rv
  subst e3
  obtain ⟨oc, odd, dt, sl⟩ := o
  simp only at h2 h3
  subst h2 h3
  exact PySem.W.kia_tup T.kit I.kIn J h1 e (fun z => nomatch z) fun tk => ⟨.bl b, H, I.tok tk, rfl, q⟩
end
end L2
set_option Elab.async false
set_option linter.all false
set_option maxRecDepth 100000
set_option maxHeartbeats 4000000
set_option autoImplicit false
/-! What the head must say of a program's exception classes; what follows. -/
namespace He
open PySem PySem.Spec PyProof.Rows L2
/-- a def's own data -/
def fdOf (K : PySem.W.Frag) (p : Str × Option Str) : FuncData := match K.lookup (fAd K p) with
  | some ⟨_, _, .func fd, _⟩ => fd
  | _ => default
theorem funD_at {fa : List Fa} {fn : List DefD} {K : PySem.W.Frag} (c : SaysD fa fn K) (i : Nat) {d : DefD} (h : fn[i]? = some d) : FunD K d.name d.qual d.params d.body d.scope (d.dvs K) (d.kws K) (fAd K d.at_) (fdOf K d.at_) := by
  obtain ⟨fd, F⟩ := c.def_ i h
  obtain ⟨oc, od, dV, kV, doc, pm, an, cdv, ct, osl, e, lk, _⟩ := id F.ex
  have e2 : fdOf K d.at_ = fd := by
    unfold fdOf
    rw [lk]
  rw [e2]
  exact F
def oexB (K : PySem.W.Frag) (C : Addr) : Bool := match K.lookup C with
  | some ⟨.type "type", _, .cls cd, sl⟩ => (match cd.mro, sl.toList with
    | .ref C' :: bm, [_, _, _, _, some (.builtin n), _] => C' == C && n == "ValueError.__new__" && !cd.hasDel && cd.hasDict && HandSPX.refsVE bm
    | _, _ => false)
  | _ => false
theorem oexB_ok {K : PySem.W.Frag} {C : Addr} (q : oexB K C = true) : ∃ nm q N bs bm sn sub ab col dd k0 k1 k2 k3 k5, K.lookup C = some (excClassObj nm q C N bs bm true sn sub ab col dd k0 k1 k2 k3 k5 "ValueError.__new__") ∧ PySem.HandSPX.refsVE bm = true := by
  unfold oexB at q
  split at q
  · rename_i dd cd sl ho
    split at q
    · rename_i C' bm k0 k1 k2 k3 n k5 hm hs
      simp only [Bool.and_eq_true, beq_iff_eq, Bool.not_eq_true'] at q
      obtain ⟨⟨⟨⟨rfl, rfl⟩, hdel⟩, hd⟩, hr⟩ := q
      obtain ⟨nm, bs, mro, ns, qn, hdc, sn, sub, ab, col, del⟩ := cd
      dsimp only at hm hdel hd
      subst hm hdel hd
      have hsl : sl = #[k0, k1, k2, k3, some (.builtin "ValueError.__new__"), k5] := by
        obtain ⟨l⟩ := sl
        simp only at hs
        rw [hs]
      subst hsl
      exact ⟨nm, qn, ns, bs, bm, sn, sub, ab, col, dd, k0, k1, k2, k3, k5, ho, hr⟩
    · cases q
  · cases q
/-- the classes that an exception class is below, itself first -/
def mroNames (K : PySem.W.Frag) (xs : List Str) : List Value := xs.map fun x => Value.ref (ga K x)
def mroB (K : PySem.W.Frag) (x : Str) (bases : List Str) : Bool := match PySem.W.clsIn K (ga K x) with
  | some cd => cd.mro == mroNames K (x :: bases) ++ HandSPX.veTail
  | none => false
def excB (K : PySem.W.Frag) (e : Str × List Str × List Str) : Bool :=
  oexB K (ga K e.1) && (eqO (PySem.W.findIn K (.ref (ga K e.1)) "__setattr__") (some (some (.builtin "object.__setattr__"))) && (decide (PySem.W.subIn K (.ref (ga K e.1)) (.type "BaseException") = some true) &&
    (decide (PySem.W.typeIn K (.ref (ga K e.1)) = some (.type "type")) && (PySem.W.keepIn K (.ref (ga K e.1)) && (xfB K (ga K e.1) && (eqO (PySem.W.findIn K (.ref (ga K e.1)) "__class__") (some (some (.builtin "object.__class__"))) &&
      (decide (PySem.W.mroIn K (ga K e.1) (.type "object") = some true) && ((e.2.2.all fun f => eqO (PySem.W.findIn K (.ref (ga K e.1)) f) (some none)) && mroB K e.1 e.2.1))))))))
def excsB (K : PySem.W.Frag) (xs : List (Str × List Str × List Str)) : Bool :=
  decide (xs.map fun e => ga K e.1).Nodup && (eqO (PySem.W.specialIn K (.builtin "object.__class__") "__get__") (some (some (.builtin "getset_descriptor.__get__"))) && (decide (PySem.W.takesIn K (.builtin "object.__class__") = some true) && xs.all fun e => excB K e))
section
variable {K : PySem.W.Frag} {xs : List (Str × List Str × List Str)}
theorem excsB_cl (h : excsB K xs = true) {x : Str} {bases fs : List Str} (m : (x, bases, fs) ∈ xs) : XCl K (ga K x) ∧ (∀ f ∈ fs, PySem.W.findIn K (.ref (ga K x)) f = some none) ∧ ∃ cd, PySem.W.clsIn K (ga K x) = some cd ∧ cd.mro = mroNames K (x :: bases) ++ HandSPX.veTail := by
  obtain ⟨_, h⟩ := ba h
  obtain ⟨hn, h⟩ := ba h
  obtain ⟨ht, h⟩ := ba h
  have e := List.all_eq_true.mp h _ m
  obtain ⟨e1, e⟩ := ba e
  obtain ⟨e2, e⟩ := ba e
  obtain ⟨e3, e⟩ := ba e
  obtain ⟨e4, e⟩ := ba e
  obtain ⟨e5, e⟩ := ba e
  obtain ⟨e6, e⟩ := ba e
  obtain ⟨e7, e⟩ := ba e
  obtain ⟨e8, e⟩ := ba e
  obtain ⟨e9, e10⟩ := ba e
  have hcd : ∃ cd, PySem.W.clsIn K (ga K x) = some cd ∧ cd.mro = mroNames K (x :: bases) ++ HandSPX.veTail := by
    have e10' : mroB K x bases = true := e10
    unfold mroB at e10'
    split at e10'
    · rename_i cd hc
      exact ⟨cd, hc, beq_iff_eq.mp e10'⟩
    · cases e10'
  refine ⟨⟨⟨oexB_ok e1, eqO_ok e2, of_decide_eq_true e3, of_decide_eq_true e4, e5⟩, xfB_ok e6, ?_, eqO_ok e7, eqO_ok hn, of_decide_eq_true ht, of_decide_eq_true e8⟩, fun f hf => eqO_ok (List.all_eq_true.mp e9 f hf), hcd⟩
  obtain ⟨cd, hc, _⟩ := hcd
  rw [hc]
  rfl
theorem inj_of_nodup {α β : Type} {f : α → β} : ∀ {l : List α}, (l.map f).Nodup → ∀ {a b : α}, a ∈ l → b ∈ l → f a = f b → a = b
  | [], _, _, _, ha, _, _ => nomatch ha
  | c :: r, nd, a, b, ha, hb, e => by
    rw [List.map_cons, List.nodup_cons] at nd
    rcases List.mem_cons.mp ha with ea | ha
    · rcases List.mem_cons.mp hb with eb | hb
      · rw [ea, eb]
      · exact absurd (List.mem_map.mpr ⟨b, hb, (ea ▸ e).symm⟩) nd.1
    · rcases List.mem_cons.mp hb with eb | hb
      · exact absurd (List.mem_map.mpr ⟨a, ha, eb ▸ e⟩) nd.1
      · exact inj_of_nodup nd.2 ha hb e
theorem ga_inj (h : excsB K xs = true) {x y : Str} (mx : x ∈ xs.map (·.1)) (my : y ∈ xs.map (·.1)) (e : ga K x = ga K y) : x = y := by
  obtain ⟨h1, _⟩ := ba h
  have nd : (xs.map fun e => ga K e.1).Nodup := of_decide_eq_true h1
  have e1 : (xs.map fun e => ga K e.1) = (xs.map (·.1)).map (ga K) := by rw [List.map_map] <;> rfl
  rw [e1] at nd
  exact inj_of_nodup nd mx my e
/-- isinstance against an own class -/
theorem kit_exc (h : excsB K xs = true) {x d : Str} {bases fs b2 f2 : List Str} (mx : (x, bases, fs) ∈ xs) (md : (d, b2, f2) ∈ xs) (hb : ∀ y ∈ bases, y ∈ xs.map (·.1)) :
    PySem.W.kitOne K (.ref (ga K x)) (.ref (ga K d)) = some (decide (d ∈ x :: bases)) := by
  obtain ⟨T, _, cd, hc, hm⟩ := excsB_cl h mx
  obtain ⟨T2, _, _⟩ := excsB_cl h md
  have mx' : x ∈ xs.map (·.1) := List.mem_map.mpr ⟨_, mx, rfl⟩
  have md' : d ∈ xs.map (·.1) := List.mem_map.mpr ⟨_, md, rfl⟩
  unfold PySem.W.kitOne
  by_cases e : x = d
  · subst e
    rw [if_pos (beq_iff_eq.mpr rfl), decide_eq_true List.mem_cons_self]
  · have ne : ¬ (Value.ref (ga K x) == Value.ref (ga K d)) = true := fun q => e (ga_inj h mx' md' (Value.ref.inj (beq_iff_eq.mp q)))
    rw [if_neg ne]
    unfold PySem.W.kitCls
    show (if ((PySem.W.clsIn K (ga K d)).isSome && PySem.W.typeIn K (.ref (ga K d)) == some (.type "type")) = true then PySem.W.subIn K (.ref (ga K x)) (.ref (ga K d)) else none) = _
    rw [if_pos (by rw [T2.hcl, T2.oex.tyC] <;> rfl)]
    show PySem.W.mroIn K (ga K x) (.ref (ga K d)) = _
    unfold PySem.W.mroIn
    rw [hc, Option.bind_some, if_neg (by rw [hm]; exact fun q => by cases q)]
    congr 1
    rw [hm]
    by_cases q : d ∈ x :: bases
    · rw [decide_eq_true q, List.contains_iff_mem]
      exact List.mem_append_left _ (List.mem_map.mpr ⟨d, q, rfl⟩)
    · rw [decide_eq_false q, Bool.eq_false_iff]
      intro z
      rw [List.contains_iff_mem] at z
      rcases List.mem_append.mp z with z | z
      · obtain ⟨y, hy, ey⟩ := List.mem_map.mp z
        have my : y ∈ xs.map (·.1) := by
          rcases List.mem_cons.mp hy with r | r
          · rw [r]
            exact mx'
          · exact hb y r
        exact q (ga_inj h my md' (Value.ref.inj ey) ▸ hy)
      · have z' : Value.ref (ga K d) ∈ [Value.type "ValueError", .type "Exception", .type "BaseException", .type "object"] := z
        simp at z'
/-- .. against a built-in one -/
theorem kit_excT (h : excsB K xs = true) {x : Str} {bases fs : List Str} (mx : (x, bases, fs) ∈ xs) {t : String} (ht : PySem.W.kitMeta t = true) :
    PySem.W.kitOne K (.ref (ga K x)) (.type t) = some (HandSPX.veTail.contains (.type t)) := by
  obtain ⟨T, _, cd, hc, hm⟩ := excsB_cl h mx
  unfold PySem.W.kitOne
  rw [if_neg (show ¬ (Value.ref (ga K x) == Value.type t) = true from fun q => nomatch (beq_iff_eq.mp q))]
  unfold PySem.W.kitCls
  show (if PySem.W.kitMeta t = true then PySem.W.subIn K (.ref (ga K x)) (.type t) else none) = _
  rw [if_pos ht]
  show PySem.W.mroIn K (ga K x) (.type t) = _
  unfold PySem.W.mroIn
  rw [hc, Option.bind_some, if_neg (by rw [hm]; exact fun q => by cases q)]
  congr 1
  rw [hm]
  have key : ∀ l : List Str, (mroNames K l ++ HandSPX.veTail).contains (.type t) = HandSPX.veTail.contains (.type t) := by
    intro l
    induction l with
    | nil => rfl
    | cons a r ih =>
      show (Value.ref (ga K a) :: (mroNames K r ++ HandSPX.veTail)).contains (.type t) = _
      rw [List.contains_cons, ih]
      rfl
  exact key _
end
end He
set_option Elab.async false
set_option linter.all false
set_option maxRecDepth 100000
set_option maxHeartbeats 4000000
set_option autoImplicit false
/-! Rules and words of our own for the laws: == of lists with decided items, the pen of a law, keywords. -/
namespace L2
open PySem PySem.Spec PyProof.Rows Evl

/-! ### == of items whose answer is known -/
inductive Eqv : V → V → Bool → Prop where
  | non : Eqv .non .non true
  | bl (a b : Bool) : Eqv (.bl a) (.bl b) (a == b)
  | int (a b : Int) : Eqv (.int a) (.int b) (a == b)
  | str (a b : Str) : Eqv (.str a) (.str b) (a == b)
  | same (a : Addr) : Eqv (.ref a) (.ref a) true
  | nonBl (b : Bool) : Eqv .non (.bl b) false
  | blNon (b : Bool) : Eqv (.bl b) .non false
  | nonInt (b : Int) : Eqv .non (.int b) false
  | intNon (b : Int) : Eqv (.int b) .non false
  | nonStr (b : Str) : Eqv .non (.str b) false
  | strNon (b : Str) : Eqv (.str b) .non false
theorem Eqv.at {A : Around} {s : Shared} {x y : V} {b : Bool} {u v : Value} (h : Eqv x y b) (rx : RelV x u) (ry : RelV y v) : SeqAt.EqAt A s u v b := by
  cases h with
  | non => cases rx; cases ry; exact SeqAt.EqAt.same _
  | bl a b => cases rx; cases ry; exact SeqAt.EqAt.bool_bool _ _
  | int a b => obtain ⟨t, rfl⟩ := rx; obtain ⟨t', rfl⟩ := ry; exact SeqAt.EqAt.int_int _ _ _ _
  | str a b => obtain ⟨t, rfl⟩ := rx; obtain ⟨t', rfl⟩ := ry; exact SeqAt.EqAt.str_str _ _ _ _
  | same a => cases rx; cases ry; exact SeqAt.EqAt.same _
  | nonBl b => cases rx; cases ry; exact SeqAt.EqAt.none_bool _
  | blNon b => cases rx; cases ry; exact SeqAt.EqAt.bool_none _
  | nonInt b => cases rx; obtain ⟨t', rfl⟩ := ry; exact SeqAt.EqAt.none_int _ _
  | intNon b => cases ry; obtain ⟨t', rfl⟩ := rx; exact SeqAt.EqAt.int_none _ _
  | nonStr b => cases rx; obtain ⟨t', rfl⟩ := ry; exact SeqAt.EqAt.none_str _ _
  | strNon b => cases ry; obtain ⟨t', rfl⟩ := rx; exact SeqAt.EqAt.str_none _ _
/-- two rows of values, item by item -/
inductive Eqvs : List V → List V → List Bool → Prop where
  | nil : Eqvs [] [] []
  | cons {x y : V} {b : Bool} {xs ys : List V} {bs : List Bool} : Eqv x y b → Eqvs xs ys bs → Eqvs (x :: xs) (y :: ys) (b :: bs)
theorem Eqvs.len {xs ys : List V} {bs : List Bool} (h : Eqvs xs ys bs) : xs.length = bs.length ∧ ys.length = bs.length := by
  induction h with
  | nil => exact ⟨rfl, rfl⟩
  | cons _ _ ih => exact ⟨congrArg Nat.succ ih.1, congrArg Nat.succ ih.2⟩
theorem Eqvs.at {A : Around} {s : Shared} {xs ys : List V} {bs : List Bool} (h : Eqvs xs ys bs) : ∀ {us vs : List Value}, Vals xs us → Vals ys vs → ∀ j (h1 : j < us.length) (h2 : j < vs.length), SeqAt.EqAt A s us[j] vs[j] (bs.getD j false) := by
  induction h with
  | nil =>
    intro us vs r1 r2 j h1 h2
    cases r1
    exact absurd h1 (Nat.not_lt_zero j)
  | cons h _ ih =>
    intro us vs r1 r2 j h1 h2
    cases r1 with
    | cons a1 b1 =>
      cases r2 with
      | cons a2 b2 =>
        cases j with
        | zero => exact h.at a1 a2
        | succ j => exact ih b1 b2 j (Nat.lt_of_succ_lt_succ h1) (Nat.lt_of_succ_lt_succ h2)
theorem range_all : ∀ (bs : List Bool), (List.range bs.length).all (fun j => bs.getD j false) = bs.all id
  | [] => rfl
  | b :: bs => by
    rw [List.length_cons, List.range_succ_eq_map, List.all_cons, List.all_map, List.all_cons]
    have h := range_all bs
    show (b && (List.range bs.length).all fun j => (b :: bs).getD (j + 1) false) = _
    rw [← h]
    rfl
/-- == of two lists: their lengths, then item by item -/
def LEq (xs ys : List V) (r : Bool) : Prop := (xs.length ≠ ys.length ∧ r = false) ∨ ∃ bs, Eqvs xs ys bs ∧ r = bs.all id
def rEqL (K : PySem.W.Frag) : R2 := fun x y H Q => ∃ a b xs ys r, x = .ref a ∧ y = .ref b ∧ SqL K H a xs ∧ SqL K H b ys ∧ LEq xs ys r ∧ Q (.bl r) H
def rNeL (K : PySem.W.Frag) : R2 := fun x y H Q => ∃ a b xs ys r, x = .ref a ∧ y = .ref b ∧ SqL K H a xs ∧ SqL K H b ys ∧ LEq xs ys r ∧ Q (.bl (!r)) H
section
variable {X : Cx}
theorem op_eqL (hu : X.A.units < cLine) : OpR X (compareOp .Eq) (rEqL X.K) := by
  intro pins s σ H x y v u Q I rx ry h
  obtain ⟨a, b, xs, ys, r, rfl, rfl, ha, hb, he, q⟩ := h
  cases (show v = Value.ref a from rx)
  cases (show u = Value.ref b from ry)
  obtain ⟨us, r1, p1, _⟩ := I.list ha
  obtain ⟨ws, r2, p2, _⟩ := I.list hb
  have l1 := r1.length
  have l2 := r2.length
  rcases he with ⟨hn, rfl⟩ | ⟨bs, he, rfl⟩
  · exact SeqAt.RcAt.lists_lengths p1.isList p2.isList (by simp only [List.size_toArray, bne_iff_ne]; omega) hu X.prog X.w _ _ ⟨.bl false, H, I, rfl, q⟩
  · have hl := he.len
    have hsz : us.toArray.size = ws.toArray.size := by simp only [List.size_toArray]; omega
    refine SeqAt.RcAt.lists (e := fun j => bs.getD j false) p1.isList p2.isList hsz hu (fun j h1 h2 => ?_) X.prog X.w _ _ ⟨.bl (bs.all id), H, I, ?_, q⟩
    · have k := he.at (A := X.A.in1) (s := s) r1 r2 j (by simpa using h1) (by simpa using h2)
      simpa using k
    · have e : us.toArray.size = bs.length := by simp only [List.size_toArray]; omega
      rw [e, range_all]
      rfl
theorem op_neL (hu : X.A.units < cLine) : OpR X (compareOp .NotEq) (rNeL X.K) := by
  intro pins s σ H x y v u Q I rx ry h
  obtain ⟨a, b, xs, ys, r, rfl, rfl, ha, hb, he, q⟩ := h
  cases (show v = Value.ref a from rx)
  cases (show u = Value.ref b from ry)
  obtain ⟨us, r1, p1, _⟩ := I.list ha
  obtain ⟨ws, r2, p2, _⟩ := I.list hb
  have l1 := r1.length
  have l2 := r2.length
  rcases he with ⟨hn, rfl⟩ | ⟨bs, he, rfl⟩
  · exact SeqAt.RcNeAt.lists_lengths p1.isList p2.isList (by simp only [List.size_toArray, bne_iff_ne]; omega) hu X.prog X.w _ _ ⟨.bl true, H, I, rfl, q⟩
  · have hl := he.len
    have hsz : us.toArray.size = ws.toArray.size := by simp only [List.size_toArray]; omega
    refine SeqAt.RcNeAt.lists (e := fun j => bs.getD j false) p1.isList p2.isList hsz hu (fun j h1 h2 => ?_) X.prog X.w _ _ ⟨.bl (!bs.all id), H, I, ?_, q⟩
    · have k := he.at (A := X.A.in1) (s := s) r1 r2 j (by simpa using h1) (by simpa using h2)
      simpa using k
    · have e : us.toArray.size = bs.length := by simp only [List.size_toArray]; omega
      rw [e, range_all]
      rfl
/-- a value that is asked whether it is unlike itself: it is not -/
def SelfV (K : PySem.W.Frag) (H : Hp) (x : V) : Prop := scal x x = true ∨ (∃ d, Dp K H x d ∧ SeqAt.shaped d = true) ∨ ∃ a, x = .ref a ∧ H a = some (.dK [])
def rNeSelf (K : PySem.W.Frag) : R2 := fun x y H Q => x = y ∧ SelfV K H x ∧ Q (.bl false) H
theorem op_neSelf (hu : X.A.units + 64 < cLine) : OpR X (compareOp .NotEq) (rNeSelf X.K) := by
  intro pins s σ H x y v u Q I rx ry h
  obtain ⟨rfl, hs, q⟩ := h
  rcases hs with hs | ⟨d, hd, sd⟩ | ⟨a, rfl, ha⟩
  · refine op_ne pins s σ H x x v u Q I rx ry ⟨hs, ?_⟩
    rw [decide_eq_true rfl]
    exact q
  · refine op_neD hu pins s σ H x x v u Q I rx ry ⟨d, d, hd, hd, sd, sd, ?_⟩
    rw [SeqAt.eqv_refl d (SeqAt.canLay_of_shaped sd)]
    exact q
  · exact op_ne_dictA (by omega) pins s σ H _ _ v u Q I rx ry ⟨a, a, [], [], rfl, rfl, ha, ha, rfl, fun p hp => (nomatch hp), q⟩
end

/-! ### keywords -/
section
variable {K : PySem.W.Frag} {x qual : Str} {params : Arguments} {body : List Stmt} {scope : Scope} {kws : List (Str × V)} {f : Addr} {fd : FuncData} {ps : List Str}
theorem FunD.kbindsP (F : FunD K x qual params body scope [] kws f fd) (n : Nat) (ks : List Str) (g : {α : Type} → List α → List α → List α)
    (hrel : ∀ {vs zs : List V} {us ws : List Value}, Vals vs us → Vals zs ws → Vals (g vs zs) (g us ws))
    (h : ∀ (kV doc pm : Value) (an : Option Addr) (cdv ct : Value) (us ws : List Value), us.length = n → ws.length = ks.length →
      bindArgs (PySem.W.fnOf x qual params body scope .none kV doc pm an cdv ct) ⟨us, ks.zip ws⟩ = pure (ps.zip (g us ws))) : KBn K fd ps n ks (fun us ws => g us ws) (fun vs zs => g vs zs) := by
  obtain ⟨oc, od, dV, kV, doc, pm, an, cdv, ct, osl, rfl, lk, hcd, hD, hK⟩ := F.ex
  rcases hD with ⟨_, rfl⟩ | ⟨e, _⟩
  · exact ⟨fun s us ws _ l1 l2 => .of_eq (h kV doc pm an cdv ct us ws l1 l2), fun r1 r2 => hrel r1 r2⟩
  · exact absurd rfl e
end
section
variable {X : Cx} {CX : CXT} {k n : Nat} {f : Addr} {fd : FuncData} {ps ks : List Str} {sp : Sp} {E : XK} {x : Str} {p pos : Pos} {kws : List Keyword} {tk : TA} {g : List Value → List Value → List Value} {gV : List V → List V → List V}
/-- f(k = v, ..) -/
theorem pe_callN0 (F : FnOk X.prog X.w X.K X.mg X.base CX k f fd ps sp) (hr : Room k X.A) (hg : Gl X x) (hm : X.mg x = some (.ref f)) (hk : PySem.W.keepIn X.K (.ref f) = true) (hb : KBn X.K fd ps 0 ks g gV) (hx : Passes CX X E)
    (hkw : PK X kws tk) (hall : (backToKw pos (keywordEach kws X.env)).all (·.1.isSome) = true := by rfl) (hks : (backToKw pos (keywordEach kws X.env)).filterMap (·.1) = ks := by rfl)
    (hdb : (x == ("__debug__" : Str)) = false := by decide) (hpl : ((backTo pos (starEach [] X.env)).any (·.1) || (backToKw pos (keywordEach kws X.env)).any (·.1.isNone)) = false := by rfl) :
    PE X (.Call (.Name x p) [] kws pos) (tCallN 0 ks.length sp gV E tNil tk) := by
  refine ⟨fun pins s σ H Q I h => ?_⟩
  refine wpAny_Call_Name_kw (ld_glob I hg hm ?_ hdb)
  refine PySem.W.callWith_KW0 (h₀ := X.base) I.ok.mod.kin hk hall ?_ hpl
  refine thn (hkw.run pos pins s σ H _ I h) fun ws s2 ⟨zs, H2, I2, rz, l1, l2, q2⟩ => ⟨I2.kIn, ?_⟩
  rw [hks]
  exact run_fnN (us := []) (vs := []) F hr hb hx I2 .nil rz rfl l2 q2
end

/-! ### the pen of a law: a list of its cells, how many were begun, and what is left of a great one -/
/-- all but p is as it was -/
def Off (p : Addr) (H H' : Hp) : Prop := ∀ a o, H a = some o → a ≠ p → H' a = some o
theorem Off.refl (p : Addr) (H : Hp) : Off p H H := fun _ _ h _ => h
theorem Off.trans {p : Addr} {H H1 H2 : Hp} (a : Off p H H1) (b : Off p H1 H2) : Off p H H2 := fun x o h n => b x o (a x o h n) n
theorem Off.of {p : Addr} {H H' : Hp} (e : Ex H H') : Off p H H' := fun a o h _ => e a o h
theorem Off.upd {p : Addr} {H H' : Hp} (e : Off p H H') {o : HO} : Off p H (upd H' p o) := fun a u h n => by
  rw [upd_ne n]
  exact e a u h n
structure PenAt (K : PySem.W.Frag) (n : Nat) (H : Hp) (p c : Addr) : Prop where
  at_ : ∃ (t r : Int) (ns : List Int), H p = some (.lst [.ref c, .int t, .int r]) ∧ H c = some (.lst (ns.map V.int)) ∧ c ≠ p ∧ 0 ≤ t ∧ t ≤ (n : Int) ∧ 0 ≤ r ∧ ns.length ≤ 100
theorem rd_ne {H H' : Hp} {p c : Addr} {u : HO} (e : Off p H H') (n : c ≠ p) (h : Rd H c u) : Rd H' c u := by
  rcases h with h | ⟨o, h⟩
  · exact .inl (e _ _ h n)
  · exact .inr ⟨o, e _ _ h n⟩
theorem Off.sq {K : PySem.W.Frag} {H H' : Hp} {p c : Addr} {xs : List V} (e : Off p H H') (n : c ≠ p) (h : SqL K H c xs) : SqL K H' c xs := by
  rcases h with h | h
  · exact .inl (rd_ne e n h)
  · exact .inr h
theorem Off.sqT {K : PySem.W.Frag} {H H' : Hp} {p c : Addr} {xs : List V} (e : Off p H H') (n : c ≠ p) (h : SqT K H c xs) : SqT K H' c xs := by
  rcases h with h | h
  · exact .inl (rd_ne e n h)
  · exact .inr h
theorem PenAt.ex {K : PySem.W.Frag} {n : Nat} {H H' : Hp} {p c : Addr} (h : PenAt K n H p c) (e : Ex H H') : PenAt K n H' p c := by
  obtain ⟨t, r, ns, h1, h2, h3⟩ := h
  exact ⟨t, r, ns, e _ _ h1, e _ _ h2, h3⟩
theorem PenAt.mono {K : PySem.W.Frag} {n m : Nat} {H : Hp} {p c : Addr} (h : PenAt K n H p c) (l : n ≤ m) : PenAt K m H p c := by
  obtain ⟨t, r, ns, h1, h2, h3, h4, h5, h6⟩ := h
  exact ⟨t, r, ns, h1, h2, h3, h4, by omega, h6⟩
theorem PenAt.there {K : PySem.W.Frag} {n : Nat} {H : Hp} {p c : Addr} (h : PenAt K n H p c) : ∃ o, H p = some o := by
  obtain ⟨t, r, ns, h1, _⟩ := h
  exact ⟨_, h1⟩
/-- what was new beside the pen may change -/
theorem PenAt.mut {K : PySem.W.Frag} {n m : Nat} {H H' : Hp} {p c q : Addr} (h : PenAt K n H p c) (hq : H q = none) (h' : PenAt K m H' p c) {o : HO} : PenAt K m (upd H' q o) p c := by
  obtain ⟨t, r, ns, h1, h2, _⟩ := h
  obtain ⟨t', r', ns', k1, k2, k3⟩ := h'
  exact ⟨t', r', ns', by rw [upd_ne (ne_of_none h1 hq)]; exact k1, by rw [upd_ne (ne_of_none h2 hq)]; exact k2, k3⟩
theorem Off.back {p q : Addr} {H H' : Hp} (e : Off p H H') {o : HO} (h : H' p = some o) (f : H' q = none) : H q = none := by
  cases z : H q with
  | none => rfl
  | some u =>
    by_cases n : q = p
    · rw [n, h] at f
      cases f
    · rw [e q u z n] at f
      cases f
/-- a draw below m: at most one cell more is begun -/
def spDraw (K : PySem.W.Frag) : Sp := fun vs H Q _ => ∃ (p c : Addr) (m : Int) (n : Nat), vs = [.ref p, .int m] ∧ 0 < m ∧ m < 1073741824 ∧ PenAt K n H p c ∧ n ≤ 100000 ∧
  ∀ (d : Int) (H' : Hp), 0 ≤ d → d < m → Off p H H' → PenAt K (n + 1) H' p c → Q (.int d) H'
/-- one of a list's items -/
def spPick (K : PySem.W.Frag) : Sp := fun vs H Q _ => ∃ (p c l : Addr) (xs : List V) (n : Nat), vs = [.ref p, .ref l] ∧ SqL K H l xs ∧ l ≠ p ∧ 0 < xs.length ∧ xs.length ≤ 1000 ∧ PenAt K n H p c ∧ n ≤ 100000 ∧
  ∀ (i : Nat) (x : V) (H' : Hp), xs[i]? = some x → Off p H H' → PenAt K (n + 1) H' p c → Q x H'
end L2
set_option Elab.async false
set_option linter.all false
set_option maxRecDepth 100000
set_option maxHeartbeats 4000000
set_option autoImplicit false
namespace L2
open PySem PySem.Spec PyProof.Rows Evl
/-! ### kinds of values -/
def kinds : List String := ["NoneType", "bool", "int", "str", "list", "tuple", "dict"]
/-- a value of a built-in kind -/
structure Kd (K : PySem.W.Frag) (H : Hp) (x : V) (T : String) : Prop where
  ty : TyX K H x (.type T)
  mem : T ∈ kinds
section
variable {K : PySem.W.Frag} {H : Hp} {a : Addr} {xs : List V}
theorem kd_non : Kd K H .non "NoneType" := ⟨.base .non, by decide⟩
theorem kd_bl (b : Bool) : Kd K H (.bl b) "bool" := ⟨.base (.bl b), by decide⟩
theorem kd_int (i : Int) : Kd K H (.int i) "int" := ⟨.base (.int i), by decide⟩
theorem kd_str (x : Str) : Kd K H (.str x) "str" := ⟨.base (.str x), by decide⟩
theorem kd_lst (h : H a = some (.lst xs)) : Kd K H (.ref a) "list" := ⟨.base (.lst h), by decide⟩
theorem kd_tup (h : H a = some (.tup xs)) : Kd K H (.ref a) "tuple" := ⟨.base (.tup h), by decide⟩
theorem kd_dK {kvs : List (Key × V)} (h : H a = some (.dK kvs)) : Kd K H (.ref a) "dict" := ⟨.base (.dK h), by decide⟩
theorem kd_sqL (h : SqL K H a xs) : Kd K H (.ref a) "list" := by
  refine ⟨?_, by decide⟩
  rcases h with (h | ⟨o, h⟩) | ⟨o, its, n, h1, h2, _⟩
  · exact .base (.lst h)
  · exact .base (.frz h)
  · exact .kList h1 h2
theorem kd_sqT (h : SqT K H a xs) : Kd K H (.ref a) "tuple" := by
  refine ⟨?_, by decide⟩
  rcases h with (h | ⟨o, h⟩) | ⟨o, its, n, h1, h2, _⟩
  · exact .base (.tup h)
  · exact .fTuple h
  · exact .kTuple h1 h2
theorem Kd.ex {H' : Hp} {x : V} {T : String} (h : Kd K H x T) (e : Ex H H') : Kd K H' x T := by
  refine ⟨?_, h.mem⟩
  cases h.ty with
  | base b =>
    cases b with
    | non => exact .base .non
    | bl x => exact .base (.bl x)
    | int i => exact .base (.int i)
    | str x => exact .base (.str x)
    | flt x => exact .base (.flt x)
    | lst h2 => exact .base (.lst (e _ _ h2))
    | frz h2 => exact .base (.frz (e _ _ h2))
    | tup h2 => exact .base (.tup (e _ _ h2))
    | dK h2 => exact .base (.dK (e _ _ h2))
    | dT h2 => exact .base (.dT (e _ _ h2))
  | byt b => exact .byt b
  | set h2 => exact .set (e _ _ h2)
  | kList h2 c => exact .kList h2 c
  | kTuple h2 c => exact .kTuple h2 c
  | kDict h2 c => exact .kDict h2 c
  | fTuple h2 => exact .fTuple (e _ _ h2)
  | fDict h2 => exact .fDict (e _ _ h2)
end
def kAns (T c : String) : Bool := T == c || (T == "bool" && c == "int")
theorem kd_isi {K : PySem.W.Frag} {T c : String} (hT : T ∈ kinds) (hc : c ∈ kinds) : PySem.W.kitOne K (.type T) (.type c) = some (kAns T c) := by
  have h : ∀ T ∈ kinds, ∀ c ∈ kinds, kitB T c = some (kAns T c) := by decide +kernel
  exact kit_ty (h T hT c hc)
/-- isinstance(x, C) of a value of a built-in kind, an answer -/
theorem rc_isi {K : PySem.W.Frag} {H : Hp} {x : V} {T c : String} (h : Kd K H x T) (hc : c ∈ kinds) : RC (rIsi K) [x, .ty c] H (.bl (kAns T c)) := fun H1 e Q q =>
  ⟨x, .ty c, .type T, .type c, kAns T c, rfl, .ty c, (h.ex e).ty, kd_isi h.mem hc, q H1 (Ex.refl H1)⟩
/-- isinstance(x, (C, D)), the tuple just made -/
def kAny (T : String) (cs : List String) : Bool := cs.any fun c => kAns T c
theorem kit_anyK {K : PySem.W.Frag} {T : String} (hT : T ∈ kinds) : ∀ (cs : List String), (∀ c ∈ cs, c ∈ kinds) → PySem.W.kitAny K (.type T) (cs.map .type) = some (kAny T cs)
  | [], _ => rfl
  | c :: cs, h => by
    have h1 := kd_isi (K := K) hT (h c List.mem_cons_self)
    refine kitAny_cons h1 (fun e => ?_) (fun e => ?_)
    · rw [kit_anyK hT cs fun d hd => h d (List.mem_cons_of_mem _ hd)]
      show some (kAny T cs) = some (kAns T c || kAny T cs)
      rw [e] <;> rfl
    · show (kAns T c || kAny T cs) = true
      rw [e] <;> rfl
theorem cls_all (cs : List String) : Paired ClsV (cs.map V.ty) (cs.map Value.type) := by
  induction cs with
  | nil => exact .nil
  | cons c cs ih => exact .cons (.ty c) ih
theorem ev_isiT {K : PySem.W.Frag} {σ : L2.St} {H : Hp} {x : V} {ta tu : TE} {T : String} (cs : List String) (ha : Ev ta σ H x) (hu : EvU tu σ H (cs.map V.ty)) (h : Kd K H x T) (hc : ∀ c ∈ cs, c ∈ kinds) : Ev (tCB (rIsiT K) (tCons ta (tCons tu tNil))) σ H (.bl (kAny T cs)) :=
  fun H1 e Q q => ha H1 e _ fun H2 e2 => hu H2 (e.trans e2) _ fun p H3 _ e3 hp => ⟨x, p, cs.map V.ty, .type T, cs.map .type, kAny T cs, rfl, hp, cls_all cs, (h.ex ((e.trans e2).trans e3)).ty, kit_anyK h.mem cs hc, q H3 (e2.trans e3)⟩
section
variable {X : Cx}
/-! ### is True, is False -/
def rIsBX : R2 := fun x y H Q => ∃ b, y = .bl b ∧ Q (.bl (decide (x = .bl b))) H
def rNotBX : R2 := fun x y H Q => ∃ b, y = .bl b ∧ Q (.bl (!decide (x = .bl b))) H
theorem rel_bool {x : V} {v : Value} {b : Bool} (r : RelV x v) : decide (x = .bl b) = (v == .bool b) := by
  cases x with
  | bl c =>
    cases (show v = Value.bool c from r)
    rw [dec_bl]
    cases c <;> cases b <;> rfl
  | non => cases (show v = Value.none from r); rfl
  | int i => obtain ⟨t, rfl⟩ := r; rfl
  | str i => obtain ⟨t, rfl⟩ := r; rfl
  | byt i => obtain ⟨t, rfl⟩ := r; rfl
  | flt i => obtain ⟨t, rfl⟩ := r; rfl
  | ref i => cases r; rfl
  | ty i => cases r; rfl
theorem op_is_bl : OpR X (compareOp .Is) rIsBX := by
  intro pins s σ H x y v u Q I rx ry h
  obtain ⟨b, rfl, q⟩ := h
  cases (show u = Value.bool b from ry)
  have fin : EP X pins σ Q (.bool (v == .bool b)) s := ⟨.bl _, H, I, congrArg Value.bool (rel_bool rx).symm, q⟩
  cases x <;> first
    | (cases rx; exact wpAny_pure fin)
    | (obtain ⟨t, rfl⟩ := rx; exact wpAny_pure fin)
theorem op_isnot_bl : OpR X (compareOp .IsNot) rNotBX := by
  intro pins s σ H x y v u Q I rx ry h
  obtain ⟨b, rfl, q⟩ := h
  cases (show u = Value.bool b from ry)
  have fin : EP X pins σ Q (.bool (!(v == .bool b))) s := ⟨.bl _, H, I, congrArg Value.bool (congrArg not (rel_bool rx).symm), q⟩
  cases x <;> first
    | (cases rx; exact wpAny_pure fin)
    | (obtain ⟨t, rfl⟩ := rx; exact wpAny_pure fin)
/-! ### a walk over a list or a tuple -/
theorem PI.or {tg iter : Expr} {w1 w2 : TI} (h : PI X tg iter w1) (h' : PI X tg iter w2) : PI X tg iter (fun σ H R => w1 σ H R ∨ w2 σ H R) :=
  ⟨fun pins s σ H R I q => q.elim (h.run pins s σ H R I) (h'.run pins s σ H R I)⟩
def iSeq (K : PySem.W.Frag) (tl : TE) : TI := fun σ H R => iList K tl σ H R ∨ iTup K tl σ H R
theorem pi_seq {tg l : Expr} {tl : TE} (hl : PE X l tl) : PI X tg l (iSeq X.K tl) := PI.or (pi_list hl) (pi_tup hl)
/-! ### texts -/
def signsV (z : Str) : List V := z.cps.toList.map fun c => .str ⟨#[c]⟩
def rListStr : List V → Hp → VK → Prop := fun xs H Q => ∃ z, xs = [.str z] ∧ z.length ≤ sizeLine ∧ ∀ l, H l = none → Q (.ref l) (upd H l (.lst (signsV z)))
theorem call_listStr (hc : X.calm = true) : CallR X (.type "list") rListStr := by
  intro pins s σ H xs us Q I r h
  obtain ⟨z, rfl, hz, q⟩ := h
  obtain ⟨u, rfl, t, rfl⟩ := vals1 r
  refine call_list_str (I.ok.hd hc) z t (hn := hz) fun h' tk acc' c' hk hS hacc => ?_
  have hf : H s.heap.objs.size = none := I.hok.fresh (Nat.le_refl _)
  have hv : Vals (signsV z) acc'.toList := by
    have e1 : (signsV z).length = acc'.toList.length := by
      unfold signsV
      rw [List.length_map, Array.length_toList, Array.length_toList]
      exact hacc.1.symm
    have key : ∀ (as : List V) (bs : List Value), as.length = bs.length → (∀ (j : Nat) (x : V) (v : Value), as[j]? = some x → bs[j]? = some v → RelV x v) → Vals as bs := by
      intro as
      induction as with
      | nil =>
        intro bs e _
        cases bs with
        | nil => exact .nil
        | cons _ _ => cases e
      | cons a as ih =>
        intro bs e k
        cases bs with
        | nil => cases e
        | cons b bs => exact .cons (k 0 a b rfl rfl) (ih bs (Nat.succ.inj e) fun j x v h1 h2 => k (j + 1) x v h1 h2)
    refine key _ _ e1 fun j x v h1 h2 => ?_
    obtain ⟨c, u, hc1, rfl⟩ := hacc.2 j v (by simpa using h2)
    unfold signsV at h1
    rw [List.getElem?_map] at h1
    have hc2 : z.cps.toList[j]? = some c := by simpa using hc1
    rw [hc2] at h1
    cases h1
    exact ⟨u, rfl⟩
  have new : ObjOk X.prog X.w (upd H s.heap.objs.size (.lst (signsV z))) h' s.heap.objs.size (.lst (signsV z)) :=
    ⟨by unfold signsV; rw [List.length_map]; exact hz, acc'.toList, c', hv, by simpa using hS⟩
  exact ⟨.ref _, _, I.laid (t' := tk) hk (Nat.le_refl _) new, rfl, q _ hf⟩
/-- a text, n times -/
def repS (z : Str) (n : Int) : Str := if n < 1 then Str.empty else if (n == 1 || z.length == 0) = true then z else ⟨(List.replicate n.toNat z.cps).foldl (· ++ ·) #[]⟩
theorem foldl_app (a : Array Nat) : ∀ (n : Nat) (acc : Array Nat), ((List.replicate n a).foldl (· ++ ·) acc).toList = acc.toList ++ (List.replicate n a.toList).flatten
  | 0, acc => by simp
  | n + 1, acc => by
    rw [List.replicate_succ, List.foldl_cons, foldl_app a n, List.replicate_succ, List.flatten_cons, Array.toList_append, List.append_assoc]
theorem repS_list (z : Str) (n : Int) : (repS z n).cps.toList = (List.replicate n.toNat z.cps.toList).flatten := by
  unfold repS
  by_cases c1 : n < 1
  · rw [if_pos c1, show n.toNat = 0 by omega]
    rfl
  · rw [if_neg c1]
    by_cases c2 : (n == 1 || z.length == 0) = true
    · rw [if_pos c2]
      rcases Bool.or_eq_true_iff.mp c2 with e | e
      · have e1 : n = 1 := by simpa using e
        rw [e1]
        simp
      · have e1 : z.cps.toList = [] := by
          have : z.cps.size = 0 := by simpa [Str.length] using e
          exact List.eq_nil_of_length_eq_zero (by simpa using this)
        rw [e1]
        simp
    · rw [if_neg c2]
      show ((List.replicate n.toNat z.cps).foldl (· ++ ·) #[]).toList = _
      rw [foldl_app]
      rfl
theorem op_mulStr : OpR X (binaryOp .Mult) (fun x y H Q => ∃ z n, x = .str z ∧ y = .int n ∧ -1000 ≤ n ∧ n ≤ 1000 ∧ z.length ≤ 1000 ∧ Q (.str (repS z n)) H) := by
  intro pins s σ H x y v u Q I rx ry h
  obtain ⟨z, n, rfl, rfl, h1, h2, h3, q⟩ := h
  obtain ⟨t, rfl⟩ := rx
  obtain ⟨t', rfl⟩ := ry
  refine PySem.P.mul_str (x := z) (n := n) ?_ (fun a b => ?_) (fun a b => ?_) ?_
  · rw [decide_eq_false (by omega), decide_eq_false (by omega)]
    rfl
  · intro hlt
    have e : (1000 : Int) * n ≤ 2 ^ 63 - 1 := by omega
    have e2 : (1000 : Int) ≤ (2 ^ 63 - 1) / n := Int.le_ediv_of_mul_le (by omega) e
    omega
  · have e : z.length * n.toNat ≤ 1000 * 1000 := Nat.mul_le_mul h3 (by omega)
    exact decide_eq_false (by rw [sizeLine_eq]; omega)
  · unfold repS at q
    by_cases c1 : n < 1
    · rw [if_pos c1] at q ⊢
      exact ⟨by decide, ⟨.str Str.empty, H, I.tok _, ⟨_, rfl⟩, q⟩⟩
    · rw [if_neg c1] at q ⊢
      by_cases c2 : (n == 1 || z.length == 0) = true
      · rw [if_pos c2] at q ⊢
        exact ⟨.str z, H, I, ⟨_, rfl⟩, q⟩
      · rw [if_neg c2] at q ⊢
        refine ⟨?_, ⟨.str _, H, I.tok _, ⟨_, rfl⟩, q⟩⟩
        have e := repS_list z n
        unfold repS at e
        rw [if_neg c1, if_neg c2] at e
        have e2 : (⟨(List.replicate n.toNat z.cps).foldl (· ++ ·) #[]⟩ : Str).length = n.toNat * z.length := by
          show ((List.replicate n.toNat z.cps).foldl (· ++ ·) #[]).size = _
          rw [← Array.length_toList]
          have e' : ((List.replicate n.toNat z.cps).foldl (· ++ ·) #[]).toList = (List.replicate n.toNat z.cps.toList).flatten := e
          rw [e', List.length_flatten, List.map_replicate, List.sum_replicate_nat, Array.length_toList]
          rfl
        rw [e2]
        have e3 : n.toNat * z.length ≤ 1000 * 1000 := Nat.mul_le_mul (by omega) h3
        rw [sizeLine_eq]
        omega
end
end L2
set_option Elab.async false
set_option linter.all false
set_option maxRecDepth 100000
set_option maxHeartbeats 4000000
set_option autoImplicit false
namespace Evl
open PySem PySem.Spec PyProof.Rows L2
section
variable {K : PySem.W.Frag} {σ : L2.St} {H : Hp} {te tl : TE} {t : TT}
/-- a comprehension over any walk that leaves the heap as it is -/
theorem el_lcW {J : It} {n : Nat} {G : Hp → Prop} {ys : Nat → V → Prop} {wi : TI} {j : Nat} {vs : List Nat} (f : Nat → Bool) (v : Nat → V) (w : Walk J n G (fun i H x H' => H' = H ∧ ys i x))
    (hi : ∀ H1, Ex H H1 → ∀ R : It → Hp → Prop, (∀ H2, Ex H1 H2 → G H2 → R J H2) → wi σ H1 R) (hG : ∀ H1 H2, G H1 → Ex H1 H2 → G H2) (hz : n ≤ 40000) (hw : ∀ x, wipe ((wipe σ vs).set j (some x)) vs = wipe σ vs)
    (ht : ∀ (i : Nat) (x : V) H1, Ex H H1 → i < n → ys i x → EvT t ((wipe σ vs).set j (some x)) H1 (f i)) (he : ∀ (i : Nat) (x : V) H1, Ex H H1 → i < n → ys i x → f i = true → Ev te ((wipe σ vs).set j (some x)) H1 (v i)) :
    EvL (tLc wi (gName j) t te vs) σ H (given n f v) := fun H0 e Q q => hi H0 e _ fun H1 e1 g1 => fun Dl hD =>
  lc_it w (Cw H1 f v Dl) ⟨hD, Ex.new hD, upd_same⟩ (fun i H' _ p => hG H1 H' g1 p.2.1) (fun i x H2 H' hi p y => by
    obtain ⟨rfl, hy⟩ := y
    exact ⟨hw x, cw_turn p (by omega) (ht i x H1 (e.trans e1) hi hy) (fun hf => he i x H1 (e.trans e1) hi hy hf)⟩)
    (fun H' p => q Dl H' (fresh_back e1 p.1) (e1.trans p.2.1) p.2.2)
theorem given_all {n : Nat} {v : Nat → V} {xs : List V} (h : xs.length = n) (e : ∀ i, i < n → xs[i]? = some (v i)) : given n (fun _ => true) v = xs := by
  unfold given
  rw [List.filter_eq_self.mpr (fun _ _ => rfl)]
  refine List.ext_getElem? fun i => ?_
  rw [List.getElem?_map]
  by_cases hi : i < n
  · rw [List.getElem?_range hi, e i hi]
    rfl
  · rw [List.getElem?_eq_none (by rw [List.length_range]; omega), List.getElem?_eq_none (by omega)]
    rfl
theorem et_yes : EvT tYes σ H true := fun H1 _ _ q => q H1 (Ex.refl H1)
/-- [f(x) for x in xs], xs a list or a tuple, g what f gives -/
theorem el_lcSeq {a : Addr} {xs : List V} {j : Nat} {vs : List Nat} (g : V → V) (h : Ev tl σ H (.ref a)) (hx : SqL K H a xs ∨ SqT K H a xs) (hz : xs.length ≤ 40000) (hw : ∀ x, wipe ((wipe σ vs).set j (some x)) vs = wipe σ vs)
    (he : ∀ (x : V) H1, Ex H H1 → x ∈ xs → Ev te ((wipe σ vs).set j (some x)) H1 (g x)) : EvL (tLc (iSeq K tl) (gName j) tYes te vs) σ H (xs.map g) := by
  have e0 : given xs.length (fun _ => true) (fun i => g (xs.getD i .non)) = xs.map g := by
    refine given_all (by rw [List.length_map]) fun i hi => ?_
    rw [List.getElem?_map, List.getElem?_eq_getElem hi, List.getD_eq_getElem?_getD, List.getElem?_eq_getElem hi]
    rfl
  rw [← e0]
  rcases hx with hx | hx
  · refine el_lcW (J := Itl K a) (n := xs.length) (G := fun H => SqL K H a xs) (ys := fun i x => xs[i]? = some x) _ _ walk_list (fun H1 e R q => .inl (h H1 e _ fun H2 e2 => ⟨a, rfl, ⟨xs, ex_l (e.trans e2) hx⟩, q H2 e2 (ex_l (e.trans e2) hx)⟩)) (fun H1 H2 g e => ex_l e g) hz hw (fun _ _ _ _ _ _ => et_yes) (fun i x H1 e hi hy _ => ?_)
    rw [List.getD_eq_getElem?_getD, hy]
    exact he x H1 e (List.mem_of_getElem? hy)
  · refine el_lcW (J := Itt K a) (n := xs.length) (G := fun H => SqT K H a xs) (ys := fun i x => xs[i]? = some x) _ _ walk_tup (fun H1 e R q => .inr (h H1 e _ fun H2 e2 => ⟨a, rfl, ⟨xs, ex_t (e.trans e2) hx⟩, q H2 e2 (ex_t (e.trans e2) hx)⟩)) (fun H1 H2 g e => ex_t e g) hz hw (fun _ _ _ _ _ _ => et_yes) (fun i x H1 e hi hy _ => ?_)
    rw [List.getD_eq_getElem?_getD, hy]
    exact he x H1 e (List.mem_of_getElem? hy)
/-- [f(c) for c in text] -/
theorem el_lcStr {z : Str} {j : Nat} {vs : List Nat} (g : Nat → V) (h : Ev tl σ H (.str z)) (hz : z.length ≤ 40000) (hw : ∀ x, wipe ((wipe σ vs).set j (some x)) vs = wipe σ vs)
    (he : ∀ (c : Nat) H1, Ex H H1 → c ∈ z.cps.toList → Ev te ((wipe σ vs).set j (some (.str ⟨#[c]⟩))) H1 (g c)) : EvL (tLc (iStr tl) (gName j) tYes te vs) σ H (z.cps.toList.map g) := by
  have e0 : given z.cps.size (fun _ => true) (fun i => g (z.cps.toList.getD i 0)) = z.cps.toList.map g := by
    refine given_all (by rw [List.length_map, Array.length_toList]) fun i hi => ?_
    have hi' : i < z.cps.toList.length := by rw [Array.length_toList]; exact hi
    rw [List.getElem?_map, List.getElem?_eq_getElem hi', List.getD_eq_getElem?_getD, List.getElem?_eq_getElem hi']
    rfl
  rw [← e0]
  refine el_lcW (J := Its z) (n := z.cps.size) (G := fun _ => True) (ys := fun i v => ∃ c, z.cps[i]? = some c ∧ v = .str ⟨#[c]⟩) _ _ walk_str (fun H1 e R q => h H1 e _ fun H2 e2 => ⟨z, rfl, q H2 e2 trivial⟩) (fun _ _ _ _ => trivial) hz hw (fun _ _ _ _ _ _ => et_yes) (fun i x H1 e hi hy _ => ?_)
  obtain ⟨c, hc, rfl⟩ := hy
  have hc2 : z.cps.toList[i]? = some c := by simpa using hc
  rw [List.getD_eq_getElem?_getD, hc2]
  exact he c H1 e (List.mem_of_getElem? hc2)
/-- all(..) of a new list of truths -/
theorem ev_all {ta : TE} {bs : List Bool} (h : EvL ta σ H (bs.map V.bl)) : Ev (tCB (rAll K) (tCons ta tNil)) σ H (.bl (bs.all id)) := fun H1 e Q q =>
  h H1 e _ fun p H2 _ e2 hp => ⟨p, bs, rfl, sq_of hp, q H2 e2⟩
theorem all_map {α : Type} (f : α → Bool) (xs : List α) : (xs.map f).all id = xs.all f := by
  rw [List.all_map]
  rfl
end
end Evl
set_option Elab.async false
set_option linter.all false
set_option maxRecDepth 100000
set_option maxHeartbeats 4000000
set_option autoImplicit false
/-! Static methods read off a class of the program's own; a head that also looks at defs told by their addresses. -/
namespace He
open PySem PySem.Spec PyProof.Rows L2 ClX
/-- C.m is a staticmethod: its record at p, its def at g -/
structure SMet (K : PySem.W.Frag) (C : Addr) (mc : Value) (m : Str) (p g : Addr) : Prop where
  cr : CRead K C mc
  at_ : PySem.W.findCls K (.ref C) mc m = some (.get (.builtin "staticmethod.__get__") (.ref p) .none (.ref C))
  rc : ∃ rest, PySem.W.recIn K p "staticmethod" = some (.ref g :: rest)
  kp : PySem.W.keepIn K (.ref g) = true
section
variable {X : Cx} {pins : List (Addr × Obj)} {σ : L2.St} {H : Hp} {s : Shared} {C p g : Addr} {mc : Value} {m : Str}
theorem getmethsm_ok {A : Around} {E : Value → Shared → Prop} {pl : Sem Bool} {Q : Value × List Value → Shared → Prop} (I : Inv X pins σ H s) (k : SMet X.K C mc m p g) (h : ∀ s', Inv X pins σ H s' → Q (.ref g, []) s') : wpAny (model X.prog X.w) A (getMethod (.ref C) m pl) Q E s := by
  obtain ⟨rest, hp⟩ := k.rc
  refine PySem.W.method_cls I.kIn k.cr.ga (PySem.W.cls_bind I.kIn k.cr.rd k.at_ (wpAny_call (PySem.W.sm_get (s := { s with toks := s.toks + 1 }) I.kIn hp (PySem.W.handed_on rfl ?_))))
  exact h _ (I.tok _)
end
section
variable {X : Cx} {CX : CXT} {k n : Nat} {f C p : Addr} {mc : Value} {m : Str} {fd : FuncData} {ps ks : List Str} {sp : Sp} {E : XK} {pos apos : Pos} {o e : Expr} {es : List Expr} {kws : List Keyword} {to : TE} {t tk : TA} {pl : Sem Bool} {g : List Value → List Value → List Value} {gV : List V → List V → List V}
/-- C.m(e, ..) -/
def tSMeth (C : Addr) (sp : Sp) (E : XK) (to : TE) (t : TA) : TE := fun σ H Q => to σ H fun x H1 => x = .ref C ∧ t σ H1 fun vs H2 => sp vs H2 Q E
theorem pe_smeth (ho : PE X o to) (c : SMet X.K C mc m p f) (F : FnOk X.prog X.w X.K X.mg X.base CX k f fd ps sp) (hr : Room k X.A) (hb : Binds X.K fd ps []) (hx : Passes CX X E) (ha : PA X (e :: es) t)
    (hst : starEach (e :: es) X.env = (false, eval e X.env) :: starEach es X.env := by rfl) (hpl : (backTo pos (starEach es X.env)).any (·.1) = false := by rfl)
    (ht : eval (.Call (.Attribute o m apos) (e :: es) [] pos) X.env = (do
      let ov ← eval o X.env
      standAt apos.atName
      let (f, first) ← holding [ov] (getMethod ov m pl)
      callWith pos f first (backTo pos (starEach (e :: es) X.env)) (backToKw pos (keywordEach [] X.env))) := by rfl) :
    PE X (.Call (.Attribute o m apos) (e :: es) [] pos) (tSMeth C sp E to t) := by
  refine ⟨fun pins s σ H Q I h => ?_⟩
  refine PySem.W.methodCall_KW (pl := pl) (thn (ho.run pins s σ H _ I h) fun u s1 ⟨x, H1, I1, rx, ex, q⟩ => ?_) ht
  subst ex
  obtain rfl : u = Value.ref C := rx
  refine getmethsm_ok I1 c fun s2 I2 => ?_
  refine PySem.W.callWith_K (h₀ := X.base) I2.ok.mod.kin c.kp (thn (ha.run pos pins s2 σ H1 _ I2 q) fun us s3 ⟨vs, H2, I3, r3, q2⟩ => ⟨I3.kIn, ?_⟩) hst hpl
  exact run_fn F hr hb .nil hx I3 r3 (by rw [List.append_nil]; exact q2)
/-- C.m(k = v, ..) -/
def tSMethK (C : Addr) (ks : Nat) (sp : Sp) (gV : List V → List V → List V) (E : XK) (to : TE) (t : TA) : TE := fun σ H Q => to σ H fun x H1 => x = .ref C ∧ t σ H1 fun zs H2 => zs.length = ks ∧ sp (gV [] zs) H2 Q E
theorem pe_smethK (ho : PE X o to) (c : SMet X.K C mc m p f) (F : FnOk X.prog X.w X.K X.mg X.base CX k f fd ps sp) (hr : Room k X.A) (hb : KBn X.K fd ps 0 ks g gV) (hx : Passes CX X E) (ha : PK X kws tk)
    (hall : (backToKw pos (keywordEach kws X.env)).all (·.1.isSome) = true := by rfl) (hks : (backToKw pos (keywordEach kws X.env)).filterMap (·.1) = ks := by rfl) (hpl : ((backTo pos (starEach [] X.env)).any (·.1) || (backToKw pos (keywordEach kws X.env)).any (·.1.isNone)) = false := by rfl)
    (ht : eval (.Call (.Attribute o m apos) [] kws pos) X.env = (do
      let ov ← eval o X.env
      standAt apos.atName
      let (f, first) ← holding [ov] (getMethod ov m pl)
      callWith pos f first (backTo pos (starEach [] X.env)) (backToKw pos (keywordEach kws X.env))) := by rfl) :
    PE X (.Call (.Attribute o m apos) [] kws pos) (tSMethK C ks.length sp gV E to tk) := by
  refine ⟨fun pins s σ H Q I h => ?_⟩
  refine PySem.W.methodCall_KW (pl := pl) (thn (ho.run pins s σ H _ I h) fun u s1 ⟨x, H1, I1, rx, ex, q⟩ => ?_) ht
  subst ex
  obtain rfl : u = Value.ref C := rx
  refine getmethsm_ok I1 c fun s2 I2 => ?_
  refine PySem.W.callWith_KW0 (h₀ := X.base) I2.ok.mod.kin c.kp hall ?_ hpl
  refine thn (ha.run pos pins s2 σ H1 _ I2 q) fun ws s3 ⟨zs, H2, I3, r3, l2, q2⟩ => ⟨I3.kIn, ?_⟩
  rw [hks]
  exact run_fnN (us := []) (vs := []) F hr hb hx I3 .nil r3 rfl l2 q2
end
/-! ### a head: defs by the addresses where they stand -/
/-- a def, told by where it stands -/
structure ED where
  d : DefD
  ad : PySem.W.Frag → Addr
def fnE (K : PySem.W.Frag) (a : Addr) : FnW := match K.lookup a with
  | some ⟨_, _, .func fd, _⟩ => some (fd.name, fd.qualname, fd.params, fd.body, fd.scope, fd.globals, fd.closure, fd.builtins)
  | _ => none
def ED.ok (K : PySem.W.Frag) (e : ED) : Bool := PySem.W.keepIn K (.ref (e.ad K)) && (match K.lookup (e.ad K) with
  | some ⟨_, _, .func fd, _⟩ => PySem.W.codeIn K fd.code e.d.qual && (dflB K fd.defaults (e.d.dvs K) && kwdB K fd.kwdefaults (e.d.kws K))
  | _ => false)
theorem ED.funD {K : PySem.W.Frag} {e : ED} (h : fnE K (e.ad K) = e.d.val) (c : e.ok K = true) : ∃ fd, FunD K e.d.name e.d.qual e.d.params e.d.body e.d.scope (e.d.dvs K) (e.d.kws K) (e.ad K) fd := by
  obtain ⟨kp, c2⟩ := ba c
  unfold fnE at h
  cases q : K.lookup (e.ad K) with
  | none =>
    rw [q] at c2
    exact nomatch c2
  | some o =>
    obtain ⟨o1, o2, o3, o4⟩ := o
    rw [q] at c2 h
    cases o3 with
    | func fd =>
      obtain ⟨a1, a2, a3, a4, a5, a6, a7, a8, a9, a10, a11, a12, a13, a14, a15⟩ := fd
      have h2 : (some (a1, a2, a3, a4, a5, a6, a7, a15) : FnW) = some (e.d.name, e.d.qual, e.d.params, .stmts e.d.body, e.d.scope, mainGlobals, [], builtinsNs) := h
      simp only [Option.some.injEq, Prod.mk.injEq] at h2
      obtain ⟨g1, g2, g3, g4, g5, g6, g7, g8⟩ := h2
      subst g1 g2 g3 g4 g5 g6 g7 g8
      obtain ⟨k1, k2⟩ := ba (show (PySem.W.codeIn K a13 e.d.qual && (dflB K a8 (e.d.dvs K) && kwdB K a9 (e.d.kws K))) = true from c2)
      obtain ⟨k3, k4⟩ := ba k2
      exact ⟨_, ⟨o1, o2, a8, a9, a10, a11, a12, a13, a14, o4, rfl, q, k1, dflB_ok k3, kwdB_ok k4⟩, kp⟩
    | _ => exact nomatch c2
/-- the def behind a staticmethod of a class -/
def sa (K : PySem.W.Frag) (x m : Str) : Addr := match PySem.W.recIn K (ma K (ga K x) m) "staticmethod" with
  | some (.ref g :: _) => g
  | _ => 0
/-- the class x's staticmethod m -/
def statB (K : PySem.W.Frag) (x m : Str) : Bool :=
  PySem.W.readsIn K (ga K x) (.type "type") && (eqO (PySem.W.specialIn K (.ref (ga K x)) "__getattribute__") (some (some (.builtin "type.__getattribute__"))) &&
    ((match PySem.W.findCls K (.ref (ga K x)) (.type "type") m with
      | some (.get (.builtin b) (.ref p) .none (.ref c)) => b == "staticmethod.__get__" && (p == ma K (ga K x) m && c == ga K x)
      | _ => false) && ((match PySem.W.recIn K (ma K (ga K x) m) "staticmethod" with
      | some (.ref g :: _) => g == sa K x m
      | _ => false) && PySem.W.keepIn K (.ref (sa K x m)))))
theorem statB_ok {K : PySem.W.Frag} {x m : Str} (h : statB K x m = true) : SMet K (ga K x) (.type "type") m (ma K (ga K x) m) (sa K x m) := by
  obtain ⟨h1, h⟩ := ba h
  obtain ⟨h2, h⟩ := ba h
  obtain ⟨h3, h⟩ := ba h
  obtain ⟨h4, h5⟩ := ba h
  have h3' : PySem.W.findCls K (.ref (ga K x)) (.type "type") m = some (.get (.builtin "staticmethod.__get__") (.ref (ma K (ga K x) m)) .none (.ref (ga K x))) := by
    split at h3
    · rename_i b p c hq
      obtain ⟨e1, h3⟩ := ba h3
      obtain ⟨e2, e3⟩ := ba h3
      rw [hq, eq_of_beq e1, eq_of_beq e2, eq_of_beq e3]
    · cases h3
  refine ⟨⟨h1, eqO_ok h2⟩, h3', ?_, h5⟩
  cases q : PySem.W.recIn K (ma K (ga K x) m) "staticmethod" with
  | none =>
    rw [q] at h4
    cases h4
  | some l =>
    rw [q] at h4
    match l, h4 with
    | .ref g :: r, h4 => exact ⟨r, by rw [show g = sa K x m from eq_of_beq h4]⟩
/-- a def's own data, by its address -/
def fdA (K : PySem.W.Frag) (a : Addr) : FuncData := match K.lookup a with
  | some ⟨_, _, .func fd, _⟩ => fd
  | _ => default
def obsR (chk : PySem.W.Frag → Bool) (fa : List Fa) (fn : List DefD) (ex : List ED) (K : PySem.W.Frag) : AlD :=
  (chk K && ((fa.all fun f => f.ok K) && ((fn.all fun d => d.ok K) && ex.all fun e => e.ok K)), (fn.map fun d => fnW K d.at_) ++ ex.map fun e => fnE K (e.ad K))
def valR (fn : List DefD) (ex : List ED) : AlD := (true, fn.map DefD.val ++ ex.map fun e => e.d.val)
def SaysR (chk : PySem.W.Frag → Bool) (fa : List Fa) (fn : List DefD) (ex : List ED) (K : PySem.W.Frag) : Prop := obsR chk fa fn ex K = valR fn ex
def obsRG (n : Nat) (chk : PySem.W.Frag → Bool) (fa : List Fa) (fn : List DefD) (ex : List ED) (g : Addr → Option Obj) : AlD := obsR chk fa fn ex (frG g (PySem.cStatics :: asD g n))
def hookR (n : Nat) (chk : PySem.W.Frag → Bool) (fa : List Fa) (fn : List DefD) (ex : List ED) : PySem.W.Hook where
  α := AlD
  obs := fun s => obsRG n chk fa fn ex s.heap.get?
  val := fun _ => valR fn ex
  says := fun _ h => ∃ K : PySem.W.Frag, K.In h ∧ SaysR chk fa fn ex K
  of := fun _ _ e => ⟨_, frG_in, e⟩
  keeps := fun _ _ _ ⟨K, hK, c⟩ k => ⟨K, PySem.W.Frag.In.keeps hK k, c⟩
theorem obsRG_eq {n : Nat} {chk : PySem.W.Frag → Bool} {fa : List Fa} {fn : List DefD} {ex : List ED} {g : Addr → Option Obj} {s : Shared} (h : ∀ a, g a = s.heap.get? a) : obsRG n chk fa fn ex g = (hookR n chk fa fn ex).obs s := by
  have e : g = s.heap.get? := funext h
  rw [e] <;> rfl
section
variable {chk : PySem.W.Frag → Bool} {fa : List Fa} {fn : List DefD} {ex : List ED} {K : PySem.W.Frag}
theorem SaysR.one (c : SaysR chk fa fn ex K) : (chk K && ((fa.all fun f => f.ok K) && ((fn.all fun d => d.ok K) && ex.all fun e => e.ok K))) = true := congrArg (fun z : AlD => z.1) c
theorem SaysR.two (c : SaysR chk fa fn ex K) : (fn.map fun d => fnW K d.at_) = fn.map DefD.val ∧ (ex.map fun e => fnE K (e.ad K)) = ex.map fun e => e.d.val := by
  have h : (fn.map fun d => fnW K d.at_) ++ (ex.map fun e => fnE K (e.ad K)) = fn.map DefD.val ++ ex.map fun e => e.d.val := congrArg (fun z : AlD => z.2) c
  exact List.append_inj h (by rw [List.length_map, List.length_map])
theorem SaysR.chk_ (c : SaysR chk fa fn ex K) : chk K = true := (ba c.one).1
theorem SaysR.says (c : SaysR chk fa fn ex K) : SaysD fa fn K := by
  have h1 := (ba c.one).2
  obtain ⟨h2, h3⟩ := ba h1
  show ((fa.all fun f => f.ok K) && fn.all fun d => d.ok K, fn.map fun d => fnW K d.at_) = (true, fn.map DefD.val)
  rw [c.two.1, h2, (ba h3).1] <;> rfl
theorem SaysR.ed (c : SaysR chk fa fn ex K) (i : Nat) {e : ED} (h : ex[i]? = some e) : FunD K e.d.name e.d.qual e.d.params e.d.body e.d.scope (e.d.dvs K) (e.d.kws K) (e.ad K) (fdA K (e.ad K)) := by
  have h1 := (ba (ba (ba c.one).2).2).2
  have hm : e ∈ ex := List.mem_of_getElem? h
  have e1 := congrArg (fun l : List FnW => l[i]?) c.two.2
  have e2 : fnE K (e.ad K) = e.d.val := by
    have e3 : (ex.map fun e => fnE K (e.ad K))[i]? = (ex.map fun e => e.d.val)[i]? := e1
    rw [List.getElem?_map, List.getElem?_map, h] at e3
    exact Option.some.inj e3
  obtain ⟨fd, F⟩ := ED.funD e2 (List.all_eq_true.mp h1 e hm)
  obtain ⟨oc, od, dV, kV, doc, pm, an, cdv, ct, osl, z, lk, _⟩ := id F.ex
  have q : fdA K (e.ad K) = fd := by
    unfold fdA
    rw [lk]
  rw [q]
  exact F
end
end He
set_option Elab.async false
set_option linter.all false
set_option maxRecDepth 100000
set_option maxHeartbeats 4000000
set_option autoImplicit false
/-! Objects of a class of the program's own whose class has its own ==, str, len. -/
namespace Own
open PySem PySem.Spec PyProof.Rows L2 Builtin
section
variable {prog : Program} {w : World} {A : Around} {E : Value → Shared → Prop} {s : Shared} {K : PySem.W.Frag} {x C f : Addr} {ox : Obj} {od : Option Obj}
/-- a built-in's special method found on an own class, asked where it may be bound -/
theorem ifBound_bi {name : Str} {id : String} {args : List Value} {Q : Option Value → Shared → Prop} (X : K.In s.heap) (I : PySem.W.InstAt s.heap x ox C od) (hs : PySem.W.findIn K (.ref C) name = some (some (.builtin id)))
    (hb : ∀ self, bindSpecial (.builtin id) self = pure (.builtin id, [self])) (h : wpAny (model prog w) A (call (.builtin id) (.ref x :: args)) (fun v => Q (some v)) E s) : wpAny (model prog w) A (callSpecialIfBound? (.ref x) name args) Q E s := by
  simp only [callSpecialIfBound?, bindSpecialIfBound?]
  refine wpAny_holding (wpAny_bind (wpAny_bind (wpAny_bind (I.type.here ((PySem.W.looks_findIn X hs).here ?_)))))
  refine wpAny_bind (wpAny_askSetting (wpAny_ite ?_))
  have go : wpAny (model prog w) A (call (.builtin id) ([.ref x] ++ args) >>= fun v => pure (some v)) Q E s := wpAny_bind (wpAny_mono h (fun v s' z => wpAny_pure z) fun _ _ z => z)
  split
  · exact wpAny_bind ((PySem.W.Looks.of_pure (hb _)).here (wpAny_pure (by exact go)))
  · exact wpAny_tryCatch (wpAny_bind ((PySem.W.Looks.of_pure (hb _)).here (wpAny_pure (by exact go))))
/-- object.__ne__ of an object with an own == -/
theorem ne_entry {b : Value} {Q : Fin → Shared → Prop} (hu : A.units < cLine) (X : K.In s.heap) (I : PySem.W.InstAt s.heap x ox C od) (hs : PySem.W.findIn K (.ref C) "__eq__" = some (some (.ref f))) (hf : PySem.W.isFn K (.ref f) = true)
    (h : wpAny (model prog w) A (call (.ref f) [.ref x, b]) (fun v s' => ∃ r, v = .bool r ∧ Q (.done (.ret (.bool (!r)))) s') E s) : wpAny (model prog w) A (Builtin.«object.__ne__» ⟨[.ref x, b], []⟩) Q E s := by
  unfold Builtin.«object.__ne__»
  refine wpAny_bind (m := slotArgs "__ne__" 1 _) (wpAny_pure ?_)
  refine wpAny_bind (m := cRoomFor _ _) (wpAny_cRoomFor hu ?_)
  refine wpAny_bind (m := callSpecialIfBound? (.ref x) (Str.ofString "__eq__") [b]) (PySem.W.ifBound_K X I hs hf (wpAny_mono h (fun v s' z => ?_) fun _ _ z => z))
  obtain ⟨r, rfl, q⟩ := z
  exact wpAny_bind (m := truthy (.bool r)) (wpAny_truthy_bool (wpAny_pure q))
/-- x != b, where x's class has its own == -/
theorem rc_ne {b tb : Value} {Q : Value → Shared → Prop} (hu : A.units + 1 < cLine) (X : K.In s.heap) (I : PySem.W.InstAt s.heap x ox C od) (hb : PySem.W.Looks (model prog w) s.heap (typeOf b) tb) (hn : PySem.W.notFirst K C tb = true) (hm : PySem.W.mroIn K C (.type "object") = some true)
    (he : PySem.W.findIn K (.ref C) "__ne__" = some (some (.builtin "object.__ne__"))) (hs : PySem.W.findIn K (.ref C) "__eq__" = some (some (.ref f))) (hf : PySem.W.isFn K (.ref f) = true)
    (h : wpAny (model prog w) A.in1 (call (.ref f) [.ref x, b]) (fun v s' => ∃ r, v = .bool r ∧ Q (.bool (!r)) s') E s) : wpAny (model prog w) A (richCompare .NotEq (.ref x) b) Q E s := by
  have one : wpAny (model prog w) A (tryCompare (.ref x) "__ne__" b) (fun r s' => ∃ v, r = some v ∧ Q v s') E s := by
    unfold tryCompare
    refine wpAny_bind (ifBound_bi X I he PySem.F.cmp_object.ne.bind (wpAny_call (codeAny_call_builtin PySem.F.cmp_object.ne.plain PySem.F.cmpEntry_ne
      (PySem.W.check_slot (i := "object.__ne__") (owner := "object") (n := "__ne__") PySem.F.cmpKind_ne PySem.F.cmpSplit_ne (I.type.andThen (PySem.W.looks_mroIn X hm)) (PySem.F.cmpArgs_ne _ _)
        (ne_entry (A := A.in1) (by show A.in1.units < cLine; have : A.in1.units = A.units + 1 := rfl; omega) X I hs hf (wpAny_mono h (fun v s' z => ?_) fun _ _ z => z))))))
    obtain ⟨r, rfl, q⟩ := z
    exact ⟨r, rfl, wpAny_pure ⟨_, rfl, q⟩⟩
  unfold richCompare
  simp only [oneThing_ref]
  refine wpAny_holding (wpAny_bind (wpAny_cRoomFor (Nat.lt_of_succ_lt hu) ?_))
  refine wpAny_bind (I.type.here (wpAny_bind (hb.here ?_)))
  have last : wpAny (model prog w) A (tryCompare (.ref x) "__ne__" b) (fun r s' => ∃ v, r = some v ∧ Q v s') E s := one
  split
  · rename_i q
    have e : PySem.W.subIn K tb (.ref C) = some false := by
      rcases Bool.or_eq_true_iff.mp hn with z | z
      · rw [beq_iff_eq.mp z] at q
        simp at q
      · exact beq_iff_eq.mp z
    refine wpAny_bind ((PySem.W.looks_subIn X e).here ?_)
    simp only [Bool.false_eq_true, if_false]
    refine wpAny_bind (wpAny_mono last (fun r s' z => ?_) fun _ _ z => z)
    obtain ⟨v, rfl, k⟩ := z
    exact wpAny_pure k
  · refine wpAny_bind (wpAny_pure ?_)
    simp only [Bool.false_eq_true, if_false]
    refine wpAny_bind (wpAny_mono last (fun r s' z => ?_) fun _ _ z => z)
    obtain ⟨v, rfl, k⟩ := z
    exact wpAny_pure k
end
/-- what the written part says of a class with an own == -/
structure EqC (K : PySem.W.Frag) (C f : Addr) : Prop where
  eq : PySem.W.findIn K (.ref C) "__eq__" = some (some (.ref f))
  ne : PySem.W.findIn K (.ref C) "__ne__" = some (some (.builtin "object.__ne__"))
  fn : PySem.W.isFn K (.ref f) = true
  ob : PySem.W.mroIn K C (.type "object") = some true
section
variable {X : Cx} {CX : CXT} {k : Nat} {C f : Addr} {fd : FuncData} {ps : List Str} {sp : Sp} {E : XK} {pins : List (Addr × Obj)} {σ : L2.St} {H : Hp} {s : Shared}
/-- a def called one level of C deeper -/
theorem run_in1 {Q : VK} {us : List Value} {vs : List V} (F : FnOk X.prog X.w X.K X.mg X.base CX k f fd ps sp) (hr : Room (k + 1) X.A) (hb : Binds X.K fd ps []) (hx : Passes CX X E) (I : Inv X pins σ H s) (r : Vals vs us) (h : sp vs H Q E) :
    wpAny (model X.prog X.w) X.A.in1 (call (.ref f) us) (EP X pins σ Q) X.xe s := by
  have e0 : Env0 X.prog X.w X.K X.mg X.base X.A.in1 X.stack s H := by
    have e := I.env0
    exact ⟨e.frames, e.mod, e.bs, e.bsz, e.funs, e.frf, e.hok, e.bare⟩
  have hl := F.len _ _ _ _ h
  refine wpAny_call (codeAny_mono (F.run X.A.in1 X.stack s H ⟨us, []⟩ us vs Q E hr.in1 e0 (by
    have z := hb s us I.kIn (by rw [List.append_nil, ← r.length]; exact hl)
    simpa using z) r h) fun q s' hq => ?_)
  cases q with
  | error e => exact hx pins σ H s e s' I hq
  | ok fl =>
    cases fl with
    | ret u =>
      obtain ⟨v, H', I', rv, q2⟩ := I.after hq
      exact ⟨v, H', I', rv, q2⟩
    | next => exact False.elim hq
    | brk => exact False.elim hq
    | cont => exact False.elim hq
theorem run_in2 {Q : VK} {us : List Value} {vs : List V} (F : FnOk X.prog X.w X.K X.mg X.base CX k f fd ps sp) (hr : Room (k + 2) X.A) (hb : Binds X.K fd ps []) (hx : Passes CX X E) (I : Inv X pins σ H s) (r : Vals vs us) (h : sp vs H Q E) :
    wpAny (model X.prog X.w) X.A.in1.in1 (call (.ref f) us) (EP X pins σ Q) X.xe s := by
  have e0 : Env0 X.prog X.w X.K X.mg X.base X.A.in1.in1 X.stack s H := by
    have e := I.env0
    exact ⟨e.frames, e.mod, e.bs, e.bsz, e.funs, e.frf, e.hok, e.bare⟩
  have hl := F.len _ _ _ _ h
  have hr2 : Room k X.A.in1.in1 := Room.in1 (k := k) (Room.in1 (k := k + 1) hr)
  refine wpAny_call (codeAny_mono (F.run X.A.in1.in1 X.stack s H ⟨us, []⟩ us vs Q E hr2 e0 (by
    have z := hb s us I.kIn (by rw [List.append_nil, ← r.length]; exact hl)
    simpa using z) r h) fun q s' hq => ?_)
  cases q with
  | error e => exact hx pins σ H s e s' I hq
  | ok fl =>
    cases fl with
    | ret u =>
      obtain ⟨v, H', I', rv, q2⟩ := I.after hq
      exact ⟨v, H', I', rv, q2⟩
    | next => exact False.elim hq
    | brk => exact False.elim hq
    | cont => exact False.elim hq
/-- x == y, x != y, x of a class with an own ==: sp says what that answers -/
def rEqO (K : PySem.W.Frag) (C : Addr) (sp : Sp) (E : XK) (neg : Bool) : R2 := fun x y H Q => ∃ (a dx : Addr) (fs : List (Str × V)) (tb : Value), x = .ref a ∧ H a = some (.ins C dx fs) ∧ TyX K H y tb ∧ PySem.W.notFirst K C tb = true ∧ sp [x, y] H (fun v H' => ∃ b, v = .bl b ∧ Q (.bl (if neg then !b else b)) H') E
theorem op_eqO (c : EqC X.K C f) (F : FnOk X.prog X.w X.K X.mg X.base CX k f fd ps sp) (hr : Room k X.A) (hb : Binds X.K fd ps []) (hx : Passes CX X E) : OpR X (compareOp .Eq) (rEqO X.K C sp E false) := by
  intro pins s σ H x y v u Q I rx ry h
  obtain ⟨a, dx, fs, tb, rfl, ha, ty, hn, h⟩ := h
  cases rx
  obtain ⟨mA, O, _⟩ := ins_get I.hok ha
  obtain ⟨od, J, _⟩ := O.look
  obtain ⟨P, kx, hP, _⟩ := kit_of I ry ty
  obtain ⟨m, hF⟩ := I.fr
  show wpAny _ _ (richCompare .Eq _ _) _ _ _
  refine PySem.W.cmp_K (op := .Eq) (tb := tb) hr.units0 hF I.ok.mod.kin J (kx.ty _ _ I.kIn hP) hn c.eq c.fn ?_
  refine thn (run_fn F hr hb .nil hx I (show Vals [V.ref a, y] [Value.ref a, u] from .cons rfl (.cons ry .nil)) h) fun z s1 hz => ?_
  obtain ⟨w', H1, I1, rw', b, rfl, q⟩ := hz
  cases rw'
  exact ⟨.bl b, H1, I1, rfl, q⟩
theorem op_neO (c : EqC X.K C f) (F : FnOk X.prog X.w X.K X.mg X.base CX k f fd ps sp) (hr : Room (k + 1) X.A) (hb : Binds X.K fd ps []) (hx : Passes CX X E) : OpR X (compareOp .NotEq) (rEqO X.K C sp E true) := by
  intro pins s σ H x y v u Q I rx ry h
  obtain ⟨a, dx, fs, tb, rfl, ha, ty, hn, h⟩ := h
  cases rx
  obtain ⟨mA, O, _⟩ := ins_get I.hok ha
  obtain ⟨od, J, _⟩ := O.look
  obtain ⟨P, kx, hP, _⟩ := kit_of I ry ty
  show wpAny _ _ (richCompare .NotEq _ _) _ _ _
  refine rc_ne (tb := tb) (by have := hr.units; omega) I.kIn J (kx.ty _ _ I.kIn hP) hn c.ob c.ne c.eq c.fn ?_
  refine thn (run_in1 F hr hb hx I (show Vals [V.ref a, y] [Value.ref a, u] from .cons rfl (.cons ry .nil)) h) fun z s1 hz => ?_
  obtain ⟨w', H1, I1, rw', b, rfl, q⟩ := hz
  cases rw'
  exact ⟨b, rfl, .bl (!b), H1, I1, rfl, q⟩
/-- str(x) by an own __str__ -/
def rStrO (C : Addr) (sp : Sp) (E : XK) : List V → Hp → VK → Prop := fun xs H Q => ∃ (a dx : Addr) (fs : List (Str × V)), xs = [.ref a] ∧ H a = some (.ins C dx fs) ∧ sp [.ref a] H (fun v H' => ∃ z, v = .str z ∧ Q (.str z) H') E
/-- len(x) by an own __len__ -/
def rLenO (C : Addr) (sp : Sp) (E : XK) : List V → Hp → VK → Prop := fun xs H Q => ∃ (a dx : Addr) (fs : List (Str × V)), xs = [.ref a] ∧ H a = some (.ins C dx fs) ∧ sp [.ref a] H (fun v H' => ∃ n : Int, v = .int n ∧ 0 ≤ n ∧ n < 2 ^ 63 ∧ Q (.int n) H') E
theorem cr_lenO (hs : PySem.W.findIn X.K (.ref C) "__len__" = some (some (.ref f))) (hf : PySem.W.isFn X.K (.ref f) = true) (F : FnOk X.prog X.w X.K X.mg X.base CX k f fd ps sp) (hr : Room (k + 1) X.A) (hb : Binds X.K fd ps []) (hx : Passes CX X E) : CallR X (.builtin "len") (rLenO C sp E) := by
  intro pins s σ H xs us Q I r h
  obtain ⟨a, dx, fs, rfl, ha, h⟩ := h
  obtain ⟨u, rfl, ru⟩ := vals1 r
  cases ru
  obtain ⟨mA, O, _⟩ := ins_get I.hok ha
  obtain ⟨od, J, _⟩ := O.look
  obtain ⟨m, hF⟩ := I.fr
  refine PySem.W.len_K hF I.ok.mod.kin J hs hf (thn (run_in1 F hr hb hx I (show Vals [V.ref a] [Value.ref a] from .cons rfl .nil) h) fun z s1 hz => ?_)
  obtain ⟨w', H1, I1, rw', n, rfl, n0, n1, q⟩ := hz
  obtain ⟨t, rfl⟩ := rw'
  exact ⟨⟨n0, n1⟩, .int n, H1, I1.tok _, ⟨_, rfl⟩, q⟩
theorem cr_strO (hs : PySem.W.findIn X.K (.ref C) "__str__" = some (some (.ref f))) (hf : PySem.W.isFn X.K (.ref f) = true) (F : FnOk X.prog X.w X.K X.mg X.base CX k f fd ps sp) (hr : Room (k + 2) X.A) (hb : Binds X.K fd ps []) (hx : Passes CX X E) : CallR X (.type "str") (rStrO C sp E) := by
  intro pins s σ H xs us Q I r h
  obtain ⟨a, dx, fs, rfl, ha, h⟩ := h
  obtain ⟨u, rfl, ru⟩ := vals1 r
  cases ru
  obtain ⟨mA, O, _⟩ := ins_get I.hok ha
  obtain ⟨od, J, _⟩ := O.look
  refine PySem.W.kso_call (by
    have := hr.units
    have e : X.A.in1.in1.units = X.A.units + 2 := rfl
    omega) I.kIn J hs hf (thn (run_in2 F hr hb hx I (show Vals [V.ref a] [Value.ref a] from .cons rfl .nil) h) fun z s1 hz => ?_)
  obtain ⟨w', H1, I1, rw', n, rfl, q⟩ := hz
  obtain ⟨t, rfl⟩ := rw'
  exact ⟨.str n, H1, I1, ⟨_, rfl⟩, q⟩
end
/-! ### what the head must say of such a class -/
section
variable {K : PySem.W.Frag}
open He
def clsB (K : PySem.W.Frag) (all : List Str) (x : Str) : Bool :=
  eqO (PySem.W.findIn K (.ref (ga K x)) "__class__") (some (some (.builtin "object.__class__"))) && (eqO (PySem.W.specialIn K (.builtin "object.__class__") "__get__") (some (some (.builtin "getset_descriptor.__get__"))) &&
    (decide (PySem.W.takesIn K (.builtin "object.__class__") = some true) && (decide (PySem.W.mroIn K (ga K x) (.type "object") = some true) &&
      ((all.all fun y => decide (PySem.W.kitOne K (.ref (ga K x)) (.ref (ga K y)) = some (decide (x = y))) && PySem.W.notFirst K (ga K x) (.ref (ga K y))) &&
        kinds.all fun t => decide (PySem.W.kitOne K (.ref (ga K x)) (.type t) = some false) && (decide (PySem.W.kitOne K (.type t) (.ref (ga K x)) = some false) && PySem.W.notFirst K (ga K x) (.type t))))))
structure ClsO (K : PySem.W.Frag) (all : List Str) (x : Str) : Prop where
  ha : PySem.W.findIn K (.ref (ga K x)) "__class__" = some (some (.builtin "object.__class__"))
  hn : PySem.W.specialIn K (.builtin "object.__class__") "__get__" = some (some (.builtin "getset_descriptor.__get__"))
  ht : PySem.W.takesIn K (.builtin "object.__class__") = some true
  hm : PySem.W.mroIn K (ga K x) (.type "object") = some true
  own : ∀ y ∈ all, PySem.W.kitOne K (.ref (ga K x)) (.ref (ga K y)) = some (decide (x = y)) ∧ PySem.W.notFirst K (ga K x) (.ref (ga K y)) = true
  bi : ∀ t ∈ kinds, PySem.W.kitOne K (.ref (ga K x)) (.type t) = some false ∧ PySem.W.kitOne K (.type t) (.ref (ga K x)) = some false ∧ PySem.W.notFirst K (ga K x) (.type t) = true
theorem clsB_ok {all : List Str} {x : Str} (h : clsB K all x = true) : ClsO K all x := by
  obtain ⟨h1, h⟩ := ba h
  obtain ⟨h2, h⟩ := ba h
  obtain ⟨h3, h⟩ := ba h
  obtain ⟨h4, h⟩ := ba h
  obtain ⟨h5, h6⟩ := ba h
  refine ⟨eqO_ok h1, eqO_ok h2, of_decide_eq_true h3, of_decide_eq_true h4, fun y hy => ?_, fun t ht => ?_⟩
  · obtain ⟨a, b⟩ := ba (List.all_eq_true.mp h5 y hy)
    exact ⟨of_decide_eq_true a, b⟩
  · obtain ⟨a, b⟩ := ba (List.all_eq_true.mp h6 t ht)
    obtain ⟨b, c⟩ := ba b
    exact ⟨of_decide_eq_true a, of_decide_eq_true b, c⟩
/-- x's own == at f -/
def eqB (K : PySem.W.Frag) (x : Str) : Bool := eqO (PySem.W.findIn K (.ref (ga K x)) "__ne__") (some (some (.builtin "object.__ne__")))
end
end Own
set_option Elab.async false
set_option linter.all false
set_option maxRecDepth 100000
set_option maxHeartbeats 4000000
set_option autoImplicit false
namespace K82
open PySem PySem.Spec PyProof.Rows L2 He Evl
/-! ### the text by places -/
def top (i : Nat) : Stmt := PySem.Challenge.pw_mutesigns_k82_squares_of_words.main.body.getD i (.Pass ⟨0, 0, 0, 0⟩)
abbrev s_is_name : Stmt := top 9
abbrev s_is_list : Stmt := top 10
abbrev s_are_names : Stmt := top 11
abbrev s_is_word : Stmt := top 12
abbrev s_check_many : Stmt := top 13
abbrev s_squares : Stmt := top 16
abbrev s_squares_with : Stmt := top 17
abbrev s_begins : Stmt := top 18
abbrev s_ends : Stmt := top 19
abbrev s_head_of : Stmt := top 20
abbrev s_is_of : Stmt := top 21
abbrev s_l_ear : Stmt := top 23
abbrev s_l_pull : Stmt := top 24
abbrev s_l_one : Stmt := top 25
abbrev s_l_words : Stmt := top 26
abbrev s_l_due : Stmt := top 27
abbrev s_l_behind_right : Stmt := top 28
abbrev s_l_heard : Stmt := top 29
abbrev s_l_refused_right : Stmt := top 30
abbrev s_law : Stmt := top 31
abbrev s_BadWord_init : Stmt := inClass (top 2) 0
abbrev s_TooMany_init : Stmt := inClass (top 3) 0

theorem sc_is_name : FnScope ["value", "mark"] ["value"] (defScope s_is_name) := ⟨rfl, rfl, rfl, by decide +kernel, rfl, by decide +kernel, by decide +kernel⟩
theorem sc_is_list : FnScope ["value"] ["value"] (defScope s_is_list) := ⟨rfl, rfl, rfl, by decide +kernel, rfl, by decide +kernel, by decide +kernel⟩
theorem sc_are_names : FnScope ["value", "one"] ["value"] (defScope s_are_names) := ⟨rfl, rfl, rfl, by decide +kernel, rfl, by decide +kernel, by decide +kernel⟩
theorem sc_is_word : FnScope ["value"] ["value"] (defScope s_is_word) := ⟨rfl, rfl, rfl, by decide +kernel, rfl, by decide +kernel, by decide +kernel⟩
theorem sc_check_many : FnScope ["what", "many", "most"] ["what", "many", "most"] (defScope s_check_many) := ⟨rfl, rfl, rfl, by decide +kernel, rfl, by decide +kernel, by decide +kernel⟩
theorem sc_squares : FnScope ["words", "word", "told", "found", "w", "body", "x", "y", "z"] ["words"] (defScope s_squares) := ⟨rfl, rfl, rfl, by decide +kernel, rfl, by decide +kernel, by decide +kernel⟩
theorem sc_squares_with : FnScope ["words", "w", "body", "head", "tail", "others", "mates", "x", "found", "y", "ahead", "behind", "left", "z"] ["words", "w", "body"] (defScope s_squares_with) := ⟨rfl, rfl, rfl, by decide +kernel, rfl, by decide +kernel, by decide +kernel⟩
theorem sc_begins : FnScope ["word", "head"] ["word", "head"] (defScope s_begins) := ⟨rfl, rfl, rfl, by decide +kernel, rfl, by decide +kernel, by decide +kernel⟩
theorem sc_ends : FnScope ["word", "tail"] ["word", "tail"] (defScope s_ends) := ⟨rfl, rfl, rfl, by decide +kernel, rfl, by decide +kernel, by decide +kernel⟩
theorem sc_head_of : FnScope ["word", "tail"] ["word", "tail"] (defScope s_head_of) := ⟨rfl, rfl, rfl, by decide +kernel, rfl, by decide +kernel, by decide +kernel⟩
theorem sc_is_of : FnScope ["word", "head", "tail"] ["word", "head", "tail"] (defScope s_is_of) := ⟨rfl, rfl, rfl, by decide +kernel, rfl, by decide +kernel, by decide +kernel⟩
theorem sc_l_ear : FnScope ["_law_script", "_law_cell"] ["_law_script"] (defScope s_l_ear) := ⟨rfl, rfl, rfl, by decide +kernel, rfl, by decide +kernel, by decide +kernel⟩
theorem sc_l_pull : FnScope ["_law_ear_here", "_law_many", "_law_left", "_law_at", "_law_cell", "_law_mixed"] ["_law_ear_here", "_law_many"] (defScope s_l_pull) := ⟨rfl, rfl, rfl, by decide +kernel, rfl, by decide +kernel, by decide +kernel⟩
theorem sc_l_one : FnScope ["_law_ear_here", "_law_some"] ["_law_ear_here", "_law_some"] (defScope s_l_one) := ⟨rfl, rfl, rfl, by decide +kernel, rfl, by decide +kernel, by decide +kernel⟩
theorem sc_l_words : FnScope ["_law_ear_here", "_law_names", "_law_words_here", "_law_stems", "_law_spot", "_law_stem", "_law_tails", "_law_ending", "_law_tail", "_law_found", "_law_word", "_law_way"] ["_law_ear_here"] (defScope s_l_words) := ⟨rfl, rfl, rfl, by decide +kernel, rfl, by decide +kernel, by decide +kernel⟩
theorem sc_l_due : FnScope ["_law_words_here", "_law_found", "_law_w", "_law_one_here", "_law_x", "_law_body", "_law_size", "_law_y", "_law_at", "_law_sizes", "_law_z", "_law_fits"] ["_law_words_here"] (defScope s_l_due) := ⟨rfl, rfl, rfl, by decide +kernel, rfl, by decide +kernel, by decide +kernel⟩
theorem sc_l_behind_right : FnScope ["_law_words_here", "_law_told", "_law_mine", "_law_w", "_law_x", "_law_y", "_law_z", "_law_body", "_law_word"] ["_law_words_here", "_law_told"] (defScope s_l_behind_right) := ⟨rfl, rfl, rfl, by decide +kernel, rfl, by decide +kernel, by decide +kernel⟩
theorem sc_l_heard : FnScope ["_law_ask", "_law_caught", "error"] ["_law_ask"] (defScope s_l_heard) := ⟨rfl, rfl, rfl, by decide +kernel, rfl, by decide +kernel, by decide +kernel⟩
theorem sc_l_refused_right : FnScope ["_law_ear_here", "_law_words_here", "_law_at", "_law_odd", "_law_heard_here"] ["_law_ear_here", "_law_words_here"] (defScope s_l_refused_right) := ⟨rfl, rfl, rfl, by decide +kernel, rfl, by decide +kernel, by decide +kernel⟩
theorem sc_law : FnScope ["_law_script", "_law_ear_here", "_law_turn", "_law_words_here", "_law_held", "_law_word", "_law_told", "_law_row", "_law_number"] ["_law_script"] (defScope s_law) := ⟨rfl, rfl, rfl, by decide +kernel, rfl, by decide +kernel, by decide +kernel⟩
theorem sc_BadWord_init : FnScope ["self", "part"] ["self", "part"] (defScope s_BadWord_init) := ⟨rfl, rfl, rfl, by decide +kernel, rfl, by decide +kernel, by decide +kernel⟩
theorem sc_TooMany_init : FnScope ["self", "what", "most"] ["self", "what", "most"] (defScope s_TooMany_init) := ⟨rfl, rfl, rfl, by decide +kernel, rfl, by decide +kernel, by decide +kernel⟩

/-! ### the facts -/
def plains : List Str := []
def excs : List (Str × List Str × List Str) := [("SignError", [], []), ("BadWord", ["SignError"], ["part"]), ("TooMany", ["SignError"], ["what", "most"])]
def defl : List He.DefD := [
  ⟨("is_name", none), "is_name", "is_name", defArgs s_is_name, defBody s_is_name, defScope s_is_name, [], []⟩,
  ⟨("is_list", none), "is_list", "is_list", defArgs s_is_list, defBody s_is_list, defScope s_is_list, [], []⟩,
  ⟨("are_names", none), "are_names", "are_names", defArgs s_are_names, defBody s_are_names, defScope s_are_names, [], []⟩,
  ⟨("is_word", none), "is_word", "is_word", defArgs s_is_word, defBody s_is_word, defScope s_is_word, [], []⟩,
  ⟨("check_many", none), "check_many", "check_many", defArgs s_check_many, defBody s_check_many, defScope s_check_many, [], []⟩,
  ⟨("squares", none), "squares", "squares", defArgs s_squares, defBody s_squares, defScope s_squares, [], []⟩,
  ⟨("_squares_with", none), "_squares_with", "_squares_with", defArgs s_squares_with, defBody s_squares_with, defScope s_squares_with, [], []⟩,
  ⟨("_begins", none), "_begins", "_begins", defArgs s_begins, defBody s_begins, defScope s_begins, [], []⟩,
  ⟨("_ends", none), "_ends", "_ends", defArgs s_ends, defBody s_ends, defScope s_ends, [], []⟩,
  ⟨("_head_of", none), "_head_of", "_head_of", defArgs s_head_of, defBody s_head_of, defScope s_head_of, [], []⟩,
  ⟨("_is_of", none), "_is_of", "_is_of", defArgs s_is_of, defBody s_is_of, defScope s_is_of, [], []⟩,
  ⟨("_law_ear", none), "_law_ear", "_law_ear", defArgs s_l_ear, defBody s_l_ear, defScope s_l_ear, [], []⟩,
  ⟨("_law_pull", none), "_law_pull", "_law_pull", defArgs s_l_pull, defBody s_l_pull, defScope s_l_pull, [], []⟩,
  ⟨("_law_one", none), "_law_one", "_law_one", defArgs s_l_one, defBody s_l_one, defScope s_l_one, [], []⟩,
  ⟨("_law_words", none), "_law_words", "_law_words", defArgs s_l_words, defBody s_l_words, defScope s_l_words, [], []⟩,
  ⟨("_law_due", none), "_law_due", "_law_due", defArgs s_l_due, defBody s_l_due, defScope s_l_due, [], []⟩,
  ⟨("_law_behind_right", none), "_law_behind_right", "_law_behind_right", defArgs s_l_behind_right, defBody s_l_behind_right, defScope s_l_behind_right, [], []⟩,
  ⟨("_law_heard", none), "_law_heard", "_law_heard", defArgs s_l_heard, defBody s_l_heard, defScope s_l_heard, [], []⟩,
  ⟨("_law_refused_right", none), "_law_refused_right", "_law_refused_right", defArgs s_l_refused_right, defBody s_l_refused_right, defScope s_l_refused_right, [], []⟩,
  ⟨("law", none), "law", "law", defArgs s_law, defBody s_law, defScope s_law, [], []⟩,
  ⟨("BadWord", some "__init__"), "__init__", "BadWord.__init__", defArgs s_BadWord_init, defBody s_BadWord_init, defScope s_BadWord_init, [], []⟩,
  ⟨("TooMany", some "__init__"), "__init__", "TooMany.__init__", defArgs s_TooMany_init, defBody s_TooMany_init, defScope s_TooMany_init, [], []⟩]
def edl : List ED := []
def facl : List He.Fa := [.glo "is_name", .glo "is_list", .glo "are_names", .glo "is_word", .glo "check_many", .glo "squares", .glo "_squares_with", .glo "_begins", .glo "_ends", .glo "_head_of", .glo "_is_of", .glo "_law_ear", .glo "_law_pull", .glo "_law_one", .glo "_law_words", .glo "_law_due", .glo "_law_behind_right", .glo "_law_heard", .glo "_law_refused_right", .glo "law", .glo "SignError", .glo "BadWord", .glo "TooMany", .str "LETTERS" "abcdefghijklmnopqrstuvwxyz", .str "NAME_MARKS" "abcdefghijklmnopqrstuvwxyz0123456789", .int "MOST_MARKS" 12, .int "MOST_IN_WORD" 6, .int "MOST_WORDS" 8, .free "ValueError", .free "abs", .free "all", .free "bool", .free "enumerate", .free "int", .free "isinstance", .free "len", .free "list", .free "min", .free "range", .free "sorted", .free "str", .free "tuple", .exc "SignError", .meth "BadWord" "__init__", .meth "TooMany" "__init__"]
/-! ### what stands behind the top -/
structure Tx (K : PySem.W.Frag) (mg : Str → Option Value) : Prop where
  f_is_name : FunD K "is_name" "is_name" (defArgs s_is_name) (defBody s_is_name) (defScope s_is_name) [] [] (ga K "is_name") (fdOf K ("is_name", none))
  f_is_list : FunD K "is_list" "is_list" (defArgs s_is_list) (defBody s_is_list) (defScope s_is_list) [] [] (ga K "is_list") (fdOf K ("is_list", none))
  f_are_names : FunD K "are_names" "are_names" (defArgs s_are_names) (defBody s_are_names) (defScope s_are_names) [] [] (ga K "are_names") (fdOf K ("are_names", none))
  f_is_word : FunD K "is_word" "is_word" (defArgs s_is_word) (defBody s_is_word) (defScope s_is_word) [] [] (ga K "is_word") (fdOf K ("is_word", none))
  f_check_many : FunD K "check_many" "check_many" (defArgs s_check_many) (defBody s_check_many) (defScope s_check_many) [] [] (ga K "check_many") (fdOf K ("check_many", none))
  f_squares : FunD K "squares" "squares" (defArgs s_squares) (defBody s_squares) (defScope s_squares) [] [] (ga K "squares") (fdOf K ("squares", none))
  f_squares_with : FunD K "_squares_with" "_squares_with" (defArgs s_squares_with) (defBody s_squares_with) (defScope s_squares_with) [] [] (ga K "_squares_with") (fdOf K ("_squares_with", none))
  f_begins : FunD K "_begins" "_begins" (defArgs s_begins) (defBody s_begins) (defScope s_begins) [] [] (ga K "_begins") (fdOf K ("_begins", none))
  f_ends : FunD K "_ends" "_ends" (defArgs s_ends) (defBody s_ends) (defScope s_ends) [] [] (ga K "_ends") (fdOf K ("_ends", none))
  f_head_of : FunD K "_head_of" "_head_of" (defArgs s_head_of) (defBody s_head_of) (defScope s_head_of) [] [] (ga K "_head_of") (fdOf K ("_head_of", none))
  f_is_of : FunD K "_is_of" "_is_of" (defArgs s_is_of) (defBody s_is_of) (defScope s_is_of) [] [] (ga K "_is_of") (fdOf K ("_is_of", none))
  f_l_ear : FunD K "_law_ear" "_law_ear" (defArgs s_l_ear) (defBody s_l_ear) (defScope s_l_ear) [] [] (ga K "_law_ear") (fdOf K ("_law_ear", none))
  f_l_pull : FunD K "_law_pull" "_law_pull" (defArgs s_l_pull) (defBody s_l_pull) (defScope s_l_pull) [] [] (ga K "_law_pull") (fdOf K ("_law_pull", none))
  f_l_one : FunD K "_law_one" "_law_one" (defArgs s_l_one) (defBody s_l_one) (defScope s_l_one) [] [] (ga K "_law_one") (fdOf K ("_law_one", none))
  f_l_words : FunD K "_law_words" "_law_words" (defArgs s_l_words) (defBody s_l_words) (defScope s_l_words) [] [] (ga K "_law_words") (fdOf K ("_law_words", none))
  f_l_due : FunD K "_law_due" "_law_due" (defArgs s_l_due) (defBody s_l_due) (defScope s_l_due) [] [] (ga K "_law_due") (fdOf K ("_law_due", none))
  f_l_behind_right : FunD K "_law_behind_right" "_law_behind_right" (defArgs s_l_behind_right) (defBody s_l_behind_right) (defScope s_l_behind_right) [] [] (ga K "_law_behind_right") (fdOf K ("_law_behind_right", none))
  f_l_heard : FunD K "_law_heard" "_law_heard" (defArgs s_l_heard) (defBody s_l_heard) (defScope s_l_heard) [] [] (ga K "_law_heard") (fdOf K ("_law_heard", none))
  f_l_refused_right : FunD K "_law_refused_right" "_law_refused_right" (defArgs s_l_refused_right) (defBody s_l_refused_right) (defScope s_l_refused_right) [] [] (ga K "_law_refused_right") (fdOf K ("_law_refused_right", none))
  f_law : FunD K "law" "law" (defArgs s_law) (defBody s_law) (defScope s_law) [] [] (ga K "law") (fdOf K ("law", none))
  f_BadWord_init : FunD K "__init__" "BadWord.__init__" (defArgs s_BadWord_init) (defBody s_BadWord_init) (defScope s_BadWord_init) [] [] (ma K (ga K "BadWord") "__init__") (fdOf K ("BadWord", some "__init__"))
  f_TooMany_init : FunD K "__init__" "TooMany.__init__" (defArgs s_TooMany_init) (defBody s_TooMany_init) (defScope s_TooMany_init) [] [] (ma K (ga K "TooMany") "__init__") (fdOf K ("TooMany", some "__init__"))
  g_is_name : mg "is_name" = some (.ref (ga K "is_name"))
  g_is_list : mg "is_list" = some (.ref (ga K "is_list"))
  g_are_names : mg "are_names" = some (.ref (ga K "are_names"))
  g_is_word : mg "is_word" = some (.ref (ga K "is_word"))
  g_check_many : mg "check_many" = some (.ref (ga K "check_many"))
  g_squares : mg "squares" = some (.ref (ga K "squares"))
  g_squares_with : mg "_squares_with" = some (.ref (ga K "_squares_with"))
  g_begins : mg "_begins" = some (.ref (ga K "_begins"))
  g_ends : mg "_ends" = some (.ref (ga K "_ends"))
  g_head_of : mg "_head_of" = some (.ref (ga K "_head_of"))
  g_is_of : mg "_is_of" = some (.ref (ga K "_is_of"))
  g_l_ear : mg "_law_ear" = some (.ref (ga K "_law_ear"))
  g_l_pull : mg "_law_pull" = some (.ref (ga K "_law_pull"))
  g_l_one : mg "_law_one" = some (.ref (ga K "_law_one"))
  g_l_words : mg "_law_words" = some (.ref (ga K "_law_words"))
  g_l_due : mg "_law_due" = some (.ref (ga K "_law_due"))
  g_l_behind_right : mg "_law_behind_right" = some (.ref (ga K "_law_behind_right"))
  g_l_heard : mg "_law_heard" = some (.ref (ga K "_law_heard"))
  g_l_refused_right : mg "_law_refused_right" = some (.ref (ga K "_law_refused_right"))
  g_law : mg "law" = some (.ref (ga K "law"))
  g_SignError : mg "SignError" = some (.ref (ga K "SignError"))
  g_BadWord : mg "BadWord" = some (.ref (ga K "BadWord"))
  g_TooMany : mg "TooMany" = some (.ref (ga K "TooMany"))
  g_LETTERS : ∃ t, mg "LETTERS" = some (.str "abcdefghijklmnopqrstuvwxyz" t)
  g_NAME_MARKS : ∃ t, mg "NAME_MARKS" = some (.str "abcdefghijklmnopqrstuvwxyz0123456789" t)
  g_MOST_MARKS : ∃ t, mg "MOST_MARKS" = some (.int 12 t)
  g_MOST_IN_WORD : ∃ t, mg "MOST_IN_WORD" = some (.int 6 t)
  g_MOST_WORDS : ∃ t, mg "MOST_WORDS" = some (.int 8 t)
  n_ValueError : mg "ValueError" = none
  n_abs : mg "abs" = none
  n_all : mg "all" = none
  n_bool : mg "bool" = none
  n_enumerate : mg "enumerate" = none
  n_int : mg "int" = none
  n_isinstance : mg "isinstance" = none
  n_len : mg "len" = none
  n_list : mg "list" = none
  n_min : mg "min" = none
  n_range : mg "range" = none
  n_sorted : mg "sorted" = none
  n_str : mg "str" = none
  n_tuple : mg "tuple" = none
  e_SignError : (He.Fa.exc "SignError").ok K = true
  m_BadWord : Meth K (ga K "BadWord") "__init__" (ma K (ga K "BadWord") "__init__")
  m_TooMany : Meth K (ga K "TooMany") "__init__" (ma K (ga K "TooMany") "__init__")
  xs : excsB K excs = true
def chk (K : PySem.W.Frag) : Bool := excsB K excs
theorem tx_of {K : PySem.W.Frag} {mg : Str → Option Value} {h : Heap} (X : K.In h) (G : h.Ns mainGlobals mg) (c : SaysR chk facl defl edl K) : Tx K mg := ⟨
  (funD_at c.says 0 (d := ⟨("is_name", none), "is_name", "is_name", defArgs s_is_name, defBody s_is_name, defScope s_is_name, [], []⟩) rfl),
  (funD_at c.says 1 (d := ⟨("is_list", none), "is_list", "is_list", defArgs s_is_list, defBody s_is_list, defScope s_is_list, [], []⟩) rfl),
  (funD_at c.says 2 (d := ⟨("are_names", none), "are_names", "are_names", defArgs s_are_names, defBody s_are_names, defScope s_are_names, [], []⟩) rfl),
  (funD_at c.says 3 (d := ⟨("is_word", none), "is_word", "is_word", defArgs s_is_word, defBody s_is_word, defScope s_is_word, [], []⟩) rfl),
  (funD_at c.says 4 (d := ⟨("check_many", none), "check_many", "check_many", defArgs s_check_many, defBody s_check_many, defScope s_check_many, [], []⟩) rfl),
  (funD_at c.says 5 (d := ⟨("squares", none), "squares", "squares", defArgs s_squares, defBody s_squares, defScope s_squares, [], []⟩) rfl),
  (funD_at c.says 6 (d := ⟨("_squares_with", none), "_squares_with", "_squares_with", defArgs s_squares_with, defBody s_squares_with, defScope s_squares_with, [], []⟩) rfl),
  (funD_at c.says 7 (d := ⟨("_begins", none), "_begins", "_begins", defArgs s_begins, defBody s_begins, defScope s_begins, [], []⟩) rfl),
  (funD_at c.says 8 (d := ⟨("_ends", none), "_ends", "_ends", defArgs s_ends, defBody s_ends, defScope s_ends, [], []⟩) rfl),
  (funD_at c.says 9 (d := ⟨("_head_of", none), "_head_of", "_head_of", defArgs s_head_of, defBody s_head_of, defScope s_head_of, [], []⟩) rfl),
  (funD_at c.says 10 (d := ⟨("_is_of", none), "_is_of", "_is_of", defArgs s_is_of, defBody s_is_of, defScope s_is_of, [], []⟩) rfl),
  (funD_at c.says 11 (d := ⟨("_law_ear", none), "_law_ear", "_law_ear", defArgs s_l_ear, defBody s_l_ear, defScope s_l_ear, [], []⟩) rfl),
  (funD_at c.says 12 (d := ⟨("_law_pull", none), "_law_pull", "_law_pull", defArgs s_l_pull, defBody s_l_pull, defScope s_l_pull, [], []⟩) rfl),
  (funD_at c.says 13 (d := ⟨("_law_one", none), "_law_one", "_law_one", defArgs s_l_one, defBody s_l_one, defScope s_l_one, [], []⟩) rfl),
  (funD_at c.says 14 (d := ⟨("_law_words", none), "_law_words", "_law_words", defArgs s_l_words, defBody s_l_words, defScope s_l_words, [], []⟩) rfl),
  (funD_at c.says 15 (d := ⟨("_law_due", none), "_law_due", "_law_due", defArgs s_l_due, defBody s_l_due, defScope s_l_due, [], []⟩) rfl),
  (funD_at c.says 16 (d := ⟨("_law_behind_right", none), "_law_behind_right", "_law_behind_right", defArgs s_l_behind_right, defBody s_l_behind_right, defScope s_l_behind_right, [], []⟩) rfl),
  (funD_at c.says 17 (d := ⟨("_law_heard", none), "_law_heard", "_law_heard", defArgs s_l_heard, defBody s_l_heard, defScope s_l_heard, [], []⟩) rfl),
  (funD_at c.says 18 (d := ⟨("_law_refused_right", none), "_law_refused_right", "_law_refused_right", defArgs s_l_refused_right, defBody s_l_refused_right, defScope s_l_refused_right, [], []⟩) rfl),
  (funD_at c.says 19 (d := ⟨("law", none), "law", "law", defArgs s_law, defBody s_law, defScope s_law, [], []⟩) rfl),
  (funD_at c.says 20 (d := ⟨("BadWord", some "__init__"), "__init__", "BadWord.__init__", defArgs s_BadWord_init, defBody s_BadWord_init, defScope s_BadWord_init, [], []⟩) rfl),
  (funD_at c.says 21 (d := ⟨("TooMany", some "__init__"), "__init__", "TooMany.__init__", defArgs s_TooMany_init, defBody s_TooMany_init, defScope s_TooMany_init, [], []⟩) rfl),
  (He.glo_ok X G (c.says.fact 0 (f := .glo "is_name") rfl)),
  (He.glo_ok X G (c.says.fact 1 (f := .glo "is_list") rfl)),
  (He.glo_ok X G (c.says.fact 2 (f := .glo "are_names") rfl)),
  (He.glo_ok X G (c.says.fact 3 (f := .glo "is_word") rfl)),
  (He.glo_ok X G (c.says.fact 4 (f := .glo "check_many") rfl)),
  (He.glo_ok X G (c.says.fact 5 (f := .glo "squares") rfl)),
  (He.glo_ok X G (c.says.fact 6 (f := .glo "_squares_with") rfl)),
  (He.glo_ok X G (c.says.fact 7 (f := .glo "_begins") rfl)),
  (He.glo_ok X G (c.says.fact 8 (f := .glo "_ends") rfl)),
  (He.glo_ok X G (c.says.fact 9 (f := .glo "_head_of") rfl)),
  (He.glo_ok X G (c.says.fact 10 (f := .glo "_is_of") rfl)),
  (He.glo_ok X G (c.says.fact 11 (f := .glo "_law_ear") rfl)),
  (He.glo_ok X G (c.says.fact 12 (f := .glo "_law_pull") rfl)),
  (He.glo_ok X G (c.says.fact 13 (f := .glo "_law_one") rfl)),
  (He.glo_ok X G (c.says.fact 14 (f := .glo "_law_words") rfl)),
  (He.glo_ok X G (c.says.fact 15 (f := .glo "_law_due") rfl)),
  (He.glo_ok X G (c.says.fact 16 (f := .glo "_law_behind_right") rfl)),
  (He.glo_ok X G (c.says.fact 17 (f := .glo "_law_heard") rfl)),
  (He.glo_ok X G (c.says.fact 18 (f := .glo "_law_refused_right") rfl)),
  (He.glo_ok X G (c.says.fact 19 (f := .glo "law") rfl)),
  (He.glo_ok X G (c.says.fact 20 (f := .glo "SignError") rfl)),
  (He.glo_ok X G (c.says.fact 21 (f := .glo "BadWord") rfl)),
  (He.glo_ok X G (c.says.fact 22 (f := .glo "TooMany") rfl)),
  (He.str_ok X G (c.says.fact 23 (f := .str "LETTERS" "abcdefghijklmnopqrstuvwxyz") rfl)),
  (He.str_ok X G (c.says.fact 24 (f := .str "NAME_MARKS" "abcdefghijklmnopqrstuvwxyz0123456789") rfl)),
  (He.int_ok X G (c.says.fact 25 (f := .int "MOST_MARKS" 12) rfl)),
  (He.int_ok X G (c.says.fact 26 (f := .int "MOST_IN_WORD" 6) rfl)),
  (He.int_ok X G (c.says.fact 27 (f := .int "MOST_WORDS" 8) rfl)),
  (He.free_ok X G (c.says.fact 28 (f := .free "ValueError") rfl)),
  (He.free_ok X G (c.says.fact 29 (f := .free "abs") rfl)),
  (He.free_ok X G (c.says.fact 30 (f := .free "all") rfl)),
  (He.free_ok X G (c.says.fact 31 (f := .free "bool") rfl)),
  (He.free_ok X G (c.says.fact 32 (f := .free "enumerate") rfl)),
  (He.free_ok X G (c.says.fact 33 (f := .free "int") rfl)),
  (He.free_ok X G (c.says.fact 34 (f := .free "isinstance") rfl)),
  (He.free_ok X G (c.says.fact 35 (f := .free "len") rfl)),
  (He.free_ok X G (c.says.fact 36 (f := .free "list") rfl)),
  (He.free_ok X G (c.says.fact 37 (f := .free "min") rfl)),
  (He.free_ok X G (c.says.fact 38 (f := .free "range") rfl)),
  (He.free_ok X G (c.says.fact 39 (f := .free "sorted") rfl)),
  (He.free_ok X G (c.says.fact 40 (f := .free "str") rfl)),
  (He.free_ok X G (c.says.fact 41 (f := .free "tuple") rfl)),
  (c.says.fact 42 (f := .exc "SignError") rfl),
  (He.meth_ok (c.says.fact 43 (f := .meth "BadWord" "__init__") rfl)),
  (He.meth_ok (c.says.fact 44 (f := .meth "TooMany" "__init__") rfl)),
  c.chk_⟩
end K82
set_option Elab.async false
set_option linter.all false
set_option maxRecDepth 100000
set_option maxHeartbeats 4000000
set_option autoImplicit false
namespace PySem
open Sem (wp)
open AutoSeq1 (wpAny_loadPart')
theorem meets_enumerate_newT {v : Value} {o : Obj} {H : Heap → Prop} (B : Begins v o H) :
    Meets (Builtin.«enumerate.__new__» ⟨[.type "enumerate", v], []⟩) (fun _ R s => H s.heap ∧
      R (.ok (.ret (.ref (s.heap.push o).objs.size))) { s with heap := (s.heap.push o).push { cls := .type "enumerate", data := .fields #[.none, .bool false, .ref s.heap.objs.size, rawInt 0, .none, .none] } }) :=
  .of_wp fun prog w A R s h => by
    obtain ⟨hp, g, d, tk, os⟩ := s; obtain ⟨h1, h⟩ := h
    have hsub := sub_enumerate
    have q1 : ∀ {A' : Around} {E : Value → Shared → Prop} {Q : Value → Shared → Prop}, Q (.ref hp.objs.size) ⟨hp.push o, g, d, tk, os⟩ → wpAny (model prog w) A' (pyIter v) Q E ⟨hp, g, d, tk, os⟩ :=
      fun q => B.iter prog w _ _ ⟨hp, g, d, tk, os⟩ _ h1 q
    wp_walk using q1
    refine wpAny_stack_any fun st => wpAny_pure ?_
    split
    · rename_i c _ _ _ _ _
      cases (c == Value.type "enumerate")
      · wp_walk using q1
        exact ⟨_, rfl, h⟩
      · wp_walk using q1
        exact ⟨_, rfl, h⟩
    · wp_walk using q1
      exact ⟨_, rfl, h⟩
section
variable {prog : Program} {w : World} {A : Around} {E : Value → Shared → Prop} {s : Shared}
theorem enum_begins1 {v : Value} {o : Obj} {H : Heap → Prop} {Q : Value → Shared → Prop} (B : Begins v o H) (h1 : H s.heap)
    (h : ∀ h', IsEnum h' (s.heap.objs.size + 1) s.heap.objs.size 0 .none → h'.get? s.heap.objs.size = some o → h'.objs.size = s.heap.objs.size + 2 →
      (∀ b o, s.heap.get? b = some o → h'.get? b = some o) → Q (.ref (s.heap.objs.size + 1)) { s with heap := h' }) :
    wpAny (model prog w) A (call (.type "enumerate") [v]) Q E s := by
  refine callType_new F.called_enumerate (by decide) (F.typeCall_enumerate_1 _) (F.newCall_enumerate_1 _) (fun obj => F.args_object_init_2 obj _) F.entry_enumerate_new
    (meets_enumerate_newT B) ⟨h1, ?_⟩
  have hz : (s.heap.push o).objs.size = s.heap.objs.size + 1 := Heap.size_push ..
  show _ ∧ _
  rw [hz]
  have he : IsEnum ((s.heap.push o).push { cls := .type "enumerate", data := .fields #[.none, .bool false, .ref s.heap.objs.size, rawInt 0, .none, .none] }) (s.heap.objs.size + 1) s.heap.objs.size 0 .none := by
    have := Heap.get?_push_size (s.heap.push o) (o := { cls := .type "enumerate", data := .fields #[.none, .bool false, .ref s.heap.objs.size, rawInt 0, .none, .none] }) rfl
    rw [hz] at this; exact this
  refine ⟨⟨_, he, rfl⟩, h _ he (Heap.get?_push_of_some _ (Heap.get?_push_size _ B.free)) (by rw [Heap.size_push, hz]) fun b o x => Heap.get?_push_of_some _ (Heap.get?_push_of_some _ x)⟩
end
end PySem
namespace L2
open PySem PySem.Spec PyProof.Rows
/-- the tuple at a, the items in new pairs -/
def IteT (K : PySem.W.Frag) (a : Addr) : It :=
  ⟨fun i H => ∃ (xs : List V) (x : V), SqT K H a xs ∧ xs[i]? = some x, fun i H v H' => ∃ T x, v = .ref T ∧ H T = none ∧ H' = upd H T (.tup [.int (i : Nat), x]) ∧ ∀ xs, SqT K H a xs → xs[i]? = some x, fun i H => ∃ xs : List V, SqT K H a xs ∧ xs.length ≤ i⟩
theorem turn_enumT {P : Program} {w : World} {K : PySem.W.Frag} {elts : List Expr} {kk : Nat} {tpos : Pos} (a e it : Addr) (hai : a ≠ it) :
    Turn P w K (.Tuple elts kk tpos) (IteT K a) [e, it] e (fun i h => (∃ old, IsEnum h e it ((i : Nat) : Int) old) ∧ h.IsTupleIter it a i ∧ e ≠ it ∧ e ≠ a) where
  mem := by simp
  obj := fun i h st b hb => by
    obtain ⟨⟨old, he⟩, ⟨o, ho, hc, hd⟩, _⟩ := st
    have e' : b = e ∨ b = it := by simpa using hb
    rcases e' with z | z
    · rw [z]; exact ⟨_, he, fun v q => nomatch q⟩
    · rw [z]; exact ⟨o, ho, fun v q => by rw [hd] at q; cases q⟩
  keep := fun i h h' st k => let ⟨⟨old, he⟩, hi, hne⟩ := st; ⟨⟨old, k e (by simp) _ he⟩, hi.at fun o q => k it (by simp) o q, hne⟩
  item := by
    intro X hP hw hK hc i pins s σ H E I hf st hg
    subst hP hw hK
    obtain ⟨⟨old, he⟩, hit, hne, hea⟩ := st
    obtain ⟨xs, x, hq, hx⟩ := hg
    obtain ⟨its, rv, p, hz⟩ := I.tuple hq
    obtain ⟨u, hu, ru⟩ := rv.get hx
    have hel : e < s.heap.objs.size := Heap.lt_size he
    have hil : it < s.heap.objs.size := by obtain ⟨_, q, _⟩ := hit; exact Heap.lt_size q
    have hts : s.heap.IsTuple a its.toArray := p
    have hu' : its.toArray[i]? = some u := by simpa using hu
    have hlt : i < its.toArray.size := by
      rcases Nat.lt_or_ge i its.toArray.size with z | z
      · exact z
      · rw [Array.getElem?_eq_none z] at hu'; cases hu'
    refine wpAny_pyNext_enum_itemD (Draws.tuple (A := X.A.in1) (I.ok.hd hc) it a hai its.toArray) he ⟨hit, hts⟩ hlt hne (by simp [hne, hea]) fun v h' tk hv ho hst hT hsz hk => ?_
    obtain rfl : v = u := by rw [hu'] at hv; exact (Option.some.inj hv).symm
    obtain ⟨hit', _⟩ := hst
    refine ⟨_, rfl, wpAny_letOwnedTupleGo_enum (s := { s with heap := h', toks := tk + 1 }) ho fun h'' he' sb => ?_⟩
    have hT2 : h''.get? s.heap.objs.size = some { cls := .type "tuple", data := .seq #[.int i tk, v] } := (sb.2 _ (Nat.ne_of_gt hel)).trans hT
    have new : ObjOk X.prog X.w (upd H s.heap.objs.size (.tup [.int (i : Nat), x])) h'' s.heap.objs.size (.tup [.int (i : Nat), x]) :=
      ⟨by show 2 ≤ sizeLine; decide, [.int i tk, v], .cons ⟨_, rfl⟩ (.cons ru .nil), ⟨_, hT2, rfl, _, rfl⟩⟩
    have I1 : Inv X pins σ (upd H s.heap.objs.size (.tup [.int (i : Nat), x])) { s with heap := h'', toks := tk + 1 } :=
      I.turnedNew (ch := [e, it]) (fun b ob hb q => (sb.2 b (fun z => hb (by simp [z]))).trans (hk b ob (fun z => hb (by simp [z])) (fun z => hb (by simp [z])) q)) hf (Nat.le_refl _) new
    refine ⟨.ref s.heap.objs.size, _, I1, rfl, ⟨_, x, rfl, I.hok.fresh (Nat.le_refl _), rfl, fun ys hy => by rw [I.tuple_inj hy hq]; exact hx⟩, ⟨⟨v, ?_⟩, hit'.at fun o q => (sb.2 it (Ne.symm hne)).trans q, hne, hea⟩, fun b hb => ?_⟩
    · have e1 : ((i + 1 : Nat) : Int) = (i : Int) + 1 := by omega
      rw [e1]; exact he'
    · have hb' : b < s.heap.objs.size := by
        have e' : b = e ∨ b = it := by simpa using hb
        rcases e' with z | z
        · rw [z]; exact hel
        · rw [z]; exact hil
      rw [upd_ne (Nat.ne_of_lt hb')]
      exact (hf b hb).1
  done := by
    intro X hP hw hK hc i pins s σ H E I hf st hg
    subst hP hw hK
    obtain ⟨⟨old, he⟩, hit, hne, hea⟩ := st
    obtain ⟨xs, hq, hx⟩ := hg
    obtain ⟨its, rv, p, hz⟩ := I.tuple hq
    obtain ⟨f0, f1, f2, f3, f4, f5⟩ := hf it (by simp)
    have hl := rv.length
    have hT : s.TypeIs (.ref e) "enumerate" := ⟨_, he, rfl⟩
    unfold pyNext
    refine wpAny_bind (wpAny_attempt (wpAny_callSpecial?_slot (name := Str.ofString "__next__") hT F.slot_enumerate_next
      (wpAny_call_entry F.slot_enumerate_next hT F.entry_enumerate_next ?_ (F.args_enumerate_next_1 _))))
    show wpAny _ _ (field (.ref e) 2 >>= _) _ _ _
    refine wpAny_bind (wpAny_field he rfl (x := .ref it) rfl ?_)
    refine wpAny_bind (wpAny_nextOf_tuple_end (A := X.A.in1) (I.ok.hd hc) hit (show s.heap.IsTuple a its.toArray from p) (by simp; omega) fun h' x he' hx' => ?_)
    obtain ⟨o, ho, hc'⟩ := hx'
    refine wpAny_bind (wpAny_isInstance (T := "StopIteration") (b := true) ⟨o, ho, hc'⟩ isSubtype_stop ?_)
    exact wpAny_pure ⟨rfl, I.turned (t' := s.toks) (fun b o hb q => he' b o hb q) f0 f1 f3 f4 f5⟩
  self := fun A i s Q E st h => let ⟨⟨_, he⟩, _⟩ := st; wpAny_pyIter_enum he h
def iEnumT (K : PySem.W.Frag) (ta : TA) : TI := fun σ H R => ta σ H fun vs H1 => ∃ a xs, vs = [.ref a] ∧ SqT K H1 a xs ∧ R (IteT K a) H1
theorem pi_enumT {X : Cx} {e : Expr} {ta : TA} {p pos tpos : Pos} {elts : List Expr} {kk : Nat} (hg : Gl X "enumerate") (hm : X.mg "enumerate" = none) (ha : PA X [e] ta) (hs : starEach [e] X.env = [(false, eval e X.env)] := by rfl) :
    PI X (.Tuple elts kk tpos) (.Call (.Name "enumerate" p) [e] [] pos) (iEnumT X.K ta) := by
  refine ⟨fun pins s σ H R I h => ?_⟩
  refine Call_ (ld_blt I hg hm boot_enumerate (PyProof.Rows.callWith_type1 (thn (ha.run pos pins s σ H _ I h) fun us s1 ⟨vs, H1, I1, r1, q1⟩ => ?_) hs rfl))
  obtain ⟨a, xs, ex, hq, q⟩ := q1
  subst ex
  cases r1 with
  | cons r rr =>
    cases rr
    cases r
    obtain ⟨its, rv, p', hz⟩ := I1.tuple hq
    have hal : a < s1.heap.objs.size := by obtain ⟨_, q, _⟩ := p'; exact Heap.lt_size q
    refine enum_begins1 (begins_tuple a its.toArray) p' fun h' he hit hsz hk => wpAny_pyIter_enum he ?_
    have I2 : Inv X pins σ H1 { s1 with heap := h' } := I1.kept (t' := s1.toks) hk
    refine ⟨s1.heap.objs.size + 1, [s1.heap.objs.size + 1, s1.heap.objs.size], _, _, H1, rfl, I2, turn_enumT a (s1.heap.objs.size + 1) s1.heap.objs.size (Nat.ne_of_lt hal), ⟨⟨.none, he⟩, ⟨_, hit, rfl, rfl⟩, Nat.succ_ne_self _, Nat.ne_of_gt (Nat.lt_succ_of_lt hal)⟩, fun b hb => ?_, q⟩
    have e' : b = s1.heap.objs.size + 1 ∨ b = s1.heap.objs.size := by simpa using hb
    have hle : s1.heap.objs.size ≤ b := by
      rcases e' with z | z
      · rw [z]; exact Nat.le_add_right _ _
      · rw [z]; exact Nat.le_refl _
    exact I1.fpOk hle (I1.hok.fresh hle)
end L2
set_option Elab.async false
set_option linter.all false
set_option maxRecDepth 100000
set_option maxHeartbeats 4000000
set_option autoImplicit false
/-! The program's own exceptions: their `__init__`s by spInitX, lists of them. -/
namespace He
open PySem PySem.Spec PyProof.Rows L2
def swap2 {α : Type} : List α → List α
  | [a, b] => [b, a]
  | l => l
theorem vals_swap2 {vs : List V} {us : List Value} (r : Vals vs us) : Vals (swap2 vs) (swap2 us) := by
  cases r with
  | nil => exact .nil
  | cons a r =>
    cases r with
    | nil => exact .cons a .nil
    | cons c r =>
      cases r with
      | nil => exact .cons c (.cons a .nil)
      | cons e f => exact .cons a (.cons c (.cons e f))
open PySem PySem.Spec PyProof.Rows L2 Evl
section
variable {K : PySem.W.Frag} {C : Addr} {f1 f2 : Str} {vs : List V} {H : Hp} {Q : VK} {E : XK}
theorem spInit_len {fs : List Str} (h : spInitX C fs vs H Q E) : vs.length = (("self" : Str) :: fs).length := by
  obtain ⟨a, ws, rfl, hl, _⟩ := h
  show ws.length + 1 = fs.length + 1
  rw [hl]
theorem init1 {N : List Str} (hN : N.length = 2) (T : XCl K C) (h1 : PySem.W.findIn K (.ref C) f1 = some none) (h : spInitX C [f1] vs H Q E) :
    tSeq (tOst K f1 (tVar 0) (tVar 1)) tNext { nx := fun _ H' => Q .non H', rt := Q } (start N vs) H := by
  obtain ⟨a, ws, rfl, hl, ha, k⟩ := h
  match N, hN, ws, hl with
  | [_, _], _, [w], _ =>
    refine ⟨w, rfl, .ref a, rfl, a, C, rfl, T.oex, h1, .inl ⟨ha, fun dx hd hne => k dx _ hd hne upd_same ?_ fun b o hb hne' => ?_⟩⟩
    · rw [upd_ne hne, upd_same]
      rfl
    · rw [upd_ne hne', upd_ne (ne_of_none hb hd)]
      exact hb
theorem init1o {N : List Str} (hN : N.length = 2) (T : XCl K C) (h1 : PySem.W.findIn K (.ref C) f1 = some none) (h : spInitX C [f1] vs H Q E) :
    tOst K f1 (tVar 0) (tVar 1) { nx := fun _ H' => Q .non H', rt := Q } (start N vs) H := init1 hN T h1 h
theorem init2 {N : List Str} (hN : N.length = 3) (T : XCl K C) (h1 : PySem.W.findIn K (.ref C) f1 = some none) (h2 : PySem.W.findIn K (.ref C) f2 = some none) (h : spInitX C [f1, f2] vs H Q E) :
    tSeq (tOst K f1 (tVar 0) (tVar 1)) (tOst K f2 (tVar 0) (tVar 2)) { nx := fun _ H' => Q .non H', rt := Q } (start N vs) H := by
  obtain ⟨a, ws, rfl, hl, ha, k⟩ := h
  match N, hN, ws, hl with
  | [_, _, _], _, [w, w2], _ =>
    refine ⟨w, rfl, .ref a, rfl, a, C, rfl, T.oex, h1, .inl ⟨ha, fun dx hd hne => ?_⟩⟩
    have e1 : (upd (upd H dx (exd dx [(f1, w)])) a (exo a C (some dx))) dx = some (exd dx [(f1, w)]) := by
      rw [upd_ne hne]
      exact upd_same
    refine ⟨w2, rfl, .ref a, rfl, a, C, rfl, T.oex, h2, .inr ⟨dx, _, upd_same, e1, by show 1 ≤ 900; decide, ?_⟩⟩
    refine k dx _ hd hne ?_ upd_same fun b o hb hne' => ?_
    · rw [upd_ne (Ne.symm hne)]
      exact upd_same
    · rw [upd_ne (ne_of_none hb hd), upd_ne hne', upd_ne (ne_of_none hb hd)]
      exact hb
end
/-! ### what makes an exception -/
section
variable {K : PySem.W.Frag} {σ : L2.St} {H H' : Hp} {te : TE} {t : TA} {C : Addr} {fs : List Str} {vs : List V}
def EvX (te : TE) (σ : L2.St) (H : Hp) (C : Addr) (fs : List (Str × V)) : Prop := ∀ H1, Ex H H1 → ∀ Q : VK, (∀ a H2, Ex H1 H2 → XAt H2 a C fs → Q (.ref a) H2) → te σ H1 Q
theorem evx_mk (h : EvA t σ H vs) (hl : vs.length = fs.length) : EvX (tXmk C fs t) σ H C (fs.zip vs).reverse := fun H1 e Q q =>
  h H1 e _ fun H2 e2 => ⟨hl, fun a H3 _ e3 x => q a H3 (e2.trans e3) x⟩
/-- C(k = v, ..) -/
def tXmkK (C : Addr) (fs ks : List Str) (gV : List V → List V) (tk : TA) : TE := fun σ H Q => tk σ H fun zs H1 => zs.length = ks.length ∧ (gV zs).length = fs.length ∧ ∀ a H2, H1 a = none → Ex H1 H2 → XAt H2 a C (fs.zip (gV zs)).reverse → Q (.ref a) H2
theorem evx_mkK {ks : List Str} {gV : List V → List V} (h : EvA t σ H vs) (hk : vs.length = ks.length) (hl : (gV vs).length = fs.length) : EvX (tXmkK C fs ks gV t) σ H C (fs.zip (gV vs)).reverse := fun H1 e Q q =>
  h H1 e _ fun H2 e2 => ⟨hk, hl, fun a H3 _ e3 x => q a H3 (e2.trans e3) x⟩
/-- exceptions one behind another: each of its class with its fields -/
def XsAt (K : PySem.W.Frag) (H : Hp) (as : List Addr) (tbl : List (Str × List (Str × V))) : Prop := Paired (fun a e => XAt H a (ga K e.1) e.2) as tbl
theorem XsAt.ex {as : List Addr} {tbl : List (Str × List (Str × V))} (h : XsAt K H as tbl) (e : Ex H H') : XsAt K H' as tbl := by
  induction h with
  | nil => exact .nil
  | cons a b ih => exact .cons (a.ex e) ih
def EvXs (K : PySem.W.Frag) (ta : TA) (σ : L2.St) (H : Hp) (tbl : List (Str × List (Str × V))) : Prop := ∀ H1, Ex H H1 → ∀ Q : List V → Hp → Prop, (∀ as H2, Ex H1 H2 → XsAt K H2 as tbl → Q (as.map V.ref) H2) → ta σ H1 Q
theorem exs_nil : EvXs K tNil σ H [] := fun H1 _ _ q => q [] H1 (Ex.refl H1) .nil
theorem exs_cons {x : Str} {fs : List (Str × V)} {ta : TA} {tbl : List (Str × List (Str × V))} (h : EvX te σ H (ga K x) fs) (hr : EvXs K ta σ H tbl) : EvXs K (tCons te ta) σ H ((x, fs) :: tbl) := fun H1 e Q q =>
  h H1 e _ fun a H2 e2 x => hr H2 (e.trans e2) _ fun as H3 e3 xs => q (a :: as) H3 (e2.trans e3) (.cons (x.ex e3) xs)
/-- a new list of exceptions -/
def EvXl (K : PySem.W.Frag) (te : TE) (σ : L2.St) (H : Hp) (tbl : List (Str × List (Str × V))) : Prop := ∀ H1, Ex H H1 → ∀ Q : VK, (∀ p as H2, Ex H1 H2 → H2 p = some (.lst (as.map V.ref)) → XsAt K H2 as tbl → Q (.ref p) H2) → te σ H1 Q
theorem paired_append {α β : Type} {R : α → β → Prop} {xs xs' : List α} {ys ys' : List β} (h : Paired R xs ys) (h' : Paired R xs' ys') : Paired R (xs ++ xs') (ys ++ ys') := by
  induction h with
  | nil => exact h'
  | cons a b ih => exact .cons a ih
theorem exl_lst {ta : TA} {tbl : List (Str × List (Str × V))} (h : EvXs K ta σ H tbl) (hl : tbl.length ≤ 1000) : EvXl K (tLst ta) σ H tbl := fun H1 e Q q =>
  h H1 e _ fun as H2 e2 xs => ⟨sz_of (by rw [List.length_map, xs.length]; omega), fun p hp => q p as _ (e2.trans (Ex.new hp)) upd_same (xs.ex (Ex.new hp))⟩
/-- xs + [..], xs a list of exceptions in a slot -/
theorem exl_cat {i : Nat} {p : Addr} {as : List Addr} {ta : TA} {t1 t2 : List (Str × List (Str × V))} (hv : σ[i]? = some (some (.ref p))) (hp : H p = some (.lst (as.map V.ref))) (hx : XsAt K H as t1) (h : EvXs K ta σ H t2) (h1 : t1.length ≤ 1000) (h2 : t2.length ≤ 1000) :
    EvXl K (tOp rCat (tVar i) (tLst ta)) σ H (t1 ++ t2) := fun H1 e Q q =>
  ⟨_, hv, exl_lst h h2 H1 e _ fun b bs H2 e2 hb xs => ⟨p, b, _, _, rfl, rfl, e2 _ _ (e _ _ hp), hb, sz_of (by rw [List.length_map, List.length_map, xs.length, hx.length]; omega), fun r hr => by
    have e3 : Ex H2 (upd H2 r (.lst (as.map V.ref ++ bs.map V.ref))) := Ex.new hr
    refine q r (as ++ bs) _ (e2.trans e3) ?_ (paired_append (hx.ex ((e.trans e2).trans e3)) (xs.ex e3))
    rw [List.map_append]
    exact upd_same⟩⟩
variable {D : Ends} {tz : TS}
theorem q_asgX {i : Nat} {tbl : List (Str × List (Str × V))} (h : EvXl K te σ H tbl) (k : ∀ p as H1, Ex H H1 → H1 p = some (.lst (as.map V.ref)) → XsAt K H1 as tbl → tz D (σ.set i (some (.ref p))) H1) : tSeq (tAsg te (gName i)) tz D σ H :=
  h H (Ex.refl H) _ fun p as H1 e hp hx => k p as H1 e hp hx
end
end He
set_option Elab.async false
set_option linter.all false
set_option maxRecDepth 100000
set_option maxHeartbeats 4000000
set_option autoImplicit false
/-! try: .. except C as e: .. where the exception is kept beyond its suite. -/
namespace He
open PySem PySem.Spec PyProof.Rows L2
section
variable {X : Cx} {pins : List (Addr × Obj)} {σ : L2.St} {H : Hp} {s : Shared} {a : Addr} {o : HO}
/-- what stands untracked may be tracked, if it is younger than the def's beginning -/
theorem track (I : Inv X pins σ H s) (hn : H a = none) (n0 : X.s_0.heap.get? a = none) (nL : a ≠ X.env.locals) (nc : ∀ x c, X.env.cells.lookup x = some c → c ≠ a) (np : ∀ p ∈ X.pn ++ pins, p.1 ≠ a) (ok : ObjOk X.prog X.w (upd H a o) s.heap a o) : Inv X pins σ (upd H a o) s where
  ok := I.ok
  os := I.os
  bare := I.bare
  base := {
    keep := I.base.keep
    slot := I.base.slot
    free := fun b u e1 e2 e3 => by
      rw [upd_ne (fun z => by rw [z, n0] at e1; cases e1)]
      exact I.base.free b u e1 e2 e3
    there := I.base.there
    tups := fun b xs e => by
      have z := I.base.tups b xs e
      rw [upd_ne (ne_of_none z hn)]
      exact z
    frzs := fun b u v e => by
      have z := I.base.frzs b u v e
      rw [upd_ne (ne_of_none z hn)]
      exact z
    tbls := fun b ps e => by
      obtain ⟨more, z⟩ := I.base.tbls b ps e
      exact ⟨more, by rw [upd_ne (ne_of_none z hn)]; exact z⟩ }
  loc := I.loc
  cell := I.cell
  free := by rw [upd_ne (Ne.symm nL)]; exact I.free
  freeC := fun x c e => by rw [upd_ne (nc x c e)]; exact I.freeC x c e
  pin := fun p hp => by
    obtain ⟨p1, p2, p3⟩ := I.pin p hp
    exact ⟨p1, by rw [upd_ne (np p hp)]; exact p2, p3⟩
  hok := I.hok.laidN (fun _ _ z => z) hn ok
  len := I.len
/-- an exception that was caught, at a -/
def exk (a : Addr) (cls : Value) (d : Option Addr) : HO := .ext fun h => ∃ oe vs, h.get? a = some oe ∧ Zc cls d oe ∧ oe.data = .fields vs
theorem exk_ok {P : Program} {w : World} {h : Heap} {cls : Value} {d : Option Addr} {oe : Obj} {vs : Array Value} (e : h.get? a = some oe) (z : Zc cls d oe) (v : oe.data = .fields vs) : ObjOk P w H h a (exk a cls d) :=
  ⟨⟨oe, vs, e, z, v⟩, ⟨_, e⟩, fun h1 h2 p k => by
    obtain ⟨oe', vs', e', q⟩ := p
    exact ⟨oe', vs', k _ e', q⟩⟩
end
/-- what the clause wishes of an exception of the body: it stands at a, slot i is its name's -/
def wKeep (K : PySem.W.Frag) (c : Value) (i : Nat) (ts : Addr → Value → Option Addr → TS) (Wo : WX) (D : Ends) : WX := fun cls d σ H =>
  ∃ b, PySem.W.exmOne K cls c = some b ∧ (b = true → ∀ a, H a = none → ts a cls d { nx := fun σ1 H1 => D.nx (σ1.set i none) H1, rt := D.rt, bk := fun σ1 H1 => D.bk (σ1.set i none) H1, ct := fun σ1 H1 => D.ct (σ1.set i none) H1 } (σ.set i (some (.ref a))) (upd H a (exk a cls d))) ∧ (b = false → Wo cls d σ H)
section
variable {X : Cx} {x n : Str} {c : Value} {i : Nat} {body rest : List Stmt} {first : Stmt} {np pos pos2 : Pos} {tb : WX → TS} {ts : Addr → Value → Option Addr → TS} {Wo : WX}
/-- the suite's context and back, the exception no pin of it -/
theorem into_suite {pins : List (Addr × Obj)} {σ : L2.St} {H : Hp} {s : Shared} (I : Inv X pins σ H s) (a : Addr) : Inv (X.suite a (X.pn ++ pins)) [] σ H s where
  ok := I.ok.suite a (X.pn ++ pins)
  os := I.os
  bare := I.bare
  base := I.base
  loc := I.loc
  cell := I.cell
  free := I.free
  freeC := I.freeC
  pin := fun p hp => I.pin p (by rw [List.append_nil] at hp; exact hp)
  hok := I.hok
  len := I.len
theorem outof_suite {pins : List (Addr × Obj)} {σ : L2.St} {H : Hp} {s : Shared} {a : Addr} (I : Inv (X.suite a (X.pn ++ pins)) [] σ H s) (ok : X.Ok) : Inv X pins σ H s where
  ok := ok
  os := I.os
  bare := I.bare
  base := I.base
  loc := I.loc
  cell := I.cell
  free := I.free
  freeC := I.freeC
  pin := fun p hp => I.pin p (by rw [List.append_nil]; exact hp)
  hok := I.hok
  len := I.len
theorem ps_try_keep (hs : X.stack = X.env :: X.outer) (hf : X.env.frame = some X.env.locals) (hex : X.ex = []) (hN : X.N.Nodup) (hi : X.N[i]? = some n) (hln : X.env.kindOf n = some .local) (hc : Names X x c) (tk : Takes X Wo)
    (hb : ∀ (W : WX) (pn : List (Addr × Obj)) (xe : Value → Shared → Prop), Takes (X.tr pn xe) W → PassesOwn (model X.prog X.w) X.A X.env xe → PSs (X.tr pn xe) body (tb W))
    (hsu : ∀ (a : Addr) (cls : Value) (d : Option Addr) (pn : List (Addr × Obj)), PSs (X.suite a pn) (first :: rest) (ts a cls d)) :
    PS X (.Try body [.ExceptHandler (some (.Name x np)) (some n) (first :: rest) pos2] [] [] pos) (fun D σ H => tb (wKeep X.K c i ts Wo D) D σ H) := by
  refine ⟨fun pins s0 σ0 H0 D I0 wish => ?_⟩
  have okX := I0.ok
  have frX : X.A.frames = some (X.env :: X.outer) := by rw [okX.frames, hs]
  refine wpAny_Try_except ?_
  refine wpAny_mono ((hb (wKeep X.K c i ts Wo D) (X.pn ++ pins) (fun err z1 => wpAny (model X.prog X.w) X.A (noteFrame err X.env) (fun _ z2 => wpAny (model X.prog X.w) X.A (setFlight err none) (fun _ z3 =>
    wpAny (model X.prog X.w) X.A (handleBy err X.env [.ExceptHandler (some (.Name x np)) (some n) (first :: rest) pos2]) (SP X pins D) X.xe z3) X.xe z2) X.xe z1) (fun u t1 caught => ?_) PassesOwn.looking).run [] s0 σ0 H0 D (I0.toTry _) wish) (fun fl t1 sp => ?_) (fun err t1 z => z)
  · obtain ⟨a, B, sI, pins1, σ1, H1, cls, d, rfl, J', nb, up, sky, na, os, ag, b, hb1, yes, no⟩ := caught
    have J : Inv X pins σ1 H1 sI := J'.ofTry okX
    have skyX : Sky B (X.env :: X.outer) a (Zc cls d) X.env.locals t1.heap := by rw [← hs]; exact sky
    show wpAny (model X.prog X.w) X.A (noteFrame (.ref a) X.env) _ _ _
    refine Sky.land Zc.steady frX hf skyX fun k3 fl3 up3 => ?_
    have J3 : Inv X pins σ1 H1 { t1 with heap := k3 } := J.landed nb fl3.1 (up.trans up3) os ag
    obtain ⟨oe3, vs3, at3, z3, d3⟩ := fl3.there
    have offFr : a ∉ frs (X.env :: X.outer) := fun hm => by
      obtain ⟨_, ob, eb, nd⟩ := (fl3.2.2.1).mem hm
      rw [at3] at eb
      cases eb
      exact nd _ d3
    have nL : a ≠ X.env.locals := fun z => offFr (List.mem_filterMap.mpr ⟨X.env, List.mem_cons_self, by rw [hf, z]⟩)
    have nF : a ∉ X.fs := fun hm => by
      obtain ⟨e, he, q⟩ := List.mem_filterMap.mp hm
      exact offFr (List.mem_filterMap.mpr ⟨e, List.mem_cons_of_mem _ he, q⟩)
    -- nothing stood at a ahead of it
    have nB : B.get? a = none := fl3.2.1
    have nI : sI.heap.get? a = none := by
      cases z : sI.heap.get? a with
      | none => rfl
      | some u =>
        have q := nb a u z (by rw [hs]; exact offFr)
        rw [nB] at q
        cases q
    have n0 : X.s_0.heap.get? a = none := by
      cases z : X.s_0.heap.get? a with
      | none => rfl
      | some u =>
        obtain ⟨u2, q⟩ := J.base.there a u z (by rw [hex]; exact List.not_mem_nil)
        rw [nI] at q
        cases q
    have nc : ∀ y q, X.env.cells.lookup y = some q → q ≠ a := fun y q e z => by
      obtain ⟨v, ob, eb, _⟩ := J.cell y q e
      rw [z, nI] at eb
      cases eb
    have np' : ∀ p ∈ X.pn ++ pins, p.1 ≠ a := fun p hp z => by
      have q := (J.pin p hp).1
      rw [z, nI] at q
      cases q
    have S3 := J3.suite at3 d3 na nL nF
    refine wpAny_handleBy_cons (codeAny_handlers_test ?_) (by intro q; cases q)
    have seen : PySem.W.Looks (model X.prog X.w) k3 (typeOf (.ref a)) cls := fun A Q E s k q => wpAny_typeOf_ref (k _ _ at3) (by rw [z3.1]; exact q)
    have asked := PySem.W.exm_one (M := model X.prog X.w) (J3.kIn) seen hb1
    have named : ∀ {Q : Value → Shared → Prop} {E : Value → Shared → Prop}, Q c { t1 with heap := k3 } → wpAny (model X.prog X.w) (X.A.mark (some (.ref a))) (eval (.Name x np) X.env) Q E { t1 with heap := k3 } := fun {Q E} q => by
      obtain ⟨hg, hdb, hm | ⟨hm, hv, hnn⟩⟩ := hc
      · exact ld_glob (X := X.suite a ((a, oe3) :: (X.pn ++ pins))) S3 hg hm q hdb
      · exact ld_blt (X := X.suite a ((a, oe3) :: (X.pn ++ pins))) S3 hg hm hv q hnn hdb
    refine named (asked.here ?_)
    cases b with
    | true =>
      refine codeAny_handlers_suite_as ?_
      refine HandSPX.lands_againZ fl3 fun k4 fl4 up4 => ?_
      have J4 : Inv X pins σ1 H1 { t1 with heap := k4 } := J.landed nb fl4.1 ((up.trans up3).trans up4) os ag
      obtain ⟨oe4, vs4, at4, z4, d4⟩ := fl4.there
      have T4 : Inv X pins σ1 (upd H1 a (exk a cls d)) { t1 with heap := k4 } := track J4 na n0 nL nc np' (exk_ok at4 z4 d4)
      refine store_ok (X := X.suite a (X.pn ++ pins)) (v := .ref a) (into_suite T4 a) hN hi (.inl hln) rfl (fun t5 S5 => ?_) (.inr hln)
      refine wpAny_mono ((hsu a cls d (X.pn ++ pins)).run [] t5 _ _ _ S5 (yes rfl a na)) (fun fl t6 sp => ?_) (fun _ _ z => False.elim z)
      have leave : ∀ {σ6 : L2.St} {H6 : Hp} {Q : Shared → Prop}, Inv (X.suite a (X.pn ++ pins)) [] σ6 H6 t6 → (∀ t7, Inv X pins (σ6.set i none) H6 t7 → Q t7) →
          wpAny (model X.prog X.w) X.A (do bindName X.env n .none; unbindBehindTheSuite X.env n pos2) (fun _ t7 => Q t7) X.xe t6 := fun {σ6 H6 Q} S6 hq => gone_ok (outof_suite S6 okX) hN hi hln hq
      cases fl with
      | next =>
        obtain ⟨σ6, H6, S6, q6⟩ := sp
        exact leave S6 fun t7 J7 => ⟨_, _, J7, q6⟩
      | brk =>
        obtain ⟨σ6, H6, S6, q6⟩ := sp
        exact leave S6 fun t7 J7 => ⟨_, _, J7, q6⟩
      | cont =>
        obtain ⟨σ6, H6, S6, q6⟩ := sp
        exact leave S6 fun t7 J7 => ⟨_, _, J7, q6⟩
      | ret u =>
        obtain ⟨v6, σ6, H6, S6, r6, q6⟩ := sp
        exact leave S6 fun t7 J7 => ⟨_, _, _, J7, r6, q6⟩
    | false =>
      show wpAny _ X.A (handleBy (.ref a) X.env []) _ _ _
      refine wpAny_handleBy_nil ?_
      obtain ⟨k1, k2, k3', oe, vs, T, oT, ts', he, hz, hd, h1, hr⟩ := id fl3
      unfold PySem.passOn
      refine wpAny_bind (wpAny_field he hd h1 ?_)
      rw [if_neg (show ¬ ((Value.ref T == Value.none) = true) from by simp)]
      have on : wpAny (model X.prog X.w) X.A (setFlight (.ref a) X.env.frame) (fun _ t4 => wpAny (model X.prog X.w) X.A (throw (.ref a) : Sem Flow) (SP X pins D) X.xe t4) X.xe { t1 with heap := k3 } := by
        rw [hf]
        refine HandSPX.setFlight_upZ fl3 fun k4 hh4 up4 => wpAny_throw (tk _ _ ?_)
        exact ⟨a, B, sI, pins, σ1, H1, cls, d, rfl, J, nb, (up.trans up3).trans up4, .inr (.inr (by rw [hs]; exact hh4)), na, os, ag, no rfl⟩
      first
        | exact wpAny_bind (wpAny_pure (wpAny_bind on))
        | exact wpAny_bind on
  · cases fl with
    | next =>
      obtain ⟨σ2, H2, J2, q⟩ := sp
      exact wpAny_execs_nil ⟨σ2, H2, J2.ofTry okX, q⟩
    | brk =>
      obtain ⟨σ2, H2, J2, q⟩ := sp
      exact ⟨σ2, H2, J2.ofTry okX, q⟩
    | cont =>
      obtain ⟨σ2, H2, J2, q⟩ := sp
      exact ⟨σ2, H2, J2.ofTry okX, q⟩
    | ret u =>
      obtain ⟨v, σ2, H2, J2, r, q⟩ := sp
      exact ⟨v, σ2, H2, J2.ofTry okX, r, q⟩
end
/-! ### what was caught: its fields, its classes -/
/-- a caught exception of the own class at C stands at a, with these fields -/
def XKAt (H : Hp) (a C : Addr) (fs : List (Str × V)) : Prop := ∃ d, H a = some (exk a (.ref C) (some d)) ∧ H d = some (.xd fs)
theorem XKAt.ex {H H' : Hp} {a C : Addr} {fs : List (Str × V)} (h : XKAt H a C fs) (e : Evl.Ex H H') : XKAt H' a C fs := by
  obtain ⟨d, h1, h2⟩ := h
  exact ⟨d, e _ _ h1, e _ _ h2⟩
section
variable {X : Cx} {pins : List (Addr × Obj)} {σ : L2.St} {H : Hp} {s : Shared} {a C : Addr} {fs : List (Str × V)}
theorem XKAt.inst (I : Inv X pins σ H s) (h : XKAt H a C fs) : ∃ (ox od : Obj) (mA : Str → Option Value), PySem.W.InstAt s.heap a ox C (some od) ∧ (∀ m, PySem.W.lookIn m od = some (mA m)) ∧ ∀ f, RelO (fs.lookup f) (mA f) := by
  obtain ⟨d, h1, h2⟩ := h
  obtain ⟨⟨oe, vs, e, z, hv⟩, _⟩ := (show ObjOk X.prog X.w H s.heap a (exk a (.ref C) (some d)) from I.hok a _ h1)
  obtain ⟨mA, hns, hr⟩ := (show ObjOk X.prog X.w H s.heap d (.xd fs) from I.hok d _ h2)
  obtain ⟨od, ho, hl⟩ := lookIn_ns hns
  exact ⟨oe, od, mA, ⟨e, z.1, by unfold PySem.W.notCls; rw [hv] <;> rfl, by rw [z.2]; exact ho⟩, hl, hr⟩
/-- e.f of such -/
def tXfk (K : PySem.W.Frag) (f : Str) (te : TE) : TE := fun σ H Q => te σ H fun x H1 => ∃ (a C : Addr) (fs : List (Str × V)) (v : V), x = .ref a ∧ XCl K C ∧ PySem.W.findIn K (.ref C) f = some none ∧ XKAt H1 a C fs ∧ fs.lookup f = some v ∧ Q v H1
theorem pe_xfk {n : Str} {e : Expr} {te : TE} {pos : Pos} (he : PE X e te) (hb : attributeBase e n X.env (eval e X.env) = eval e X.env := by rfl) : PE X (.Attribute e n pos) (tXfk X.K n te) := by
  refine ⟨fun pins s σ H Q I h => ?_⟩
  refine attr_of hb (thn (he.run pins s σ H _ I h) fun u s1 ⟨x, H1, I1, rx, a, C, fs, v, ex, T, no, ha, l, q⟩ => ?_)
  subst ex
  obtain rfl : u = Value.ref a := rx
  obtain ⟨ox, od, mA, J, hl, hr⟩ := ha.inst I1
  obtain ⟨u, hu, ru⟩ := RelO.some_of (v := v) (o := mA n) (by rw [← l]; exact hr n)
  exact HandSPX.exc_get I1.kIn J T.xf.ga T.xf.gg T.xf.exC (PySem.W.findObj_own T.xf.hdC no rfl (by rw [hl, hu])) (handed_of ru) ⟨v, H1, I1.tok _, ru, q⟩
def rIsK (K : PySem.W.Frag) : List V → Hp → VK → Prop := fun xs H Q => ∃ (a C : Addr) (fs : List (Str × V)) (c : V) (u : Value) (b : Bool), xs = [.ref a, c] ∧ XCl K C ∧ XKAt H a C fs ∧ ClsV c u ∧ PySem.W.kitOne K (.ref C) u = some b ∧ Q (.bl b) H
def rIsKT (K : PySem.W.Frag) : List V → Hp → VK → Prop := fun xs H Q => ∃ (a C tp : Addr) (fs : List (Str × V)) (cs : List V) (us : List Value) (b : Bool), xs = [.ref a, .ref tp] ∧ XCl K C ∧ XKAt H a C fs ∧ H tp = some (.tup cs) ∧ Paired ClsV cs us ∧ PySem.W.kitAny K (.ref C) us = some b ∧ Q (.bl b) H
theorem call_isK : CallR X (.builtin "isinstance") (rIsK X.K) := by
  intro pins s σ H xs us Q I r h
  obtain ⟨a, C, fs, c, u, b, rfl, T, ha, k, e, q⟩ := h
  obtain ⟨u1, u2, rfl, r1, r2⟩ := vals2 r
  have e2 := k.eq r2
  subst e2
  cases (show u1 = Value.ref a from r1)
  obtain ⟨ox, od, mA, J, _⟩ := ha.inst I
  exact PySem.W.kia_one (XCl.kit (ox := ox) (od := some od) T) I.kIn J e (fun z => nomatch z) fun tk => ⟨.bl b, H, I.tok tk, rfl, q⟩
theorem call_isKT : CallR X (.builtin "isinstance") (rIsKT X.K) := by
  intro pins s σ H xs us Q I r h
  obtain ⟨a, C, tp, fs, cs, ws, b, rfl, T, ha, hT, k, e, q⟩ := h
  obtain ⟨u1, u2, rfl, r1, r2⟩ := vals2 r
  cases (show u2 = Value.ref tp from r2)
  cases (show u1 = Value.ref a from r1)
  obtain ⟨ox, od, mA, J, _⟩ := ha.inst I
  obtain ⟨_, its, rv, o, h1, h2, n, h3⟩ := (show ObjOk X.prog X.w H s.heap tp (.tup cs) from I.hok tp _ hT)
  have e3 := ClsV.all k rv
  subst e3
  obtain ⟨oc, od2, dt, sl⟩ := o
  simp only at h2 h3
  subst h2 h3
  exact PySem.W.kia_tup (XCl.kit (ox := ox) (od := some od) T) I.kIn J h1 e (fun z => nomatch z) fun tk => ⟨.bl b, H, I.tok tk, rfl, q⟩
/-- one rule or the other -/
theorem CallR.or2 {f : Value} {r1 r2 : List V → Hp → VK → Prop} (h1 : CallR X f r1) (h2 : CallR X f r2) : CallR X f (fun xs H Q => r1 xs H Q ∨ r2 xs H Q) := fun pins s σ H xs us Q I r h => h.elim (h1 pins s σ H xs us Q I r) (h2 pins s σ H xs us Q I r)
end
/-! ### raise C(..), the class with an own __init__ -/
theorem s_raise {C : Addr} {fs : List Str} {t : TA} {σ : L2.St} {H : Hp} {vs : List V} {Q : XK} (h : Evl.EvA t σ H vs) (hl : vs.length = fs.length) (hz : vs.length ≤ 1000)
    (k : ∀ d H2, Evl.Ex H H2 → H2 d = some (.xd (fs.zip vs).reverse) → Q (.ref C) (some d) H2) : tMkO C (spInitX C fs) [] t σ H Q :=
  h H (Evl.Ex.refl H) _ fun H1 e1 => ⟨hz, fun a ha => by
    refine ⟨a, vs, by rw [List.append_nil], hl, upd_same, fun d H' hd hne ea ed keep => ⟨rfl, d, _, ea, ed, ?_, k d _ (fun b o hb => ?_) upd_same⟩⟩
    · rw [upd_ne hne] at hd
      exact hd
    · have hb1 := e1 _ _ hb
      have nba : b ≠ a := ne_of_none hb1 ha
      have hb2 : upd H1 a (exo a C none) b = some o := by
        rw [upd_ne nba]
        exact hb1
      rw [upd_ne (ne_of_none hb2 hd)]
      show (if b = a then none else H' b) = some o
      rw [if_neg nba]
      exact keep b o hb2 nba⟩
end He
set_option Elab.async false
set_option linter.all false
set_option maxRecDepth 100000
set_option maxHeartbeats 4000000
set_option autoImplicit false
namespace K82
open PySem PySem.Spec PyProof.Rows L2 He Evl
section
variable {P : Program} {w : World} {K : PySem.W.Frag} {mg : Str → Option Value} {base : Heap} {X : Cx} {m : Nat} {e : Expr} {es : List Expr} {kws : List Keyword} {t : TA} {p pos : Pos}
theorem isFn_type {v : Value} (h : PySem.W.isFn K v = true) : PySem.W.typeIn K v = some (.type "function") := by
  unfold PySem.W.isFn at h
  exact eq_of_beq h
theorem mem_SignError : (("SignError", [], []) : Str × List Str × List Str) ∈ excs := List.mem_of_getElem? (i := 0) rfl
theorem xc_SignError (T : Tx K mg) : XCl K (ga K "SignError") := (excsB_cl T.xs mem_SignError).1
theorem x0_SignError (T : Tx X.K X.mg) (hr : Room m X.A) (hg : Gl X "SignError" := by rfl) : PE X (.Call (.Name "SignError" p) [] [] pos) (fun _ H Q => ∀ a, H a = none → Q (.ref a) (upd H a (exo a (ga X.K "SignError") none))) :=
  pe_xmk0 F.excBase_ValueError (exc_ok T.e_SignError).1 (xc_SignError T).oex.kC hg T.g_SignError
theorem mem_BadWord : (("BadWord", ["SignError"], ["part"]) : Str × List Str × List Str) ∈ excs := List.mem_of_getElem? (i := 1) rfl
theorem xc_BadWord (T : Tx K mg) : XCl K (ga K "BadWord") := (excsB_cl T.xs mem_BadWord).1
theorem nf_BadWord_part (T : Tx K mg) : PySem.W.findIn K (.ref (ga K "BadWord")) "part" = some none := (excsB_cl T.xs mem_BadWord).2.1 "part" (by simp)
theorem b_BadWord_init (T : Tx K mg) : Binds K (fdOf K ("BadWord", some "__init__")) ["self", "part"] [] := T.f_BadWord_init.bindsN fun _ _ _ _ _ _ us hl => match us, hl with | [_, _], _ => rfl
theorem ok_BadWord_init (T : Tx K mg) : FnOk P w K mg base CX0 1 (ma K (ga K "BadWord") "__init__") (fdOf K ("BadWord", some "__init__")) ["self", "part"] (spInitX (ga K "BadWord") ["part"]) := by
  refine T.f_BadWord_init.ok sc_BadWord_init (fun vs H Q E h => spInit_len h) (fun cdv A outer s H vs Q E hr h => ?_)
  exact ⟨_, PSs.nox (pss_one (ps_ost (pv 0) (pv 1))), init1o rfl (xc_BadWord T) (nf_BadWord_part T) h⟩
theorem xi_BadWord (T : Tx K mg) : XIn K (ga K "BadWord") (ma K (ga K "BadWord") "__init__") ["part"] := ⟨xc_BadWord T, T.m_BadWord.at_, isFn_type T.m_BadWord.fn, (excsB_cl T.xs mem_BadWord).2.1⟩
theorem xm_BadWord (T : Tx X.K X.mg) (hr : Room m X.A) (ha : PA X (e :: es) t) (hm : 2 ≤ m := by decide) (hg : Gl X "BadWord" := by rfl) (he : starEach (e :: es) X.env = (false, eval e X.env) :: starEach es X.env := by rfl) (hpl : (backTo pos (starEach es X.env)).any (·.1) = false := by rfl) :
    PE X (.Call (.Name "BadWord" p) (e :: es) [] pos) (tXmk (ga X.K "BadWord") ["part"] t) := pe_xmk (sc := default) (qual := "") (pa := default) (bd := []) (xi_BadWord T) (ok_BadWord_init T) (b_BadWord_init T) (by decide) (hr.mono hm) hg T.g_BadWord ha (by decide) he hpl
theorem xr_BadWord {W : WX} {pos2 : Pos} (T : Tx X.K X.mg) (hr : Room m X.A) (tk : Takes X W) (ha : PA X (e :: es) t) (hm : 2 ≤ m := by decide) (hc : X.calm = true := by rfl) (hg : Gl X "BadWord" := by rfl) (he : starEach (e :: es) X.env = (false, eval e X.env) :: starEach es X.env := by rfl) (hpl : (backTo pos (starEach es X.env)).any (·.1) = false := by rfl) :
    PS X (.Raise (some (.Call (.Name "BadWord" p) (e :: es) [] pos)) none pos2) (fun _ σ H => tMkO (ga X.K "BadWord") (spInitX (ga X.K "BadWord") ["part"]) [] t σ H fun cls d H' => W cls d σ H') := ps_raise hc tk (pmk_oex (xc_BadWord T).oex (xi_BadWord T).init (xi_BadWord T).tI (ok_BadWord_init T) (hr.mono hm) (b_BadWord_init T) .nil pass0 hg T.g_BadWord ha (by decide) he hpl)
theorem mem_TooMany : (("TooMany", ["SignError"], ["what", "most"]) : Str × List Str × List Str) ∈ excs := List.mem_of_getElem? (i := 2) rfl
theorem xc_TooMany (T : Tx K mg) : XCl K (ga K "TooMany") := (excsB_cl T.xs mem_TooMany).1
theorem nf_TooMany_what (T : Tx K mg) : PySem.W.findIn K (.ref (ga K "TooMany")) "what" = some none := (excsB_cl T.xs mem_TooMany).2.1 "what" (by simp)
theorem nf_TooMany_most (T : Tx K mg) : PySem.W.findIn K (.ref (ga K "TooMany")) "most" = some none := (excsB_cl T.xs mem_TooMany).2.1 "most" (by simp)
theorem b_TooMany_init (T : Tx K mg) : Binds K (fdOf K ("TooMany", some "__init__")) ["self", "what", "most"] [] := T.f_TooMany_init.bindsN fun _ _ _ _ _ _ us hl => match us, hl with | [_, _, _], _ => rfl
theorem ok_TooMany_init (T : Tx K mg) : FnOk P w K mg base CX0 1 (ma K (ga K "TooMany") "__init__") (fdOf K ("TooMany", some "__init__")) ["self", "what", "most"] (spInitX (ga K "TooMany") ["what", "most"]) := by
  refine T.f_TooMany_init.ok sc_TooMany_init (fun vs H Q E h => spInit_len h) (fun cdv A outer s H vs Q E hr h => ?_)
  exact ⟨_, PSs.nox (pss_cons (ps_ost (pv 0) (pv 1)) (pss_one (ps_ost (pv 0) (pv 2)))), init2 rfl (xc_TooMany T) (nf_TooMany_what T) (nf_TooMany_most T) h⟩
theorem xi_TooMany (T : Tx K mg) : XIn K (ga K "TooMany") (ma K (ga K "TooMany") "__init__") ["what", "most"] := ⟨xc_TooMany T, T.m_TooMany.at_, isFn_type T.m_TooMany.fn, (excsB_cl T.xs mem_TooMany).2.1⟩
theorem xm_TooMany (T : Tx X.K X.mg) (hr : Room m X.A) (ha : PA X (e :: es) t) (hm : 2 ≤ m := by decide) (hg : Gl X "TooMany" := by rfl) (he : starEach (e :: es) X.env = (false, eval e X.env) :: starEach es X.env := by rfl) (hpl : (backTo pos (starEach es X.env)).any (·.1) = false := by rfl) :
    PE X (.Call (.Name "TooMany" p) (e :: es) [] pos) (tXmk (ga X.K "TooMany") ["what", "most"] t) := pe_xmk (sc := default) (qual := "") (pa := default) (bd := []) (xi_TooMany T) (ok_TooMany_init T) (b_TooMany_init T) (by decide) (hr.mono hm) hg T.g_TooMany ha (by decide) he hpl
theorem xr_TooMany {W : WX} {pos2 : Pos} (T : Tx X.K X.mg) (hr : Room m X.A) (tk : Takes X W) (ha : PA X (e :: es) t) (hm : 2 ≤ m := by decide) (hc : X.calm = true := by rfl) (hg : Gl X "TooMany" := by rfl) (he : starEach (e :: es) X.env = (false, eval e X.env) :: starEach es X.env := by rfl) (hpl : (backTo pos (starEach es X.env)).any (·.1) = false := by rfl) :
    PS X (.Raise (some (.Call (.Name "TooMany" p) (e :: es) [] pos)) none pos2) (fun _ σ H => tMkO (ga X.K "TooMany") (spInitX (ga X.K "TooMany") ["what", "most"]) [] t σ H fun cls d H' => W cls d σ H') := ps_raise hc tk (pmk_oex (xc_TooMany T).oex (xi_TooMany T).init (xi_TooMany T).tI (ok_TooMany_init T) (hr.mono hm) (b_TooMany_init T) .nil pass0 hg T.g_TooMany ha (by decide) he hpl)
end
end K82
set_option Elab.async false
set_option linter.all false
set_option maxRecDepth 100000
set_option maxHeartbeats 4000000
set_option autoImplicit false
/-! Lambdas without parameters that are kept (in a list, say) and called later by a def that is handed one. -/
namespace Lam
open PySem PySem.Spec PyProof.Rows L2 LamX NdefX
/-- a lambda that was made: its words, the cells that it holds, its code object -/
structure LD where
  qual : Str
  params : Arguments
  body : Expr
  scope : Scope
  cl : List (Str × Addr)
  c : Addr
abbrev LD.fd (D : LD) (pm ctv : Value) : FuncData := PySem.W.kla_fn "<lambda>" D.qual D.params D.body D.scope D.cl pm (.ref D.c) ctv
/-- the object at f is this lambda -/
def LamO (f : Addr) (D : LD) : HO := .ext fun h => ∃ (u : Option Addr) (sl : Array (Option Value)) (pm ctv : Value), h.get? f = some (⟨.type "function", u, .func (D.fd pm ctv), sl⟩ : Obj)
theorem lamO_tbl {f : Addr} {D : LD} (ps : Array Value) : LamO f D ≠ .tbl ps := fun z => by
  unfold LamO at z
  cases z
theorem lamO_at {P : Program} {w : World} {H : Hp} {h : Heap} {f : Addr} {D : LD} (hk : HOk P w H h) (e : H f = some (LamO f D)) : ∃ (u : Option Addr) (sl : Array (Option Value)) (pm ctv : Value), h.get? f = some (⟨.type "function", u, .func (D.fd pm ctv), sl⟩ : Obj) := (hk f _ e).1
theorem lamO_fnAt {P : Program} {w : World} {H : Hp} {h : Heap} {f : Addr} {D : LD} (hk : HOk P w H h) (e : H f = some (LamO f D)) : PySem.W.FnAt f h :=
  let ⟨_, sl, _, _, z⟩ := lamO_at hk e
  ⟨_, _, _, sl, z⟩
section
variable {X : Cx} {pins : List (Addr × Obj)} {σ : L2.St} {H : Hp} {s : Shared}
/-- the function object of a lambda is laid behind all others, and known -/
theorem inv_lam {D : LD} {g : Heap} {t u : Nat} {pm ctv : Value} (J : Inv X pins σ H { s with heap := g, toks := t }) :
    Inv X pins σ (upd H g.objs.size (LamO g.objs.size D)) { s with heap := g.push { cls := .type "function", data := .func (D.fd pm ctv) }, toks := u } := by
  have at_ : (g.push ({ cls := .type "function", data := .func (D.fd pm ctv) } : Obj)).get? g.objs.size = some ⟨.type "function", none, .func (D.fd pm ctv), #[]⟩ := Heap.get?_push_size _ rfl
  exact Inv.laid (s := { s with heap := g, toks := t }) J (fun b o z => Heap.get?_push_of_some _ z) (Nat.le_refl g.objs.size)
    ⟨⟨none, #[], pm, ctv, at_⟩, ⟨_, at_⟩, fun h1 h2 ⟨u1, u2, u3, u4, z⟩ keep => ⟨u1, u2, u3, u4, keep _ z⟩⟩
/-- what the lambda leaves: itself and its code object known, all else but tables as it was -/
structure Made (T : List (Addr × Str)) (H : Hp) (f : Addr) (D : LD) (H' : Hp) : Prop where
  ext : ExtN H H'
  back : ∀ b, H' b = none → H b = none
  tabs : Tabs T H'
  new : H f = none
  fn : H' f = some (LamO f D)
  code : H' D.c = some (CodeO D.c D.qual)
def tLamM (T : List (Addr × Str)) (mk : Addr → LD) : TE := fun _ H Q => Tabs T H ∧ ∀ (f c' : Addr) (H' : Hp), Made T H f (mk c') H' → Q (.ref f) H'
theorem upd_tbl {H : Hp} {P a : Addr} {ps : Array Value} {o : HO} (hP : H P = some (.tbl ps)) (n : H a = none) : ∀ b u, H b = some u → (∀ q, u ≠ .tbl q) → ∀ o', upd (upd H P o') a o b = some u := fun b u e k o' => by
  rw [upd_ne (ne_of_none e n), upd_ne (fun z => by rw [z, hP] at e; exact k ps (Option.some.inj e).symm)]
  exact e
theorem pe_lam {T : List (Addr × Str)} {q : Str} {c P : Addr} {params : Arguments} {body : Expr} {scope : Scope} {pos : Pos} (B : TabB X.base X.mg c P) (hc : X.env.code = .ref c) (hq : q = X.env.qual ++ "<lambda>") (hm : (P, q) ∈ T) (one : ∀ p ∈ T, p.1 = P → p.2 = q)
    (S : LamS X.env.scope scope) (hd : defaultsOf params X.env = ([], [])) : PE X (.Lambda params body scope pos) (tLamM T fun c' => ⟨q, params, body, scope, cloFrom X.env.cells scope.names [], c'⟩) := by
  subst hq
  refine ⟨fun pins s σ H Q I ⟨hT, k⟩ => PySem.W.kla_eval hd ?_⟩
  obtain ⟨ps, tP, tOk, among⟩ := hT _ hm
  have cl_ := closure_ok (S.has I.ok)
  have gl_ := I.mod.glob.keeps I.bk
  have cd_ := B.code.keeps I.bk
  have hP_ : s.heap.get? P = some { cls := .none, data := .fields ps } := I.hok P _ tP
  have bm_ : s.heap.BuiltinsAt X.mg P := B.bm.keeps I.bk
  have done : ∀ (g : Heap) (t u : Nat) (ctv : Value) (c' : Addr) (H1 : Hp), Inv X pins σ H1 { s with heap := g, toks := t } → ExtN H H1 → (∀ b, H1 b = none → H b = none) → Tabs T H1 → H1 c' = some (CodeO c' (X.env.qual ++ "<lambda>")) → c' ≠ g.objs.size →
      EP X pins σ Q (.ref g.objs.size) { s with heap := g.push (PySem.W.kla_obj "<lambda>" (X.env.qual ++ "<lambda>") params body scope (cloFrom X.env.cells scope.names []) ((X.mg "__name__").getD .none) c' ctv), toks := u } := by
    intro g t u ctv c' H1 J eN nn T1 hco ne
    have fr : H1 g.objs.size = none := J.hok.fresh (Nat.le_refl _)
    have up : ∀ b o, H1 b = some o → upd H1 g.objs.size (LamO g.objs.size ⟨X.env.qual ++ "<lambda>", params, body, scope, cloFrom X.env.cells scope.names [], c'⟩) b = some o := fun b o e => by
      rw [upd_ne (ne_of_none e fr)]
      exact e
    refine ⟨.ref g.objs.size, _, inv_lam (D := ⟨X.env.qual ++ "<lambda>", params, body, scope, cloFrom X.env.cells scope.names [], c'⟩) (u := u) (pm := (X.mg "__name__").getD .none) (ctv := ctv) J, rfl, k _ c' _ ⟨fun b o e n => up b o (eN b o e n), fun b e => nn b (upd_none e), T1.ext up, nn _ fr, upd_same, up _ _ hco⟩⟩
  cases seen : codeAmong pos ps.toList with
  | some cv =>
    obtain ⟨c', rfl, hco⟩ := among pos cv seen
    refine PySem.W.kla_makeFunctionHit (mg := X.mg) (c := c) (P := P) (ps := ps) cl_ I.ok.glob gl_ hc cd_ hP_ tOk seen bm_ fun ctv g tk keep sz => ?_
    have J : Inv X pins σ H { s with heap := g, toks := tk } := I.kept keep
    exact done g tk tk ctv c' H J (ExtN.refl H) (fun _ e => e) hT hco (fun z => by
      have l := J.hok.fresh (Nat.le_refl g.objs.size)
      rw [← z, hco] at l
      cases l)
  | none =>
    refine PySem.W.kla_makeFunction (mg := X.mg) (c := c) (P := P) (ps := ps) cl_ I.ok.glob gl_ hc cd_ hP_ tOk seen B.gP bm_ fun c' ctv g tk keep lo hi rec_ tb_ => ?_
    obtain ⟨_, oc, vs, tt, ec, o1, o2, o3⟩ := rec_
    cases ec
    have nC : H c' = none := I.hok.fresh lo
    have J := inv_table (t' := tk) (more := #[rawInt pos.line, rawInt pos.col, .ref c']) (h' := g) I tP (fun b o nb e => keep b o nb e) tb_ lo ⟨oc, vs, tt, o1, o2, o3⟩
    have eN : ExtN H (upd (upd H P (.tbl (ps ++ #[rawInt pos.line, rawInt pos.col, .ref c']))) c' (CodeO c' (X.env.qual ++ "<lambda>"))) := fun b u e n => upd_tbl tP nC b u e n _
    have ls : (ps ++ #[rawInt pos.line, rawInt pos.col, .ref c']).toList = ps.toList ++ [rawInt pos.line, rawInt pos.col, .ref c'] := by simp
    refine done g tk tk ctv c' _ J eN (fun b e => upd_none (upd_none e)) (fun p hp => ?_) upd_same (Nat.ne_of_lt hi)
    by_cases at_ : p.1 = P
    · rw [one p hp at_, at_]
      refine ⟨_, (upd_ne (ne_of_none tP nC)).trans upd_same, by rw [ls]; exact TriplesOk_snoc _ _ _ _ tOk, fun p2 v2 h2 => ?_⟩
      rw [ls] at h2
      rcases among_app _ tOk h2 with z | z
      · obtain ⟨c0, e1, e2⟩ := among p2 v2 z
        exact ⟨c0, e1, eN _ _ e2 codeO_ne⟩
      · exact ⟨c', z, upd_same⟩
    · obtain ⟨pz, a1, a2, a3⟩ := hT p hp
      refine ⟨pz, (upd_ne (ne_of_none a1 nC)).trans ((upd_ne at_).trans a1), a2, fun p2 v2 h2 => ?_⟩
      obtain ⟨c0, e1, e2⟩ := a3 p2 v2 h2
      exact ⟨c0, e1, eN _ _ e2 codeO_ne⟩
end
end Lam
set_option Elab.async false
set_option linter.all false
set_option maxRecDepth 100000
set_option maxHeartbeats 4000000
set_option autoImplicit false
/-! Lambdas: what a call of one promises; a call of one by a def that was handed it. -/
namespace Lam
open PySem PySem.Spec PyProof.Rows L2 LamX NdefX
/-- the words of a lambda, as those of a def that was made within -/
abbrev LD.nf (D : LD) : NF := ⟨"<lambda>", D.qual, D.params, [], D.scope, D.cl, D.c⟩
/-- what a lambda's call wants: what its cells hold, the heap, the answer's wish, the exception's -/
abbrev LSp := List (Option V) → Hp → VK → XK → Prop
/-- the promise of the lambda D at f -/
def LamOk (CX : CXT) (P : Program) (w : World) (K : PySem.W.Frag) (mg : Str → Option Value) (base : Heap) (k : Nat) (f : Addr) (D : LD) (fr : List Str) (sp : LSp) : Prop :=
  ∀ (A : Around) (outer : List Env) (s : Shared) (H : Hp) (ws : List (Option V)) (Q : VK) (E : XK), Room k A → Env0 P w K mg base A outer s H → H f = some (LamO f D) → H D.c = some (CodeO D.c D.qual) → CellsAt D.cl fr ws s.heap H → sp ws H Q E →
    codeAny (model P w) A (.call (.ref f) ⟨[], []⟩) (CR CX outer P w H s Q E) s
section
variable {CX : CXT} {P : Program} {w : World} {K : PySem.W.Frag} {mg : Str → Option Value} {base : Heap} {N fr : List Str} {D : LD} {f : Addr} {k j : Nat} {sp : LSp}
theorem LamOk.mono (o : LamOk CX P w K mg base j f D fr sp) (h : j ≤ k) : LamOk CX P w K mg base k f D fr sp := fun A outer s H ws Q E hr => o A outer s H ws Q E (hr.mono h)
theorem lamOk_of (S : NScope N [] fr D.scope) (hb : ∀ pm ctv : Value, bindArgs (D.fd pm ctv) ⟨[], []⟩ = pure [])
    (body : ∀ (A : Around) (outer : List Env) (s : Shared) (H : Hp) (ws : List (Option V)) (Q : VK) (E : XK), Room k (A.deeper (envF D.nf f s.heap.objs.size)) → ws.length = fr.length → sp ws H Q E →
      ∃ t, PE (ncx CX P w K mg base N D.nf f A outer s H E) D.body t ∧ t (startF N [] ws) H Q) : LamOk CX P w K mg base (k + 1) f D fr sp := by
  intro A outer s H ws Q E hr e0 hf hc C want
  obtain ⟨u, sl, pm, ctv, at_⟩ := lamO_at e0.hok hf
  have free_ : s.heap.NoLimit := e0.mod.nolimit.keeps fun b o e => (e0.bs b o e).1
  refine PySem.W.kla_callFunE hr.depth at_ rfl S.co S.gen rfl (codeO_at e0.hok hc) ?_
  rw [hb pm ctv]
  refine wpAny_pure (wpAny_newFunctionEnv S.nocell (fun y hy => absurd hy List.not_mem_nil) (fun g ns sb => ⟨free_.fresh _ sb, ?_⟩) S.kind)
  show codeAny _ _ (.expr D.body (envF D.nf f s.heap.objs.size)) _ _
  have kept : ∀ b o, s.heap.get? b = some o → g.get? b = some o := fun b o e => sb.extBut b o (Nat.ne_of_lt (Heap.lt_size e)) (Heap.get?_push_of_some _ e)
  obtain ⟨t, pe, ht⟩ := body A outer s H ws Q E (hr.deeper _) C.len want
  have J : Inv (ncx CX P w K mg base N D.nf f A outer s H E) [] (startF N [] ws) H { s with heap := g, toks := s.toks + ([] : List (Str × Value)).length } :=
    inv_startN (F := D.nf) (ps := []) (us := []) (vs := []) S hr.hd e0 rfl .nil C ns kept
  exact PySem.W.kla_codeExpr (wpAny_mono (pe.run [] _ _ H Q J ht) (fun v s' ⟨y, H', J', rv, q⟩ => ⟨y, H', J'.os, J'.bare, J'.base, J'.hok, rv, q⟩) fun e s' z => z)
end
/-- what cells hold stays while all that is untracked stays -/
theorem cells_un {fs ex : List Addr} {H H' : Hp} {h h' : Heap} {cl : List (Str × Addr)} {fr : List Str} {ws : List (Option V)} (C : CellsAt cl fr ws h H) (u : Un fs ex H H' h h') (out : ∀ y c, cl.lookup y = some c → c ∉ ex) : CellsAt cl fr ws h' H' where
  len := C.len
  inj := C.inj
  all := fun y c e => by
    obtain ⟨n, v, o, e1, e2⟩ := C.all y c e
    obtain ⟨sl, z⟩ := u.any e1 n (out y c e)
    exact ⟨u.free c o e1 n (out y c e), v, _, z, e2⟩
  has := fun i y e => by
    obtain ⟨c, hc, hv⟩ := C.has i y e
    refine ⟨c, hc, fun v ev => ?_⟩
    obtain ⟨x, r, o, e1, e2⟩ := hv v ev
    obtain ⟨sl, z⟩ := u.any e1 (C.all y c hc).1 (out y c hc)
    exact ⟨x, r, _, z, e2⟩
/-- f may be called in all states that come of (s, H) by defs that run behind the frames fs -/
def ActAt (CX : CXT) (P : Program) (w : World) (K : PySem.W.Frag) (mg : Str → Option Value) (base : Heap) (k : Nat) (fs : List Addr) (s : Shared) (H : Hp) (f : Addr) (tl : XK → Hp → VK → Prop) : Prop :=
  ∀ (A : Around) (outer : List Env) (s' : Shared) (H' : Hp) (Q : VK) (E : XK), Room k A → Env0 P w K mg base A outer s' H' → Un fs [] H H' s.heap s'.heap → tl E H' Q → codeAny (model P w) A (.call (.ref f) ⟨[], []⟩) (CR CX outer P w H' s' Q E) s'
/-- what a lambda's call reads -/
def tlOf (f : Addr) (D : LD) (ws : List (Option V)) (sp : LSp) : XK → Hp → VK → Prop := fun E H Q => H f = some (LamO f D) ∧ H D.c = some (CodeO D.c D.qual) ∧ sp ws H Q E
theorem act_of {CX : CXT} {P : Program} {w : World} {K : PySem.W.Frag} {mg : Str → Option Value} {base : Heap} {k : Nat} {fs : List Addr} {s : Shared} {H : Hp} {f : Addr} {D : LD} {fr : List Str} {ws : List (Option V)} {sp : LSp}
    (o : LamOk CX P w K mg base k f D fr sp) (C : CellsAt D.cl fr ws s.heap H) : ActAt CX P w K mg base k fs s H f (tlOf f D ws sp) :=
  fun A outer s' H' Q E hr e0 u ⟨h1, h2, h3⟩ => o A outer s' H' ws Q E hr e0 h1 h2 (cells_un C u fun _ _ _ => List.not_mem_nil) h3
section
variable {X : Cx} {CX : CXT} {k i : Nat} {f : Addr} {E : XK} {tl : XK → Hp → VK → Prop} {x : Str} {p pos : Pos}
/-- x(), x a name that holds f -/
theorem pe_act0 (hex : X.ex = []) (act : ActAt CX X.prog X.w X.K X.mg X.base k X.fs X.s_0 X.H_0 f tl) (hr : Room k X.A) (hx : Passes CX X E) (hN : X.N[i]? = some x) (hv : Vis X.env.scope x)
    (hd : (x == ("__debug__" : Str)) = false := by decide) (hcd : (x == ("__classdict__" : Str)) = false := by decide) :
    PE X (.Call (.Name x p) [] [] pos) (fun σ H Q => σ[i]? = some (some (.ref f)) ∧ (∃ D, H f = some (LamO f D)) ∧ tl E H Q) := by
  refine ⟨fun pins s σ H Q I ⟨hs, ⟨D, hf⟩, want⟩ => ?_⟩
  refine wpAny_Call_Name_kw (thn ((pe_var (pos := p) hN hv hd hcd).run pins s σ H (fun v H1 => v = .ref f ∧ H1 = H) I ⟨.ref f, hs, rfl, rfl⟩) fun u s1 ⟨v, H1, J, r, ev, eH⟩ => ?_)
  subst ev eH
  obtain rfl : u = Value.ref f := r
  refine PySem.W.callWith_F0 (first := []) (lamO_fnAt J.hok hf) (wpAny_call (codeAny_mono (act X.A X.stack s1 H1 Q E hr J.env0 (hex ▸ J.base) want) fun r s2 z => ?_))
  cases r with
  | error e => exact hx pins σ H1 s1 e s2 J z
  | ok fl =>
    cases fl with
    | ret u => exact J.after z
    | next => exact z.elim
    | brk => exact z.elim
    | cont => exact z.elim
end
end Lam
set_option Elab.async false
set_option linter.all false
set_option maxRecDepth 100000
set_option maxHeartbeats 4000000
set_option autoImplicit false
/-! A list comprehension whose test or element leans on what the cells of the def around hold: the block's rules may ask the state in which the block began. -/
namespace Lam
open PySem PySem.Spec PyProof.Rows L2 LamX NdefX
/-- the block began at (s, H), which the def around left in order; fp: the iterator's objects -/
structure From (X : Cx) (pins : List (Addr × Obj)) (σ : L2.St) (fp : List Addr) (s : Shared) (H : Hp) : Prop where
  inv : Inv X pins σ H s
  off : ∀ b ∈ fp, FpOk X pins H b
/-- in such a block the cells of the def around hold what they held -/
theorem From.cells {X : Cx} {pins pins' : List (Addr × Obj)} {σ σ' : L2.St} {fp : List Addr} {s s' : Shared} {H H' : Hp} {scope : Scope} {env : Env} {cl : List (Str × Addr)} {fr : List Str} {js : List Nat} (F : From X pins σ fp s H) (c : Caps X cl fr js)
    (J : Inv (X.blk s H scope env fp) pins' σ' H' s') : CellsAt cl fr (js.map (slotAt σ)) s'.heap H' :=
  cells_un (cells_of F.inv c) J.base fun y a e hx => (F.off a hx).2.2.2.2.1 y a (c.sub y a e) rfl
section
variable {X : Cx} {elt tg iter : Expr} {ifs : List Expr} {scope : Scope} {own : List (Str × Nat)} {wi : TI} {g : TG} {tt : TT} {te : TE}
/-- rules of the block, for the state in which it begins -/
abbrev BlkI (X : Cx) (pins : List (Addr × Obj)) (σ : L2.St) (scope : Scope) (R : Cx → Prop) : Prop :=
  ∀ (s : Shared) (H : Hp) (C : Addr) (cl : List (Str × Addr)) (fp : List Addr), From X pins σ fp s H → R (X.blk s H scope (compEnvC scope cl C X.env) fp)
theorem lcI_run {pins : List (Addr × Obj)} {s : Shared} {σ : L2.St} {H : Hp} {Q : VK} {pos at_ : Pos} {use : Option (Value → Sem Unit)} {G : Value → Shared → Prop} (calm : X.calm = true) (nd : X.N.Nodup) (I : Inv X pins σ H s) (walk : PI X tg iter wi) (blk : BlkOk X.N X.env.scope scope own)
    (rg : BlkI X pins σ scope fun Z => PG Z tg g) (rt : BlkI X pins σ scope fun Z => PTs Z ifs tt) (re : BlkI X pins σ scope fun Z => PE Z elt te) (nofold : ∀ x, foldedSetIterable iter X.env x = pure x) (want : tLc wi g tt te (own.map (·.2)) σ H Q)
    (leave : ∀ D C z m K, Inv X pins σ K z → Q (.ref D) K → z.heap.Ns C m → FpOk X pins K C → compPost (model X.prog X.w) X.A X.xe use G (.ref D) C (.ok .next) z) :
    wpAny (model X.prog X.w) X.A (comprehension (.ListComp elt [⟨tg, iter, ifs, 0⟩] scope pos) scope X.env at_ (newList []) false (eval iter X.env) use) G X.xe s := by
  have caught : ∀ y ∈ scope.names, y.2 = .free → ∃ a, X.env.cells.lookup y.1 = some a := fun y m e =>
    (blk.free y m e).elim (fun k => I.ok.has _ (.inl k)) (fun k => I.ok.has _ (.inr k))
  refine wpAny_comprehension_free (use := use) rfl nofold (closure_ok caught) blk.kind (fun y m e => (blk.uniq y m).trans (congrArg some e))
    (thn (walk.run pins s σ H _ I want) fun v z1 c1 => thn c1 fun u z2 ⟨it, fp, tn, J, K2, eu, I2, T, t2, off2, want2⟩ => ?_)
  subst eu
  refine wpAny_newObj_type (newEnv_comp ?_) (by show 0 ≤ sizeLine; decide)
  obtain ⟨D, eD⟩ : ∃ D, D = z2.heap.objs.size := ⟨_, rfl⟩
  rw [← eD]
  have nD : K2 D = none := I2.hok.fresh (Nat.le_of_eq eD.symm)
  obtain ⟨W, ⟨m0, w0⟩, turn⟩ := want2 D nD
  obtain ⟨z3, e3⟩ : ∃ z3 : Shared, z3 = { z2 with heap := z2.heap.push { cls := .type "list", data := .seq ([] : List Value).toArray } } := ⟨_, rfl⟩
  rw [← e3]
  have up3 : ∀ b o, z2.heap.get? b = some o → z3.heap.get? b = some o := fun b o e => by
    rw [e3]
    exact Heap.get?_push_of_some _ e
  have I3 : Inv X pins σ (upd K2 D (.lst [])) z3 := by
    subst e3 eD
    exact Inv.laid (t' := z2.toks) I2 (fun b o e => Heap.get?_push_of_some _ e) (Nat.le_refl _) ⟨Nat.zero_le _, [], 0, .nil, Heap.get?_push_size _ rfl⟩
  have young : ∀ b ∈ fp, b < z2.heap.objs.size := fun b m => let ⟨_, e, _⟩ := T.obj _ _ t2 b m; Heap.lt_size e
  have off3 : ∀ b ∈ fp, FpOk X pins (upd K2 D (.lst [])) b ∧ b < z3.heap.objs.size := fun b m => by
    have l := young b m
    refine ⟨⟨(upd_ne (by rw [eD]; exact Nat.ne_of_lt l)).trans (off2 b m).1, (off2 b m).2⟩, ?_⟩
    rw [e3]
    show b < (z2.heap.push _).objs.size
    rw [Heap.size_push]
    exact Nat.lt_succ_of_lt l
  have t3 : tn 0 z3.heap := T.keep _ _ _ t2 fun b _ o e => up3 b o e
  have J4 := block_start I3 blk nd off3
  have start : From X pins σ fp z3 (upd K2 D (.lst [])) := ⟨I3, fun b m => (off3 b m).1⟩
  have pg := rg z3 (upd K2 D (.lst [])) z3.heap.objs.size (cellsFrom (z3.heap.objs.size + 1) scope.names (cloFrom X.env.cells scope.names [])) fp start
  have pt := rt z3 (upd K2 D (.lst [])) z3.heap.objs.size (cellsFrom (z3.heap.objs.size + 1) scope.names (cloFrom X.env.cells scope.names [])) fp start
  have pe := re z3 (upd K2 D (.lst [])) z3.heap.objs.size (cellsFrom (z3.heap.objs.size + 1) scope.names (cloFrom X.env.cells scope.names [])) fp start
  show codeAny _ _ (.compStart (.ListComp elt [⟨tg, iter, ifs, 0⟩] scope pos) 0 (.ref it) (.ref D) (compEnvC scope (cellsFrom (z3.heap.objs.size + 1) scope.names (cloFrom X.env.cells scope.names [])) z3.heap.objs.size X.env))
    (compPost (model X.prog X.w) X.A X.xe use G (.ref D) z3.heap.objs.size) { z3 with heap := pushCells (z3.heap.push { cls := .type "dict", data := .dict #[] }) scope.names }
  have here : (compEnvC scope (cellsFrom (z3.heap.objs.size + 1) scope.names (cloFrom X.env.cells scope.names [])) z3.heap.objs.size X.env).locals = z3.heap.objs.size := rfl
  generalize compEnvC scope (cellsFrom (z3.heap.objs.size + 1) scope.names (cloFrom X.env.cells scope.names [])) z3.heap.objs.size X.env = ce at J4 pg pt pe here ⊢
  have nfp : ∀ b ∈ fp, upd K2 D (.lst []) b = none := fun b m => (off3 b m).1.1
  generalize upd K2 D (.lst []) = K3 at I3 J4 pg pt pe w0 nfp off3
  obtain ⟨z4, e4⟩ : ∃ z4 : Shared, z4 = { z3 with heap := pushCells (z3.heap.push { cls := .type "dict", data := .dict #[] }) scope.names } := ⟨_, rfl⟩
  rw [← e4] at J4 ⊢
  have t4 : tn 0 z4.heap := T.keep _ _ _ t3 fun b _ o e => by
    rw [e4]
    exact pushCells_keeps _ _ _ _ (Heap.get?_push_of_some _ e)
  have stat : ∀ {ρ : L2.St} {K : Hp} {z : Shared}, Inv (X.blk z3 K3 scope ce fp) [] ρ K z → (∀ b ∈ fp, K b = none) → ∀ b ∈ fp, FpOk (X.blk z3 K3 scope ce fp) [] K b := fun {ρ K z} J' n b m =>
    ⟨n b m, (J'.ok.exf b m).1, J'.ok.exfs b m, .inl m, fun y c e => (J'.ok.exf b m).2 y c e, fun p hp => by cases hp⟩
  refine codeAny_compStart_list ?_ (T.self X.A 0 _ _ _ t4 ?_)
  all_goals
    refine compLoop_any (fun n z => ∃ i K, Inv (X.blk z3 K3 scope ce fp) [] (wipe σ (own.map (·.2))) K z ∧ tn i z.heap ∧ (∀ b ∈ fp, K b = none) ∧ W i n K) ?_ m0 ⟨0, K3, J4, t4, nfp, w0⟩
    rintro n z5 ⟨i, K5, J5, t5, n5, w5⟩
    rcases turn i n K5 w5 with ⟨halt, done⟩ | ⟨goes, Nx, less, step⟩
    · refine thnF (T.done (X.blk z3 K3 scope ce fp) rfl rfl rfl calm i [] z5 _ K5 (fun _ _ => False) J5 (stat J5 n5) t5 halt) fun r z6 ⟨er, J6⟩ => ?_
      subst er
      have I7 : Inv X pins σ K5 z6 := Inv.call' (ch := fp) I3 J6.os J6.base J6.hok J6.bare fun b m =>
        let ⟨_, o1, _, o3, o4, o5⟩ := (off3 b m).1
        ⟨o3, o1, o4, o5⟩
      obtain ⟨m, ns, _⟩ := J6.loc
      have ns : z6.heap.Ns ce.locals m := ns
      have nC : K5 ce.locals = none := J6.free
      rw [here] at ns nC
      exact leave D z3.heap.objs.size z6 m K5 I7 done ns (I3.fpOk (Nat.le_refl _) nC)
    · refine thnF (T.item (X.blk z3 K3 scope ce fp) rfl rfl rfl calm i [] z5 _ K5 (fun _ _ => False) J5 (stat J5 n5) t5 goes) fun r z6 ⟨u, er, c6⟩ => ?_
      subst er
      refine thnF c6 fun _ z7 ⟨x, K7, J7, rx, y7, t7, n7⟩ => ?_
      refine thnF (pg.run _ z7 _ K7 x u _ (J7.pinned (stat J7 n7) (T.obj _ _ t7)) rx (step x K7 y7)) fun _ z8 ⟨ρ, K8, J8, eρ, q8⟩ => ?_
      have fin : ∀ {z : Shared} {K : Hp}, Inv (X.blk z3 K3 scope ce fp) ([] ++ pinsAt fp z7.heap) ρ K z → Nx K → ∃ m, m < n ∧ ∃ i K, Inv (X.blk z3 K3 scope ce fp) [] (wipe σ (own.map (·.2))) K z ∧ tn i z.heap ∧ (∀ b ∈ fp, K b = none) ∧ W i m K := by
        intro z K J' nx
        obtain ⟨m', lt, w'⟩ := less K nx
        have stays : ∀ b ∈ fp, ∀ o, z7.heap.get? b = some o → z.heap.get? b = some o ∧ K b = none := fun b hb o e =>
          let ⟨p1, p2, _⟩ := J'.pin (b, o) (List.mem_append_right _ (List.mem_append_right _ (mem_pinsAt hb e)))
          ⟨p1, p2⟩
        refine ⟨m', lt, i + 1, K, (J'.unpinned (pins := [])).weak ?_ (fun j v e => ?_), T.keep _ _ _ t7 fun b hb o e => (stays b hb o e).1, fun b hb => ?_, w'⟩
        · rw [← eρ, wipe_length]
        · rw [← eρ] at e
          exact (wipe_some e).1
        · obtain ⟨o, e, _⟩ := T.obj _ _ t7 b hb
          exact (stays b hb o e).2
      refine thnF (pt.run _ z8 ρ K8 _ J8 q8) fun b z9 ⟨K9, J9, q9⟩ => ?_
      cases b with
      | true =>
        simp only [if_true] at q9 ⊢
        refine thnF (pe.run _ z9 ρ K9 _ J9 q9) fun y z10 ⟨yv, K10, J10, ry, acc, eL, room, nx⟩ => ?_
        exact app_ok (X := X.blk z3 K3 scope ce fp) J10 eL room ry fun z11 J11 => fin J11 nx
      | false =>
        simp only [Bool.false_eq_true, if_false] at q9 ⊢
        exact fin J9 q9
end
end Lam
set_option Elab.async false
set_option linter.all false
set_option maxRecDepth 100000
set_option maxHeartbeats 4000000
set_option autoImplicit false
/-! A def that calls what it is handed; such a def called in a comprehension's block. -/
namespace Lam
open PySem PySem.Spec PyProof.Rows L2 LamX NdefX
/-- the def at g, called with any f that may be called from then on, answers as HT says -/
def Hears (CXl CX : CXT) (P : Program) (w : World) (K : PySem.W.Frag) (mg : Str → Option Value) (base : Heap) (k j : Nat) (g : Addr) (HT : (XK → Hp → VK → Prop) → Hp → VK → Prop) : Prop :=
  ∀ (A : Around) (outer : List Env) (s : Shared) (H : Hp) (f : Addr) (D : LD) (tl : XK → Hp → VK → Prop) (Q : VK) (E : XK), Room j A → Env0 P w K mg base A outer s H → H f = some (LamO f D) → ActAt CXl P w K mg base k (frs outer) s H f tl → HT tl H Q →
    codeAny (model P w) A (.call (.ref g) ⟨[.ref f], []⟩) (CR CX outer P w H s Q E) s
/-- the state itself is told to a def's body -/
theorem runS {CX : CXT} {P : Program} {w : World} {K : PySem.W.Frag} {mg : Str → Option Value} {base : Heap} {k : Nat} {g : Addr} {x qual a : Str} {params : Arguments} {body : List Stmt} {scope : Scope} {fd : FuncData} {N : List Str} (F : FunD K x qual params body scope [] [] g fd)
    (S : FnScope N [a] scope) (b : L2.Binds K fd [a] []) {A : Around} {outer : List Env} {s : Shared} {H : Hp} {f : Addr} {Q : VK} {E : XK} (hr : Room (k + 1) A) (e0 : Env0 P w K mg base A outer s H)
    (run : ∀ cdv, Room k (A.deeper (envOfC qual scope s.heap.objs.size g cdv)) → ∃ t, PSs (cxOf CX P w K mg base N qual scope g cdv A outer s H E) body t ∧ t { nx := fun _ H' => Q .non H', rt := Q } (L2.start N [.ref f]) H) :
    codeAny (model P w) A (.call (.ref g) ⟨[.ref f], []⟩) (CR CX outer P w H s Q E) s := by
  obtain ⟨oc, od, dV, kV, doc, pm, an, cdv, ct, osl, rfl, lk, hcd, _, _⟩ := F.ex
  exact run_ofS (ps := [a]) (us := [.ref f]) (vs := [.ref f]) lk hcd S hr e0 (b s [.ref f] (e0.mod.kin.keeps fun b o e => (e0.bs b o e).1) rfl) (.cons rfl .nil) rfl (run cdv)
section
variable {X : Cx} {CXl CX : CXT} {k j m i : Nat} {g : Addr} {x a : Str} {HT : (XK → Hp → VK → Prop) → Hp → VK → Prop} {scope : Scope} {env : Env} {p1 p2 pos : Pos}
/-- x(a) in a comprehension's block that began at (s, H): a holds a lambda of the def around -/
def tHear (X : Cx) (CXl : CXT) (k i : Nat) (HT : (XK → Hp → VK → Prop) → Hp → VK → Prop) (σ0 : L2.St) : TE := fun σ H Q => ∃ (f : Addr) (D : LD) (fr : List Str) (js : List Nat) (sp : LSp),
  σ[i]? = some (some (.ref f)) ∧ H f = some (LamO f D) ∧ (X.Ok → Caps X D.cl fr js) ∧ LamOk CXl X.prog X.w X.K X.mg X.base k f D fr sp ∧ HT (tlOf f D (js.map (slotAt σ0)) sp) H Q
theorem pe_hear {pins : List (Addr × Obj)} {σ0 : L2.St} {fp : List Addr} {s : Shared} {H : Hp} (F : From X pins σ0 fp s H) (R : Hears CXl CX X.prog X.w X.K X.mg X.base k j g HT) (hr : Room m X.A) (hj : j ≤ m) (hg : Gl (X.blk s H scope env fp) x) (hm : X.mg x = some (.ref g)) (hk : PySem.W.keepIn X.K (.ref g) = true)
    (hx : Passes CX (X.blk s H scope env fp) E0) (hN : X.N[i]? = some a) (hv : Vis env.scope a) (hdb : (x == ("__debug__" : Str)) = false := by decide) (hd : (a == ("__debug__" : Str)) = false := by decide) (hcd : (a == ("__classdict__" : Str)) = false := by decide) :
    PE (X.blk s H scope env fp) (.Call (.Name x p1) [.Name a p2] [] pos) (tHear X CXl k i HT σ0) := by
  refine ⟨fun pins' s1 σ H1 Q J ⟨f, D, fr, js, sp, hs, hf, cp, o, want⟩ => ?_⟩
  refine wpAny_Call_Name_kw (ld_glob J hg hm ?_ hdb)
  refine PySem.W.callWith_K (h₀ := X.base) F.inv.ok.mod.kin hk (thn ((pa_cons (pe_var (X := X.blk s H scope env fp) (pos := p2) hN hv hd hcd) pa_nil).run pos pins' s1 σ H1 (fun vs H2 => vs = [.ref f] ∧ H2 = H1) J ⟨.ref f, hs, rfl, rfl⟩) fun us s2 ⟨vs, H2, J2, r, ev, eH⟩ => ⟨J2.kIn, ?_⟩) (by rfl) (by rfl)
  subst ev eH
  obtain ⟨u, rfl, ru⟩ : ∃ u, us = [u] ∧ L2.RelV (.ref f) u := vals1 r
  obtain rfl : u = Value.ref f := ru
  have act : ActAt CXl X.prog X.w X.K X.mg X.base k (frs X.stack) s2 H2 f (tlOf f D (js.map (slotAt σ0)) sp) := act_of o (F.cells (cp F.inv.ok) J2)
  refine wpAny_call (codeAny_mono (R X.A X.stack s2 H2 f D _ Q E0 (hr.mono hj) J2.env0 hf act want) fun r s3 z => ?_)
  cases r with
  | error e => exact hx pins' σ H2 s2 e s3 J2 z
  | ok fl =>
    cases fl with
    | ret u => exact J2.after z
    | next => exact z.elim
    | brk => exact z.elim
    | cont => exact z.elim
end
/-- the comprehension as a value; its rules may ask the def's slots at its beginning -/
theorem pe_lcI {X : Cx} {elt tg iter : Expr} {ifs : List Expr} {scope : Scope} {own : List (Str × Nat)} {pos : Pos} {wi : TI} {g : TG} {tt : L2.St → TT} {te : L2.St → TE} (calm : X.calm = true) (nd : X.N.Nodup) (walk : PI X tg iter wi) (blk : BlkOk X.N X.env.scope scope own)
    (rg : ∀ pins σ, BlkI X pins σ scope fun Z => PG Z tg g) (rt : ∀ pins σ, BlkI X pins σ scope fun Z => PTs Z ifs (tt σ)) (re : ∀ pins σ, BlkI X pins σ scope fun Z => PE Z elt (te σ)) (nofold : ∀ x, foldedSetIterable iter X.env x = pure x := by intro _; rfl) :
    PE X (.ListComp elt [⟨tg, iter, ifs, 0⟩] scope pos) (fun σ H Q => tLc wi g (tt σ) (te σ) (own.map (·.2)) σ H Q) := by
  refine ⟨fun pins s σ H Q I want => ?_⟩
  rw [eval_ListComp]
  exact lcI_run calm nd I walk blk (rg pins σ) (rt pins σ) (re pins σ) nofold want fun D C z m K J q ns ⟨f0, f1, f2, f3, f4, f5⟩ =>
    ⟨m, ns, fun h2 sb => ⟨.ref D, K, J.turned (t' := z.toks) (fun b o ne e => (sb.2 b ne).trans e) f0 f1 f3 f4 f5, rfl, q⟩⟩
end Lam
set_option Elab.async false
set_option linter.all false
set_option maxRecDepth 100000
set_option maxHeartbeats 4000000
set_option autoImplicit false
/-! What was handed in, called within a try; None asked for own classes of exceptions. -/
namespace Lam
open PySem PySem.Spec PyProof.Rows L2 LamX NdefX
section
variable {X : Cx} {W : WX} {k i : Nat} {f : Addr} {tl : XK → Hp → VK → Prop} {x : Str} {p pos : Pos}
/-- x() in a try's body: what it lets out is the clause's business -/
def tActW (i : Nat) (f : Addr) (tl : XK → Hp → VK → Prop) (W : WX) : TE := fun σ H Q => ∃ Ech : XK, (∀ cls d H', Ech cls d H' → W cls d σ H') ∧ σ[i]? = some (some (.ref f)) ∧ (∃ D, H f = some (LamO f D)) ∧ tl Ech H Q
theorem pe_actW (tk : Takes X W) (hex : X.ex = []) (act : ActAt (L2.CX X.prog X.w) X.prog X.w X.K X.mg X.base k X.fs X.s_0 X.H_0 f tl) (hr : Room k X.A) (hN : X.N[i]? = some x) (hv : Vis X.env.scope x)
    (hd : (x == ("__debug__" : Str)) = false := by decide) (hcd : (x == ("__classdict__" : Str)) = false := by decide) : PE X (.Call (.Name x p) [] [] pos) (tActW i f tl W) := by
  refine ⟨fun pins s σ H Q I ⟨Ech, out, hs, ⟨D, hf⟩, want⟩ => ?_⟩
  refine wpAny_Call_Name_kw (thn ((pe_var (pos := p) hN hv hd hcd).run pins s σ H (fun v H1 => v = .ref f ∧ H1 = H) I ⟨.ref f, hs, rfl, rfl⟩) fun u s1 ⟨v, H1, J, r, ev, eH⟩ => ?_)
  subst ev eH
  obtain rfl : u = Value.ref f := r
  refine PySem.W.callWith_F0 (first := []) (lamO_fnAt J.hok hf) (wpAny_call (codeAny_mono (act X.A X.stack s1 H1 Q Ech hr J.env0 (hex ▸ J.base) want) fun r s2 z => ?_))
  cases r with
  | error e => exact tk e s2 (XE.of_call J out z)
  | ok fl =>
    cases fl with
    | ret u => exact J.after z
    | next => exact z.elim
    | brk => exact z.elim
    | cont => exact z.elim
end
end Lam
namespace He
open PySem PySem.Spec PyProof.Rows L2
theorem kit_nonX {K : PySem.W.Frag} {C : Addr} (T : XCl K C) : PySem.W.kitOne K (.type "NoneType") (.ref C) = some false := by
  unfold PySem.W.kitOne
  rw [if_neg (show ¬ (Value.type "NoneType" == Value.ref C) = true from fun q => nomatch (beq_iff_eq.mp q))]
  unfold PySem.W.kitCls
  show (if ((PySem.W.clsIn K C).isSome && PySem.W.typeIn K (.ref C) == some (.type "type")) = true then PySem.W.subIn K (.type "NoneType") (.ref C) else none) = _
  rw [if_pos (by rw [T.hcl, T.oex.tyC] <;> rfl)]
  show (fastBuiltinMro "NoneType").map (·.contains (.ref C)) = _
  have e : fastBuiltinMro "NoneType" = some [.type "NoneType", .type "object"] := by decide +kernel
  rw [e]
  rfl
/-! ### isinstance of what was caught, or of None -/
section
variable {K : PySem.W.Frag} {xs : List (Str × List Str × List Str)} {x d : Str} {bases fs b2 f2 : List Str} {H : Hp} {σ : L2.St} {te tu : TE} {a : Addr}
theorem exm_exc (h : excsB K xs = true) (mx : (x, bases, fs) ∈ xs) (md : (d, b2, f2) ∈ xs) (hb : ∀ y ∈ bases, y ∈ xs.map (·.1)) (ne : x ≠ d) : PySem.W.exmOne K (.ref (ga K x)) (.ref (ga K d)) = some (decide (d ∈ x :: bases)) := by
  have q := kit_exc h mx md hb
  obtain ⟨T2, _, _⟩ := excsB_cl h md
  unfold PySem.W.kitOne at q
  rw [if_neg (fun z => ne (ga_inj h (List.mem_map.mpr ⟨_, mx, rfl⟩) (List.mem_map.mpr ⟨_, md, rfl⟩) (Value.ref.inj (beq_iff_eq.mp z))))] at q
  unfold PySem.W.exmOne
  rw [if_pos (by rw [T2.oex.exC] <;> rfl)]
  exact q
theorem kitAny_all {t : Value} {f : Value → Bool} : ∀ (us : List Value), (∀ u ∈ us, PySem.W.kitOne K t u = some (f u)) → PySem.W.kitAny K t us = some (us.any f)
  | [], _ => rfl
  | u :: r, h => by
    have h1 := h u List.mem_cons_self
    have h2 := kitAny_all r fun v hv => h v (List.mem_cons_of_mem _ hv)
    unfold PySem.W.kitAny
    rw [h1, List.any_cons]
    cases f u with
    | true => rfl
    | false => exact h2
/-- either rule of isinstance -/
abbrev rIs2 (K : PySem.W.Frag) : List V → Hp → VK → Prop := fun xs H Q => rIsi K xs H Q ∨ rIsK K xs H Q
abbrev rIs2T (K : PySem.W.Frag) : List V → Hp → VK → Prop := fun xs H Q => rIsiT K xs H Q ∨ rIsKT K xs H Q
theorem cls_owns : ∀ ds : List Str, Paired ClsV (ds.map fun d => V.ref (ga K d)) (ds.map fun d => Value.ref (ga K d))
  | [] => .nil
  | _ :: r => .cons (.own _) (cls_owns r)
theorem ev_isN (T : XCl K (ga K d)) (h : Evl.Ev te σ H .non) : Evl.Ev (tCB (rIs2 K) (tCons te (tCons (tC (.ref (ga K d))) tNil))) σ H (.bl false) := fun H1 e Q q =>
  h H1 e _ fun H2 e2 => .inl ⟨.non, _, .type "NoneType", _, false, rfl, .own _, .base .non, kit_nonX T, q H2 e2⟩
theorem ev_isNs {ds : List Str} (T : ∀ d ∈ ds, XCl K (ga K d)) (h : Evl.Ev te σ H .non) (hu : Evl.EvU tu σ H (ds.map fun d => V.ref (ga K d))) : Evl.Ev (tCB (rIs2T K) (tCons te (tCons tu tNil))) σ H (.bl false) := fun H1 e Q q =>
  h H1 e _ fun H2 e2 => hu H2 (e.trans e2) _ fun p H3 _ e3 hp => .inl ⟨.non, p, _, .type "NoneType", _, false, rfl, hp, cls_owns ds, .base .non, by
    rw [kitAny_all (f := fun _ => false) _ fun u hu => by
      obtain ⟨d, hd, rfl⟩ := List.mem_map.mp hu
      exact kit_nonX (T d hd)]
    simp, q H3 (e2.trans e3)⟩
variable {vs : List (Str × V)}
theorem ev_isK (h : excsB K xs = true) (mx : (x, bases, fs) ∈ xs) (md : (d, b2, f2) ∈ xs) (hb : ∀ y ∈ bases, y ∈ xs.map (·.1)) (ha : XKAt H a (ga K x) vs) (he : Evl.Ev te σ H (.ref a)) :
    Evl.Ev (tCB (rIs2 K) (tCons te (tCons (tC (.ref (ga K d))) tNil))) σ H (.bl (decide (d ∈ x :: bases))) := fun H1 e Q q =>
  he H1 e _ fun H2 e2 => .inr ⟨a, ga K x, vs, _, _, _, rfl, (excsB_cl h mx).1, (ha.ex e).ex e2, .own _, kit_exc h mx md hb, q H2 e2⟩
theorem ev_isKs {ds : List Str} (h : excsB K xs = true) (mx : (x, bases, fs) ∈ xs) (md : ∀ d ∈ ds, ∃ b f, (d, b, f) ∈ xs) (hb : ∀ y ∈ bases, y ∈ xs.map (·.1)) (ha : XKAt H a (ga K x) vs) (he : Evl.Ev te σ H (.ref a)) (hu : Evl.EvU tu σ H (ds.map fun d => V.ref (ga K d))) :
    Evl.Ev (tCB (rIs2T K) (tCons te (tCons tu tNil))) σ H (.bl (ds.any fun d => decide (d ∈ x :: bases))) := fun H1 e Q q =>
  he H1 e _ fun H2 e2 => hu H2 (e.trans e2) _ fun p H3 _ e3 hp => .inr ⟨a, ga K x, p, vs, _, _, _, rfl, (excsB_cl h mx).1, ((ha.ex e).ex e2).ex e3, hp, cls_owns ds, by
    have step : ∀ l : List Str, (∀ d ∈ l, ∃ b f, (d, b, f) ∈ xs) → PySem.W.kitAny K (.ref (ga K x)) (l.map fun d => Value.ref (ga K d)) = some (l.any fun d => decide (d ∈ x :: bases)) := by
      intro l
      induction l with
      | nil => intro _; rfl
      | cons d r ih =>
        intro hl
        obtain ⟨b, f, m⟩ := hl d List.mem_cons_self
        have h1 := kit_exc h mx m hb
        rw [List.map_cons]
        unfold PySem.W.kitAny
        rw [h1, List.any_cons]
        cases decide (d ∈ x :: bases) with
        | true => rfl
        | false => exact ih fun y hy => hl y (List.mem_cons_of_mem _ hy)
    exact step ds md, q H3 (e2.trans e3)⟩
/-- a field of what was caught -/
theorem ev_xfk {f : Str} {v : V} (T : XCl K (ga K x)) (no : PySem.W.findIn K (.ref (ga K x)) f = some none) (ha : XKAt H a (ga K x) vs) (he : Evl.Ev te σ H (.ref a)) (l : vs.lookup f = some v) : Evl.Ev (tXfk K f te) σ H v := fun H1 e Q q =>
  he H1 e _ fun H2 e2 => ⟨a, ga K x, vs, v, rfl, T, no, (ha.ex e).ex e2, l, q H2 e2⟩
end
end He
set_option Elab.async false
set_option linter.all false
set_option maxRecDepth 100000
set_option maxHeartbeats 4000000
set_option autoImplicit false
namespace Evl
open PySem PySem.Spec PyProof.Rows L2
section
variable {K : PySem.W.Frag} {σ : L2.St} {H H' : Hp} {ta tb te tx : TE} {t u : TT} {x y z v : V} {D : Ends} {tu tw tz : TS} {g : TG}
theorem s_retC {ta : TA} {P : List V → Hp → Prop} (h : ∀ H1, Ex H H1 → ∀ Q : List V → Hp → Prop, (∀ vs H2, Ex H1 H2 → P vs H2 → Q vs H2) → ta σ H1 Q)
    (k : ∀ vs H1, Ex H H1 → P vs H1 → vs.length ≤ 1000 ∧ ∀ p, H1 p = none → D.rt (.ref p) (upd H1 p (.lst vs))) : tRet (tLst ta) D σ H :=
  h H (Ex.refl H) _ fun vs H1 e hp => ⟨sz_of (by have := (k vs H1 e hp).1; omega), (k vs H1 e hp).2⟩
theorem cut_to {xs : List V} {n : Nat} : cutV xs none (some (n : Int)) = xs.take n := by
  unfold cutV
  rw [HT.sIx_nat]
  show (xs.drop 0).take (min n xs.length - 0) = _
  rw [List.drop_zero, Nat.sub_zero]
  rcases Nat.le_total n xs.length with h | h
  · rw [Nat.min_eq_left h]
  · rw [Nat.min_eq_right h, List.take_length, List.take_of_length_le h]
theorem cut_from {xs : List V} {n : Nat} : cutV xs (some (n : Int)) none = xs.drop n := by
  unfold cutV
  rw [HT.sIx_nat]
  show (xs.drop (min n xs.length)).take (xs.length - min n xs.length) = _
  rcases Nat.le_total n xs.length with h | h
  · rw [Nat.min_eq_left h, List.take_of_length_le (by rw [List.length_drop]; omega)]
  · rw [Nat.min_eq_right h, List.drop_length, List.drop_of_length_le h, List.take_nil]
end
end Evl
namespace He
open PySem PySem.Spec PyProof.Rows L2 Evl
section
variable {K : PySem.W.Frag} {σ : L2.St} {H H' : Hp} {te tb : TE}
theorem el_cat {i : Nat} {p : Addr} {xs ys : List V} (hv : σ[i]? = some (some (.ref p))) (hp : H p = some (.lst xs)) (h : EvL tb σ H ys) (hz : xs.length + ys.length ≤ 100000) : EvL (tOp rCat (tVar i) tb) σ H (xs ++ ys) := fun H1 e Q q =>
  ⟨_, hv, h H1 e _ fun b H2 hb e2 h2 => ⟨p, b, _, _, rfl, rfl, e2 _ _ (e _ _ hp), h2, sz_of hz, fun r hr => q r _ (fresh_back e2 hr) (e2.trans (Ex.new hr)) upd_same⟩⟩
/-- an object of an exception class that the program has -/
structure XOb (K : PySem.W.Frag) (xs : List (Str × List Str × List Str)) (H : Hp) (a : Addr) (x : Str) (bases fs : List Str) : Prop where
  mem : (x, bases, fs) ∈ xs
  cl : XCl K (ga K x)
  st : XSt H a (ga K x)
theorem XOb.ex {xs : List (Str × List Str × List Str)} {a : Addr} {x : Str} {bases fs : List Str} (h : XOb K xs H a x bases fs) (e : Ex H H') : XOb K xs H' a x bases fs := ⟨h.mem, h.cl, h.st.ex e⟩
variable {xs : List (Str × List Str × List Str)} {a : Addr} {x : Str} {bases fs : List Str}
theorem rc_isX (hX : excsB K xs = true) (hc : ∀ e ∈ xs, ∀ y ∈ e.2.1, y ∈ xs.map (·.1)) (h : XOb K xs H a x bases fs) {d : Str} {b2 f2 : List Str} (md : (d, b2, f2) ∈ xs) :
    RC (rIsX K) [.ref a, .ref (ga K d)] H (.bl (decide (d ∈ x :: bases))) := fun H1 e Q q =>
  ⟨a, ga K x, .ref (ga K d), .ref (ga K d), _, rfl, h.cl, h.st.ex e, .own _, kit_exc hX h.mem md (hc _ h.mem), q H1 (Ex.refl H1)⟩
theorem kit_anyX (hX : excsB K xs = true) (mx : (x, bases, fs) ∈ xs) : ∀ (ts : List String), (∀ t ∈ ts, PySem.W.kitMeta t = true) → PySem.W.kitAny K (.ref (ga K x)) (ts.map .type) = some (ts.any fun t => HandSPX.veTail.contains (.type t))
  | [], _ => rfl
  | t :: r, h => by
    have h1 := kit_excT hX mx (h t List.mem_cons_self)
    have h2 := kit_anyX hX mx r fun u hu => h u (List.mem_cons_of_mem _ hu)
    show PySem.W.kitAny K (.ref (ga K x)) (.type t :: r.map .type) = _
    unfold PySem.W.kitAny
    rw [h1, List.any_cons]
    cases HandSPX.veTail.contains (.type t) with
    | true => rfl
    | false => exact h2
theorem rc_isXT (hX : excsB K xs = true) (h : XOb K xs H a x bases fs) {t : String} (ht : PySem.W.kitMeta t = true) : RC (rIsX K) [.ref a, .ty t] H (.bl (HandSPX.veTail.contains (.type t))) := fun H1 e Q q =>
  ⟨a, ga K x, .ty t, .type t, _, rfl, h.cl, h.st.ex e, .ty t, kit_excT hX h.mem ht, q H1 (Ex.refl H1)⟩
theorem ev_isXs (hX : excsB K xs = true) (h : XOb K xs H a x bases fs) {tu : TE} (ts : List String) (ht : ∀ t ∈ ts, PySem.W.kitMeta t = true) (ha : Ev te σ H (.ref a)) (hu : EvU tu σ H (ts.map V.ty)) :
    Ev (tCB (rIsXT K) (tCons te (tCons tu tNil))) σ H (.bl (ts.any fun t => HandSPX.veTail.contains (.type t))) := fun H1 e Q q =>
  ha H1 e _ fun H2 e2 => hu H2 (e.trans e2) _ fun p H3 _ e3 hp =>
    ⟨a, ga K x, p, ts.map V.ty, ts.map .type, _, rfl, h.cl, h.st.ex ((e.trans e2).trans e3), hp, cls_all ts, kit_anyX hX h.mem ts ht, q H3 (e2.trans e3)⟩
theorem eqvs_bools : ∀ l : List Bool, Eqvs (l.map V.bl) (l.map V.bl) (l.map fun _ => true)
  | [] => .nil
  | b :: r => .cons (by have h := Eqv.bl b b; rw [beq_self_eq_true] at h; exact h) (eqvs_bools r)
theorem leq_bools (l : List Bool) : LEq (l.map V.bl) (l.map V.bl) true := .inr ⟨_, eqvs_bools l, by rw [List.all_map]; exact (List.all_eq_true.mpr fun _ _ => rfl).symm⟩
theorem given_true (n : Nat) (v : Nat → V) : given n (fun _ => true) v = (List.range n).map v := by
  unfold given
  rw [List.filter_eq_self.mpr fun _ _ => rfl]
theorem ev_chain {r r' : R2} {ta tc : TE} {x y z : V} {b c : Bool} (ha : Ev ta σ H x) (hb : Ev tb σ H y) (hr : RV r x y H (.bl b)) (hc : b = true → Ev tc σ H z) (hr' : b = true → RV r' y z H (.bl c)) : Ev (tChain r r' ta tb tc) σ H (.bl (b && c)) := fun H1 e Q q =>
  ha H1 e _ fun H2 e2 => hb H2 (e.trans e2) _ fun H3 e3 => hr H3 ((e.trans e2).trans e3) _ fun H4 e4 => ⟨b, rfl, by
    cases b with
    | true =>
      show tc σ H4 fun w' H5 => r' y w' H5 Q
      exact hc rfl H4 (((e.trans e2).trans e3).trans e4) _ fun H5 e5 => hr' rfl H5 ((((e.trans e2).trans e3).trans e4).trans e5) Q fun H6 e6 => q H6 ((((e2.trans e3).trans e4).trans e5).trans e6)
    | false =>
      show Q (.bl false) H4
      exact q H4 ((e2.trans e3).trans e4)⟩
end
end He
set_option Elab.async false
set_option linter.all false
set_option maxRecDepth 100000
set_option maxHeartbeats 4000000
set_option autoImplicit false
namespace He
open PySem PySem.Spec PyProof.Rows L2 Evl
section
variable {K : PySem.W.Frag} {σ : L2.St} {H H' : Hp} {te tb : TE} {D : Ends} {tu tz : TS}
/-- a new tuple of exceptions -/
def EvXu (K : PySem.W.Frag) (te : TE) (σ : L2.St) (H : Hp) (tbl : List (Str × List (Str × V))) : Prop := ∀ H1, Ex H H1 → ∀ Q : VK, (∀ p as H2, Ex H1 H2 → H2 p = some (.tup (as.map V.ref)) → XsAt K H2 as tbl → Q (.ref p) H2) → te σ H1 Q
theorem exu_tup {ta : TA} {tbl : List (Str × List (Str × V))} (h : EvXs K ta σ H tbl) (hl : tbl.length ≤ 1000) : EvXu K (tTup ta) σ H tbl := fun H1 e Q q =>
  h H1 e _ fun as H2 e2 xs => ⟨sz_of (by rw [List.length_map, xs.length]; omega), fun p hp => q p as _ (e2.trans (Ex.new hp)) upd_same (xs.ex (Ex.new hp))⟩
theorem XsAt.get {as : List Addr} {tbl : List (Str × List (Str × V))} (h : XsAt K H as tbl) : ∀ {i : Nat} {a : Addr}, as[i]? = some a → ∃ e, tbl[i]? = some e ∧ XAt H a (ga K e.1) e.2 := by
  induction h with
  | nil => exact fun h => nomatch h
  | cons x _ ih =>
    intro i a h
    cases i with
    | zero =>
      obtain rfl := Option.some.inj h
      exact ⟨_, rfl, x⟩
    | succ i => exact ih h
theorem XsAt.gets {as : List Addr} {tbl : List (Str × List (Str × V))} (h : XsAt K H as tbl) : ∀ {i : Nat} {e : Str × List (Str × V)}, tbl[i]? = some e → ∃ a, as[i]? = some a ∧ XAt H a (ga K e.1) e.2 := by
  induction h with
  | nil => exact fun h => nomatch h
  | cons x _ ih =>
    intro i e h
    cases i with
    | zero =>
      obtain rfl := Option.some.inj h
      exact ⟨_, rfl, x⟩
    | succ i => exact ih h
/-- for e in (C(..), ..) -/
theorem q_forX {j : Nat} {tbl : List (Str × List (Str × V))} (S : L2.St → Prop) (h : EvXu K te σ H tbl) (h0 : S σ)
    (hs : ∀ (i : Nat) (a : Addr) (e : Str × List (Str × V)) (σ' : L2.St) (H' : Hp), Ex H H' → tbl[i]? = some e → XAt H' a (ga K e.1) e.2 → S σ' → ∀ N : L2.St → Hp → Prop, (∀ σ2 H2, Ex H' H2 → S σ2 → N σ2 H2) →
      tu { D with nx := N, ct := N, bk := tz D } (σ'.set j (some (.ref a))) H') (hd : ∀ σ' H', Ex H H' → S σ' → tz D σ' H') : tSeq (tFor (iTup K te) (gName j) tu) tz D σ H :=
  h H (Ex.refl H) _ fun p as H1 e1 hp hx => ⟨p, rfl, ⟨_, SqT.of hp⟩, for_tup (xs := as.map V.ref) (fun _ σ' H' => Ex H1 H' ∧ S σ') ⟨Ex.refl H1, h0⟩ (fun i σ' H' _ q => SqT.of (q.1 _ _ hp)) (fun i x σ' H' hi q => by
    obtain ⟨e2, hS⟩ := q
    rw [List.getElem?_map] at hi
    cases hz : as[i]? with
    | none =>
      rw [hz] at hi
      cases hi
    | some a =>
      rw [hz] at hi
      obtain rfl : V.ref a = x := Option.some.inj hi
      obtain ⟨e, he, xa⟩ := hx.get hz
      exact hs i a e σ' H' (e1.trans e2) he (xa.ex e2) hS _ fun σ2 H2 e3 s2 => ⟨e2.trans e3, s2⟩) fun σ' H' q => hd σ' H' (e1.trans q.1) q.2⟩
theorem s_forX {j : Nat} {tbl : List (Str × List (Str × V))} (S : L2.St → Prop) (h : EvXu K te σ H tbl) (h0 : S σ)
    (hs : ∀ (i : Nat) (a : Addr) (e : Str × List (Str × V)) (σ' : L2.St) (H' : Hp), Ex H H' → tbl[i]? = some e → XAt H' a (ga K e.1) e.2 → S σ' → ∀ N : L2.St → Hp → Prop, (∀ σ2 H2, Ex H' H2 → S σ2 → N σ2 H2) →
      tu { D with nx := N, ct := N, bk := D.nx } (σ'.set j (some (.ref a))) H') (hd : ∀ σ' H', Ex H H' → S σ' → D.nx σ' H') : tFor (iTup K te) (gName j) tu D σ H :=
  q_forX (tz := tNext) S h h0 hs hd
theorem ev_xfl {a C : Addr} {fs : List (Str × V)} {f : Str} {v : V} (h : Ev te σ H (.ref a)) (T : XCl K C) (hno : PySem.W.findIn K (.ref C) f = some none) (hx : XAt H a C fs) (hl : fs.lookup f = some v) : Ev (tXfl K f te) σ H v := fun H1 e Q q =>
  h H1 e _ fun H2 e2 => ⟨a, C, fs, v, rfl, T, hno, hx.ex (e.trans e2), hl, q H2 e2⟩
/-- [..] != [..] -/
theorem ev_neLL {xs ys : List V} {r : Bool} {ta tb : TE} (ha : EvL ta σ H xs) (hb : EvL tb σ H ys) (he : LEq xs ys r) : Ev (tOp (rNeL K) ta tb) σ H (.bl (!r)) :=
  ev_opLL ha hb fun p q H1 hp hq _ H2 e2 Q k => ⟨p, q, xs, ys, r, rfl, rfl, SqL.of (e2 _ _ hp), SqL.of (e2 _ _ hq), he, k H2 (Ex.refl H2)⟩
theorem ev_eqLL {xs ys : List V} {r : Bool} {ta tb : TE} (ha : EvL ta σ H xs) (hb : EvL tb σ H ys) (he : LEq xs ys r) : Ev (tOp (rEqL K) ta tb) σ H (.bl r) :=
  ev_opLL ha hb fun p q H1 hp hq _ H2 e2 Q k => ⟨p, q, xs, ys, r, rfl, rfl, SqL.of (e2 _ _ hp), SqL.of (e2 _ _ hq), he, k H2 (Ex.refl H2)⟩
end
end He
set_option Elab.async false
set_option linter.all false
set_option maxRecDepth 100000
set_option maxHeartbeats 4000000
set_option autoImplicit false
namespace L2
open PySem PySem.Spec PyProof.Rows Evl
mutual
theorem Dp.ex {K : PySem.W.Frag} {H H' : Hp} (e : Ex H H') : ∀ {v : V} {d : PyData}, Dp K H v d → Dp K H' v d
  | _, _, .non => .non
  | _, _, .bl b => .bl b
  | _, _, .int i => .int i
  | _, _, .str x => .str x
  | _, _, .lst h a => .lst (ex_l e h) (DpAll.ex e a)
  | _, _, .tup h a => .tup (ex_t e h) (DpAll.ex e a)
theorem DpAll.ex {K : PySem.W.Frag} {H H' : Hp} (e : Ex H H') : ∀ {vs : List V} {ds : List PyData}, DpAll K H vs ds → DpAll K H' vs ds
  | _, _, .nil => .nil
  | _, _, .cons h a => .cons (Dp.ex e h) (DpAll.ex e a)
end
theorem SelfV.ex {K : PySem.W.Frag} {H H' : Hp} {x : V} (h : SelfV K H x) (e : Ex H H') : SelfV K H' x := by
  rcases h with h | ⟨d, hd, sd⟩ | ⟨a, rfl, ha⟩
  · exact .inl h
  · exact .inr (.inl ⟨d, hd.ex e, sd⟩)
  · exact .inr (.inr ⟨a, rfl, e _ _ ha⟩)
end L2
namespace He
open PySem PySem.Spec PyProof.Rows L2 Evl
section
variable {K : PySem.W.Frag} {σ : L2.St} {H H' : Hp} {te tb ta : TE} {D : Ends} {tu tz : TS} {t : TT} {g : TG}
/-- evaluates to a value of which R holds from then on -/
def EvP (te : TE) (σ : L2.St) (H : Hp) (R : V → Hp → Prop) : Prop := ∀ H1, Ex H H1 → ∀ Q : VK, (∀ v H2, Ex H1 H2 → R v H2 → Q v H2) → te σ H1 Q
def Stab (R : V → Hp → Prop) : Prop := ∀ v H H', R v H → Ex H H' → R v H'
theorem evp_tup2 {t1 t2 : TE} {R1 R2 : V → Hp → Prop} (h1 : EvP t1 σ H R1) (h2 : EvP t2 σ H R2) (s1 : Stab R1) (s2 : Stab R2) : EvP (tTup (tCons t1 (tCons t2 tNil))) σ H (fun v H => ∃ p a b, v = .ref p ∧ H p = some (.tup [a, b]) ∧ R1 a H ∧ R2 b H) := fun H1 e Q q =>
  h1 H1 e _ fun a H2 e2 r1 => h2 H2 (e.trans e2) _ fun b H3 e3 r2 => ⟨by show 2 ≤ sizeLine; decide, fun p hp => q _ _ ((e2.trans e3).trans (Ex.new hp)) ⟨p, a, b, rfl, upd_same, s1 _ _ _ r1 (e3.trans (Ex.new hp)), s2 _ _ _ r2 (Ex.new hp)⟩⟩
/-- for .. in (a, b), R of both -/
theorem q_forP {R : V → Hp → Prop} (sR : Stab R) (S : L2.St → Prop) (h : EvP te σ H (fun v H => ∃ p a b, v = .ref p ∧ H p = some (.tup [a, b]) ∧ R a H ∧ R b H)) (h0 : S σ)
    (hs : ∀ (v : V) (σ' : L2.St) (H' : Hp), Ex H H' → R v H' → S σ' → ∀ N : L2.St → Hp → Prop, (∀ σ2 H2, Ex H' H2 → S σ2 → N σ2 H2) →
      g v σ' H' fun σ2 H2 => tu { D with nx := N, ct := N, bk := tz D } σ2 H2) (hd : ∀ σ' H', Ex H H' → S σ' → tz D σ' H') : tSeq (tFor (iTup K te) g tu) tz D σ H :=
  h H (Ex.refl H) _ fun v H1 e1 ⟨p, a, b, ev, hp, ra, rb⟩ => ⟨p, ev, ⟨_, SqT.of hp⟩, for_tup (xs := [a, b]) (fun _ σ' H' => Ex H1 H' ∧ S σ') ⟨Ex.refl H1, h0⟩ (fun i σ' H' _ q => SqT.of (q.1 _ _ hp)) (fun i x σ' H' hi q => by
    obtain ⟨e2, hS⟩ := q
    have hr : R x H' := by
      match i, hi with
      | 0, hi => exact Option.some.inj hi ▸ sR _ _ _ ra e2
      | 1, hi => exact Option.some.inj hi ▸ sR _ _ _ rb e2
    exact hs x σ' H' (e1.trans e2) hr hS _ fun σ2 H2 e3 s2 => ⟨e2.trans e3, s2⟩) fun σ' H' q => hd σ' H' (e1.trans q.1) q.2⟩
/-- for i, x in enumerate(xs), the heap grows alone -/
theorem s_enum {i j k n : Nat} {l : Addr} {xs : List V} (hn : n = 2) (hv : σ[k]? = some (some (.ref l))) (hl : SqL K H l xs) (S : L2.St → Prop) (h0 : S σ)
    (hs : ∀ (m : Nat) (v : V) (σ' : L2.St) (H' : Hp), Ex H H' → xs[m]? = some v → S σ' → ∀ N : L2.St → Hp → Prop, (∀ σ2 H2, Ex H' H2 → S σ2 → N σ2 H2) →
      tu { D with nx := N, ct := N, bk := D.nx } ((σ'.set i (some (.int (m : Nat)))).set j (some v)) H') (hd : ∀ σ' H', Ex H H' → S σ' → D.nx σ' H') :
    tFor (iEnum K (tCons (tVar k) tNil)) (gTup K n (gCons (gName i) (gCons (gName j) gNil))) tu D σ H := by
  subst hn
  refine ⟨_, hv, l, xs, rfl, hl, ?_⟩
  refine for_it (walk_enum (K := K) (xs := xs)) (fun _ σ' H' => Ex H H' ∧ S σ') ⟨Ex.refl H, h0⟩ (fun _ _ _ _ q => ex_l q.1 hl) ?_ fun σ' H' q => hd σ' H' q.1 q.2
  rintro m y σ' H' H'' hi ⟨e1, hS⟩ ⟨T, y1, y2, rfl, hT, rfl, hy1, hy2⟩
  obtain rfl : V.int (m : Nat) = y1 := Option.some.inj hy1
  refine ⟨T, _, rfl, SqT.of upd_same, rfl, _, _, rfl, _, _, rfl, rfl, ?_⟩
  exact hs m y2 σ' _ (e1.trans (Ex.new hT)) hy2 hS _ fun σ2 H2 e3 s2 => ⟨(e1.trans (Ex.new hT)).trans e3, s2⟩
theorem el_if {xs : List V} {b : Bool} (h : EvT t σ H b) (h1 : b = true → EvL ta σ H xs) (h2 : b = false → EvL tb σ H xs) : EvL (tIf t ta tb) σ H xs := fun H1 e Q q => h H1 e _ fun H2 e2 => by
  cases b with
  | true =>
    show ta σ H2 Q
    exact h1 rfl H2 (e.trans e2) Q fun p H3 hp e3 h3 => q p H3 (fresh_back e2 hp) (e2.trans e3) h3
  | false =>
    show tb σ H2 Q
    exact h2 rfl H2 (e.trans e2) Q fun p H3 hp e3 h3 => q p H3 (fresh_back e2 hp) (e2.trans e3) h3
theorem q_asgE {i : Nat} {C : Addr} {fs : List (Str × V)} (h : EvX te σ H C fs) (k : ∀ a H1, Ex H H1 → XAt H1 a C fs → tz D (σ.set i (some (.ref a))) H1) : tSeq (tAsg te (gName i)) tz D σ H :=
  h H (Ex.refl H) _ fun a H1 e hx => k a H1 e hx
theorem ev_xflX {C : Addr} {fs : List (Str × V)} {f : Str} {v : V} (h : EvX te σ H C fs) (T : XCl K C) (hno : PySem.W.findIn K (.ref C) f = some none) (hl : fs.lookup f = some v) : Ev (tXfl K f te) σ H v := fun H1 e Q q =>
  h H1 e _ fun a H2 e2 hx => ⟨a, C, fs, v, rfl, T, hno, hx, hl, q H2 e2⟩
theorem rv_neSelf {x : V} (h : SelfV K H x) : RV (rNeSelf K) x x H (.bl false) := fun H1 e Q q => ⟨rfl, h.ex e, q H1 (Ex.refl H1)⟩
/-- a list in a slot != [..] -/
theorem ev_neVL {xs ys : List V} {r : Bool} {p : Addr} (ha : Ev ta σ H (.ref p)) (hp : SqL K H p xs) (hb : EvL tb σ H ys) (he : LEq xs ys r) : Ev (tOp (rNeL K) ta tb) σ H (.bl (!r)) :=
  ev_opL ha hb fun q H1 hq e H2 e2 Q k => ⟨p, q, xs, ys, r, rfl, rfl, ex_l (e.trans e2) hp, SqL.of (e2 _ _ hq), he, k H2 (Ex.refl H2)⟩
theorem evx_p {C : Addr} {fs : List (Str × V)} (h : EvX te σ H C fs) : EvP te σ H (fun v H => ∃ a, v = .ref a ∧ XAt H a C fs) := fun H1 e Q q => h H1 e _ fun a H2 e2 hx => q _ H2 e2 ⟨a, rfl, hx⟩
end
end He
set_option Elab.async false
set_option linter.all false
set_option maxRecDepth 100000
set_option maxHeartbeats 4000000
set_option autoImplicit false
namespace He
open PySem PySem.Spec PyProof.Rows L2 Evl
section
variable {K : PySem.W.Frag} {σ : L2.St} {H H' : Hp} {te tb : TE} {ta : TA} {D : Ends} {tu tz : TS} {t : TT} {g : TG}
theorem Off.mut {p q : Addr} {H H' : Hp} (e : Off p H H') (h : H q = none) {o : HO} : Off p H (upd H' q o) := fun a u ha n => by
  rw [upd_ne (ne_of_none ha h)]
  exact e a u ha n
/-- [e for t in range(m)], m and the items drawn -/
theorem lc_pen {p c : Addr} {n0 L M : Nat} {j : Nat} {vs : List Nat} {R : V → Prop} {Q : VK} (hP : PenAt K n0 H p c) (hM : M ≤ 1000)
    (hta : ∀ Q' : List V → Hp → Prop, (∀ (m : Nat) H1, L ≤ m → m ≤ M → Off p H H1 → PenAt K (n0 + 1) H1 p c → Q' [.int (m : Nat)] H1) → ta σ H Q')
    (hw : ∀ x, wipe ((wipe σ vs).set j (some x)) vs = wipe σ vs)
    (hte : ∀ (i k : Nat) H1, i < M → k ≤ n0 + 1 + M → Off p H H1 → PenAt K k H1 p c → ∀ Q' : VK, (∀ x H2, R x → Off p H1 H2 → PenAt K (k + 1) H2 p c → Q' x H2) → te ((wipe σ vs).set j (some (.int (i : Nat)))) H1 Q')
    (hQ : ∀ (xs : List V) (l : Addr) H2, L ≤ xs.length → xs.length ≤ M → (∀ x ∈ xs, R x) → H2 l = some (.lst xs) → l ≠ p → H l = none → Off p H H2 → PenAt K (n0 + 1 + M) H2 p c → Q (.ref l) H2) :
    tLc (iRng1 ta) (gName j) tYes te vs σ H Q := by
  refine hta _ fun m H1 hL hm off1 pen1 => ⟨(m : Int), rfl, by omega, by omega, fun Dl hD => ?_⟩
  obtain ⟨op, hp1⟩ := pen1.there
  have hDp : p ≠ Dl := ne_of_none hp1 hD
  have hDl : H Dl = none := off1.back hp1 hD
  refine lc_range (lo := 0) (n := (m : Int).toNat) (fun i H' => ∃ acc, H' Dl = some (.lst acc) ∧ acc.length = i ∧ (∀ x ∈ acc, R x) ∧ Off p H1 H' ∧ PenAt K (n0 + 1 + i) H' p c) ⟨[], upd_same, rfl, fun x hx => (nomatch hx), Off.of (Ex.new hD), pen1.ex (Ex.new hD)⟩ ?_ ?_
  · rintro i H' hi ⟨acc, ha, hlen, hR, off2, pen2⟩
    have e0 : (0 : Int) + (i : Int) = (i : Int) := Int.zero_add _
    show wipe ((wipe σ vs).set j (some (.int ((0 : Int) + (i : Int))))) vs = wipe σ vs ∧ te ((wipe σ vs).set j (some (.int ((0 : Int) + (i : Int))))) H' fun y H4 => ∃ acc, H4 Dl = some (.lst acc) ∧ acc.length < sizeLine ∧ _
    rw [e0]
    refine ⟨hw _, hte i (n0 + 1 + i) H' (by omega) (by omega) (off1.trans off2) pen2 _ fun x H2 hx off3 pen3 => ⟨acc, off3 _ _ ha (Ne.symm hDp), sz_lt (by omega), acc ++ [x], upd_same, ?_, ?_, Off.mut (off2.trans off3) hD, ?_⟩⟩
    · rw [List.length_append, hlen]
      rfl
    · intro y hy
      rcases List.mem_append.mp hy with hy | hy
      · exact hR y hy
      · rw [List.mem_singleton.mp hy]
        exact hx
    · exact PenAt.mut pen1 hD pen3
  · rintro H' ⟨acc, ha, hlen, hR, off2, pen2⟩
    exact hQ acc Dl H' (by omega) (by omega) hR ha (Ne.symm hDp) hDl (off1.trans off2) (pen2.mono (by omega))
/-- [e for i, x in enumerate(xs) if t] -/
theorem el_lcE {k i j : Nat} {l : Addr} {xs : List V} {vs : List Nat} (f : Nat → Bool) (v : Nat → V) (hv : σ[k]? = some (some (.ref l))) (hl : SqL K H l xs) (hz : xs.length ≤ 40000)
    (hw : ∀ x y, wipe (((wipe σ vs).set i (some x)).set j (some y)) vs = wipe σ vs)
    (ht : ∀ (m : Nat) (x : V) H1, Ex H H1 → xs[m]? = some x → EvT t (((wipe σ vs).set i (some (.int (m : Nat)))).set j (some x)) H1 (f m))
    (he : ∀ (m : Nat) (x : V) H1, Ex H H1 → xs[m]? = some x → f m = true → Ev te (((wipe σ vs).set i (some (.int (m : Nat)))).set j (some x)) H1 (v m)) :
    EvL (tLc (iEnum K (tCons (tVar k) tNil)) (gTup K 2 (gCons (gName i) (gCons (gName j) gNil))) t te vs) σ H (given xs.length f v) := fun H1 e Q q =>
  ⟨_, hv, l, xs, rfl, ex_l e hl, fun Dl hD =>
    lc_it (walk_enum (K := K) (xs := xs)) (Cw H1 f v Dl) ⟨hD, Ex.new hD, upd_same⟩ (fun i H' _ p => ex_l (e.trans p.2.1) hl) (fun m x H2 H3 hm pc y => by
      obtain ⟨T, y1, y2, rfl, hT, rfl, hy1, hy2⟩ := y
      obtain rfl : V.int (m : Nat) = y1 := Option.some.inj hy1
      obtain ⟨p1, p2, p3⟩ := pc
      have pc' : Cw H1 f v Dl m (upd H2 T (.tup [.int (m : Nat), y2])) := ⟨p1, p2.trans (Ex.new hT), Ex.new hT _ _ p3⟩
      exact ⟨T, _, rfl, SqT.of upd_same, rfl, _, _, rfl, _, _, rfl, rfl, hw _ _, cw_turn pc' (by omega) (ht m y2 H1 e hy2) (fun hf => he m y2 H1 e hy2 hf)⟩)
      (fun H' p => q Dl H' p.1 p.2.1 p.2.2)⟩
theorem q_asgD {i : Nat} (h : te σ H fun v H1 => tz D (σ.set i (some v)) H1) : tSeq (tAsg te (gName i)) tz D σ H := h
theorem items_of {α : Type} {f : α → V} {P : α → Prop} : ∀ {xs : List V}, (∀ x ∈ xs, ∃ a, x = f a ∧ P a) → ∃ as : List α, xs = as.map f ∧ ∀ a ∈ as, P a
  | [], _ => ⟨[], rfl, fun _ h => nomatch h⟩
  | x :: xs, h => by
    obtain ⟨a, rfl, ha⟩ := h x List.mem_cons_self
    obtain ⟨as, rfl, has⟩ := items_of (xs := xs) fun y hy => h y (List.mem_cons_of_mem _ hy)
    refine ⟨a :: as, rfl, fun b hb => ?_⟩
    rcases List.mem_cons.mp hb with rfl | hb
    · exact ha
    · exact has b hb
/-- xs != [] -/
theorem ev_ne_nil {p : Addr} {xs : List V} (ha : Ev te σ H (.ref p)) (hp : SqL K H p xs) : Ev (tOp (rNeL K) te (tLst tNil)) σ H (.bl (decide (xs ≠ []))) := by
  cases xs with
  | nil => exact ev_neVL (r := true) ha hp (el_lst ea_nil (Nat.zero_le _)) (.inr ⟨[], .nil, rfl⟩)
  | cons x r => exact ev_is (ev_neVL (r := false) ha hp (el_lst ea_nil (Nat.zero_le _)) (.inl ⟨by simp, rfl⟩)) (by rw [decide_eq_true (by simp)] <;> rfl)
end
end He
set_option Elab.async false
set_option linter.all false
set_option maxRecDepth 100000
set_option maxHeartbeats 4000000
set_option autoImplicit false
/-! words of general use: lengths, copies, loops over a tuple made in the head, calls by name. -/
namespace L2
open PySem PySem.Spec PyProof.Rows Evl
section
variable {K : PySem.W.Frag} {σ : L2.St} {H : Hp} {ta tb te tl : TE} {tu tz : TS} {t : TT} {D : Ends} {g : TG}
abbrev rLenV (K : PySem.W.Frag) : List V → Hp → VK → Prop := fun xs H Q => ∃ x n, xs = [x] ∧ LenV K x H n ∧ Q (.int n) H
abbrev rCopy (K : PySem.W.Frag) : List V → Hp → VK → Prop := fun xs H Q => ∃ p ys, xs = [.ref p] ∧ (SqL K H p ys ∨ SqT K H p ys) ∧ ∀ l : Addr, H l = none → Q (.ref l) (upd H l (.lst ys))
theorem ex_lt {H H' : Hp} {p : Addr} {xs : List V} (e : Ex H H') (h : SqL K H p xs ∨ SqT K H p xs) : SqL K H' p xs ∨ SqT K H' p xs := h.imp (ex_l e) (ex_t e)
/-- len of a list or a tuple -/
theorem ev_lenQ {p : Addr} {xs : List V} (h : Ev te σ H (.ref p)) (hp : SqL K H p xs ∨ SqT K H p xs) : Ev (tCB (rLenV K) (tCons te tNil)) σ H (.int (xs.length : Nat)) := fun H1 e Q q =>
  h H1 e _ fun H2 e2 => ⟨_, xs.length, rfl, hp.elim (fun z => .inl ⟨xs, ex_l (e.trans e2) z, rfl⟩) fun z => .inr ⟨xs, ex_t (e.trans e2) z, rfl⟩, q H2 e2⟩
theorem ev_lenNL {xs : List V} (h : EvL te σ H xs) : Ev (tCB (rLenV K) (tCons te tNil)) σ H (.int (xs.length : Nat)) := fun H1 e Q q =>
  h H1 e _ fun p H2 _ e2 h2 => ⟨_, xs.length, rfl, .inl ⟨xs, SqL.of h2, rfl⟩, q H2 e2⟩
theorem ev_lenNU {xs : List V} (h : EvU te σ H xs) : Ev (tCB (rLenV K) (tCons te tNil)) σ H (.int (xs.length : Nat)) := fun H1 e Q q =>
  h H1 e _ fun p H2 _ e2 h2 => ⟨_, xs.length, rfl, .inr ⟨xs, SqT.of h2, rfl⟩, q H2 e2⟩
theorem ev_lenZ {z : Str} (h : Ev te σ H (.str z)) (hz : z.length ≤ 1000) : Ev (tCB (rLenV K) (tCons te tNil)) σ H (.int (z.length : Nat)) := fun H1 e Q q =>
  h H1 e _ fun H2 e2 => ⟨_, z.length, rfl, ⟨sz_of (by omega), rfl⟩, q H2 e2⟩
/-- list(xs) -/
theorem el_copy {p : Addr} {xs : List V} (h : Ev te σ H (.ref p)) (hp : SqL K H p xs ∨ SqT K H p xs) : EvL (tCB (rCopy K) (tCons te tNil)) σ H xs := fun H1 e Q q =>
  h H1 e _ fun H2 e2 => ⟨p, xs, rfl, ex_lt (e.trans e2) hp, fun l hl => q l _ (fresh_back e2 hl) (e2.trans (Ex.new hl)) upd_same⟩
theorem el_copyL {xs : List V} (h : EvL te σ H xs) : EvL (tCB (rCopy K) (tCons te tNil)) σ H xs := fun H1 e Q q =>
  h H1 e _ fun p H2 _ e2 h2 => ⟨p, xs, rfl, .inl (SqL.of h2), fun l hl => q l _ (fresh_back e2 hl) (e2.trans (Ex.new hl)) upd_same⟩
theorem el_copyU {xs : List V} (h : EvU te σ H xs) : EvL (tCB (rCopy K) (tCons te tNil)) σ H xs := fun H1 e Q q =>
  h H1 e _ fun p H2 _ e2 h2 => ⟨p, xs, rfl, .inr (SqT.of h2), fun l hl => q l _ (fresh_back e2 hl) (e2.trans (Ex.new hl)) upd_same⟩
/-- the first operand a new tuple -/
theorem ev_opU1 {r : R2} {y z : V} {xs : List V} (ha : EvU ta σ H xs) (hb : ∀ H1, Ex H H1 → Ev tb σ H1 y) (hr : ∀ p H1, H1 p = some (.tup xs) → Ex H H1 → RV r (.ref p) y H1 z) : Ev (tOp r ta tb) σ H z := fun H1 e Q q =>
  ha H1 e _ fun p H2 _ e2 hp => hb H2 (e.trans e2) H2 (Ex.refl H2) _ fun H3 e3 => hr p H3 (e3 p _ hp) ((e.trans e2).trans e3) H3 (Ex.refl H3) Q fun H4 e4 => q H4 ((e2.trans e3).trans e4)
/-- over a tuple that is made in the head -/
theorem s_forNU {xs : List V} (h : EvU tl σ H xs) (Pv : Addr → Nat → L2.St → Hp → Prop) (h0 : ∀ p H1, H p = none → Ex H H1 → H1 p = some (.tup xs) → Pv p 0 σ H1) (hl : ∀ p i σ' H', i ≤ xs.length → Pv p i σ' H' → SqT K H' p xs)
    (hs : ∀ p i x σ' H', xs[i]? = some x → Pv p i σ' H' → g x σ' H' fun σ2 H2 => tu { D with nx := Pv p (i + 1), ct := Pv p (i + 1), bk := D.nx } σ2 H2) (hd : ∀ p σ' H', Pv p xs.length σ' H' → D.nx σ' H') : tFor (iTup K tl) g tu D σ H :=
  h H (Ex.refl H) _ fun p H1 hp e h1 => ⟨p, rfl, ⟨xs, st_of h1⟩, for_tup (Pv p) (h0 p H1 hp e h1) (hl p) (hs p) (hd p)⟩
theorem q_forNU {xs : List V} (h : EvU tl σ H xs) (Pv : Addr → Nat → L2.St → Hp → Prop) (h0 : ∀ p H1, H p = none → Ex H H1 → H1 p = some (.tup xs) → Pv p 0 σ H1) (hl : ∀ p i σ' H', i ≤ xs.length → Pv p i σ' H' → SqT K H' p xs)
    (hs : ∀ p i x σ' H', xs[i]? = some x → Pv p i σ' H' → g x σ' H' fun σ2 H2 => tu { D with nx := Pv p (i + 1), ct := Pv p (i + 1), bk := tz D } σ2 H2) (hd : ∀ p σ' H', Pv p xs.length σ' H' → tz D σ' H') : tSeq (tFor (iTup K tl) g tu) tz D σ H :=
  s_forNU (D := { D with nx := tz D }) h Pv h0 hl hs hd
def SpU (sp : Sp) (vs : List V) (H : Hp) (xs : List V) : Prop := ∀ H1, Ex H H1 → ∀ Q : VK, (∀ p H2, H1 p = none → Ex H1 H2 → H2 p = some (.tup xs) → Q (.ref p) H2) → ∀ E : XK, sp vs H1 Q E
theorem eu_call {sp : Sp} {dvs vs xs : List V} {E : XK} {tq : TA} (h : EvA tq σ H vs) (hs : SpU sp (vs ++ dvs) H xs) : EvU (tCall sp dvs E tq) σ H xs := fun H1 e Q q =>
  h H1 e _ fun H2 e2 => hs H2 (e.trans e2) Q (fun p H3 hp e3 h3 => q p H3 (fresh_back e2 hp) (e2.trans e3) h3) E
theorem ev_callN0 {sp : Sp} {gV : List V → List V → List V} {ws : List V} {z : V} {n : Nat} {E : XK} {tk : TA} (h : EvA tk σ H ws) (hl : ws.length = n) (hs : SpV sp (gV [] ws) H z) : Ev (tCallN 0 n sp gV E tNil tk) σ H z := fun H1 e Q q =>
  h H1 e _ fun H2 e2 => ⟨rfl, hl, hs H2 (e.trans e2) Q (fun H3 e3 => q H3 (e2.trans e3)) E⟩
theorem eu_callN0 {sp : Sp} {gV : List V → List V → List V} {ws xs : List V} {n : Nat} {E : XK} {tk : TA} (h : EvA tk σ H ws) (hl : ws.length = n) (hs : SpU sp (gV [] ws) H xs) : EvU (tCallN 0 n sp gV E tNil tk) σ H xs := fun H1 e Q q =>
  h H1 e _ fun H2 e2 => ⟨rfl, hl, hs H2 (e.trans e2) Q (fun p H3 hp e3 h3 => q p H3 (fresh_back e2 hp) (e2.trans e3) h3) E⟩
theorem el_callN0 {sp : Sp} {gV : List V → List V → List V} {ws xs : List V} {n : Nat} {E : XK} {tk : TA} (h : EvA tk σ H ws) (hl : ws.length = n) (hs : SpL sp (gV [] ws) H xs) : EvL (tCallN 0 n sp gV E tNil tk) σ H xs := fun H1 e Q q =>
  h H1 e _ fun H2 e2 => ⟨rfl, hl, hs H2 (e.trans e2) Q (fun p H3 hp e3 h3 => q p H3 (fresh_back e2 hp) (e2.trans e3) h3) E⟩
theorem inV_nats (a : Nat) : ∀ l : List Nat, inV (.int (a : Int)) (l.map fun i => V.int (i : Nat)) = l.contains a
  | [] => rfl
  | b :: l => by
    have ih := inV_nats a l
    show (((b : Int) == (a : Int)) || inV (.int (a : Int)) (l.map fun i => V.int (i : Nat))) = _
    rw [ih, List.contains_cons]
    congr 1
    rw [Bool.eq_iff_iff, beq_iff_eq, beq_iff_eq]
    omega
theorem flat_nats : ∀ l : List Nat, (l.map fun i => V.int (i : Nat)).all flatV = true
  | [] => rfl
  | b :: l => flat_nats l
theorem inV_strs (a : Str) : ∀ l : List Str, inV (.str a) (l.map V.str) = l.contains a
  | [] => rfl
  | b :: l => by
    have ih := inV_strs a l
    show ((b == a) || inV (.str a) (l.map V.str)) = _
    rw [ih, List.contains_cons]
    congr 1
    exact Bool.beq_comm
theorem flat_strs : ∀ l : List Str, (l.map V.str).all flatV = true
  | [] => rfl
  | b :: l => flat_strs l
/-- [f(x) for x in t], t a tuple that is made for it -/
theorem el_lcT {a : Addr} {xs : List V} {j : Nat} {vs : List Nat} (f : Nat → Bool) (v : Nat → V) (h : Ev tl σ H (.ref a)) (hx : SqT K H a xs) (hz : xs.length ≤ 40000) (hw : ∀ x, wipe ((wipe σ vs).set j (some x)) vs = wipe σ vs)
    (ht : ∀ (i : Nat) (x : V) H1, Ex H H1 → xs[i]? = some x → EvT t ((wipe σ vs).set j (some x)) H1 (f i)) (he : ∀ (i : Nat) (x : V) H1, Ex H H1 → xs[i]? = some x → f i = true → Ev te ((wipe σ vs).set j (some x)) H1 (v i)) : EvL (tLc (iTup K tl) (gName j) t te vs) σ H (given xs.length f v) :=
  el_lcW (J := Itt K a) (n := xs.length) (G := fun H => SqT K H a xs) (ys := fun i x => xs[i]? = some x) _ _ walk_tup (fun H1 e R q => h H1 e _ fun H2 e2 => ⟨a, rfl, ⟨xs, ex_t (e.trans e2) hx⟩, q H2 e2 (ex_t (e.trans e2) hx)⟩) (fun H1 H2 g e => ex_t e g) hz hw (fun i x H1 e _ hy => ht i x H1 e hy) (fun i x H1 e _ hy hf => he i x H1 e hy hf)
theorem el_lcTm {a : Addr} {xs : List V} {j : Nat} {vs : List Nat} (g : V → V) (h : Ev tl σ H (.ref a)) (hx : SqT K H a xs) (hz : xs.length ≤ 40000) (hw : ∀ x, wipe ((wipe σ vs).set j (some x)) vs = wipe σ vs)
    (he : ∀ (x : V) H1, Ex H H1 → x ∈ xs → Ev te ((wipe σ vs).set j (some x)) H1 (g x)) : EvL (tLc (iTup K tl) (gName j) tYes te vs) σ H (xs.map g) := by
  have e0 : given xs.length (fun _ => true) (fun i => g (xs.getD i .non)) = xs.map g := by
    refine given_all (by rw [List.length_map]) fun i hi => ?_
    rw [List.getElem?_map, List.getElem?_eq_getElem hi, List.getD_eq_getElem?_getD, List.getElem?_eq_getElem hi]
    rfl
  rw [← e0]
  refine el_lcT _ _ h hx hz hw (fun _ _ _ _ _ => et_yes) (fun i x H1 e hy _ => ?_)
  rw [List.getD_eq_getElem?_getD, hy]
  exact he x H1 e (List.mem_of_getElem? hy)
theorem el_lcNU {xs : List V} {j : Nat} {vs : List Nat} (g : V → V) (h : EvU tl σ H xs) (hz : xs.length ≤ 40000) (hw : ∀ x, wipe ((wipe σ vs).set j (some x)) vs = wipe σ vs)
    (he : ∀ (x : V) H1, Ex H H1 → x ∈ xs → Ev te ((wipe σ vs).set j (some x)) H1 (g x)) : EvL (tLc (iTup K tl) (gName j) tYes te vs) σ H (xs.map g) := fun H1 e Q q =>
  h H1 e _ fun p H2 _ e2 hp =>
    (el_lcTm (K := K) (te := te) (tl := tC (.ref p)) (σ := σ) (H := H2) (vs := vs) (j := j) g ev_c (SqT.of hp) hz hw fun x H3 e3 hx => he x H3 ((e.trans e2).trans e3) hx) H2 (Ex.refl H2) Q fun r H3 nr e3 hr => q r H3 (fresh_back e2 nr) (e2.trans e3) hr
/-- tuple(xs) of a new list -/
abbrev rTupOf (K : PySem.W.Frag) : List V → Hp → VK → Prop := fun xs H Q => ∃ p ys, xs = [.ref p] ∧ ((SqL K H p ys ∧ ∀ l : Addr, H l = none → Q (.ref l) (upd H l (.tup ys))) ∨ SqT K H p ys ∧ Q (.ref p) H)
theorem eu_tupL {xs : List V} (h : EvL te σ H xs) : EvU (tCB (rTupOf K) (tCons te tNil)) σ H xs := fun H1 e Q q =>
  h H1 e _ fun p H2 _ e2 h2 => ⟨p, xs, rfl, .inl ⟨SqL.of h2, fun l hl => q l _ (fresh_back e2 hl) (e2.trans (Ex.new hl)) upd_same⟩⟩
theorem eu_tupV {a : Addr} {xs : List V} (h : Ev te σ H (.ref a)) (ha : SqL K H a xs) : EvU (tCB (rTupOf K) (tCons te tNil)) σ H xs := fun H1 e Q q =>
  h H1 e _ fun H2 e2 => ⟨a, xs, rfl, .inl ⟨ex_l (e.trans e2) ha, fun l hl => q l _ (fresh_back e2 hl) (e2.trans (Ex.new hl)) upd_same⟩⟩
/-- [..] == [] -/
theorem ev_eq_nilL {xs : List V} (h : EvL te σ H xs) : Ev (tOp (rEqL K) te (tLst tNil)) σ H (.bl (decide (xs = []))) := ev_opLL h (el_lst ea_nil (Nat.zero_le _)) fun p q H1 hp hq _ H2 e2 Q k => by
  cases xs with
  | nil => exact ⟨p, q, _, _, true, rfl, rfl, SqL.of (e2 _ _ hp), SqL.of (e2 _ _ hq), .inr ⟨[], .nil, rfl⟩, k H2 (Ex.refl H2)⟩
  | cons x r =>
    rw [decide_eq_false (by simp)] at k
    exact ⟨p, q, _, _, false, rfl, rfl, SqL.of (e2 _ _ hp), SqL.of (e2 _ _ hq), .inl ⟨by simp, rfl⟩, k H2 (Ex.refl H2)⟩
theorem inv_sign (d : Nat) : ∀ l : List Nat, inV (.str ⟨#[d]⟩) (l.map fun c => V.str ⟨#[c]⟩) = l.contains d
  | [] => rfl
  | b :: l => by
    have ih := inv_sign d l
    show (((⟨#[b]⟩ : Str) == (⟨#[d]⟩ : Str)) || inV (.str ⟨#[d]⟩) (l.map fun c => V.str ⟨#[c]⟩)) = _
    rw [ih, List.contains_cons]
    congr 1
    rw [Bool.eq_iff_iff, beq_iff_eq, beq_iff_eq]
    constructor
    · intro h
      have h1 := congrArg (fun s : Str => s.cps.toList) h
      exact (List.cons.inj h1).1.symm
    · intro h
      rw [h]
end
end L2
set_option Elab.async false
set_option linter.all false
set_option maxRecDepth 100000
set_option maxHeartbeats 4000000
set_option autoImplicit false
/-! A head that knows of defs the empty tables of their code objects; a def's rule that tells its code object. -/
namespace He
open PySem PySem.Spec PyProof.Rows L2
def obsZ (n : Nat) (chk : PySem.W.Frag → Bool) (fa : List Fa) (fn : List DefD) (ex : List ED) (tf : List Defn) (g : Addr → Option Obj) : AlD × Bool :=
  (obsR chk fa fn ex (frT g (PySem.cStatics :: asD g n)), tabsB g tf (frT g (PySem.cStatics :: asD g n)))
structure SaysZ (chk : PySem.W.Frag → Bool) (fa : List Fa) (fn : List DefD) (ex : List ED) (tf : List Defn) (h : Heap) (K : PySem.W.Frag) : Prop where
  r : SaysR chk fa fn ex K
  hd : ∀ p ∈ tf, PySem.W.codeHdIn K (cT K p).1 (cT K p).2 = true
  out : ∀ p ∈ tf, K.lookup (cT K p).2 = none
  empty : ∀ p ∈ tf, h.get? (cT K p).2 = some { cls := .none, data := .fields #[] }
theorem saysZ_of {n : Nat} {chk : PySem.W.Frag → Bool} {fa : List Fa} {fn : List DefD} {ex : List ED} {tf : List Defn} {h : Heap} (e : obsZ n chk fa fn ex tf h.get? = (valR fn ex, true)) : SaysZ chk fa fn ex tf h (frT h.get? (PySem.cStatics :: asD h.get? n)) := by
  have e1 : obsR chk fa fn ex (frT h.get? (PySem.cStatics :: asD h.get? n)) = valR fn ex := congrArg (fun z : AlD × Bool => z.1) e
  have h2 : tabsB h.get? tf (frT h.get? (PySem.cStatics :: asD h.get? n)) = true := congrArg (fun z : AlD × Bool => z.2) e
  have key : ∀ p ∈ tf, PySem.W.codeHdIn (frT h.get? (PySem.cStatics :: asD h.get? n)) (cT (frT h.get? (PySem.cStatics :: asD h.get? n)) p).1 (cT (frT h.get? (PySem.cStatics :: asD h.get? n)) p).2 = true ∧ ∃ o, h.get? (cT (frT h.get? (PySem.cStatics :: asD h.get? n)) p).2 = some o ∧ emptyTab o = true := fun p hp => by
    obtain ⟨h3, h4⟩ := ba (List.all_eq_true.mp h2 p hp)
    refine ⟨h3, ?_⟩
    cases q : h.get? (cT (frT h.get? (PySem.cStatics :: asD h.get? n)) p).2 with
    | none =>
      rw [q] at h4
      cases h4
    | some o =>
      rw [q] at h4
      exact ⟨o, rfl, h4⟩
  exact ⟨e1, fun p hp => (key p hp).1, fun p hp => by
    obtain ⟨_, o, q, z⟩ := key p hp
    exact frT_none q z, fun p hp => by
    obtain ⟨_, o, q, z⟩ := key p hp
    rw [q, emptyTab_eq z]⟩
def hookZ (n : Nat) (chk : PySem.W.Frag → Bool) (fa : List Fa) (fn : List DefD) (ex : List ED) (tf : List Defn) : PySem.W.Hook where
  α := AlD × Bool
  obs := fun s => obsZ n chk fa fn ex tf s.heap.get?
  val := fun _ => (valR fn ex, true)
  says := fun _ h => ∃ K : PySem.W.Frag, K.In h ∧ SaysZ chk fa fn ex tf h K
  of := fun _ _ e => ⟨_, frT_in, saysZ_of e⟩
  keeps := fun _ _ _ ⟨K, hK, c⟩ k => ⟨K, PySem.W.Frag.In.keeps hK k, ⟨c.r, c.hd, c.out, fun p hp => k _ _ (c.empty p hp)⟩⟩
theorem obsZ_eq {n : Nat} {chk : PySem.W.Frag → Bool} {fa : List Fa} {fn : List DefD} {ex : List ED} {tf : List Defn} {g : Addr → Option Obj} {s : Shared} (h : ∀ a, g a = s.heap.get? a) : obsZ n chk fa fn ex tf g = (hookZ n chk fa fn ex tf).obs s := by
  have e : g = s.heap.get? := funext h
  rw [e] <;> rfl
/-- a def's rule that tells its code object -/
theorem funD_okC {P : Program} {w : World} {K : PySem.W.Frag} {mg : Str → Option Value} {base : Heap} {x qual : Str} {params : Arguments} {body : List Stmt} {scope : Scope} {dvs : List V} {kws : List (Str × V)} {at_ : Defn} {fd : FuncData} {CX : CXT} {N ps : List Str} {k : Nat} {sp : Sp}
    (F : FunD K x qual params body scope dvs kws (fAd K at_) fd) (S : FnScope N ps scope) (len : ∀ vs H Q E, sp vs H Q E → vs.length = ps.length)
    (hbody : ∀ (A : Around) (outer : List Env) (s : Shared) (H : Hp) (vs : List V) (Q : VK) (E : XK), Room k (A.deeper (envOfC qual scope s.heap.objs.size (fAd K at_) (.ref (codeOf K at_)))) → sp vs H Q E →
      ∃ t, PSs (cxOf CX P w K mg base N qual scope (fAd K at_) (.ref (codeOf K at_)) A outer s H E) body t ∧ t { nx := fun _ H' => Q .non H', rt := Q } (start N vs) H) : FnOk P w K mg base CX (k + 1) (fAd K at_) fd ps sp := by
  obtain ⟨oc, od, dV, kV, doc, pm, an, cdv, ct, osl, rfl, lk, hcd, _, _⟩ := F.ex
  obtain ⟨c, rfl⟩ := codeIn_ref hcd
  have e := codeOf_eq lk (c := c) rfl
  rw [e] at hbody
  exact fn_of lk hcd S len fun A outer s H vs Q E hr hsp => hbody A outer s H vs Q E hr hsp
end He
set_option Elab.async false
set_option linter.all false
set_option maxRecDepth 100000
set_option maxHeartbeats 4000000
set_option autoImplicit false
/-! odd values that a law draws out of a display; what stays where lists, tables and the pen change. -/
namespace Odd
open PySem PySem.Spec PyProof.Rows L2 LamX NdefX He Evl Lam
/-- all but Z and tables stay -/
def Off2 (Z : List Addr) (H H' : Hp) : Prop := ∀ a u, H a = some u → a ∉ Z → (∀ ps, u ≠ .tbl ps) → H' a = some u
theorem Off2.refl (Z : List Addr) (H : Hp) : Off2 Z H H := fun _ _ h _ _ => h
theorem Off2.trans {Z : List Addr} {H H1 H2 : Hp} (a : Off2 Z H H1) (b : Off2 Z H1 H2) : Off2 Z H H2 := fun x u h n t => b x u (a x u h n t) n t
theorem Off2.sub {Z W : List Addr} {H H' : Hp} (h : Off2 Z H H') (s : ∀ a ∈ Z, a ∈ W) : Off2 W H H' := fun a u e n t => h a u e (fun z => n (s a z)) t
theorem Off2.of {Z : List Addr} {H H' : Hp} (e : Ex H H') : Off2 Z H H' := fun a u h _ _ => e a u h
theorem Off2.off {p : Addr} {H H' : Hp} (e : Off p H H') : Off2 [p] H H' := fun a u h n _ => e a u h fun z => n (List.mem_singleton.mpr z)
theorem Off2.extN {Z : List Addr} {H H' : Hp} (e : ExtN H H') : Off2 Z H H' := fun a u h _ t => e a u h t
theorem Off2.mut {Z : List Addr} {H H' : Hp} {q : Addr} (e : Off2 Z H H') (m : q ∈ Z) {o : HO} : Off2 Z H (upd H' q o) := fun a u h n t => by
  rw [upd_ne (fun z => n (by rw [z]; exact m))]
  exact e a u h n t
theorem lamO_lst {f : Addr} {D : LD} (xs : List V) : LamO f D ≠ .lst xs := fun z => by
  unfold LamO at z
  cases z
theorem codeO_lst {c : Addr} {q : Str} (xs : List V) : CodeO c q ≠ .lst xs := fun z => by
  unfold CodeO at z
  cases z
/-- what is no list stays where p and q are lists -/
theorem Off2.keep {H H' : Hp} {p q : Addr} (o : Off2 [p, q] H H') {xs ys : List V} (hp : H p = some (.lst xs)) (hq : H q = some (.lst ys)) {a : Addr} {u : HO} (h : H a = some u) (n : ∀ zs, u ≠ .lst zs) (t : ∀ ps, u ≠ .tbl ps) : H' a = some u := o a u h (fun z => by
  rcases List.mem_cons.mp z with e | z
  · rw [e, hp] at h
    exact n _ (Option.some.inj h).symm
  · rw [List.mem_singleton.mp z, hq] at h
    exact n _ (Option.some.inj h).symm) t
/-! tables -/
theorem tabs_off {T : List (Addr × Str)} {H H' : Hp} {p : Addr} {xs : List V} (t : Tabs T H) (hp : H p = some (.lst xs)) (o : Off p H H') : Tabs T H' := fun m hm => by
  obtain ⟨ps, h1, h2, h3⟩ := t m hm
  have ne : ∀ {a : Addr} {u : HO}, H a = some u → (∀ zs, u ≠ .lst zs) → a ≠ p := fun h n z => by
    rw [z, hp] at h
    exact n _ (Option.some.inj h).symm
  refine ⟨ps, o _ _ h1 (ne h1 fun _ z => nomatch z), h2, fun pos cv hc => ?_⟩
  obtain ⟨c, e1, e2⟩ := h3 pos cv hc
  exact ⟨c, e1, o _ _ e2 (ne e2 codeO_lst)⟩
theorem tabs_mut {T : List (Addr × Str)} {H : Hp} {q : Addr} {xs : List V} {o : HO} (t : Tabs T H) (hq : H q = some (.lst xs)) : Tabs T (upd H q o) := tabs_off t hq fun a u h n => by
  rw [upd_ne n]
  exact h
def isSc : V → Bool
  | .non => true
  | .bl _ => true
  | .int _ => true
  | .str z => decide (z.length ≤ 1000)
  | _ => false
def scKind : V → String
  | .non => "NoneType"
  | .bl _ => "bool"
  | .int _ => "int"
  | _ => "str"
section
variable {K : PySem.W.Frag} {H H' : Hp} {v : V} {p q : Addr}
theorem sc_kd (h : isSc v = true) : Kd K H v (scKind v) := by
  cases v with
  | non => exact kd_non
  | bl b => exact kd_bl b
  | int i => exact kd_int i
  | str z => exact kd_str z
  | _ => cases h
theorem off2_fresh (o : Off2 [p, q] H H') (n : H q = none) : Off2 [p] H H' := fun a u h m t => o a u h (fun z => by
  rcases List.mem_cons.mp z with e | z
  · exact m (List.mem_singleton.mpr e)
  · exact ne_of_none h n (List.mem_singleton.mp z)) t
theorem off2_at (o : Off2 [p] H H') {a : Addr} {u : HO} (n : a ≠ p) (h : H a = some u) (t : ∀ ps, u ≠ .tbl ps) : H' a = some u := o a u h (fun z => n (List.mem_singleton.mp z)) t
/-- no f: a plain value that is none, or a list -/
def GB (f : V → Bool) (p : Addr) (v : V) (H : Hp) : Prop := (isSc v = true ∧ f v = false) ∨ ∃ a xs, v = .ref a ∧ a ≠ p ∧ H a = some (.lst xs)
theorem GB.st {f : V → Bool} (h : GB f p v H) (o : Off2 [p] H H') : GB f p v H' := h.imp id fun ⟨a, xs, e, n, z⟩ => ⟨a, xs, e, n, off2_at o n z fun _ y => nomatch y⟩
theorem GB.kd {f : V → Bool} (h : GB f p v H) : ∃ T, Kd K H v T := by
  rcases h with ⟨h, _⟩ | ⟨a, xs, rfl, _, z⟩
  · exact ⟨_, sc_kd h⟩
  · exact ⟨_, kd_lst z⟩
theorem GB.no {f : V → Bool} (hf : ∀ a, f (.ref a) = false) (h : GB f p v H) : f v = false := by
  rcases h with ⟨_, h⟩ | ⟨a, xs, rfl, _, _⟩
  · exact h
  · exact hf a
end
section
variable {K : PySem.W.Frag} {σ : L2.St} {H : Hp} {te tl tk tv : TE} {ta : TA} {p c : Addr} {G : V → Hp → Prop} {m n : Nat} {Q : VK}
/-- each of so many items has G -/
def EvAll (ta : TA) (σ : L2.St) (H : Hp) (G : V → Hp → Prop) (m : Nat) : Prop := ∀ H1, Ex H H1 → ∀ N : List V → Hp → Prop, (∀ vs H2, Ex H1 H2 → vs.length = m → (∀ v ∈ vs, G v H2) → N vs H2) → ta σ H1 N
theorem all_nil : EvAll tNil σ H G 0 := fun H1 _ N q => q [] H1 (Ex.refl H1) rfl fun _ h => nomatch h
theorem all_cons (st : Stab G) (h : EvP te σ H G) (hr : EvAll ta σ H G m) : EvAll (tCons te ta) σ H G (m + 1) := fun H1 e N q =>
  h H1 e _ fun v H2 e2 g => hr H2 (e.trans e2) _ fun vs H3 e3 l all => q (v :: vs) H3 (e2.trans e3) (by rw [List.length_cons, l]) fun x hx => (List.mem_cons.mp hx).elim (fun z => by rw [z]; exact st _ _ _ g e3) (all x)
/-- a list of so many items, each has G -/
def EvLG (te : TE) (σ : L2.St) (H : Hp) (G : V → Hp → Prop) (m : Nat) : Prop := ∀ H1, Ex H H1 → ∀ Q : VK, (∀ l vs H2, H1 l = none → Ex H1 H2 → H2 l = some (.lst vs) → vs.length = m → (∀ v ∈ vs, G v H2) → Q (.ref l) H2) → te σ H1 Q
theorem lg_lst (st : Stab G) (h : EvAll ta σ H G m) (few : m ≤ 1000) : EvLG (tLst ta) σ H G m := fun H1 e Q q =>
  h H1 e _ fun vs H2 e2 l all => ⟨sz_of (by omega), fun a na => q a vs _ (fresh_back e2 na) (e2.trans (Ex.new na)) upd_same l fun v hv => st _ _ _ (all v hv) (Ex.new na)⟩
theorem lg_cat {a : Addr} {xs : List V} (st : Stab G) (h : Ev te σ H (.ref a)) (ha : H a = some (.lst xs)) (hx : ∀ v ∈ xs, G v H) (hb : EvLG tl σ H G m) (few : xs.length + m ≤ 1000) : EvLG (tOp rCat te tl) σ H G (xs.length + m) := fun H1 e Q q =>
  h H1 e _ fun H2 e2 => hb H2 (e.trans e2) _ fun b vs H3 nb e3 hb l all => ⟨a, b, xs, vs, rfl, rfl, ((e.trans e2).trans e3) _ _ ha, hb, sz_of (by omega), fun r nr => q r _ _ (fresh_back (e2.trans e3) nr) ((e2.trans e3).trans (Ex.new nr)) upd_same (by rw [List.length_append, l]) fun v hv => (List.mem_append.mp hv).elim (fun z => st _ _ _ (hx v z) (((e.trans e2).trans e3).trans (Ex.new nr))) fun z => st _ _ _ (all v z) (Ex.new nr)⟩
theorem evp_ev {v : V} {R : V → Hp → Prop} (h : Ev te σ H v) (r : ∀ H1, Ex H H1 → R v H1) : EvP te σ H R := fun H1 e Q q => h H1 e _ fun H2 e2 => q v H2 e2 (r H2 (e.trans e2))
theorem evp_c {v : V} (h : ∀ H1, Ex H H1 → G v H1) : EvP (tC v) σ H G := evp_ev ev_c h
/-- a new list, off p -/
theorem evp_lstG {vs : List V} (hp : ∃ o, H p = some o) (h : EvA ta σ H vs) (few : vs.length ≤ 1000) (g : ∀ a H1, a ≠ p → H1 a = some (.lst vs) → Ex H H1 → G (.ref a) H1) : EvP (tLst ta) σ H G := fun H1 e Q q =>
  (el_lst h (by omega)) H1 e _ fun a H2 na e2 ha => q _ H2 e2 (g a H2 (Ne.symm (ne_of_none (e _ _ hp.choose_spec) na)) ha (e.trans e2))
theorem evp_tupG {vs : List V} (hp : ∃ o, H p = some o) (h : EvA ta σ H vs) (few : vs.length ≤ 1000) (g : ∀ a H1, a ≠ p → H1 a = some (.tup vs) → Ex H H1 → G (.ref a) H1) : EvP (tTup ta) σ H G := fun H1 e Q q =>
  (eu_tup h (by omega)) H1 e _ fun a H2 na e2 ha => q _ H2 e2 (g a H2 (Ne.symm (ne_of_none (e _ _ hp.choose_spec) na)) ha (e.trans e2))
theorem gb_st {f : V → Bool} : Stab (GB f p) := fun v H H' h e => h.st (Off2.of e)
theorem gb_off {f : V → Bool} : ∀ v H1 H2, GB f p v H1 → Off p H1 H2 → GB f p v H2 := fun v H H' h e => h.st (Off2.off e)
/-- a plain value, or a list or a tuple off p -/
def GV (p : Addr) (v : V) (H : Hp) : Prop := isSc v = true ∨ ∃ a, v = .ref a ∧ a ≠ p ∧ ((∃ xs, H a = some (.lst xs)) ∨ ∃ xs, H a = some (.tup xs))
theorem GV.st {v : V} {H H' : Hp} (h : GV p v H) (o : Off2 [p] H H') : GV p v H' := h.imp id fun ⟨a, e, n, h⟩ => ⟨a, e, n, h.imp (fun ⟨xs, z⟩ => ⟨xs, off2_at o n z fun _ y => nomatch y⟩) fun ⟨xs, z⟩ => ⟨xs, off2_at o n z fun _ y => nomatch y⟩⟩
theorem gv_st : Stab (GV p) := fun v H H' h e => h.st (Off2.of e)
theorem gv_off : ∀ v H1 H2, GV p v H1 → Off p H1 H2 → GV p v H2 := fun v H H' h e => h.st (Off2.off e)
theorem GV.kd {v : V} (h : GV p v H) : ∃ T, Kd K H v T := by
  rcases h with h | ⟨a, rfl, _, ⟨xs, z⟩ | ⟨xs, z⟩⟩
  · exact ⟨_, sc_kd h⟩
  · exact ⟨_, kd_lst z⟩
  · exact ⟨_, kd_tup z⟩
theorem gv_c {v : V} {σ : L2.St} {H : Hp} (h : isSc v = true) : EvP (tC v) σ H (GV p) := evp_c fun _ _ => .inl h
theorem gv_l {vs : List V} {ta : TA} {σ : L2.St} {H : Hp} (hp : ∃ o, H p = some o) (h : EvA ta σ H vs) (few : vs.length ≤ 1000) : EvP (tLst ta) σ H (GV p) := evp_lstG hp h few fun a H1 n z _ => .inr ⟨a, rfl, n, .inl ⟨_, z⟩⟩
theorem gv_t {vs : List V} {ta : TA} {σ : L2.St} {H : Hp} (hp : ∃ o, H p = some o) (h : EvA ta σ H vs) (few : vs.length ≤ 1000) : EvP (tTup ta) σ H (GV p) := evp_tupG hp h few fun a H1 n z _ => .inr ⟨a, rfl, n, .inr ⟨_, z⟩⟩
end
end Odd
set_option Elab.async false
set_option linter.all false
set_option maxRecDepth 100000
set_option maxHeartbeats 4000000
set_option autoImplicit false
/-! words for deep data: texts, numbers, lists and tuples of such. -/
namespace L2
open PySem PySem.Spec PyProof.Rows Evl
section
variable {K : PySem.W.Frag} {σ : L2.St} {H H' : Hp} {ta tb te tl : TE} {tq : TA} {d e : PyData} {ds es : List PyData}
def EvD (K : PySem.W.Frag) (te : TE) (σ : L2.St) (H : Hp) (d : PyData) : Prop := ∀ H1, Ex H H1 → ∀ Q : VK, (∀ v H2, Ex H1 H2 → Dp K H2 v d → Q v H2) → te σ H1 Q
def EvDA (K : PySem.W.Frag) (ta : TA) (σ : L2.St) (H : Hp) (ds : List PyData) : Prop := ∀ H1, Ex H H1 → ∀ N : List V → Hp → Prop, (∀ vs H2, Ex H1 H2 → DpAll K H2 vs ds → N vs H2) → ta σ H1 N
/-- a new list of such -/
def EvDL (K : PySem.W.Frag) (te : TE) (σ : L2.St) (H : Hp) (ds : List PyData) : Prop := ∀ H1, Ex H H1 → ∀ Q : VK, (∀ p xs H2, H1 p = none → Ex H1 H2 → H2 p = some (.lst xs) → DpAll K H2 xs ds → Q (.ref p) H2) → te σ H1 Q
theorem dpAll_len : ∀ {vs : List V} {ds : List PyData}, DpAll K H vs ds → vs.length = ds.length
  | _, _, .nil => rfl
  | _, _, .cons _ a => congrArg Nat.succ (dpAll_len a)
theorem dpAll_app : ∀ {vs ws : List V} {ds es : List PyData}, DpAll K H vs ds → DpAll K H ws es → DpAll K H (vs ++ ws) (ds ++ es)
  | _, _, _, _, .nil, h => h
  | _, _, _, _, .cons x a, h => .cons x (dpAll_app a h)
theorem dpAll_map {α : Type} (f : α → V) (g : α → PyData) (h : ∀ x, Dp K H (f x) (g x)) : ∀ xs : List α, DpAll K H (xs.map f) (xs.map g)
  | [] => .nil
  | x :: xs => .cons (h x) (dpAll_map f g h xs)
theorem dpAll_mem {α : Type} (f : α → V) (g : α → PyData) : ∀ xs : List α, (∀ x ∈ xs, Dp K H (f x) (g x)) → DpAll K H (xs.map f) (xs.map g)
  | [], _ => .nil
  | x :: xs, h => .cons (h x List.mem_cons_self) (dpAll_mem f g xs fun y hy => h y (List.mem_cons_of_mem _ hy))
theorem EvD.mono (a : Ex H H') (h : EvD K te σ H d) : EvD K te σ H' d := fun H1 e Q q => h H1 (a.trans e) Q q
theorem ed_ev {v : V} (h : Ev te σ H v) (hd : ∀ H1, Ex H H1 → Dp K H1 v d) : EvD K te σ H d := fun H1 e Q q => h H1 e _ fun H2 e2 => q v H2 e2 (hd H2 (e.trans e2))
theorem ed_c {v : V} (hd : ∀ H1, Dp K H1 v d) : EvD K (tC v) σ H d := ed_ev ev_c fun H1 _ => hd H1
theorem ed_str {z : Str} : EvD K (tC (.str z)) σ H (.str z) := ed_c fun _ => .str z
theorem ed_int {i : Int} : EvD K (tC (.int i)) σ H (.int i) := ed_c fun _ => .int i
theorem ed_U {xs : List V} (h : EvU te σ H xs) (hd : ∀ H1, Ex H H1 → DpAll K H1 xs ds) : EvD K te σ H (.tuple ds) := fun H1 e Q q => h H1 e _ fun p H2 _ e2 hp => q _ H2 e2 (.tup (SqT.of hp) (hd H2 (e.trans e2)))
theorem ed_L {xs : List V} (h : EvL te σ H xs) (hd : ∀ H1, Ex H H1 → DpAll K H1 xs ds) : EvD K te σ H (.list ds) := fun H1 e Q q => h H1 e _ fun p H2 _ e2 hp => q _ H2 e2 (.lst (SqL.of hp) (hd H2 (e.trans e2)))
theorem ed_DL (h : EvDL K te σ H ds) : EvD K te σ H (.list ds) := fun H1 e Q q => h H1 e _ fun p xs H2 _ e2 hp a => q _ H2 e2 (.lst (SqL.of hp) a)
theorem da_nil : EvDA K tNil σ H [] := fun H1 _ N q => q [] H1 (Ex.refl H1) .nil
theorem da_cons (h : EvD K te σ H d) (hr : EvDA K tq σ H ds) : EvDA K (tCons te tq) σ H (d :: ds) := fun H1 e N q =>
  h H1 e _ fun v H2 e2 hd => hr H2 (e.trans e2) _ fun vs H3 e3 a => q (v :: vs) H3 (e2.trans e3) (.cons (hd.ex e3) a)
theorem ed_tup (h : EvDA K tq σ H ds) (few : ds.length ≤ 100000) : EvD K (tTup tq) σ H (.tuple ds) := fun H1 e Q q =>
  h H1 e _ fun vs H2 e2 a => ⟨sz_of (by rw [dpAll_len a]; exact few), fun p np => q _ _ (e2.trans (Ex.new np)) (.tup (SqT.of upd_same) (a.ex (Ex.new np)))⟩
theorem dl_lst (h : EvDA K tq σ H ds) (few : ds.length ≤ 100000) : EvDL K (tLst tq) σ H ds := fun H1 e Q q =>
  h H1 e _ fun vs H2 e2 a => ⟨sz_of (by rw [dpAll_len a]; exact few), fun p np => q p vs _ (fresh_back e2 np) (e2.trans (Ex.new np)) upd_same (a.ex (Ex.new np))⟩
theorem dl_cat (h : EvDL K ta σ H ds) (hb : EvDL K tb σ H es) (few : ds.length + es.length ≤ 100000) : EvDL K (tOp rCat ta tb) σ H (ds ++ es) := fun H1 e Q q =>
  h H1 e _ fun a xs H2 na e2 ha da => hb H2 (e.trans e2) _ fun b ys H3 nb e3 hb db => ⟨a, b, xs, ys, rfl, rfl, e3 _ _ ha, hb, sz_of (by rw [dpAll_len da, dpAll_len db]; exact few), fun r nr => q r _ _ (fresh_back (e2.trans e3) nr) ((e2.trans e3).trans (Ex.new nr)) upd_same (dpAll_app ((da.ex e3).ex (Ex.new nr)) (db.ex (Ex.new nr)))⟩
theorem ev_eqD (ha : EvD K ta σ H d) (hb : EvD K tb σ H e) (sd : SeqAt.shaped d = true) (se : SeqAt.shaped e = true) : Ev (tOp (rEqD K) ta tb) σ H (.bl (PyData.eqv d e)) := fun H1 e1 Q q =>
  ha H1 e1 _ fun v H2 e2 dv => hb H2 (e1.trans e2) _ fun w H3 e3 dw => ⟨d, e, dv.ex e3, dw, sd, se, q H3 (e2.trans e3)⟩
theorem ev_neD (ha : EvD K ta σ H d) (hb : EvD K tb σ H e) (sd : SeqAt.shaped d = true) (se : SeqAt.shaped e = true) : Ev (tOp (rNeD K) ta tb) σ H (.bl (!PyData.eqv d e)) := fun H1 e1 Q q =>
  ha H1 e1 _ fun v H2 e2 dv => hb H2 (e1.trans e2) _ fun w H3 e3 dw => ⟨d, e, dv.ex e3, dw, sd, se, q H3 (e2.trans e3)⟩
theorem eqv_same (sd : SeqAt.shaped d = true) : PyData.eqv d d = true := SeqAt.eqv_refl d (SeqAt.canLay_of_shaped sd)
end
end L2
set_option Elab.async false
set_option linter.all false
set_option maxRecDepth 100000
set_option maxHeartbeats 4000000
set_option autoImplicit false
/-! g(lambda: e), written straight: the lambda is made and handed to a def that calls it. -/
namespace Lam
open PySem PySem.Spec PyProof.Rows L2 LamX NdefX
def spTL (t : XK → TE) (fr : List Str) : LSp := fun ws H Q E => t E (startF fr [] ws) H Q
/-- what the lambda's call reads: its body over the names that it took along -/
def tHearL (T : List (Addr × Str)) (HT : (XK → Hp → VK → Prop) → Hp → VK → Prop) (js : List Nat) (fr : List Str) (t : XK → TE) : TE := fun σ H Q => Tabs T H ∧ ∀ H', ExtN H H' → (∀ b, H' b = none → H b = none) → Tabs T H' → HT (fun E H2 Q2 => t E (startF fr [] (js.map (slotAt σ))) H2 Q2) H' Q
def MonoHT (HT : (XK → Hp → VK → Prop) → Hp → VK → Prop) : Prop := ∀ (tl tl' : XK → Hp → VK → Prop) H Q, (∀ E Q', tl E H Q' → tl' E H Q') → HT tl H Q → HT tl' H Q
theorem pe_hearL {X : Cx} {CXl CX : CXT} {T : List (Addr × Str)} {q : Str} {c P g : Addr} {x : Str} {params : Arguments} {body : Expr} {scope : Scope} {pos p1 lp : Pos} {k j m : Nat} {HT : (XK → Hp → VK → Prop) → Hp → VK → Prop} {fr : List Str} {js : List Nat} {t : XK → TE}
    (B : TabB X.base X.mg c P) (hc : X.env.code = .ref c) (hq : q = X.env.qual ++ "<lambda>") (hm : (P, q) ∈ T) (one : ∀ p ∈ T, p.1 = P → p.2 = q) (S : LamS X.env.scope scope) (hd : defaultsOf params X.env = ([], []))
    (hfr : ∀ y ∈ fr, (y, NameKind.free) ∈ scope.names) (hjs : js.map (fun j => X.N[j]?) = fr.map some) (S2 : NScope fr [] fr scope) (hb : ∀ (cl : List (Str × Addr)) (c' : Addr) (pm ctv : Value), bindArgs ((⟨q, params, body, scope, cl, c'⟩ : LD).fd pm ctv) ⟨[], []⟩ = pure [])
    (pe : ∀ (cl : List (Str × Addr)) (c' f : Addr) (A : Around) (outer : List Env) (s : Shared) (H : Hp) (E : XK), Room k (A.deeper (envF (⟨q, params, body, scope, cl, c'⟩ : LD).nf f s.heap.objs.size)) → PE (ncx CXl X.prog X.w X.K X.mg X.base fr (⟨q, params, body, scope, cl, c'⟩ : LD).nf f A outer s H E) body (t E))
    (R : Hears CXl CX X.prog X.w X.K X.mg X.base (k + 1) j g HT) (mono : MonoHT HT) (hr : Room m X.A) (hj : j ≤ m) (hg : Gl X x) (hmg : X.mg x = some (.ref g)) (hk : PySem.W.keepIn X.K (.ref g) = true) (hx : Passes CX X E0)
    (hdb : (x == ("__debug__" : Str)) = false := by decide) : PE X (.Call (.Name x p1) [.Lambda params body scope lp] [] pos) (tHearL T HT js fr t) := by
  refine ⟨fun pins s σ H Q I ⟨hT, want⟩ => ?_⟩
  refine wpAny_Call_Name_kw (ld_glob I hg hmg ?_ hdb)
  refine PySem.W.callWith_K (h₀ := X.base) I.ok.mod.kin hk (thn ((pa_cons (pe_lam (pos := lp) B hc hq hm one S hd) pa_nil).run pos pins s σ H (fun vs H2 => ∃ f c', vs = [.ref f] ∧ Made T H f ⟨q, params, body, scope, cloFrom X.env.cells scope.names [], c'⟩ H2) I ⟨hT, fun f c' H' made => ⟨f, c', rfl, made⟩⟩) fun us s2 ⟨vs, H2, J2, r, f, c', ev, made⟩ => ⟨J2.kIn, ?_⟩) (by rfl) (by rfl)
  subst ev
  obtain ⟨u, rfl, ru⟩ : ∃ u, us = [u] ∧ L2.RelV (.ref f) u := vals1 r
  obtain rfl : u = Value.ref f := ru
  have lo : LamOk CXl X.prog X.w X.K X.mg X.base (k + 1) f ⟨q, params, body, scope, cloFrom X.env.cells scope.names [], c'⟩ fr (spTL t fr) :=
    lamOk_of S2 (fun pm ctv => hb _ _ pm ctv) fun A outer s H ws Q E hr _ h => ⟨t E, pe _ _ f A outer s H E hr, h⟩
  have cp : Caps X (cloFrom X.env.cells scope.names []) fr js := Caps.made I.ok S.free hfr hjs
  have act : ActAt CXl X.prog X.w X.K X.mg X.base (k + 1) (frs X.stack) s2 H2 f (tlOf f ⟨q, params, body, scope, cloFrom X.env.cells scope.names [], c'⟩ (js.map (slotAt σ)) (spTL t fr)) := act_of lo (cells_of J2 cp)
  have want2 := mono _ (tlOf f ⟨q, params, body, scope, cloFrom X.env.cells scope.names [], c'⟩ (js.map (slotAt σ)) (spTL t fr)) _ _ (fun E Q' h => ⟨made.fn, made.code, h⟩) (want H2 made.ext made.back made.tabs)
  refine wpAny_call (codeAny_mono (R X.A X.stack s2 H2 f _ _ Q E0 (hr.mono hj) J2.env0 made.fn act want2) fun r s3 z => ?_)
  cases r with
  | error e => exact hx pins σ H2 s2 e s3 J2 z
  | ok fl =>
    cases fl with
    | ret u => exact J2.after z
    | next => exact z.elim
    | brk => exact z.elim
    | cont => exact z.elim
end Lam
set_option Elab.async false
set_option linter.all false
set_option maxRecDepth 100000
set_option maxHeartbeats 4000000
set_option autoImplicit false
/-! a list of what was heard: lambdas made and asked one behind another. -/
namespace Odd
open PySem PySem.Spec PyProof.Rows L2 LamX NdefX He Evl Lam
/-- what a call that is heard answers: None, or a tuple told by the exception -/
def heardG (told : Str → List (Str × V) → Option (List V)) (K : PySem.W.Frag) : (XK → Hp → VK → Prop) → Hp → VK → Prop := fun tl H Q => ∃ Ech : XK, (∀ Q' : VK, (∀ v H1, (∀ H2, Ex H1 H2 → Q .non H2) → Q' v H1) → tl Ech H Q') ∧ ∀ cls d H1, Ech cls d H1 →
  ∃ (x : Str) (dx : Addr) (fs : List (Str × V)) (vs : List V), cls = .ref (ga K x) ∧ d = some dx ∧ H1 dx = some (.xd fs) ∧ told x fs = some vs ∧ ∀ p H2, Ex H1 H2 → H1 p = none → H2 p = some (.tup vs) → Q (.ref p) H2
theorem mono_heardG (told : Str → List (Str × V) → Option (List V)) (K : PySem.W.Frag) : MonoHT (heardG told K) := fun tl tl' H Q h ⟨Ech, a, b⟩ => ⟨Ech, fun Q' q => h _ _ (a Q' q), b⟩
section
variable {K : PySem.W.Frag} {told : Str → List (Str × V) → Option (List V)} {T : List (Addr × Str)} {p c q : Addr} {n m : Nat} {H0 H H' : Hp} {es : List (List V)} {σ : L2.St} {D : Ends} {tz : TS} {i : Nat} {js : List Nat} {fr : List Str} {t : XK → TE}
/-- the pen, the tables, and all else as it was at H0 -/
structure PJ (K : PySem.W.Frag) (T : List (Addr × Str)) (p c : Addr) (n : Nat) (H0 H : Hp) : Prop where
  pen0 : ∃ k, PenAt K k H0 p c
  pen : PenAt K n H p c
  tabs : Tabs T H
  rel : Off2 [p] H0 H
  back : ∀ b, H b = none → H0 b = none
theorem pen_at (h : PenAt K n H p c) : ∃ zs, H p = some (.lst zs) := let ⟨_, _, _, z, _⟩ := h; ⟨_, z⟩
theorem pen_ext (h : PenAt K n H p c) (e : ExtN H H') : PenAt K n H' p c := by
  obtain ⟨t, r, ns, h1, h2, h3⟩ := h
  exact ⟨t, r, ns, e _ _ h1 (fun _ z => nomatch z), e _ _ h2 (fun _ z => nomatch z), h3⟩
theorem PJ.start (pen : PenAt K n H p c) (tabs : Tabs T H) : PJ K T p c n H H := ⟨⟨_, pen⟩, pen, tabs, Off2.refl _ _, fun _ h => h⟩
theorem PJ.ex (I : PJ K T p c n H0 H) (e : Ex H H') : PJ K T p c n H0 H' := ⟨I.pen0, I.pen.ex e, I.tabs.ext e, I.rel.trans (Off2.of e), fun b h => I.back b (fresh_back e h)⟩
theorem PJ.off (I : PJ K T p c n H0 H) (o : Off p H H') (pen' : PenAt K m H' p c) : PJ K T p c m H0 H' :=
  ⟨I.pen0, pen', tabs_off I.tabs (pen_at I.pen).choose_spec o, I.rel.trans (Off2.off o), fun b h => I.back b (Off.back o (pen_at pen').choose_spec h)⟩
theorem PJ.extN (I : PJ K T p c n H0 H) (e : ExtN H H') (bk : ∀ b, H' b = none → H b = none) (tabs : Tabs T H') : PJ K T p c n H0 H' :=
  ⟨I.pen0, pen_ext I.pen e, tabs, I.rel.trans (Off2.extN e), fun b h => I.back b (bk b h)⟩
theorem PJ.mono (I : PJ K T p c n H0 H) (l : n ≤ m) : PJ K T p c m H0 H := { I with pen := I.pen.mono l }
theorem PJ.ne (I : PJ K T p c n H0 H) (nq : H q = none) : q ≠ p := (ne_of_none (pen_at I.pen).choose_spec nq).symm
/-- and a list of what was heard so far -/
structure RJ (K : PySem.W.Frag) (T : List (Addr × Str)) (p c q : Addr) (n : Nat) (H0 H : Hp) (es : List (Option (List V))) : Prop where
  pen0 : ∃ k, PenAt K k H0 p c
  nq : H0 q = none
  pen : PenAt K n H p c
  tabs : Tabs T H
  rel : Off2 [p, q] H0 H
  qp : q ≠ p
  hq : ∃ vs : List V, H q = some (.lst vs) ∧ vs.length = es.length ∧ ∀ (i : Nat) (v : V) (e : Option (List V)), vs[i]? = some v → es[i]? = some e → match e with
    | none => v = .non
    | some xs => ∃ a, v = .ref a ∧ a ≠ p ∧ a ≠ q ∧ H a = some (.tup xs)
variable {es : List (Option (List V))}
theorem RJ.keep (I : RJ K T p c q n H0 H es) (pen : PenAt K m H' p c) (tabs : Tabs T H') (o : ∀ a u, H a = some u → a ≠ p → (∀ ps, u ≠ .tbl ps) → H' a = some u) : RJ K T p c q m H0 H' es where
  pen0 := I.pen0
  nq := I.nq
  pen := pen
  tabs := tabs
  rel := fun a u h n t => o a u (I.rel a u h n t) (fun z => n (by rw [z]; exact List.mem_cons_self)) t
  qp := I.qp
  hq := by
    obtain ⟨vs, h1, h2, h3⟩ := I.hq
    refine ⟨vs, o _ _ h1 I.qp (fun _ z => nomatch z), h2, fun i v e hv he => ?_⟩
    have z := h3 i v e hv he
    cases e with
    | none => exact z
    | some xs =>
      obtain ⟨a, z1, z2, z3, z4⟩ := z
      exact ⟨a, z1, z2, z3, o _ _ z4 z2 (fun _ y => nomatch y)⟩
theorem RJ.ex (I : RJ K T p c q n H0 H es) (e : Ex H H') : RJ K T p c q n H0 H' es := I.keep (I.pen.ex e) (I.tabs.ext e) fun a u h _ _ => e a u h
theorem RJ.off (I : RJ K T p c q n H0 H es) (o : Off p H H') (pen' : PenAt K m H' p c) : RJ K T p c q m H0 H' es := I.keep pen' (tabs_off I.tabs (pen_at I.pen).choose_spec o) fun a u h n _ => o a u h n
theorem RJ.extN (I : RJ K T p c q n H0 H es) (e : ExtN H H') (tabs : Tabs T H') : RJ K T p c q n H0 H' es := I.keep (pen_ext I.pen e) tabs fun a u h _ t => e a u h t
theorem RJ.mono (I : RJ K T p c q n H0 H es) (l : n ≤ m) : RJ K T p c q m H0 H es := { I with pen := I.pen.mono l }
theorem RJ.at0 (I : RJ K T p c q n H0 H es) : Off2 [p] H0 H := off2_fresh I.rel I.nq
theorem RJ.list (I : RJ K T p c q n H0 H es) : ∃ vs, H q = some (.lst vs) := let ⟨vs, h, _⟩ := I.hq; ⟨vs, h⟩
theorem RJ.begin (I : PJ K T p c n H0 H) (nq : H q = none) {v : V} {e : Option (List V)} (hv : match e with
    | none => v = .non
    | some xs => ∃ a, v = .ref a ∧ a ≠ p ∧ H a = some (.tup xs)) : RJ K T p c q n H0 (upd H q (.lst [v])) [e] where
  pen0 := I.pen0
  nq := I.back q nq
  pen := I.pen.ex (Ex.new nq)
  tabs := I.tabs.ext (Ex.new nq)
  rel := (I.rel.sub fun a ha => by rw [List.mem_singleton.mp ha]; exact List.mem_cons_self).trans (Off2.of (Ex.new nq))
  qp := I.ne nq
  hq := ⟨[v], upd_same, rfl, fun i v' e' hv' he' => by
    cases i with
    | succ i => cases hv'
    | zero =>
      cases hv'
      cases he'
      cases e with
      | none => exact hv
      | some xs =>
        obtain ⟨a, z1, z2, z3⟩ := hv
        exact ⟨a, z1, z2, ne_of_none z3 nq, Ex.new nq _ _ z3⟩⟩
theorem RJ.app (I : RJ K T p c q n H0 H es) {vs : List V} (hq : H q = some (.lst vs)) {v : V} {e : Option (List V)} (hv : match e with
    | none => v = .non
    | some xs => ∃ a, v = .ref a ∧ a ≠ p ∧ a ≠ q ∧ H a = some (.tup xs)) : RJ K T p c q n H0 (upd H q (.lst (vs ++ [v]))) (es ++ [e]) where
  pen0 := I.pen0
  nq := I.nq
  pen := by
    obtain ⟨t, r, ns, h1, h2, h3⟩ := I.pen
    refine ⟨t, r, ns, by rw [upd_ne I.qp.symm]; exact h1, ?_, h3⟩
    by_cases z : c = q
    · exfalso
      obtain ⟨k, t', r', ns', k1, k2, _⟩ := I.pen0
      exact ne_of_none k2 I.nq z
    · rw [upd_ne z]
      exact h2
  tabs := tabs_mut I.tabs hq
  rel := I.rel.mut (List.mem_cons_of_mem _ List.mem_cons_self)
  qp := I.qp
  hq := by
    obtain ⟨vs', h1, h2, h3⟩ := I.hq
    obtain rfl : vs' = vs := by
      rw [hq] at h1
      exact (HO.lst.inj (Option.some.inj h1)).symm
    refine ⟨vs' ++ [v], upd_same, by rw [List.length_append, List.length_append, h2]; rfl, fun i v' e' hv' he' => ?_⟩
    by_cases hi : i < vs'.length
    · rw [List.getElem?_append_left hi] at hv'
      rw [List.getElem?_append_left (by omega)] at he'
      have z := h3 i v' e' hv' he'
      cases e' with
      | none => exact z
      | some xs =>
        obtain ⟨a, z1, z2, z3, z4⟩ := z
        exact ⟨a, z1, z2, z3, by rw [upd_ne z3]; exact z4⟩
    · rw [List.getElem?_append_right (by omega)] at hv' he'
      rw [h2] at hv'
      cases hj : i - es.length with
      | succ j =>
        rw [hj] at hv'
        cases hv'
      | zero =>
        rw [hj] at hv' he'
        cases hv'
        cases he'
        cases e with
        | none => exact hv
        | some xs =>
          obtain ⟨a, z1, z2, z3, z4⟩ := hv
          exact ⟨a, z1, z2, z3, by rw [upd_ne z3]; exact z4⟩

/-! ### what is asked -/
variable {x : Str} {fs : List (Str × V)} {xs : List V} {Q : VK} {tl : XK → Hp → VK → Prop} {R : Hp → Prop}
theorem heard_err (tol : told x fs = some xs) (run : ∀ E Q', (∀ dx H1, H1 dx = some (.xd fs) → R H1 → E (.ref (ga K x)) (some dx) H1) → tl E H Q') (k : ∀ H1 a H2, R H1 → Ex H1 H2 → H1 a = none → H2 a = some (.tup xs) → Q (.ref a) H2) : heardG told K tl H Q :=
  ⟨fun cls d H1 => ∃ dx, cls = .ref (ga K x) ∧ d = some dx ∧ H1 dx = some (.xd fs) ∧ R H1, fun Q' _ => run _ Q' fun dx H1 h r => ⟨dx, rfl, rfl, h, r⟩, fun cls d H1 ⟨dx, e1, e2, h, r⟩ => ⟨x, dx, fs, xs, e1, e2, h, tol, fun a H2 e na ha => k H1 a H2 r e na ha⟩⟩
theorem heard_fine (run : ∀ E Q', (∀ v H1, R H1 → Q' v H1) → tl E H Q') (k : ∀ H1 H2, R H1 → Ex H1 H2 → Q .non H2) : heardG told K tl H Q :=
  ⟨fun _ _ _ => False, fun Q' q => run _ Q' fun v H1 r => q v H1 fun H2 e => k H1 H2 r e, fun _ _ _ h => h.elim⟩
/-- xs = [heard(lambda: ..)] -/
theorem q_hear1 (I : PJ K T p c n H0 H) (tol : told x fs = some xs) (run : ∀ H', PJ K T p c n H0 H' → ∀ E Q', (∀ dx H1, H1 dx = some (.xd fs) → PJ K T p c m H0 H1 → E (.ref (ga K x)) (some dx) H1) → t E (startF fr [] (js.map (slotAt σ))) H' Q')
    (k : ∀ q H2, RJ K T p c q m H0 H2 [some xs] → tz D (σ.set i (some (.ref q))) H2) : tSeq (tAsg (tLst (tCons (tHearL T (heardG told K) js fr t) tNil)) (gName i)) tz D σ H :=
  ⟨I.tabs, fun H' e bk tabs => heard_err (R := fun H1 => PJ K T p c m H0 H1) tol (fun E Q' h => run H' (I.extN e bk tabs) E Q' h) fun H1 a H2 r e2 na ha => ⟨by show 1 ≤ sizeLine; decide, fun q nq => k q _ (RJ.begin (e := some xs) (r.ex e2) nq ⟨a, rfl, (ne_of_none (pen_at r.pen).choose_spec na).symm, ha⟩)⟩⟩
/-- xs.append(heard(lambda: ..)) -/
theorem q_hear (I : RJ K T p c q n H0 H es) (hv : σ[i]? = some (some (.ref q))) (few : es.length < 1000) (tol : told x fs = some xs) (run : ∀ H', RJ K T p c q n H0 H' es → ∀ E Q', (∀ dx H1, H1 dx = some (.xd fs) → RJ K T p c q m H0 H1 es → E (.ref (ga K x)) (some dx) H1) → t E (startF fr [] (js.map (slotAt σ))) H' Q')
    (k : ∀ H2, RJ K T p c q m H0 H2 (es ++ [some xs]) → tz D σ H2) : tSeq (tDrop (tBM K "list" rAppend (tVar i) (tCons (tHearL T (heardG told K) js fr t) tNil))) tz D σ H := by
  obtain ⟨vs0, hq0⟩ := I.list
  refine ⟨.ref q, hv, Or.inl ⟨rfl, vs0, SqL.of hq0⟩, I.tabs, fun H' e bk tabs => heard_err (R := fun H1 => RJ K T p c q m H0 H1 es) tol (fun E Q' h => run H' (I.extN e tabs) E Q' h) fun H1 a H2 r e2 na ha => ?_⟩
  have r2 := r.ex e2
  obtain ⟨vs, hq, hl, _⟩ := r2.hq
  obtain ⟨vs1, hq1⟩ := r.list
  exact ⟨q, vs, .ref a, rfl, rfl, hq, sz_lt (by omega), k _ (r2.app hq (e := some xs) ⟨a, rfl, (ne_of_none (pen_at r.pen).choose_spec na).symm, (ne_of_none hq1 na).symm, ha⟩)⟩
theorem q_hearN (I : RJ K T p c q n H0 H es) (hv : σ[i]? = some (some (.ref q))) (few : es.length < 1000) (run : ∀ H', RJ K T p c q n H0 H' es → ∀ E Q', (∀ v H1, RJ K T p c q m H0 H1 es → Q' v H1) → t E (startF fr [] (js.map (slotAt σ))) H' Q')
    (k : ∀ H2, RJ K T p c q m H0 H2 (es ++ [none]) → tz D σ H2) : tSeq (tDrop (tBM K "list" rAppend (tVar i) (tCons (tHearL T (heardG told K) js fr t) tNil))) tz D σ H := by
  obtain ⟨vs0, hq0⟩ := I.list
  refine ⟨.ref q, hv, Or.inl ⟨rfl, vs0, SqL.of hq0⟩, I.tabs, fun H' e bk tabs => heard_fine (R := fun H1 => RJ K T p c q m H0 H1 es) (fun E Q' h => run H' (I.extN e tabs) E Q' h) fun H1 H2 r e2 => ?_⟩
  have r2 := r.ex e2
  obtain ⟨vs, hq, hl, _⟩ := r2.hq
  exact ⟨q, vs, .non, rfl, rfl, hq, sz_lt (by omega), k _ (r2.app hq (e := none) rfl)⟩
/-! ### the list, as data -/
def vD : V → PyData
  | .str z => .str z
  | .int i => .int i
  | .bl b => .bool b
  | _ => .none
def okD : V → Bool
  | .str _ => true
  | .int _ => true
  | .bl _ => true
  | .non => true
  | _ => false
theorem dp_v {H : Hp} : ∀ {v : V}, okD v = true → Dp K H v (vD v)
  | .str z, _ => .str z
  | .int i, _ => .int i
  | .bl b, _ => .bl b
  | .non, _ => .non
theorem dp_vs {H : Hp} : ∀ {vs : List V}, vs.all okD = true → DpAll K H vs (vs.map vD)
  | [], _ => .nil
  | v :: vs, h => .cons (dp_v (Bool.and_eq_true_iff.mp h).1) (dp_vs (Bool.and_eq_true_iff.mp h).2)
def eD : Option (List V) → PyData
  | none => .none
  | some xs => .tuple (xs.map vD)
def okE : Option (List V) → Bool
  | none => true
  | some xs => xs.all okD
def esD (es : List (Option (List V))) : List PyData := es.map eD
def esOk (es : List (Option (List V))) : Bool := es.all okE
theorem es_all {H : Hp} : ∀ {vs : List V} {es : List (Option (List V))}, vs.length = es.length → esOk es = true → (∀ (i : Nat) (v : V) (e : Option (List V)), vs[i]? = some v → es[i]? = some e → match e with
    | none => v = .non
    | some xs => ∃ a, v = .ref a ∧ a ≠ p ∧ a ≠ q ∧ H a = some (.tup xs)) → DpAll K H vs (esD es)
  | [], [], _, _, _ => .nil
  | v :: vs, e :: es, hl, ok, h => by
    obtain ⟨o1, o2⟩ := Bool.and_eq_true_iff.mp (show (okE e && esOk es) = true from ok)
    have h0 := h 0 v e rfl rfl
    refine .cons ?_ (es_all (Nat.succ.inj hl) o2 fun i v' e' a b => h (i + 1) v' e' a b)
    cases e with
    | none =>
      rw [show v = .non from h0]
      exact .non
    | some xs =>
      obtain ⟨a, rfl, _, _, ha⟩ := h0
      exact .tup (SqT.of ha) (dp_vs o1)
theorem dpAll_rep {H : Hp} {xs : List V} {ds : List PyData} (h : DpAll K H xs ds) : ∀ m : Nat, DpAll K H (List.replicate m xs).flatten (List.replicate m ds).flatten
  | 0 => .nil
  | m + 1 => by
    rw [List.replicate_succ, List.replicate_succ, List.flatten_cons, List.flatten_cons]
    exact dpAll_app h (dpAll_rep h m)
theorem dl_rep {σ : L2.St} {H : Hp} {ta tb : TE} {ds : List PyData} {k : Int} (h : EvDL K ta σ H ds) (hb : Ev tb σ H (.int k)) (few : 0 ≤ k ∧ k ≤ 1000 ∧ ds.length ≤ 1000) : EvDL K (tOp rRep ta tb) σ H (List.replicate k.toNat ds).flatten := fun H1 e Q q =>
  h H1 e _ fun a xs H2 na e2 ha da => hb H2 (e.trans e2) _ fun H3 e3 => ⟨a, k, xs, rfl, rfl, e3 _ _ ha, by omega, by omega, by rw [dpAll_len da, sizeLine_eq]; have := Nat.mul_le_mul few.2.2 (show k.toNat ≤ 1000 by omega); omega, fun r nr => q r _ _ (fresh_back (e2.trans e3) nr) ((e2.trans e3).trans (Ex.new nr)) upd_same (dpAll_rep ((da.ex e3).ex (Ex.new nr)) _)⟩
theorem RJ.data (I : RJ K T p c q n H0 H es) (ok : esOk es = true) : Dp K H (.ref q) (.list (esD es)) := by
  obtain ⟨vs, h1, h2, h3⟩ := I.hq
  exact .lst (SqL.of h1) (es_all h2 ok h3)
theorem open2 {ta tb : TE} {g : TG} (h : ta σ H fun v H1 => tb σ H1 fun w H2 => ([v, w] : List V).length ≤ sizeLine ∧ ∀ p, H2 p = none → g (.ref p) σ (upd H2 p (.tup [v, w])) fun σ1 H3 => tz D σ1 H3) : tSeq (tAsg (tTup (tCons ta (tCons tb tNil))) g) tz D σ H := h
end
end Odd
set_option Elab.async false
set_option linter.all false
set_option maxRecDepth 100000
set_option maxHeartbeats 4000000
set_option autoImplicit false
namespace K82
open PySem PySem.Spec PyProof.Rows L2 He Evl Lam Odd
/-- what the law reads off an exception of the class x -/
def toldX (x : Str) (fs : List (Str × V)) : Option (List V) :=
  if x = "BadWord" then (fs.lookup ("part" : Str)).map fun v => [.str "word", v] else
  if x = "TooMany" then (fs.lookup ("what" : Str)).bind fun v => (fs.lookup ("most" : Str)).map fun u => [v, u] else none
section
variable {P : Program} {w : World} {K : PySem.W.Frag} {mg : Str → Option Value} {base : Heap} {k : Nat}
theorem b_l_heard (T : Tx K mg) : Binds K (fdOf K ("_law_heard", none)) ["_law_ask"] [] := T.f_l_heard.bindsN fun _ _ _ _ _ _ us hl => match us, hl with | [_], _ => rfl
theorem ok_l_heard (T : Tx K mg) : Hears (L2.CX P w) CX0 P w K mg base k (k + 1) (ga K "_law_heard") (heardG toldX K) := by
  intro A outer s H f D tl Q E hr e0 hf act want
  refine runS T.f_l_heard sc_l_heard (b_l_heard T) hr e0 fun cdv hr => ?_
  refine ⟨_, PSs.nox (pss_cons (ps_set (i := 1) sc_l_heard.nd rfl (.inl rfl) pe_non)
    (pss_cons (ps_try_keep (i := 2) rfl rfl rfl sc_l_heard.nd rfl rfl ⟨rfl, by decide, .inl T.g_SignError⟩ LamX.takes0 (fun W pn xe tk _ => (pss_one (ps_expr (pe_actW (i := 0) tk rfl act hr rfl (.inl rfl)))))
      (fun a cls d pn => (pss_one (ps_set (i := 1) sc_l_heard.nd rfl (.inl rfl) (pv 2)))))
    (pss_cons (ps_if (pt_val (pe_callB (CallR.or2 call_isi call_isK) (by rfl) T.n_isinstance (by decide +kernel) (pa_cons (pv 1) (pa_cons (pe_glob (v := .ref (ga K "BadWord")) (by rfl) T.g_BadWord rfl) pa_nil))))
      (pss_one (ps_ret (pe_tup (pa_cons pe_str (pa_cons (pe_xfk (pv 1)) pa_nil)))))
      pss_nil)
    (pss_cons (ps_if (pt_val (pe_callB (CallR.or2 call_isi call_isK) (by rfl) T.n_isinstance (by decide +kernel) (pa_cons (pv 1) (pa_cons (pe_glob (v := .ref (ga K "TooMany")) (by rfl) T.g_TooMany rfl) pa_nil))))
      (pss_one (ps_ret (pe_tup (pa_cons (pe_xfk (pv 1)) (pa_cons (pe_xfk (pv 1)) pa_nil)))))
      pss_nil)
    (pss_one (ps_ret (pe_ifExp (pt_cmpR op_isN (pv 1) pe_non (nomark _)) pe_non (pe_tup (pa_cons pe_str (pa_cons pe_non pa_nil)))))))))), ?_⟩
  -- slots: [(0, '_law_ask'), (1, '_law_caught'), (2, 'error')]
  obtain ⟨Ech, fine, bad⟩ := want
  refine q_asgD ?_
  show tActW 0 f tl _ _ _ _
  refine ⟨Ech, fun cls d H1 hx => ?_, rfl, ⟨D, hf⟩, fine _ fun v H1 k => ?_⟩
  · obtain ⟨x, dx, fs, vs, rfl, rfl, hd, tol, k⟩ := bad cls d H1 hx
    have bs : ∀ y ∈ (["SignError"] : List Str), y ∈ excs.map (·.1) := by intro y hy; simp at hy; subst hy; decide
    have ne2 : ∀ {a : Addr}, H1 a = none → XKAt (upd H1 a (exk a (.ref (ga K x)) (some dx))) a (ga K x) fs := fun {a} na => ⟨dx, upd_same, (upd_ne (ne_of_none hd na)).trans hd⟩
    have up : ∀ {a : Addr} {o : HO}, H1 a = none → Ex H1 (upd H1 a o) := fun {a o} na b u e => (upd_ne (ne_of_none e na)).trans e
    unfold toldX at tol
    by_cases hx0 : x = "BadWord"
    · rw [if_pos hx0] at tol
      subst hx0
      have mx := mem_BadWord
      refine ⟨true, exm_exc T.xs mx mem_SignError bs (by decide), fun _ a na => ?_, fun z => nomatch z⟩
      have hX := ne2 na
      have u0 := up (o := exk a (.ref (ga K "BadWord")) (some dx)) na
      obtain ⟨v, lv, rfl⟩ := Option.map_eq_some_iff.mp tol
      refine s_asg (ev_var rfl) fun H2 e2 => ?_
      have x2 := hX.ex e2
      have t2 := u0.trans e2
      refine q_when (b := true) (et_B (ev_isK T.xs mx mem_BadWord bs x2 (ev_var rfl))) (fun _ H3 e3 => ?_) (fun z => nomatch z)
      have x3 := x2.ex e3
      exact s_retU (eu_tup (ea_cons ev_c (ea_cons (ev_xfk (xc_BadWord T) (nf_BadWord_part T) x3 (ev_var rfl) lv) ea_nil)) (by show 2 ≤ 100000; decide)) fun p H4 np e4 hp => k p H4 ((t2.trans e3).trans e4) (fresh_back (t2.trans e3) np) hp
    rw [if_neg hx0] at tol
    by_cases hx0 : x = "TooMany"
    · rw [if_pos hx0] at tol
      subst hx0
      have mx := mem_TooMany
      refine ⟨true, exm_exc T.xs mx mem_SignError bs (by decide), fun _ a na => ?_, fun z => nomatch z⟩
      have hX := ne2 na
      have u0 := up (o := exk a (.ref (ga K "TooMany")) (some dx)) na
      obtain ⟨v, lv, tol⟩ := Option.bind_eq_some_iff.mp tol
      obtain ⟨u, lu, rfl⟩ := Option.map_eq_some_iff.mp tol
      refine s_asg (ev_var rfl) fun H2 e2 => ?_
      have x2 := hX.ex e2
      have t2 := u0.trans e2
      refine q_when (b := false) (et_B (ev_isK T.xs mx mem_BadWord bs x2 (ev_var rfl))) (fun z => nomatch z) (fun _ H3 e3 => ?_)
      have x3 := x2.ex e3
      have t3 := t2.trans e3
      refine q_when (b := true) (et_B (ev_isK T.xs mx mem_TooMany bs x3 (ev_var rfl))) (fun _ H4 e4 => ?_) (fun z => nomatch z)
      have x4 := x3.ex e4
      have t4 := t3.trans e4
      exact s_retU (eu_tup (ea_cons (ev_xfk (xc_TooMany T) (nf_TooMany_what T) x4 (ev_var rfl) lv) (ea_cons (ev_xfk (xc_TooMany T) (nf_TooMany_most T) x4 (ev_var rfl) lu) ea_nil)) (by show 2 ≤ 100000; decide)) fun p H9 np e9 hp => k p H9 (t4.trans e9) (fresh_back t4 np) hp
    rw [if_neg hx0] at tol
    cases tol
  · have none1 : ∀ {H2 : Hp}, Ev (tVar 1) ((L2.start ["_law_ask", "_law_caught", "error"] [V.ref f]).set 1 (some .non)) H2 .non := ev_var rfl
    refine q_when (b := false) (et_B (ev_isN (xc_BadWord T) none1)) (fun z => nomatch z) fun _ H2 e2 => ?_
    refine q_when (b := false) (et_B (ev_isN (xc_TooMany T) none1)) (fun z => nomatch z) fun _ H3 e3 => ?_
    refine s_ret (v := .non) (ev_if (b := true) (et_test (ev_op none1 ev_c fun H6 e6 Q q => ⟨rfl, q H6 (Ex.refl H6)⟩)) (fun _ => ev_c) (fun z => nomatch z)) fun H6 e6 => ?_
    exact k H6 ((e2.trans e3).trans e6)
end
end K82
set_option Elab.async false
set_option linter.all false
set_option maxRecDepth 100000
set_option maxHeartbeats 4000000
set_option autoImplicit false
namespace K82
open PySem PySem.Spec PyProof.Rows L2 He Evl
/-! ### what the checks say of a value -/
def intV : V → Bool
  | .int _ => true
  | _ => false
def letters : Str := "abcdefghijklmnopqrstuvwxyz"
def nameMarks : Str := "abcdefghijklmnopqrstuvwxyz0123456789"
def nameB (z : Str) : Bool := decide (1 ≤ z.length) && decide (z.length ≤ 12) && decide (z.cps.toList.getD 0 0 ∈ letters.cps.toList) && z.cps.toList.all fun c => decide (c ∈ nameMarks.cps.toList)
def nameV : V → Bool
  | .str z => nameB z
  | _ => false
def sideV (x : V) : Bool := decide (x = .str "column") || decide (x = .str "row")
def leV : V → Int → Bool
  | .int a, i => decide (a ≤ i)
  | _, _ => true
def geV : V → Int → Bool
  | .int a, i => decide (i ≤ a)
  | _, _ => true
def bndV : V → Prop
  | .non => True
  | .int _ => True
  | _ => False
section
variable {K : PySem.W.Frag} {H : Hp} {x : V} {T : String}
theorem kd_cases (h : Kd K H x T) : (x = .non ∧ T = "NoneType") ∨ (∃ b, x = .bl b ∧ T = "bool") ∨ (∃ i, x = .int i ∧ T = "int") ∨ (∃ z, x = .str z ∧ T = "str") ∨ ∃ a, x = .ref a ∧ (T = "list" ∨ T = "tuple" ∨ T = "dict") := by
  have hm := h.mem
  cases h.ty with
  | base b =>
    cases b with
    | non => exact .inl ⟨rfl, rfl⟩
    | bl x => exact .inr (.inl ⟨_, rfl, rfl⟩)
    | int i => exact .inr (.inr (.inl ⟨_, rfl, rfl⟩))
    | str x => exact .inr (.inr (.inr (.inl ⟨_, rfl, rfl⟩)))
    | flt x => exact absurd hm (by decide)
    | lst h2 => exact .inr (.inr (.inr (.inr ⟨_, rfl, .inl rfl⟩)))
    | frz h2 => exact .inr (.inr (.inr (.inr ⟨_, rfl, .inl rfl⟩)))
    | tup h2 => exact .inr (.inr (.inr (.inr ⟨_, rfl, .inr (.inl rfl)⟩)))
    | dK h2 => exact .inr (.inr (.inr (.inr ⟨_, rfl, .inr (.inr rfl)⟩)))
    | dT h2 => exact .inr (.inr (.inr (.inr ⟨_, rfl, .inr (.inr rfl)⟩)))
  | byt b => exact absurd hm (by decide)
  | set h2 => exact absurd hm (by decide)
  | kList h2 c => exact .inr (.inr (.inr (.inr ⟨_, rfl, .inl rfl⟩)))
  | kTuple h2 c => exact .inr (.inr (.inr (.inr ⟨_, rfl, .inr (.inl rfl)⟩)))
  | kDict h2 c => exact .inr (.inr (.inr (.inr ⟨_, rfl, .inr (.inr rfl)⟩)))
  | fTuple h2 => exact .inr (.inr (.inr (.inr ⟨_, rfl, .inr (.inl rfl)⟩)))
  | fDict h2 => exact .inr (.inr (.inr (.inr ⟨_, rfl, .inr (.inr rfl)⟩)))
theorem kd_int_eq (h : Kd K H x T) : (kAns T "int" && !kAns T "bool") = intV x := by
  rcases kd_cases h with ⟨rfl, rfl⟩ | ⟨b, rfl, rfl⟩ | ⟨i, rfl, rfl⟩ | ⟨z, rfl, rfl⟩ | ⟨a, rfl, rfl | rfl | rfl⟩ <;> (show _ = _; first | rfl | decide)
def isStr : V → Bool
  | .str _ => true
  | _ => false
theorem kd_str_eq (h : Kd K H x T) : kAns T "str" = isStr x := by
  rcases kd_cases h with ⟨rfl, rfl⟩ | ⟨b, rfl, rfl⟩ | ⟨i, rfl, rfl⟩ | ⟨z, rfl, rfl⟩ | ⟨a, rfl, rfl | rfl | rfl⟩ <;> (show _ = _; first | rfl | decide)
end
/-! ### the promises -/
def spInt (K : PySem.W.Frag) : Sp := fun vs H Q _ => ∃ (x : V) (T : String), vs = [x] ∧ Kd K H x T ∧ RetV (.bl (intV x)) H Q
def spWithin (K : PySem.W.Frag) : Sp := fun vs H Q _ => ∃ (x l m : V) (T : String), vs = [x, l, m] ∧ Kd K H x T ∧ bndV l ∧ bndV m ∧ RetV (.bl (match x with | .int i => leV l i && geV m i | _ => false)) H Q
/-- an element that may be asked for a name -/
structure EOk (K : PySem.W.Frag) (H : Hp) (x : V) : Prop where
  kd : ∃ T, Kd K H x T
  len : ∀ z, x = .str z → z.length ≤ 1000
theorem EOk.ex {K : PySem.W.Frag} {H H' : Hp} {x : V} (h : EOk K H x) (e : Ex H H') : EOk K H' x := ⟨h.kd.imp fun _ k => k.ex e, h.len⟩
def spName (K : PySem.W.Frag) : Sp := fun vs H Q _ => ∃ (x : V), vs = [x] ∧ EOk K H x ∧ RetV (.bl (nameV x)) H Q
def spSide (K : PySem.W.Frag) : Sp := fun vs H Q _ => ∃ (x : V) (T : String), vs = [x] ∧ Kd K H x T ∧ RetV (.bl (sideV x)) H Q
def spTruth : Sp := fun vs H Q _ => ∃ (x : V), vs = [x] ∧ RetV (.bl (decide (x = .bl true) || decide (x = .bl false))) H Q
def spIsList (K : PySem.W.Frag) : Sp := fun vs H Q _ => ∃ (x : V) (T : String), vs = [x] ∧ Kd K H x T ∧ RetV (.bl (kAny T ["list", "tuple"])) H Q
/-- a list or tuple of these -/
def SeqV (K : PySem.W.Frag) (H : Hp) (x : V) (xs : List V) : Prop := ∃ a, x = .ref a ∧ (SqL K H a xs ∨ SqT K H a xs)
theorem SeqV.ex {K : PySem.W.Frag} {H H' : Hp} {x : V} {xs : List V} (h : SeqV K H x xs) (e : Ex H H') : SeqV K H' x xs := by
  obtain ⟨a, h1, h2 | h2⟩ := h
  · exact ⟨a, h1, .inl (ex_l e h2)⟩
  · exact ⟨a, h1, .inr (ex_t e h2)⟩
theorem SeqV.kd {K : PySem.W.Frag} {H : Hp} {x : V} {xs : List V} (h : SeqV K H x xs) : ∃ T, Kd K H x T ∧ kAny T ["list", "tuple"] = true := by
  obtain ⟨a, rfl, h2 | h2⟩ := h
  · exact ⟨_, kd_sqL h2, by decide⟩
  · exact ⟨_, kd_sqT h2, by decide⟩
/-- no list, no tuple -/
def NoSeq (K : PySem.W.Frag) (H : Hp) (x : V) : Prop := ∃ T, Kd K H x T ∧ kAny T ["list", "tuple"] = false
theorem NoSeq.ex {K : PySem.W.Frag} {H H' : Hp} {x : V} (h : NoSeq K H x) (e : Ex H H') : NoSeq K H' x := h.imp fun _ k => ⟨k.1.ex e, k.2⟩
def spSeq (K : PySem.W.Frag) (f : List V → Bool) : Sp := fun vs H Q _ => ∃ (x : V), vs = [x] ∧ ((NoSeq K H x ∧ RetV (.bl false) H Q) ∨ ∃ xs, SeqV K H x xs ∧ xs.length ≤ 1000 ∧ (∀ y ∈ xs, EOk K H y) ∧ RetV (.bl (f xs)) H Q)
def namesF (xs : List V) : Bool := decide (0 < xs.length) && xs.all nameV
def wordF (xs : List V) : Bool := namesF xs && decide (xs.length ≤ 6)
def numsF (xs : List V) : Bool := xs.all intV
section
variable {P : Program} {w : World} {K : PySem.W.Frag} {mg : Str → Option Value} {base : Heap}
theorem b_is_name (T : Tx K mg) : Binds K (fdOf K ("is_name", none)) ["value"] [] := T.f_is_name.bindsN fun _ _ _ _ _ _ us hl => match us, hl with | [_], _ => rfl
theorem b_is_list (T : Tx K mg) : Binds K (fdOf K ("is_list", none)) ["value"] [] := T.f_is_list.bindsN fun _ _ _ _ _ _ us hl => match us, hl with | [_], _ => rfl
theorem b_are_names (T : Tx K mg) : Binds K (fdOf K ("are_names", none)) ["value"] [] := T.f_are_names.bindsN fun _ _ _ _ _ _ us hl => match us, hl with | [_], _ => rfl
theorem b_is_word (T : Tx K mg) : Binds K (fdOf K ("is_word", none)) ["value"] [] := T.f_is_word.bindsN fun _ _ _ _ _ _ us hl => match us, hl with | [_], _ => rfl
theorem nameB_len {z : Str} (h1 : decide (1 ≤ z.length) = true) : ∃ c r, z.cps.toList = c :: r := by
  have h : 1 ≤ z.length := of_decide_eq_true h1
  cases e : z.cps.toList with
  | nil =>
    have : z.cps.toList.length = 0 := by rw [e]; rfl
    rw [Array.length_toList] at this
    exact absurd h (by show ¬ 1 ≤ z.cps.size; omega)
  | cons c r => exact ⟨c, r, rfl⟩
theorem ok_is_name (T : Tx K mg) : FnOk P w K mg base CX0 1 (ga K "is_name") (fdOf K ("is_name", none)) ["value"] (spName K) := by
  refine T.f_is_name.ok sc_is_name (fun vs H Q E h => ?_) (fun cdv A outer s H vs Q E hr h => ?_)
  · obtain ⟨x, rfl, _⟩ := h
    rfl
  · refine ⟨_, PSs.nox (pss_cons (ps_if (PW.pt (pw_or (pt_not (pt_val (pe_callB call_isi (by rfl) T.n_isinstance (by decide +kernel) (pa_cons (pv 0) (pa_cons (pe_bltn (v := .ty "str") (by rfl) T.n_str (by decide +kernel) rfl) pa_nil))))) (pw_or1 (pt_not (pt_chain op_le op_le pe_int (pe_callB call_len (by rfl) T.n_len boot_len (pa_cons (pv 0) pa_nil)) (pe_glob (v := .int 12) (by rfl) T.g_MOST_MARKS.choose_spec ⟨_, rfl⟩))))))
        (pss_one (ps_ret pe_bl))
        pss_nil)
      (pss_one (ps_ret (pe_and (pe_cmpR op_in_sign (pe_ix ix_str (pv 0) pe_int (fun _ _ => rfl)) (pe_glob (v := .str "abcdefghijklmnopqrstuvwxyz") (by rfl) T.g_LETTERS.choose_spec ⟨_, rfl⟩) (by rfl)) (pe_one (pe_callB (cr_all rfl) (by rfl) T.n_all (by decide +kernel) (pa_cons (pe_lc (own := [("mark", 1)]) (g := (gName 1)) (tt := tYes) rfl sc_is_name.nd (pi_str (pv 0)) (blkOk_by (N := ["value", "mark"]) (sc := defScope s_is_name) (by decide +kernel)) (fun _ _ _ _ _ => pg_name (i := 1) sc_is_name.nd rfl (Or.inl rfl)) (fun _ _ _ _ _ => pts_nil) (fun _ _ _ _ _ => (pe_cmpR op_in_sign (pv 1) (pe_glob (v := .str "abcdefghijklmnopqrstuvwxyz0123456789") (by rfl) T.g_NAME_MARKS.choose_spec ⟨_, rfl⟩) (by rfl)))) pa_nil))))))), ?_⟩
    -- slots: [(0, 'value'), (1, 'mark')]
    obtain ⟨x, rfl, ⟨⟨T', hk⟩, hl⟩, k⟩ := h
    have hs := kd_str_eq hk
    have i1 : EvT (tNot (tB (tCB (rIsi K) (tCons (tVar 0) (tCons (tC (.ty "str")) tNil))))) (start ["value", "mark"] [x]) H (!isStr x) :=
      et_not (et_B (ev_is (ev_cb (ea_cons (ev_var rfl) (ea_cons ev_c ea_nil)) (rc_isi hk (by decide))) (by rw [hs])))
    cases hx : isStr x with
    | false =>
      refine q_when (b := true) ?_ (fun _ H1 e1 => s_ret ev_c fun H2 e2 => ?_) (fun hb => nomatch hb)
      · refine et_is (et_or (b := true) i1 fun hb => ?_) (by rw [hx]; rfl)
        rw [hx] at hb; cases hb
      · have z := k H2 (e1.trans e2)
        cases x <;> first | exact z | cases hx
    | true =>
      obtain ⟨z, rfl⟩ : ∃ z, x = .str z := by
        cases x with
        | str z => exact ⟨z, rfl⟩
        | _ => cases hx
      have hz := hl z rfl
      refine q_when (b := !(decide (1 ≤ z.length) && decide (z.length ≤ 12))) ?_ (fun hb H1 e1 => s_ret ev_c fun H2 e2 => ?_) (fun hb H1 e1 => ?_)
      · refine et_is (et_or (a := false) (b := !(decide (1 ≤ z.length) && decide (z.length ≤ 12))) (et_is i1 rfl) fun _ => et_not ?_) rfl
        intro H1 e Q q
        refine ⟨_, rfl, _, z.length, rfl, ⟨Nat.le_trans hz (by decide), rfl⟩, _, _, rfl, rfl, decide ((1 : Int) ≤ (z.length : Int)), rfl, ?_⟩
        have q1 := q H1 (Ex.refl H1)
        by_cases h1 : 1 ≤ z.length
        · rw [decide_eq_true (show (1 : Int) ≤ (z.length : Int) by omega)]
          refine iteT ⟨_, _, rfl, rfl, decide ((z.length : Int) ≤ 12), rfl, ?_⟩
          have e3 : decide ((z.length : Int) ≤ 12) = decide (z.length ≤ 12) := decide_eq_decide.mpr (by omega)
          rw [e3]
          rw [decide_eq_true h1] at q1
          exact q1
        · rw [decide_eq_false (show ¬ (1 : Int) ≤ (z.length : Int) by omega)]
          rw [decide_eq_false h1] at q1
          exact iteF ⟨_, rfl, q1⟩
      · have e3 : nameV (.str z) = false := by
          show nameB z = false
          unfold nameB
          have : (decide (1 ≤ z.length) && decide (z.length ≤ 12)) = false := by
            revert hb
            cases (decide (1 ≤ z.length) && decide (z.length ≤ 12)) <;> simp
          rw [this] <;> rfl
        have z1 := k H2 (e1.trans e2)
        rw [e3] at z1
        exact z1
      · have hb2 : (decide (1 ≤ z.length) && decide (z.length ≤ 12)) = true := by
          revert hb
          cases (decide (1 ≤ z.length) && decide (z.length ≤ 12)) <;> simp
        obtain ⟨c, r, hc⟩ := nameB_len (Bool.and_eq_true_iff.mp hb2).1
        have ev0 : Ev (tOp rIxS (tVar 0) (tC (.int 0))) (start ["value", "mark"] [V.str z]) H1 (.str ⟨#[c]⟩) := ev_op (ev_var rfl) ev_c (rv_ixS (Nat.le_trans hz (by decide)) (by rw [hc]; exact atI_nat (xs := c :: r) (j := 0) (v := c) rfl))
        refine s_ret (v := .bl (decide (c ∈ letters.cps.toList) && z.cps.toList.all fun c => decide (c ∈ nameMarks.cps.toList))) (ev_andV (ev_op ev0 ev_c ?_) fun _ => ?_) fun H2 e2 => ?_
        · exact fun H3 _ Q q => ⟨c, letters, rfl, rfl, q H3 (Ex.refl H3)⟩
        · rw [← all_map (fun c => decide (c ∈ nameMarks.cps.toList))]
          refine ev_all ?_
          rw [List.map_map]
          refine el_lcStr (fun c => .bl (decide (c ∈ nameMarks.cps.toList))) (ev_var rfl) (Nat.le_trans hz (by decide)) (fun _ => rfl) fun c H3 e3 hc => ?_
          exact ev_op (ev_var rfl) ev_c fun H4 _ Q q => ⟨c, nameMarks, rfl, rfl, q H4 (Ex.refl H4)⟩
        · have z1 := k H2 (e1.trans e2)
          have e3 : nameV (.str z) = (decide (c ∈ letters.cps.toList) && z.cps.toList.all fun c => decide (c ∈ nameMarks.cps.toList)) := by
            show nameB z = _
            unfold nameB
            rw [hb2, hc]
            rfl
          rw [e3] at z1
          exact z1
def spOneOf (K : PySem.W.Frag) : Sp := fun vs H Q _ => ∃ (x : V) (T : String) (a : Addr) (xs : List V), vs = [x, .ref a] ∧ Kd K H x T ∧ (∀ H1, Ex H H1 → SqT K H1 a xs) ∧ xs.all flatV = true ∧ RetV (.bl (isStr x && inV x xs)) H Q
theorem ok_is_list (T : Tx K mg) : FnOk P w K mg base CX0 1 (ga K "is_list") (fdOf K ("is_list", none)) ["value"] (spIsList K) := by
  refine T.f_is_list.ok sc_is_list (fun vs H Q E h => ?_) (fun cdv A outer s H vs Q E hr h => ?_)
  · obtain ⟨x, T', rfl, _⟩ := h
    rfl
  · refine ⟨_, PSs.nox (pss_one (ps_ret (pe_callB call_isiT (by rfl) T.n_isinstance (by decide +kernel) (pa_cons (pv 0) (pa_cons (pe_tup (pa_cons (pe_bltn (v := .ty "list") (by rfl) T.n_list (by decide +kernel) rfl) (pa_cons (pe_bltn (v := .ty "tuple") (by rfl) T.n_tuple (by decide +kernel) rfl) pa_nil))) pa_nil))))), ?_⟩
    -- slots: [(0, 'value')]
    obtain ⟨x, T', rfl, hk, k⟩ := h
    refine s_ret (ev_isiT ["list", "tuple"] (ev_var rfl) (eu_tup (ea_cons ev_c (ea_cons ev_c ea_nil)) (by decide)) hk (by decide)) fun H1 e => k H1 e
theorem sp_islist {K : PySem.W.Frag} {H : Hp} {x : V} {xs : List V} (h : SeqV K H x xs) : SpV (spIsList K) [x] H (.bl true) := fun H1 e Q q E => by
  obtain ⟨T, hk, ha⟩ := h.kd
  refine ⟨x, T, rfl, hk.ex e, ?_⟩
  rw [ha]
  exact q
theorem sp_nolist {K : PySem.W.Frag} {H : Hp} {x : V} (h : NoSeq K H x) : SpV (spIsList K) [x] H (.bl false) := fun H1 e Q q E => by
  obtain ⟨T, hk, ha⟩ := h
  refine ⟨x, T, rfl, hk.ex e, ?_⟩
  rw [ha]
  exact q
theorem lenV_seq {K : PySem.W.Frag} {H : Hp} {x : V} {xs : List V} (h : SeqV K H x xs) : LenV K x H xs.length := by
  obtain ⟨a, rfl, h2 | h2⟩ := h
  · exact .inl ⟨_, h2, rfl⟩
  · exact .inr ⟨_, h2, rfl⟩
theorem ok_are_names (T : Tx K mg) : FnOk P w K mg base CX0 2 (ga K "are_names") (fdOf K ("are_names", none)) ["value"] (spSeq K namesF) := by
  refine T.f_are_names.ok sc_are_names (fun vs H Q E h => ?_) (fun cdv A outer s H vs Q E hr h => ?_)
  · obtain ⟨x, rfl, _⟩ := h
    rfl
  · refine ⟨_, PSs.nox (pss_one (ps_ret (pe_and (pe_call (ok_is_list T) (hr.mono (by decide)) (by rfl) T.g_is_list T.f_is_list.kp (b_is_list T) .nil pass0 (pa_cons (pv 0) pa_nil)) (pe_and (pe_cmpR op_gt (pe_callB call_len (by rfl) T.n_len boot_len (pa_cons (pv 0) pa_nil)) pe_int (nomark _)) (pe_one (pe_callB (cr_all rfl) (by rfl) T.n_all (by decide +kernel) (pa_cons (pe_lc (own := [("one", 1)]) (g := (gName 1)) (tt := tYes) rfl sc_are_names.nd (pi_seq (pv 0)) (blkOk_by (N := ["value", "one"]) (sc := defScope s_are_names) (by decide +kernel)) (fun _ _ _ _ _ => pg_name (i := 1) sc_are_names.nd rfl (Or.inl rfl)) (fun _ _ _ _ _ => pts_nil) (fun _ _ _ _ _ => (pe_call (ok_is_name T) (hr.mono (by decide)) (by rfl) T.g_is_name T.f_is_name.kp (b_is_name T) .nil pass0 (pa_cons (pv 1) pa_nil)))) pa_nil))))))), ?_⟩
    -- slots: [(0, 'value'), (1, 'one')]
    obtain ⟨x, rfl, ⟨hn, k⟩ | ⟨xs, hx, hl, ha, k⟩⟩ := h
    · exact s_ret (v := .bl (false && true)) (ev_andV (ev_call (ea_cons (ev_var rfl) ea_nil) (sp_nolist hn)) fun z => nomatch z) fun H1 e => k H1 e
    · refine s_ret (v := .bl (true && (decide ((0 : Int) < (xs.length : Int)) && (xs.map nameV).all id))) (ev_andV (ev_call (ea_cons (ev_var rfl) ea_nil) (sp_islist hx)) fun _ => ev_andV ?_ fun _ => ?_) fun H1 e => ?_
      · refine ev_op (ev_cb (ea_cons (ev_var rfl) ea_nil) (z := .int (xs.length : Int)) fun H1 e Q q => ⟨x, xs.length, rfl, lenV_seq (hx.ex e), q H1 (Ex.refl H1)⟩) ev_c (rv_I0 (g := fun i j => .bl (decide (j < i))))
      · obtain ⟨a, rfl, hs⟩ := hx
        refine ev_all ?_
        rw [List.map_map]
        refine el_lcSeq (fun y => .bl (nameV y)) (ev_var rfl) hs (Nat.le_trans hl (by decide)) (fun _ => rfl) fun y H1 e hy => ?_
        exact ev_call (ea_cons (ev_var rfl) ea_nil) fun H2 e2 Q q E => ⟨y, rfl, (ha y hy).ex (e.trans e2), q⟩
      · rw [all_map, Bool.true_and]
        have e3 : decide ((0 : Int) < (xs.length : Int)) = decide (0 < xs.length) := decide_eq_decide.mpr (by omega)
        rw [e3]
        exact k H1 e
theorem ok_is_word (T : Tx K mg) : FnOk P w K mg base CX0 3 (ga K "is_word") (fdOf K ("is_word", none)) ["value"] (spSeq K wordF) := by
  refine T.f_is_word.ok sc_is_word (fun vs H Q E h => ?_) (fun cdv A outer s H vs Q E hr h => ?_)
  · obtain ⟨x, rfl, _⟩ := h
    rfl
  · refine ⟨_, PSs.nox (pss_one (ps_ret (pe_and (pe_call (ok_are_names T) (hr.mono (by decide)) (by rfl) T.g_are_names T.f_are_names.kp (b_are_names T) .nil pass0 (pa_cons (pv 0) pa_nil)) (pe_one (pe_cmpR op_le (pe_callB call_len (by rfl) T.n_len boot_len (pa_cons (pv 0) pa_nil)) (pe_glob (v := .int 6) (by rfl) T.g_MOST_IN_WORD.choose_spec ⟨_, rfl⟩) (nomark _)))))), ?_⟩
    -- slots: [(0, 'value')]
    obtain ⟨x, rfl, ⟨hn, k⟩ | ⟨xs, hx, hl, ha, k⟩⟩ := h
    · exact s_ret (v := .bl (false && true)) (ev_andV (ev_call (ea_cons (ev_var rfl) ea_nil) fun H1 e Q q E => ⟨x, rfl, .inl ⟨hn.ex e, q⟩⟩) fun z => nomatch z) fun H1 e => k H1 e
    · refine s_ret (v := .bl (namesF xs && decide ((xs.length : Int) ≤ 6))) (ev_andV (ev_call (ea_cons (ev_var rfl) ea_nil) fun H1 e Q q E => ⟨x, rfl, .inr ⟨xs, hx.ex e, hl, fun y hy => (ha y hy).ex e, q⟩⟩) fun _ => ?_) fun H1 e => ?_
      · refine ev_op (ev_cb (ea_cons (ev_var rfl) ea_nil) (z := .int (xs.length : Int)) fun H1 e Q q => ⟨x, xs.length, rfl, lenV_seq (hx.ex e), q H1 (Ex.refl H1)⟩) ev_c (rv_I0 (g := fun i j => .bl (decide (i ≤ j))))
      · have e3 : decide ((xs.length : Int) ≤ 6) = decide (xs.length ≤ 6) := decide_eq_decide.mpr (by omega)
        rw [e3]
        exact k H1 e
end
end K82
set_option Elab.async false
set_option linter.all false
set_option maxRecDepth 100000
set_option maxHeartbeats 4000000
set_option autoImplicit false
namespace K82
open PySem PySem.Spec PyProof.Rows L2 He Evl
section
variable {P : Program} {w : World} {K : PySem.W.Frag} {mg : Str → Option Value} {base : Heap}
theorem cmulL {i j : Int} (h1 : -1000000000000000000 < i) (h2 : i < 1000000000000000000) : CMul i j := .inl ⟨by omega, by omega⟩
theorem mul_bd {a b A B : Int} (a0 : 0 ≤ a) (aA : a ≤ A) (b0 : 0 ≤ b) (bB : b ≤ B) : 0 ≤ a * b ∧ a * b ≤ A * B := ⟨Int.mul_nonneg a0 b0, Int.mul_le_mul aA bB b0 (Int.le_trans a0 aA)⟩
theorem b_l_pull (T : Tx K mg) : Binds K (fdOf K ("_law_pull", none)) ["_law_ear_here", "_law_many"] [] := T.f_l_pull.bindsN fun _ _ _ _ _ _ us hl => match us, hl with | [_, _], _ => rfl
theorem ok_l_pull (T : Tx K mg) : FnOk P w K mg base CX0 1 (ga K "_law_pull") (fdOf K ("_law_pull", none)) ["_law_ear_here", "_law_many"] (spDraw K) := by
  refine T.f_l_pull.ok sc_l_pull (fun vs H Q E h => ?_) (fun cdv A outer s H vs Q E hr h => ?_)
  · obtain ⟨p, c, m, n, rfl, _⟩ := h
    rfl
  · have hu := hu_of hr
    refine ⟨_, PSs.nox (pss_cons (ps_if (pt_cmpR op_gt (pe_ix ix_list (pv 0) pe_int (fun _ _ => rfl)) pe_int (nomark _))
        (pss_cons (ps_set (i := 2) sc_l_pull.nd rfl (.inl rfl) (pe_callTy call_int1 (by rfl) T.n_int boot_int (pa_cons (pe_ix ix_list (pv 0) pe_int (fun _ _ => rfl)) pa_nil)))
        (pss_cons (ps_asg (pe_op op_fdiv (pv 2) (pv 1)) (pg_sub (pv 0) pe_int set_list))
        (pss_one (ps_ret (pe_op op_mod (pe_callTy call_int1 (by rfl) T.n_int boot_int (pa_cons (pv 2) pa_nil)) (pv 1))))))
        pss_nil)
      (pss_cons (ps_set (i := 3) sc_l_pull.nd rfl (.inl rfl) (pe_ix ix_list (pv 0) pe_int (fun _ _ => rfl)))
      (pss_cons (ps_asg (pe_op op_add (pv 3) pe_int) (pg_sub (pv 0) pe_int set_list))
      (pss_cons (ps_set (i := 4) sc_l_pull.nd rfl (.inl rfl) (pe_op op_add (pe_op op_mul pe_int (pv 3)) pe_int))
      (pss_cut (ps_if (pt_cmpR (op_neL hr.units0) (pe_ix ix_list (pv 0) pe_int (fun _ _ => rfl)) (pe_lst pa_nil) (nomark _))
        (pss_one (ps_set (i := 4) sc_l_pull.nd rfl (.inl rfl) (pe_ix ix_list (pe_ix ix_list (pv 0) pe_int (fun _ _ => rfl)) (pe_op op_mod (pe_callTy call_int1 (by rfl) T.n_int boot_int (pa_cons (pv 3) pa_nil)) (pe_callB call_len (by rfl) T.n_len boot_len (pa_cons (pe_ix ix_list (pv 0) pe_int (fun _ _ => rfl)) pa_nil))) (fun _ _ => rfl))))
        pss_nil)
      (pss_cut (ps_if (PW.pt (pw_and (pt_cmpR op_lt (pv 3) (pe_callB call_len (by rfl) T.n_len boot_len (pa_cons (pe_ix ix_list (pv 0) pe_int (fun _ _ => rfl)) pa_nil)) (nomark _)) (pw_and1 (pt_cmpR op_ge (pe_callB call_abs (by rfl) T.n_abs boot_abs (pa_cons (pv 4) pa_nil)) (pe_op op_pow pe_int pe_int) (nomark _)))))
        (pss_cons (ps_set (i := 2) sc_l_pull.nd rfl (.inl rfl) (pe_op op_add (pe_op op_mul pe_int (pe_op op_sub (pe_callB call_abs (by rfl) T.n_abs boot_abs (pa_cons (pe_callTy call_int1 (by rfl) T.n_int boot_int (pa_cons (pv 4) pa_nil)) pa_nil)) (pe_op op_pow pe_int pe_int))) (pe_callTy call_int1 (by rfl) T.n_int boot_int (pa_cons (pe_cmpR op_lt (pv 4) pe_int (nomark _)) pa_nil))))
        (pss_cons (ps_asg (pe_op op_fdiv (pv 2) (pv 1)) (pg_sub (pv 0) pe_int set_list))
        (pss_one (ps_ret (pe_op op_mod (pe_callTy call_int1 (by rfl) T.n_int boot_int (pa_cons (pv 2) pa_nil)) (pv 1))))))
        pss_nil)
      (pss_cons (ps_set (i := 5) sc_l_pull.nd rfl (.inl rfl) (pe_op op_mod (pe_callTy call_int1 (by rfl) T.n_int boot_int (pa_cons (pe_op op_pow (pe_op op_add (pe_op op_add (pe_op op_mod (pe_callTy call_int1 (by rfl) T.n_int boot_int (pa_cons (pv 4) pa_nil)) pe_int) (pe_op op_mul pe_int (pv 3))) pe_int) pe_int) pa_nil)) pe_int))
      (pss_cons (ps_set (i := 5) sc_l_pull.nd rfl (.inl rfl) (pe_op op_mod (pe_callTy call_int1 (by rfl) T.n_int boot_int (pa_cons (pe_op op_pow (pe_op op_add (pe_op op_add (pe_op op_mul (pv 5) (pe_op op_add (pe_op op_mul pe_int (pv 3)) pe_int)) (pe_op op_mul (pe_op op_mul pe_int (pv 3)) (pv 3))) pe_int) pe_int) pa_nil)) pe_int))
      (pss_one (ps_ret (pe_op op_mod (pe_callTy call_int1 (by rfl) T.n_int boot_int (pa_cons (pe_op op_fdiv (pv 5) pe_int) pa_nil)) (pv 1)))))))))))), ?_⟩
    -- slots: [(0, '_law_ear_here'), (1, '_law_many'), (2, '_law_left'), (3, '_law_at'), (4, '_law_cell'), (5, '_law_mixed')]
    obtain ⟨p, c, m, n, rfl, m0, m1, hP, hn, k⟩ := h
    obtain ⟨t, r, ns, hp, hc, hcp, t0, tn, r0, hz⟩ := hP
    have i0 : ∀ {a b d : V}, atI [a, b, d] 0 = some a := fun {a b d} => rfl
    have i1 : ∀ {a b d : V}, atI [a, b, d] 1 = some b := fun {a b d} => rfl
    have i2 : ∀ {a b d : V}, atI [a, b, d] 2 = some d := fun {a b d} => rfl
    refine ⟨_, rfl, p, _, _, _, rfl, rfl, SqL.of hp, i2, r, 0, rfl, rfl, _, rfl, ?_⟩
    refine ite2 (fun h0 => ?_) (fun h0 => ?_)
    · have h0' : (0 : Int) < r := of_decide_eq_true h0
      refine ⟨_, rfl, p, _, _, _, rfl, rfl, SqL.of hp, i2, .inl ⟨_, rfl, ?_⟩⟩
      refine ⟨_, rfl, _, rfl, _, _, rfl, rfl, ⟨m0, m1⟩, _, rfl, p, _, _, 2, rfl, rfl, hp, rfl, ?_⟩
      refine ⟨_, rfl, .inl ⟨_, rfl, _, rfl, _, _, rfl, rfl, m0, ?_⟩⟩
      refine k _ _ (Int.emod_nonneg r (by omega)) (Int.emod_lt_of_pos r m0) (Off.upd (Off.refl p H)) ⟨t, r / m, ns, upd_same, ?_, hcp, t0, by omega, Int.ediv_nonneg r0 (by omega), hz⟩
      exact (Off.upd (Off.refl p H)) _ _ hc hcp
    · have hr0 : r = 0 := by
        have : ¬ (0 : Int) < r := fun z => h0 (decide_eq_true z)
        omega
      refine ⟨_, rfl, p, _, _, _, rfl, rfl, SqL.of hp, i1, ?_⟩
      refine ⟨_, rfl, _, _, rfl, rfl, _, rfl, p, _, _, 1, rfl, rfl, hp, rfl, ?_⟩
      refine ⟨_, rfl, _, _, rfl, rfl, .inl ⟨by decide, by decide⟩, _, _, rfl, rfl, ?_⟩
      have o1 : Off p H (upd H p (.lst [V.ref c, V.int (t + 1), V.int r])) := Off.upd (Off.refl p H)
      have hp1 : upd H p (.lst [V.ref c, V.int (t + 1), V.int r]) p = some (.lst [V.ref c, V.int (t + 1), V.int r]) := upd_same
      have hc1 : (upd H p (.lst [V.ref c, V.int (t + 1), V.int r])) c = some (.lst (ns.map V.int)) := o1 _ _ hc hcp
      generalize hH1 : upd H p (.lst [V.ref c, V.int (t + 1), V.int r]) = H1 at o1 hp1 hc1
      have hH1' : upd H p (HO.lst ([V.ref c, V.int t, V.int r].set 1 ((fun i j => V.int (i + j)) t 1))) = H1 := hH1
      rw [hH1']
      refine ⟨fun σ H2 => Ex H1 H2 ∧ ∃ cell : Int, σ = [some (.ref p), some (.int m), none, some (.int t), some (.int cell), none], ?_, ?_⟩
      · refine ⟨_, rfl, p, _, _, _, rfl, rfl, SqL.of hp1, i0, ?_⟩
        refine ⟨by decide, fun l hl => ?_⟩
        have e1 : Ex H1 (upd H1 l (.lst [])) := Ex.new hl
        refine ⟨c, l, ns.map V.int, [], ns.isEmpty, rfl, rfl, SqL.of (e1 _ _ hc1), SqL.of upd_same, ?_, _, rfl, ?_⟩
        · cases ns with
          | nil => exact .inr ⟨[], .nil, rfl⟩
          | cons a b => exact .inl ⟨by simp, rfl⟩
        · refine ite2 (fun h1 => ?_) (fun h1 => ?_)
          · have hne : ns ≠ [] := by
              intro z
              rw [z] at h1
              exact absurd h1 (by decide)
            have hlen : 0 < ns.length := List.length_pos_iff.mpr hne
            have hlt : (t % (ns.length : Int)).toNat < ns.length := by
              have z1 := Int.emod_nonneg t (b := (ns.length : Int)) (by omega)
              have z2 := Int.emod_lt_of_pos t (b := (ns.length : Int)) (by omega)
              omega
            refine ⟨_, rfl, p, _, _, _, rfl, rfl, SqL.of (e1 _ _ hp1), i0, ?_⟩
            refine ⟨_, rfl, .inl ⟨_, rfl, ?_⟩⟩
            refine ⟨_, rfl, p, _, _, _, rfl, rfl, SqL.of (e1 _ _ hp1), i0, ?_⟩
            refine ⟨_, (ns.map V.int).length, rfl, .inl ⟨_, SqL.of (e1 _ _ hc1), rfl⟩, ?_⟩
            refine ⟨_, _, rfl, rfl, by rw [List.length_map]; omega, ?_⟩
            obtain ⟨j, hj, hjl⟩ : ∃ j : Nat, t % (ns.length : Int) = (j : Int) ∧ j < ns.length := ⟨(t % (ns.length : Int)).toNat, (Int.toNat_of_nonneg (Int.emod_nonneg t (by omega))).symm, hlt⟩
            refine ⟨c, _, _, .int ns[j], rfl, rfl, SqL.of (e1 _ _ hc1), ?_, e1, _, rfl⟩
            rw [List.length_map]
            refine at_of hj ?_
            rw [List.getElem?_map, List.getElem?_eq_getElem hjl]
            rfl
          · exact ⟨e1, _, rfl⟩
      · rintro σ' H2 ⟨e2, cell, rfl⟩
        have hp2 := e2 _ _ hp1
        have hc2 := e2 _ _ hc1
        have o2 : Off p H H2 := o1.trans (Off.of e2)
        refine ⟨fun σ' H' => σ' = [some (V.ref p), some (.int m), none, some (.int t), some (.int cell), none] ∧ H' = H2, ?_, ?_⟩
        · refine ⟨_, rfl, _, rfl, p, _, _, _, rfl, rfl, SqL.of hp2, i0, _, (ns.map V.int).length, rfl, .inl ⟨_, SqL.of hc2, rfl⟩, _, _, rfl, rfl, _, rfl, ?_⟩
          refine ite2 (fun h1 => ?_) (fun h1 => ?_)
          · refine ⟨_, rfl, cell, rfl, 10, 18, rfl, rfl, ⟨by decide, by decide, by decide⟩, _, _, rfl, rfl, _, rfl, ?_⟩
            refine ite2 (fun h2 => ?_) (fun h2 => ?_)
            · refine ⟨_, rfl, .inl ⟨_, rfl, cell, rfl, 10, 18, rfl, rfl, ⟨by decide, by decide, by decide⟩, _, _, rfl, rfl, 2, _, rfl, rfl, .inl ⟨by decide, by decide⟩, _, rfl, _, _, rfl, rfl, .inr ⟨_, rfl, _, _, rfl, rfl, ?_⟩⟩⟩
              have hg : (0 : Int) ≤ 2 * ((if cell < 0 then -cell else cell) - 10 ^ (18 : Int).toNat) + (if decide (cell < 0) = true then 1 else 0) := by
                have h3 : (10 : Int) ^ (18 : Int).toNat ≤ (if cell < 0 then -cell else cell) := of_decide_eq_true h2
                have h4 : (0 : Int) ≤ (if decide (cell < 0) = true then 1 else 0) := by
                  split <;> decide
                omega
              refine ⟨_, rfl, _, rfl, _, _, rfl, rfl, ⟨m0, m1⟩, _, rfl, p, _, _, 2, rfl, rfl, hp2, rfl, ?_⟩
              refine ⟨_, rfl, .inl ⟨_, rfl, _, rfl, _, _, rfl, rfl, m0, ?_⟩⟩
              refine k _ _ (Int.emod_nonneg _ (by omega)) (Int.emod_lt_of_pos _ m0) (Off.upd o2) ⟨t + 1, _, ns, upd_same, ?_, hcp, by omega, by omega, Int.ediv_nonneg hg (by omega), hz⟩
              exact (Off.upd (Off.refl p H2)) _ _ hc2 hcp
            · exact ⟨rfl, rfl⟩
          · exact iteF ⟨rfl, rfl⟩
        · rintro σ' H' ⟨rfl, rfl⟩
          have c1 := Int.emod_nonneg cell (b := 2147483579) (by decide)
          have c2 := Int.emod_lt_of_pos cell (b := 2147483579) (by decide)
          refine ⟨_, rfl, .inl ⟨_, rfl, _, _, rfl, rfl, (show (0 : Int) < 2147483579 by decide), _, rfl, _, _, rfl, rfl, .inl ⟨by decide, by decide⟩, _, _, rfl, rfl, _, _, rfl, rfl, _, _, rfl, rfl, ⟨by decide, by decide, ?_⟩, .inl ⟨_, rfl, _, _, rfl, rfl, (show (0 : Int) < 2147483549 by decide), ?_⟩⟩⟩
          · show (cell % 2147483579 + 70607 * t + 2377).natAbs < 2 ^ 64
            omega
          have d1 := Int.emod_nonneg ((cell % 2147483579 + 70607 * t + 2377) ^ (5 : Int).toNat) (b := 2147483549) (by decide)
          have d2 := Int.emod_lt_of_pos ((cell % 2147483579 + 70607 * t + 2377) ^ (5 : Int).toNat) (b := 2147483549) (by decide)
          generalize hm1 : (cell % 2147483579 + 70607 * t + 2377) ^ (5 : Int).toNat % 2147483549 = mx at d1 d2
          refine ⟨_, rfl, _, rfl, 2, t, rfl, rfl, .inl ⟨by decide, by decide⟩, _, _, rfl, rfl, mx, 2 * t + 2039, ?_, rfl, cmulL (by omega) (by omega), _, rfl, 74903, t, rfl, rfl, .inl ⟨by decide, by decide⟩, _, rfl, 74903 * t, t, rfl, rfl, cmulL (by omega) (by omega), _, _, rfl, rfl, _, _, rfl, rfl, _, _, rfl, rfl, ⟨by decide, by decide, ?_⟩, .inl ⟨_, rfl, _, _, rfl, rfl, (show (0 : Int) < 2147483629 by decide), ?_⟩⟩
          · exact congrArg V.int hm1
          · show (mx * (2 * t + 2039) + 74903 * t * t + 71633).natAbs < 2 ^ 64
            have b1 := mul_bd (a := mx) (b := 2 * t + 2039) (A := 2147483549) (B := 1200000) d1 (by omega) (by omega) (by omega)
            have b2 := mul_bd (a := 74903 * t) (b := t) (A := 100000 * 74903) (B := 100000) (by omega) (by omega) (by omega) (by omega)
            omega
          have f1 := Int.emod_nonneg ((mx * (2 * t + 2039) + 74903 * t * t + 71633) ^ (3 : Int).toNat) (b := 2147483629) (by decide)
          have f2 := Int.emod_lt_of_pos ((mx * (2 * t + 2039) + 74903 * t * t + 71633) ^ (3 : Int).toNat) (b := 2147483629) (by decide)
          generalize hm2 : (mx * (2 * t + 2039) + 74903 * t * t + 71633) ^ (3 : Int).toNat % 2147483629 = my at f1 f2
          refine ⟨_, rfl, my, 64, ?_, rfl, ⟨by decide, by decide⟩, .inl ⟨_, rfl, _, rfl, _, _, rfl, rfl, m0, ?_⟩⟩
          · exact congrArg V.int hm2
          refine k _ _ (Int.emod_nonneg (my / 64) (by omega)) (Int.emod_lt_of_pos (my / 64) m0) o2 ⟨t + 1, r, ns, hp2, hc2, hcp, by omega, by omega, by omega, hz⟩
end
end K82
set_option Elab.async false
set_option linter.all false
set_option maxRecDepth 100000
set_option maxHeartbeats 4000000
set_option autoImplicit false
namespace K82
open PySem PySem.Spec PyProof.Rows L2 He Evl
def spPen (K : PySem.W.Frag) : Sp := fun vs H Q _ => ∃ (a : Addr) (ns : List Int), vs = [.ref a] ∧ SqL K H a (ns.map V.int) ∧ ns.length ≤ 63 ∧ ∀ p c H', Ex H H' → PenAt K 0 H' p c → Q (.ref p) H'
section
variable {P : Program} {w : World} {K : PySem.W.Frag} {mg : Str → Option Value} {base : Heap}
theorem b_l_ear (T : Tx K mg) : Binds K (fdOf K ("_law_ear", none)) ["_law_script"] [] := T.f_l_ear.bindsN fun _ _ _ _ _ _ us hl => match us, hl with | [_], _ => rfl
theorem b_l_one (T : Tx K mg) : Binds K (fdOf K ("_law_one", none)) ["_law_ear_here", "_law_some"] [] := T.f_l_one.bindsN fun _ _ _ _ _ _ us hl => match us, hl with | [_, _], _ => rfl
theorem ok_l_ear (T : Tx K mg) : FnOk P w K mg base CX0 1 (ga K "_law_ear") (fdOf K ("_law_ear", none)) ["_law_script"] (spPen K) := by
  refine T.f_l_ear.ok sc_l_ear (fun vs H Q E h => ?_) (fun cdv A outer s H vs Q E hr h => ?_)
  · obtain ⟨a, ns, rfl, _⟩ := h
    rfl
  · refine ⟨_, PSs.nox (pss_one (ps_ret (pe_lst (pa_cons (pe_lc (own := [("_law_cell", 1)]) (g := (gName 1)) (tt := tYes) rfl sc_l_ear.nd (pi_list (pe_slice sl_list (pv 0) po_none (po_some pe_int))) (blkOk_by (N := ["_law_script", "_law_cell"]) (sc := defScope s_l_ear) (by decide +kernel)) (fun _ _ _ _ _ => pg_name (i := 1) sc_l_ear.nd rfl (Or.inl rfl)) (fun _ _ _ _ _ => pts_nil) (fun _ _ _ _ _ => (pe_callTy call_int1 (by rfl) T.n_int boot_int (pa_cons (pv 1) pa_nil)))) (pa_cons pe_int (pa_cons pe_int pa_nil)))))), ?_⟩
    -- slots: [(0, '_law_script'), (1, '_law_cell')]
    obtain ⟨a, ns, rfl, hq, hl, k⟩ := h
    have hsl : cutV (ns.map V.int) none (some 60) = (ns.take 60).map V.int := by
      exact (cut_to (n := 60)).trans (List.map_take ..).symm
    have el : EvL (tSl (rSlL K) (tVar 0) tNoPart (tPart (tC (.int 60)))) (start ["_law_script", "_law_cell"] [.ref a]) H ((ns.take 60).map V.int) := by
      rw [← hsl]
      exact el_sl (ev_var rfl) eo_none (eo_some ev_c) hq
    have hg : given ((ns.take 60).map V.int).length (fun _ => true) (fun i => .int ((ns.take 60).getD i 0)) = (ns.take 60).map V.int := by
      refine given_all rfl fun i hi => ?_
      rw [List.length_map] at hi
      rw [List.getElem?_map, List.getElem?_eq_getElem hi, List.getD_eq_getElem?_getD, List.getElem?_eq_getElem hi]
      rfl
    have el2 := el_lcNL (K := K) (j := 1) (vs := [1]) (t := tYes) (te := tCB (fun xs H Q => (∃ i, xs = [.int i] ∧ Q (.int i) H) ∨ ∃ k, xs = [.bl k] ∧ Q (.int (if k then 1 else 0)) H) (tCons (tVar 1) tNil)) (fun _ => true) (fun i => .int ((ns.take 60).getD i 0)) el (by rw [List.length_map, List.length_take]; omega) (fun _ => rfl) (fun _ _ _ _ _ => et_yes) (fun i x H1 e hi _ => by
      rw [List.getElem?_map] at hi
      cases hz : (ns.take 60)[i]? with
      | none =>
        rw [hz] at hi
        cases hi
      | some z =>
        rw [hz] at hi
        obtain rfl : V.int z = x := Option.some.inj hi
        rw [List.getD_eq_getElem?_getD, hz]
        exact ev_cb (ea_cons (ev_var rfl) ea_nil) (fun H1 _ Q q => .inl ⟨z, rfl, q H1 (Ex.refl H1)⟩))
    rw [hg] at el2
    have l3 := ea_consL (P := fun vs H2 => ∃ c, vs = [V.ref c, .int 0, .int 0] ∧ Ex H H2 ∧ H2 c = some (.lst ((ns.take 60).map V.int))) el2 (tr := tCons (tC (.int 0)) (tCons (tC (.int 0)) tNil)) (fun c H1 h1 e1 Q q => q _ H1 (Ex.refl H1) ⟨c, rfl, e1, h1⟩)
    refine s_retC (P := fun vs H2 => ∃ c, vs = [V.ref c, .int 0, .int 0] ∧ Ex H H2 ∧ H2 c = some (.lst ((ns.take 60).map V.int))) (fun H1 e1 Q q => ?_) (fun vs H2 e2 hv => ?_)
    · exact l3 H1 e1 Q q
    · obtain ⟨c, rfl, e3, h3⟩ := hv
      refine ⟨by show 3 ≤ 1000; decide, fun p hp => k p c _ (e3.trans (Ex.new hp)) ⟨0, 0, ns.take 60, upd_same, Ex.new hp _ _ h3, ne_of_none h3 hp, by decide, by decide, by decide, ?_⟩⟩
      rw [List.length_take]
      omega
end
end K82
set_option Elab.async false
set_option linter.all false
set_option maxRecDepth 100000
set_option maxHeartbeats 4000000
set_option autoImplicit false
/-! == and != of tuples and lists of texts. -/
namespace L2
open PySem PySem.Spec PyProof.Rows Evl
def rEqTS (K : PySem.W.Frag) (neg : Bool) : R2 := fun x y H Q => ∃ (a b : Addr) (us vs : List Str), x = .ref a ∧ y = .ref b ∧ SqT K H a (us.map V.str) ∧ SqT K H b (vs.map V.str) ∧ Q (.bl (if neg then !decide (us = vs) else decide (us = vs))) H
def eqS (us vs : List Str) (j : Nat) : Bool := us.getD j "" == vs.getD j ""
theorem all_eqS : ∀ us vs : List Str, ((List.range (min us.length vs.length)).all (eqS us vs) && us.length == vs.length) = decide (us = vs)
  | [], [] => rfl
  | [], v :: vs => by simp
  | u :: us, [] => by simp
  | u :: us, v :: vs => by
    have ih := all_eqS us vs
    rw [List.length_cons, List.length_cons, Nat.succ_min_succ, List.range_succ_eq_map, List.all_cons, List.all_map]
    have e1 : (eqS (u :: us) (v :: vs) ∘ Nat.succ) = eqS us vs := rfl
    have e2 : eqS (u :: us) (v :: vs) 0 = decide (u = v) := by
      show (u == v) = decide (u = v)
      rw [Bool.eq_iff_iff, beq_iff_eq, decide_eq_true_eq]
    have e3 : (us.length + 1 == vs.length + 1) = (us.length == vs.length) := by
      rw [Bool.eq_iff_iff, beq_iff_eq, beq_iff_eq]
      omega
    rw [e1, e2, e3, Bool.and_assoc, ih, ← Bool.decide_and]
    exact decide_eq_decide.mpr ⟨fun ⟨a, b⟩ => by rw [a, b], fun h => ⟨(List.cons.inj h).1, (List.cons.inj h).2⟩⟩
section
variable {X : Cx}
theorem str_at {us : List Str} {ws : List Value} (r : Vals (us.map V.str) ws) {j : Nat} (h : j < ws.length) : ∃ t, ws[j] = .str (us.getD j "") t := by
  have l := r.length
  rw [List.length_map] at l
  have hj : j < us.length := by omega
  obtain ⟨v, hv, rv⟩ := r.get (i := j) (x := .str us[j]) (by rw [List.getElem?_map, List.getElem?_eq_getElem hj]; rfl)
  obtain ⟨t, rfl⟩ := rv
  rw [List.getElem?_eq_getElem h] at hv
  refine ⟨t, (Option.some.inj hv).trans ?_⟩
  rw [List.getD_eq_getElem?_getD, List.getElem?_eq_getElem hj]
  rfl
theorem op_eqTS (hu : X.A.units < cLine) : OpR X (compareOp .Eq) (rEqTS X.K false) := by
  intro pins s σ H x y v u Q I rx ry ⟨a, b, us, vs, ex, ey, ha, hb, q⟩
  subst ex ey
  cases (show v = Value.ref a from rx)
  cases (show u = Value.ref b from ry)
  obtain ⟨ws, r1, p1, _⟩ := I.tuple ha
  obtain ⟨zs, r2, p2, _⟩ := I.tuple hb
  have l1 := r1.length
  have l2 := r2.length
  rw [List.length_map] at l1 l2
  refine SeqAt.RcAt.tuples (e := eqS us vs) p1 p2 hu (fun j h1 h2 => ?_) X.prog X.w _ _ ⟨.bl (decide (us = vs)), H, I, ?_, q⟩
  · obtain ⟨t1, e1⟩ := str_at r1 (j := j) (by simpa using h1)
    obtain ⟨t2, e2⟩ := str_at r2 (j := j) (by simpa using h2)
    have k := SeqAt.EqAt.str_str (A := X.A.in1) (s := s) (us.getD j "") t1 (vs.getD j "") t2
    rw [← e1, ← e2] at k
    simpa [eqS] using k
  · have e1 : ws.toArray.size = us.length := by simp only [List.size_toArray]; omega
    have e2 : zs.toArray.size = vs.length := by simp only [List.size_toArray]; omega
    rw [e1, e2, all_eqS]
    rfl
theorem op_neTS (hu : X.A.units < cLine) : OpR X (compareOp .NotEq) (rEqTS X.K true) := by
  intro pins s σ H x y v u Q I rx ry ⟨a, b, us, vs, ex, ey, ha, hb, q⟩
  subst ex ey
  cases (show v = Value.ref a from rx)
  cases (show u = Value.ref b from ry)
  obtain ⟨ws, r1, p1, _⟩ := I.tuple ha
  obtain ⟨zs, r2, p2, _⟩ := I.tuple hb
  have l1 := r1.length
  have l2 := r2.length
  rw [List.length_map] at l1 l2
  refine SeqAt.RcNeAt.tuples (e := eqS us vs) p1 p2 hu (fun j h1 h2 => ?_) X.prog X.w _ _ ⟨.bl (!decide (us = vs)), H, I, ?_, q⟩
  · obtain ⟨t1, e1⟩ := str_at r1 (j := j) (by simpa using h1)
    obtain ⟨t2, e2⟩ := str_at r2 (j := j) (by simpa using h2)
    have k := SeqAt.EqAt.str_str (A := X.A.in1) (s := s) (us.getD j "") t1 (vs.getD j "") t2
    rw [← e1, ← e2] at k
    simpa [eqS] using k
  · have e1 : ws.toArray.size = us.length := by simp only [List.size_toArray]; omega
    have e2 : zs.toArray.size = vs.length := by simp only [List.size_toArray]; omega
    rw [e1, e2, all_eqS]
    rfl
end
section
variable {K : PySem.W.Frag} {σ : L2.St} {H : Hp} {ta tb te : TE} {us vs : List Str}
theorem eqvs_strs : ∀ us vs : List Str, us.length = vs.length → ∃ bs, Eqvs (us.map V.str) (vs.map V.str) bs ∧ bs.all id = decide (us = vs)
  | [], [], _ => ⟨[], .nil, rfl⟩
  | u :: us, v :: vs, h => by
    obtain ⟨bs, a, b⟩ := eqvs_strs us vs (Nat.succ.inj h)
    refine ⟨_, .cons (.str u v) a, ?_⟩
    rw [List.all_cons, b, show id (u == v) = decide (u = v) by show (u == v) = _; rw [Bool.eq_iff_iff, beq_iff_eq, decide_eq_true_eq], ← Bool.decide_and]
    exact decide_eq_decide.mpr ⟨fun ⟨a, b⟩ => by rw [a, b], fun h => ⟨(List.cons.inj h).1, (List.cons.inj h).2⟩⟩
theorem leq_strs (us vs : List Str) : LEq (us.map V.str) (vs.map V.str) (decide (us = vs)) := by
  by_cases h : us.length = vs.length
  · obtain ⟨bs, a, b⟩ := eqvs_strs us vs h
    exact .inr ⟨bs, a, b.symm⟩
  · exact .inl ⟨by rw [List.length_map, List.length_map]; exact h, decide_eq_false fun e => h (by rw [e])⟩
theorem rv_eqTS {neg : Bool} {a b : Addr} (ha : SqT K H a (us.map V.str)) (hb : SqT K H b (vs.map V.str)) : RV (rEqTS K neg) (.ref a) (.ref b) H (.bl (if neg then !decide (us = vs) else decide (us = vs))) := fun H1 e Q q =>
  ⟨a, b, us, vs, rfl, rfl, ex_t e ha, ex_t e hb, q H1 (Ex.refl H1)⟩
theorem rv_eqLS {a b : Addr} (ha : SqL K H a (us.map V.str)) (hb : SqL K H b (vs.map V.str)) : RV (rEqL K) (.ref a) (.ref b) H (.bl (decide (us = vs))) := fun H1 e Q q =>
  ⟨a, b, _, _, _, rfl, rfl, ex_l e ha, ex_l e hb, leq_strs us vs, q H1 (Ex.refl H1)⟩
theorem rv_neLS {a b : Addr} (ha : SqL K H a (us.map V.str)) (hb : SqL K H b (vs.map V.str)) : RV (rNeL K) (.ref a) (.ref b) H (.bl (!decide (us = vs))) := fun H1 e Q q =>
  ⟨a, b, _, _, _, rfl, rfl, ex_l e ha, ex_l e hb, leq_strs us vs, q H1 (Ex.refl H1)⟩
variable {tl th tn : TO}
theorem eu_cut {a : Addr} {xs : List V} {lo hi : Option Int} (h : Ev te σ H (.ref a)) (h1 : EvO tl σ H lo) (h2 : EvO th σ H hi) (hs : SqT K H a xs) (hn : ¬ (HT.sIx xs.length 0 lo = 0 ∧ HT.sIx xs.length xs.length hi = xs.length)) : EvU (tSl (rSlT K) te tl th) σ H (cutV xs lo hi) := fun H1 e _ q =>
  h H1 e _ fun H2 e2 => h1 H2 (e.trans e2) _ fun H3 e3 => h2 H3 ((e.trans e2).trans e3) _ fun H4 e4 =>
    ⟨a, xs, rfl, ex_t (((e.trans e2).trans e3).trans e4) hs, hn, fun p hp => q p _ (fresh_back ((e2.trans e3).trans e4) hp) (((e2.trans e3).trans e4).trans (Ex.new hp)) upd_same⟩
/-- t[:n], t[n:] of a tuple -/
theorem eu_to {a : Addr} {xs : List V} {n : Nat} (h : Ev te σ H (.ref a)) (h2 : Ev tb σ H (.int (n : Nat))) (hs : SqT K H a xs) (lt : n < xs.length) : EvU (tSl (rSlT K) te tNoPart (tPart tb)) σ H (xs.take n) := by
  rw [← cut_to]
  exact eu_cut h eo_none (eo_some h2) hs fun z => by
    rw [HT.sIx_nat] at z
    omega
theorem eu_from {a : Addr} {xs : List V} {n : Nat} (h : Ev te σ H (.ref a)) (h2 : Ev tb σ H (.int (n : Nat))) (hs : SqT K H a xs) (lt : 0 < n ∧ 0 < xs.length) : EvU (tSl (rSlT K) te (tPart tb) tNoPart) σ H (xs.drop n) := by
  rw [← cut_from]
  exact eu_cut h (eo_some h2) eo_none hs fun z => by
    rw [HT.sIx_nat] at z
    omega
/-- xs[:n], xs[n:] of a list -/
theorem el_to {a : Addr} {xs : List V} {n : Nat} (h : Ev te σ H (.ref a)) (h2 : Ev tb σ H (.int (n : Nat))) (hs : SqL K H a xs) : EvL (tSl (rSlL K) te tNoPart (tPart tb)) σ H (xs.take n) := by
  rw [← cut_to]
  exact el_sl h eo_none (eo_some h2) hs
theorem el_from {a : Addr} {xs : List V} {n : Nat} (h : Ev te σ H (.ref a)) (h2 : Ev tb σ H (.int (n : Nat))) (hs : SqL K H a xs) : EvL (tSl (rSlL K) te (tPart tb) tNoPart) σ H (xs.drop n) := by
  rw [← cut_from]
  exact el_sl h (eo_some h2) eo_none hs
end
end L2
set_option Elab.async false
set_option linter.all false
set_option maxRecDepth 100000
set_option maxHeartbeats 4000000
set_option autoImplicit false
/-! range objects that are kept and walked later. -/
namespace L2
open PySem PySem.Spec PyProof.Rows Evl
def iRngO (tl : TE) : TI := fun σ H R => tl σ H fun x H1 => ∃ (a : Addr) (lo hi : Int), x = .ref a ∧ H1 a = some (.rng lo hi) ∧ (-(2 ^ 62) ≤ lo ∧ lo < 2 ^ 62 ∧ -(2 ^ 62) ≤ hi ∧ hi < 2 ^ 62) ∧ R (Itr lo (hi - lo).toNat) H1
theorem pi_rngO {X : Cx} {tg e : Expr} {tl : TE} (he : PE X e tl) : PI X tg e (iRngO tl) := by
  refine ⟨fun pins s σ H R I h => ?_⟩
  refine thn (he.run pins s σ H _ I h) fun v s1 ⟨x, H1, I1, r1, q1⟩ => ?_
  obtain ⟨a, lo, hi, e, ha, ⟨h1, h2, h3, h4⟩, q⟩ := q1
  subst e
  cases r1
  obtain ⟨t, u, w, hg⟩ := (I1.hok a _ ha)
  refine wpAny_pyIter_range (a := lo) (b := hi) (c := 1) hg (small_one h1 h2 h3 h4) ?_
  refine ⟨s1.heap.objs.size, [s1.heap.objs.size], _, _, H1, rfl, I1.kept (t' := s1.toks) fun b o e => Heap.get?_push_of_some _ e, turn_range _ lo (hi - lo).toNat, ?_, fun b hb => ?_, q⟩
  · have e1 : lo + ((0 : Nat) : Int) * 1 = lo := by simp
    have e2 : (((hi - lo).toNat : Nat) : Int) - ((0 : Nat) : Int) = Builtin.Range.rangeSize lo hi 1 := by rw [rangeSize_one]; split <;> omega
    show IsRangeIter _ _ (lo + ((0 : Nat) : Int) * 1) ((((hi - lo).toNat : Nat) : Int) - ((0 : Nat) : Int)) 1
    rw [e1, e2]
    exact Heap.get?_push_size _ rfl
  · have e : b = s1.heap.objs.size := by simpa using hb
    subst e
    exact I1.fpOk (Nat.le_refl _) (I1.hok.fresh (Nat.le_refl _))
section
variable {K : PySem.W.Frag} {σ : L2.St} {H : Hp} {te tl : TE} {tu tz : TS} {t : TT} {D : Ends} {tq : TA}
abbrev rRange2 : List V → Hp → VK → Prop := fun vs H Q => ∃ i j, vs = [V.int i, V.int j] ∧ ∀ p, H p = none → Q (.ref p) (upd H p (.rng i j))
theorem q_asgRng {k : Nat} {i j : Int} (h : EvA tq σ H [.int i, .int j]) (q : ∀ p H1, H p = none → Ex H H1 → H1 p = some (.rng i j) → tz D (σ.set k (some (.ref p))) H1) : tSeq (tAsg (tCB rRange2 tq) (gName k)) tz D σ H :=
  h H (Ex.refl H) _ fun H1 e => ⟨i, j, rfl, fun p hp => q p _ (fresh_back e hp) (e.trans (Ex.new hp)) upd_same⟩
/-- [e for x in r if t], r a range that is kept: lo, lo + 1, .. -/
theorem el_lcRO {a : Addr} {lo hi : Int} {j : Nat} {vs : List Nat} (f : Nat → Bool) (v : Nat → V) (h : Ev tl σ H (.ref a)) (ha : H a = some (.rng lo hi)) (hb : 0 ≤ lo ∧ lo ≤ 40000 ∧ hi ≤ 40000 ∧ -40000 ≤ hi) (hw : ∀ x, wipe ((wipe σ vs).set j (some x)) vs = wipe σ vs)
    (ht : ∀ (i : Nat) H1, Ex H H1 → lo + (i : Int) < hi → EvT t ((wipe σ vs).set j (some (.int (lo + (i : Nat))))) H1 (f i)) (he : ∀ (i : Nat) H1, Ex H H1 → lo + (i : Int) < hi → f i = true → Ev te ((wipe σ vs).set j (some (.int (lo + (i : Nat))))) H1 (v i)) :
    EvL (tLc (iRngO tl) (gName j) t te vs) σ H (given (hi - lo).toNat f v) :=
  el_lcW (J := Itr lo (hi - lo).toNat) (n := (hi - lo).toNat) (G := fun _ => True) (ys := fun i x => x = .int (lo + (i : Nat))) _ _ walk_range (fun H1 e R q => h H1 e _ fun H2 e2 => ⟨a, lo, hi, rfl, e2 _ _ (e _ _ ha), ⟨by omega, by omega, by omega, by omega⟩, q H2 e2 trivial⟩) (fun _ _ _ _ => trivial) (by omega) hw (fun i x H1 e hi hy => by
    subst hy
    exact ht i H1 e (by omega)) (fun i x H1 e hi hy hf => by
    subst hy
    exact he i H1 e (by omega) hf)
theorem s_forRO {a : Addr} {lo hi : Int} {j : Nat} (h : Ev tl σ H (.ref a)) (ha : H a = some (.rng lo hi)) (hb : 0 ≤ lo ∧ lo ≤ 40000 ∧ hi ≤ 40000 ∧ -40000 ≤ hi) (Pv : Nat → L2.St → Hp → Prop) (h0 : ∀ H1, Ex H H1 → Pv 0 σ H1)
    (hs : ∀ (i : Nat) σ' H', lo + (i : Int) < hi → Pv i σ' H' → tu { D with nx := Pv (i + 1), ct := Pv (i + 1), bk := D.nx } (σ'.set j (some (.int (lo + (i : Nat))))) H') (hd : ∀ σ' H', Pv (hi - lo).toNat σ' H' → D.nx σ' H') : tFor (iRngO tl) (gName j) tu D σ H :=
  h H (Ex.refl H) _ fun H1 e => ⟨a, lo, hi, rfl, e _ _ ha, ⟨by omega, by omega, by omega, by omega⟩, for_range (lo := lo) (n := (hi - lo).toNat) Pv (h0 H1 e) (fun i σ' H' hi p => hs i σ' H' (by omega) p) hd⟩
theorem q_forRO {a : Addr} {lo hi : Int} {j : Nat} (h : Ev tl σ H (.ref a)) (ha : H a = some (.rng lo hi)) (hb : 0 ≤ lo ∧ lo ≤ 40000 ∧ hi ≤ 40000 ∧ -40000 ≤ hi) (Pv : Nat → L2.St → Hp → Prop) (h0 : ∀ H1, Ex H H1 → Pv 0 σ H1)
    (hs : ∀ (i : Nat) σ' H', lo + (i : Int) < hi → Pv i σ' H' → tu { D with nx := Pv (i + 1), ct := Pv (i + 1), bk := tz D } (σ'.set j (some (.int (lo + (i : Nat))))) H') (hd : ∀ σ' H', Pv (hi - lo).toNat σ' H' → tz D σ' H') : tSeq (tFor (iRngO tl) (gName j) tu) tz D σ H :=
  s_forRO (D := { D with nx := tz D }) h ha hb Pv h0 hs hd
end
end L2
set_option Elab.async false
set_option linter.all false
set_option maxRecDepth 100000
set_option maxHeartbeats 4000000
set_option autoImplicit false
/-! steps by what a reading does, the continuation as it stands; drawn lists; tests that draw and come out false. -/
namespace L2
open PySem PySem.Spec PyProof.Rows Evl
theorem look_cf {c : Str → NameKind → Bool} : ∀ {names : List (Str × NameKind)} {x : Str}, (names.lookup x = some .cell ∨ names.lookup x = some .free) →
    ((names.map fun (n, k) => if c n k then (n, NameKind.cell) else (n, k)).lookup x = some .cell ∨ (names.map fun (n, k) => if c n k then (n, NameKind.cell) else (n, k)).lookup x = some .free)
  | [], _, h => by rcases h with h | h <;> cases h
  | (n, k) :: r, x, h => by
    have ih := @look_cf c r x
    show List.lookup x ((if c n k = true then (n, NameKind.cell) else (n, k)) :: _) = _ ∨ List.lookup x ((if c n k = true then (n, NameKind.cell) else (n, k)) :: _) = _
    cases hx : x == n with
    | true =>
      simp only [List.lookup_cons, hx] at h
      cases hc : c n k with
      | true => left; simp [List.lookup_cons, hx]
      | false => simpa [List.lookup_cons, hx] using h
    | false =>
      simp only [List.lookup_cons, hx] at h
      cases hc : c n k with
      | true => simpa [List.lookup_cons, hx] using ih h
      | false => simpa [List.lookup_cons, hx] using ih h
theorem blkOk_in {N : List Str} {sc0 scope : Scope} {own : List (Str × Nat)} {cl : List (Str × Addr)} {C : Addr} {e : Env} (h : blkC N sc0 scope own = true) : BlkOk N (compEnvC sc0 cl C e).scope scope own :=
  let b := blkOk_by (sc := sc0) h
  ⟨b.kind, b.uniq, b.ix, fun y hy hf => look_cf (c := fun n k => k == .free && e.scope.kind == .function && e.kindOf n == some .cell) (b.free y hy hf), b.own⟩
section
variable {K : PySem.W.Frag} {σ : L2.St} {H H' : Hp} {ta tb te tl : TE} {tq tr : TA} {tu tw tz : TS} {t u : TT} {D : Ends} {g : TG} {Q : VK}
theorem op_go {r : R2} (h : ta σ H fun x H1 => tb σ H1 fun y H2 => r x y H2 Q) : tOp r ta tb σ H Q := h
theorem cons_go {N : List V → Hp → Prop} (h : te σ H fun v H1 => tq σ H1 fun vs H2 => N (v :: vs) H2) : tCons te tq σ H N := h
theorem call_go {sp : Sp} {dvs : List V} {E : XK} (h : tq σ H fun vs H1 => sp (vs ++ dvs) H1 Q E) : tCall sp dvs E tq σ H Q := h
theorem ret_go (h : te σ H D.rt) : tRet te D σ H := h
theorem drop_go (h : te σ H fun _ H1 => tz D σ H1) : tSeq (tDrop te) tz D σ H := h
theorem asg_go (h : te σ H fun v H1 => g v σ H1 fun σ1 H2 => tz D σ1 H2) : tSeq (tAsg te g) tz D σ H := h
/-- a loop over a list that is reckoned in the head, by what is reckoned -/
def contL (K : PySem.W.Frag) (R : It → Hp → Prop) : VK := fun x H1 => ∃ a, x = .ref a ∧ (∃ xs, SqL K H1 a xs) ∧ R (Itl K a) H1
def contT (K : PySem.W.Frag) (R : It → Hp → Prop) : VK := fun x H1 => ∃ a, x = .ref a ∧ (∃ xs, SqT K H1 a xs) ∧ R (Itt K a) H1
def forR (g : TG) (tb : TS) (D : Ends) (σ : L2.St) : It → Hp → Prop := fun J H1 => ∃ W : Nat → Nat → L2.St → Hp → Prop, (∃ m, W 0 m σ H1) ∧ ∀ i m σ H, W i m σ H →
  (J.stop i H ∧ D.nx σ H) ∨ (J.go i H ∧ ∃ N : L2.St → Hp → Prop, (∀ σ' H', N σ' H' → ∃ m', m' < m ∧ W (i + 1) m' σ' H') ∧ ∀ x H', J.yld i H x H' → g x σ H' fun σ2 H2 => tb { D with nx := N, ct := N, bk := D.nx } σ2 H2)
theorem q_forI (h : ∀ R : It → Hp → Prop, (∀ (a : Addr) (xs : List V) (H1 : Hp) (Pv : Nat → L2.St → Hp → Prop), Pv 0 σ H1 → (∀ i σ' H', i ≤ xs.length → Pv i σ' H' → SqL K H' a xs) →
      (∀ i x σ' H', xs[i]? = some x → Pv i σ' H' → g x σ' H' fun σ2 H2 => tu { D with nx := Pv (i + 1), ct := Pv (i + 1), bk := tz D } σ2 H2) → (∀ σ' H', Pv xs.length σ' H' → tz D σ' H') → R (Itl K a) H1) → tl σ H (contL K R)) :
    tSeq (tFor (iList K tl) g tu) tz D σ H := h (forR g tu { D with nx := tz D } σ) fun a xs H1 Pv h0 hl hs hd => for_list (D := { D with nx := tz D }) Pv h0 hl hs hd
theorem s_forI (h : ∀ R : It → Hp → Prop, (∀ (a : Addr) (xs : List V) (H1 : Hp) (Pv : Nat → L2.St → Hp → Prop), Pv 0 σ H1 → (∀ i σ' H', i ≤ xs.length → Pv i σ' H' → SqL K H' a xs) →
      (∀ i x σ' H', xs[i]? = some x → Pv i σ' H' → g x σ' H' fun σ2 H2 => tu { D with nx := Pv (i + 1), ct := Pv (i + 1), bk := D.nx } σ2 H2) → (∀ σ' H', Pv xs.length σ' H' → D.nx σ' H') → R (Itl K a) H1) → tl σ H (contL K R)) :
    tFor (iList K tl) g tu D σ H := h (forR g tu D σ) fun a xs H1 Pv h0 hl hs hd => for_list Pv h0 hl hs hd
/-- comes out so, R behind it -/
def BoolT (t : TT) (σ : L2.St) (H : Hp) (b : Bool) (R : Hp → Prop) : Prop := ∀ Q : Bool → Hp → Prop, (∀ H2, R H2 → Q b H2) → t σ H Q
theorem bt_ev {b : Bool} {R : Hp → Prop} (h : EvT t σ H b) (k : ∀ H1, Ex H H1 → R H1) : BoolT t σ H b R := fun Q q => h H (Ex.refl H) _ fun H1 e => q H1 (k H1 e)
theorem bt_and {b : Bool} {R : Hp → Prop} (h1 : EvT t σ H true) (h2 : ∀ H1, Ex H H1 → BoolT u σ H1 b R) : BoolT (tAnd t u) σ H b R := fun Q q => h1 H (Ex.refl H) _ fun H1 e1 => by
  rw [if_pos rfl]
  exact h2 H1 e1 Q q
theorem bt_test {b : Bool} {R : Hp → Prop} (h : ∀ Q : VK, (∀ H2, R H2 → Q (.bl b) H2) → te σ H Q) : BoolT (tTest te) σ H b R := fun Q q => h _ fun H2 r => ⟨b, rfl, q H2 r⟩
theorem bt_or {b : Bool} {R : Hp → Prop} (h1 : EvT t σ H false) (h2 : ∀ H1, Ex H H1 → BoolT u σ H1 b R) : BoolT (tOr t u) σ H b R := fun Q q => h1 H (Ex.refl H) _ fun H1 e1 => by
  rw [if_neg (by decide)]
  exact h2 H1 e1 Q q
theorem bt_orB {b : Bool} {R R2 : Hp → Prop} (h1 : BoolT t σ H false R) (h2 : ∀ H1, R H1 → BoolT u σ H1 b R2) : BoolT (tOr t u) σ H b R2 := fun Q q => h1 _ fun H1 r => by
  rw [if_neg (by decide)]
  exact h2 H1 r Q q
theorem bt_not {b : Bool} {R : Hp → Prop} (h : BoolT t σ H b R) : BoolT (tNot t) σ H (!b) R := fun Q q => h _ fun H1 r => q H1 r
theorem bt_B {b : Bool} {R : Hp → Prop} (h : ∀ Q : VK, (∀ H2, R H2 → Q (.bl b) H2) → te σ H Q) : BoolT (tB te) σ H b R := fun Q q => h _ fun H2 r => ⟨b, rfl, q H2 r⟩
theorem s_whenF {R : Hp → Prop} (h : BoolT t σ H false R) (k : ∀ H1, R H1 → D.nx σ H1) : tIfS t tu tNext D σ H := h _ fun H1 r => by
  rw [if_neg (by decide)]
  exact k H1 r
theorem q_whenF {R : Hp → Prop} (h : BoolT t σ H false R) (k : ∀ H1, R H1 → tz D σ H1) : tSeq (tIfS t tu tNext) tz D σ H := s_whenF (D := { D with nx := tz D }) h k
/-- [e for t in range(M)], each item drawn by so many draws -/
theorem lc_penC {p c : Addr} {n0 S M : Nat} {j : Nat} {vs : List Nat} {R : V → Prop} (hP : PenAt K n0 H p c) (hM : M ≤ 1000) (hw : ∀ x, wipe ((wipe σ vs).set j (some x)) vs = wipe σ vs)
    (hte : ∀ (i k : Nat) H1, i < M → k ≤ n0 + S * M → Off p H H1 → PenAt K k H1 p c → ∀ Q' : VK, (∀ x H2, R x → Off p H1 H2 → PenAt K (k + S) H2 p c → Q' x H2) → te ((wipe σ vs).set j (some (.int (i : Nat)))) H1 Q')
    (hQ : ∀ (xs : List V) (l : Addr) H2, xs.length = M → (∀ x ∈ xs, R x) → H2 l = some (.lst xs) → l ≠ p → H l = none → Off p H H2 → PenAt K (n0 + S * M) H2 p c → Q (.ref l) H2) :
    tLc (iRng1 (tCons (tC (.int (M : Nat))) tNil)) (gName j) tYes te vs σ H Q := by
  refine ⟨(M : Int), rfl, by omega, by omega, fun Dl hD => ?_⟩
  obtain ⟨op, hp1⟩ := hP.there
  have hDp : p ≠ Dl := ne_of_none hp1 hD
  refine lc_range (lo := 0) (n := (M : Int).toNat) (fun i H' => ∃ acc, H' Dl = some (.lst acc) ∧ acc.length = i ∧ (∀ x ∈ acc, R x) ∧ Off p H H' ∧ PenAt K (n0 + S * i) H' p c) ⟨[], upd_same, rfl, fun x hx => (nomatch hx), Off.of (Ex.new hD), hP.ex (Ex.new hD)⟩ ?_ ?_
  · rintro i H' hi ⟨acc, ha, hlen, hR, off2, pen2⟩
    have hi2 : i < M := by omega
    have e0 : (0 : Int) + (i : Int) = (i : Int) := Int.zero_add _
    show wipe ((wipe σ vs).set j (some (.int ((0 : Int) + (i : Int))))) vs = wipe σ vs ∧ te ((wipe σ vs).set j (some (.int ((0 : Int) + (i : Int))))) H' fun y H4 => ∃ acc, H4 Dl = some (.lst acc) ∧ acc.length < sizeLine ∧ _
    rw [e0]
    refine ⟨hw _, hte i (n0 + S * i) H' hi2 (Nat.add_le_add_left (Nat.mul_le_mul_left S (Nat.le_of_lt hi2)) n0) off2 pen2 _ fun x H2 hx off3 pen3 => ⟨acc, off3 _ _ ha (Ne.symm hDp), sz_lt (by omega), acc ++ [x], upd_same, ?_, ?_, He.Off.mut (off2.trans off3) hD, ?_⟩⟩
    · rw [List.length_append, hlen]
      rfl
    · intro y hy
      rcases List.mem_append.mp hy with hy | hy
      · exact hR y hy
      · rw [List.mem_singleton.mp hy]
        exact hx
    · have z := PenAt.mut (o := .lst (acc ++ [x])) hP hD pen3
      rw [Nat.add_assoc, ← Nat.mul_succ] at z
      exact z
  · rintro H' ⟨acc, ha, hlen, hR, off2, pen2⟩
    have hm : (M : Int).toNat = M := Int.toNat_natCast M
    rw [hm] at hlen pen2
    exact hQ acc Dl H' hlen hR ha (Ne.symm hDp) hD off2 pen2
theorem el_catN {a : Addr} {xs ys : List V} (h : Ev ta σ H (.ref a)) (ha : H a = some (.lst xs)) (hb : EvL tb σ H ys) (few : xs.length + ys.length ≤ 100000) : EvL (tOp rCat ta tb) σ H (xs ++ ys) := fun H1 e Q q =>
  h H1 e _ fun H2 e2 => hb H2 (e.trans e2) _ fun b H3 nb e3 hb => ⟨a, b, xs, ys, rfl, rfl, e3 _ _ (e2 _ _ (e _ _ ha)), hb, sz_of few, fun r nr => q r _ (fresh_back (e2.trans e3) nr) ((e2.trans e3).trans (Ex.new nr)) upd_same⟩
end
end L2
set_option Elab.async false
set_option linter.all false
set_option maxRecDepth 100000
set_option maxHeartbeats 4000000
set_option autoImplicit false
namespace K82
open PySem PySem.Spec PyProof.Rows L2 He Evl
def sV (w : List Str) : List V := w.map V.str
theorem sV_len (w : List Str) : (sV w).length = w.length := List.length_map _
theorem sV_take (w : List Str) (n : Nat) : (w.take n).map V.str = (sV w).take n := List.map_take
theorem sV_drop (w : List Str) (n : Nat) : (w.drop n).map V.str = (sV w).drop n := List.map_drop
def beginsB (w h : List Str) : Bool := decide (h.length < w.length) && decide (w.take h.length = h)
def endsB (w t : List Str) : Bool := decide (t.length < w.length) && decide (w.drop (w.length - t.length) = t)
def headF (w t : List Str) : List Str := w.take (w.length - t.length - 1)
def isOfB (w h t : List Str) : Bool := decide (w.length = h.length + 1 + t.length) && (beginsB w h && endsB w t)
def spTwo (K : PySem.W.Frag) (f : List Str → List Str → Bool) : Sp := fun vs H Q _ => ∃ (a b : Addr) (w h : List Str), vs = [.ref a, .ref b] ∧ SqT K H a (sV w) ∧ SqT K H b (sV h) ∧ w.length ≤ 1000 ∧ h.length ≤ 1000 ∧ RetV (.bl (f w h)) H Q
def spHead (K : PySem.W.Frag) : Sp := fun vs H Q _ => ∃ (a b : Addr) (w h : List Str), vs = [.ref a, .ref b] ∧ SqT K H a (sV w) ∧ SqT K H b (sV h) ∧ w.length ≤ 1000 ∧ h.length < w.length ∧ ∀ p H', H p = none → Ex H H' → H' p = some (.tup (sV (headF w h))) → Q (.ref p) H'
def spThree (K : PySem.W.Frag) (f : List Str → List Str → List Str → Bool) : Sp := fun vs H Q _ => ∃ (a b c : Addr) (w h t : List Str), vs = [.ref a, .ref b, .ref c] ∧ SqT K H a (sV w) ∧ SqT K H b (sV h) ∧ SqT K H c (sV t) ∧ w.length ≤ 1000 ∧ h.length ≤ 1000 ∧ t.length ≤ 1000 ∧ RetV (.bl (f w h t)) H Q
section
variable {P : Program} {w : World} {K : PySem.W.Frag} {mg : Str → Option Value} {base : Heap}
theorem b_begins (T : Tx K mg) : Binds K (fdOf K ("_begins", none)) ["word", "head"] [] := T.f_begins.bindsN fun _ _ _ _ _ _ us hl => match us, hl with | [_, _], _ => rfl
theorem b_ends (T : Tx K mg) : Binds K (fdOf K ("_ends", none)) ["word", "tail"] [] := T.f_ends.bindsN fun _ _ _ _ _ _ us hl => match us, hl with | [_, _], _ => rfl
theorem b_head_of (T : Tx K mg) : Binds K (fdOf K ("_head_of", none)) ["word", "tail"] [] := T.f_head_of.bindsN fun _ _ _ _ _ _ us hl => match us, hl with | [_, _], _ => rfl
theorem b_is_of (T : Tx K mg) : Binds K (fdOf K ("_is_of", none)) ["word", "head", "tail"] [] := T.f_is_of.bindsN fun _ _ _ _ _ _ us hl => match us, hl with | [_, _, _], _ => rfl
theorem ok_begins (T : Tx K mg) : FnOk P w K mg base CX0 1 (ga K "_begins") (fdOf K ("_begins", none)) ["word", "head"] (spTwo K beginsB) := by
  refine T.f_begins.ok sc_begins (fun vs H Q E h => ?_) (fun cdv A outer s H vs Q E hr h => ?_)
  · obtain ⟨a, b, w, h, rfl, _⟩ := h
    rfl
  · refine ⟨_, PSs.nox (pss_one (ps_ret (pe_and (pe_cmpR op_gt (pe_callB call_len (by rfl) T.n_len boot_len (pa_cons (pv 0) pa_nil)) (pe_callB call_len (by rfl) T.n_len boot_len (pa_cons (pv 1) pa_nil)) (nomark _)) (pe_one (pe_cmpR (op_eqTS hr.units0) (pe_slice sl_tup (pv 0) po_none (po_some (pe_callB call_len (by rfl) T.n_len boot_len (pa_cons (pv 1) pa_nil)))) (pv 1) (nomark _)))))), ?_⟩
    -- slots: [(0, 'word'), (1, 'head')]
    obtain ⟨a, b, w, h, rfl, ha, hb, lw, lh, k⟩ := h
    refine s_ret (ev_is (ev_andV (ev_is (ev_op (ev_lenQ (ev_var rfl) (.inr ha)) (ev_lenQ (ev_var rfl) (.inr hb)) rv_I0) (congrArg V.bl (decide_eq_decide.mpr (by rw [sV_len, sV_len]; omega : _ ↔ h.length < w.length)))) fun hlt => ev_opU1 (eu_to (n := h.length) (ev_var rfl) (ev_is (ev_lenQ (ev_var rfl) (.inr hb)) (by rw [sV_len])) ha (by rw [sV_len]; exact of_decide_eq_true hlt)) (fun _ _ => ev_var rfl) fun p H1 hp e => rv_eqTS (us := w.take h.length) (by rw [sV_take]; exact SqT.of hp) (ex_t e hb)) rfl) k
theorem ok_ends (T : Tx K mg) : FnOk P w K mg base CX0 1 (ga K "_ends") (fdOf K ("_ends", none)) ["word", "tail"] (spTwo K endsB) := by
  refine T.f_ends.ok sc_ends (fun vs H Q E h => ?_) (fun cdv A outer s H vs Q E hr h => ?_)
  · obtain ⟨a, b, w, h, rfl, _⟩ := h
    rfl
  · refine ⟨_, PSs.nox (pss_one (ps_ret (pe_and (pe_cmpR op_gt (pe_callB call_len (by rfl) T.n_len boot_len (pa_cons (pv 0) pa_nil)) (pe_callB call_len (by rfl) T.n_len boot_len (pa_cons (pv 1) pa_nil)) (nomark _)) (pe_one (pe_cmpR (op_eqTS hr.units0) (pe_slice sl_tup (pv 0) (po_some (pe_op op_sub (pe_callB call_len (by rfl) T.n_len boot_len (pa_cons (pv 0) pa_nil)) (pe_callB call_len (by rfl) T.n_len boot_len (pa_cons (pv 1) pa_nil)))) po_none) (pv 1) (nomark _)))))), ?_⟩
    -- slots: [(0, 'word'), (1, 'tail')]
    obtain ⟨a, b, w, h, rfl, ha, hb, lw, lh, k⟩ := h
    refine s_ret (ev_is (ev_andV (ev_is (ev_op (ev_lenQ (ev_var rfl) (.inr ha)) (ev_lenQ (ev_var rfl) (.inr hb)) rv_I0) (congrArg V.bl (decide_eq_decide.mpr (by rw [sV_len, sV_len]; omega : _ ↔ h.length < w.length)))) fun hlt => ev_opU1 (eu_from (n := w.length - h.length) (ev_var rfl) (ev_is (ev_op (ev_lenQ (ev_var rfl) (.inr ha)) (ev_lenQ (ev_var rfl) (.inr hb)) rv_I0) (by have := of_decide_eq_true hlt; rw [sV_len, sV_len]; congr 1; omega)) ha (by have := of_decide_eq_true hlt; rw [sV_len]; omega)) (fun _ _ => ev_var rfl) fun p H1 hp e => rv_eqTS (us := w.drop (w.length - h.length)) (by rw [sV_drop]; exact SqT.of hp) (ex_t e hb)) rfl) k
theorem ok_head_of (T : Tx K mg) : FnOk P w K mg base CX0 1 (ga K "_head_of") (fdOf K ("_head_of", none)) ["word", "tail"] (spHead K) := by
  refine T.f_head_of.ok sc_head_of (fun vs H Q E h => ?_) (fun cdv A outer s H vs Q E hr h => ?_)
  · obtain ⟨a, b, w, h, rfl, _⟩ := h
    rfl
  · refine ⟨_, PSs.nox (pss_one (ps_ret (pe_slice sl_tup (pv 0) po_none (po_some (pe_op op_sub (pe_op op_sub (pe_callB call_len (by rfl) T.n_len boot_len (pa_cons (pv 0) pa_nil)) (pe_callB call_len (by rfl) T.n_len boot_len (pa_cons (pv 1) pa_nil))) pe_int))))), ?_⟩
    -- slots: [(0, 'word'), (1, 'tail')]
    obtain ⟨a, b, w, h, rfl, ha, hb, lw, lt, k⟩ := h
    refine s_retU (eu_to (n := w.length - h.length - 1) (ev_var rfl) (ev_is (ev_op (ev_op (ev_lenQ (ev_var rfl) (.inr ha)) (ev_lenQ (ev_var rfl) (.inr hb)) rv_I0) ev_c rv_I0) (by rw [sV_len, sV_len]; congr 1; omega)) ha (by rw [sV_len]; omega)) fun p H1 np e hp => k p H1 np e ?_
    rw [hp]
    unfold headF sV
    rw [List.map_take]
theorem ok_is_of (T : Tx K mg) : FnOk P w K mg base CX0 2 (ga K "_is_of") (fdOf K ("_is_of", none)) ["word", "head", "tail"] (spThree K isOfB) := by
  refine T.f_is_of.ok sc_is_of (fun vs H Q E h => ?_) (fun cdv A outer s H vs Q E hr h => ?_)
  · obtain ⟨a, b, c, w, h, t, rfl, _⟩ := h
    rfl
  · refine ⟨_, PSs.nox (pss_one (ps_ret (pe_and (pe_cmpR op_eq (pe_callB call_len (by rfl) T.n_len boot_len (pa_cons (pv 0) pa_nil)) (pe_op op_add (pe_op op_add (pe_callB call_len (by rfl) T.n_len boot_len (pa_cons (pv 1) pa_nil)) pe_int) (pe_callB call_len (by rfl) T.n_len boot_len (pa_cons (pv 2) pa_nil))) (nomark _)) (pe_and (pe_call (ok_begins T) (hr.mono (by decide)) (by rfl) T.g_begins T.f_begins.kp (b_begins T) .nil pass0 (pa_cons (pv 0) (pa_cons (pv 1) pa_nil))) (pe_one (pe_call (ok_ends T) (hr.mono (by decide)) (by rfl) T.g_ends T.f_ends.kp (b_ends T) .nil pass0 (pa_cons (pv 0) (pa_cons (pv 2) pa_nil)))))))), ?_⟩
    -- slots: [(0, 'word'), (1, 'head'), (2, 'tail')]
    obtain ⟨a, b, c, w, h, t, rfl, ha, hb, hc, lw, lh, lt, k⟩ := h
    refine s_ret (ev_is (ev_andV (ev_is (ev_op (ev_lenQ (ev_var rfl) (.inr ha)) (ev_op (ev_op (ev_lenQ (ev_var rfl) (.inr hb)) ev_c rv_I0) (ev_lenQ (ev_var rfl) (.inr hc)) rv_I0) (rv_eq rfl)) (congrArg V.bl (decide_eq_decide.mpr ⟨fun e => by have := V.int.inj e; rw [sV_len, sV_len, sV_len] at this; omega, fun e => by rw [sV_len, sV_len, sV_len]; congr 1; omega⟩ : _ = decide (w.length = h.length + 1 + t.length)))) fun _ => ev_andV (ev_call (ea_cons (ev_var rfl) (ea_cons (ev_var rfl) ea_nil)) fun H1 e Q q E => ⟨a, b, w, h, rfl, ex_t e ha, ex_t e hb, lw, lh, q⟩) fun _ => ev_call (ea_cons (ev_var rfl) (ea_cons (ev_var rfl) ea_nil)) fun H1 e Q q E => ⟨a, c, w, t, rfl, ex_t e ha, ex_t e hc, lw, lt, q⟩) rfl) k
end
end K82
set_option Elab.async false
set_option linter.all false
set_option maxRecDepth 100000
set_option maxHeartbeats 4000000
set_option autoImplicit false
/-! what a def raises. -/
namespace L2
open PySem PySem.Spec PyProof.Rows Evl He
/-- the exception C with these fields is wished for -/
def ErrX (K : PySem.W.Frag) (H : Hp) (E : XK) (C : Str) (fs : List (Str × V)) : Prop := ∀ d H2, Ex H H2 → H2 d = some (.xd fs) → E (.ref (ga K C)) (some d) H2
theorem ErrX.ex {K : PySem.W.Frag} {H H' : Hp} {E : XK} {C : Str} {fs : List (Str × V)} (h : ErrX K H E C fs) (e : Ex H H') : ErrX K H' E C fs := fun d H2 e2 h2 => h d H2 (e.trans e2) h2
/-- refused if b is false, else k -/
def OrX (K : PySem.W.Frag) (H : Hp) (E : XK) (b : Bool) (C : Str) (fs : List (Str × V)) (k : Prop) : Prop := (b = false → ErrX K H E C fs) ∧ (b = true → k)
theorem no_f {b : Bool} {C : Prop} (h : b = true) (z : b = false) : C := by cases h.symm.trans z
theorem no_t {b : Bool} {C : Prop} (h : b = false) (z : b = true) : C := by cases h.symm.trans z
end L2
set_option Elab.async false
set_option linter.all false
set_option maxRecDepth 100000
set_option maxHeartbeats 4000000
set_option autoImplicit false
/-! min and max of two texts; lists put together. -/
namespace He
open PySem PySem.Spec PySem.Calls PyProof.Rows L2 Evl
/-- the lesser and the greater of two texts, the first of equal ones -/
def strLt (x y : Str) : Bool := decide (x.cps.toList < y.cps.toList)
def minS (x y : Str) : Str := if strLt y x then y else x
def maxS (x y : Str) : Str := if strLt x y then y else x
section
variable {prog : Program} {w : World} {A : Around} {x y : Str} {t u : Tok}
theorem cmp_strs {op : CmpOp} {f : Str → Str → Bool} (hf : ∀ (a b : Str) (t u : Tok) (s : Shared) (Q E : Value → Shared → Prop), Q (.bool (f a b)) s → wpAny (model prog w) A (richCompare op (.str a t) (.str b u)) Q E s) :
    CmpOf prog w A op (fun i v => (#[Value.str x t, Value.str y u])[i]? = some v) (fun i j => f (if i = 0 then x else y) (if j = 0 then x else y)) := by
  have look : ∀ {i : Nat} {v : Value}, (#[Value.str x t, Value.str y u])[i]? = some v → ∃ tk, v = .str (if i = 0 then x else y) tk := fun {i v} h => by
    match i, h with
    | 0, h => exact ⟨t, (Option.some.inj h).symm⟩
    | 1, h => exact ⟨u, (Option.some.inj h).symm⟩
    | n + 2, h => exact nomatch (show (none : Option Value) = some v from h)
  intro i j vi vj s Q E hi hj h
  obtain ⟨_, rfl⟩ := look hi
  obtain ⟨_, rfl⟩ := look hj
  exact hf _ _ _ _ s Q E h
theorem lt_strs (a b : Str) (t u : Tok) (s : Shared) (Q E : Value → Shared → Prop) (h : Q (.bool (strLt a b)) s) : wpAny (model prog w) A (richCompare .Lt (.str a t) (.str b u)) Q E s := PyProof.Rows.lt_str h
theorem gt_strs (a b : Str) (t u : Tok) (s : Shared) (Q E : Value → Shared → Prop) (h : Q (.bool (strLt b a)) s) : wpAny (model prog w) A (richCompare .Gt (.str a t) (.str b u)) Q E s := PySem.P.gt_str h
end
section
variable {X : Cx}
theorem call_min2S (hc : X.calm = true) : CallR X (.builtin "min") (fun xs H Q => ∃ i j, xs = [.str i, .str j] ∧ Q (.str (minS i j)) H) := by
  intro pins s σ H xs us Q I r h
  obtain ⟨i, j, rfl, q⟩ := h
  obtain ⟨_, _, rfl, ⟨t, rfl⟩, ⟨u, rfl⟩⟩ := vals2 r
  have hT : (s.heap.push { cls := .type "tuple", data := .seq #[Value.str i t, Value.str j u] }).IsTuple s.heap.objs.size #[Value.str i t, Value.str j u] := ⟨_, Heap.get?_push_size _ rfl, rfl, 0, rfl⟩
  have hsz : (s.heap.push { cls := .type "tuple", data := .seq #[Value.str i t, Value.str j u] }).objs.size = s.heap.objs.size + 1 := Heap.size_push ..
  refine call_min_two (wpAny_pyIter_tuple hT ⟨_, [_, s.heap.objs.size], [_], _, _, _, _, rfl, Walks.tuple (A := X.A.in1) (I.ok.hd hc) _ s.heap.objs.size (by rw [hsz]; exact Nat.ne_of_lt (Nat.lt_succ_self _)) #[Value.str i t, Value.str j u],
    ⟨⟨_, Heap.get?_push_size _ rfl, rfl, rfl⟩, hT.push _⟩, fun c m => ?_, by simp, cmp_strs lt_strs, fun v h' tk hP hk => ?_⟩)
  · show c < ((s.heap.push _).push _).objs.size
    rw [Heap.size_push, hsz]
    simp only [List.mem_cons, List.not_mem_nil, or_false, hsz] at m
    rcases m with rfl | rfl
    · exact Nat.lt_succ_self _
    · exact Nat.lt_succ_of_lt (Nat.lt_succ_self _)
  · refine ⟨.str (minS i j), H, I.kept fun c o e => hk c o (fun m => ?_) (Heap.get?_push_of_some _ (Heap.get?_push_of_some _ e)), ?_, q⟩
    · have z := Heap.lt_size e
      rw [List.mem_singleton] at m
      rw [m, hsz] at z
      exact Nat.lt_irrefl _ (Nat.lt_of_succ_lt z)
    · unfold minS
      cases e : strLt j i with
      | true =>
        simp [argBest, e] at hP
        rw [← hP, if_pos rfl]
        exact ⟨u, rfl⟩
      | false =>
        simp [argBest, e] at hP
        rw [← hP, if_neg Bool.false_ne_true]
        exact ⟨t, rfl⟩
theorem call_max2S (hc : X.calm = true) : CallR X (.builtin "max") (fun xs H Q => ∃ i j, xs = [.str i, .str j] ∧ Q (.str (maxS i j)) H) := by
  intro pins s σ H xs us Q I r h
  obtain ⟨i, j, rfl, q⟩ := h
  obtain ⟨_, _, rfl, ⟨t, rfl⟩, ⟨u, rfl⟩⟩ := vals2 r
  have hT : (s.heap.push { cls := .type "tuple", data := .seq #[Value.str i t, Value.str j u] }).IsTuple s.heap.objs.size #[Value.str i t, Value.str j u] := ⟨_, Heap.get?_push_size _ rfl, rfl, 0, rfl⟩
  have hsz : (s.heap.push { cls := .type "tuple", data := .seq #[Value.str i t, Value.str j u] }).objs.size = s.heap.objs.size + 1 := Heap.size_push ..
  refine call_max_two (wpAny_pyIter_tuple hT ⟨_, [_, s.heap.objs.size], [_], _, _, _, _, rfl, Walks.tuple (A := X.A.in1) (I.ok.hd hc) _ s.heap.objs.size (by rw [hsz]; exact Nat.ne_of_lt (Nat.lt_succ_self _)) #[Value.str i t, Value.str j u],
    ⟨⟨_, Heap.get?_push_size _ rfl, rfl, rfl⟩, hT.push _⟩, fun c m => ?_, by simp, cmp_strs (f := fun a b => strLt b a) gt_strs, fun v h' tk hP hk => ?_⟩)
  · show c < ((s.heap.push _).push _).objs.size
    rw [Heap.size_push, hsz]
    simp only [List.mem_cons, List.not_mem_nil, or_false, hsz] at m
    rcases m with rfl | rfl
    · exact Nat.lt_succ_self _
    · exact Nat.lt_succ_of_lt (Nat.lt_succ_self _)
  · refine ⟨.str (maxS i j), H, I.kept fun c o e => hk c o (fun m => ?_) (Heap.get?_push_of_some _ (Heap.get?_push_of_some _ e)), ?_, q⟩
    · have z := Heap.lt_size e
      rw [List.mem_singleton] at m
      rw [m, hsz] at z
      exact Nat.lt_irrefl _ (Nat.lt_of_succ_lt z)
    · unfold maxS
      cases e : strLt i j with
      | true =>
        simp [argBest, e] at hP
        rw [← hP, if_pos rfl]
        exact ⟨u, rfl⟩
      | false =>
        simp [argBest, e] at hP
        rw [← hP, if_neg Bool.false_ne_true]
        exact ⟨t, rfl⟩
variable {K : PySem.W.Frag} {σ : L2.St} {H H' : Hp} {ta tb te : TE} {D : Ends} {t : TT}
theorem rc_minS {x y : Str} : RC (fun xs H Q => ∃ i j, xs = [.str i, .str j] ∧ Q (.str (minS i j)) H) [.str x, .str y] H (.str (minS x y)) := fun H1 e Q q => ⟨x, y, rfl, q H1 (Ex.refl H1)⟩
theorem rc_maxS {x y : Str} : RC (fun xs H Q => ∃ i j, xs = [.str i, .str j] ∧ Q (.str (maxS i j)) H) [.str x, .str y] H (.str (maxS x y)) := fun H1 e Q q => ⟨x, y, rfl, q H1 (Ex.refl H1)⟩
theorem el_catV {xs ys : List V} {p : Addr} (h : EvL ta σ H xs) (hb : Ev tb σ H (.ref p)) (hp : H p = some (.lst ys)) (hz : xs.length + ys.length ≤ 100000) : EvL (tOp rCat ta tb) σ H (xs ++ ys) := fun H1 e Q q =>
  h H1 e _ fun a H2 ha e2 h2 => hb H2 (e.trans e2) _ fun H3 e3 => ⟨a, p, _, _, rfl, rfl, e3 _ _ h2, e3 _ _ (e2 _ _ (e _ _ hp)), sz_of hz, fun r hr => q r _ (fresh_back (e2.trans e3) hr) ((e2.trans e3).trans (Ex.new hr)) upd_same⟩
theorem s_retP {R : V → Hp → Prop} (h : EvP te σ H R) (k : ∀ v H1, Ex H H1 → R v H1 → D.rt v H1) : tRet te D σ H := h H (Ex.refl H) _ k
theorem evp_if {R : V → Hp → Prop} {b : Bool} (h : EvT t σ H b) (h1 : b = true → EvP ta σ H R) (h2 : b = false → EvP tb σ H R) : EvP (tIf t ta tb) σ H R := fun H1 e Q q => h H1 e _ fun H2 e2 => by
  cases b with
  | true =>
    show ta σ H2 Q
    exact h1 rfl H2 (e.trans e2) Q fun v H3 e3 r => q v H3 (e2.trans e3) r
  | false =>
    show tb σ H2 Q
    exact h2 rfl H2 (e.trans e2) Q fun v H3 e3 r => q v H3 (e2.trans e3) r
/-- a list that is new to an earlier heap -/
def NewL (H0 : Hp) (xs : List V) : V → Hp → Prop := fun v H => ∃ p, v = .ref p ∧ H0 p = none ∧ H p = some (.lst xs)
theorem evp_new {H0 : Hp} {xs : List V} (e0 : Ex H0 H) (h : EvL te σ H xs) : EvP te σ H (NewL H0 xs) := fun H1 e Q q => h H1 e _ fun p H2 hp e2 h2 => q _ H2 e2 ⟨p, rfl, fresh_back (e0.trans e) hp, h2⟩
theorem evp_old {H0 : Hp} {xs : List V} {p : Addr} (h : Ev te σ H (.ref p)) (h0 : H0 p = none) (hp : H p = some (.lst xs)) : EvP te σ H (NewL H0 xs) := fun H1 e Q q => h H1 e _ fun H2 e2 => q _ H2 e2 ⟨p, rfl, h0, e2 _ _ (e _ _ hp)⟩
end
end He
set_option Elab.async false
set_option linter.all false
set_option maxRecDepth 100000
set_option maxHeartbeats 4000000
set_option autoImplicit false
/-! [f(x) for x in xs] where f gives a new object, or any value of which R holds. -/
namespace He
open PySem PySem.Spec PyProof.Rows L2 Evl
section
variable {K : PySem.W.Frag} {σ : L2.St} {H : Hp} {te tl : TE} {α : Type}
/-- all but lists stay -/
def ExN (H H' : Hp) : Prop := ∀ a u, H a = some u → (∀ xs, u ≠ .lst xs) → H' a = some u
theorem ExN.of {H H' : Hp} (e : Ex H H') : ExN H H' := fun a u h _ => e a u h
theorem ExN.trans {H H1 H2 : Hp} (a : ExN H H1) (b : ExN H1 H2) : ExN H H2 := fun x u h n => b x u (a x u h n) n
theorem ExN.upd {H : Hp} {p : Addr} {acc : List V} {o : HO} (h : H p = some (.lst acc)) : ExN H (upd H p o) := fun a u ha n => by
  rw [upd_ne (fun z => by rw [z, h] at ha; exact n acc (Option.some.inj ha).symm)]
  exact ha
def StabN (R : V → Hp → Prop) : Prop := ∀ v H H', R v H → ExN H H' → R v H'
/-- each of vs is the value of its x -/
inductive Each (R : α → V → Hp → Prop) (H : Hp) : List α → List V → Prop
  | nil : Each R H [] []
  | cons {x : α} {v : V} {xs : List α} {vs : List V} : R x v H → Each R H xs vs → Each R H (x :: xs) (v :: vs)
theorem Each.ex {R : α → V → Hp → Prop} {H H' : Hp} (st : ∀ x, StabN (R x)) (e : ExN H H') : ∀ {xs : List α} {vs : List V}, Each R H xs vs → Each R H' xs vs
  | _, _, .nil => .nil
  | _, _, .cons h t => .cons (st _ _ _ _ h e) (t.ex st e)
theorem Each.len {R : α → V → Hp → Prop} {H : Hp} : ∀ {xs : List α} {vs : List V}, Each R H xs vs → xs.length = vs.length
  | _, _, .nil => rfl
  | _, _, .cons _ t => congrArg (· + 1) t.len
theorem Each.snoc {R : α → V → Hp → Prop} {H : Hp} {y : α} {v : V} (h : R y v H) : ∀ {xs : List α} {vs : List V}, Each R H xs vs → Each R H (xs ++ [y]) (vs ++ [v])
  | _, _, .nil => .cons h .nil
  | _, _, .cons h1 t => .cons h1 (t.snoc h)
/-- a list of values, each as R says -/
def EvLP (te : TE) (σ : L2.St) (H : Hp) (R : α → V → Hp → Prop) (xs : List α) : Prop := ∀ H1, Ex H H1 → ∀ Q : VK, (∀ p vs H2, H1 p = none → Ex H1 H2 → H2 p = some (.lst vs) → Each R H2 xs vs → Q (.ref p) H2) → te σ H1 Q
theorem el_lcPW {J : It} {G : Hp → Prop} {wi : TI} {j : Nat} {vs : List Nat} {R : α → V → Hp → Prop} (st : ∀ x, StabN (R x)) (f : α → V) {xs : List α} (w : Walk J xs.length G (fun i H x H' => H' = H ∧ (xs.map f)[i]? = some x))
    (hi : ∀ H1, Ex H H1 → ∀ N : It → Hp → Prop, (∀ H2, Ex H1 H2 → G H2 → N J H2) → wi σ H1 N) (hG : ∀ H1 H2, G H1 → Ex H1 H2 → G H2) (hz : xs.length ≤ 40000) (hw : ∀ x, wipe ((wipe σ vs).set j (some x)) vs = wipe σ vs)
    (he : ∀ (x : α) H1, Ex H H1 → x ∈ xs → EvP te ((wipe σ vs).set j (some (f x))) H1 (R x)) : EvLP (tLc wi (gName j) tYes te vs) σ H R xs := fun H0 e Q q => hi H0 e _ fun H1 e1 g1 => fun Dl hD =>
  lc_it w (fun i H' => ∃ acc, H' Dl = some (.lst acc) ∧ Ex H1 H' ∧ Each R H' (xs.take i) acc) ⟨[], upd_same, Ex.new hD, .nil⟩ (fun i H' _ p => let ⟨_, _, e2, _⟩ := p; hG H1 H' g1 e2) (fun i x H2 H' hlt p y => by
    obtain ⟨rfl, hy⟩ := y
    obtain ⟨acc, ha, e2, all⟩ := p
    rw [List.getElem?_map] at hy
    obtain ⟨z, hz1, rfl⟩ := Option.map_eq_some_iff.mp hy
    have hlen := all.len
    rw [List.length_take] at hlen
    refine ⟨hw _, ?_⟩
    refine he z H1 (e.trans e1) (List.mem_of_getElem? hz1) H' e2 _ fun v H4 e4 r => ⟨acc, e4 _ _ ha, sz_lt (by omega), acc ++ [v], upd_same, Ex.mut (e2.trans e4) hD, ?_⟩
    have n2 : ExN H4 (upd H4 Dl (.lst (acc ++ [v]))) := ExN.upd (e4 _ _ ha)
    rw [List.take_succ, hz1]
    exact (all.ex st ((ExN.of e4).trans n2)).snoc (st _ _ _ _ r n2))
    (fun H' p => by
      obtain ⟨acc, ha, e2, all⟩ := p
      rw [List.take_length] at all
      exact q Dl acc H' (fresh_back e1 hD) (e1.trans e2) ha all)
theorem el_lcP {a : Addr} {j : Nat} {vs : List Nat} {R : α → V → Hp → Prop} (st : ∀ x, StabN (R x)) (f : α → V) {xs : List α} (h : Ev tl σ H (.ref a)) (hx : SqL K H a (xs.map f) ∨ SqT K H a (xs.map f)) (hz : xs.length ≤ 40000)
    (hw : ∀ x, wipe ((wipe σ vs).set j (some x)) vs = wipe σ vs) (he : ∀ (x : α) H1, Ex H H1 → x ∈ xs → EvP te ((wipe σ vs).set j (some (f x))) H1 (R x)) : EvLP (tLc (iSeq K tl) (gName j) tYes te vs) σ H R xs := by
  have el : (xs.map f).length = xs.length := List.length_map _
  rcases hx with hx | hx
  · exact el_lcPW (J := Itl K a) (G := fun H => SqL K H a (xs.map f)) st f (by rw [← el]; exact walk_list) (fun H1 e R q => .inl (h H1 e _ fun H2 e2 => ⟨a, rfl, ⟨_, ex_l (e.trans e2) hx⟩, q H2 e2 (ex_l (e.trans e2) hx)⟩)) (fun H1 H2 g e => ex_l e g) hz hw he
  · exact el_lcPW (J := Itt K a) (G := fun H => SqT K H a (xs.map f)) st f (by rw [← el]; exact walk_tup) (fun H1 e R q => .inr (h H1 e _ fun H2 e2 => ⟨a, rfl, ⟨_, ex_t (e.trans e2) hx⟩, q H2 e2 (ex_t (e.trans e2) hx)⟩)) (fun H1 H2 g e => ex_t e g) hz hw he
end
end He
set_option Elab.async false
set_option linter.all false
set_option maxRecDepth 100000
set_option maxHeartbeats 4000000
set_option autoImplicit false
/-! comprehensions that make new objects, over lists, tuples, ranges of what has a meaning; targets of any form; with a test. -/
namespace He
open PySem PySem.Spec PyProof.Rows L2 Evl
section
variable {K : PySem.W.Frag} {σ : L2.St} {H : Hp} {te tl : TE} {t : TT} {g : TG} {α β : Type}
/-- a list (a tuple) each of whose items means its x -/
def EvLS (K : PySem.W.Frag) (te : TE) (σ : L2.St) (H : Hp) (R : α → V → Hp → Prop) (xs : List α) : Prop := ∀ H1, Ex H H1 → ∀ Q : VK, (∀ p us H2, Ex H1 H2 → SqL K H2 p us → Each R H2 xs us → Q (.ref p) H2) → te σ H1 Q
def EvTS (K : PySem.W.Frag) (te : TE) (σ : L2.St) (H : Hp) (R : α → V → Hp → Prop) (xs : List α) : Prop := ∀ H1, Ex H H1 → ∀ Q : VK, (∀ p us H2, Ex H1 H2 → SqT K H2 p us → Each R H2 xs us → Q (.ref p) H2) → te σ H1 Q
theorem EvLP.src {R : α → V → Hp → Prop} {xs : List α} (h : EvLP te σ H R xs) : EvLS K te σ H R xs := fun H1 e Q q => h H1 e Q fun p us H2 _ e2 hp a => q p us H2 e2 (SqL.of hp) a
theorem Each.get {R : α → V → Hp → Prop} {H : Hp} : ∀ {xs : List α} {us : List V} {i : Nat} {v : V}, Each R H xs us → us[i]? = some v → ∃ x, xs[i]? = some x ∧ R x v H
  | _, _, 0, _, .cons h _, e => ⟨_, rfl, by cases e; exact h⟩
  | _, _, i + 1, _, .cons _ t, e => t.get (i := i) e
theorem Each.at {R : α → V → Hp → Prop} {H : Hp} : ∀ {xs : List α} {us : List V} {i : Nat} {x : α}, Each R H xs us → xs[i]? = some x → ∃ v, us[i]? = some v ∧ R x v H
  | _, _, 0, _, .cons h _, e => ⟨_, rfl, by cases e; exact h⟩
  | _, _, i + 1, _, .cons _ t, e => t.at (i := i) e
theorem Each.exS {R : α → V → Hp → Prop} {H H' : Hp} (st : ∀ x, Stab (R x)) (e : Ex H H') : ∀ {xs : List α} {vs : List V}, Each R H xs vs → Each R H' xs vs
  | _, _, .nil => .nil
  | _, _, .cons h t => .cons (st _ _ _ _ h e) (t.exS st e)
theorem Each.imp {R S : α → V → Hp → Prop} {H H' : Hp} (f : ∀ x v, R x v H → S x v H') : ∀ {xs : List α} {vs : List V}, Each R H xs vs → Each S H' xs vs
  | _, _, .nil => .nil
  | _, _, .cons h t => .cons (f _ _ h) (t.imp f)
theorem Each.app {R : α → V → Hp → Prop} {H : Hp} : ∀ {xs ys : List α} {us vs : List V}, Each R H xs us → Each R H ys vs → Each R H (xs ++ ys) (us ++ vs)
  | _, _, _, _, .nil, b => b
  | _, _, _, _, .cons h t, b => .cons h (t.app b)
theorem each_map {R : α → V → Hp → Prop} {H : Hp} (f : α → V) : ∀ {xs : List α}, (∀ x ∈ xs, R x (f x) H) → Each R H xs (xs.map f)
  | [], _ => .nil
  | x :: xs, h => .cons (h x List.mem_cons_self) (each_map f fun y hy => h y (List.mem_cons_of_mem _ hy))
theorem stabN_ex {R : V → Hp → Prop} (h : StabN R) : Stab R := fun v H H' r e => h v H H' r (ExN.of e)
theorem ls_var {R : α → V → Hp → Prop} (st : ∀ x, Stab (R x)) {a : Addr} {us : List V} {xs : List α} (h : Ev te σ H (.ref a)) (ha : SqL K H a us) (all : Each R H xs us) : EvLS K te σ H R xs := fun H1 e Q q =>
  h H1 e _ fun H2 e2 => q a us H2 e2 (ex_l (e.trans e2) ha) (all.exS st (e.trans e2))
theorem ts_var {R : α → V → Hp → Prop} (st : ∀ x, Stab (R x)) {a : Addr} {us : List V} {xs : List α} (h : Ev te σ H (.ref a)) (ha : SqT K H a us) (all : Each R H xs us) : EvTS K te σ H R xs := fun H1 e Q q =>
  h H1 e _ fun H2 e2 => q a us H2 e2 (ex_t (e.trans e2) ha) (all.exS st (e.trans e2))
/-- the turns of such a comprehension -/
theorem lc_turn {vs : List Nat} {R : β → V → Hp → Prop} (st : ∀ x, StabN (R x)) {H0 H1 : Hp} {n i : Nat} {Dl : Addr} {ys : List β} {y : β} {b : Bool} {σ2 : L2.St} {H' : Hp} (few : ys.length < 100000) (hD : H1 Dl = none)
    (p : ∃ acc, H' Dl = some (.lst acc) ∧ Ex H1 H' ∧ Each R H' ys acc) (ht : EvT t σ2 H1 b) (he : b = true → EvP te σ2 H1 (R y)) :
    t σ2 H' fun c H3 => if c = true then te σ2 H3 fun v H4 => ∃ acc, H4 Dl = some (.lst acc) ∧ acc.length < sizeLine ∧ (∃ acc', (upd H4 Dl (.lst (acc ++ [v]))) Dl = some (.lst acc') ∧ Ex H1 (upd H4 Dl (.lst (acc ++ [v]))) ∧ Each R (upd H4 Dl (.lst (acc ++ [v]))) (if b then ys ++ [y] else ys) acc') else ∃ acc', H3 Dl = some (.lst acc') ∧ Ex H1 H3 ∧ Each R H3 (if b then ys ++ [y] else ys) acc' := by
  obtain ⟨acc, ha, e2, all⟩ := p
  have hlen := all.len
  refine ht H' e2 _ fun H3 e3 => ?_
  cases hb : b with
  | true =>
    rw [if_pos rfl, if_pos rfl]
    refine he hb H3 (e2.trans e3) _ fun v H4 e4 r => ?_
    have h4 := e4 _ _ (e3 _ _ ha)
    have n2 : ExN H4 (upd H4 Dl (.lst (acc ++ [v]))) := ExN.upd h4
    exact ⟨acc, h4, sz_lt (by omega), acc ++ [v], upd_same, Ex.mut ((e2.trans e3).trans e4) hD, (all.ex st ((ExN.of (e3.trans e4)).trans n2)).snoc (st _ _ _ _ r n2)⟩
  | false =>
    rw [if_neg (by decide), if_neg (by decide)]
    exact ⟨acc, e3 _ _ ha, e2.trans e3, all.ex st (ExN.of e3)⟩
theorem filter_take_succ {xs : List α} {b : α → Bool} {i : Nat} {x : α} (h : xs[i]? = some x) : (xs.take (i + 1)).filter b = if b x then (xs.take i).filter b ++ [x] else (xs.take i).filter b := by
  rw [List.take_succ, h, List.filter_append]
  show _ ++ List.filter b [x] = _
  cases hb : b x with
  | true => rw [List.filter_cons, if_pos hb, if_pos rfl]; rfl
  | false => rw [List.filter_cons, if_neg (by rw [hb]; decide), if_neg (by decide)]; simp
/-- over what the walk gives, item by item -/
theorem el_lcWG {J : It} {G : Hp → Prop} {wi : TI} {vs : List Nat} {R : α → V → Hp → Prop} {Y : α → V → Hp → Prop} (st : ∀ x, StabN (R x)) (stY : ∀ x, Stab (Y x)) (b : α → Bool) (σ2 : α → L2.St) {xs : List α} (hz : xs.length ≤ 40000)
    (hi : ∀ H1, Ex H H1 → ∀ N : It → Hp → Prop, (∀ (J : It) (G : Hp → Prop) (us : List V) H2, Ex H1 H2 → Walk J xs.length G (fun i H x H' => H' = H ∧ us[i]? = some x) → (∀ H3, Ex H2 H3 → G H3) → Each Y H2 xs us → N J H2) → wi σ H1 N)
    (hw : ∀ x, wipe (σ2 x) vs = wipe σ vs) (hg : ∀ x ∈ xs, ∀ v H', Y x v H' → ∀ N : L2.St → Hp → Prop, N (σ2 x) H' → g v (wipe σ vs) H' N)
    (ht : ∀ x H1, Ex H H1 → x ∈ xs → EvT t (σ2 x) H1 (b x)) (he : ∀ x H1, Ex H H1 → x ∈ xs → b x = true → EvP te (σ2 x) H1 (R x)) : EvLP (tLc wi g t te vs) σ H R (xs.filter b) := fun H0 e Q q => hi H0 e _ fun J G us H1 e1 w hG all => fun Dl hD =>
  lc_it w (fun i H' => ∃ acc, H' Dl = some (.lst acc) ∧ Ex H1 H' ∧ Each R H' ((xs.take i).filter b) acc) ⟨[], upd_same, Ex.new hD, .nil⟩ (fun i H' _ ⟨_, _, e2, _⟩ => hG H' e2) (fun i v H2 H' hlt p y => by
    obtain ⟨rfl, hy⟩ := y
    obtain ⟨x, hx, yx⟩ := all.get hy
    obtain ⟨acc, ha, e2, each⟩ := p
    have hm := List.mem_of_getElem? hx
    refine hg x hm v _ (stY _ _ _ _ yx e2) _ ⟨hw x, ?_⟩
    have z := lc_turn (t := t) (te := te) (vs := vs) (H0 := H0) (n := 0) (i := 0) st (ys := (xs.take i).filter b) (y := x) (b := b x) (by have := List.length_filter_le b (xs.take i); rw [List.length_take] at this; omega) hD ⟨acc, ha, e2, each⟩ (ht x H1 (e.trans e1) hm) (he x H1 (e.trans e1) hm)
    rw [filter_take_succ hx]
    exact z) (fun H' ⟨acc, ha, e2, each⟩ => by
      rw [List.take_length] at each
      exact q Dl acc H' (fresh_back e1 hD) (e1.trans e2) ha each)
theorem el_lcLG {vs : List Nat} {R : α → V → Hp → Prop} {Y : α → V → Hp → Prop} (st : ∀ x, StabN (R x)) (stY : ∀ x, Stab (Y x)) (b : α → Bool) (σ2 : α → L2.St) {xs : List α} (src : EvLS K tl σ H Y xs) (hz : xs.length ≤ 40000)
    (hw : ∀ x, wipe (σ2 x) vs = wipe σ vs) (hg : ∀ x ∈ xs, ∀ v H', Y x v H' → ∀ N : L2.St → Hp → Prop, N (σ2 x) H' → g v (wipe σ vs) H' N)
    (ht : ∀ x H1, Ex H H1 → x ∈ xs → EvT t (σ2 x) H1 (b x)) (he : ∀ x H1, Ex H H1 → x ∈ xs → b x = true → EvP te (σ2 x) H1 (R x)) : EvLP (tLc (iList K tl) g t te vs) σ H R (xs.filter b) :=
  el_lcWG (J := Itl K 0) (G := fun _ => True) st stY b σ2 hz (fun H1 e N q => src H1 e _ fun p us H2 e2 hp all => ⟨p, rfl, ⟨us, hp⟩, q (Itl K p) (fun H => SqL K H p us) us H2 e2 (by rw [all.len]; exact walk_list) (fun H3 e3 => ex_l e3 hp) all⟩) hw hg ht he
theorem el_lcTG {vs : List Nat} {R : α → V → Hp → Prop} {Y : α → V → Hp → Prop} (st : ∀ x, StabN (R x)) (stY : ∀ x, Stab (Y x)) (b : α → Bool) (σ2 : α → L2.St) {xs : List α} (src : EvTS K tl σ H Y xs) (hz : xs.length ≤ 40000)
    (hw : ∀ x, wipe (σ2 x) vs = wipe σ vs) (hg : ∀ x ∈ xs, ∀ v H', Y x v H' → ∀ N : L2.St → Hp → Prop, N (σ2 x) H' → g v (wipe σ vs) H' N)
    (ht : ∀ x H1, Ex H H1 → x ∈ xs → EvT t (σ2 x) H1 (b x)) (he : ∀ x H1, Ex H H1 → x ∈ xs → b x = true → EvP te (σ2 x) H1 (R x)) : EvLP (tLc (iTup K tl) g t te vs) σ H R (xs.filter b) :=
  el_lcWG (J := Itt K 0) (G := fun _ => True) st stY b σ2 hz (fun H1 e N q => src H1 e _ fun p us H2 e2 hp all => ⟨p, rfl, ⟨us, hp⟩, q (Itt K p) (fun H => SqT K H p us) us H2 e2 (by rw [all.len]; exact walk_tup) (fun H3 e3 => ex_t e3 hp) all⟩) hw hg ht he
theorem filter_all (xs : List α) : xs.filter (fun _ => true) = xs := List.filter_eq_self.mpr fun _ _ => rfl
/-- a new tuple of ints -/
def TupI (ns : List Int) (v : V) (H : Hp) : Prop := ∃ p, v = .ref p ∧ H p = some (.tup (ns.map V.int))
theorem tupI_st (ns : List Int) : StabN (TupI ns) := fun v H H' ⟨p, e, h⟩ x => ⟨p, e, x _ _ h fun _ y => nomatch y⟩
theorem evp_tupI {ns : List Int} {ta : TA} (h : EvA ta σ H (ns.map V.int)) (few : ns.length ≤ 1000) : EvP (tTup ta) σ H (TupI ns) := fun H1 e Q q => (eu_tup h (by rw [List.length_map]; omega)) H1 e _ fun p H2 np e2 hp => q _ H2 e2 ⟨p, rfl, hp⟩
/-- a list and a new list put together -/
theorem lp_cat {R : α → V → Hp → Prop} (st : ∀ x, Stab (R x)) {a : Addr} {us : List V} {xs ys : List α} {ta tb : TE} (h : Ev ta σ H (.ref a)) (ha : H a = some (.lst us)) (all : Each R H xs us) (hb : EvLP tb σ H R ys) (few : xs.length + ys.length ≤ 100000) : EvLP (tOp rCat ta tb) σ H R (xs ++ ys) := fun H1 e Q q =>
  h H1 e _ fun H2 e2 => hb H2 (e.trans e2) _ fun b vs H3 nb e3 hb each => ⟨a, b, us, vs, rfl, rfl, e3 _ _ (e2 _ _ (e _ _ ha)), hb, sz_of (by rw [← all.len, ← each.len]; exact few), fun r nr => q r _ _ (fresh_back (e2.trans e3) nr) ((e2.trans e3).trans (Ex.new nr)) upd_same ((all.exS st (((e.trans e2).trans e3).trans (Ex.new nr))).app (each.exS st (Ex.new nr)))⟩
theorem Each.mapL {R : β → V → Hp → Prop} {H : Hp} (f : α → β) : ∀ {xs : List α} {us : List V}, Each (fun x => R (f x)) H xs us → Each R H (xs.map f) us
  | _, _, .nil => .nil
  | _, _, .cons h t => .cons h (t.mapL f)
theorem EvLP.mapL {R : β → V → Hp → Prop} (f : α → β) {xs : List α} (h : EvLP te σ H (fun x => R (f x)) xs) : EvLP te σ H R (xs.map f) := fun H1 e Q q => h H1 e Q fun p us H2 np e2 hp a => q p us H2 np e2 hp (a.mapL f)
def intsR (x : Nat) (v : V) (_ : Hp) : Prop := v = .int (x : Nat)
theorem intsR_st (x : Nat) : Stab (intsR x) := fun _ _ _ h _ => h
theorem each_ints {H : Hp} (xs : List Nat) : Each intsR H xs (xs.map fun x => V.int (x : Nat)) := each_map _ fun _ _ => rfl
/-- [e for x in xs], xs a list or a tuple, by place -/
theorem el_lcSeqI {a : Addr} {xs : List V} {j : Nat} {vs : List Nat} (v : Nat → V) (h : Ev tl σ H (.ref a)) (hx : SqL K H a xs ∨ SqT K H a xs) (hz : xs.length ≤ 40000) (hw : ∀ x, wipe ((wipe σ vs).set j (some x)) vs = wipe σ vs)
    (he : ∀ (i : Nat) (x : V) H1, Ex H H1 → xs[i]? = some x → Ev te ((wipe σ vs).set j (some x)) H1 (v i)) : EvL (tLc (iSeq K tl) (gName j) tYes te vs) σ H ((List.range xs.length).map v) := by
  have e0 : given xs.length (fun _ => true) v = (List.range xs.length).map v := by
    unfold given
    rw [List.filter_eq_self.mpr fun _ _ => rfl]
  rw [← e0]
  rcases hx with hx | hx
  · exact el_lcW (J := Itl K a) (n := xs.length) (G := fun H => SqL K H a xs) (ys := fun i x => xs[i]? = some x) _ _ walk_list (fun H1 e R q => .inl (h H1 e _ fun H2 e2 => ⟨a, rfl, ⟨xs, ex_l (e.trans e2) hx⟩, q H2 e2 (ex_l (e.trans e2) hx)⟩)) (fun H1 H2 g e => ex_l e g) hz hw (fun _ _ _ _ _ _ => et_yes) (fun i x H1 e hi hy _ => he i x H1 e hy)
  · exact el_lcW (J := Itt K a) (n := xs.length) (G := fun H => SqT K H a xs) (ys := fun i x => xs[i]? = some x) _ _ walk_tup (fun H1 e R q => .inr (h H1 e _ fun H2 e2 => ⟨a, rfl, ⟨xs, ex_t (e.trans e2) hx⟩, q H2 e2 (ex_t (e.trans e2) hx)⟩)) (fun H1 H2 g e => ex_t e g) hz hw (fun _ _ _ _ _ _ => et_yes) (fun i x H1 e hi hy _ => he i x H1 e hy)
theorem lp_seqL {vs : List Nat} {R : α → V → Hp → Prop} {xs : List α} (h : EvLP (tLc (iList K tl) g t te vs) σ H R xs) : EvLP (tLc (iSeq K tl) g t te vs) σ H R xs := fun H1 e Q q => .inl (h H1 e Q q)
theorem lp_seqT {vs : List Nat} {R : α → V → Hp → Prop} {xs : List α} (h : EvLP (tLc (iTup K tl) g t te vs) σ H R xs) : EvLP (tLc (iSeq K tl) g t te vs) σ H R xs := fun H1 e Q q => .inr (h H1 e Q q)
theorem each_zip {R : α → V → Hp → Prop} {H : Hp} : ∀ {xs : List α} {us : List V}, Each R H xs us → Each (fun (p : V × α) v H => v = p.1 ∧ R p.2 v H) H (us.zip xs) us
  | _, _, .nil => .nil
  | _, _, .cons h t => .cons ⟨rfl, h⟩ (each_zip t)
theorem zip_snd : ∀ {us : List V} {xs : List α}, xs.length = us.length → (us.zip xs).map Prod.snd = xs
  | [], [], _ => rfl
  | u :: us, x :: xs, h => by rw [List.zip_cons_cons, List.map_cons, zip_snd (Nat.succ.inj h)]
theorem zipS {R : α → V → Hp → Prop} (st : ∀ x, Stab (R x)) : ∀ p : V × α, Stab (fun v H => v = p.1 ∧ R p.2 v H) := fun p v H H' ⟨a, b⟩ e => ⟨a, st _ _ _ _ b e⟩
end
end He
set_option Elab.async false
set_option linter.all false
set_option maxRecDepth 100000
set_option maxHeartbeats 4000000
set_option autoImplicit false
namespace K82
open PySem PySem.Spec PyProof.Rows L2 He Evl
abbrev T3 := Nat × Nat × Nat
def ints3 (t : T3) : List Int := [(t.1 : Int), (t.2.1 : Int), (t.2.2 : Int)]
/-- a list of tuples of texts -/
def WordsT (K : PySem.W.Frag) (H : Hp) (l : Addr) (ws : List (List Str)) : Prop := ∃ as : List Addr, SqL K H l (as.map V.ref) ∧ as.length = ws.length ∧ ∀ (i : Nat) (a : Addr) (w : List Str), as[i]? = some a → ws[i]? = some w → SqT K H a (sV w)
theorem WordsT.ex {K : PySem.W.Frag} {H H' : Hp} {l : Addr} {ws : List (List Str)} (h : WordsT K H l ws) (e : Ex H H') : WordsT K H' l ws := let ⟨as, h1, h2, h3⟩ := h; ⟨as, ex_l e h1, h2, fun i a w x y => ex_t e (h3 i a w x y)⟩
def at_ (ws : List (List Str)) (x : Nat) : List Str := ws.getD x []
theorem WordsT.at {K : PySem.W.Frag} {H : Hp} {l : Addr} {ws : List (List Str)} (h : WordsT K H l ws) {x : Nat} (hx : x < ws.length) : ∃ a, SqT K H a (sV (at_ ws x)) ∧ ∀ {σ : L2.St} {H' : Hp} {ta tb : TE}, Ex H H' → Ev ta σ H' (.ref l) → Ev tb σ H' (.int (x : Nat)) → Ev (tOp (rIxL K) ta tb) σ H' (.ref a) := by
  obtain ⟨as, h1, h2, h3⟩ := h
  have hx2 : x < as.length := by omega
  refine ⟨as[x], h3 x _ _ (List.getElem?_eq_getElem hx2) (by unfold at_; rw [List.getD_eq_getElem?_getD, List.getElem?_eq_getElem hx]; rfl), fun e ha hb => ev_op ha hb (rv_ixL (ex_l e h1) (atI_nat (by rw [List.getElem?_map, List.getElem?_eq_getElem hx2]; rfl)))⟩
section
variable (ws : List (List Str)) (w body : Nat)
def wHead : List Str := (at_ ws w).take body
def wTail : List Str := (at_ ws w).drop (body + 1)
def condX (x : Nat) : Bool := beginsB (at_ ws x) (wHead ws w body) && !decide ((at_ ws x).drop (body + 1) = wTail ws w body)
def condY (y : Nat) : Bool := endsB (at_ ws y) (wTail ws w body) && !decide (headF (at_ ws y) (wTail ws w body) = wHead ws w body)
def othL : List Nat := (List.range (ws.length - (w + 1))).map fun i => w + 1 + i
def matesL : List Nat := (othL ws w).filter (condX ws w body)
def leftB (x y z : Nat) : Bool := decide (x ≠ y) && (decide (z ≠ x) && decide (z ≠ y))
def leftL (x y : Nat) : List Nat := (othL ws w).filter (leftB x y)
def rowsL (y x : Nat) : List T3 := ((leftL ws w x y).filter fun z => isOfB (at_ ws z) (headF (at_ ws y) (wTail ws w body)) ((at_ ws x).drop (body + 1))).map fun z => (x, y, z)
def ofY (y : Nat) : List T3 := if condY ws w body y then (matesL ws w body).flatMap (rowsL ws w body y) else []
def foundY (i : Nat) : List T3 := (List.range i).flatMap fun j => ofY ws w body (w + 1 + j)
def sqWith : List T3 := foundY ws w body (ws.length - (w + 1))
theorem foundY_succ (i : Nat) : foundY ws w body (i + 1) = foundY ws w body i ++ ofY ws w body (w + 1 + i) := by
  unfold foundY
  rw [List.range_succ, List.flatMap_append]
  simp
theorem oth_len : (othL ws w).length ≤ ws.length := by
  unfold othL
  rw [List.length_map, List.length_range]
  omega
theorem rows_len (y x : Nat) : (rowsL ws w body y x).length ≤ ws.length := by
  unfold rowsL leftL
  rw [List.length_map]
  exact Nat.le_trans (List.length_filter_le _ _) (Nat.le_trans (List.length_filter_le _ _) (oth_len ws w))
theorem flat_len {α β : Type} (f : α → List β) (m : Nat) : ∀ xs : List α, (∀ x ∈ xs, (f x).length ≤ m) → (xs.flatMap f).length ≤ xs.length * m
  | [], _ => by simp
  | x :: xs, h => by
    have ih := flat_len f m xs fun y hy => h y (List.mem_cons_of_mem _ hy)
    have h1 := h x List.mem_cons_self
    rw [List.flatMap_cons, List.length_append, List.length_cons, Nat.succ_mul]
    omega
theorem mates_len : (matesL ws w body).length ≤ ws.length := Nat.le_trans (List.length_filter_le _ _) (oth_len ws w)
theorem take_len (y i : Nat) : (((matesL ws w body).take i).flatMap (rowsL ws w body y)).length ≤ ws.length * ws.length := by
  have h := flat_len (rowsL ws w body y) ws.length ((matesL ws w body).take i) fun x _ => rows_len ws w body y x
  have h2 : ((matesL ws w body).take i).length ≤ ws.length := by
    rw [List.length_take]
    have := mates_len ws w body
    omega
  exact Nat.le_trans h (Nat.mul_le_mul_right _ h2)
theorem ofY_len (y : Nat) : (ofY ws w body y).length ≤ ws.length * ws.length := by
  unfold ofY
  split
  · have h := take_len ws w body y (matesL ws w body).length
    rw [List.take_length] at h
    exact h
  · exact Nat.zero_le _
theorem foundY_len (i : Nat) : (foundY ws w body i).length ≤ i * (ws.length * ws.length) := by
  have h := flat_len (fun j => ofY ws w body (w + 1 + j)) (ws.length * ws.length) (List.range i) fun j _ => ofY_len ws w body _
  rw [List.length_range] at h
  exact h
end
theorem mem_oth {ws : List (List Str)} {w z : Nat} (h : z ∈ othL ws w) : w < z ∧ z < ws.length := by
  unfold othL at h
  obtain ⟨i, hi, rfl⟩ := List.mem_map.mp h
  have := List.mem_range.mp hi
  omega
theorem given_oth {lo m : Nat} (f : Nat → Bool) : given m (fun i => f (lo + i)) (fun i => V.int (((lo + i : Nat)) : Int)) = (((List.range m).map fun i => lo + i).filter f).map fun x => V.int (x : Nat) := by
  unfold given
  rw [List.filter_map, List.map_map]
  rfl
def okW (ws : List (List Str)) : Prop := ws.length ≤ 8 ∧ ∀ x < ws.length, 1 ≤ (at_ ws x).length ∧ (at_ ws x).length ≤ 6
def spWith (K : PySem.W.Frag) : Sp := fun vs H Q _ => ∃ (l : Addr) (ws : List (List Str)) (w body : Nat), vs = [.ref l, .int (w : Nat), .int (body : Nat)] ∧ WordsT K H l ws ∧ okW ws ∧ w < ws.length ∧ body < (at_ ws w).length ∧
  ∀ p us H', H p = none → Ex H H' → H' p = some (.lst us) → Each (fun t => TupI (ints3 t)) H' (sqWith ws w body) us → Q (.ref p) H'
def spMany (K : PySem.W.Frag) : Sp := fun vs H Q E => ∃ (what : Str) (n m : Int), vs = [.str what, .int n, .int m] ∧ OrX K H E (decide (n ≤ m)) "TooMany" [("most", .int m), ("what", .str what)] (RetV .non H Q)
section
variable {P : Program} {w : World} {K : PySem.W.Frag} {mg : Str → Option Value} {base : Heap}
theorem b_check_many (T : Tx K mg) : Binds K (fdOf K ("check_many", none)) ["what", "many", "most"] [] := T.f_check_many.bindsN fun _ _ _ _ _ _ us hl => match us, hl with | [_, _, _], _ => rfl
theorem b_squares_with (T : Tx K mg) : Binds K (fdOf K ("_squares_with", none)) ["words", "w", "body"] [] := T.f_squares_with.bindsN fun _ _ _ _ _ _ us hl => match us, hl with | [_, _, _], _ => rfl
theorem ok_check_many (T : Tx K mg) : FnOk P w K mg base (L2.CX P w) 3 (ga K "check_many") (fdOf K ("check_many", none)) ["what", "many", "most"] (spMany K) := by
  refine T.f_check_many.ok sc_check_many (fun vs H Q E h => ?_) (fun cdv A outer s H vs Q E hr h => ?_)
  · obtain ⟨a, n, m, rfl, _⟩ := h
    rfl
  · refine ⟨_, (pss_one (ps_if (pt_cmpR op_gt (pv 1) (pv 2) (nomark _))
        (pss_one (xr_TooMany T hr (takes_of rfl rfl rfl rfl) (pa_cons (pv 0) (pa_cons (pv 2) pa_nil))))
        pss_nil)), ?_⟩
    -- slots: [(0, 'what'), (1, 'many'), (2, 'most')]
    obtain ⟨a, n, m, rfl, k1, k2⟩ := h
    refine s_when (b := decide (m < n)) (et_test (ev_op (ev_var rfl) (ev_var rfl) rv_I0)) (fun z H1 e1 => ?_) (fun z H1 e1 => ?_)
    · exact s_raise (ea_cons (ev_var rfl) (ea_cons (ev_var rfl) ea_nil)) rfl (by show 2 ≤ 1000; decide) fun d H3 e3 h3 => k1 (decide_eq_false (by have := of_decide_eq_true z; omega)) d H3 (e1.trans e3) h3
    · exact k2 (decide_eq_true (by have := of_decide_eq_false z; omega)) H1 e1
theorem ok_squares_with (T : Tx K mg) : FnOk P w K mg base CX0 4 (ga K "_squares_with") (fdOf K ("_squares_with", none)) ["words", "w", "body"] (spWith K) := by
  refine T.f_squares_with.ok sc_squares_with (fun vs H Q E h => ?_) (fun cdv A outer s H vs Q E hr h => ?_)
  · obtain ⟨l, ws, w, body, rfl, _⟩ := h
    rfl
  · refine ⟨_, PSs.nox (pss_cons (ps_asg (pe_tup (pa_cons (pe_slice sl_tup (pe_ix ix_list (pv 0) (pv 1) (fun _ _ => rfl)) po_none (po_some (pv 2))) (pa_cons (pe_slice sl_tup (pe_ix ix_list (pv 0) (pv 1) (fun _ _ => rfl)) (po_some (pe_op op_add (pv 2) pe_int)) po_none) pa_nil))) (pg_tup rfl (pgs_cons (pg_name (i := 3) sc_squares_with.nd rfl (.inr rfl)) (pgs_cons (pg_name (i := 4) sc_squares_with.nd rfl (.inr rfl)) pgs_nil))))
      (pss_cons (ps_set (i := 5) sc_squares_with.nd rfl (.inl rfl) (pe_callTy cr_range2 (by rfl) T.n_range boot_range (pa_cons (pe_op op_add (pv 1) pe_int) (pa_cons (pe_callB call_len (by rfl) T.n_len boot_len (pa_cons (pv 0) pa_nil)) pa_nil))))
      (pss_cons (ps_setLc (i := 6) (own := [("x", 7)]) (g := (gName 7)) (tt := (tAnd (tB (tCall _ [] E0 (tCons (tOp (rIxL K) (tVar 0) (tVar 7)) (tCons (tVar 3) tNil)))) (tTest (tOp (rEqTS K true) (tSl (rSlT K) (tOp (rIxL K) (tVar 0) (tVar 7)) (tPart (tOp (rI0 fun i j => V.int (i + j)) (tVar 2) (tC (V.int 1)))) tNoPart) (tVar 4))))) (by rfl) sc_squares_with.nd rfl rfl (sw_true rfl rfl rfl (by decide +kernel)) (pi_rngO (pv 5)) (blkOk_by (N := ["words", "w", "body", "head", "tail", "others", "mates", "x", "found", "y", "ahead", "behind", "left", "z"]) (sc := defScope s_squares_with) (by decide +kernel)) (fun _ _ _ _ _ => pg_name (i := 7) sc_squares_with.nd rfl (Or.inl rfl)) (fun _ _ _ _ _ => pts_one (PW.pt (pw_and (pt_val (pe_call (ok_begins T) (hr.mono (by decide)) (by rfl) T.g_begins T.f_begins.kp (b_begins T) .nil pass0 (pa_cons (pe_ix ix_list (pv 0) (pv 7) (fun _ _ => rfl)) (pa_cons (pv 3) pa_nil)))) (pw_and1 (pt_cmpR (op_neTS hr.units0) (pe_slice sl_tup (pe_ix ix_list (pv 0) (pv 7) (fun _ _ => rfl)) (po_some (pe_op op_add (pv 2) pe_int)) po_none) (pv 4) (nomark _)))))) (fun _ _ _ _ _ => (pv 7)))
      (pss_cons (ps_set (i := 8) sc_squares_with.nd rfl (.inl rfl) (pe_lst pa_nil))
      (pss_cons (ps_for PassesOwn.never rfl (pi_rngO (pv 5)) (pg_name (i := 9) sc_squares_with.nd rfl (.inr rfl))
        (pss_one (ps_if (PW.pt (pw_and (pt_val (pe_call (ok_ends T) (hr.mono (by decide)) (by rfl) T.g_ends T.f_ends.kp (b_ends T) .nil pass0 (pa_cons (pe_ix ix_list (pv 0) (pv 9) (fun _ _ => rfl)) (pa_cons (pv 4) pa_nil)))) (pw_and1 (pt_cmpR (op_neTS hr.units0) (pe_call (ok_head_of T) (hr.mono (by decide)) (by rfl) T.g_head_of T.f_head_of.kp (b_head_of T) .nil pass0 (pa_cons (pe_ix ix_list (pv 0) (pv 9) (fun _ _ => rfl)) (pa_cons (pv 4) pa_nil))) (pv 3) (nomark _)))))
          (pss_cons (ps_set (i := 10) sc_squares_with.nd rfl (.inr rfl) (pe_call (ok_head_of T) (hr.mono (by decide)) (by rfl) T.g_head_of T.f_head_of.kp (b_head_of T) .nil pass0 (pa_cons (pe_ix ix_list (pv 0) (pv 9) (fun _ _ => rfl)) (pa_cons (pv 4) pa_nil))))
          (pss_one (ps_for PassesOwn.never rfl (pi_list (pv 6)) (pg_name (i := 7) sc_squares_with.nd rfl (.inr rfl))
            (pss_cons (ps_set (i := 11) sc_squares_with.nd rfl (.inr rfl) (pe_slice sl_tup (pe_ix ix_list (pv 0) (pv 7) (fun _ _ => rfl)) (po_some (pe_op op_add (pv 2) pe_int)) po_none))
            (pss_cons (ps_setLc (i := 12) (own := [("z", 13)]) (g := (gName 13)) (tt := (tAnd (tTest (tOp rNe (tVar 7) (tVar 9))) (tTest (tOp (rIn K true) (tVar 13) (tTup (tCons (tVar 7) (tCons (tVar 9) tNil))))))) (by rfl) sc_squares_with.nd rfl rfl (sw_true rfl rfl rfl (by decide +kernel)) (pi_rngO (pv 5)) (blkOk_by (N := ["words", "w", "body", "head", "tail", "others", "mates", "x", "found", "y", "ahead", "behind", "left", "z"]) (sc := defScope s_squares_with) (by decide +kernel)) (fun _ _ _ _ _ => pg_name (i := 13) sc_squares_with.nd rfl (Or.inl rfl)) (fun _ _ _ _ _ => pts_one (PW.pt (pw_and (pt_cmpR op_ne (pv 7) (pv 9) (nomark _)) (pw_and1 (pt_cmpR op_notIn_seq (pv 13) (pe_tup (pa_cons (pv 7) (pa_cons (pv 9) pa_nil))) (by rfl)))))) (fun _ _ _ _ _ => (pv 13)))
            (pss_one (ps_set (i := 8) sc_squares_with.nd rfl (.inl rfl) (pe_op op_cat (pv 8) (pe_lc (own := [("z", 13)]) (g := (gName 13)) (tt := (tB (tCall _ [] E0 (tCons (tOp (rIxL K) (tVar 0) (tVar 13)) (tCons (tVar 10) (tCons (tVar 11) tNil)))))) rfl sc_squares_with.nd (pi_list (pv 12)) (blkOk_by (N := ["words", "w", "body", "head", "tail", "others", "mates", "x", "found", "y", "ahead", "behind", "left", "z"]) (sc := defScope s_squares_with) (by decide +kernel)) (fun _ _ _ _ _ => pg_name (i := 13) sc_squares_with.nd rfl (Or.inl rfl)) (fun _ _ _ _ _ => pts_one (pt_val (pe_call (ok_is_of T) (hr.mono (by decide)) (by rfl) T.g_is_of T.f_is_of.kp (b_is_of T) .nil pass0 (pa_cons (pe_ix ix_list (pv 0) (pv 13) (fun _ _ => rfl)) (pa_cons (pv 10) (pa_cons (pv 11) pa_nil)))))) (fun _ _ _ _ _ => (pe_tup (pa_cons (pv 7) (pa_cons (pv 9) (pa_cons (pv 13) pa_nil))))))))))))))
          pss_nil)))
      (pss_one (ps_ret (pv 8)))))))), ?_⟩
    -- slots: [(0, 'words'), (1, 'w'), (2, 'body'), (3, 'head'), (4, 'tail'), (5, 'others'), (6, 'mates'), (7, 'x'), (8, 'found'), (9, 'y'), (10, 'ahead'), (11, 'behind'), (12, 'left'), (13, 'z')]
    obtain ⟨l, ws, w, body, rfl, hW, ⟨w8, wl⟩, hw, hb, k⟩ := h
    obtain ⟨wa, hwa, wEv⟩ := hW.at hw
    obtain ⟨wl1, wl6⟩ := wl w hw
    have sl : ∀ u : List Str, (sV u).length = u.length := sV_len
    -- head, tail
    refine asg_go ((eu_to (n := body) (wEv (Ex.refl H) (ev_var rfl) (ev_var rfl)) (ev_var rfl) hwa (by rw [sl]; exact hb)) H (Ex.refl H) _ fun hd H1 nhd e1 hhd => (eu_from (n := body + 1) (wEv e1 (ev_var rfl) (ev_var rfl)) (ev_is (ev_op (ev_var rfl) ev_c rv_I0) (by congr 1)) (ex_t e1 hwa) (by rw [sl]; omega)) H1 (Ex.refl H1) _ fun tl H2 ntl e2 htl => ⟨by show 2 ≤ sizeLine; decide, fun pt npt => ⟨pt, _, rfl, SqT.of upd_same, rfl, _, _, rfl, _, _, rfl, rfl, ?_⟩⟩)
    have e3 := Ex.new (o := .tup [.ref hd, .ref tl]) npt
    have e03 := (e1.trans e2).trans e3
    have thd : SqT K (upd H2 pt (.tup [.ref hd, .ref tl])) hd (sV (wHead ws w body)) := SqT.of (by rw [e3 _ _ (e2 _ _ hhd)]; unfold wHead sV; rw [List.map_take])
    have ttl : SqT K (upd H2 pt (.tup [.ref hd, .ref tl])) tl (sV (wTail ws w body)) := SqT.of (by rw [e3 _ _ htl]; unfold wTail sV; rw [List.map_drop])
    generalize upd H2 pt (.tup [.ref hd, .ref tl]) = H3 at e03 thd ttl
    have hW3 := hW.ex e03
    obtain ⟨as, hl3, las, _⟩ := id hW3
    have lhd : (wHead ws w body).length ≤ 6 := by unfold wHead; rw [List.length_take]; omega
    have ltl : (wTail ws w body).length ≤ 6 := by unfold wTail; rw [List.length_drop]; omega
    -- others
    refine q_asgRng (i := ((w + 1 : Nat) : Int)) (j := (ws.length : Nat)) (ea_cons (ev_is (ev_op (ev_var rfl) ev_c rv_I0) (by congr 1)) (ea_cons (ev_is (ev_lenQ (ev_var rfl) (.inl hl3)) (by rw [List.length_map, las])) ea_nil)) fun RO H4 nro e4 hro => ?_
    have thd4 := ex_t e4 thd
    have ttl4 := ex_t e4 ttl
    have hW4 := hW3.ex e4
    have mEq : (((ws.length : Nat) : Int) - ((w + 1 : Nat) : Int)).toNat = ws.length - (w + 1) := by omega
    -- mates
    refine q_asgL (el_lcRO (fun i => condX ws w body (w + 1 + i)) (fun i => .int ((w + 1 + i : Nat) : Int)) (ev_var rfl) hro (by omega) (fun _ => rfl) (fun i H5 e5 hi => ?_) (fun i H5 e5 hi _ => ev_is (ev_var rfl) (by congr 1))) fun ml H5 nml e5 hml => ?_
    · have hx : w + 1 + i < ws.length := by omega
      obtain ⟨xa, hxa, xEv⟩ := hW4.at hx
      obtain ⟨xl1, xl6⟩ := wl _ hx
      have xi : ∀ {σ' : L2.St} {H' : Hp}, σ'[7]? = some (some (.int (((w + 1 : Nat) : Int) + (i : Nat)))) → Ev (tVar 7) σ' H' (.int ((w + 1 + i : Nat) : Int)) := fun h => ev_is (ev_var h) (by congr 1)
      exact et_and (et_B (ev_call (ea_cons (xEv e5 (ev_var rfl) (xi rfl)) (ea_cons (ev_var rfl) ea_nil)) fun H6 e6 Q q E => ⟨xa, hd, _, _, rfl, ex_t (e5.trans e6) hxa, ex_t (e5.trans e6) thd4, by omega, by omega, q⟩)) fun _ => et_test (ev_opU1 (eu_from (n := body + 1) (xEv e5 (ev_var rfl) (xi rfl)) (ev_is (ev_op (ev_var rfl) ev_c rv_I0) (by congr 1)) (ex_t e5 hxa) (by rw [sl]; omega)) (fun _ _ => ev_var rfl) fun p H6 hp e6 => rv_eqTS (neg := true) (us := (at_ ws (w + 1 + i)).drop (body + 1)) (vs := wTail ws w body) (by rw [sV_drop]; exact SqT.of hp) (ex_t (e5.trans e6) ttl4))
    rw [mEq] at hml
    have hml : H5 ml = some (.lst ((matesL ws w body).map fun x => V.int (x : Nat))) := by rw [hml]; unfold matesL othL; rw [← given_oth]
    -- found
    refine q_asgL (el_lst ea_nil (Nat.zero_le _)) fun fl H6 nfl e6 hfl => ?_
    have e46 := e5.trans e6
    have hro6 := e46 _ _ hro
    have thd6 := ex_t e46 thd4
    have ttl6 := ex_t e46 ttl4
    have hW6 := hW4.ex e46
    have hml6 := e6 _ _ hml
    have stR : ∀ t : T3, StabN (TupI (ints3 t)) := fun t => tupI_st _
    have stS : ∀ t : T3, Stab (TupI (ints3 t)) := fun t => stabN_ex (stR t)
    refine q_forRO (ev_var rfl) hro6 (by omega) (fun i σ' H' => (∃ u7 fl us u9 u10 u11 u12 u13, σ' = [some (.ref l), some (.int (w : Nat)), some (.int (body : Nat)), some (.ref hd), some (.ref tl), some (.ref RO), some (.ref ml), u7, some (.ref fl), u9, u10, u11, u12, u13] ∧ H fl = none ∧ H' fl = some (.lst us) ∧ Each (fun t => TupI (ints3 t)) H' (foundY ws w body i) us) ∧ Ex H6 H') (fun H7 e7 => ⟨⟨_, fl, [], _, _, _, _, _, rfl, fresh_back (e03.trans (e4.trans e5)) nfl, e7 _ _ hfl, .nil⟩, e7⟩) ?_ ?_
    · rintro i σ' H7 hi ⟨⟨u7, fl, us, u9, u10, u11, u12, u13, rfl, nfl7, hfl7, each7⟩, e7⟩
      have hy : w + 1 + i < ws.length := by omega
      obtain ⟨ya, hya, yEv⟩ := hW6.at hy
      obtain ⟨yl1, yl6⟩ := wl _ hy
      have yi : ∀ {σ' : L2.St} {H' : Hp}, σ'[9]? = some (some (.int (((w + 1 : Nat) : Int) + (i : Nat)))) → Ev (tVar 9) σ' H' (.int ((w + 1 + i : Nat) : Int)) := fun h => ev_is (ev_var h) (by congr 1)
      have e87 : Ex H6 H7 := e7
      refine s_when (b := condY ws w body (w + 1 + i)) (et_and (et_B (ev_call (ea_cons (yEv e7 (ev_var rfl) (yi rfl)) (ea_cons (ev_var rfl) ea_nil)) fun H8 e8 Q q E => ⟨ya, tl, _, _, rfl, ex_t (e7.trans e8) hya, ex_t (e7.trans e8) ttl6, by omega, by omega, q⟩)) fun hends => et_test (ev_opU1 (xs := sV (headF (at_ ws (w + 1 + i)) (wTail ws w body))) (eu_call (ea_cons (yEv e7 (ev_var rfl) (yi rfl)) (ea_cons (ev_var rfl) ea_nil)) fun H8 e8 Q q E => ⟨ya, tl, _, _, rfl, ex_t (e7.trans e8) hya, ex_t (e7.trans e8) ttl6, by omega, of_decide_eq_true (Bool.and_eq_true_iff.mp hends).1, q⟩) (fun _ _ => ev_var rfl) fun p H8 hp e8 => rv_eqTS (neg := true) (us := headF (at_ ws (w + 1 + i)) (wTail ws w body)) (vs := wHead ws w body) (SqT.of hp) (ex_t (e7.trans e8) thd6))) (fun hc H8 e8 => ?_) (fun hc H8 e8 => ?_)
      · have hends : (wTail ws w body).length < (at_ ws (w + 1 + i)).length := of_decide_eq_true (Bool.and_eq_true_iff.mp (Bool.and_eq_true_iff.mp hc).1).1
        refine q_asgU (xs := sV (headF (at_ ws (w + 1 + i)) (wTail ws w body))) (eu_call (ea_cons (yEv (e7.trans e8) (ev_var rfl) (yi rfl)) (ea_cons (ev_var rfl) ea_nil)) fun H9 e9 Q q E => ⟨ya, tl, _, _, rfl, ex_t ((e7.trans e8).trans e9) hya, ex_t ((e7.trans e8).trans e9) ttl6, by omega, hends, q⟩) fun ah H9 nah e9 hah => ?_
        have e69 := (e7.trans e8).trans e9
        have tah : SqT K H9 ah (sV (headF (at_ ws (w + 1 + i)) (wTail ws w body))) := SqT.of hah
        have lah : (headF (at_ ws (w + 1 + i)) (wTail ws w body)).length ≤ 6 := by unfold headF; rw [List.length_take]; omega
        have hml9 := e69 _ _ hml6
        have hro9 := e69 _ _ hro6
        refine s_forLn (ev_var rfl) (SqL.of hml9) (fun j σ' H' => (∃ u7 fl us u11 u12 u13, σ' = [some (.ref l), some (.int (w : Nat)), some (.int (body : Nat)), some (.ref hd), some (.ref tl), some (.ref RO), some (.ref ml), u7, some (.ref fl), some (.int (((w + 1 : Nat) : Int) + (i : Nat))), some (.ref ah), u11, u12, u13] ∧ H fl = none ∧ H' fl = some (.lst us) ∧ Each (fun t => TupI (ints3 t)) H' (foundY ws w body i ++ ((matesL ws w body).take j).flatMap (rowsL ws w body (w + 1 + i))) us) ∧ Ex H9 H') (fun H10 e10 => ⟨⟨_, fl, us, _, _, _, rfl, nfl7, ((e8.trans e9).trans e10) _ _ hfl7, by rw [List.take_zero, List.flatMap_nil, List.append_nil]; exact each7.exS stS ((e8.trans e9).trans e10)⟩, e10⟩) (fun j σ' H' _ pv => SqL.of (pv.2 _ _ hml9)) ?_ ?_
        · rintro j v σ' H10 hv ⟨⟨u7, fl, us, u11, u12, u13, rfl, nfl, hfl10, each10⟩, e10⟩
          obtain ⟨x, hxj, rfl⟩ : ∃ x, (matesL ws w body)[j]? = some x ∧ v = .int (x : Nat) := by
            rw [List.getElem?_map] at hv
            obtain ⟨x, h1, h2⟩ := Option.map_eq_some_iff.mp hv
            exact ⟨x, h1, h2.symm⟩
          have hx : x < ws.length := (mem_oth (List.mem_filter.mp (List.mem_of_getElem? hxj)).1).2
          obtain ⟨xa, hxa, xEv⟩ := hW6.at hx
          obtain ⟨xl1, xl6⟩ := wl _ hx
          have e610 := e69.trans e10
          refine q_asgU (eu_from (n := body + 1) (xEv e610 (ev_var rfl) (ev_var rfl)) (ev_is (ev_op (ev_var rfl) ev_c rv_I0) (by congr 1)) (ex_t e610 hxa) (by rw [sl]; omega)) fun bh H11 nbh e11 hbh => ?_
          have tbh : SqT K H11 bh (sV ((at_ ws x).drop (body + 1))) := SqT.of (by rw [hbh]; unfold sV; rw [List.map_drop])
          have lbh : ((at_ ws x).drop (body + 1)).length ≤ 6 := by rw [List.length_drop]; omega
          refine q_asgL (el_lcRO (fun z => leftB x (w + 1 + i) (w + 1 + z)) (fun z => .int ((w + 1 + z : Nat) : Int)) (ev_var rfl) (e11 _ _ (e10 _ _ hro9)) (by omega) (fun _ => rfl) (fun z H12 e12 hz => ?_) (fun z H12 e12 hz _ => ev_is (ev_var rfl) (by congr 1))) fun le H12 nle e12 hle => ?_
          · refine et_and (et_test (ev_is (ev_op (ev_var rfl) (yi rfl) (rv_ne rfl)) ?_)) fun _ => et_test (ev_is (ev_niU (ev_var rfl) (eu_tup (ea_cons (ev_var rfl) (ea_cons (yi rfl) ea_nil)) (by show 2 ≤ 100000; decide)) rfl rfl) ?_)
            · refine congrArg V.bl ?_
              rw [← decide_not]
              exact decide_eq_decide.mpr ⟨fun h e => h (by rw [e]), fun h e => h (by have := V.int.inj e; omega)⟩
            · refine congrArg V.bl ?_
              show (!(((x : Int) == ((w + 1 : Nat) : Int) + (z : Int)) || ((((w + 1 + i : Nat) : Int)) == ((w + 1 : Nat) : Int) + (z : Int) || false))) = _
              rw [Bool.or_false, Bool.not_or]
              congr 1
              · rw [Bool.eq_iff_iff]
                simp only [Bool.not_eq_true', beq_eq_false_iff_ne, decide_eq_true_eq]
                omega
              · rw [Bool.eq_iff_iff]
                simp only [Bool.not_eq_true', beq_eq_false_iff_ne, decide_eq_true_eq]
                omega
          rw [mEq] at hle
          have hle : H12 le = some (.lst ((leftL ws w x (w + 1 + i)).map fun z => V.int (z : Nat))) := by rw [hle]; unfold leftL othL; rw [← given_oth]
          have e612 := (e610.trans e11).trans e12
          have fo := foundY_len ws w body i
          have ta := take_len ws w body (w + 1 + i) j
          have ro := rows_len ws w body (w + 1 + i) x
          have sq8 : ws.length * ws.length ≤ 64 := Nat.mul_le_mul w8 w8
          have fo2 : i * (ws.length * ws.length) ≤ 8 * 64 := Nat.mul_le_mul (by omega) sq8
          have lz : (leftL ws w x (w + 1 + i)).length ≤ 8 := Nat.le_trans (List.length_filter_le _ _) (Nat.le_trans (oth_len ws w) w8)
          refine (lp_cat stS (ev_var rfl) ((e11.trans e12) _ _ hfl10) (each10.exS stS (e11.trans e12)) (EvLP.mapL (R := fun t => TupI (ints3 t)) (fun z => ((x, w + 1 + i, z) : T3)) (el_lcLG (fun z => tupI_st _) intsR_st (fun z => isOfB (at_ ws z) (headF (at_ ws (w + 1 + i)) (wTail ws w body)) ((at_ ws x).drop (body + 1))) (fun z => [some (.ref l), some (.int (w : Nat)), some (.int (body : Nat)), some (.ref hd), some (.ref tl), some (.ref RO), some (.ref ml), some (.int (x : Nat)), some (.ref fl), some (.int (((w + 1 : Nat) : Int) + (i : Nat))), some (.ref ah), some (.ref bh), some (.ref le), some (.int (z : Nat))]) (ls_var intsR_st (ev_var rfl) (SqL.of hle) (each_ints _)) (by omega) (fun _ => rfl) (fun z _ v H' hv N n => by cases hv; exact n) (fun z H13 e13 hz => ?_) (fun z H13 e13 hz _ => evp_tupI (ns := ints3 (x, w + 1 + i, z)) (ea_cons (ev_var rfl) (ea_cons (yi rfl) (ea_cons (ev_var rfl) ea_nil))) (by show 3 ≤ 1000; decide)))) ?_) H12 (Ex.refl H12) _ fun p us2 H13 np e13 hp each13 => ?_
          · have hz2 : z < ws.length := (mem_oth (List.mem_filter.mp hz).1).2
            obtain ⟨za, hza, zEv⟩ := hW6.at hz2
            obtain ⟨zl1, zl6⟩ := wl _ hz2
            exact et_B (ev_call (ea_cons (zEv (e612.trans e13) (ev_var rfl) (ev_var rfl)) (ea_cons (ev_var rfl) (ea_cons (ev_var rfl) ea_nil))) fun H14 e14 Q q E => ⟨za, ah, bh, _, _, _, rfl, ex_t ((e612.trans e13).trans e14) hza, ex_t ((((e10.trans e11).trans e12).trans e13).trans e14) tah, ex_t ((e12.trans e13).trans e14) tbh, by omega, by omega, by omega, q⟩)
          · rw [List.length_append]
            have h1 := rows_len ws w body (w + 1 + i) x
            unfold rowsL at h1
            omega
          · refine ⟨⟨_, p, us2, _, _, _, rfl, fresh_back ((e03.trans e4).trans (e46.trans e612)) np, hp, ?_⟩, ((e10.trans e11).trans e12).trans e13⟩
            rw [List.take_succ, hxj, List.flatMap_append, ← List.append_assoc]
            show Each _ _ (_ ++ List.flatMap _ [x]) _
            rw [List.flatMap_singleton]
            exact each13
        · rintro σ' H10 ⟨⟨u7, fl, us, u11, u12, u13, rfl, nfl, hfl10, each10⟩, e10⟩
          refine ⟨⟨_, fl, us, _, _, _, _, _, rfl, nfl, hfl10, ?_⟩, e69.trans e10⟩
          rw [List.length_map, List.take_length] at each10
          rw [foundY_succ]
          unfold ofY
          rw [hc, if_pos rfl]
          exact each10
      · exact ⟨⟨_, fl, us, _, _, _, _, _, rfl, nfl7, e8 _ _ hfl7, by rw [foundY_succ]; unfold ofY; rw [hc, if_neg (by decide), List.append_nil]; exact each7.exS stS e8⟩, e7.trans e8⟩
    · rintro σ' H7 ⟨⟨u7, fl, us, u9, u10, u11, u12, u13, rfl, nfl7, hfl7, each7⟩, e7⟩
      rw [mEq] at each7
      exact s_ret (ev_var rfl) fun H8 e8 => k fl us H8 nfl7 ((((e03.trans e4).trans e46).trans e7).trans e8) (e8 _ _ hfl7) (each7.exS stS e8)
end
end K82
set_option Elab.async false
set_option linter.all false
set_option maxRecDepth 100000
set_option maxHeartbeats 4000000
set_option autoImplicit false
/-! sorted(xs), xs of what reads as alike data; two lists with the same items are sorted alike. -/
namespace SortD
open PySem PySem.Spec PySem.W PySem.Calls PyProof.Rows L2 He Evl
def sortB {β : Type} (enc : β → PyData) (bs : List β) : List β := bs.mergeSort (dataLe false enc)
theorem sortB_perm {β : Type} (enc : β → PyData) (bs : List β) : (sortB enc bs).Perm bs := List.mergeSort_perm _ _
def rSortR {β : Type} (R : β → V → Hp → Prop) (enc : β → PyData) (K : PySem.W.Frag) : List V → Hp → VK → Prop := fun vs H Q => ∃ (a : Addr) (us : List V) (bs : List β), vs = [.ref a] ∧ SqL K H a us ∧ Each R H bs us ∧ (∀ b ∈ bs, ∀ v, R b v H → Dp K H v (enc b)) ∧
  AllAlike (bs.map enc) ∧ Sortable (bs.map enc) ∧ bs.length < 50000 ∧ (∀ b ∈ bs, (enc b).depth ≤ 6) ∧ ∀ p us', H p = none → Each R H (sortB enc bs) us' → Q (.ref p) (upd H p (.lst us'))
section
variable {X : Cx} {β : Type} {R : β → V → Hp → Prop} {enc : β → PyData}
theorem each_vals {H : Hp} : ∀ {bs : List β} {us : List V} {its : List Value}, Each R H bs us → Vals us its → EachIs (fun v b => ∃ x, RelV x v ∧ R b x H) its bs
  | _, _, _, .nil, r => by cases r; exact .nil
  | _, _, _, .cons h t, r => by
    cases r with
    | cons a b => exact .cons ⟨_, a, h⟩ (each_vals t b)
theorem vals_each {H : Hp} : ∀ {bs : List β} {out : List Value}, EachIs (fun v b => ∃ x, RelV x v ∧ R b x H) out bs → ∃ us, Each R H bs us ∧ Vals us out
  | _, _, .nil => ⟨[], .nil, .nil⟩
  | _, _, .cons ⟨x, rx, h⟩ t => let ⟨us, e, r⟩ := vals_each t; ⟨x :: us, .cons h e, .cons rx r⟩
theorem cr_sortR (hu : X.A.units + 10 < cLine) : CallR X (.builtin "sorted") (rSortR R enc X.K) := by
  intro pins s σ H vs us Q I r ⟨a, xs, bs, e1, hs, each, hd, hal, hsk, hz, dp, q⟩
  subst e1
  obtain rfl := Vals.ref1 r
  obtain ⟨its, rv, pl, hsz⟩ := I.list hs
  have big : (50000 : Nat) ≤ sizeLine := by rw [sizeLine_eq]; decide
  have ev := each_vals each rv
  have er : EachIs (fun v b => ∃ as, Reads s.heap v (enc b) as) its bs := by
    have gen : ∀ {us : List Value} {bs : List β}, EachIs (fun v b => ∃ x, RelV x v ∧ R b x H) us bs → (∀ b ∈ bs, ∀ v, R b v H → Dp X.K H v (enc b)) → EachIs (fun v b => ∃ as, Reads s.heap v (enc b) as) us bs := by
      intro us bs e
      induction e with
      | nil => exact fun _ => .nil
      | cons h1 _ ih =>
        intro al
        obtain ⟨x, rx, hx⟩ := h1
        exact .cons (Dp.reads I _ _ _ (al _ List.mem_cons_self _ hx) rx) (ih fun m hm => al m (List.mem_cons_of_mem _ hm))
    exact gen ev hd
  refine sorted_data (enc := enc) pl.isList ev er hal hsk (by omega) (fun b hb => ?_) fun out ho eo => ?_
  · have := dp b hb
    show X.A.units + 2 + _ < cLine
    omega
  · obtain ⟨ep, he'⟩ := PyProof.Rows.sortedAll_at s.heap its out.toArray
    obtain ⟨us', each', rvo⟩ := vals_each eo
    have hlen : us'.length ≤ sizeLine := by
      rw [← each'.len]
      show (List.mergeSort _ _).length ≤ _
      rw [List.length_mergeSort]
      omega
    exact ⟨.ref _, upd H (s.heap.objs.size + 1) (.lst us'), I.laid (t' := s.toks) (fun _ _ => PyProof.Rows.sortedAll_old) (Nat.le_succ _) ⟨hlen, out, ep, rvo, he'⟩, rfl, q _ us' (I.hok.fresh (Nat.le_succ _)) each'⟩
end
section
variable {K : PySem.W.Frag} {σ : L2.St} {H : Hp} {te : TE} {β : Type} {R : β → V → Hp → Prop} {enc : β → PyData} {xs : List β}
theorem lp_sorted (st : ∀ x, Stab (R x)) (src : EvLS K te σ H R xs) (hd : ∀ x ∈ xs, ∀ v H1, R x v H1 → Dp K H1 v (enc x)) (hal : AllAlike (xs.map enc)) (hsk : Sortable (xs.map enc)) (few : xs.length < 50000) (dp : ∀ b ∈ xs, (enc b).depth ≤ 6) :
    EvLP (tCB (rSortR R enc K) (tCons te tNil)) σ H R (sortB enc xs) := fun H1 e Q q =>
  src H1 e _ fun p us H2 e2 hp each => ⟨p, us, xs, rfl, hp, each, fun b hb v h => hd b hb v H2 h, hal, hsk, few, dp, fun r us' nr each' => q r us' _ (fresh_back e2 nr) (e2.trans (Ex.new nr)) upd_same (each'.exS st (Ex.new nr))⟩
/-- a new tuple each of whose items means its x -/
def EvUP (te : TE) (σ : L2.St) (H : Hp) (R : β → V → Hp → Prop) (xs : List β) : Prop := ∀ H1, Ex H H1 → ∀ Q : VK, (∀ p vs H2, H1 p = none → Ex H1 H2 → H2 p = some (.tup vs) → Each R H2 xs vs → Q (.ref p) H2) → te σ H1 Q
theorem up_tupL (st : ∀ x, Stab (R x)) (src : EvLS K te σ H R xs) (few : xs.length ≤ 100000) : EvUP (tCB (rTupOf K) (tCons te tNil)) σ H R xs := fun H1 e Q q =>
  src H1 e _ fun p us H2 e2 hp each => ⟨p, us, rfl, .inl ⟨hp, fun l hl => q l us _ (fresh_back e2 hl) (e2.trans (Ex.new hl)) upd_same (each.exS st (Ex.new hl))⟩⟩
theorem EvUP.src (h : EvUP te σ H R xs) : EvTS K te σ H R xs := fun H1 e Q q => h H1 e Q fun p us H2 _ e2 hp a => q p us H2 e2 (SqT.of hp) a
theorem each_dp {H : Hp} : ∀ {xs : List β} {us : List V}, (∀ x ∈ xs, ∀ v, R x v H → Dp K H v (enc x)) → Each R H xs us → DpAll K H us (xs.map enc)
  | _, _, _, .nil => .nil
  | _, _, hd, .cons h t => .cons (hd _ List.mem_cons_self _ h) (each_dp (fun x hx => hd x (List.mem_cons_of_mem _ hx)) t)
end
/-! ### rows of numbers -/
def rowD (ns : List Int) : PyData := .tuple (ns.map .int)
theorem rowD_le : dataLe false rowD = fun p q : List Int => decide (p ≤ q) := dataLe_rows (fun p => p)
theorem sort_rows {as bs : List (List Int)} (h : as.Perm bs) : sortB rowD as = sortB rowD bs := by
  refine List.Perm.eq_of_pairwise (le := fun p q => dataLe false rowD p q = true) (fun a b _ _ h1 h2 => ?_) (List.pairwise_mergeSort (fun a b c h1 h2 => ?_) (fun a b => ?_) as) (List.pairwise_mergeSort (fun a b c h1 h2 => ?_) (fun a b => ?_) bs) (((sortB_perm rowD as).trans h).trans (sortB_perm rowD bs).symm)
  · rw [rowD_le] at h1 h2
    exact List.le_antisymm (of_decide_eq_true h1) (of_decide_eq_true h2)
  · rw [rowD_le] at h1 h2 ⊢
    exact decide_eq_true (List.le_trans (of_decide_eq_true h1) (of_decide_eq_true h2))
  · rw [rowD_le, Bool.or_eq_true, decide_eq_true_eq, decide_eq_true_eq]
    exact List.le_total _ _
  · rw [rowD_le] at h1 h2 ⊢
    exact decide_eq_true (List.le_trans (of_decide_eq_true h1) (of_decide_eq_true h2))
  · rw [rowD_le, Bool.or_eq_true, decide_eq_true_eq, decide_eq_true_eq]
    exact List.le_total _ _
theorem depthAll_ints : ∀ ns : List Int, PyData.depthAll (ns.map .int) = 0
  | [] => by simp [PyData.depthAll]
  | n :: ns => by
    show PyData.depthAll (.int n :: ns.map .int) = 0
    rw [PyData.depthAll, depthAll_ints ns]
    simp [PyData.depth]
theorem rowD_depth (ns : List Int) : (rowD ns).depth ≤ 6 := by
  unfold rowD
  rw [PyData.depth, depthAll_ints]
  omega
theorem alike_ints : ∀ a b : List Int, alikeAll (a.map .int) (b.map .int) = true
  | [], _ => by simp [alikeAll]
  | _ :: _, [] => by simp [alikeAll]
  | x :: a, y :: b => by
    show alikeAll (.int x :: a.map .int) (.int y :: b.map .int) = true
    rw [alikeAll, alike_ints a b]
    simp [alike]
theorem rows_alike (bs : List (List Int)) : AllAlike (bs.map rowD) := fun d hd d' hd' => by
  obtain ⟨a, _, rfl⟩ := List.mem_map.mp hd
  obtain ⟨b, _, rfl⟩ := List.mem_map.mp hd'
  unfold rowD
  rw [alike]
  exact alike_ints a b
theorem rows_sortable {bs : List (List Int)} (h : ∀ b ∈ bs, b ≠ []) : Sortable (bs.map rowD) := .inl fun d hd => by
  obtain ⟨a, ha, rfl⟩ := List.mem_map.mp hd
  cases a with
  | nil => exact absurd rfl (h _ ha)
  | cons x r => exact ⟨_, _, rfl⟩
theorem dp_ints {K : PySem.W.Frag} {H : Hp} : ∀ ns : List Int, DpAll K H (ns.map V.int) (ns.map PyData.int)
  | [] => .nil
  | n :: ns => .cons (.int n) (dp_ints ns)
theorem tupI_dp {K : PySem.W.Frag} {H : Hp} {ns : List Int} {v : V} (h : TupI ns v H) : Dp K H v (rowD ns) := by
  obtain ⟨p, rfl, hp⟩ := h
  exact .tup (SqT.of hp) (dp_ints ns)
end SortD
set_option Elab.async false
set_option linter.all false
set_option maxRecDepth 100000
set_option maxHeartbeats 4000000
set_option autoImplicit false
namespace K82
open PySem PySem.Spec PyProof.Rows L2 He Evl SortD
/-- is_word answers b -/
def IsW (K : PySem.W.Frag) (H : Hp) (v : V) (b : Bool) : Prop := (NoSeq K H v ∧ b = false) ∨ ∃ xs, SeqV K H v xs ∧ xs.length ≤ 1000 ∧ (∀ x ∈ xs, EOk K H x) ∧ b = wordF xs
theorem IsW.ex {K : PySem.W.Frag} {H H' : Hp} {v : V} {b : Bool} (h : IsW K H v b) (e : Ex H H') : IsW K H' v b := h.imp (fun ⟨a, b⟩ => ⟨a.ex e, b⟩) fun ⟨xs, a, l, b, c⟩ => ⟨xs, a.ex e, l, fun x hx => (b x hx).ex e, c⟩
/-- a list or a tuple of texts, a word -/
def GoodW (K : PySem.W.Frag) (w : List Str) (v : V) (H : Hp) : Prop := SeqV K H v (sV w) ∧ wordF (sV w) = true
theorem goodW_st (K : PySem.W.Frag) (w : List Str) : Stab (GoodW K w) := fun v H H' ⟨a, b⟩ e => ⟨a.ex e, b⟩
theorem wordF_len {w : List Str} (h : wordF (sV w) = true) : 1 ≤ w.length ∧ w.length ≤ 6 := by
  unfold wordF namesF at h
  obtain ⟨h1, h2⟩ := Bool.and_eq_true_iff.mp h
  have a := of_decide_eq_true (Bool.and_eq_true_iff.mp h1).1
  have b := of_decide_eq_true h2
  rw [sV_len] at a b
  exact ⟨a, b⟩
theorem name_len {z : Str} (h : nameV (.str z) = true) : z.length ≤ 12 := by
  have h : nameB z = true := h
  unfold nameB at h
  exact of_decide_eq_true (Bool.and_eq_true_iff.mp (Bool.and_eq_true_iff.mp (Bool.and_eq_true_iff.mp h).1).1).2
theorem goodW_isW {K : PySem.W.Frag} {H : Hp} {v : V} {w : List Str} (h : GoodW K w v H) : IsW K H v true := .inr ⟨sV w, h.1, by rw [sV_len]; have := (wordF_len h.2).2; omega, fun x hx => by
  obtain ⟨z, hz, rfl⟩ := List.mem_map.mp hx
  have hn : nameV (.str z) = true := by
    have h2 := h.2
    unfold wordF namesF at h2
    exact List.all_eq_true.mp (Bool.and_eq_true_iff.mp (Bool.and_eq_true_iff.mp h2).1).2 _ hx
  exact ⟨⟨_, kd_str z⟩, fun y e => by cases e; have := name_len hn; omega⟩, h.2.symm⟩
theorem isW_sp {K : PySem.W.Frag} {H : Hp} {v : V} {b : Bool} (h : IsW K H v b) : SpV (spSeq K wordF) [v] H (.bl b) := fun H1 e Q q E => by
  rcases h.ex e with ⟨a, rfl⟩ | ⟨xs, a, l, c, rfl⟩
  · exact ⟨v, rfl, .inl ⟨a, q⟩⟩
  · exact ⟨v, rfl, .inr ⟨xs, a, l, c, q⟩⟩
/-- a tuple of these texts -/
def TupW (K : PySem.W.Frag) (w : List Str) (v : V) (H : Hp) : Prop := ∃ a, v = .ref a ∧ SqT K H a (sV w)
theorem tupW_st (K : PySem.W.Frag) (w : List Str) : StabN (TupW K w) := fun v H H' ⟨a, e, h⟩ x => ⟨a, e, by
  rcases h with (h | ⟨o, h⟩) | h
  · exact .inl (.inl (x _ _ h fun _ y => nomatch y))
  · exact .inl (.inr ⟨o, x _ _ h fun _ y => nomatch y⟩)
  · exact .inr h⟩
theorem words_of {K : PySem.W.Frag} {H : Hp} {l : Addr} {ws : List (List Str)} {us : List V} (hl : H l = some (.lst us)) (all : Each (TupW K) H ws us) : WordsT K H l ws := by
  have gen : ∀ {ws : List (List Str)} {us : List V}, Each (TupW K) H ws us → ∃ as : List Addr, us = as.map V.ref ∧ as.length = ws.length ∧ ∀ (i : Nat) (a : Addr) (w : List Str), as[i]? = some a → ws[i]? = some w → SqT K H a (sV w) := by
    intro ws us h
    induction h with
    | nil => exact ⟨[], rfl, rfl, fun i a w h => nomatch h⟩
    | cons h1 _ ih =>
      obtain ⟨a, rfl, ha⟩ := h1
      obtain ⟨as, rfl, l, h3⟩ := ih
      refine ⟨a :: as, rfl, congrArg (· + 1) l, fun i b w x y => ?_⟩
      cases i with
      | zero => cases x; cases y; exact ha
      | succ i => exact h3 i b w x y
  obtain ⟨as, rfl, l2, h3⟩ := gen all
  exact ⟨as, SqL.of hl, l2, h3⟩
def row5 (w b : Nat) (t : T3) : List Int := [(w : Int), (t.1 : Int), (t.2.1 : Int), (t.2.2 : Int), (b : Int)]
def ofB (ws : List (List Str)) (w b : Nat) : List (List Int) := (sqWith ws w b).map (row5 w b)
def ofW (ws : List (List Str)) (w : Nat) : List (List Int) := (List.range (at_ ws w).length).flatMap (ofB ws w)
def rawW (ws : List (List Str)) (i : Nat) : List (List Int) := (List.range i).flatMap (ofW ws)
def sqRaw (ws : List (List Str)) : List (List Int) := rawW ws ws.length
def sqRows (ws : List (List Str)) : List (List Int) := sortB rowD (sqRaw ws)
theorem range_flat {β : Type} (f : Nat → List β) (i : Nat) : (List.range (i + 1)).flatMap f = (List.range i).flatMap f ++ f i := by
  rw [List.range_succ, List.flatMap_append]
  simp
theorem ofB_len {ws : List (List Str)} (h : ws.length ≤ 8) (w b : Nat) : (ofB ws w b).length ≤ 512 := by
  unfold ofB sqWith
  rw [List.length_map]
  refine Nat.le_trans (foundY_len ws w b _) ?_
  exact Nat.mul_le_mul (show ws.length - (w + 1) ≤ 8 by omega) (Nat.mul_le_mul h h)
theorem partB_len {ws : List (List Str)} (h : ws.length ≤ 8) (w j : Nat) : ((List.range j).flatMap (ofB ws w)).length ≤ j * 512 := by
  have z := flat_len (ofB ws w) 512 (List.range j) fun b _ => ofB_len h w b
  rw [List.length_range] at z
  exact z
theorem rawW_len {ws : List (List Str)} (h : okW ws) (i : Nat) (hi : i ≤ ws.length) : (rawW ws i).length ≤ i * 3072 := by
  have z := flat_len (ofW ws) 3072 (List.range i) fun w hw => by
    have hw2 := List.mem_range.mp hw
    have := (h.2 w (by omega)).2
    have y := partB_len h.1 w (at_ ws w).length
    unfold ofW
    omega
  rw [List.length_range] at z
  exact z
def spSquares (K : PySem.W.Frag) : Sp := fun vs H Q E => ∃ x : V, vs = [x] ∧ ((NoSeq K H x ∧ ErrX K H E "BadWord" [("part", .str "words")]) ∨
  (∃ (us : List V) (bs : List Bool), SeqV K H x us ∧ us.length ≤ 1000 ∧ us.length = bs.length ∧ (∀ (i : Nat) v b, us[i]? = some v → bs[i]? = some b → IsW K H v b) ∧ bs.all id = false ∧ ErrX K H E "BadWord" [("part", .str "words")]) ∨
  ∃ (us : List V) (ws : List (List Str)), SeqV K H x us ∧ us.length ≤ 1000 ∧ Each (GoodW K) H ws us ∧ ((8 < ws.length ∧ ErrX K H E "TooMany" [("most", .int 8), ("what", .str "words")]) ∨
    (ws.length ≤ 8 ∧ ∀ p us' H', H p = none → Ex H H' → H' p = some (.tup us') → Each TupI H' (sqRows ws) us' → Q (.ref p) H')))
section
variable {P : Program} {w : World} {K : PySem.W.Frag} {mg : Str → Option Value} {base : Heap}
theorem b_squares (T : Tx K mg) : Binds K (fdOf K ("squares", none)) ["words"] [] := T.f_squares.bindsN fun _ _ _ _ _ _ us hl => match us, hl with | [_], _ => rfl
theorem ok_squares (T : Tx K mg) : FnOk P w K mg base (L2.CX P w) 5 (ga K "squares") (fdOf K ("squares", none)) ["words"] (spSquares K) := by
  refine T.f_squares.ok sc_squares (fun vs H Q E h => ?_) (fun cdv A outer s H vs Q E hr h => ?_)
  · obtain ⟨x, rfl, _⟩ := h
    rfl
  · have hu : (A.deeper (envOfC "squares" (defScope s_squares) s.heap.objs.size (ga K "squares") cdv)).units + 10 < cLine := by have := hr.un; omega
    refine ⟨_, (pss_cons (ps_if (PW.pt (pw_or (pt_not (pt_val (pe_call (ok_is_list T) (hr.mono (by decide)) (by rfl) T.g_is_list T.f_is_list.kp (b_is_list T) .nil pass0 (pa_cons (pv 0) pa_nil)))) (pw_or1 (pt_not (pt_val (pe_callB (cr_all rfl) (by rfl) T.n_all (by decide +kernel) (pa_cons (pe_lc (own := [("word", 1)]) (g := (gName 1)) (tt := tYes) rfl sc_squares.nd (pi_seq (pv 0)) (blkOk_by (N := ["words", "word", "told", "found", "w", "body", "x", "y", "z"]) (sc := defScope s_squares) (by decide +kernel)) (fun _ _ _ _ _ => pg_name (i := 1) sc_squares.nd rfl (Or.inl rfl)) (fun _ _ _ _ _ => pts_nil) (fun _ _ _ _ _ => (pe_call (ok_is_word T) (hr.mono (by decide)) (by rfl) T.g_is_word T.f_is_word.kp (b_is_word T) .nil pass0 (pa_cons (pv 1) pa_nil)))) pa_nil)))))))
        (pss_one (xr_BadWord T hr (takes_of rfl rfl rfl rfl) (pa_cons pe_str pa_nil)))
        pss_nil)
      (pss_cons (ps_expr (pe_call (ok_check_many T) (hr.mono (by decide)) (by rfl) T.g_check_many T.f_check_many.kp (b_check_many T) .nil (passes_call (takes_of rfl rfl rfl rfl) (fun _ _ _ _ h => h)) (pa_cons pe_str (pa_cons (pe_callB call_len (by rfl) T.n_len boot_len (pa_cons (pv 0) pa_nil)) (pa_cons (pe_glob (v := .int 8) (by rfl) T.g_MOST_WORDS.choose_spec ⟨_, rfl⟩) pa_nil)))))
      (pss_cons (ps_setLc (i := 2) (own := [("word", 1)]) (g := (gName 1)) (tt := tYes) (te := tCB (rTupOf K) (tCons (tVar 1) tNil)) (by rfl) sc_squares.nd rfl rfl (sw_true rfl rfl rfl (by decide +kernel)) (pi_seq (pv 0)) (blkOk_by (N := ["words", "word", "told", "found", "w", "body", "x", "y", "z"]) (sc := defScope s_squares) (by decide +kernel)) (fun _ _ _ _ _ => pg_name (i := 1) sc_squares.nd rfl (Or.inl rfl)) (fun _ _ _ _ _ => pts_nil) (fun _ _ _ _ _ => (pe_callTy call_tuple_of (by rfl) T.n_tuple (by decide +kernel) (pa_cons (pv 1) pa_nil))))
      (pss_cons (ps_set (i := 3) sc_squares.nd rfl (.inl rfl) (pe_lst pa_nil))
      (pss_cons (ps_for (passes_of rfl) rfl (pi_range1 (by rfl) T.n_range (pa_cons (pe_callB call_len (by rfl) T.n_len boot_len (pa_cons (pv 2) pa_nil)) pa_nil)) (pg_name (i := 4) sc_squares.nd rfl (.inr rfl))
        (pss_one (ps_for (passes_of rfl) rfl (pi_range1 (by rfl) T.n_range (pa_cons (pe_callB call_len (by rfl) T.n_len boot_len (pa_cons (pe_ix ix_list (pv 2) (pv 4) (fun _ _ => rfl)) pa_nil)) pa_nil)) (pg_name (i := 5) sc_squares.nd rfl (.inr rfl))
          (pss_one (ps_set (i := 3) sc_squares.nd rfl (.inl rfl) (pe_op op_cat (pv 3) (pe_lc (own := [("x", 6), ("y", 7), ("z", 8)]) (g := (gTup K 3 (gCons (gName 6) (gCons (gName 7) (gCons (gName 8) gNil))))) (tt := tYes) rfl sc_squares.nd (pi_list (pe_call (ok_squares_with T) (hr.mono (by decide)) (by rfl) T.g_squares_with T.f_squares_with.kp (b_squares_with T) .nil pass0 (pa_cons (pv 2) (pa_cons (pv 4) (pa_cons (pv 5) pa_nil))))) (blkOk_by (N := ["words", "word", "told", "found", "w", "body", "x", "y", "z"]) (sc := defScope s_squares) (by decide +kernel)) (fun _ _ _ _ _ => pg_tup rfl (pgs_cons (pg_name (i := 6) sc_squares.nd rfl (Or.inl rfl)) (pgs_cons (pg_name (i := 7) sc_squares.nd rfl (Or.inl rfl)) (pgs_cons (pg_name (i := 8) sc_squares.nd rfl (Or.inl rfl)) pgs_nil)))) (fun _ _ _ _ _ => pts_nil) (fun _ _ _ _ _ => (pe_tup (pa_cons (pv 4) (pa_cons (pv 6) (pa_cons (pv 7) (pa_cons (pv 8) (pa_cons (pv 5) pa_nil))))))))))))))
      (pss_one (ps_ret (pe_callTy call_tuple_of (by rfl) T.n_tuple (by decide +kernel) (pa_cons (pe_callB (cr_sortR (R := TupI) (enc := rowD) hu) (by rfl) T.n_sorted (by decide +kernel) (pa_cons (pv 3) pa_nil)) pa_nil))))))))), ?_⟩
    -- slots: [(0, 'words'), (1, 'word'), (2, 'told'), (3, 'found'), (4, 'w'), (5, 'body'), (6, 'x'), (7, 'y'), (8, 'z')]
    obtain ⟨x, rfl, h⟩ := h
    rcases h with ⟨ns, er⟩ | h
    · refine q_when (b := true) (et_is (et_or (a := true) (b := true) (et_is (et_not (et_B (ev_call (ea_cons (ev_var rfl) ea_nil) (sp_nolist ns)))) rfl) (fun z => nomatch z)) rfl) (fun _ H1 e1 => ?_) (fun z => nomatch z)
      exact s_raise (ea_cons ev_c ea_nil) rfl (by show 1 ≤ 1000; decide) fun d H2 e2 h2 => er d H2 (e1.trans e2) h2
    -- a list or a tuple: each item asked
    have allB : ∀ {us : List V} {bs : List Bool} {σ' : L2.St} {H1 : Hp}, σ' = [some x, none, none, none, none, none, none, none, none] → Ex H H1 → SeqV K H x us → us.length ≤ 1000 → us.length = bs.length → (∀ (i : Nat) v b, us[i]? = some v → bs[i]? = some b → IsW K H v b) →
        EvT (tOr (tNot (tB (tCall (spIsList K) [] E0 (tCons (tVar 0) tNil)))) (tNot (tB (tCB (rAll K) (tCons (tLc (iSeq K (tVar 0)) (gName 1) tYes (tCall (spSeq K wordF) [] E0 (tCons (tVar 1) tNil)) [1]) tNil))))) σ' H1 (!bs.all id) := by
      intro us bs σ' H1 es e1 sq l hl each
      subst es
      obtain ⟨a, rfl, ha⟩ := sq
      have el : EvL (tLc (iSeq K (tVar 0)) (gName 1) tYes (tCall (spSeq K wordF) [] E0 (tCons (tVar 1) tNil)) [1]) [some (.ref a), none, none, none, none, none, none, none, none] H1 (bs.map V.bl) := by
        have e0 : (List.range us.length).map (fun i => V.bl (bs.getD i false)) = bs.map V.bl := by
          refine List.ext_getElem? fun i => ?_
          rw [List.getElem?_map, List.getElem?_map]
          by_cases hi : i < us.length
          · rw [List.getElem?_range hi, List.getElem?_eq_getElem (by omega : i < bs.length), Option.map_some, Option.map_some, List.getD_eq_getElem?_getD, List.getElem?_eq_getElem (by omega : i < bs.length)]
            rfl
          · rw [List.getElem?_eq_none (by rw [List.length_range]; omega), List.getElem?_eq_none (by omega)]
            rfl
        rw [← e0]
        refine el_lcSeqI _ (ev_var rfl) (ex_lt e1 ha) (by omega) (fun _ => rfl) fun i v H2 e2 hv => ?_
        have hi := (List.getElem?_eq_some_iff.mp hv).1
        exact ev_call (ea_cons (ev_var rfl) ea_nil) (isW_sp ((each i v _ hv (by rw [List.getD_eq_getElem?_getD, List.getElem?_eq_getElem (by omega : i < bs.length)]; rfl)).ex (e1.trans e2)))
      exact et_is (et_or (a := false) (et_is (et_not (et_B (ev_call (ea_cons (ev_var rfl) ea_nil) (sp_islist (SeqV.ex ⟨a, rfl, ha⟩ e1))))) rfl) fun _ => et_not (et_B (ev_all el))) (Bool.false_or _)
    rcases h with ⟨us, bs, sq, l, hl, each, hb, er⟩ | ⟨us, ws, sq, l, each, h⟩
    · refine q_when (b := true) (et_is (allB rfl (Ex.refl H) sq l hl each) (by rw [hb]; rfl)) (fun _ H1 e1 => ?_) (fun z => nomatch z)
      exact s_raise (ea_cons ev_c ea_nil) rfl (by show 1 ≤ 1000; decide) fun d H2 e2 h2 => er d H2 (e1.trans e2) h2
    have lw := each.len
    refine q_when (b := false) (et_is (allB (bs := us.map fun _ => true) rfl (Ex.refl H) sq l (by rw [List.length_map]) fun i v b hv hb => ?_) ?_) (fun z => nomatch z) fun _ H1 e1 => ?_
    · rw [List.getElem?_map, hv] at hb
      cases hb
      obtain ⟨w, _, hw⟩ := each.get hv
      exact goodW_isW hw
    · rw [all_map]
      simp
    obtain ⟨a, rfl, ha⟩ := sq
    have ha1 := ex_lt e1 ha
    refine drop_go (call_go ((ea_cons ev_c (ea_cons (ev_lenQ (ev_var rfl) ha1) (ea_cons ev_c ea_nil))) H1 (Ex.refl H1) _ fun H2 e2 => ⟨_, _, _, rfl, fun z d H3 e3 h3 => ?_, fun z H3 e3 => ?_⟩))
    · have z := of_decide_eq_false z
      rcases h with ⟨_, er⟩ | ⟨h8, _⟩
      · exact er d H3 ((e1.trans e2).trans e3) h3
      · omega
    have z := of_decide_eq_true z
    rcases h with ⟨h8, _⟩ | ⟨w8, k⟩
    · omega
    have e03 := (e1.trans e2).trans e3
    have each3 := each.exS (goodW_st K) e03
    have okws : okW ws := ⟨w8, fun i hi => by
      obtain ⟨v, hv, hw⟩ := each.at (List.getElem?_eq_getElem hi)
      have := wordF_len hw.2
      unfold at_
      rw [List.getD_eq_getElem?_getD, List.getElem?_eq_getElem hi]
      exact this⟩
    have stI : ∀ ns : List Int, StabN (TupI ns) := tupI_st
    have stS : ∀ ns : List Int, Stab (TupI ns) := fun ns => stabN_ex (stI ns)
    -- told
    have mk : EvLP (tLc (iSeq K (tVar 0)) (gName 1) tYes (tCB (rTupOf K) (tCons (tVar 1) tNil)) [1]) [some (.ref a), none, none, none, none, none, none, none, none] H3 (TupW K) ws := by
      have gen : ∀ {wi : TI}, (wi = iList K (tVar 0) ∨ wi = iTup K (tVar 0)) → True := fun _ => trivial
      have ez := zip_snd lw
      rw [← ez]
      have elt : ∀ (p : V × List Str) H4, Ex H3 H4 → p ∈ us.zip ws → EvP (tCB (rTupOf K) (tCons (tVar 1) tNil)) [some (.ref a), some p.1, none, none, none, none, none, none, none] H4 (TupW K p.2) := by
        intro p H4 e4 hp H5 e5 Q q
        obtain ⟨i, hi⟩ := List.getElem?_of_mem hp
        obtain ⟨h1, h2⟩ := List.getElem?_zip_eq_some.mp hi
        obtain ⟨w, hw, gw⟩ := each3.get h1
        obtain rfl : w = p.2 := Option.some.inj (hw.symm.trans h2)
        obtain ⟨⟨b, eb, hb⟩, _⟩ := goodW_st K _ _ _ _ gw (e4.trans e5)
        refine ⟨p.1, rfl, b, sV p.2, congrArg (fun v => [v]) eb, ?_⟩
        rcases hb with hb | hb
        · exact .inl ⟨hb, fun r nr => q _ _ (Ex.new nr) ⟨r, rfl, SqT.of upd_same⟩⟩
        · exact .inr ⟨hb, q _ H5 (Ex.refl H5) ⟨b, rfl, hb⟩⟩
      have lz : (us.zip ws).length ≤ 40000 := by rw [List.length_zip]; omega
      refine EvLP.mapL (R := TupW K) Prod.snd ?_
      rw [← filter_all (us.zip ws)]
      rcases ha with ha | ha
      · exact lp_seqL (el_lcLG (fun p => tupW_st K p.2) (zipS (goodW_st K)) (fun _ => true) (fun p => [some (.ref a), some p.1, none, none, none, none, none, none, none]) (ls_var (zipS (goodW_st K)) (ev_var rfl) (ex_l e03 ha) (each_zip each3)) lz (fun _ => rfl) (fun p _ v H' hv N n => by obtain ⟨hv, _⟩ := hv; subst hv; exact n) (fun _ _ _ _ => et_yes) (fun p H4 e4 hp _ => elt p H4 e4 hp))
      · exact lp_seqT (el_lcTG (fun p => tupW_st K p.2) (zipS (goodW_st K)) (fun _ => true) (fun p => [some (.ref a), some p.1, none, none, none, none, none, none, none]) (ts_var (zipS (goodW_st K)) (ev_var rfl) (ex_t e03 ha) (each_zip each3)) lz (fun _ => rfl) (fun p _ v H' hv N n => by obtain ⟨hv, _⟩ := hv; subst hv; exact n) (fun _ _ _ _ => et_yes) (fun p H4 e4 hp _ => elt p H4 e4 hp))
    refine q_asgD (mk H3 (Ex.refl H3) _ fun tl ts H4 ntl e4 htl each4 => ?_)
    have hW4 := words_of htl each4
    have lts : ts.length = ws.length := each4.len.symm
    refine q_asgL (el_lst ea_nil (Nat.zero_le _)) fun fl H5 nfl e5 hfl => ?_
    have hW5 := hW4.ex e5
    have htl5 := e5 _ _ htl
    refine q_forR1 (n := (ws.length : Nat)) (ea_cons (ev_is (ev_lenQ (ev_var rfl) (.inl (SqL.of htl5))) (by rw [lts])) ea_nil) (by omega) (fun i σ' H' => (∃ fl us u1 u4 u5 u6 u7 u8, σ' = [some (.ref a), u1, some (.ref tl), some (.ref fl), u4, u5, u6, u7, u8] ∧ H fl = none ∧ H' fl = some (.lst us) ∧ Each TupI H' (rawW ws i) us) ∧ Ex H5 H') (fun H6 e6 => ⟨⟨fl, [], _, _, _, _, _, _, rfl, fresh_back (e03.trans e4) nfl, e6 _ _ hfl, .nil⟩, e6⟩) ?_ ?_
    · rintro i σ' H6 hi ⟨⟨fl, us6, u1, u4, u5, u6, u7, u8, rfl, nfl6, hfl6, each6⟩, e6⟩
      have hi2 : i < ws.length := by omega
      obtain ⟨wa, hwa, wEv⟩ := hW5.at hi2
      refine s_forR1 (n := ((at_ ws i).length : Nat)) (ea_cons (ev_is (ev_lenQ (wEv e6 (ev_var rfl) (ev_var rfl)) (.inr (ex_t e6 hwa))) (by rw [sV_len])) ea_nil) (by have := okws.2 i hi2; omega) (fun j σ' H' => (∃ fl us u1 u5 u6 u7 u8, σ' = [some (.ref a), u1, some (.ref tl), some (.ref fl), some (.int (i : Nat)), u5, u6, u7, u8] ∧ H fl = none ∧ H' fl = some (.lst us) ∧ Each TupI H' (rawW ws i ++ (List.range j).flatMap (ofB ws i)) us) ∧ Ex H6 H') (fun H7 e7 => ⟨⟨fl, us6, _, _, _, _, _, rfl, nfl6, e7 _ _ hfl6, by rw [List.range_zero, List.flatMap_nil, List.append_nil]; exact each6.exS stS e7⟩, e7⟩) ?_ ?_
      · rintro j σ' H7 hj ⟨⟨fl, us7, u1, u5, u6, u7, u8, rfl, nfl7, hfl7, each7⟩, e7⟩
        have hj2 : j < (at_ ws i).length := by omega
        have r1 := rawW_len okws i (by omega)
        have r2 := partB_len w8 i j
        have r3 := ofB_len w8 i j
        have := okws.2 i hi2
        have src : EvLS K (tCall (spWith K) [] E0 (tCons (tVar 2) (tCons (tVar 4) (tCons (tVar 5) tNil)))) [some (.ref a), u1, some (.ref tl), some (.ref fl), some (.int (i : Nat)), some (.int (j : Nat)), u6, u7, u8] H7 (fun t => TupI (ints3 t)) (sqWith ws i j) := fun H8 e8 Q q =>
          call_go ((ea_cons (ev_var rfl) (ea_cons (ev_var rfl) (ea_cons (ev_var rfl) ea_nil))) H8 (Ex.refl H8) _ fun H9 e9 => ⟨tl, ws, i, j, rfl, hW5.ex (((e6.trans e7).trans e8).trans e9), okws, hi2, hj2, fun p us' H' np e hp each' => q p us' H' (e9.trans e) (SqL.of hp) each'⟩)
        have lsq : (sqWith ws i j).length ≤ 512 := by have z := r3; unfold ofB at z; rw [List.length_map] at z; exact z
        have elc : EvLP (tLc (iList K (tCall (spWith K) [] E0 (tCons (tVar 2) (tCons (tVar 4) (tCons (tVar 5) tNil))))) (gTup K 3 (gCons (gName 6) (gCons (gName 7) (gCons (gName 8) gNil)))) tYes (tTup (tCons (tVar 4) (tCons (tVar 6) (tCons (tVar 7) (tCons (tVar 8) (tCons (tVar 5) tNil)))))) [6, 7, 8]) [some (.ref a), u1, some (.ref tl), some (.ref fl), some (.int (i : Nat)), some (.int (j : Nat)), u6, u7, u8] H7 TupI (ofB ws i j) := by
          unfold ofB
          refine EvLP.mapL (R := TupI) (row5 i j) ?_
          rw [← filter_all (sqWith ws i j)]
          exact el_lcLG (fun t => tupI_st _) (fun t => stabN_ex (tupI_st _)) (fun _ => true) (fun t => [some (.ref a), u1, some (.ref tl), some (.ref fl), some (.int (i : Nat)), some (.int (j : Nat)), some (.int (t.1 : Nat)), some (.int (t.2.1 : Nat)), some (.int (t.2.2 : Nat))]) src (by omega) (fun _ => rfl) (fun t _ v H' hv N n => by
            obtain ⟨p, rfl, hp⟩ := hv
            exact ⟨p, _, rfl, SqT.of hp, rfl, _, _, rfl, _, _, rfl, _, _, rfl, rfl, n⟩) (fun _ _ _ _ => et_yes) (fun t H8 e8 _ _ => evp_tupI (ns := row5 i j t) (ea_cons (ev_var rfl) (ea_cons (ev_var rfl) (ea_cons (ev_var rfl) (ea_cons (ev_var rfl) (ea_cons (ev_var rfl) ea_nil))))) (by show 5 ≤ 1000; decide))
        refine (lp_cat stS (ev_var rfl) hfl7 each7 elc (by rw [List.length_append]; omega)) H7 (Ex.refl H7) _ fun p us8 H8 np e8 hp each8 => ⟨⟨p, us8, _, _, _, _, _, rfl, fresh_back (((e03.trans e4).trans e5).trans (e6.trans e7)) np, hp, ?_⟩, e7.trans e8⟩
        rw [range_flat, ← List.append_assoc]
        exact each8
      · rintro σ' H7 ⟨⟨fl, us7, u1, u5, u6, u7, u8, rfl, nfl7, hfl7, each7⟩, e7⟩
        refine ⟨⟨fl, us7, _, _, _, _, _, _, rfl, nfl7, hfl7, ?_⟩, e6.trans e7⟩
        show Each TupI H7 (rawW ws (i + 1)) us7
        unfold rawW
        rw [range_flat]
        exact each7
    · rintro σ' H6 ⟨⟨fl, us6, u1, u4, u5, u6, u7, u8, rfl, nfl6, hfl6, each6⟩, e6⟩
      have r1 := rawW_len okws ws.length (Nat.le_refl _)
      have each6 : Each TupI H6 (sqRaw ws) us6 := each6
      have nn : ∀ b ∈ sqRaw ws, b ≠ [] := fun b hb => by
        obtain ⟨i, _, h1⟩ := List.mem_flatMap.mp hb
        obtain ⟨j, _, h2⟩ := List.mem_flatMap.mp h1
        obtain ⟨t, _, rfl⟩ := List.mem_map.mp h2
        exact List.cons_ne_nil _ _
      have few : (sqRaw ws).length < 50000 := by unfold sqRaw; omega
      have so := lp_sorted (K := K) (enc := rowD) stS (ls_var stS (ev_var rfl : Ev (tVar 3) [some (V.ref a), u1, some (.ref tl), some (.ref fl), u4, u5, u6, u7, u8] H6 (.ref fl)) (SqL.of hfl6) each6) (fun ns _ v H1 h => tupI_dp h) (rows_alike _) (rows_sortable nn) few (fun ns _ => rowD_depth ns)
      refine ret_go ((up_tupL stS so.src (by have := (sortB_perm rowD (sqRaw ws)).length_eq; omega)) H6 (Ex.refl H6) _ fun p us7 H7 np e7 hp each7 => ?_)
      exact k p us7 H7 (fresh_back (((e03.trans e4).trans e5).trans e6) np) ((((e03.trans e4).trans e5).trans e6).trans e7) hp each7
end
end K82
set_option Elab.async false
set_option linter.all false
set_option maxRecDepth 100000
set_option maxHeartbeats 4000000
set_option autoImplicit false
namespace K82
open PySem PySem.Spec PyProof.Rows L2 He Evl
/-- a pick out of a list or of a text's signs -/
def spOne (K : PySem.W.Frag) : Sp := fun vs H Q _ => ∃ (p c : Addr) (v : V) (n : Nat), vs = [.ref p, v] ∧ PenAt K n H p c ∧ n ≤ 100000 ∧
  ((∃ (l : Addr) (xs : List V), v = .ref l ∧ SqL K H l xs ∧ l ≠ p ∧ 0 < xs.length ∧ xs.length ≤ 1000 ∧ ∀ (i : Nat) (x : V) H', xs[i]? = some x → Off p H H' → PenAt K (n + 1) H' p c → Q x H') ∨
   ∃ z : Str, v = .str z ∧ 0 < z.cps.toList.length ∧ z.cps.toList.length ≤ 1000 ∧ ∀ d H', d ∈ z.cps.toList → Off p H H' → PenAt K (n + 1) H' p c → Q (.str ⟨#[d]⟩) H')
section
variable {P : Program} {w : World} {K : PySem.W.Frag} {mg : Str → Option Value} {base : Heap}
theorem ok_l_one (T : Tx K mg) : FnOk P w K mg base CX0 2 (ga K "_law_one") (fdOf K ("_law_one", none)) ["_law_ear_here", "_law_some"] (spOne K) := by
  refine T.f_l_one.ok sc_l_one (fun vs H Q E h => ?_) (fun cdv A outer s H vs Q E hr h => ?_)
  · obtain ⟨p, c, v, n, rfl, _⟩ := h
    rfl
  · refine ⟨_, PSs.nox (pss_one (ps_ret (pe_ix ix_seq (pv 1) (pe_call (ok_l_pull T) (hr.mono (by decide)) (by rfl) T.g_l_pull T.f_l_pull.kp (b_l_pull T) .nil pass0 (pa_cons (pv 0) (pa_cons (pe_callB call_len (by rfl) T.n_len boot_len (pa_cons (pv 1) pa_nil)) pa_nil))) (fun _ _ => rfl)))), ?_⟩
    -- slots: [(0, '_law_ear_here'), (1, '_law_some')]
    obtain ⟨p, c, v, n, rfl, hP, hn, k⟩ := h
    rcases k with ⟨l, xs, rfl, hx, hne, h0, h1, k⟩ | ⟨z, rfl, h0, h1, k⟩
    · refine ⟨_, rfl, _, rfl, _, rfl, _, xs.length, rfl, .inl ⟨_, hx, rfl⟩, p, c, xs.length, n, rfl, by omega, by omega, hP, hn, fun d H' d0 d1 off pen => ?_⟩
      obtain ⟨j, hj, hjl⟩ : ∃ j : Nat, d = (j : Int) ∧ j < xs.length := ⟨d.toNat, (Int.toNat_of_nonneg d0).symm, by omega⟩
      have hxj : xs[j]? = some xs[j] := List.getElem?_eq_getElem hjl
      exact .inl ⟨l, xs, d, xs[j], rfl, rfl, Off.sq off hne hx, at_of hj hxj, k j xs[j] H' hxj off pen⟩
    · have hz : z.length = z.cps.toList.length := (Array.length_toList).symm
      refine ⟨_, rfl, _, rfl, _, rfl, _, z.length, rfl, ⟨sz_of (by omega), rfl⟩, p, c, z.length, n, rfl, by omega, by omega, hP, hn, fun d H' d0 d1 off pen => ?_⟩
      obtain ⟨j, hj, hjl⟩ : ∃ j : Nat, d = (j : Int) ∧ j < z.cps.toList.length := ⟨d.toNat, (Int.toNat_of_nonneg d0).symm, by omega⟩
      have hxj : z.cps.toList[j]? = some z.cps.toList[j] := List.getElem?_eq_getElem hjl
      exact .inr (.inr ⟨z, d, z.cps.toList[j], rfl, rfl, sz_of (by omega), (by rw [hj, atI_nat]; exact hxj), k _ H' (List.mem_of_getElem? hxj) off pen⟩)
end
end K82
set_option Elab.async false
set_option linter.all false
set_option maxRecDepth 100000
set_option maxHeartbeats 4000000
set_option autoImplicit false
/-! comprehensions that draw and make new objects. -/
namespace Odd
open PySem PySem.Spec PyProof.Rows L2 LamX NdefX He Evl Lam
section
variable {K : PySem.W.Frag} {σ : L2.St} {H : Hp} {te tl : TE} {ta : TA} {Q : VK}
def lcR (g : TG) (tt : TT) (te : TE) (vs : List Nat) (σ : L2.St) (Q : VK) : It → Hp → Prop := fun J H1 => ∀ D, H1 D = none → ∃ W : Nat → Nat → Hp → Prop, (∃ m, W 0 m (upd H1 D (.lst []))) ∧ ∀ i m H, W i m H →
  (J.stop i H ∧ Q (.ref D) H) ∨ (J.go i H ∧ ∃ Nx : Hp → Prop, (∀ H', Nx H' → ∃ m', m' < m ∧ W (i + 1) m' H') ∧ ∀ x H', J.yld i H x H' → g x (wipe σ vs) H' fun σ2 H2 => wipe σ2 vs = wipe σ vs ∧ tt σ2 H2 fun b H3 =>
    if b = true then te σ2 H3 fun y H4 => ∃ acc, H4 D = some (.lst acc) ∧ acc.length < sizeLine ∧ Nx (upd H4 D (.lst (acc ++ [y]))) else Nx H3)
theorem lc_penJ {J : It} {n : Nat} {G : Hp → Prop} {ys : Nat → V → Prop} (w : Walk J n G (fun i H x H' => H' = H ∧ ys i x)) {p c : Addr} {n0 S j : Nat} {vs : List Nat} {R : Addr → V → Hp → Prop} (st : ∀ Dl v H H', R Dl v H → Off2 [p, Dl] H H' → R Dl v H')
    (pen : PenAt K n0 H p c) (hG : ∀ H', Off p H H' → G H') (few : n ≤ 1000) (hw : ∀ x, wipe ((wipe σ vs).set j (some x)) vs = wipe σ vs)
    (hte : ∀ Dl i x k H2 acc, i < n → ys i x → k ≤ n0 + S * n → Off p H H2 → PenAt K k H2 p c → H Dl = none → H2 Dl = some (.lst acc) → ∀ Q' : VK, (∀ v H3, R Dl v H3 → Off p H2 H3 → PenAt K (k + S) H3 p c → Q' v H3) → te ((wipe σ vs).set j (some x)) H2 Q')
    (hQ : ∀ xs l H2, xs.length = n → (∀ v ∈ xs, R l v H2) → H2 l = some (.lst xs) → l ≠ p → H l = none → Off p H H2 → PenAt K (n0 + S * n) H2 p c → Q (.ref l) H2) : lcR (gName j) tYes te vs σ Q J H := fun Dl hD => by
  obtain ⟨op, hp1⟩ := pen.there
  have hDp : p ≠ Dl := ne_of_none hp1 hD
  refine lc_it w (fun i H' => ∃ acc, H' Dl = some (.lst acc) ∧ acc.length = i ∧ (∀ v ∈ acc, R Dl v H') ∧ Off p H H' ∧ PenAt K (n0 + S * i) H' p c) ⟨[], upd_same, rfl, fun v hv => (nomatch hv), Off.of (Ex.new hD), pen.ex (Ex.new hD)⟩ (fun i H' _ ⟨_, _, _, _, o, _⟩ => hG H' o) ?_ ?_
  · rintro i x H' H'' hi ⟨acc, ha, hlen, hR, off2, pen2⟩ ⟨rfl, hy⟩
    refine ⟨hw _, hte Dl i x (n0 + S * i) H'' acc hi hy (Nat.add_le_add_left (Nat.mul_le_mul_left S (Nat.le_of_lt hi)) n0) off2 pen2 hD ha _ fun v H3 hv off3 pen3 => ⟨acc, off3 _ _ ha (Ne.symm hDp), sz_lt (by omega), acc ++ [v], upd_same, ?_, ?_, He.Off.mut (off2.trans off3) hD, ?_⟩⟩
    · rw [List.length_append, hlen]
      rfl
    · have o2 : Off2 [p, Dl] H3 (upd H3 Dl (.lst (acc ++ [v]))) := (Off2.refl _ _).mut (List.mem_cons_of_mem _ List.mem_cons_self)
      intro y hy
      rcases List.mem_append.mp hy with hy | hy
      · exact st _ _ _ _ (hR y hy) (((Off2.off off3).sub fun a ha => by rw [List.mem_singleton.mp ha]; exact List.mem_cons_self).trans o2)
      · rw [List.mem_singleton.mp hy]
        exact st _ _ _ _ hv o2
    · have z := PenAt.mut (o := .lst (acc ++ [v])) pen hD pen3
      rw [Nat.add_assoc, ← Nat.mul_succ] at z
      exact z
  · rintro H' ⟨acc, ha, hlen, hR, off2, pen2⟩
    exact hQ acc Dl H' hlen hR ha (Ne.symm hDp) hD off2 pen2
/-- [e for t in range(m)], m drawn too -/
theorem lc_penH {p c : Addr} {n0 S L M j : Nat} {vs : List Nat} {R : Addr → V → Hp → Prop} (st : ∀ Dl v H H', R Dl v H → Off2 [p, Dl] H H' → R Dl v H') (hM : M ≤ 1000)
    (hta : ∀ N : List V → Hp → Prop, (∀ (m : Nat) H1, L ≤ m → m ≤ M → Off p H H1 → PenAt K (n0 + 1) H1 p c → N [.int (m : Nat)] H1) → ta σ H N) (hp : ∃ xs, H p = some (.lst xs))
    (hw : ∀ x, wipe ((wipe σ vs).set j (some x)) vs = wipe σ vs)
    (hte : ∀ Dl (i : Nat) k H2 acc, i < M → k ≤ n0 + 1 + S * M → Off p H H2 → PenAt K k H2 p c → H Dl = none → H2 Dl = some (.lst acc) → ∀ Q' : VK, (∀ v H3, R Dl v H3 → Off p H2 H3 → PenAt K (k + S) H3 p c → Q' v H3) → te ((wipe σ vs).set j (some (.int (i : Nat)))) H2 Q')
    (hQ : ∀ xs l H2, L ≤ xs.length → xs.length ≤ M → (∀ v ∈ xs, R l v H2) → H2 l = some (.lst xs) → l ≠ p → H l = none → Off p H H2 → PenAt K (n0 + 1 + S * M) H2 p c → Q (.ref l) H2) : tLc (iRng1 ta) (gName j) tYes te vs σ H Q := by
  refine hta _ fun m H1 hL hm off1 pen1 => ⟨(m : Int), rfl, by omega, by omega, ?_⟩
  have sm : S * m ≤ S * M := Nat.mul_le_mul_left S hm
  have hm2 : (m : Int).toNat = m := Int.toNat_natCast m
  rw [hm2]
  refine lc_penJ (S := S) (ys := fun i x => x = .int ((0 : Int) + (i : Nat))) (G := fun _ => True) walk_range st pen1 (fun _ _ => trivial) (by omega) hw (fun Dl i x k H2 acc hi hx hk off2 pen2 hD hDl Q' q => ?_) fun xs l H2 hl hR hx lp hn off2 pen2 => ?_
  · subst hx
    rw [Int.zero_add]
    exact hte Dl i k H2 acc (by omega) (by omega) (off1.trans off2) pen2 (Off.back off1 (pen_at pen1).choose_spec hD) hDl Q' q
  · exact hQ xs l H2 (by omega) (by omega) hR hx lp (Off.back off1 (pen_at pen1).choose_spec hn) (off1.trans off2) (pen2.mono (by omega))
/-- [e for x in xs], xs a list, each item drawn -/
theorem lc_penL {p c a : Addr} {n0 S j : Nat} {vs : List Nat} {R : Addr → V → Hp → Prop} {ys : List V} (st : ∀ Dl v H H', R Dl v H → Off2 [p, Dl] H H' → R Dl v H') (pen : PenAt K n0 H p c) (few : ys.length ≤ 1000) (hv : Ev tl σ H (.ref a)) (ha : H a = some (.lst ys)) (ap : a ≠ p)
    (hw : ∀ x, wipe ((wipe σ vs).set j (some x)) vs = wipe σ vs)
    (hte : ∀ Dl (i : Nat) x k H2 acc, ys[i]? = some x → k ≤ n0 + S * ys.length → Off p H H2 → PenAt K k H2 p c → H Dl = none → H2 Dl = some (.lst acc) → ∀ Q' : VK, (∀ v H3, R Dl v H3 → Off p H2 H3 → PenAt K (k + S) H3 p c → Q' v H3) → te ((wipe σ vs).set j (some x)) H2 Q')
    (hQ : ∀ xs l H2, xs.length = ys.length → (∀ v ∈ xs, R l v H2) → H2 l = some (.lst xs) → l ≠ p → H l = none → Off p H H2 → PenAt K (n0 + S * ys.length) H2 p c → Q (.ref l) H2) : tLc (iList K tl) (gName j) tYes te vs σ H Q :=
  hv H (Ex.refl H) _ fun H1 e1 => ⟨a, rfl, ⟨ys, SqL.of (e1 _ _ ha)⟩, lc_penJ (S := S) (n := ys.length) (G := fun H => SqL K H a ys) (ys := fun i x => ys[i]? = some x) walk_list st (pen.ex e1) (fun H' o => SqL.of (o _ _ (e1 _ _ ha) ap)) few hw
    (fun Dl i x k H2 acc _ hx hk off2 pen2 hD hDl Q' q => hte Dl i x k H2 acc hx hk ((Off.of e1).trans off2) pen2 (fresh_back e1 hD) hDl Q' q)
    fun xs l H2 hl hR hx lp hn off2 pen2 => hQ xs l H2 hl hR hx lp (fresh_back e1 hn) ((Off.of e1).trans off2) pen2⟩
end
end Odd
set_option Elab.async false
set_option linter.all false
set_option maxRecDepth 100000
set_option maxHeartbeats 4000000
set_option autoImplicit false
namespace K82
open PySem PySem.Spec PyProof.Rows L2 He Evl SortD Odd Lam LamX NdefX
/-- a list of so many names, off Z -/
def LW (Z : List Addr) (lo hi : Nat) (v : V) (H : Hp) : Prop := ∃ (a : Addr) (w : List Str), v = .ref a ∧ a ∉ Z ∧ H a = some (.lst (sV w)) ∧ lo ≤ w.length ∧ w.length ≤ hi ∧ ∀ z ∈ w, nameV (.str z) = true
theorem LW.st {Z W : List Addr} {lo hi : Nat} {v : V} {H H' : Hp} (h : LW Z lo hi v H) (o : Off2 W H H') (s : ∀ a ∈ W, a ∈ Z) : LW Z lo hi v H' := let ⟨a, w, e, n, ha, x⟩ := h; ⟨a, w, e, n, o _ _ ha (fun m => n (s a m)) (fun _ z => nomatch z), x⟩
theorem LW.sub {Z W : List Addr} {lo hi lo' hi' : Nat} {v : V} {H : Hp} (h : LW Z lo hi v H) (s : ∀ a ∈ W, a ∈ Z) (h1 : lo' ≤ lo) (h2 : hi ≤ hi') : LW W lo' hi' v H := let ⟨a, w, e, n, ha, x1, x2, x3⟩ := h; ⟨a, w, e, fun m => n (s a m), ha, by omega, by omega, x3⟩
/-- all but p and q is as it was -/
def Off3 (p q : Addr) (H H' : Hp) : Prop := ∀ a u, H a = some u → a ≠ p → a ≠ q → H' a = some u
theorem Off3.off2 {p q : Addr} {H H' : Hp} (o : Off3 p q H H') : Off2 [p, q] H H' := fun a u h n _ => o a u h (fun e => n (by simp [e])) fun e => n (by simp [e])
theorem Off3.trans {p q : Addr} {H H1 H2 : Hp} (a : Off3 p q H H1) (b : Off3 p q H1 H2) : Off3 p q H H2 := fun x u h n m => b x u (a x u h n m) n m
theorem Off3.of {p q : Addr} {H H' : Hp} (e : Ex H H') : Off3 p q H H' := fun a u h _ _ => e a u h
theorem Off3.off {p q : Addr} {H H' : Hp} (e : Off p H H') : Off3 p q H H' := fun a u h n _ => e a u h n
theorem Off3.mut {p q : Addr} {H : Hp} {o : HO} : Off3 p q H (upd H q o) := fun a u h _ m => by rw [upd_ne m]; exact h
def nameR (v : V) : Prop := ∃ z : Str, v = .str z ∧ nameV (.str z) = true
theorem names_sV : ∀ {xs : List V}, (∀ v ∈ xs, nameR v) → ∃ w : List Str, xs = sV w ∧ ∀ z ∈ w, nameV (.str z) = true
  | [], _ => ⟨[], rfl, fun _ h => nomatch h⟩
  | v :: xs, h => by
    obtain ⟨z, rfl, hz⟩ := h v List.mem_cons_self
    obtain ⟨w, rfl, hw⟩ := names_sV fun u hu => h u (List.mem_cons_of_mem _ hu)
    exact ⟨z :: w, rfl, fun y hy => (List.mem_cons.mp hy).elim (fun e => by rw [e]; exact hz) (hw y)⟩
def spWords (K : PySem.W.Frag) : Sp := fun vs H Q _ => ∃ (p c : Addr) (n : Nat), vs = [.ref p] ∧ PenAt K n H p c ∧ n ≤ 80000 ∧ ∀ l us H', Off p H H' → PenAt K (n + 120) H' p c → l ≠ p → H l = none → H' l = some (.lst us) → us.length ≤ 8 → (∀ v ∈ us, LW [p] 1 6 v H') → Q (.ref l) H'
section
variable {K : PySem.W.Frag} {σ : L2.St} {H : Hp} {te tl : TE} {ta : TA} {p c : Addr} {n : Nat} {Q : VK}
theorem run_oneG {G : V → Hp → Prop} {m : Nat} (of : ∀ v H1 H2, G v H1 → Off p H1 H2 → G v H2) (hP : PenAt K n H p c) (hn : n ≤ 100000) (hv : Ev te σ H (.ref p)) (h : EvLG tl σ H G m) (hl : 0 < m ∧ m ≤ 1000) (k : ∀ x H1, G x H1 → Off p H H1 → PenAt K (n + 1) H1 p c → Q x H1) :
    tCall (spOne K) [] E0 (tCons te (tCons tl tNil)) σ H Q :=
  hv H (Ex.refl H) _ fun H1 e1 => h H1 e1 _ fun l vs H2 nl e2 hl2 len all => by
    obtain ⟨o, ho⟩ := hP.there
    exact ⟨p, c, .ref l, n, rfl, hP.ex (e1.trans e2), hn, .inl ⟨l, vs, rfl, SqL.of hl2, Ne.symm (ne_of_none (e1 _ _ ho) nl), by omega, by omega, fun i x H4 hx off pen => k x H4 (of _ _ _ (all x (List.mem_of_getElem? hx)) off) ((Off.of (e1.trans e2)).trans off) pen⟩⟩
/-- one of the names -/
theorem run_name {i : Nat} {nl : Addr} {nm : List V} (hv : σ[i]? = some (some (.ref nl))) (h0 : σ[0]? = some (some (.ref p))) (hn : H nl = some (.lst nm)) (np : nl ≠ p) (nms : (∀ v ∈ nm, nameR v) ∧ 0 < nm.length ∧ nm.length ≤ 1000) (pen : PenAt K n H p c) (few : n ≤ 100000)
    (k : ∀ v H', nameR v → Off p H H' → PenAt K (n + 1) H' p c → Q v H') : tCall (spOne K) [] E0 (tCons (tVar 0) (tCons (tVar i) tNil)) σ H Q :=
  ⟨_, h0, _, hv, p, c, .ref nl, n, rfl, pen, few, .inl ⟨nl, nm, rfl, SqL.of hn, np, nms.2.1, nms.2.2, fun j x H' hx off pen' => k x H' (nms.1 x (List.mem_of_getElem? hx)) off pen'⟩⟩
/-- a list of drawn names -/
theorem draw_names {nl : Addr} {nm : List V} {L M j : Nat} {vs : List Nat} (h0 : σ[0]? = some (some (.ref p))) (h1 : σ[1]? = some (some (.ref nl))) (hn : H nl = some (.lst nm)) (np : nl ≠ p) (nms : (∀ v ∈ nm, nameR v) ∧ 0 < nm.length ∧ nm.length ≤ 1000) (pen : PenAt K n H p c) (few : n ≤ 90000) (hM : M ≤ 100)
    (hta : ∀ N : List V → Hp → Prop, (∀ (m : Nat) H1, L ≤ m → m ≤ M → Off p H H1 → PenAt K (n + 1) H1 p c → N [.int (m : Nat)] H1) → ta σ H N) (hw : ∀ x, wipe ((wipe σ vs).set j (some x)) vs = wipe σ vs)
    (s0 : ∀ x, ((wipe σ vs).set j (some x))[0]? = some (some (.ref p))) (s1 : ∀ x, ((wipe σ vs).set j (some x))[1]? = some (some (.ref nl)))
    (k : ∀ (w : List Str) a H', L ≤ w.length → w.length ≤ M → (∀ z ∈ w, nameV (.str z) = true) → H' a = some (.lst (sV w)) → a ≠ p → H a = none → Off p H H' → PenAt K (n + 1 + M) H' p c → Q (.ref a) H') :
    tLc (iRng1 ta) (gName j) tYes (tCall (spOne K) [] E0 (tCons (tVar 0) (tCons (tVar 1) tNil))) vs σ H Q :=
  lc_penH (S := 1) (R := fun _ v _ => nameR v) (fun _ _ _ _ h _ => h) (by omega) hta (pen_at pen) hw (fun Dl i k' H2 acc hi hk off2 pen2 hD hDl Q' q => run_name (s1 _) (s0 _) (off2 _ _ hn np) np nms pen2 (by omega) fun v H3 hv off3 pen3 => q v H3 hv off3 pen3)
    fun xs a H2 h1 h2 hR ha ap an off pen' => by
      obtain ⟨w, rfl, hw⟩ := names_sV hR
      rw [sV_len] at h1 h2
      exact k w a H2 h1 h2 hw ha ap an off (pen'.mono (by omega))
end
section
variable {P : Program} {w : World} {K : PySem.W.Frag} {mg : Str → Option Value} {base : Heap}
theorem b_l_words (T : Tx K mg) : Binds K (fdOf K ("_law_words", none)) ["_law_ear_here"] [] := T.f_l_words.bindsN fun _ _ _ _ _ _ us hl => match us, hl with | [_], _ => rfl
theorem ok_l_words (T : Tx K mg) : FnOk P w K mg base CX0 5 (ga K "_law_words") (fdOf K ("_law_words", none)) ["_law_ear_here"] (spWords K) := by
  refine T.f_l_words.ok sc_l_words (fun vs H Q E h => ?_) (fun cdv A outer s H vs Q E hr h => ?_)
  · obtain ⟨p, c, n, rfl, _⟩ := h
    rfl
  · refine ⟨_, PSs.nox (pss_cons (ps_asg (pe_tup (pa_cons (pe_call (ok_l_one T) (hr.mono (by decide)) (by rfl) T.g_l_one T.f_l_one.kp (b_l_one T) .nil pass0 (pa_cons (pv 0) (pa_cons (pe_lst (pa_cons (pe_lst (pa_cons pe_str (pa_cons pe_str pa_nil))) (pa_cons (pe_lst (pa_cons pe_str (pa_cons pe_str (pa_cons pe_str pa_nil)))) (pa_cons (pe_lst (pa_cons pe_str (pa_cons pe_str (pa_cons pe_str (pa_cons pe_str pa_nil))))) pa_nil)))) pa_nil))) (pa_cons (pe_lst pa_nil) pa_nil))) (pg_tup rfl (pgs_cons (pg_name (i := 1) sc_l_words.nd rfl (.inr rfl)) (pgs_cons (pg_name (i := 2) sc_l_words.nd rfl (.inl rfl)) pgs_nil))))
      (pss_cons (ps_setLc (i := 3) (own := [("_law_stem", 5)]) (g := (gName 5)) (tt := tYes) (by rfl) sc_l_words.nd rfl rfl (sw_true rfl rfl rfl (by decide +kernel)) (pi_range1 (by rfl) T.n_range (pa_cons (pe_op op_add pe_int (pe_call (ok_l_pull T) (hr.mono (by decide)) (by rfl) T.g_l_pull T.f_l_pull.kp (b_l_pull T) .nil pass0 (pa_cons (pv 0) (pa_cons pe_int pa_nil)))) pa_nil)) (blkOk_by (N := ["_law_ear_here", "_law_names", "_law_words_here", "_law_stems", "_law_spot", "_law_stem", "_law_tails", "_law_ending", "_law_tail", "_law_found", "_law_word", "_law_way"]) (sc := defScope s_l_words) (by decide +kernel)) (fun _ _ _ _ _ => pg_name (i := 5) sc_l_words.nd rfl (Or.inl rfl)) (fun _ _ _ _ _ => pts_nil) (fun _ _ _ _ _ => (pe_lc (own := [("_law_spot", 4)]) (g := (gName 4)) (tt := tYes) rfl sc_l_words.nd (pi_range1 (by rfl) T.n_range (pa_cons (pe_call (ok_l_pull T) (hr.mono (by decide)) (by rfl) T.g_l_pull T.f_l_pull.kp (b_l_pull T) .nil pass0 (pa_cons (pv 0) (pa_cons pe_int pa_nil))) pa_nil)) (blkOk_in (N := ["_law_ear_here", "_law_names", "_law_words_here", "_law_stems", "_law_spot", "_law_stem", "_law_tails", "_law_ending", "_law_tail", "_law_found", "_law_word", "_law_way"]) (by decide +kernel)) (fun _ _ _ _ _ => pg_name (i := 4) sc_l_words.nd rfl (Or.inl rfl)) (fun _ _ _ _ _ => pts_nil) (fun _ _ _ _ _ => (pe_call (ok_l_one T) (hr.mono (by decide)) (by rfl) T.g_l_one T.f_l_one.kp (b_l_one T) .nil pass0 (pa_cons (pv 0) (pa_cons (pv 1) pa_nil)))))))
      (pss_cons (ps_setLc (i := 6) (own := [("_law_ending", 7)]) (g := (gName 7)) (tt := tYes) (by rfl) sc_l_words.nd rfl rfl (sw_true rfl rfl rfl (by decide +kernel)) (pi_range1 (by rfl) T.n_range (pa_cons (pe_op op_add pe_int (pe_call (ok_l_pull T) (hr.mono (by decide)) (by rfl) T.g_l_pull T.f_l_pull.kp (b_l_pull T) .nil pass0 (pa_cons (pv 0) (pa_cons pe_int pa_nil)))) pa_nil)) (blkOk_by (N := ["_law_ear_here", "_law_names", "_law_words_here", "_law_stems", "_law_spot", "_law_stem", "_law_tails", "_law_ending", "_law_tail", "_law_found", "_law_word", "_law_way"]) (sc := defScope s_l_words) (by decide +kernel)) (fun _ _ _ _ _ => pg_name (i := 7) sc_l_words.nd rfl (Or.inl rfl)) (fun _ _ _ _ _ => pts_nil) (fun _ _ _ _ _ => (pe_lc (own := [("_law_spot", 4)]) (g := (gName 4)) (tt := tYes) rfl sc_l_words.nd (pi_range1 (by rfl) T.n_range (pa_cons (pe_call (ok_l_pull T) (hr.mono (by decide)) (by rfl) T.g_l_pull T.f_l_pull.kp (b_l_pull T) .nil pass0 (pa_cons (pv 0) (pa_cons pe_int pa_nil))) pa_nil)) (blkOk_in (N := ["_law_ear_here", "_law_names", "_law_words_here", "_law_stems", "_law_spot", "_law_stem", "_law_tails", "_law_ending", "_law_tail", "_law_found", "_law_word", "_law_way"]) (by decide +kernel)) (fun _ _ _ _ _ => pg_name (i := 4) sc_l_words.nd rfl (Or.inl rfl)) (fun _ _ _ _ _ => pts_nil) (fun _ _ _ _ _ => (pe_call (ok_l_one T) (hr.mono (by decide)) (by rfl) T.g_l_one T.f_l_one.kp (b_l_one T) .nil pass0 (pa_cons (pv 0) (pa_cons (pv 1) pa_nil)))))))
      (pss_cons (ps_for PassesOwn.never rfl (pi_list (pv 3)) (pg_name (i := 5) sc_l_words.nd rfl (.inr rfl))
        (pss_one (ps_expr (pe_bm PySem.F.plainAttrs_list PySem.F.slot_list_extend PySem.F.type_list_extend mt_extend (pv 2) (pa_cons (pe_lc (own := [("_law_tail", 8)]) (g := (gName 8)) (tt := tYes) rfl sc_l_words.nd (pi_list (pv 6)) (blkOk_by (N := ["_law_ear_here", "_law_names", "_law_words_here", "_law_stems", "_law_spot", "_law_stem", "_law_tails", "_law_ending", "_law_tail", "_law_found", "_law_word", "_law_way"]) (sc := defScope s_l_words) (by decide +kernel)) (fun _ _ _ _ _ => pg_name (i := 8) sc_l_words.nd rfl (Or.inl rfl)) (fun _ _ _ _ _ => pts_nil) (fun _ _ _ _ _ => (pe_op op_cat (pe_op op_cat (pv 5) (pe_lst (pa_cons (pe_call (ok_l_one T) (hr.mono (by decide)) (by rfl) T.g_l_one T.f_l_one.kp (b_l_one T) .nil pass0 (pa_cons (pv 0) (pa_cons (pv 1) pa_nil))) pa_nil))) (pv 8)))) pa_nil)))))
      (pss_cons (ps_set (i := 9) sc_l_words.nd rfl (.inl rfl) (pe_lst pa_nil))
      (pss_cons (ps_for PassesOwn.never rfl (pi_list (pv 2)) (pg_name (i := 10) sc_l_words.nd rfl (.inl rfl))
        (pss_cons (ps_set (i := 11) sc_l_words.nd rfl (.inl rfl) (pe_call (ok_l_pull T) (hr.mono (by decide)) (by rfl) T.g_l_pull T.f_l_pull.kp (b_l_pull T) .nil pass0 (pa_cons (pv 0) (pa_cons pe_int pa_nil))))
        (pss_cons (ps_if (pt_cmpR op_eq (pv 11) pe_int (nomark _))
          (pss_one (ps_setLc (i := 10) (own := [("_law_spot", 4)]) (g := (gName 4)) (tt := tYes) (by rfl) sc_l_words.nd rfl rfl (sw_true rfl rfl rfl (by decide +kernel)) (pi_range1 (by rfl) T.n_range (pa_cons (pe_op op_add pe_int (pe_call (ok_l_pull T) (hr.mono (by decide)) (by rfl) T.g_l_pull T.f_l_pull.kp (b_l_pull T) .nil pass0 (pa_cons (pv 0) (pa_cons pe_int pa_nil)))) pa_nil)) (blkOk_by (N := ["_law_ear_here", "_law_names", "_law_words_here", "_law_stems", "_law_spot", "_law_stem", "_law_tails", "_law_ending", "_law_tail", "_law_found", "_law_word", "_law_way"]) (sc := defScope s_l_words) (by decide +kernel)) (fun _ _ _ _ _ => pg_name (i := 4) sc_l_words.nd rfl (Or.inl rfl)) (fun _ _ _ _ _ => pts_nil) (fun _ _ _ _ _ => (pe_call (ok_l_one T) (hr.mono (by decide)) (by rfl) T.g_l_one T.f_l_one.kp (b_l_one T) .nil pass0 (pa_cons (pv 0) (pa_cons (pv 1) pa_nil))))))
          pss_nil)
        (pss_one (ps_set (i := 9) sc_l_words.nd rfl (.inl rfl) (pe_op op_cat (pv 9) (pe_ifExp (pt_cmpR op_eq (pv 11) pe_int (nomark _)) (pe_lst pa_nil) (pe_ifExp (pt_cmpR op_eq (pv 11) pe_int (nomark _)) (pe_lst (pa_cons (pv 10) (pa_cons (pv 10) pa_nil))) (pe_lst (pa_cons (pv 10) pa_nil))))))))))
      (pss_one (ps_ret (pe_slice sl_list (pv 9) po_none (po_some (pe_call (ok_l_one T) (hr.mono (by decide)) (by rfl) T.g_l_one T.f_l_one.kp (b_l_one T) .nil pass0 (pa_cons (pv 0) (pa_cons (pe_lst (pa_cons pe_int (pa_cons pe_int (pa_cons pe_int (pa_cons pe_int pa_nil))))) pa_nil))))))))))))), ?_⟩
    -- slots: [(0, '_law_ear_here'), (1, '_law_names'), (2, '_law_words_here'), (3, '_law_stems'), (4, '_law_spot'), (5, '_law_stem'), (6, '_law_tails'), (7, '_law_ending'), (8, '_law_tail'), (9, '_law_found'), (10, '_law_word'), (11, '_law_way')]
    obtain ⟨p, c, n, rfl, pen, hn, k⟩ := h
    -- the names
    let G : V → Hp → Prop := fun v H => ∃ (a : Addr) (nm : List V), v = .ref a ∧ a ≠ p ∧ H a = some (.lst nm) ∧ (∀ v ∈ nm, nameR v) ∧ 0 < nm.length ∧ nm.length ≤ 1000
    have gst : Stab G := fun v H H' ⟨a, nm, e, n, h, x⟩ ex => ⟨a, nm, e, n, ex _ _ h, x⟩
    have gof : ∀ v H1 H2, G v H1 → Off p H1 H2 → G v H2 := fun v H H' ⟨a, nm, e, n, h, x⟩ o => ⟨a, nm, e, n, o _ _ h n, x⟩
    have nmE : ∀ {vs : List V} {ta : TA} {σ' : L2.St} {H1 : Hp}, (∃ o, H1 p = some o) → EvA ta σ' H1 vs → vs.length ≤ 1000 → 0 < vs.length → (∀ v ∈ vs, nameR v) → EvP (tLst ta) σ' H1 G := fun hp h few pos all => evp_lstG hp h few fun a H1 n z _ => ⟨a, _, rfl, n, z, all, pos, few⟩
    have nr : ∀ z : Str, nameB z = true → nameR (.str z) := fun z h => ⟨z, rfl, h⟩
    have all2 : ∀ {a b : Str}, nameB a = true → nameB b = true → ∀ v ∈ [V.str a, .str b], nameR v := fun ha hb v hv => by
      simp only [List.mem_cons, List.not_mem_nil, or_false] at hv
      rcases hv with rfl | rfl
      · exact nr _ ha
      · exact nr _ hb
    refine open2 (run_oneG (m := 3) gof pen (by omega) (ev_var rfl) (lg_lst (G := G) gst (all_cons gst (nmE (vs := [.str "u", .str "k"]) pen.there (ea_cons ev_c (ea_cons ev_c ea_nil)) (by decide) (by decide) (all2 (by decide +kernel) (by decide +kernel))) (all_cons gst (nmE (vs := [.str "u", .str "k", .str "m"]) pen.there (ea_cons ev_c (ea_cons ev_c (ea_cons ev_c ea_nil))) (by decide) (by decide) ?_) (all_cons gst (nmE (vs := [.str "u", .str "v", .str "k9", .str "northernmost"]) pen.there (ea_cons ev_c (ea_cons ev_c (ea_cons ev_c (ea_cons ev_c ea_nil)))) (by decide) (by decide) ?_) all_nil))) (by decide)) (by decide) fun vn H1 gn off1 pen1 => ?_)
    · intro v hv
      simp only [List.mem_cons, List.not_mem_nil, or_false] at hv
      rcases hv with rfl | rfl | rfl <;> exact nr _ (by decide +kernel)
    · intro v hv
      simp only [List.mem_cons, List.not_mem_nil, or_false] at hv
      rcases hv with rfl | rfl | rfl | rfl <;> exact nr _ (by decide +kernel)
    obtain ⟨nl, nm, rfl, np, hnl, nms⟩ := gn
    refine (el_lst ea_nil (Nat.zero_le _)) H1 (Ex.refl H1) _ fun l2 H2 nl2 e2 hl2 => ⟨by show 2 ≤ sizeLine; decide, fun pt npt => ⟨pt, _, rfl, SqT.of upd_same, rfl, _, _, rfl, _, _, rfl, rfl, ?_⟩⟩
    have e3 := Ex.new (o := .tup [.ref nl, .ref l2]) npt
    have off3 := (off1.trans (Off.of e2)).trans (Off.of e3)
    have pen3 := (pen1.ex e2).ex e3
    have hnl3 := e3 _ _ (e2 _ _ hnl)
    have hl23 := e3 _ _ hl2
    have l2p : l2 ≠ p := (ne_of_none (pen_at pen1).choose_spec nl2).symm
    have l2n : l2 ≠ nl := (ne_of_none hnl nl2).symm
    have nl2H : H l2 = none := Off.back off1 (pen_at pen1).choose_spec nl2
    generalize upd H2 pt (.tup [.ref nl, .ref l2]) = H3 at off3 pen3 hnl3 hl23
    have pull3 : ∀ {σ' : L2.St} {H1 : Hp} {n1 : Nat} {m : Int} {N : List V → Hp → Prop}, σ'[0]? = some (some (.ref p)) → PenAt K n1 H1 p c → n1 ≤ 100000 → 0 < m → m < 100 → (∀ (d : Nat) H2, d < m.toNat → Off p H1 H2 → PenAt K (n1 + 1) H2 p c → N [.int (d : Nat)] H2) → tCons (tCall (spDraw K) [] E0 (tCons (tVar 0) (tCons (tC (V.int m)) tNil))) tNil σ' H1 N := fun {σ' H1 n1 m N} h0 pen hn m0 m1 k =>
      ⟨_, h0, p, c, m, n1, rfl, m0, by omega, pen, hn, fun d H2 d0 d1 off pen' => by
        obtain ⟨j, rfl⟩ := Int.eq_ofNat_of_zero_le d0
        exact k j H2 (by omega) off pen'⟩
    have pull1 : ∀ {σ' : L2.St} {H1 : Hp} {n1 : Nat} {m : Int} {N : List V → Hp → Prop}, σ'[0]? = some (some (.ref p)) → PenAt K n1 H1 p c → n1 ≤ 100000 → 0 < m → m < 100 → (∀ (d : Nat) H2, 1 ≤ d → d ≤ m.toNat → Off p H1 H2 → PenAt K (n1 + 1) H2 p c → N [.int (d : Nat)] H2) → tCons (tOp (rI0 fun i j => V.int (i + j)) (tC (V.int 1)) (tCall (spDraw K) [] E0 (tCons (tVar 0) (tCons (tC (V.int m)) tNil)))) tNil σ' H1 N := fun {σ' H1 n1 m N} h0 pen hn m0 m1 k =>
      ⟨_, h0, p, c, m, n1, rfl, m0, by omega, pen, hn, fun d H2 d0 d1 off pen' => ⟨1, d, rfl, rfl, by
        obtain ⟨j, rfl⟩ := Int.eq_ofNat_of_zero_le d0
        show N [.int ((1 : Int) + (j : Int))] H2
        rw [show (1 : Int) + (j : Int) = ((1 + j : Nat) : Int) by omega]
        exact k (1 + j) H2 (by omega) (by have z : (j : Int) < m := d1; omega) off pen'⟩⟩
    -- stems
    refine q_asgD (lc_penH (S := 3) (L := 1) (M := 3) (R := fun Dl v H' => LW [p, Dl, l2] 0 2 v H') (fun Dl v H1 H2 h o => h.st o (by simp)) (by decide) (fun N k => pull1 rfl pen3 (by omega) (by decide) (by decide) fun d H4 h1 h2 off pen => k d H4 h1 (by omega) off pen) (pen_at pen3) (fun _ => rfl) (fun Dl i k' H4 acc hi hk off4 pen4 hD hDl Q' q => ?_) fun xs3 l3 H4 L3 M3 all3 hl3 l3p nl3 off4 pen4 => ?_)
    · refine draw_names (L := 0) (M := 2) rfl rfl (off4 _ _ hnl3 np) np nms pen4 (by omega) (by decide) (fun N k => pull3 rfl pen4 (by omega) (by decide) (by decide) fun d H5 h1 off pen => k d H5 (Nat.zero_le _) (by omega) off pen) (fun _ => rfl) (fun _ => rfl) (fun _ => rfl) fun w a H5 _ h2 hw ha ap an off5 pen5 => q _ H5 ⟨a, w, rfl, ?_, ha, Nat.zero_le _, h2, hw⟩ off5 pen5
      have a2 : a ≠ l2 := (ne_of_none (off4 _ _ hl23 l2p) an).symm
      have aD : a ≠ Dl := (ne_of_none hDl an).symm
      simp [ap, a2, aD]
    have sub1 : ∀ {a b d : Addr}, ∀ x ∈ [p], x ∈ [p, a, b] := fun x hx => by rw [List.mem_singleton.mp hx]; exact List.mem_cons_self
    have hl24 := off4 _ _ hl23 l2p
    have hnl4 := off4 _ _ hnl3 np
    have l32 : l3 ≠ l2 := (ne_of_none hl23 nl3).symm
    refine q_asgD (lc_penH (S := 3) (L := 1) (M := 3) (R := fun Dl v H' => LW [p, Dl, l2] 0 2 v H') (fun Dl v H1 H2 h o => h.st o (by simp)) (by decide) (fun N k => pull1 rfl pen4 (by omega) (by decide) (by decide) fun d H4 h1 h2 off pen => k d H4 h1 (by omega) off pen) (pen_at pen4) (fun _ => rfl) (fun Dl i k' H5 acc hi hk off5 pen5 hD hDl Q' q => ?_) fun xs6 l6 H5 L6 M6 all6 hl6 l6p nl6 off5 pen5 => ?_)
    · refine draw_names (L := 0) (M := 2) rfl rfl (off5 _ _ hnl4 np) np nms pen5 (by omega) (by decide) (fun N k => pull3 rfl pen5 (by omega) (by decide) (by decide) fun d H5 h1 off pen => k d H5 (Nat.zero_le _) (by omega) off pen) (fun _ => rfl) (fun _ => rfl) (fun _ => rfl) fun w a H6 _ h2 hw ha ap an off6 pen6 => q _ H6 ⟨a, w, rfl, ?_, ha, Nat.zero_le _, h2, hw⟩ off6 pen6
      have a2 : a ≠ l2 := (ne_of_none (off5 _ _ hl24 l2p) an).symm
      have aD : a ≠ Dl := (ne_of_none hDl an).symm
      simp [ap, a2, aD]
    have l62 : l6 ≠ l2 := (ne_of_none hl24 nl6).symm
    have hl25 := off5 _ _ hl24 l2p
    have hnl5 := off5 _ _ hnl4 np
    have hl35 := off5 _ _ hl3 l3p
    have all35 : ∀ v ∈ xs3, LW [p, l2] 0 2 v H5 := fun v hv => ((all3 v hv).st (Off2.off off5) (by simp)).sub (by simp) (Nat.le_refl _) (Nat.le_refl _)
    have all65 : ∀ v ∈ xs6, LW [p, l2] 0 2 v H5 := fun v hv => (all6 v hv).sub (by simp) (Nat.le_refl _) (Nat.le_refl _)
    have keep : ∀ {H' : Hp} {a : Addr} {xs : List V}, Off2 [p, l2] H5 H' → a ≠ p → a ≠ l2 → H5 a = some (.lst xs) → H' a = some (.lst xs) := fun o h1 h2 h => o _ _ h (by simp [h1, h2]) fun _ z => nomatch z
    have pen5 : PenAt K (n + 21) H5 p c := pen5.mono (by omega)
    -- the words
    refine q_forLn (ev_var rfl) (SqL.of hl35) (fun i σ' H' => (∃ u5 u8, σ' = [some (.ref p), some (.ref nl), some (.ref l2), some (.ref l3), none, u5, some (.ref l6), none, u8, none, none, none]) ∧ (∃ acc, H' l2 = some (.lst acc) ∧ (∀ v ∈ acc, LW [p, l2] 1 6 v H') ∧ acc.length ≤ 3 * i) ∧ Off3 p l2 H5 H' ∧ PenAt K (n + 21 + 3 * i) H' p c ∧ ∀ q, H' q = none → H5 q = none) (fun H6 e6 => ⟨⟨_, _, rfl⟩, ⟨[], e6 _ _ hl25, fun v hv => (nomatch hv), Nat.le_refl _⟩, Off3.of e6, pen5.ex e6, fun q h => fresh_back e6 h⟩) (fun i σ' H' _ pv => SqL.of (keep pv.2.2.1.off2 l3p l32 hl35)) ?_ ?_
    · rintro i v σ' H6 hv ⟨⟨u5, u8, rfl⟩, ⟨acc, hacc, allA, lacc⟩, o6, pen6, bk6⟩
      have i3 : i < 3 := by have := (List.getElem?_eq_some_iff.mp hv).1; omega
      obtain ⟨sa, sw, rfl, sn, hsa, _, sl2, snm⟩ := (all35 v (List.mem_of_getElem? hv)).st o6.off2 (fun a h => h)
      have sap : sa ≠ p := fun e => sn (by simp [e])
      have sa2 : sa ≠ l2 := fun e => sn (by simp [e])
      have hl66 := keep o6.off2 l6p l62 hl6
      have hnl6 := keep o6.off2 np l2n.symm hnl5
      refine ⟨.ref l2, rfl, Or.inl ⟨rfl, acc, SqL.of hacc⟩, lc_penL (S := 1) (ys := xs6) (R := fun Dl v H => LW [p, Dl, l2] 1 6 v H) (fun Dl v H1 H2 h o => h.st o (by simp)) pen6 (by omega) (ev_var rfl) hl66 l6p (fun _ => rfl) (fun Dl j x k' H7 acc2 hx hk off7 pen7 hD hDl Q' q => ?_) fun xs l H7 lx allX hx lp nl7 off7 pen7 => ?_⟩
      · obtain ⟨ta, tw, rfl, tn, hta, _, tl2, tnm⟩ := ((all65 x (List.mem_of_getElem? hx)).st o6.off2 (fun a h => h)).st (Off2.off off7) (by simp)
        have hsa7 := off7 _ _ hsa sap
        have h27 := off7 _ _ hacc l2p
        refine op_go (op_go ⟨_, rfl, cons_go (run_name (i := 1) rfl rfl (off7 _ _ hnl6 np) np nms pen7 (by omega) fun nv H8 hnv off8 pen8 => ⟨by show 1 ≤ sizeLine; decide, fun b nb => ?_⟩)⟩)
        obtain ⟨nz, rfl, hnz⟩ := hnv
        have tap : ta ≠ p := fun e => tn (by simp [e])
        have e9 := Ex.new (o := .lst [.str nz]) nb
        refine ⟨sa, b, sV sw, [.str nz], rfl, rfl, e9 _ _ (off8 _ _ hsa7 sap), upd_same, sz_of (by rw [sV_len]; show sw.length + 1 ≤ 100000; omega), fun r nr => ⟨_, rfl, ?_⟩⟩
        have e10 := Ex.new (o := .lst (sV sw ++ [.str nz])) nr
        refine ⟨r, ta, _, sV tw, rfl, rfl, upd_same, e10 _ _ (e9 _ _ (off8 _ _ hta tap)), sz_of (by rw [List.length_append, sV_len, sV_len]; show sw.length + 1 + tw.length ≤ 100000; omega), fun r2 nr2 => q _ _ ⟨r2, sw ++ [nz] ++ tw, rfl, ?_, ?_, ?_, ?_, ?_⟩ (off8.trans (Off.of ((e9.trans e10).trans (Ex.new nr2)))) (((pen8.ex e9).ex e10).ex (Ex.new nr2))⟩
        · have z1 : r2 ≠ p := (ne_of_none (e10 _ _ (e9 _ _ (pen_at pen8).choose_spec)) nr2).symm
          have z2 : r2 ≠ Dl := (ne_of_none (e10 _ _ (e9 _ _ (off8 _ _ hDl ((ne_of_none (pen_at pen6).choose_spec hD).symm)))) nr2).symm
          have z3 : r2 ≠ l2 := (ne_of_none (e10 _ _ (e9 _ _ (off8 _ _ h27 l2p))) nr2).symm
          simp [z1, z2, z3]
        · rw [upd_same]
          unfold sV
          rw [List.map_append, List.map_append]
          rfl
        · rw [List.length_append, List.length_append]; show 1 ≤ sw.length + 1 + tw.length; omega
        · rw [List.length_append, List.length_append]; show sw.length + 1 + tw.length ≤ 6; omega
        · intro z hz
          rcases List.mem_append.mp hz with hz | hz
          · rcases List.mem_append.mp hz with hz | hz
            · exact snm z hz
            · rw [List.mem_singleton.mp hz]; exact hnz
          · exact tnm z hz
      · have h27 := off7 _ _ hacc l2p
        have oM : Off2 [p, l2] H7 (upd H7 l2 (.lst (acc ++ xs))) := (Off2.refl _ _).mut (by simp)
        refine ⟨l2, l, acc, xs, rfl, rfl, h27, hx, sz_of (by omega), ⟨_, _, rfl⟩, ⟨acc ++ xs, upd_same, fun v hv => ?_, by rw [List.length_append]; omega⟩, (o6.trans (Off3.off off7)).trans Off3.mut, ?_, fun q hq => ?_⟩
        · rcases List.mem_append.mp hv with hv | hv
          · exact ((allA v hv).st ((Off2.off off7).sub (W := [p, l2]) (by simp)) (fun a h => h)).st oM (fun a h => h)
          · exact (((allX v hv).sub (W := [p, l2]) (by simp) (Nat.le_refl _) (Nat.le_refl _))).st oM (fun a h => h)
        · have hm := PenAt.mut (o := .lst (acc ++ xs)) pen nl2H pen7
          exact hm.mono (by omega)
        · by_cases z : q = l2
          · rw [z, upd_same] at hq
            cases hq
          · rw [upd_ne z] at hq
            exact bk6 q (Off.back off7 (pen_at pen7).choose_spec hq)
    rintro σ' H6 ⟨⟨u5, u8, rfl⟩, ⟨aw, haw, allA, law⟩, o6, pen6, bk6⟩
    have hnl6 := keep o6.off2 np l2n.symm hnl5
    have pen6 : PenAt K (n + 30) H6 p c := pen6.mono (by omega)
    have law9 : aw.length ≤ 9 := by omega
    refine q_asgL (el_lst ea_nil (Nat.zero_le _)) fun fl H7 nfl e7 hfl => ?_
    have toH : ∀ {q : Addr}, H6 q = none → H q = none := fun {q} hq => Off.back (off3.trans (off4.trans off5)) (pen_at pen5).choose_spec (bk6 q hq)
    have toOff : ∀ {H' : Hp}, Off p H6 H' → Off p H H' := fun {H'} o a u ha np => by
      have h5 := (off3.trans (off4.trans off5)) a u ha np
      exact o a u (o6 a u h5 np (ne_of_none ha nl2H)) np
    have hw7 := e7 _ _ haw
    have pen7 := pen6.ex e7
    have hnl7 := e7 _ _ hnl6
    have allA7 : ∀ v ∈ aw, LW [p] 1 6 v H7 := fun v hv => ((allA v hv).st (Off2.of e7) (fun a h => h)).sub (by simp) (Nat.le_refl _) (Nat.le_refl _)
    refine q_forLn (ev_var rfl) (SqL.of hw7) (fun i σ' H' => (∃ u4 u5 u8 u10 u11 fl us, σ' = [some (.ref p), some (.ref nl), some (.ref l2), some (.ref l3), u4, u5, some (.ref l6), none, u8, some (.ref fl), u10, u11] ∧ fl ≠ p ∧ H' fl = some (.lst us) ∧ us.length ≤ 2 * i ∧ ∀ v ∈ us, LW [p] 1 6 v H') ∧ Off p H7 H' ∧ PenAt K (n + 30 + 8 * i) H' p c) (fun H8 e8 => ⟨⟨_, _, _, _, _, fl, [], rfl, (ne_of_none (pen_at pen6).choose_spec nfl).symm, e8 _ _ hfl, Nat.le_refl _, fun v hv => (nomatch hv)⟩, Off.of e8, pen7.ex e8⟩) (fun i σ' H' _ pv => SqL.of (pv.2.1 _ _ hw7 l2p)) ?_ ?_
    · rintro i v σ' H8 hv ⟨⟨u4, u5, u8, u10, u11, fl, us, rfl, flp, hfl8, lus, all8⟩, off8, pen8⟩
      have i9 : i < 9 := by have := (List.getElem?_eq_some_iff.mp hv).1; omega
      have hv8 := (allA7 v (List.mem_of_getElem? hv)).st (Off2.off off8) (by simp)
      refine q_asgD ⟨_, rfl, p, c, 12, n + 30 + 8 * i, rfl, by decide, by decide, pen8, by omega, fun d H9 d0 d1 off9 pen9 => ?_⟩
      -- what is put behind
      have rest : ∀ (D : Ends) (wv : V) (u4 : Option V) H10, (∀ σ' H', ((∃ u4 u5 u8 u10 u11 fl us, σ' = [some (.ref p), some (.ref nl), some (.ref l2), some (.ref l3), u4, u5, some (.ref l6), none, u8, some (.ref fl), u10, u11] ∧ fl ≠ p ∧ H' fl = some (.lst us) ∧ us.length ≤ 2 * (i + 1) ∧ ∀ v ∈ us, LW [p] 1 6 v H') ∧ Off p H7 H' ∧ PenAt K (n + 30 + 8 * (i + 1)) H' p c) → D.nx σ' H') → LW [p] 1 6 wv H10 → Off p H9 H10 → PenAt K (n + 30 + 8 * (i + 1)) H10 p c → tAsg (tOp rCat (tVar 9) (tIf (tTest (tOp rEq (tVar 11) (tC (V.int 1)))) (tLst tNil) (tIf (tTest (tOp rEq (tVar 11) (tC (V.int 2)))) (tLst (tCons (tVar 10) (tCons (tVar 10) tNil))) (tLst (tCons (tVar 10) tNil))))) (gName 9) D [some (.ref p), some (.ref nl), some (.ref l2), some (.ref l3), u4, u5, some (.ref l6), none, u8, some (.ref fl), some wv, some (.int d)] H10 := by
        intro D wv u4 H10 hD hwv off10 pen10
        have hfl10 := off10 _ _ (off9 _ _ hfl8 flp) flp
        refine s_asgL (xs := us ++ (if d = 1 then [] else if d = 2 then [wv, wv] else [wv])) (el_catN (ev_var rfl) hfl10 (el_if (b := decide (d = 1)) (et_test (ev_is (ev_op (ev_var rfl) ev_c (rv_eq rfl)) (congrArg V.bl (decide_eq_decide.mpr ⟨fun h => V.int.inj h, fun h => by rw [h]⟩)))) (fun h => ?_) (fun h => ?_)) ?_) fun r H11 nr e11 hr => hD _ _ ⟨⟨_, _, _, _, _, r, _, rfl, (ne_of_none (pen_at pen10).choose_spec nr).symm, hr, ?_, fun x hx => ?_⟩, ((off8.trans off9).trans off10).trans (Off.of e11), pen10.ex e11⟩
        · rw [if_pos (of_decide_eq_true h)]
          exact el_lst ea_nil (Nat.zero_le _)
        · rw [if_neg (of_decide_eq_false h)]
          refine el_if (b := decide (d = 2)) (et_test (ev_is (ev_op (ev_var rfl) ev_c (rv_eq rfl)) (congrArg V.bl (decide_eq_decide.mpr ⟨fun h => V.int.inj h, fun h => by rw [h]⟩)))) (fun h => ?_) (fun h => ?_)
          · rw [if_pos (of_decide_eq_true h)]
            exact el_lst (ea_cons (ev_var rfl) (ea_cons (ev_var rfl) ea_nil)) (by show 2 ≤ 100000; decide)
          · rw [if_neg (of_decide_eq_false h)]
            exact el_lst (ea_cons (ev_var rfl) ea_nil) (by show 1 ≤ 100000; decide)
        · by_cases h1 : d = 1
          · rw [if_pos h1]; show us.length + 0 ≤ 100000; omega
          · rw [if_neg h1]
            by_cases h2 : d = 2
            · rw [if_pos h2]; show us.length + 2 ≤ 100000; omega
            · rw [if_neg h2]; show us.length + 1 ≤ 100000; omega
        · rw [List.length_append]
          by_cases h1 : d = 1
          · rw [if_pos h1]; show us.length + 0 ≤ _; omega
          · rw [if_neg h1]
            by_cases h2 : d = 2
            · rw [if_pos h2]; show us.length + 2 ≤ _; omega
            · rw [if_neg h2]; show us.length + 1 ≤ _; omega
        · have o11 := (Off2.off (off9.trans off10)).trans (Off2.of e11)
          rcases List.mem_append.mp hx with hx | hx
          · exact (all8 x hx).st o11 (by simp)
          · have : x = wv := by
              by_cases h1 : d = 1
              · rw [if_pos h1] at hx; cases hx
              · rw [if_neg h1] at hx
                by_cases h2 : d = 2
                · rw [if_pos h2] at hx; simpa using hx
                · rw [if_neg h2] at hx; simpa using hx
            rw [this]
            exact hwv.st (Off2.of (Z := [p]) e11) (by simp)
      refine q_if (b := decide (d = 0)) (et_test (ev_is (ev_op (ev_var rfl) ev_c (rv_eq rfl)) (congrArg V.bl (decide_eq_decide.mpr ⟨fun h => V.int.inj h, fun h => by rw [h]⟩)))) (fun h H10 e10 => ?_) (fun h H10 e10 => ?_)
      · have o10 := off9.trans (Off.of e10)
        refine draw_names (L := 1) (M := 6) rfl rfl (e10 _ _ (off9 _ _ (off8 _ _ hnl7 np) np)) np nms (pen9.ex e10) (by omega) (by decide) (fun N k => pull1 rfl (pen9.ex e10) (by omega) (by decide) (by decide) fun d H5 h1 h2 off pen => k d H5 h1 (by omega) off pen) (fun _ => rfl) (fun _ => rfl) (fun _ => rfl) fun w a H11 h1 h2 hw ha ap an off11 pen11 => ?_
        dsimp only [gName]
        refine rest _ _ u4 H11 ?_ ⟨a, w, rfl, by simp [ap], ha, h1, h2, hw⟩ ((Off.of e10).trans off11) (pen11.mono (by omega))
        exact fun _ _ h => h
      · refine rest _ v u4 H10 ?_ ((hv8.st (Off2.off off9) (by simp)).st (Off2.of (Z := [p]) e10) (by simp)) (Off.of e10) ((pen9.ex e10).mono (by omega))
        exact fun _ _ h => h
    rintro σ' H8 ⟨⟨u4, u5, u8, u10, u11, fl, us, rfl, flp, hfl8, lus, all8⟩, off8, pen8⟩
    have pen8 : PenAt K (n + 102) H8 p c := pen8.mono (by omega)
    let G2 : V → Hp → Prop := fun v _ => v = .int 8 ∨ v = .int 5
    have g2s : Stab G2 := fun _ _ _ h _ => h
    refine ⟨_, rfl, run_oneG (G := G2) (m := 4) (fun _ _ _ h _ => h) pen8 (by omega) (ev_var rfl) (lg_lst g2s (all_cons g2s (evp_c fun _ _ => .inl rfl) (all_cons g2s (evp_c fun _ _ => .inl rfl) (all_cons g2s (evp_c fun _ _ => .inl rfl) (all_cons g2s (evp_c fun _ _ => .inr rfl) all_nil)))) (by decide)) (by decide) fun v H9 g9 off9 pen9 => ?_⟩
    have fin : ∀ m : Nat, m ≤ 8 → ∃ i : Int, V.int (m : Nat) = .int i ∧ rSlL K (.ref fl) none (some i) H9 Q := fun m hm => ⟨(m : Nat), rfl, fl, us, rfl, SqL.of (off9 _ _ hfl8 flp), fun r nr => by
      rw [cut_to]
      have e10 := Ex.new (o := .lst (us.take m)) nr
      have nH : H r = none := toH (fresh_back e7 (Off.back (off8.trans off9) (pen_at pen9).choose_spec nr))
      refine k r (us.take m) _ (toOff (((Off.of e7).trans (off8.trans off9)).trans (Off.of e10))) ((pen9.ex e10).mono (by omega)) (ne_of_none (pen_at pen9).choose_spec nr).symm nH upd_same (by rw [List.length_take]; omega) fun x hx => ?_
      exact ((all8 x (List.mem_of_mem_take hx)).st (Off2.off off9) (by simp)).st (Off2.of (Z := [p]) e10) (by simp)⟩
    rcases g9 with rfl | rfl
    · exact fin 8 (by decide)
    · exact fin 5 (by decide)
end
end K82
set_option Elab.async false
set_option linter.all false
set_option maxRecDepth 100000
set_option maxHeartbeats 4000000
set_option autoImplicit false
/-! the law's own squares are the program's; squares of words that are read from behind. -/
namespace K82
open PySem SortD
/-! ### rows once -/
theorem nodup_flat {α β : Type} (f : α → List β) (key : β → α) : ∀ {l : List α}, l.Nodup → (∀ x ∈ l, (f x).Nodup) → (∀ x ∈ l, ∀ b ∈ f x, key b = x) → (l.flatMap f).Nodup
  | [], _, _, _ => List.nodup_nil
  | x :: l, h, h1, h2 => by
    obtain ⟨hx, hl⟩ := List.nodup_cons.mp h
    rw [List.flatMap_cons]
    refine List.nodup_append.mpr ⟨h1 x List.mem_cons_self, nodup_flat f key hl (fun y hy => h1 y (List.mem_cons_of_mem _ hy)) (fun y hy => h2 y (List.mem_cons_of_mem _ hy)), fun a ha b hb e => ?_⟩
    subst e
    obtain ⟨y, hy, hay⟩ := List.mem_flatMap.mp hb
    have e1 := h2 x List.mem_cons_self a ha
    have e2 := h2 y (List.mem_cons_of_mem _ hy) a hay
    rw [e1] at e2
    exact hx (e2 ▸ hy)
theorem nodup_range (n : Nat) : (List.range n).Nodup := List.nodup_range
theorem nodup_oth (ws : List (List Str)) (w : Nat) : (othL ws w).Nodup := by
  unfold othL
  refine List.Pairwise.map _ (fun a b h => ?_) (List.nodup_range (n := ws.length - (w + 1)))
  omega
theorem mem_othL {ws : List (List Str)} {w z : Nat} : z ∈ othL ws w ↔ w < z ∧ z < ws.length := by
  constructor
  · exact mem_oth
  · intro ⟨h1, h2⟩
    unfold othL
    exact List.mem_map.mpr ⟨z - (w + 1), List.mem_range.mpr (by omega), by omega⟩
/-! ### what a square of four words is -/
/-- as the program says it -/
def SqP (W X Y Z : List Str) (b : Nat) : Prop := (beginsB X (W.take b) && !decide (X.drop (b + 1) = W.drop (b + 1))) = true ∧ (endsB Y (W.drop (b + 1)) && !decide (headF Y (W.drop (b + 1)) = W.take b)) = true ∧ isOfB Z (headF Y (W.drop (b + 1))) (X.drop (b + 1)) = true
/-- bodies h, h2, tails t, t2 -/
def SqC (W X Y Z : List Str) (b : Nat) : Prop := ∃ (h h2 t t2 : List Str) (s1 s2 s3 s4 : Str), W = h ++ s1 :: t ∧ X = h ++ s2 :: t2 ∧ Y = h2 ++ s3 :: t ∧ Z = h2 ++ s4 :: t2 ∧ h ≠ h2 ∧ t ≠ t2 ∧ b = h.length
theorem split_at {W : List Str} {b : Nat} (h : b < W.length) : W = W.take b ++ W[b] :: W.drop (b + 1) := by
  rw [List.getElem_cons_drop, List.take_append_drop]
theorem take_mid (h t : List Str) (s : Str) : (h ++ s :: t).take h.length = h := List.take_left
theorem drop_mid (h t : List Str) (s : Str) : (h ++ s :: t).drop (h.length + 1) = t := by
  rw [show h ++ s :: t = (h ++ [s]) ++ t by simp, show h.length + 1 = (h ++ [s]).length by simp, List.drop_left]
theorem len_mid (h t : List Str) (s : Str) : (h ++ s :: t).length = h.length + 1 + t.length := by
  rw [List.length_append, List.length_cons]
  omega
theorem sqP_iff {W X Y Z : List Str} {b : Nat} (hb : b < W.length) : SqP W X Y Z b ↔ SqC W X Y Z b := by
  constructor
  · rintro ⟨h1, h2, h3⟩
    obtain ⟨h1, h1n⟩ := Bool.and_eq_true_iff.mp h1
    obtain ⟨h2, h2n⟩ := Bool.and_eq_true_iff.mp h2
    unfold beginsB at h1
    obtain ⟨a1, a2⟩ := Bool.and_eq_true_iff.mp h1
    have a1 := of_decide_eq_true a1
    have a2 := of_decide_eq_true a2
    unfold endsB at h2
    obtain ⟨b1, b2⟩ := Bool.and_eq_true_iff.mp h2
    have b1 := of_decide_eq_true b1
    have b2 := of_decide_eq_true b2
    unfold isOfB beginsB endsB at h3
    obtain ⟨c0, h3⟩ := Bool.and_eq_true_iff.mp h3
    obtain ⟨h3, h4⟩ := Bool.and_eq_true_iff.mp h3
    obtain ⟨c1, c2⟩ := Bool.and_eq_true_iff.mp h3
    obtain ⟨d1, d2⟩ := Bool.and_eq_true_iff.mp h4
    have c0 := of_decide_eq_true c0
    have c1 := of_decide_eq_true c1
    have c2 := of_decide_eq_true c2
    have d1 := of_decide_eq_true d1
    have d2 := of_decide_eq_true d2
    have lh : (W.take b).length = b := by rw [List.length_take]; omega
    rw [lh] at a1 a2
    have hX : b < X.length := a1
    have lY : (headF Y (W.drop (b + 1))).length = Y.length - (W.drop (b + 1)).length - 1 := by unfold headF; rw [List.length_take]; omega
    have sY : Y.length - (W.drop (b + 1)).length - 1 < Y.length := by omega
    have sZ : (headF Y (W.drop (b + 1))).length < Z.length := c1
    refine ⟨W.take b, headF Y (W.drop (b + 1)), W.drop (b + 1), X.drop (b + 1), W[b], X[b], Y[Y.length - (W.drop (b + 1)).length - 1], Z[(headF Y (W.drop (b + 1))).length], split_at hb, ?_, ?_, ?_, ?_, ?_, lh.symm⟩
    · have z := split_at hX
      rw [a2] at z
      exact z
    · have z := split_at sY
      rw [show Y.length - (W.drop (b + 1)).length - 1 + 1 = Y.length - (W.drop (b + 1)).length by omega, b2] at z
      exact z
    · have z := split_at sZ
      rw [c2] at z
      rw [show (headF Y (W.drop (b + 1))).length + 1 = Z.length - (X.drop (b + 1)).length by omega, d2] at z
      exact z
    · intro e
      rw [e] at h2n
      simp at h2n
    · intro e
      rw [e] at h1n
      simp at h1n
  · rintro ⟨h, h2, t, t2, s1, s2, s3, s4, rfl, rfl, rfl, rfl, nh, nt, rfl⟩
    unfold SqP beginsB endsB headF isOfB beginsB endsB
    simp only [take_mid, drop_mid, len_mid]
    have e1 : h2.length + 1 + t.length - t.length - 1 = h2.length := by omega
    have e2 : h2.length + 1 + t.length - t.length = h2.length + 1 := by omega
    have e3 : h2.length + 1 + t2.length - t2.length = h2.length + 1 := by omega
    rw [e1, e2, take_mid, drop_mid, take_mid, e3, drop_mid]
    refine ⟨?_, ?_, ?_⟩
    · simp only [decide_true, Bool.and_true, Bool.and_eq_true, decide_eq_true_eq, Bool.not_eq_true', decide_eq_false_iff_not]
      exact ⟨by omega, fun e => nt e.symm⟩
    · simp only [decide_true, Bool.and_true, Bool.and_eq_true, decide_eq_true_eq, Bool.not_eq_true', decide_eq_false_iff_not]
      exact ⟨by omega, fun e => nh e.symm⟩
    · simp only [decide_true, Bool.and_true, Bool.and_eq_true, decide_eq_true_eq]
      exact ⟨trivial, by omega, by omega⟩
theorem sqC_lt {W X Y Z : List Str} {b : Nat} (h : SqC W X Y Z b) : b < W.length := by
  obtain ⟨h, h2, t, t2, s1, s2, s3, s4, rfl, rfl, rfl, rfl, nh, nt, rfl⟩ := h
  rw [len_mid]
  omega
theorem sqC_rev {W X Y Z : List Str} {b : Nat} (h : SqC W X Y Z b) : SqC W.reverse Y.reverse X.reverse Z.reverse (W.length - 1 - b) := by
  obtain ⟨h, h2, t, t2, s1, s2, s3, s4, rfl, rfl, rfl, rfl, nh, nt, rfl⟩ := h
  have e : ∀ (h t : List Str) (s : Str), (h ++ s :: t).reverse = t.reverse ++ s :: h.reverse := fun h t s => by simp
  refine ⟨t.reverse, t2.reverse, h.reverse, h2.reverse, s1, s3, s2, s4, e _ _ _, e _ _ _, e _ _ _, e _ _ _, fun q => nt (List.reverse_inj.mp q), fun q => nh (List.reverse_inj.mp q), ?_⟩
  rw [len_mid, List.length_reverse]
  omega
/-- as the law says it, a size s -/
def SqS (W X Y Z : List Str) (b s : Nat) : Prop := (b < min W.length X.length ∧ W.take b = X.take b ∧ W.drop (b + 1) ≠ X.drop (b + 1)) ∧ (s < Y.length ∧ Y.drop (s + 1) = W.drop (b + 1) ∧ Y.take s ≠ W.take b) ∧ (Z.take s = Y.take s ∧ Z.drop (s + 1) = X.drop (b + 1)) ∧ s < Z.length
theorem sqS_iff {W X Y Z : List Str} {b : Nat} : (∃ s, SqS W X Y Z b s) ↔ SqC W X Y Z b := by
  constructor
  · rintro ⟨s, ⟨h1, h2, h3⟩, ⟨g1, g2, g3⟩, ⟨f1, f2⟩, f3⟩
    have b1 : b < W.length := by omega
    have b2 : b < X.length := by omega
    refine ⟨W.take b, Y.take s, W.drop (b + 1), X.drop (b + 1), W[b], X[b], Y[s], Z[s], split_at b1, ?_, ?_, ?_, fun e => g3 e.symm, h3, by rw [List.length_take]; omega⟩
    · have z := split_at b2
      rw [← h2] at z
      exact z
    · have z := split_at g1
      rw [g2] at z
      exact z
    · have z := split_at f3
      rw [f1, f2] at z
      exact z
  · rintro ⟨h, h2, t, t2, s1, s2, s3, s4, rfl, rfl, rfl, rfl, nh, nt, rfl⟩
    refine ⟨h2.length, ⟨?_, ?_, ?_⟩, ⟨?_, ?_, ?_⟩, ⟨?_, ?_⟩, ?_⟩
    · rw [len_mid, len_mid]; omega
    · rw [take_mid, take_mid]
    · rw [drop_mid, drop_mid]; exact nt
    · rw [len_mid]; omega
    · rw [drop_mid, drop_mid]
    · rw [take_mid, take_mid]; exact fun e => nh e.symm
    · rw [take_mid, take_mid]
    · rw [drop_mid, drop_mid]
    · rw [len_mid]; omega
theorem sqS_one {W X Y Z : List Str} {b s s' : Nat} (h : SqS W X Y Z b s) (h' : SqS W X Y Z b s') : s = s' := by
  obtain ⟨_, ⟨a1, a2, _⟩, _⟩ := h
  obtain ⟨_, ⟨b1, b2, _⟩, _⟩ := h'
  have e1 := congrArg List.length a2
  have e2 := congrArg List.length b2
  rw [List.length_drop, List.length_drop] at e1 e2
  omega
/-! ### the program's rows -/
def Sq (ws : List (List Str)) (w x y z b : Nat) : Prop := w < x ∧ x < ws.length ∧ w < y ∧ y < ws.length ∧ w < z ∧ z < ws.length ∧ x ≠ y ∧ z ≠ x ∧ z ≠ y ∧ SqC (at_ ws w) (at_ ws x) (at_ ws y) (at_ ws z) b
def rowN (w x y z b : Nat) : List Int := [(w : Int), (x : Int), (y : Int), (z : Int), (b : Int)]
theorem rowN_inj {w x y z b w' x' y' z' b' : Nat} (h : rowN w x y z b = rowN w' x' y' z' b') : w = w' ∧ x = x' ∧ y = y' ∧ z = z' ∧ b = b' := by
  unfold rowN at h
  simp only [List.cons.injEq, and_true] at h
  omega
theorem mem_raw {ws : List (List Str)} {r : List Int} : r ∈ sqRaw ws ↔ ∃ w x y z b, r = rowN w x y z b ∧ Sq ws w x y z b := by
  unfold sqRaw rawW ofW ofB sqWith foundY ofY rowsL leftL matesL
  simp only [List.mem_flatMap, List.mem_range, List.mem_map]
  constructor
  · rintro ⟨w, hw, b, hb, ⟨x', y', z'⟩, ⟨i, hi, ht⟩, rfl⟩
    by_cases hc : condY ws w b (w + 1 + i) = true
    · rw [if_pos hc] at ht
      obtain ⟨x, hx, hz⟩ := List.mem_flatMap.mp ht
      obtain ⟨hxo, hxc⟩ := List.mem_filter.mp hx
      obtain ⟨z, hz2, e⟩ := List.mem_map.mp hz
      obtain ⟨hz3, hzo⟩ := List.mem_filter.mp hz2
      obtain ⟨hz4, hzl⟩ := List.mem_filter.mp hz3
      obtain ⟨e1, e23⟩ := Prod.mk.inj e
      obtain ⟨e2, e3⟩ := Prod.mk.inj e23
      subst e1 e2 e3
      obtain ⟨x1, x2⟩ := mem_othL.mp hxo
      obtain ⟨z1, z2⟩ := mem_othL.mp hz4
      unfold leftB at hzl
      obtain ⟨n1, n23⟩ := Bool.and_eq_true_iff.mp hzl
      obtain ⟨n2, n3⟩ := Bool.and_eq_true_iff.mp n23
      exact ⟨w, x, w + 1 + i, z, b, rfl, x1, x2, by omega, by omega, z1, z2, of_decide_eq_true n1, of_decide_eq_true n2, of_decide_eq_true n3, (sqP_iff hb).mp ⟨hxc, hc, hzo⟩⟩
    · rw [if_neg hc] at ht
      cases ht
  · rintro ⟨w, x, y, z, b, rfl, x1, x2, y1, y2, z1, z2, n1, n2, n3, sq⟩
    have hb := sqC_lt sq
    obtain ⟨p1, p2, p3⟩ := (sqP_iff hb).mpr sq
    refine ⟨w, by omega, b, hb, (x, y, z), ⟨y - (w + 1), by omega, ?_⟩, rfl⟩
    rw [show w + 1 + (y - (w + 1)) = y by omega, if_pos (show condY ws w b y = true from p2)]
    exact List.mem_flatMap.mpr ⟨x, List.mem_filter.mpr ⟨mem_othL.mpr ⟨x1, x2⟩, p1⟩, List.mem_map.mpr ⟨z, List.mem_filter.mpr ⟨List.mem_filter.mpr ⟨mem_othL.mpr ⟨z1, z2⟩, by unfold leftB; rw [decide_eq_true n1, decide_eq_true n2, decide_eq_true n3]; rfl⟩, p3⟩, rfl⟩⟩
def nth (r : List Int) (i : Nat) : Nat := (r.getD i 0).toNat
theorem nodup_raw (ws : List (List Str)) : (sqRaw ws).Nodup := by
  refine nodup_flat _ (fun r => nth r 0) (nodup_range _) (fun w _ => ?_) fun w _ r hr => ?_
  · refine nodup_flat _ (fun r => nth r 4) (nodup_range _) (fun b _ => ?_) fun b _ r hr => ?_
    · have key : (sqWith ws w b).Nodup := by
        refine nodup_flat _ (fun t : T3 => t.2.1 - (w + 1)) (nodup_range _) (fun i _ => ?_) fun i _ t ht => ?_
        · unfold ofY
          split
          · refine nodup_flat _ (fun t : T3 => t.1) ((nodup_oth ws w).filter _) (fun x _ => ?_) fun x _ t ht => ?_
            · refine List.Pairwise.map _ (fun a c h e => h ?_) (((nodup_oth ws w).filter _).filter _)
              exact (Prod.mk.inj (Prod.mk.inj e).2).2
            · obtain ⟨z, _, rfl⟩ := List.mem_map.mp ht
              rfl
          · exact List.nodup_nil
        · unfold ofY at ht
          split at ht
          · obtain ⟨x, _, h⟩ := List.mem_flatMap.mp ht
            obtain ⟨z, _, rfl⟩ := List.mem_map.mp h
            show w + 1 + i - (w + 1) = i
            omega
          · cases ht
      refine List.Pairwise.map _ (fun a c h e => h ?_) key
      have z := rowN_inj (w := w) (x := a.1) (y := a.2.1) (z := a.2.2) (b := b) (w' := w) (x' := c.1) (y' := c.2.1) (z' := c.2.2) (b' := b) e
      exact Prod.ext z.2.1 (Prod.ext z.2.2.1 z.2.2.2.1)
    · obtain ⟨t, _, rfl⟩ := List.mem_map.mp hr
      rfl
  · obtain ⟨b, _, h⟩ := List.mem_flatMap.mp hr
    obtain ⟨t, _, rfl⟩ := List.mem_map.mp h
    rfl
/-! ### the law's rows -/
section
variable (ws : List (List Str))
def sizesL (w b y : Nat) : List Nat := (List.range (at_ ws y).length).filter fun s => decide ((at_ ws y).drop (s + 1) = (at_ ws w).drop (b + 1)) && !decide ((at_ ws y).take s = (at_ ws w).take b)
def fitsL (w x b y z : Nat) : List Nat := (sizesL ws w b y).filter fun s => decide ((at_ ws z).take s = (at_ ws y).take s) && decide ((at_ ws z).drop (s + 1) = (at_ ws x).drop (b + 1))
def rowZ (w x b y z : Nat) : List (List Int) := ((fitsL ws w x b y z).filter fun s => decide (s < (at_ ws z).length)).map fun _ => rowN w x y z b
def zL (w x y : Nat) : List Nat := (othL ws w).filter fun z => !decide (z = x) && !decide (z = y)
def fY (w x b y : Nat) : List (List Int) := (zL ws w x y).flatMap (rowZ ws w x b y)
def yL (w x : Nat) : List Nat := (othL ws w).filter fun y => !decide (y = x)
def fB (w x b : Nat) : List (List Int) := (yL ws w x).flatMap (fY ws w x b)
def bL (w x : Nat) : List Nat := (List.range (min (at_ ws w).length (at_ ws x).length)).filter fun s => decide ((at_ ws w).take s = (at_ ws x).take s) && !decide ((at_ ws w).drop (s + 1) = (at_ ws x).drop (s + 1))
def fX (w x : Nat) : List (List Int) := (bL ws w x).flatMap (fB ws w x)
def fW (w : Nat) : List (List Int) := (othL ws w).flatMap (fX ws w)
def dueRaw : List (List Int) := (List.range ws.length).flatMap (fW ws)
end
theorem mem_rowZ {ws : List (List Str)} {w x b y z : Nat} {r : List Int} : r ∈ rowZ ws w x b y z ↔ r = rowN w x y z b ∧ ∃ s, (s < (at_ ws y).length ∧ (at_ ws y).drop (s + 1) = (at_ ws w).drop (b + 1) ∧ (at_ ws y).take s ≠ (at_ ws w).take b) ∧ ((at_ ws z).take s = (at_ ws y).take s ∧ (at_ ws z).drop (s + 1) = (at_ ws x).drop (b + 1)) ∧ s < (at_ ws z).length := by
  unfold rowZ fitsL sizesL
  simp only [List.mem_map, List.mem_filter, List.mem_range, Bool.and_eq_true, decide_eq_true_eq, Bool.not_eq_true', decide_eq_false_iff_not]
  constructor
  · rintro ⟨s, ⟨⟨⟨h1, h2, h3⟩, h4, h5⟩, h6⟩, rfl⟩
    exact ⟨rfl, s, ⟨h1, h2, h3⟩, ⟨h4, h5⟩, h6⟩
  · rintro ⟨rfl, s, ⟨h1, h2, h3⟩, ⟨h4, h5⟩, h6⟩
    exact ⟨s, ⟨⟨⟨h1, h2, h3⟩, h4, h5⟩, h6⟩, rfl⟩
theorem mem_due {ws : List (List Str)} {r : List Int} : r ∈ dueRaw ws ↔ ∃ w x y z b, r = rowN w x y z b ∧ Sq ws w x y z b := by
  unfold dueRaw fW fX fB fY
  simp only [List.mem_flatMap, List.mem_range, mem_rowZ]
  constructor
  · rintro ⟨w, hw, x, hx, b, hb, y, hy, z, hz, rfl, s, g, f, f3⟩
    obtain ⟨x1, x2⟩ := mem_othL.mp hx
    unfold bL at hb
    obtain ⟨b1, b2⟩ := List.mem_filter.mp hb
    have b1 := List.mem_range.mp b1
    obtain ⟨b2, b3⟩ := Bool.and_eq_true_iff.mp b2
    have b2 := of_decide_eq_true b2
    have b3 : ¬ (at_ ws w).drop (b + 1) = (at_ ws x).drop (b + 1) := by simpa using b3
    unfold yL at hy
    obtain ⟨y1, y3⟩ := List.mem_filter.mp hy
    obtain ⟨y1, y2⟩ := mem_othL.mp y1
    have y3 : ¬ y = x := by simpa using y3
    unfold zL at hz
    obtain ⟨z1, z3⟩ := List.mem_filter.mp hz
    obtain ⟨z1, z2⟩ := mem_othL.mp z1
    have z3 : ¬ z = x ∧ ¬ z = y := by simpa using z3
    exact ⟨w, x, y, z, b, rfl, x1, x2, y1, y2, z1, z2, fun e => y3 e.symm, z3.1, z3.2, sqS_iff.mp ⟨s, ⟨b1, b2, b3⟩, g, f, f3⟩⟩
  · rintro ⟨w, x, y, z, b, rfl, x1, x2, y1, y2, z1, z2, n1, n2, n3, sq⟩
    obtain ⟨s, ⟨b1, b2, b3⟩, g, f, f3⟩ := sqS_iff.mpr sq
    refine ⟨w, by omega, x, mem_othL.mpr ⟨x1, x2⟩, b, ?_, y, ?_, z, ?_, rfl, s, g, f, f3⟩
    · unfold bL
      exact List.mem_filter.mpr ⟨List.mem_range.mpr b1, by rw [decide_eq_true b2, decide_eq_false b3]; rfl⟩
    · unfold yL
      exact List.mem_filter.mpr ⟨mem_othL.mpr ⟨y1, y2⟩, by rw [decide_eq_false (fun e => n1 e.symm)]; rfl⟩
    · unfold zL
      exact List.mem_filter.mpr ⟨mem_othL.mpr ⟨z1, z2⟩, by rw [decide_eq_false n2, decide_eq_false n3]; rfl⟩
theorem nodup_one {α : Type} {l : List Nat} (r : α) (hn : l.Nodup) (h : ∀ s ∈ l, ∀ s' ∈ l, s = s') : (l.map fun _ => r).Nodup := by
  match l, hn, h with
  | [], _, _ => exact List.nodup_nil
  | [a], _, _ => simp
  | a :: b :: l, hn, h =>
    exfalso
    have e := h a List.mem_cons_self b (List.mem_cons_of_mem _ List.mem_cons_self)
    exact (List.nodup_cons.mp hn).1 (e ▸ List.mem_cons_self)
theorem nodup_due (ws : List (List Str)) : (dueRaw ws).Nodup := by
  refine nodup_flat _ (fun r => nth r 0) (nodup_range _) (fun w _ => ?_) fun w _ r hr => ?_
  · refine nodup_flat _ (fun r => nth r 1) (nodup_oth ws w) (fun x _ => ?_) fun x _ r hr => ?_
    · refine nodup_flat _ (fun r => nth r 4) ((nodup_range _).filter _) (fun b _ => ?_) fun b _ r hr => ?_
      · refine nodup_flat _ (fun r => nth r 2) ((nodup_oth ws w).filter _) (fun y _ => ?_) fun y _ r hr => ?_
        · refine nodup_flat _ (fun r => nth r 3) ((nodup_oth ws w).filter _) (fun z _ => ?_) fun z _ r hr => ?_
          · refine nodup_one _ ((((nodup_range _).filter _).filter _).filter _) fun s hs s' hs' => ?_
            have key : ∀ s, s ∈ (fitsL ws w x b y z).filter (fun s => decide (s < (at_ ws z).length)) → s < (at_ ws y).length ∧ (at_ ws y).drop (s + 1) = (at_ ws w).drop (b + 1) := fun s hs => by
              unfold fitsL sizesL at hs
              simp only [List.mem_filter, List.mem_range, Bool.and_eq_true, decide_eq_true_eq] at hs
              exact ⟨hs.1.1.1, hs.1.1.2.1⟩
            obtain ⟨a1, a2⟩ := key s hs
            obtain ⟨b1, b2⟩ := key s' hs'
            have e1 := congrArg List.length a2
            have e2 := congrArg List.length b2
            rw [List.length_drop, List.length_drop] at e1 e2
            omega
          · rw [(mem_rowZ.mp hr).1]; rfl
        · obtain ⟨z, _, h⟩ := List.mem_flatMap.mp hr
          rw [(mem_rowZ.mp h).1]; rfl
      · obtain ⟨y, _, h⟩ := List.mem_flatMap.mp hr
        obtain ⟨z, _, h⟩ := List.mem_flatMap.mp h
        rw [(mem_rowZ.mp h).1]; rfl
    · obtain ⟨b, _, h⟩ := List.mem_flatMap.mp hr
      obtain ⟨y, _, h⟩ := List.mem_flatMap.mp h
      obtain ⟨z, _, h⟩ := List.mem_flatMap.mp h
      rw [(mem_rowZ.mp h).1]; rfl
  · obtain ⟨x, _, h⟩ := List.mem_flatMap.mp hr
    obtain ⟨b, _, h⟩ := List.mem_flatMap.mp h
    obtain ⟨y, _, h⟩ := List.mem_flatMap.mp h
    obtain ⟨z, _, h⟩ := List.mem_flatMap.mp h
    rw [(mem_rowZ.mp h).1]; rfl
/-- the law's rows, sorted, are the program's -/
theorem due_eq (ws : List (List Str)) : sortB rowD (dueRaw ws) = sqRows ws :=
  sort_rows ((List.perm_ext_iff_of_nodup (nodup_due ws) (nodup_raw ws)).mpr fun r => mem_due.trans mem_raw.symm)
/-! ### words read from behind -/
def flipR (ws : List (List Str)) (r : List Int) : List Int := [r.getD 0 0, r.getD 2 0, r.getD 1 0, r.getD 3 0, ((at_ ws (nth r 0)).length : Int) - 1 - r.getD 4 0]
theorem at_rev (ws : List (List Str)) (i : Nat) : at_ (ws.map List.reverse) i = (at_ ws i).reverse := by
  unfold at_
  rw [List.getD_eq_getElem?_getD, List.getD_eq_getElem?_getD, List.getElem?_map]
  cases ws[i]? <;> rfl
theorem flip_row (ws : List (List Str)) {w x y z b : Nat} (hb : b < (at_ ws w).length) : flipR ws (rowN w x y z b) = rowN w y x z ((at_ ws w).length - 1 - b) := by
  show [(w : Int), (y : Int), (x : Int), (z : Int), ((at_ ws (Int.toNat w)).length : Int) - 1 - (b : Int)] = _
  unfold rowN
  rw [Int.toNat_natCast]
  simp only [List.cons.injEq, and_true, true_and]
  omega
theorem sq_rev {ws : List (List Str)} {w x y z b : Nat} (h : Sq ws w x y z b) : Sq (ws.map List.reverse) w y x z ((at_ ws w).length - 1 - b) := by
  obtain ⟨h1, h2, h3, h4, h5, h6, n1, n2, n3, sq⟩ := h
  refine ⟨h3, by rw [List.length_map]; exact h4, h1, by rw [List.length_map]; exact h2, h5, by rw [List.length_map]; exact h6, fun e => n1 e.symm, n3, n2, ?_⟩
  rw [at_rev, at_rev, at_rev, at_rev]
  exact sqC_rev sq
theorem rev_rev (ws : List (List Str)) : (ws.map List.reverse).map List.reverse = ws := by
  rw [List.map_map]
  have : (List.reverse ∘ List.reverse : List Str → List Str) = id := funext fun x => List.reverse_reverse x
  rw [this, List.map_id]
theorem behind_eq (ws : List (List Str)) : sortB rowD ((sqRows ws).map (flipR ws)) = sqRows (ws.map List.reverse) := by
  refine sort_rows ((List.perm_ext_iff_of_nodup ?_ (nodup_raw _)).mpr fun r => ?_)
  · refine List.Nodup.perm ?_ ((sortB_perm rowD (sqRaw ws)).map (flipR ws)).symm
    have inj : ∀ a ∈ sqRaw ws, ∀ c ∈ sqRaw ws, flipR ws a = flipR ws c → a = c := by
      intro a ha c hc e
      obtain ⟨w, x, y, z, b, rfl, s1⟩ := mem_raw.mp ha
      obtain ⟨w', x', y', z', b', rfl, s2⟩ := mem_raw.mp hc
      have hb := sqC_lt s1.2.2.2.2.2.2.2.2.2
      have hb' := sqC_lt s2.2.2.2.2.2.2.2.2.2
      rw [flip_row ws hb, flip_row ws hb'] at e
      obtain ⟨rfl, rfl, rfl, rfl, e5⟩ := rowN_inj e
      have : b = b' := by omega
      rw [this]
    have gen : ∀ l : List (List Int), l.Nodup → (∀ a ∈ l, ∀ c ∈ l, flipR ws a = flipR ws c → a = c) → (l.map (flipR ws)).Nodup := by
      intro l hn hi
      induction l with
      | nil => exact List.nodup_nil
      | cons a l ih =>
        obtain ⟨h1, h2⟩ := List.nodup_cons.mp hn
        rw [List.map_cons]
        refine List.nodup_cons.mpr ⟨fun hm => ?_, ih h2 fun a ha c hc => hi a (List.mem_cons_of_mem _ ha) c (List.mem_cons_of_mem _ hc)⟩
        obtain ⟨c, hc, e⟩ := List.mem_map.mp hm
        exact h1 (hi a List.mem_cons_self c (List.mem_cons_of_mem _ hc) e.symm ▸ hc)
    exact gen _ (nodup_raw ws) inj
  · rw [List.mem_map]
    constructor
    · rintro ⟨a, ha, rfl⟩
      obtain ⟨w, x, y, z, b, rfl, sq⟩ := mem_raw.mp ((sortB_perm rowD (sqRaw ws)).mem_iff.mp ha)
      rw [flip_row ws (sqC_lt sq.2.2.2.2.2.2.2.2.2)]
      exact mem_raw.mpr ⟨w, y, x, z, _, rfl, sq_rev sq⟩
    · intro hr
      obtain ⟨w, x, y, z, b, rfl, sq⟩ := mem_raw.mp hr
      have hb := sqC_lt sq.2.2.2.2.2.2.2.2.2
      have z0 := sq_rev sq
      rw [rev_rev, at_rev, List.length_reverse] at z0
      rw [at_rev, List.length_reverse] at hb
      refine ⟨rowN w y x z ((at_ ws w).length - 1 - b), (sortB_perm rowD (sqRaw ws)).mem_iff.mpr (mem_raw.mpr ⟨w, y, x, z, _, rfl, z0⟩), ?_⟩
      rw [flip_row ws (by omega)]
      congr 1
      omega
end K82
set_option Elab.async false
set_option linter.all false
set_option maxRecDepth 100000
set_option maxHeartbeats 4000000
set_option autoImplicit false
/-! loops that put rows of ints behind one list; comprehensions over ranges; min of two ints. -/
namespace He
open PySem PySem.Spec PyProof.Rows L2 Evl
/-- the list of these rows -/
def FL (H : Hp) (fl : Addr) (rows : List (List Int)) : Prop := ∃ us, H fl = some (.lst us) ∧ Each TupI H rows us
theorem FL.ex {H H' : Hp} {fl : Addr} {rows : List (List Int)} (h : FL H fl rows) (e : Ex H H') : FL H' fl rows := let ⟨us, a, b⟩ := h; ⟨us, e _ _ a, b.ex tupI_st (ExN.of e)⟩
theorem FL.there {H : Hp} {fl : Addr} {rows : List (List Int)} (h : FL H fl rows) : ∃ us, H fl = some (.lst us) := let ⟨us, a, b⟩ := h; ⟨us, a⟩
theorem off_ex {fl : Addr} {H0 H H' : Hp} (e : Ex H0 H) (o : Off fl H H') (n : H0 fl = none) : Ex H0 H' := fun a u h => o a u (e a u h) (ne_of_none h n)
theorem off_exN {fl : Addr} {H H' : Hp} {us : List V} (o : Off fl H H') (h : H fl = some (.lst us)) : ExN H H' := fun a u ha nl => o a u ha fun e => by
  subst e
  rw [h] at ha
  exact nl us (Option.some.inj ha).symm
section
variable {K : PySem.W.Frag} {σ : L2.St} {H : Hp} {te tl ta' tb : TE} {ta : TA} {tu tz : TS} {t : TT} {D : Ends} {fl : Addr} {rows : List (List Int)} {M : Nat}
def intV (x : Nat) : V := .int (x : Nat)
theorem take_flat {β : Type} {xs : List Nat} {f : Nat → List β} {i x : Nat} (h : xs[i]? = some x) : (xs.take (i + 1)).flatMap f = (xs.take i).flatMap f ++ f x := by
  rw [List.take_succ, h, List.flatMap_append]
  simp
theorem few_flat {β : Type} (xs : List Nat) (f : Nat → List β) (i : Nat) : ((xs.take i).flatMap f).length ≤ (xs.flatMap f).length := by
  have e : xs.flatMap f = (xs.take i).flatMap f ++ (xs.drop i).flatMap f := by rw [← List.flatMap_append, List.take_append_drop]
  rw [e, List.length_append]
  omega
/-- for x in [..]: rows of x -/
theorem s_flatNL {xs : List Nat} {f : Nat → List (List Int)} {B : L2.St → Prop} {j : Nat} (h : EvL tl σ H (xs.map intV)) (hB : B σ) (hr : FL H fl rows) (few : rows.length + (xs.flatMap f).length ≤ M)
    (body : ∀ x ∈ xs, ∀ (D' : Ends) (σ' : L2.St) (H' : Hp) (rows' : List (List Int)), B σ' → Off fl H H' → FL H' fl rows' → rows'.length + (f x).length ≤ M → (∀ σ2 H2, B σ2 → Off fl H' H2 → FL H2 fl (rows' ++ f x) → D'.nx σ2 H2) → D'.nx = D'.ct → tu D' (σ'.set j (some (.int (x : Nat)))) H')
    (q : ∀ σ' H', B σ' → Off fl H H' → FL H' fl (rows ++ xs.flatMap f) → D.nx σ' H') : tFor (iList K tl) (gName j) tu D σ H := by
  refine s_forNL h (fun p i σ' H' => B σ' ∧ Off fl H H' ∧ H' p = some (.lst (xs.map intV)) ∧ p ≠ fl ∧ FL H' fl (rows ++ (xs.take i).flatMap f)) (fun p H1 hp e h1 => ?_) (fun p i σ' H' _ z => SqL.of z.2.2.1) (fun p i v σ' H' hv z => ?_) (fun p σ' H' z => ?_)
  · obtain ⟨us, hu⟩ := hr.there
    refine ⟨hB, Off.of e, h1, (ne_of_none hu hp).symm, ?_⟩
    rw [List.take_zero, List.flatMap_nil, List.append_nil]
    exact hr.ex e
  · obtain ⟨b1, o1, p1, n1, r1⟩ := z
    rw [List.getElem?_map] at hv
    obtain ⟨x, hx, rfl⟩ := Option.map_eq_some_iff.mp hv
    have e1 := take_flat (f := f) hx
    have l1 := few_flat xs f (i + 1)
    refine body x (List.mem_of_getElem? hx) _ σ' H' _ b1 o1 r1 ?_ (fun σ2 H2 b2 o2 r2 => ⟨b2, o1.trans o2, o2 _ _ p1 n1, n1, ?_⟩) rfl
    · rw [e1, List.length_append] at l1
      rw [List.length_append]
      omega
    · rw [e1, ← List.append_assoc]
      exact r2
  · obtain ⟨b1, o1, p1, n1, r1⟩ := z
    rw [show (xs.map intV).length = xs.length from List.length_map _, List.take_length] at r1
    exact q σ' H' b1 o1 r1
/-- for x in range(lo, hi): rows of x -/
theorem s_flatR2 {lo hi : Nat} {f : Nat → List (List Int)} {B : L2.St → Prop} {j : Nat} (h : EvA ta σ H [.int (lo : Nat), .int (hi : Nat)]) (hb : lo ≤ 40000 ∧ hi ≤ 40000) (hB : B σ) (hr : FL H fl rows) (few : rows.length + ((((List.range (hi - lo)).map fun i => lo + i)).flatMap f).length ≤ M)
    (body : ∀ x ∈ ((List.range (hi - lo)).map fun i => lo + i), ∀ (D' : Ends) (σ' : L2.St) (H' : Hp) (rows' : List (List Int)), B σ' → Off fl H H' → FL H' fl rows' → rows'.length + (f x).length ≤ M → (∀ σ2 H2, B σ2 → Off fl H' H2 → FL H2 fl (rows' ++ f x) → D'.nx σ2 H2) → D'.nx = D'.ct → tu D' (σ'.set j (some (.int (x : Nat)))) H')
    (q : ∀ σ' H', B σ' → Off fl H H' → FL H' fl (rows ++ (((List.range (hi - lo)).map fun i => lo + i)).flatMap f) → D.nx σ' H') : tFor (iRng2 ta) (gName j) tu D σ H := by
  generalize hxs : ((List.range (hi - lo)).map fun i => lo + i) = xs at few body q
  have lx : xs.length = hi - lo := by rw [← hxs, List.length_map, List.length_range]
  have gx : ∀ i, i < hi - lo → xs[i]? = some (lo + i) := fun i hi2 => by rw [← hxs, List.getElem?_map, List.getElem?_range hi2]; rfl
  refine h H (Ex.refl H) _ fun H1 e => ⟨_, _, rfl, ⟨by omega, by omega, by omega, by omega⟩, ?_⟩
  have e0 : (((hi : Nat) : Int) - ((lo : Nat) : Int)).toNat = hi - lo := by omega
  rw [e0]
  refine for_range (lo := ((lo : Nat) : Int)) (n := hi - lo) (fun i σ' H' => B σ' ∧ Off fl H H' ∧ FL H' fl (rows ++ (xs.take i).flatMap f)) ⟨hB, Off.of e, ?_⟩ (fun i σ' H' hi2 z => ?_) (fun σ' H' z => ?_)
  · rw [List.take_zero, List.flatMap_nil, List.append_nil]
    exact hr.ex e
  · obtain ⟨b1, o1, r1⟩ := z
    have hx := gx i hi2
    have e1 := take_flat (f := f) hx
    have l1 := few_flat xs f (i + 1)
    have z := body (lo + i) (List.mem_of_getElem? hx) { D with nx := fun σ' H' => B σ' ∧ Off fl H H' ∧ FL H' fl (rows ++ (xs.take (i + 1)).flatMap f), ct := fun σ' H' => B σ' ∧ Off fl H H' ∧ FL H' fl (rows ++ (xs.take (i + 1)).flatMap f), bk := D.nx } σ' H' _ b1 o1 r1 (by
      rw [e1, List.length_append] at l1
      rw [List.length_append]
      omega) (fun σ2 H2 b2 o2 r2 => ⟨b2, o1.trans o2, by
        rw [e1, ← List.append_assoc]
        exact r2⟩) rfl
    rw [show (((lo + i : Nat)) : Int) = ((lo : Nat) : Int) + (i : Nat) by omega] at z
    exact z
  · obtain ⟨b1, o1, r1⟩ := z
    rw [← lx, List.take_length] at r1
    exact q σ' H' b1 o1 r1
theorem q_enumI {i j k n : Nat} {l : Addr} {xs : List V} (hn : n = 2) (hv : σ[k]? = some (some (.ref l))) (hl : SqL K H l xs) (Pv : Nat → L2.St → Hp → Prop) (h0 : Pv 0 σ H) (hk : ∀ m σ' H', m ≤ xs.length → Pv m σ' H' → SqL K H' l xs)
    (hs : ∀ (m : Nat) (v : V) (σ' : L2.St) (H' H'' : Hp), xs[m]? = some v → Pv m σ' H' → Ex H' H'' → tu { D with nx := Pv (m + 1), ct := Pv (m + 1), bk := tz D } ((σ'.set i (some (.int (m : Nat)))).set j (some v)) H'') (hd : ∀ σ' H', Pv xs.length σ' H' → tz D σ' H') :
    tSeq (tFor (iEnum K (tCons (tVar k) tNil)) (gTup K n (gCons (gName i) (gCons (gName j) gNil))) tu) tz D σ H := by
  subst hn
  refine ⟨_, hv, l, xs, rfl, hl, ?_⟩
  refine for_it (walk_enum (K := K) (xs := xs)) Pv h0 hk ?_ hd
  rintro m y σ' H' H'' hi hp ⟨T, y1, y2, rfl, hT, rfl, hy1, hy2⟩
  obtain rfl : V.int (m : Nat) = y1 := Option.some.inj hy1
  refine ⟨T, _, rfl, SqT.of upd_same, rfl, _, _, rfl, _, _, rfl, rfl, ?_⟩
  exact hs m y2 σ' H' _ hy2 hp (Ex.new hT)
/-- for w, one in enumerate(xs): rows of w -/
theorem q_flatEn {xs : List V} {l : Addr} {f : Nat → List (List Int)} {B : L2.St → Prop} {i j k n : Nat} (hn : n = 2) (hv : σ[k]? = some (some (.ref l))) (hl : SqL K H l xs) (nl : l ≠ fl) (hB : B σ) (hr : FL H fl rows) (few : rows.length + ((List.range xs.length).flatMap f).length ≤ M)
    (body : ∀ (m : Nat) (v : V), xs[m]? = some v → ∀ (D' : Ends) (σ' : L2.St) (H' : Hp) (rows' : List (List Int)), B σ' → Off fl H H' → FL H' fl rows' → rows'.length + (f m).length ≤ M → (∀ σ2 H2, B σ2 → Off fl H' H2 → FL H2 fl (rows' ++ f m) → D'.nx σ2 H2) → D'.nx = D'.ct → tu D' ((σ'.set i (some (.int (m : Nat)))).set j (some v)) H')
    (q : ∀ σ' H', B σ' → Off fl H H' → FL H' fl (rows ++ (List.range xs.length).flatMap f) → tz D σ' H') : tSeq (tFor (iEnum K (tCons (tVar k) tNil)) (gTup K n (gCons (gName i) (gCons (gName j) gNil))) tu) tz D σ H := by
  refine q_enumI hn hv hl (fun i σ' H' => B σ' ∧ Off fl H H' ∧ FL H' fl (rows ++ (List.range i).flatMap f)) ⟨hB, Off.refl _ _, ?_⟩ (fun m σ' H' _ z => z.2.1.sq nl hl) (fun m v σ' H' H2 hm z e2 => ?_) (fun σ' H' z => q σ' H' z.1 z.2.1 z.2.2)
  · rw [show List.range 0 = [] from rfl, List.flatMap_nil, List.append_nil]
    exact hr
  · obtain ⟨b1, o1, r1⟩ := z
    have e1 : (List.range (m + 1)).flatMap f = (List.range m).flatMap f ++ f m := by rw [List.range_succ, List.flatMap_append]; simp
    have hm2 := (List.getElem?_eq_some_iff.mp hm).1
    have l1 := few_flat (List.range xs.length) f (m + 1)
    rw [List.take_range, Nat.min_eq_left (by omega)] at l1
    refine body m v hm _ σ' H2 _ b1 (o1.trans (Off.of e2)) (r1.ex e2) ?_ (fun σ2 H3 b2 o2 r2 => ⟨b2, (o1.trans (Off.of e2)).trans o2, ?_⟩) rfl
    · rw [e1, List.length_append] at l1
      rw [List.length_append]
      omega
    · rw [e1, ← List.append_assoc]
      exact r2
/-- found.extend(rows) -/
theorem s_extend {k : Nat} {ys : List (List Int)} (hv : σ[k]? = some (some (.ref fl))) (hr : FL H fl rows) (few : rows.length + ys.length ≤ 100000) (h : EvLP te σ H TupI ys) (q : ∀ H', Off fl H H' → FL H' fl (rows ++ ys) → D.nx σ H') : tDrop (tBM K "list" rExtend (tVar k) (tCons te tNil)) D σ H := by
  obtain ⟨us, hu, each⟩ := hr
  refine ⟨.ref fl, hv, Or.inl ⟨rfl, us, SqL.of hu⟩, h H (Ex.refl H) _ fun p vs H2 np e2 hp all => ⟨fl, p, us, vs, rfl, rfl, e2 _ _ hu, hp, sz_of (by rw [← each.len, ← all.len]; exact few), ?_⟩⟩
  have hu2 := e2 _ _ hu
  have n2 : ExN H2 (upd H2 fl (.lst (us ++ vs))) := ExN.upd hu2
  exact q _ ((Off.of e2).upd) ⟨_, upd_same, ((each.ex tupI_st (ExN.of e2)).ex tupI_st n2).app (all.ex tupI_st n2)⟩
/-- [x for x in range(n) if t] -/
theorem el_lcR1 {n j : Nat} {vs : List Nat} (b : Nat → Bool) (h : EvA ta σ H [.int (n : Nat)]) (hb : n ≤ 40000) (hw : ∀ x, wipe ((wipe σ vs).set j (some x)) vs = wipe σ vs) (hj : ∀ x, ((wipe σ vs).set j (some x))[j]? = some (some x))
    (ht : ∀ (i : Nat) H1, Ex H H1 → i < n → EvT t ((wipe σ vs).set j (some (.int (i : Nat)))) H1 (b i)) : EvL (tLc (iRng1 ta) (gName j) t (tVar j) vs) σ H (((List.range n).filter b).map intV) :=
  el_lcW (J := Itr 0 n) (n := n) (G := fun _ => True) (ys := fun i x => x = .int ((0 : Int) + (i : Nat))) b intV walk_range (fun H1 e R q => h H1 e _ fun H2 e2 => ⟨(n : Nat), rfl, by omega, by omega, q H2 e2 trivial⟩) (fun _ _ _ _ => trivial) (by omega) hw (fun i x H1 e hi hy => by
    subst hy
    rw [Int.zero_add]
    exact ht i H1 e hi) (fun i x H1 e hi hy hf => by
    subst hy
    rw [Int.zero_add]
    exact ev_var (hj _))
theorem given_from {lo m : Nat} (f : Nat → Bool) : given m (fun i => f (lo + i)) (fun i => intV (lo + i)) = (((List.range m).map fun i => lo + i).filter f).map intV := by
  unfold given
  rw [List.filter_map, List.map_map]
  rfl
/-- [x for x in range(lo, hi) if t] -/
theorem el_lcR2 {lo hi j : Nat} {vs : List Nat} (b : Nat → Bool) (h : EvA ta σ H [.int (lo : Nat), .int (hi : Nat)]) (hb : lo ≤ 40000 ∧ hi ≤ 40000) (hw : ∀ x, wipe ((wipe σ vs).set j (some x)) vs = wipe σ vs) (hj : ∀ x, ((wipe σ vs).set j (some x))[j]? = some (some x))
    (ht : ∀ (x : Nat) H1, Ex H H1 → lo ≤ x → x < hi → EvT t ((wipe σ vs).set j (some (.int (x : Nat)))) H1 (b x)) : EvL (tLc (iRng2 ta) (gName j) t (tVar j) vs) σ H ((((List.range (hi - lo)).map fun i => lo + i).filter b).map intV) := by
  rw [← given_from]
  have e0 : (((hi : Nat) : Int) - ((lo : Nat) : Int)).toNat = hi - lo := by omega
  refine el_lcW (J := Itr ((lo : Nat) : Int) (hi - lo)) (n := hi - lo) (G := fun _ => True) (ys := fun i x => x = .int (((lo : Nat) : Int) + (i : Nat))) _ _ walk_range (fun H1 e R q => h H1 e _ fun H2 e2 => ⟨_, _, rfl, ⟨by omega, by omega, by omega, by omega⟩, by rw [e0]; exact q H2 e2 trivial⟩) (fun _ _ _ _ => trivial) (by omega) hw (fun i x H1 e hi hy => ?_) (fun i x H1 e hi hy hf => ?_)
  · subst hy
    have z := ht (lo + i) H1 e (by omega) (by omega)
    rw [show (((lo + i : Nat)) : Int) = ((lo : Nat) : Int) + (i : Nat) by omega] at z
    exact z
  · subst hy
    exact ev_is (ev_var (hj _)) (by show V.int _ = V.int _; congr 1)
/-- [x for x in xs if t], xs of ints -/
theorem el_lcIs {a : Addr} {xs : List Nat} {j : Nat} {vs : List Nat} (b : Nat → Bool) (h : Ev tl σ H (.ref a)) (ha : SqL K H a (xs.map intV)) (hz : xs.length ≤ 40000) (hw : ∀ x, wipe ((wipe σ vs).set j (some x)) vs = wipe σ vs) (hj : ∀ x, ((wipe σ vs).set j (some x))[j]? = some (some x))
    (ht : ∀ (x : Nat) H1, Ex H H1 → x ∈ xs → EvT t ((wipe σ vs).set j (some (.int (x : Nat)))) H1 (b x)) : EvL (tLc (iList K tl) (gName j) t (tVar j) vs) σ H ((xs.filter b).map intV) := by
  have e0 : given xs.length (fun i => b (xs.getD i 0)) (fun i => intV (xs.getD i 0)) = (xs.filter b).map intV := by
    have e1 : xs = (List.range xs.length).map fun i => xs.getD i 0 := by
      refine List.ext_getElem? fun i => ?_
      rw [List.getElem?_map]
      by_cases hi : i < xs.length
      · rw [List.getElem?_range hi, List.getElem?_eq_getElem hi, Option.map_some, List.getD_eq_getElem?_getD, List.getElem?_eq_getElem hi]
        rfl
      · rw [List.getElem?_eq_none (by omega), List.getElem?_eq_none (by rw [List.length_range]; omega)]
        rfl
    unfold given
    conv => rhs; rw [e1]
    rw [List.filter_map, List.map_map]
    rfl
  rw [← e0]
  refine el_lcW (J := Itl K a) (n := xs.length) (G := fun H => SqL K H a (xs.map intV)) (ys := fun i x => (xs.map intV)[i]? = some x) _ _ (by have := @walk_list K a (xs.map intV); rwa [List.length_map] at this) (fun H1 e R q => h H1 e _ fun H2 e2 => ⟨a, rfl, ⟨_, ex_l (e.trans e2) ha⟩, q H2 e2 (ex_l (e.trans e2) ha)⟩) (fun H1 H2 g e => ex_l e g) hz hw (fun i x H1 e hi hy => ?_) (fun i x H1 e hi hy _ => ?_)
  · rw [List.getElem?_map] at hy
    obtain ⟨y, hy2, rfl⟩ := Option.map_eq_some_iff.mp hy
    rw [List.getD_eq_getElem?_getD, hy2]
    exact ht y H1 e (List.mem_of_getElem? hy2)
  · rw [List.getElem?_map] at hy
    obtain ⟨y, hy2, rfl⟩ := Option.map_eq_some_iff.mp hy
    rw [List.getD_eq_getElem?_getD, hy2]
    exact ev_var (hj _)
theorem ev_min2 {i j : Nat} {tq : TA} (h : EvA tq σ H [.int (i : Nat), .int (j : Nat)]) : Ev (tCB (fun xs H Q => ∃ i j : Int, xs = [V.int i, V.int j] ∧ Q (V.int (if j < i then j else i)) H) tq) σ H (.int (min i j : Nat)) := fun H1 e Q q =>
  h H1 e _ fun H2 e2 => ⟨_, _, rfl, by
    have : (if ((j : Nat) : Int) < (i : Nat) then ((j : Nat) : Int) else (i : Nat)) = ((min i j : Nat) : Int) := by split <;> omega
    rw [this]
    exact q H2 e2⟩
end
end He
set_option Elab.async false
set_option linter.all false
set_option maxRecDepth 100000
set_option maxHeartbeats 4000000
set_option autoImplicit false
namespace K82
open PySem PySem.Spec PyProof.Rows L2 He Evl SortD Odd
/-- a list of lists of texts -/
def WordsE (H : Hp) (l : Addr) (ws : List (List Str)) : Prop := ∃ as : List Addr, H l = some (.lst (as.map V.ref)) ∧ as.length = ws.length ∧ ∀ (i : Nat) (a : Addr) (w : List Str), as[i]? = some a → ws[i]? = some w → H a = some (.lst (sV w))
theorem WordsE.ex {H H' : Hp} {l : Addr} {ws : List (List Str)} (h : WordsE H l ws) (e : Ex H H') : WordsE H' l ws := let ⟨as, h1, h2, h3⟩ := h; ⟨as, e _ _ h1, h2, fun i a w x y => e _ _ (h3 i a w x y)⟩
theorem WordsE.at {K : PySem.W.Frag} {H : Hp} {l : Addr} {ws : List (List Str)} (h : WordsE H l ws) {x : Nat} (hx : x < ws.length) : ∃ a, H a = some (.lst (sV (at_ ws x))) ∧ ∀ {σ : L2.St} {H' : Hp} {ta tb : TE}, Ex H H' → Ev ta σ H' (.ref l) → Ev tb σ H' (.int (x : Nat)) → Ev (tOp (rIxL K) ta tb) σ H' (.ref a) := by
  obtain ⟨as, h1, h2, h3⟩ := h
  have hx2 : x < as.length := by omega
  refine ⟨as[x], h3 x _ _ (List.getElem?_eq_getElem hx2) (by unfold at_; rw [List.getD_eq_getElem?_getD, List.getElem?_eq_getElem hx]; rfl), fun e ha hb => ev_op ha hb (rv_ixL (SqL.of (e _ _ h1)) (atI_nat (by rw [List.getElem?_map, List.getElem?_eq_getElem hx2]; rfl)))⟩
theorem due_len {ws : List (List Str)} (h : okW ws) : (dueRaw ws).length ≤ 24576 := by
  have z := ((List.perm_ext_iff_of_nodup (nodup_due ws) (nodup_raw ws)).mpr fun r => mem_due.trans mem_raw.symm).length_eq
  have y := rawW_len h ws.length (Nat.le_refl _)
  have := h.1
  have e : (sqRaw ws).length = (rawW ws ws.length).length := rfl
  omega
def spDue (K : PySem.W.Frag) : Sp := fun vs H Q _ => ∃ (l : Addr) (ws : List (List Str)), vs = [.ref l] ∧ WordsE H l ws ∧ okW ws ∧ ∀ r us H', H r = none → Ex H H' → H' r = some (.lst us) → Each TupI H' (sqRows ws) us → Q (.ref r) H'
section
variable {P : Program} {w : World} {K : PySem.W.Frag} {mg : Str → Option Value} {base : Heap}
theorem b_l_due (T : Tx K mg) : Binds K (fdOf K ("_law_due", none)) ["_law_words_here"] [] := T.f_l_due.bindsN fun _ _ _ _ _ _ us hl => match us, hl with | [_], _ => rfl
theorem ok_l_due (T : Tx K mg) : FnOk P w K mg base CX0 2 (ga K "_law_due") (fdOf K ("_law_due", none)) ["_law_words_here"] (spDue K) := by
  refine T.f_l_due.ok sc_l_due (fun vs H Q E h => ?_) (fun cdv A outer s H vs Q E hr h => ?_)
  · obtain ⟨l, ws, rfl, _⟩ := h
    rfl
  · have hu : (A.deeper (envOfC "_law_due" (defScope s_l_due) s.heap.objs.size (ga K "_law_due") cdv)).units + 10 < cLine := by have := hr.un; omega
    refine ⟨_, PSs.nox (pss_cons (ps_set (i := 1) sc_l_due.nd rfl (.inl rfl) (pe_lst pa_nil))
      (pss_cons (ps_for PassesOwn.never rfl (pi_enum (by rfl) T.n_enumerate (pa_cons (pv 0) pa_nil)) (pg_tup rfl (pgs_cons (pg_name (i := 2) sc_l_due.nd rfl (.inr rfl)) (pgs_cons (pg_name (i := 3) sc_l_due.nd rfl (.inr rfl)) pgs_nil)))
        (pss_one (ps_for PassesOwn.never rfl (pi_range2 (by rfl) T.n_range (pa_cons (pe_op op_add (pv 2) pe_int) (pa_cons (pe_callB call_len (by rfl) T.n_len boot_len (pa_cons (pv 0) pa_nil)) pa_nil))) (pg_name (i := 4) sc_l_due.nd rfl (.inr rfl))
          (pss_one (ps_for PassesOwn.never rfl (pi_list (pe_lc (own := [("_law_size", 6)]) (g := (gName 6)) (tt := (tAnd (tTest (tOp (rEqL K) (tSl (rSlL K) (tVar 3) tNoPart (tPart (tVar 6))) (tSl (rSlL K) (tOp (rIxL K) (tVar 0) (tVar 4)) tNoPart (tPart (tVar 6))))) (tTest (tOp (rNeL K) (tSl (rSlL K) (tVar 3) (tPart (tOp (rI0 fun i j => V.int (i + j)) (tVar 6) (tC (V.int 1)))) tNoPart) (tSl (rSlL K) (tOp (rIxL K) (tVar 0) (tVar 4)) (tPart (tOp (rI0 fun i j => V.int (i + j)) (tVar 6) (tC (V.int 1)))) tNoPart))))) rfl sc_l_due.nd (pi_range1 (by rfl) T.n_range (pa_cons (pe_callB (call_min2 rfl) (by rfl) T.n_min (by decide +kernel) (pa_cons (pe_callB call_len (by rfl) T.n_len boot_len (pa_cons (pv 3) pa_nil)) (pa_cons (pe_callB call_len (by rfl) T.n_len boot_len (pa_cons (pe_ix ix_list (pv 0) (pv 4) (fun _ _ => rfl)) pa_nil)) pa_nil))) pa_nil)) (blkOk_by (N := ["_law_words_here", "_law_found", "_law_w", "_law_one_here", "_law_x", "_law_body", "_law_size", "_law_y", "_law_at", "_law_sizes", "_law_z", "_law_fits"]) (sc := defScope s_l_due) (by decide +kernel)) (fun _ _ _ _ _ => pg_name (i := 6) sc_l_due.nd rfl (Or.inl rfl)) (fun _ _ _ _ _ => pts_one (PW.pt (pw_and (pt_cmpR (op_eqL hr.units0) (pe_slice sl_list (pv 3) po_none (po_some (pv 6))) (pe_slice sl_list (pe_ix ix_list (pv 0) (pv 4) (fun _ _ => rfl)) po_none (po_some (pv 6))) (nomark _)) (pw_and1 (pt_cmpR (op_neL hr.units0) (pe_slice sl_list (pv 3) (po_some (pe_op op_add (pv 6) pe_int)) po_none) (pe_slice sl_list (pe_ix ix_list (pv 0) (pv 4) (fun _ _ => rfl)) (po_some (pe_op op_add (pv 6) pe_int)) po_none) (nomark _)))))) (fun _ _ _ _ _ => (pv 6)))) (pg_name (i := 5) sc_l_due.nd rfl (.inr rfl))
            (pss_one (ps_for PassesOwn.never rfl (pi_list (pe_lc (own := [("_law_at", 8)]) (g := (gName 8))  rfl sc_l_due.nd (pi_range2 (by rfl) T.n_range (pa_cons (pe_op op_add (pv 2) pe_int) (pa_cons (pe_callB call_len (by rfl) T.n_len boot_len (pa_cons (pv 0) pa_nil)) pa_nil))) (blkOk_by (N := ["_law_words_here", "_law_found", "_law_w", "_law_one_here", "_law_x", "_law_body", "_law_size", "_law_y", "_law_at", "_law_sizes", "_law_z", "_law_fits"]) (sc := defScope s_l_due) (by decide +kernel)) (fun _ _ _ _ _ => pg_name (i := 8) sc_l_due.nd rfl (Or.inl rfl)) (fun _ _ _ _ _ => pts_one (pt_cmpR op_ne (pv 8) (pv 4) (nomark _))) (fun _ _ _ _ _ => (pv 8)))) (pg_name (i := 7) sc_l_due.nd rfl (.inr rfl))
              (pss_cons (ps_setLc (i := 9) (own := [("_law_size", 6)]) (g := (gName 6)) (tt := (tAnd (tTest (tOp (rEqL K) (tSl (rSlL K) (tOp (rIxL K) (tVar 0) (tVar 7)) (tPart (tOp (rI0 fun i j => V.int (i + j)) (tVar 6) (tC (V.int 1)))) tNoPart) (tSl (rSlL K) (tVar 3) (tPart (tOp (rI0 fun i j => V.int (i + j)) (tVar 5) (tC (V.int 1)))) tNoPart))) (tTest (tOp (rNeL K) (tSl (rSlL K) (tOp (rIxL K) (tVar 0) (tVar 7)) tNoPart (tPart (tVar 6))) (tSl (rSlL K) (tVar 3) tNoPart (tPart (tVar 5))))))) (by rfl) sc_l_due.nd rfl rfl (sw_true rfl rfl rfl (by decide +kernel)) (pi_range1 (by rfl) T.n_range (pa_cons (pe_callB call_len (by rfl) T.n_len boot_len (pa_cons (pe_ix ix_list (pv 0) (pv 7) (fun _ _ => rfl)) pa_nil)) pa_nil)) (blkOk_by (N := ["_law_words_here", "_law_found", "_law_w", "_law_one_here", "_law_x", "_law_body", "_law_size", "_law_y", "_law_at", "_law_sizes", "_law_z", "_law_fits"]) (sc := defScope s_l_due) (by decide +kernel)) (fun _ _ _ _ _ => pg_name (i := 6) sc_l_due.nd rfl (Or.inl rfl)) (fun _ _ _ _ _ => pts_one (PW.pt (pw_and (pt_cmpR (op_eqL hr.units0) (pe_slice sl_list (pe_ix ix_list (pv 0) (pv 7) (fun _ _ => rfl)) (po_some (pe_op op_add (pv 6) pe_int)) po_none) (pe_slice sl_list (pv 3) (po_some (pe_op op_add (pv 5) pe_int)) po_none) (nomark _)) (pw_and1 (pt_cmpR (op_neL hr.units0) (pe_slice sl_list (pe_ix ix_list (pv 0) (pv 7) (fun _ _ => rfl)) po_none (po_some (pv 6))) (pe_slice sl_list (pv 3) po_none (po_some (pv 5))) (nomark _)))))) (fun _ _ _ _ _ => (pv 6)))
              (pss_one (ps_for PassesOwn.never rfl (pi_list (pe_lc (own := [("_law_at", 8)]) (g := (gName 8)) (tt := (tTest (tOp (rIn K true) (tVar 8) (tTup (tCons (tVar 4) (tCons (tVar 7) tNil)))))) rfl sc_l_due.nd (pi_range2 (by rfl) T.n_range (pa_cons (pe_op op_add (pv 2) pe_int) (pa_cons (pe_callB call_len (by rfl) T.n_len boot_len (pa_cons (pv 0) pa_nil)) pa_nil))) (blkOk_by (N := ["_law_words_here", "_law_found", "_law_w", "_law_one_here", "_law_x", "_law_body", "_law_size", "_law_y", "_law_at", "_law_sizes", "_law_z", "_law_fits"]) (sc := defScope s_l_due) (by decide +kernel)) (fun _ _ _ _ _ => pg_name (i := 8) sc_l_due.nd rfl (Or.inl rfl)) (fun _ _ _ _ _ => pts_one (pt_cmpR op_notIn_seq (pv 8) (pe_tup (pa_cons (pv 4) (pa_cons (pv 7) pa_nil))) (by rfl))) (fun _ _ _ _ _ => (pv 8)))) (pg_name (i := 10) sc_l_due.nd rfl (.inr rfl))
                (pss_cons (ps_setLc (i := 11) (own := [("_law_size", 6)]) (g := (gName 6)) (tt := (tAnd (tTest (tOp (rEqL K) (tSl (rSlL K) (tOp (rIxL K) (tVar 0) (tVar 10)) tNoPart (tPart (tVar 6))) (tSl (rSlL K) (tOp (rIxL K) (tVar 0) (tVar 7)) tNoPart (tPart (tVar 6))))) (tTest (tOp (rEqL K) (tSl (rSlL K) (tOp (rIxL K) (tVar 0) (tVar 10)) (tPart (tOp (rI0 fun i j => V.int (i + j)) (tVar 6) (tC (V.int 1)))) tNoPart) (tSl (rSlL K) (tOp (rIxL K) (tVar 0) (tVar 4)) (tPart (tOp (rI0 fun i j => V.int (i + j)) (tVar 5) (tC (V.int 1)))) tNoPart))))) (by rfl) sc_l_due.nd rfl rfl (sw_true rfl rfl rfl (by decide +kernel)) (pi_list (pv 9)) (blkOk_by (N := ["_law_words_here", "_law_found", "_law_w", "_law_one_here", "_law_x", "_law_body", "_law_size", "_law_y", "_law_at", "_law_sizes", "_law_z", "_law_fits"]) (sc := defScope s_l_due) (by decide +kernel)) (fun _ _ _ _ _ => pg_name (i := 6) sc_l_due.nd rfl (Or.inl rfl)) (fun _ _ _ _ _ => pts_one (PW.pt (pw_and (pt_cmpR (op_eqL hr.units0) (pe_slice sl_list (pe_ix ix_list (pv 0) (pv 10) (fun _ _ => rfl)) po_none (po_some (pv 6))) (pe_slice sl_list (pe_ix ix_list (pv 0) (pv 7) (fun _ _ => rfl)) po_none (po_some (pv 6))) (nomark _)) (pw_and1 (pt_cmpR (op_eqL hr.units0) (pe_slice sl_list (pe_ix ix_list (pv 0) (pv 10) (fun _ _ => rfl)) (po_some (pe_op op_add (pv 6) pe_int)) po_none) (pe_slice sl_list (pe_ix ix_list (pv 0) (pv 4) (fun _ _ => rfl)) (po_some (pe_op op_add (pv 5) pe_int)) po_none) (nomark _)))))) (fun _ _ _ _ _ => (pv 6)))
                (pss_one (ps_expr (pe_bm PySem.F.plainAttrs_list PySem.F.slot_list_extend PySem.F.type_list_extend mt_extend (pv 1) (pa_cons (pe_lc (own := [("_law_size", 6)]) (g := (gName 6)) (tt := (tTest (tOp (rI0 fun i j => V.bl (decide (j < i))) (tCB (fun xs H Q => ∃ x n, xs = [x] ∧ LenV K x H n ∧ Q (V.int n) H) (tCons (tOp (rIxL K) (tVar 0) (tVar 10)) tNil)) (tVar 6)))) rfl sc_l_due.nd (pi_list (pv 11)) (blkOk_by (N := ["_law_words_here", "_law_found", "_law_w", "_law_one_here", "_law_x", "_law_body", "_law_size", "_law_y", "_law_at", "_law_sizes", "_law_z", "_law_fits"]) (sc := defScope s_l_due) (by decide +kernel)) (fun _ _ _ _ _ => pg_name (i := 6) sc_l_due.nd rfl (Or.inl rfl)) (fun _ _ _ _ _ => pts_one (pt_cmpR op_gt (pe_callB call_len (by rfl) T.n_len boot_len (pa_cons (pe_ix ix_list (pv 0) (pv 10) (fun _ _ => rfl)) pa_nil)) (pv 6) (nomark _))) (fun _ _ _ _ _ => (pe_tup (pa_cons (pv 2) (pa_cons (pv 4) (pa_cons (pv 7) (pa_cons (pv 10) (pa_cons (pv 5) pa_nil)))))))) pa_nil)))))))))))))))
      (pss_one (ps_ret (pe_callB (cr_sortR (R := TupI) (enc := rowD) hu) (by rfl) T.n_sorted (by decide +kernel) (pa_cons (pv 1) pa_nil)))))), ?_⟩
    -- slots: [(0, '_law_words_here'), (1, '_law_found'), (2, '_law_w'), (3, '_law_one_here'), (4, '_law_x'), (5, '_law_body'), (6, '_law_size'), (7, '_law_y'), (8, '_law_at'), (9, '_law_sizes'), (10, '_law_z'), (11, '_law_fits')]
    obtain ⟨l, ws, rfl, hW, ok, k⟩ := h
    have lenD := due_len ok
    obtain ⟨w8, wl⟩ := id ok
    have sl : ∀ u : List Str, (sV u).length = u.length := sV_len
    obtain ⟨as, hl, las, has⟩ := id hW
    refine q_asgL (el_lst ea_nil (Nat.zero_le _)) fun fl H1 nfl e1 hfl => ?_
    have nl : l ≠ fl := ne_of_none hl nfl
    have lenW : ∀ {σ' : L2.St} {H' : Hp}, Ex H H' → σ'[0]? = some (some (.ref l)) → Ev (tCB (rLenV K) (tCons (tVar 0) tNil)) σ' H' (.int (ws.length : Nat)) := fun e h => ev_is (ev_lenQ (ev_var h) (.inl (SqL.of (e _ _ hl)))) (by rw [List.length_map, las])
    have rngW : ∀ {σ' : L2.St} {H' : Hp} {m : Nat}, Ex H H' → σ'[0]? = some (some (.ref l)) → σ'[2]? = some (some (.int (m : Nat))) → EvA (tCons (tOp (rI0 fun i j => V.int (i + j)) (tVar 2) (tC (V.int 1))) (tCons (tCB (rLenV K) (tCons (tVar 0) tNil)) tNil)) σ' H' [.int ((m + 1 : Nat) : Int), .int (ws.length : Nat)] := fun e h0 h2 => ea_cons (ev_is (ev_op (ev_var h2) ev_c rv_I0) (by congr 1)) (ea_cons (lenW e h0) ea_nil)
    refine q_flatEn (M := 24576) (rows := []) (f := fW ws) (B := fun σ => ∃ u2 u3 u4 u5 u6 u7 u8 u9 u10 u11, σ = [some (.ref l), some (.ref fl), u2, u3, u4, u5, u6, u7, u8, u9, u10, u11]) rfl rfl (SqL.of (e1 _ _ hl)) nl ⟨_, _, _, _, _, _, _, _, _, _, rfl⟩ ⟨[], hfl, .nil⟩ (by rw [List.length_map, las]; show 0 + (dueRaw ws).length ≤ _; omega) ?_ ?_
    · intro w v hv D' σ' H' rows' B o r few kq ek
      obtain ⟨u2, u3, u4, u5, u6, u7, u8, u9, u10, u11, rfl⟩ := B
      have hw : w < ws.length := by have := (List.getElem?_eq_some_iff.mp hv).1; rw [List.length_map] at this; omega
      rw [List.getElem?_map] at hv
      obtain ⟨wa, hwa, rfl⟩ := Option.map_eq_some_iff.mp hv
      have hwa0 : H wa = some (.lst (sV (at_ ws w))) := has w wa _ hwa (by unfold at_; rw [List.getD_eq_getElem?_getD, List.getElem?_eq_getElem hw]; rfl)
      have ew := off_ex e1 o nfl
      obtain ⟨wl1, wl6⟩ := wl w hw
      -- x
      refine s_flatR2 (M := 24576) (lo := w + 1) (hi := ws.length) (f := fX ws w) (B := fun σ => ∃ u4 u5 u6 u7 u8 u9 u10 u11, σ = [some (.ref l), some (.ref fl), some (.int (w : Nat)), some (.ref wa), u4, u5, u6, u7, u8, u9, u10, u11]) (rngW ew rfl rfl) (by omega) ⟨_, _, _, _, _, _, _, _, rfl⟩ r few ?_ (fun σ2 H2 ⟨_, _, _, _, _, _, _, _, e⟩ o2 r2 => kq σ2 H2 ⟨_, _, _, _, _, _, _, _, _, _, e⟩ o2 r2)
      intro x hx D2 σ2 H2 rows2 B2 o2 r2 few2 kq2 ek2
      obtain ⟨u4, u5, u6, u7, u8, u9, u10, u11, rfl⟩ := B2
      obtain ⟨x1, x2⟩ := mem_othL.mp (show x ∈ othL ws w from hx)
      obtain ⟨xa, hxa, xEv⟩ := hW.at (K := K) x2
      obtain ⟨xl1, xl6⟩ := wl x x2
      have ex := off_ex ew o2 nfl
      -- body
      refine s_flatNL (M := 24576) (xs := bL ws w x) (f := fB ws w x) (B := fun σ => ∃ u5 u6 u7 u8 u9 u10 u11, σ = [some (.ref l), some (.ref fl), some (.int (w : Nat)), some (.ref wa), some (.int (x : Nat)), u5, u6, u7, u8, u9, u10, u11]) (el_lcR1 (n := min (at_ ws w).length (at_ ws x).length) _ (ea_cons (ev_min2 (ea_cons (ev_is (ev_lenQ (ev_var rfl) (.inl (SqL.of (ex _ _ hwa0)))) (by rw [sl])) (ea_cons (ev_is (ev_lenQ (xEv ex (ev_var rfl) (ev_var rfl)) (.inl (SqL.of (ex _ _ hxa)))) (by rw [sl])) ea_nil))) ea_nil) (by omega) (fun _ => rfl) (fun _ => rfl) fun s H3 e3 hs => et_and (et_test (ev_opLL (el_to (ev_var rfl) (ev_var rfl) (SqL.of ((ex.trans e3) _ _ hwa0))) (el_to (xEv (ex.trans e3) (ev_var rfl) (ev_var rfl)) (ev_var rfl) (SqL.of ((ex.trans e3) _ _ hxa))) fun p q H4 hp hq e4 => rv_eqLS (us := (at_ ws w).take s) (vs := (at_ ws x).take s) (by rw [sV_take]; exact SqL.of hp) (by rw [sV_take]; exact SqL.of hq))) fun _ => et_test (ev_opLL (el_from (n := s + 1) (ev_var rfl) (ev_is (ev_op (ev_var rfl) ev_c rv_I0) (by congr 1)) (SqL.of ((ex.trans e3) _ _ hwa0))) (el_from (n := s + 1) (xEv (ex.trans e3) (ev_var rfl) (ev_var rfl)) (ev_is (ev_op (ev_var rfl) ev_c rv_I0) (by congr 1)) (SqL.of ((ex.trans e3) _ _ hxa))) fun p q H4 hp hq e4 => rv_neLS (us := (at_ ws w).drop (s + 1)) (vs := (at_ ws x).drop (s + 1)) (by rw [sV_drop]; exact SqL.of hp) (by rw [sV_drop]; exact SqL.of hq))) ⟨_, _, _, _, _, _, _, rfl⟩ r2 few2 ?_ (fun σ2 H2 ⟨_, _, _, _, _, _, _, e⟩ o2 r2 => kq2 σ2 H2 ⟨_, _, _, _, _, _, _, _, e⟩ o2 r2)
      intro b hb D3 σ3 H3 rows3 B3 o3 r3 few3 kq3 ek3
      obtain ⟨u5, u6, u7, u8, u9, u10, u11, rfl⟩ := B3
      have eb := off_ex ex o3 nfl
      -- y
      refine s_flatNL (M := 24576) (xs := yL ws w x) (f := fY ws w x b) (B := fun σ => ∃ u6 u7 u8 u9 u10 u11, σ = [some (.ref l), some (.ref fl), some (.int (w : Nat)), some (.ref wa), some (.int (x : Nat)), some (.int (b : Nat)), u6, u7, u8, u9, u10, u11]) (el_lcR2 (lo := w + 1) (hi := ws.length) (fun y => !decide (y = x)) (rngW eb rfl rfl) (by omega) (fun _ => rfl) (fun _ => rfl) fun y H4 e4 y1 y2 => et_is (et_test (ev_op (ev_var rfl) (ev_var rfl) (rv_ne rfl))) (by congr 1; exact decide_eq_decide.mpr ⟨fun e => by have := V.int.inj e; omega, fun e => by rw [e]⟩)) ⟨_, _, _, _, _, _, rfl⟩ r3 few3 ?_ (fun σ2 H2 ⟨_, _, _, _, _, _, e⟩ o2 r2 => kq3 σ2 H2 ⟨_, _, _, _, _, _, _, e⟩ o2 r2)
      intro y hy D4 σ4 H4 rows4 B4 o4 r4 few4 kq4 ek4
      obtain ⟨u6, u7, u8, u9, u10, u11, rfl⟩ := B4
      obtain ⟨y1, y2⟩ := mem_othL.mp (List.mem_filter.mp hy).1
      obtain ⟨ya, hya, yEv⟩ := hW.at (K := K) y2
      obtain ⟨yl1, yl6⟩ := wl y y2
      have ey := off_ex eb o4 nfl
      -- sizes
      have b1 : ∀ {σ' : L2.St} {H' : Hp} {i : Nat} {s : Nat}, σ'[i]? = some (some (.int (s : Nat))) → Ev (tOp (rI0 fun i j => V.int (i + j)) (tVar i) (tC (V.int 1))) σ' H' (.int ((s + 1 : Nat) : Int)) := fun h => ev_is (ev_op (ev_var h) ev_c rv_I0) (by congr 1)
      refine q_asgL (el_lcR1 (n := (at_ ws y).length) (fun s => decide ((at_ ws y).drop (s + 1) = (at_ ws w).drop (b + 1)) && !decide ((at_ ws y).take s = (at_ ws w).take b)) (ea_cons (ev_is (ev_lenQ (yEv ey (ev_var rfl) (ev_var rfl)) (.inl (SqL.of (ey _ _ hya)))) (by rw [sl])) ea_nil) (by omega) (fun _ => rfl) (fun _ => rfl) fun s H5 e5 hs => et_and (et_test (ev_opLL (el_from (n := s + 1) (yEv (ey.trans e5) (ev_var rfl) (ev_var rfl)) (b1 rfl) (SqL.of ((ey.trans e5) _ _ hya))) (el_from (n := b + 1) (ev_var rfl) (b1 rfl) (SqL.of ((ey.trans e5) _ _ hwa0))) fun p q H6 hp hq e6 => rv_eqLS (us := (at_ ws y).drop (s + 1)) (vs := (at_ ws w).drop (b + 1)) (by rw [sV_drop]; exact SqL.of hp) (by rw [sV_drop]; exact SqL.of hq))) fun _ => et_test (ev_opLL (el_to (n := s) (yEv (ey.trans e5) (ev_var rfl) (ev_var rfl)) (ev_var rfl) (SqL.of ((ey.trans e5) _ _ hya))) (el_to (n := b) (ev_var rfl) (ev_var rfl) (SqL.of ((ey.trans e5) _ _ hwa0))) fun p q H6 hp hq e6 => rv_neLS (us := (at_ ws y).take s) (vs := (at_ ws w).take b) (by rw [sV_take]; exact SqL.of hp) (by rw [sV_take]; exact SqL.of hq))) fun sz H5 nsz e5 hsz => ?_
      have hsz : H5 sz = some (.lst ((sizesL ws w b y).map He.intV)) := hsz
      obtain ⟨us4, hfl4⟩ := r4.there
      have nsf : sz ≠ fl := (ne_of_none hfl4 nsz).symm
      have ls : (sizesL ws w b y).length ≤ 6 := by
        unfold sizesL
        refine Nat.le_trans (List.length_filter_le _ _) ?_
        rw [List.length_range]
        exact yl6
      -- z
      refine s_flatNL (M := 24576) (xs := zL ws w x y) (f := rowZ ws w x b y) (B := fun σ => ∃ u6 u8 u10 u11, σ = [some (.ref l), some (.ref fl), some (.int (w : Nat)), some (.ref wa), some (.int (x : Nat)), some (.int (b : Nat)), u6, some (.int (y : Nat)), u8, some (.ref sz), u10, u11]) (el_lcR2 (lo := w + 1) (hi := ws.length) (fun z => !decide (z = x) && !decide (z = y)) (rngW (ey.trans e5) rfl rfl) (by omega) (fun _ => rfl) (fun _ => rfl) fun z H6 e6 z1 z2 => et_is (et_test (ev_opU (ev_var rfl) (eu_tup (ea_cons (ev_var rfl) (ea_cons (ev_var rfl) ea_nil)) (by show 2 ≤ 100000; decide)) fun p H7 hp e7 => rv_niT (SqT.of hp) rfl rfl)) ?_) ⟨_, _, _, _, rfl⟩ (r4.ex e5) few4 ?_ (fun σ2 H2 ⟨_, _, _, _, e⟩ o2 r2 => kq4 σ2 H2 ⟨_, _, _, _, _, _, e⟩ ((Off.of e5).trans o2) r2)
      · congr 1
        rw [show [V.int (x : Nat), V.int (y : Nat)] = [x, y].map fun i => V.int (i : Nat) from rfl, inV_nats]
        simp only [List.contains_cons, List.contains_nil, Bool.or_false, Bool.not_or]
        rfl
      intro z hz D5 σ5 H6 rows5 B5 o5 r5 few5 kq5 ek5
      obtain ⟨u6, u8, u10, u11, rfl⟩ := B5
      obtain ⟨z1, z2⟩ := mem_othL.mp (List.mem_filter.mp hz).1
      obtain ⟨za, hza, zEv⟩ := hW.at (K := K) z2
      obtain ⟨zl1, zl6⟩ := wl z z2
      have ez := off_ex (ey.trans e5) o5 nfl
      have hsz6 := o5 _ _ hsz nsf
      -- fits
      refine q_asgL (el_lcIs (fun s => decide ((at_ ws z).take s = (at_ ws y).take s) && decide ((at_ ws z).drop (s + 1) = (at_ ws x).drop (b + 1))) (ev_var rfl) (SqL.of hsz6) (by omega) (fun _ => rfl) (fun _ => rfl) fun s H7 e7 hs => et_and (et_test (ev_opLL (el_to (n := s) (zEv (ez.trans e7) (ev_var rfl) (ev_var rfl)) (ev_var rfl) (SqL.of ((ez.trans e7) _ _ hza))) (el_to (n := s) (yEv (ez.trans e7) (ev_var rfl) (ev_var rfl)) (ev_var rfl) (SqL.of ((ez.trans e7) _ _ hya))) fun p q H8 hp hq e8 => rv_eqLS (us := (at_ ws z).take s) (vs := (at_ ws y).take s) (by rw [sV_take]; exact SqL.of hp) (by rw [sV_take]; exact SqL.of hq))) fun _ => et_test (ev_opLL (el_from (n := s + 1) (zEv (ez.trans e7) (ev_var rfl) (ev_var rfl)) (b1 rfl) (SqL.of ((ez.trans e7) _ _ hza))) (el_from (n := b + 1) (xEv (ez.trans e7) (ev_var rfl) (ev_var rfl)) (b1 rfl) (SqL.of ((ez.trans e7) _ _ hxa))) fun p q H8 hp hq e8 => rv_eqLS (us := (at_ ws z).drop (s + 1)) (vs := (at_ ws x).drop (b + 1)) (by rw [sV_drop]; exact SqL.of hp) (by rw [sV_drop]; exact SqL.of hq))) fun fa H7 nfa e7 hfa => ?_
      have hfa : H7 fa = some (.lst ((fitsL ws w x b y z).map He.intV)) := hfa
      have lf : (fitsL ws w x b y z).length ≤ 6 := by
        unfold fitsL
        exact Nat.le_trans (List.length_filter_le _ _) ls
      refine s_extend rfl (r5.ex e7) (show rows5.length + (rowZ ws w x b y z).length ≤ 100000 by omega) (EvLP.mapL (fun _ => rowN w x y z b) (el_lcLG (Y := intsR) (fun _ => tupI_st _) intsR_st (fun s => decide (s < (at_ ws z).length)) (fun s => [some (.ref l), some (.ref fl), some (.int (w : Nat)), some (.ref wa), some (.int (x : Nat)), some (.int (b : Nat)), some (.int (s : Nat)), some (.int (y : Nat)), u8, some (.ref sz), some (.int (z : Nat)), some (.ref fa)]) (ls_var intsR_st (ev_var rfl) (SqL.of hfa) (each_ints _)) (by omega) (fun _ => rfl) (fun s _ v H8 hv N n => by cases hv; exact n) (fun s H8 e8 _ => et_is (et_test (ev_op (ev_is (ev_lenQ (zEv ((ez.trans e7).trans e8) (ev_var rfl) (ev_var rfl)) (.inl (SqL.of (((ez.trans e7).trans e8) _ _ hza)))) (by rw [sl])) (ev_var rfl) rv_I0)) (decide_eq_decide.mpr (by omega))) fun s H8 e8 _ _ => evp_tupI (ns := rowN w x y z b) (ea_cons (ev_var rfl) (ea_cons (ev_var rfl) (ea_cons (ev_var rfl) (ea_cons (ev_var rfl) (ea_cons (ev_var rfl) ea_nil))))) (by show 5 ≤ 1000; decide))) fun H8 o8 r8 => kq5 _ H8 ⟨_, _, _, _, rfl⟩ ((Off.of e7).trans o8) r8
    · intro σ' H' B o r
      obtain ⟨u2, u3, u4, u5, u6, u7, u8, u9, u10, u11, rfl⟩ := B
      rw [List.length_map, las, List.nil_append] at r
      obtain ⟨us, hus, each⟩ := r
      have ew := off_ex e1 o nfl
      have stS : ∀ ns : List Int, Stab (TupI ns) := fun ns => stabN_ex (tupI_st ns)
      have nn : ∀ r ∈ dueRaw ws, r ≠ [] := fun r hr => by
        obtain ⟨w, x, y, z, b, rfl, _⟩ := mem_due.mp hr
        exact List.cons_ne_nil _ _
      refine (lp_sorted (K := K) (enc := rowD) stS (ls_var stS (ev_var rfl) (SqL.of hus) (show Each TupI H' (dueRaw ws) us from each)) (fun ns _ v H1 h => tupI_dp h) (rows_alike _) (rows_sortable nn) (by omega) (fun ns _ => rowD_depth ns)) H' (Ex.refl H') _ fun p vs H2 np e2 hp all => k p vs H2 (fresh_back ew np) (ew.trans e2) hp (by rw [← due_eq]; exact all)
end
end K82
set_option Elab.async false
set_option linter.all false
set_option maxRecDepth 100000
set_option maxHeartbeats 4000000
set_option autoImplicit false
/-! comprehensions whose items are new lists; rows of ints as deep data. -/
namespace He
open PySem PySem.Spec PyProof.Rows L2 Evl SortD
/-- a new object of which R holds -/
def EvN (te : TE) (σ : L2.St) (H : Hp) (R : V → Hp → Prop) : Prop := ∀ H1, Ex H H1 → ∀ Q : VK, (∀ a H2, H1 a = none → Ex H1 H2 → R (.ref a) H2 → Q (.ref a) H2) → te σ H1 Q
/-- this list -/
def LstIs (xs : List V) (v : V) (H : Hp) : Prop := ∃ p, v = .ref p ∧ H p = some (.lst xs)
theorem lstIs_st (xs : List V) : Stab (LstIs xs) := fun v H H' ⟨p, e, h⟩ x => ⟨p, e, x _ _ h⟩
theorem lstIs_off {xs : List V} {v : V} {D : Addr} {H H' : Hp} (h : LstIs xs v H) (n : v ≠ .ref D) (o : Off D H H') : LstIs xs v H' := let ⟨p, e, h⟩ := h; ⟨p, e, o _ _ h fun z => n (by rw [e, z])⟩
section
variable {K : PySem.W.Frag} {σ : L2.St} {H : Hp} {te tl : TE} {g : TG} {α : Type}
theorem EvL.new {xs : List V} (h : EvL te σ H xs) : EvN te σ H (LstIs xs) := fun H1 e Q q => h H1 e _ fun p H2 np e2 hp => q p H2 np e2 ⟨p, rfl, hp⟩
theorem EvN.and {R : V → Hp → Prop} {C : Prop} (h : EvN te σ H R) (c : C) : EvN te σ H (fun v H => R v H ∧ C) := fun H1 e Q q => h H1 e _ fun p H2 np e2 hp => q p H2 np e2 ⟨hp, c⟩
theorem el_revL {a : Addr} {xs : List V} (h : Ev te σ H (.ref a)) (ha : SqL K H a xs) : EvL (tRevL K te) σ H xs.reverse := fun H1 e Q q => h H1 e _ fun H2 e2 => ⟨a, xs, rfl, ex_l (e.trans e2) ha, fun p np => q p _ (fresh_back e2 np) (e2.trans (Ex.new np)) upd_same⟩
theorem Each.exO {R : α → V → Hp → Prop} {D : Addr} {H H' : Hp} (st : ∀ x v H H', R x v H → v ≠ .ref D → Off D H H' → R x v H') (o : Off D H H') : ∀ {xs : List α} {vs : List V}, Each (fun x v H => R x v H ∧ v ≠ .ref D) H xs vs → Each (fun x v H => R x v H ∧ v ≠ .ref D) H' xs vs
  | _, _, .nil => .nil
  | _, _, .cons h t => .cons ⟨st _ _ _ _ h.1 h.2 o, h.2⟩ (t.exO st o)
theorem Each.fst {R S : α → V → Hp → Prop} {H : Hp} : ∀ {xs : List α} {vs : List V}, Each (fun x v H => R x v H ∧ S x v H) H xs vs → Each R H xs vs
  | _, _, .nil => .nil
  | _, _, .cons h t => .cons h.1 t.fst
theorem each_at {R : α → V → Hp → Prop} {H : Hp} : ∀ {xs : List α} {us : List V}, us.length = xs.length → (∀ (i : Nat) x v, xs[i]? = some x → us[i]? = some v → R x v H) → Each R H xs us
  | [], [], _, _ => .nil
  | x :: xs, u :: us, l, h => .cons (h 0 x u rfl rfl) (each_at (Nat.succ.inj l) fun i y v a b => h (i + 1) y v a b)
/-- [e for x in xs], e a new object each time -/
theorem el_lcLN {vs : List Nat} {R : α → V → Hp → Prop} {Y : α → V → Hp → Prop} (stO : ∀ x v D H H', R x v H → v ≠ .ref D → Off D H H' → R x v H') (stY : ∀ x, Stab (Y x)) (σ2 : α → L2.St) {xs : List α} (src : EvLS K tl σ H Y xs) (hz : xs.length ≤ 40000)
    (hw : ∀ x, wipe (σ2 x) vs = wipe σ vs) (hg : ∀ x ∈ xs, ∀ v H', Y x v H' → ∀ N : L2.St → Hp → Prop, N (σ2 x) H' → g v (wipe σ vs) H' N)
    (he : ∀ x H1, Ex H H1 → x ∈ xs → EvN te (σ2 x) H1 (R x)) : EvLP (tLc (iList K tl) g tYes te vs) σ H R xs := fun H0 e Q q =>
  src H0 e _ fun p us H1 e1 hp all => ⟨p, rfl, ⟨us, hp⟩, fun Dl hD => by
    have w : Walk (Itl K p) xs.length (fun H => SqL K H p us) (fun i H x H' => H' = H ∧ us[i]? = some x) := by rw [all.len]; exact walk_list
    refine lc_it w (fun i H' => ∃ acc, H' Dl = some (.lst acc) ∧ Ex H1 H' ∧ Each (fun x v H => R x v H ∧ v ≠ .ref Dl) H' (xs.take i) acc) ⟨[], upd_same, Ex.new hD, .nil⟩ (fun i H' _ ⟨_, _, e2, _⟩ => ex_l e2 hp) (fun i v H2 H' hlt z y => ?_) (fun H' ⟨acc, ha, e2, each⟩ => ?_)
    · obtain ⟨rfl, hy⟩ := y
      obtain ⟨x, hx, yx⟩ := all.get hy
      obtain ⟨acc, ha, e2, each⟩ := z
      have hm := List.mem_of_getElem? hx
      refine hg x hm v _ (stY _ _ _ _ yx e2) _ ⟨hw x, ?_⟩
      refine he x H1 (e.trans e1) hm _ e2 _ fun a H4 na e4 r => ?_
      have na2 : a ≠ Dl := (ne_of_none ha na).symm
      have ll := each.len
      rw [List.length_take] at ll
      rw [List.take_succ, hx]
      have vn : (V.ref a) ≠ .ref Dl := fun z => na2 (V.ref.inj z)
      exact ⟨acc, e4 _ _ ha, sz_lt (by omega), acc ++ [.ref a], upd_same, Ex.mut (e2.trans e4) hD, (each.exO (stO · · Dl) ((Off.of e4).upd)).snoc ⟨stO _ _ Dl _ _ r vn (Off.refl _ _).upd, vn⟩⟩
    · rw [List.take_length] at each
      exact q Dl acc H' (fresh_back e1 hD) (e1.trans e2) ha each.fst⟩
end
section
variable {K : PySem.W.Frag} {H : Hp}
theorem dp_rows : ∀ {rows : List (List Int)} {us : List V}, Each TupI H rows us → DpAll K H us (rows.map rowD)
  | _, _, .nil => .nil
  | _, _, .cons h t => .cons (tupI_dp h) (dp_rows t)
end
theorem canI : ∀ ns : List Int, PyData.canLayAll0 (ns.map PyData.int) = true
  | [] => by simp [PyData.canLayAll0]
  | n :: ns => by
    have := canI ns
    simpa [PyData.canLayAll0, PyData.canLay0] using this
theorem canRows : ∀ rows : List (List Int), PyData.canLayAll0 (rows.map rowD) = true
  | [] => by simp [PyData.canLayAll0]
  | n :: ns => by
    have h1 := canRows ns
    have h2 := canI n
    simp only [List.map_cons, PyData.canLayAll0, rowD, PyData.canLay0, h2, Bool.true_and]
    exact h1
theorem rows_shaped (rows : List (List Int)) : SeqAt.shaped (.list (rows.map rowD)) = true := by
  have dA : ∀ rows : List (List Int), PyData.depthAll (rows.map rowD) ≤ 6 := by
    intro rows
    induction rows with
    | nil => simp [PyData.depthAll]
    | cons n ns ih =>
      have h2 := rowD_depth n
      simp only [List.map_cons, PyData.depthAll]
      omega
  have h1 := dA rows
  have h2 : PyData.depth (.list (rows.map rowD)) ≤ 64 := by
    simp only [PyData.depth]
    omega
  show (PyData.canLay0 (.list (rows.map rowD)) && decide (PyData.depth (.list (rows.map rowD)) ≤ 64)) = true
  rw [Bool.and_eq_true]
  exact ⟨by simp only [PyData.canLay0]; exact canRows rows, decide_eq_true h2⟩
end He
set_option Elab.async false
set_option linter.all false
set_option maxRecDepth 100000
set_option maxHeartbeats 4000000
set_option autoImplicit false
namespace K82
open PySem PySem.Spec PyProof.Rows L2 He Evl TL Lam LamX NdefX Odd SortD
abbrev defR : Defn := ("_law_refused_right", none)
abbrev lamQ : Str := (envOfC "_law_refused_right" (defScope s_l_refused_right) 0 0 .none).qual ++ "<lambda>"
/-- the table of the def with lambdas -/
abbrev Tt (K : PySem.W.Frag) : List (Addr × Str) := [((cT K defR).2, lamQ)]
theorem memR {K : PySem.W.Frag} : ((cT K defR).2, lamQ) ∈ Tt K := List.mem_cons_self
theorem oneR {K : PySem.W.Frag} : ∀ p ∈ Tt K, p.1 = (cT K defR).2 → p.2 = lamQ := fun p hp e => by rw [List.mem_singleton.mp hp]
theorem heard_mono {K : PySem.W.Frag} : MonoHT (heardG toldX K) := mono_heardG toldX K
/-- no word: a plain value, a dict, a list or a tuple that is none -/
def OW (p : Addr) (v : V) (H : Hp) : Prop := isSc v = true ∨ ∃ a, v = .ref a ∧ a ≠ p ∧ (H a = some (.dK []) ∨ ∃ xs, (H a = some (.lst xs) ∨ H a = some (.tup xs)) ∧ xs.length ≤ 1000 ∧ xs.all isSc = true ∧ wordF xs = false)
/-- no words: a plain value, a dict, a list of a text -/
def OS (p : Addr) (v : V) (H : Hp) : Prop := isSc v = true ∨ ∃ a, v = .ref a ∧ a ≠ p ∧ (H a = some (.dK []) ∨ H a = some (.lst [.str "uk"]))
section
variable {K : PySem.W.Frag} {H H' : Hp} {v : V} {p : Addr} {Q : VK} {E : XK}
theorem OW.st (h : OW p v H) (o : Off2 [p] H H') : OW p v H' := h.imp id fun ⟨a, e, n, h⟩ => ⟨a, e, n, h.imp (fun z => off2_at o n z fun _ y => nomatch y) fun ⟨xs, z, r⟩ => ⟨xs, z.imp (fun z => off2_at o n z fun _ y => nomatch y) (fun z => off2_at o n z fun _ y => nomatch y), r⟩⟩
theorem OS.st (h : OS p v H) (o : Off2 [p] H H') : OS p v H' := h.imp id fun ⟨a, e, n, h⟩ => ⟨a, e, n, h.imp (fun z => off2_at o n z fun _ y => nomatch y) fun z => off2_at o n z fun _ y => nomatch y⟩
theorem ow_st : Stab (OW p) := fun v H H' h e => h.st (Off2.of e)
theorem os_st : Stab (OS p) := fun v H H' h e => h.st (Off2.of e)
theorem ow_off : ∀ v H1 H2, OW p v H1 → Off p H1 H2 → OW p v H2 := fun v H H' h e => h.st (Off2.off e)
theorem os_off : ∀ v H1 H2, OS p v H1 → Off p H1 H2 → OS p v H2 := fun v H H' h e => h.st (Off2.off e)
theorem sc_eok (h : isSc v = true) : EOk K H v := ⟨⟨_, sc_kd h⟩, fun z hz => by subst hz; exact of_decide_eq_true h⟩
theorem sc_noseq (h : isSc v = true) : NoSeq K H v := ⟨_, sc_kd h, by
  cases v with
  | non => decide
  | bl b => exact (by decide : kAny "bool" ["list", "tuple"] = false)
  | int i => exact (by decide : kAny "int" ["list", "tuple"] = false)
  | str z => exact (by decide : kAny "str" ["list", "tuple"] = false)
  | _ => cases h⟩
theorem dk_noseq {a : Addr} (h : H a = some (.dK [])) : NoSeq K H (.ref a) := ⟨_, kd_dK h, by decide⟩
theorem OW.isW (h : OW p v H) : IsW K H v false := by
  rcases h with h | ⟨a, rfl, _, h | ⟨xs, h, l, sc, wf⟩⟩
  · exact .inl ⟨sc_noseq h, rfl⟩
  · exact .inl ⟨dk_noseq h, rfl⟩
  · exact .inr ⟨xs, ⟨a, rfl, h.imp SqL.of SqT.of⟩, l, fun x hx => sc_eok (List.all_eq_true.mp sc x hx), wf.symm⟩
theorem LW.good {Z : List Addr} {v : V} {H : Hp} (h : LW Z 1 6 v H) : ∃ w, GoodW K w v H := by
  obtain ⟨a, w, rfl, _, ha, l1, l6, nm⟩ := h
  refine ⟨w, ⟨a, rfl, .inl (SqL.of ha)⟩, ?_⟩
  unfold wordF namesF
  rw [sV_len, decide_eq_true (by omega : 0 < w.length), decide_eq_true l6, Bool.true_and, Bool.and_true]
  refine List.all_eq_true.mpr fun x hx => ?_
  obtain ⟨z, hz, rfl⟩ := List.mem_map.mp hx
  exact nm z hz
/-- a list with what is no word -/
theorem sq_bad {x : V} {us : List V} (sq : SeqV K H x us) (few : us.length ≤ 1000) (all : ∀ v ∈ us, IsW K H v true ∨ IsW K H v false) (bad : ∃ v ∈ us, IsW K H v false) (er : ErrX K H E "BadWord" [("part", .str "words")]) : spSquares K [x] H Q E := by
  classical
  refine ⟨x, rfl, .inr (.inl ⟨us, us.map (fun v => !decide (IsW K H v false)), sq, few, by rw [List.length_map], fun i v b hv hb => ?_, ?_, er⟩)⟩
  · rw [List.getElem?_map, hv] at hb
    obtain rfl := Option.some.inj hb
    show IsW K H v (!decide (IsW K H v false))
    by_cases h : IsW K H v false
    · rw [decide_eq_true h]
      exact h
    · rw [decide_eq_false h]
      exact (all v (List.mem_of_getElem? hv)).resolve_right h
  · obtain ⟨v, hv, b⟩ := bad
    refine Bool.eq_false_iff.mpr fun z => ?_
    have := List.all_eq_true.mp z _ (List.mem_map.mpr ⟨v, hv, rfl⟩)
    rw [decide_eq_true b] at this
    cases this
theorem sq_no {x : V} (ns : NoSeq K H x) (er : ErrX K H E "BadWord" [("part", .str "words")]) : spSquares K [x] H Q E := ⟨x, rfl, .inl ⟨ns, er⟩⟩
theorem os_bad {x : V} (h : OS p x H) (er : ErrX K H E "BadWord" [("part", .str "words")]) : spSquares K [x] H Q E := by
  rcases h with h | ⟨a, rfl, _, h | h⟩
  · exact sq_no (sc_noseq h) er
  · exact sq_no (dk_noseq h) er
  · have no : IsW K H (.str "uk") false := .inl ⟨sc_noseq (by decide), rfl⟩
    exact sq_bad ⟨a, rfl, .inl (SqL.of h)⟩ (by show 1 ≤ 1000; decide) (fun v hv => .inr (by rw [List.mem_singleton.mp hv]; exact no)) ⟨_, List.mem_singleton.mpr rfl, no⟩ er
theorem el_cat2 {σ : L2.St} {ta tb : TE} {xs ys : List V} (h : EvL ta σ H xs) (hb : EvL tb σ H ys) (few : xs.length + ys.length ≤ 100000) : EvL (tOp rCat ta tb) σ H (xs ++ ys) := fun H1 e Q q =>
  h H1 e _ fun a H2 na e2 ha => hb H2 (e.trans e2) _ fun b H3 nb e3 hb => ⟨a, b, xs, ys, rfl, rfl, e3 _ _ ha, hb, sz_of few, fun r nr => q r _ (fresh_back (e2.trans e3) nr) ((e2.trans e3).trans (Ex.new nr)) upd_same⟩
/-- nine words, all the same one -/
theorem nine {σ : L2.St} (H1 : Hp) (Q : VK) (q : ∀ l a H2, H1 l = none → Ex H1 H2 → H2 l = some (.lst (List.replicate 9 (.ref a))) → GoodW K ["u"] (.ref a) H2 → Q (.ref l) H2) : tOp rRep (tLst (tCons (tLst (tCons (tC (V.str "u")) tNil)) tNil)) (tC (V.int 9)) σ H1 Q :=
  op_go (cons_go ((el_lst (ea_cons ev_c ea_nil) (by show 1 ≤ 100000; decide) : EvL (tLst (tCons (tC (V.str "u")) tNil)) σ H1 [.str "u"]) H1 (Ex.refl H1) _ fun a H2 na e2 ha => ⟨by show 1 ≤ sizeLine; decide, fun m nm => by
    have e3 := Ex.new (o := .lst [.ref a]) nm
    refine ⟨m, 9, [.ref a], rfl, rfl, upd_same, by decide, by decide, by show 9 ≤ sizeLine; decide, fun r nr => ?_⟩
    have e4 := Ex.new (o := .lst (List.replicate 9 (.ref a))) nr
    exact q r a _ (fresh_back (e2.trans e3) nr) ((e2.trans e3).trans e4) upd_same ⟨⟨a, rfl, .inl (SqL.of (e4 _ _ (e3 _ _ ha)))⟩, by decide +kernel⟩⟩))
def spRefR (K : PySem.W.Frag) : Sp := fun vs H Q _ => ∃ (p c l : Addr) (us : List V) (n : Nat), vs = [.ref p, .ref l] ∧ PenAt K n H p c ∧ n ≤ 80000 ∧ l ≠ p ∧ H l = some (.lst us) ∧ us.length ≤ 8 ∧ (∀ v ∈ us, LW [p] 1 6 v H) ∧ Tabs (Tt K) H ∧ ∀ H', Q (.bl true) H'
end
section
variable {P : Program} {w : World} {K : PySem.W.Frag} {mg : Str → Option Value} {base : Heap}
theorem ok_l_refused_right (T : Tx K mg) (B : TabB base mg (cT K defR).1 (cT K defR).2) : FnOk P w K mg base CX0 9 (fAd K defR) (fdOf K defR) ["_law_ear_here", "_law_words_here"] (spRefR K) := by
  refine funD_okC T.f_l_refused_right sc_l_refused_right (fun vs H Q E h => by obtain ⟨p, c, l, us, n, rfl, _⟩ := h; rfl) (fun A outer s H vs Q E hr h => ?_)
  have hu : (A.deeper (envOfC "_law_refused_right" (defScope s_l_refused_right) s.heap.objs.size (fAd K defR) (.ref (codeOf K defR)))).units + 64 < cLine := by have := hr.units; omega
  refine ⟨_, PSs.nox (pss_cons (ps_set (i := 2) sc_l_refused_right.nd rfl (.inr rfl) (pe_call (ok_l_pull T) (hr.mono (by decide)) (by rfl) T.g_l_pull T.f_l_pull.kp (b_l_pull T) .nil pass0 (pa_cons (pv 0) (pa_cons (pe_op op_add (pe_callB call_len (by rfl) T.n_len boot_len (pa_cons (pv 1) pa_nil)) pe_int) pa_nil))))
    (pss_cons (ps_set (i := 3) sc_l_refused_right.nd rfl (.inr rfl) (pe_call (ok_l_one T) (hr.mono (by decide)) (by rfl) T.g_l_one T.f_l_one.kp (b_l_one T) .nil pass0 (pa_cons (pv 0) (pa_cons (pe_lst (pa_cons (pe_lst pa_nil) (pa_cons (pe_op op_rep (pe_lst (pa_cons pe_str pa_nil)) pe_int) (pa_cons (pe_lst (pa_cons pe_str pa_nil)) (pa_cons pe_str (pa_cons pe_non (pa_cons pe_int (pa_cons (pe_lst (pa_cons pe_int pa_nil)) (pa_cons (pe_lst (pa_cons pe_str (pa_cons pe_non pa_nil))) (pa_cons pe_dnewK (pa_cons (pe_tup pa_nil) pa_nil))))))))))) pa_nil))))
    (pss_cons (ps_set (i := 4) sc_l_refused_right.nd rfl (.inl rfl) (pe_lst (pa_cons (pe_hearL (k := 5) (T := Tt K) (q := lamQ) (c := (cT K defR).1) (P := (cT K defR).2) (fr := ["_law_ear_here"]) (js := [0]) B rfl rfl memR oneR (lamS_by (sc := defScope s_l_refused_right) (by decide +kernel)) rfl (by decide +kernel) rfl (nscope_by (by decide +kernel)) (fun _ _ _ _ => rfl) (fun cl c' f A outer s H E hr => (pe_call (ok_squares T) (hr.mono (by decide)) (by rfl) T.g_squares T.f_squares.kp (b_squares T) .nil (passes_call (takes_of rfl rfl rfl rfl) (fun _ _ _ _ h => h)) (pa_cons (pe_call (ok_l_one T) (hr.mono (by decide)) (by rfl) T.g_l_one T.f_l_one.kp (b_l_one T) .nil pass0 (pa_cons (pv 0) (pa_cons (pe_lst (pa_cons pe_non (pa_cons pe_int (pa_cons pe_str (pa_cons pe_dnewK (pa_cons (pe_lst (pa_cons pe_str pa_nil)) (pa_cons pe_bl pa_nil))))))) pa_nil))) pa_nil))) (ok_l_heard T) heard_mono hr (by decide) (by rfl) T.g_l_heard T.f_l_heard.kp pass0) pa_nil)))
    (pss_cons (ps_expr (pe_bm PySem.F.plainAttrs_list PySem.F.slot_list_append PySem.F.type_list_append mt_append (pv 4) (pa_cons (pe_hearL (k := 5) (T := Tt K) (q := lamQ) (c := (cT K defR).1) (P := (cT K defR).2) (fr := ["_law_words_here", "_law_odd", "_law_at"]) (js := [1, 3, 2]) (t := fun E => (tCall _ [] E (tCons (tOp rCat (tOp rCat (tSl (rSlL K) (tVar 0) tNoPart (tPart (tVar 2))) (tLst (tCons (tVar 1) tNil))) (tSl (rSlL K) (tVar 0) (tPart (tVar 2)) tNoPart)) tNil))) B rfl rfl memR oneR (lamS_by (sc := defScope s_l_refused_right) (by decide +kernel)) rfl (by decide +kernel) rfl (nscope_by (by decide +kernel)) (fun _ _ _ _ => rfl) (fun cl c' f A outer s H E hr => (pe_call (ok_squares T) (hr.mono (by decide)) (by rfl) T.g_squares T.f_squares.kp (b_squares T) .nil (passes_call (takes_of rfl rfl rfl rfl) (fun _ _ _ _ h => h)) (pa_cons (pe_op op_cat (pe_op op_cat (pe_slice sl_list (pv 0) po_none (po_some (pv 2))) (pe_lst (pa_cons (pv 1) pa_nil))) (pe_slice sl_list (pv 0) (po_some (pv 2)) po_none)) pa_nil))) (ok_l_heard T) heard_mono hr (by decide) (by rfl) T.g_l_heard T.f_l_heard.kp pass0) pa_nil)))
    (pss_cons (ps_expr (pe_bm PySem.F.plainAttrs_list PySem.F.slot_list_append PySem.F.type_list_append mt_append (pv 4) (pa_cons (pe_hearL (k := 5) (T := Tt K) (q := lamQ) (c := (cT K defR).1) (P := (cT K defR).2) (fr := []) (js := []) B rfl rfl memR oneR (lamS_by (sc := defScope s_l_refused_right) (by decide +kernel)) rfl (by decide +kernel) rfl (nscope_by (by decide +kernel)) (fun _ _ _ _ => rfl) (fun cl c' f A outer s H E hr => (pe_call (ok_squares T) (hr.mono (by decide)) (by rfl) T.g_squares T.f_squares.kp (b_squares T) .nil (passes_call (takes_of rfl rfl rfl rfl) (fun _ _ _ _ h => h)) (pa_cons (pe_op op_rep (pe_lst (pa_cons (pe_lst (pa_cons pe_str pa_nil)) pa_nil)) pe_int) pa_nil))) (ok_l_heard T) heard_mono hr (by decide) (by rfl) T.g_l_heard T.f_l_heard.kp pass0) pa_nil)))
    (pss_cons (ps_expr (pe_bm PySem.F.plainAttrs_list PySem.F.slot_list_append PySem.F.type_list_append mt_append (pv 4) (pa_cons (pe_hearL (k := 5) (T := Tt K) (q := lamQ) (c := (cT K defR).1) (P := (cT K defR).2) (fr := ["_law_odd"]) (js := [3]) B rfl rfl memR oneR (lamS_by (sc := defScope s_l_refused_right) (by decide +kernel)) rfl (by decide +kernel) rfl (nscope_by (by decide +kernel)) (fun _ _ _ _ => rfl) (fun cl c' f A outer s H E hr => (pe_call (ok_squares T) (hr.mono (by decide)) (by rfl) T.g_squares T.f_squares.kp (b_squares T) .nil (passes_call (takes_of rfl rfl rfl rfl) (fun _ _ _ _ h => h)) (pa_cons (pe_op op_cat (pe_op op_rep (pe_lst (pa_cons (pe_lst (pa_cons pe_str pa_nil)) pa_nil)) pe_int) (pe_lst (pa_cons (pv 0) pa_nil))) pa_nil))) (ok_l_heard T) heard_mono hr (by decide) (by rfl) T.g_l_heard T.f_l_heard.kp pass0) pa_nil)))
    (pss_one (ps_ret (pe_and (pe_cmpR (op_eqD hu) (pv 4) (pe_lst (pa_cons (pe_tup (pa_cons pe_str (pa_cons pe_str pa_nil))) (pa_cons (pe_tup (pa_cons pe_str (pa_cons pe_str pa_nil))) (pa_cons (pe_tup (pa_cons pe_str (pa_cons pe_int pa_nil))) (pa_cons (pe_tup (pa_cons pe_str (pa_cons pe_str pa_nil))) pa_nil))))) (nomark _)) (pe_and (pe_cmpR (op_eqD hu) (pe_call (ok_squares T) (hr.mono (by decide)) (by rfl) T.g_squares T.f_squares.kp (b_squares T) .nil passL (pa_cons (pe_lst pa_nil) pa_nil)) (pe_tup pa_nil) (nomark _)) (pe_one (pe_cmpR (op_eqD hu) (pe_call (ok_squares T) (hr.mono (by decide)) (by rfl) T.g_squares T.f_squares.kp (b_squares T) .nil passL (pa_cons (pe_tup pa_nil) pa_nil)) (pe_tup pa_nil) (nomark _))))))))))))), ?_⟩
  -- slots: [(0, '_law_ear_here'), (1, '_law_words_here'), (2, '_law_at'), (3, '_law_odd'), (4, '_law_heard_here')]
  obtain ⟨p, c, l, us, n, rfl, pen, hn, lp, hl, few, all, tabs, k⟩ := h
  -- at
  refine q_asgD ⟨_, rfl, (ev_op (ev_lenQ (ev_var rfl) (.inl (SqL.of hl))) ev_c rv_I0 : Ev (tOp (rI0 fun i j => V.int (i + j)) (tCB (rLenV K) (tCons (tVar 1) tNil)) (tC (V.int 1))) _ H (V.int ((us.length : Nat) + 1))) H (Ex.refl H) _ fun H1 e1 => ⟨p, c, _, n, rfl, by omega, by omega, pen.ex e1, by omega, fun d H2 d0 d1 off2 pen2 => ?_⟩⟩
  obtain ⟨i, rfl⟩ := Int.eq_ofNat_of_zero_le d0
  have o2 : Off p H H2 := (Off.of e1).trans off2
  have tabs2 := tabs_off tabs (pen_at pen).choose_spec o2
  have hl2 := o2 _ _ hl lp
  have all2 : ∀ v ∈ us, LW [p] 1 6 v H2 := fun v hv => (all v hv).st (Off2.off o2) (fun a h => h)
  -- odd
  have cn : ∀ {v : V} {σ' : L2.St} {H5 : Hp}, isSc v = true → EvP (tC v) σ' H5 (OW p) := fun a => evp_c fun _ _ => .inl a
  have ls : ∀ {xs : List V} {ta : TA} {σ' : L2.St} {H5 : Hp}, (∃ o, H5 p = some o) → EvA ta σ' H5 xs → xs.length ≤ 1000 → xs.all isSc = true → wordF xs = false → EvP (tLst ta) σ' H5 (OW p) := fun hp h f sc wf => evp_lstG hp h f fun a H5 n z _ => .inr ⟨a, rfl, n, .inr ⟨_, .inl z, f, sc, wf⟩⟩
  have dn : ∀ {σ' : L2.St} {H5 : Hp} {G : V → Hp → Prop}, (∃ o, H5 p = some o) → (∀ a H6, a ≠ p → H6 a = some (.dK []) → G (.ref a) H6) → EvP tDNewK σ' H5 G := fun hp g H6 e Q q a na => q _ _ (Ex.new na) (g a _ (Ne.symm (ne_of_none (e _ _ hp.choose_spec) na)) upd_same)
  refine q_asgD (run_oneG (G := OW p) (m := 10) ow_off pen2 (by omega) (ev_var rfl) (lg_lst ow_st (all_cons ow_st (ls pen2.there ea_nil (by decide) rfl (by decide +kernel)) (all_cons ow_st ?_ (all_cons ow_st (ls pen2.there (ea_cons ev_c ea_nil) (by decide) (by decide) (by decide +kernel)) (all_cons ow_st (cn (by decide)) (all_cons ow_st (cn rfl) (all_cons ow_st (cn rfl) (all_cons ow_st (ls pen2.there (ea_cons ev_c ea_nil) (by decide) rfl (by decide +kernel)) (all_cons ow_st (ls pen2.there (ea_cons ev_c (ea_cons ev_c ea_nil)) (by decide) (by decide) (by decide +kernel)) (all_cons ow_st (dn pen2.there fun a H6 n h => .inr ⟨a, rfl, n, .inl h⟩) (all_cons ow_st ?_ all_nil)))))))))) (by decide)) (by decide) fun odd H3 godd off3 pen3 => ?_)
  · exact fun H4 e4 Q4 q4 => op_go ((el_lst (ea_cons ev_c ea_nil) (by show 1 ≤ 100000; decide) : EvL (tLst (tCons (tC (V.str "k")) tNil)) _ H4 [.str "k"]) H4 (Ex.refl H4) _ fun a H5 na e5 ha => ⟨a, 7, [.str "k"], rfl, rfl, ha, by decide, by decide, by show 7 ≤ sizeLine; decide, fun r nr => q4 _ _ (e5.trans (Ex.new nr)) (.inr ⟨r, rfl, Ne.symm (ne_of_none ((e4.trans e5) _ _ pen2.there.choose_spec) nr), .inr ⟨List.replicate 7 (.str "k"), .inl upd_same, by decide, by decide, by decide +kernel⟩⟩)⟩)
  · exact evp_tupG pen2.there ea_nil (by decide) fun a H5 n z _ => .inr ⟨a, rfl, n, .inr ⟨_, .inr z, by decide, rfl, by decide +kernel⟩⟩
  have tabs3 := tabs_off tabs2 (pen_at pen2).choose_spec off3
  have hl3 := off3 _ _ hl2 lp
  have all3 : ∀ v ∈ us, LW [p] 1 6 v H3 := fun v hv => (all2 v hv).st (Off2.off off3) (fun a h => h)
  have hlE : ∀ {H4 : Hp}, Off2 [p] H3 H4 → H4 l = some (.lst us) := fun o => off2_at o lp hl3 fun _ y => nomatch y
  have isE : ∀ {H4 : Hp} {v : V}, Off2 [p] H3 H4 → v ∈ us → IsW K H4 v true := fun o hv => by
    obtain ⟨w, g⟩ := ((all3 _ hv).st o (fun a h => h)).good
    exact goodW_isW g
  have osE : ∀ {v : V} {σ' : L2.St} {H5 : Hp}, isSc v = true → EvP (tC v) σ' H5 (OS p) := fun a => evp_c fun _ _ => .inl a
  -- what is no list of words
  refine q_hear1 (told := toldX) (x := "BadWord") (fs := [("part", .str "words")]) (xs := [.str "word", .str "words"]) (m := n + 3) (PJ.start pen3 tabs3) rfl (fun H' I E Q' h => call_go (cons_go (run_oneG (G := OS p) (m := 6) os_off I.pen (by omega) (ev_var rfl) (lg_lst os_st (all_cons os_st (osE rfl) (all_cons os_st (osE rfl) (all_cons os_st (osE (by decide)) (all_cons os_st (dn I.pen.there fun a H6 n h => .inr ⟨a, rfl, n, .inl h⟩) (all_cons os_st (evp_lstG I.pen.there (ea_cons ev_c ea_nil) (by decide) fun a H5 n z _ => .inr ⟨a, rfl, n, .inr z⟩) (all_cons os_st (osE rfl) all_nil)))))) (by decide)) (by decide) fun x H5 g5 off5 pen5 => os_bad g5 fun d H6 e6 h6 => h d H6 h6 ((I.off off5 pen5).ex e6)))) fun q H4 R4 => ?_
  -- an odd one between the words
  refine q_hear (told := toldX) (x := "BadWord") (fs := [("part", .str "words")]) (xs := [.str "word", .str "words"]) (m := n + 3) R4 rfl (by show 1 < 1000; decide) rfl (fun H' I E Q' h => call_go (cons_go ((el_cat2 (el_cat2 (el_to (n := i) (ev_var rfl) (ev_var rfl) (SqL.of (hlE I.at0))) (el_lst (vs := [odd]) (ea_cons (ev_var rfl) ea_nil) (by show 1 ≤ 100000; decide)) (by rw [List.length_take]; show _ + 1 ≤ _; omega)) (el_from (n := i) (ev_var rfl) (ev_var rfl) (SqL.of (hlE I.at0))) (by rw [List.length_append, List.length_take, List.length_drop]; show _ + 1 + _ ≤ _; omega)) H' (Ex.refl H') _ fun l5 H5 nl5 e5 hl5 => ?_))) fun H5 R5 => ?_
  · have o5 := I.at0.trans (Off2.of e5)
    have no := (godd.st o5).isW (K := K)
    refine sq_bad ⟨l5, rfl, .inl (SqL.of hl5)⟩ (by rw [List.length_append, List.length_append, List.length_take, List.length_drop]; show _ + 1 + _ ≤ _; omega) (fun v hv => ?_) ⟨odd, by simp, no⟩ fun d H6 e6 h6 => h d H6 h6 ((I.ex e5).ex e6)
    rcases List.mem_append.mp hv with hv | hv
    · rcases List.mem_append.mp hv with hv | hv
      · exact .inl (isE o5 (List.mem_of_mem_take hv))
      · rw [List.mem_singleton.mp hv]
        exact .inr no
    · exact .inl (isE o5 (List.mem_of_mem_drop hv))
  -- too many
  refine q_hear (told := toldX) (x := "TooMany") (fs := [("most", .int 8), ("what", .str "words")]) (xs := [.str "words", .int 8]) (m := n + 3) R5 rfl (by show 2 < 1000; decide) rfl (fun H' I E Q' h => call_go (cons_go (nine (K := K) H' _ fun l5 a H6 nl5 e5 hl5 g5 => ?_))) fun H6 R6 => ?_
  · exact ⟨_, rfl, .inr (.inr ⟨_, List.replicate 9 ["u"], ⟨l5, rfl, .inl (SqL.of hl5)⟩, by rw [List.length_replicate]; decide, .cons g5 (.cons g5 (.cons g5 (.cons g5 (.cons g5 (.cons g5 (.cons g5 (.cons g5 (.cons g5 .nil)))))))), .inl ⟨by decide, fun d H6 e6 h6 => h d H6 h6 ((I.ex e5).ex e6)⟩⟩)⟩
  refine q_hear (told := toldX) (x := "BadWord") (fs := [("part", .str "words")]) (xs := [.str "word", .str "words"]) (m := n + 3) R6 rfl (by show 3 < 1000; decide) rfl (fun H' I E Q' h => call_go (cons_go (op_go (nine (K := K) H' _ fun l5 a H7 nl5 e5 hl5 g5 => ?_)))) fun H7 R7 => ?_
  · refine cons_go (te := tVar 0) ⟨_, rfl, by show 1 ≤ sizeLine; decide, fun m nm => ?_⟩
    have e6 := Ex.new (o := .lst [odd]) nm
    refine ⟨l5, m, List.replicate 9 (.ref a), [odd], rfl, rfl, e6 _ _ hl5, upd_same, by show 10 ≤ sizeLine; decide, fun r nr => ?_⟩
    have e7 := Ex.new (o := .lst (List.replicate 9 (.ref a) ++ [odd])) nr
    have e57 := (e5.trans e6).trans e7
    have o5 := I.at0.trans (Off2.of e57)
    have no := (godd.st o5).isW (K := K)
    have yes := goodW_isW (goodW_st K _ _ _ _ g5 (e6.trans e7))
    refine sq_bad ⟨r, rfl, .inl (SqL.of upd_same)⟩ (by show 10 ≤ 1000; decide) (fun v hv => ?_) ⟨odd, by simp, no⟩ fun d H6 e6 h6 => h d H6 h6 ((I.ex e57).ex e6)
    rcases List.mem_append.mp hv with hv | hv
    · rw [(List.mem_replicate.mp hv).2]
      exact .inl yes
    · rw [List.mem_singleton.mp hv]
      exact .inr no
  have two : ∀ {a b : Str} {σ' : L2.St} {H' : Hp}, EvD K (tTup (tCons (tC (V.str a)) (tCons (tC (V.str b)) tNil))) σ' H' (.tuple [.str a, .str b]) := ed_tup (da_cons ed_str (da_cons ed_str da_nil)) (by show 2 ≤ 100000; decide)
  have nilE : ∀ {te : TE} {σ' : L2.St} {H8 : Hp}, (∀ H9, Ex H8 H9 → ∀ Q9 : VK, (∀ x H10, Ex H9 H10 → SeqV K H10 x [] → Q9 x H10) → te σ' H9 Q9) → EvD K (tCall (spSquares K) [] E0 (tCons te tNil)) σ' H8 (.tuple []) := fun h H9 e9 Q9 q9 => call_go (cons_go (h H9 e9 _ fun x H10 e10 sq => ⟨x, rfl, .inr (.inr ⟨[], [], sq, by decide, .nil, .inr ⟨by decide, fun p' us' H11 np' e11 hp' each => q9 _ _ (e10.trans e11) (.tup (SqT.of hp') (by
    rw [show sqRows [] = [] from List.Perm.eq_nil (sortB_perm rowD (sqRaw []))] at each
    cases each
    exact .nil))⟩⟩)⟩))
  have nilT : ∀ {σ' : L2.St} {H8 : Hp}, EvD K (tTup tNil) σ' H8 (.tuple []) := ed_tup da_nil (Nat.zero_le _)
  refine s_ret (v := .bl true) (ev_is (ev_andV (ev_eqD (ed_ev (ev_var rfl) fun H1 e1 => (R7.ex e1).data rfl) (ed_DL (dl_lst (da_cons two (da_cons two (da_cons (ed_tup (da_cons ed_str (da_cons ed_int da_nil)) (by show 2 ≤ 100000; decide)) (da_cons two da_nil)))) (by decide))) (by decide +kernel) (by decide +kernel)) fun _ => ev_andV (ev_eqD (nilE fun H9 e9 Q9 q9 => (el_lst ea_nil (Nat.zero_le _)) H9 (Ex.refl H9) _ fun a H10 _ e10 ha => q9 _ _ e10 ⟨a, rfl, .inl (SqL.of ha)⟩) nilT (by decide +kernel) (by decide +kernel)) fun _ => ev_eqD (nilE fun H9 e9 Q9 q9 => (eu_tup ea_nil (Nat.zero_le _)) H9 (Ex.refl H9) _ fun a H10 _ e10 ha => q9 _ _ e10 ⟨a, rfl, .inr (SqT.of ha)⟩) nilT (by decide +kernel) (by decide +kernel)) (by decide +kernel)) fun H8 _ => k H8
end
end K82
set_option Elab.async false
set_option linter.all false
set_option maxRecDepth 100000
set_option maxHeartbeats 4000000
set_option autoImplicit false
namespace K82
open PySem PySem.Spec PyProof.Rows L2 He Evl SortD Odd
theorem wordF_rev {w : List Str} (h : wordF (sV w) = true) : wordF (sV w.reverse) = true := by
  unfold wordF namesF at h ⊢
  have e : sV w.reverse = (sV w).reverse := List.map_reverse
  rw [e, List.length_reverse, List.all_reverse]
  exact h
theorem WordsE.each {H : Hp} {l : Addr} {ws : List (List Str)} (h : WordsE H l ws) : ∃ us, H l = some (.lst us) ∧ Each (fun w => LstIs (sV w)) H ws us := by
  obtain ⟨as, h1, h2, h3⟩ := h
  refine ⟨as.map V.ref, h1, each_at (by rw [List.length_map]; exact h2) fun i x v hx hv => ?_⟩
  rw [List.getElem?_map] at hv
  obtain ⟨a, ha, rfl⟩ := Option.map_eq_some_iff.mp hv
  exact ⟨a, rfl, h3 i a x ha hx⟩
def spBeh (K : PySem.W.Frag) : Sp := fun vs H Q _ => ∃ (l t : Addr) (ws : List (List Str)) (us : List V), vs = [.ref l, .ref t] ∧ WordsE H l ws ∧ okW ws ∧ (∀ w ∈ ws, wordF (sV w) = true) ∧ H t = some (.tup us) ∧ Each TupI H (sqRows ws) us ∧ ∀ H', Ex H H' → Q (.bl true) H'
section
variable {P : Program} {w : World} {K : PySem.W.Frag} {mg : Str → Option Value} {base : Heap}
theorem b_l_behind_right (T : Tx K mg) : Binds K (fdOf K ("_law_behind_right", none)) ["_law_words_here", "_law_told"] [] := T.f_l_behind_right.bindsN fun _ _ _ _ _ _ us hl => match us, hl with | [_, _], _ => rfl
theorem ok_l_behind_right (T : Tx K mg) : FnOk P w K mg base CX0 6 (ga K "_law_behind_right") (fdOf K ("_law_behind_right", none)) ["_law_words_here", "_law_told"] (spBeh K) := by
  refine T.f_l_behind_right.ok sc_l_behind_right (fun vs H Q E h => ?_) (fun cdv A outer s H vs Q E hr h => ?_)
  · obtain ⟨l, t, ws, us, rfl, _⟩ := h
    rfl
  · have hu : (A.deeper (envOfC "_law_behind_right" (defScope s_l_behind_right) s.heap.objs.size (ga K "_law_behind_right") cdv)).units + 64 < cLine := by have := hr.units; omega
    have hu10 : (A.deeper (envOfC "_law_behind_right" (defScope s_l_behind_right) s.heap.objs.size (ga K "_law_behind_right") cdv)).units + 10 < cLine := by omega
    refine ⟨_, PSs.nox (pss_cons (ps_set (i := 2) sc_l_behind_right.nd rfl (.inl rfl) (pe_callB (cr_sortR (R := TupI) (enc := rowD) hu10) (by rfl) T.n_sorted (by decide +kernel) (pa_cons (pe_lc (own := [("_law_w", 3), ("_law_x", 4), ("_law_y", 5), ("_law_z", 6), ("_law_body", 7)]) (g := (gTup K 5 (gCons (gName 3) (gCons (gName 4) (gCons (gName 5) (gCons (gName 6) (gCons (gName 7) gNil))))))) (tt := tYes) (te := (tTup (tCons (tVar 3) (tCons (tVar 5) (tCons (tVar 4) (tCons (tVar 6) (tCons (tOp (rI0 fun i j => V.int (i - j)) (tOp (rI0 fun i j => V.int (i - j)) (tCB (fun xs H Q => ∃ x n, xs = [x] ∧ LenV K x H n ∧ Q (V.int n) H) (tCons (tOp (rIxL K) (tVar 0) (tVar 3)) tNil)) (tC (V.int 1))) (tVar 7)) tNil))))))) rfl sc_l_behind_right.nd (pi_tup (pv 1)) (blkOk_by (N := ["_law_words_here", "_law_told", "_law_mine", "_law_w", "_law_x", "_law_y", "_law_z", "_law_body", "_law_word"]) (sc := defScope s_l_behind_right) (by decide +kernel)) (fun _ _ _ _ _ => pg_tup rfl (pgs_cons (pg_name (i := 3) sc_l_behind_right.nd rfl (Or.inl rfl)) (pgs_cons (pg_name (i := 4) sc_l_behind_right.nd rfl (Or.inl rfl)) (pgs_cons (pg_name (i := 5) sc_l_behind_right.nd rfl (Or.inl rfl)) (pgs_cons (pg_name (i := 6) sc_l_behind_right.nd rfl (Or.inl rfl)) (pgs_cons (pg_name (i := 7) sc_l_behind_right.nd rfl (Or.inl rfl)) pgs_nil)))))) (fun _ _ _ _ _ => pts_nil) (fun _ _ _ _ _ => (pe_tup (pa_cons (pv 3) (pa_cons (pv 5) (pa_cons (pv 4) (pa_cons (pv 6) (pa_cons (pe_op op_sub (pe_op op_sub (pe_callB call_len (by rfl) T.n_len boot_len (pa_cons (pe_ix ix_list (pv 0) (pv 3) (fun _ _ => rfl)) pa_nil)) pe_int) (pv 7)) pa_nil)))))))) pa_nil)))
      (pss_one (ps_ret (pe_cmpR (op_eqD hu) (pe_callTy call_list_of (by rfl) T.n_list (by decide +kernel) (pa_cons (pe_call (ok_squares T) (hr.mono (by decide)) (by rfl) T.g_squares T.f_squares.kp (b_squares T) .nil passL (pa_cons (pe_lc (own := [("_law_word", 8)]) (g := (gName 8)) (tt := tYes) (te := tRevL K (tVar 8)) rfl sc_l_behind_right.nd (pi_list (pv 0)) (blkOk_by (N := ["_law_words_here", "_law_told", "_law_mine", "_law_w", "_law_x", "_law_y", "_law_z", "_law_body", "_law_word"]) (sc := defScope s_l_behind_right) (by decide +kernel)) (fun _ _ _ _ _ => pg_name (i := 8) sc_l_behind_right.nd rfl (Or.inl rfl)) (fun _ _ _ _ _ => pts_nil) (fun _ _ _ _ _ => (pe_revL (pv 8)))) pa_nil)) pa_nil)) (pv 2) (nomark _))))), ?_⟩
    -- slots: [(0, '_law_words_here'), (1, '_law_told'), (2, '_law_mine'), (3, '_law_w'), (4, '_law_x'), (5, '_law_y'), (6, '_law_z'), (7, '_law_body'), (8, '_law_word')]
    obtain ⟨l, t, ws, us, rfl, hW, ok, good, ht, each, k⟩ := h
    have stS : ∀ ns : List Int, Stab (TupI ns) := fun ns => stabN_ex (tupI_st ns)
    have few : (sqRows ws).length ≤ 24576 := by
      have z := (sortB_perm rowD (sqRaw ws)).length_eq
      have y := rawW_len ok ws.length (Nat.le_refl _)
      have := ok.1
      have e : (sqRaw ws).length = (rawW ws ws.length).length := rfl
      have e2 : (sqRows ws).length = (sortB rowD (sqRaw ws)).length := rfl
      omega
    have mem : ∀ r ∈ sqRows ws, ∃ w x y z b, r = rowN w x y z b ∧ Sq ws w x y z b := fun r hr => mem_raw.mp ((sortB_perm rowD (sqRaw ws)).mem_iff.mp hr)
    have comp : EvLP (tLc (iTup K (tVar 1)) (gTup K 5 (gCons (gName 3) (gCons (gName 4) (gCons (gName 5) (gCons (gName 6) (gCons (gName 7) gNil)))))) tYes (tTup (tCons (tVar 3) (tCons (tVar 5) (tCons (tVar 4) (tCons (tVar 6) (tCons (tOp (rI0 fun i j => V.int (i - j)) (tOp (rI0 fun i j => V.int (i - j)) (tCB (rLenV K) (tCons (tOp (rIxL K) (tVar 0) (tVar 3)) tNil)) (tC (V.int 1))) (tVar 7)) tNil)))))) [3, 4, 5, 6, 7]) (L2.start ["_law_words_here", "_law_told", "_law_mine", "_law_w", "_law_x", "_law_y", "_law_z", "_law_body", "_law_word"] [.ref l, .ref t]) H TupI ((sqRows ws).map (flipR ws)) := by
      refine EvLP.mapL (flipR ws) ?_
      rw [← filter_all (sqRows ws)]
      refine el_lcTG (fun r => tupI_st _) stS (fun _ => true) (fun r => [some (.ref l), some (.ref t), none, some (.int (r.getD 0 0)), some (.int (r.getD 1 0)), some (.int (r.getD 2 0)), some (.int (r.getD 3 0)), some (.int (r.getD 4 0)), none]) (ts_var stS (ev_var rfl) (SqT.of ht) each) (by omega) (fun _ => rfl) (fun r hr v H' hv N n => ?_) (fun _ _ _ _ => et_yes) (fun r H8 e8 hr _ => ?_)
      · obtain ⟨w, x, y, z, b, rfl, sq⟩ := mem r hr
        obtain ⟨p, rfl, hp⟩ := hv
        exact ⟨p, _, rfl, SqT.of hp, rfl, _, _, rfl, _, _, rfl, _, _, rfl, _, _, rfl, _, _, rfl, rfl, n⟩
      · obtain ⟨w, x, y, z, b, rfl, sq⟩ := mem r hr
        have hw : w < ws.length := by have := sq.1; have := sq.2.1; omega
        obtain ⟨wa, hwa, wEv⟩ := hW.at (K := K) hw
        exact evp_tupI (ns := flipR ws (rowN w x y z b)) (ea_cons (ev_var rfl) (ea_cons (ev_var rfl) (ea_cons (ev_var rfl) (ea_cons (ev_var rfl) (ea_cons (ev_op (ev_op (ev_is (ev_lenQ (wEv e8 (ev_var rfl) (ev_var rfl)) (.inl (SqL.of (e8 _ _ hwa)))) (by rw [sV_len]; rfl)) ev_c rv_I0) (ev_var rfl) rv_I0) ea_nil))))) (by show 5 ≤ 1000; decide)
    have nn : ∀ r ∈ (sqRows ws).map (flipR ws), r ≠ [] := fun r hr => by
      obtain ⟨_, _, rfl⟩ := List.mem_map.mp hr
      exact List.cons_ne_nil _ _
    have so := lp_sorted (K := K) (enc := rowD) stS comp.src (fun ns _ v H1 h => tupI_dp h) (rows_alike _) (rows_sortable nn) (by rw [List.length_map]; omega) (fun ns _ => rowD_depth ns)
    rw [behind_eq] at so
    refine asg_go (so H (Ex.refl H) _ fun m ms H1 nm e1 hm eachM => ?_)
    have hW1 := hW.ex e1
    obtain ⟨lus, hl1, eachL⟩ := hW1.each
    refine s_ret (ev_is (ev_eqD (d := .list ((sqRows (ws.map List.reverse)).map rowD)) (e := .list ((sqRows (ws.map List.reverse)).map rowD)) (fun H2 e2 Q2 q2 => ?_) (fun H2 e2 Q2 q2 => ⟨_, rfl, q2 _ H2 (Ex.refl H2) (.lst (SqL.of (e2 _ _ hm)) (dp_rows (eachM.exS stS e2)))⟩) (rows_shaped _) (rows_shaped _)) (by rw [eqv_same (rows_shaped _)])) fun H2 e2 => k H2 (e1.trans e2)
    let R1 : List Str → V → Hp → Prop := fun w v H => LstIs (sV w) v H ∧ wordF (sV w) = true
    have eachL2 := eachL.exS (fun w => lstIs_st _) e2
    have lc : EvLP (tLc (iList K (tVar 0)) (gName 8) tYes (tRevL K (tVar 8)) [8]) [some (.ref l), some (.ref t), some (.ref m), none, none, none, none, none, none] H2 (fun p : V × List Str => R1 p.2.reverse) (lus.zip ws) := by
      refine el_lcLN (α := V × List Str) (K := K) (tl := tVar 0) (te := tRevL K (tVar 8)) (g := gName 8) (vs := [8]) (σ := [some (.ref l), some (.ref t), some (.ref m), none, none, none, none, none, none]) (H := H2) (xs := lus.zip ws) (R := fun p : V × List Str => R1 p.2.reverse) (Y := fun (p : V × List Str) v H => v = p.1 ∧ LstIs (sV p.2) v H) (fun x v D H H' r n o => And.intro (lstIs_off (D := D) (H := H) r.1 n o) r.2) (zipS fun w => lstIs_st _) (fun (p : V × List Str) => [some (.ref l), some (.ref t), some (.ref m), none, none, none, none, none, some p.1]) (ls_var (zipS fun w => lstIs_st _) (ev_var rfl) (SqL.of (e2 _ _ hl1)) (each_zip eachL2)) (by have := ok.1; rw [List.length_zip]; omega) (fun _ => rfl) (fun p hp v H' hv N n => by cases hv.1; exact n) (fun p H3 e3 hp => ?_)
      have hw : p.2 ∈ ws := (List.of_mem_zip hp).2
      obtain ⟨i, hi⟩ := List.mem_iff_getElem?.mp hp
      obtain ⟨v, hv, rv⟩ := (each_zip eachL2).at hi
      obtain ⟨e, a, ea, ha⟩ := rv
      exact EvN.and (He.EvL.new (by
        rw [show sV p.2.reverse = (sV p.2).reverse from List.map_reverse]
        exact el_revL (ev_is (ev_var rfl) (e.symm.trans ea)) (SqL.of (e3 _ _ ha)))) (wordF_rev (good _ hw))
    have lc2 := EvLP.mapL (R := R1) (fun p : V × List Str => p.2.reverse) lc
    rw [show (lus.zip ws).map (fun p : V × List Str => p.2.reverse) = ws.map List.reverse by rw [show (fun p : V × List Str => p.2.reverse) = List.reverse ∘ Prod.snd from rfl, ← List.map_map, zip_snd eachL2.len]] at lc2
    refine cons_go (call_go (cons_go (lc2 H2 (Ex.refl H2) _ fun p us2 H3 np e3 hp each2 => ⟨_, rfl, .inr (.inr ⟨us2, _, ⟨p, rfl, .inl (SqL.of hp)⟩, by rw [← each2.len, List.length_map]; have := ok.1; omega, Each.imp (fun w v r => ?_) each2, .inr ⟨by rw [List.length_map]; exact ok.1, fun p' us' H' np' e' hp' each' => ⟨p', us', rfl, .inr (SqT.of hp'), fun r nr => q2 _ _ ((e3.trans e').trans (Ex.new nr)) (.lst (SqL.of upd_same) (dp_rows (each'.exS stS (Ex.new nr))))⟩⟩⟩)⟩)))
    obtain ⟨⟨a, rfl, ha⟩, g⟩ := r
    exact ⟨⟨a, rfl, .inl (SqL.of ha)⟩, g⟩
end
end K82
set_option Elab.async false
set_option linter.all false
set_option maxRecDepth 100000
set_option maxHeartbeats 0
set_option autoImplicit false
namespace K82
open PySem PySem.Spec PyProof.Rows L2 He Evl
abbrev R : PySem.W.OpenRow := PySem.W.OpenLaw.row PySem.Challenge.rw_mutesigns_k82_squares_of_words
def tabl : List He.Defn := [("_law_refused_right", none)]
abbrev hk : PySem.W.Hook := hookZ 5 chk facl defl edl tabl
def ob (s : PySem.W.SharedT) : He.AlD × Bool := obsZ 5 chk facl defl edl tabl (HandSHeadRun.getT s)
theorem ob_eq (s : PySem.W.SharedT) : ob s = hk.obs s.abs := obsZ_eq (HandSHeadRun.getT_eq s)
def loose0 : List Str := ["is_name", "is_list", "are_names", "is_word", "check_many", "squares", "_squares_with", "_begins", "_ends", "_head_of", "_is_of", "_law_ear", "_law_pull", "_law_one", "_law_words", "_law_due", "_law_behind_right", "_law_heard", "_law_refused_right", "SignError", "BadWord", "TooMany", "LETTERS", "NAME_MARKS", "MOST_MARKS", "MOST_IN_WORD", "MOST_WORDS"]
abbrev looseAll : List Str := loose0
theorem run (w : World) : HandSHeadRun.RunEq R (PySem.W.view R.prog [31]) hk ob 9000 looseAll w := by
  intro os
  kernel_rfl
end K82
set_option Elab.async false
set_option linter.all false
set_option maxRecDepth 100000
set_option maxHeartbeats 4000000
set_option autoImplicit false
/-! the call with a keyword that k82's law makes. -/
namespace K82
open PySem PySem.Spec PyProof.Rows L2 He Evl
section
variable {P : Program} {w : World} {K : PySem.W.Frag} {mg : Str → Option Value} {base : Heap}
theorem kb_squares_words_0 (T : Tx K mg) : KBn K (fdOf K ("squares", none)) ["words"] 0 ["words"] (fun us ws => us ++ ws) (fun us ws => us ++ ws) := T.f_squares.kbindsP 0 ["words"] (fun us ws => us ++ ws) (fun r1 r2 => r1.append r2) fun _ _ _ _ _ _ us ws l1 l2 => match us, ws, l1, l2 with | [], [_], _, _ => rfl
end
end K82
set_option Elab.async false
set_option linter.all false
set_option maxRecDepth 100000
set_option maxHeartbeats 4000000
set_option autoImplicit false
namespace K82
open PySem PySem.Spec PyProof.Rows L2 He Evl Odd SortD
/-! words as data -/
theorem name_okS {z : Str} (h : nameV (.str z) = true) : PyData.strOk z = true := by
  have h2 : nameB z = true := h
  unfold nameB at h2
  rw [Bool.and_eq_true] at h2
  have h3 := List.all_eq_true.mp h2.2
  unfold PyData.strOk
  rw [← Array.all_toList, List.all_eq_true]
  intro c hc
  have m := of_decide_eq_true (h3 c hc)
  have all : ∀ c ∈ nameMarks.cps.toList, c < 1114112 := by decide +kernel
  exact decide_eq_true (all c m)
theorem lay_strs : ∀ {xs : List Str}, (∀ x ∈ xs, PyData.strOk x = true) → PyData.canLayAll0 (xs.map PyData.str) = true ∧ PyData.depthAll (xs.map PyData.str) = 0
  | [], _ => ⟨by simp [PyData.canLayAll0], by simp [PyData.depthAll]⟩
  | x :: xs, h => by
    obtain ⟨h1, h2⟩ := lay_strs (xs := xs) fun y hy => h y (List.mem_cons_of_mem _ hy)
    rw [List.map_cons]
    exact ⟨by simp [PyData.canLayAll0, PyData.canLay0, h x List.mem_cons_self, h1], by simp [PyData.depthAll, PyData.depth, h2]⟩
def wD (w : List Str) : PyData := .list (w.map PyData.str)
theorem lay_words : ∀ {ws : List (List Str)}, (∀ w ∈ ws, ∀ x ∈ w, PyData.strOk x = true) → PyData.canLayAll0 (ws.map wD) = true ∧ PyData.depthAll (ws.map wD) ≤ 1
  | [], _ => ⟨by simp [PyData.canLayAll0], by simp [PyData.depthAll]⟩
  | w :: ws, h => by
    obtain ⟨h1, h2⟩ := lay_words (ws := ws) fun y hy => h y (List.mem_cons_of_mem _ hy)
    obtain ⟨g1, g2⟩ := lay_strs (h w List.mem_cons_self)
    rw [List.map_cons]
    refine ⟨?_, ?_⟩
    · simp only [PyData.canLayAll0, wD, PyData.canLay0, g1, Bool.true_and]
      exact h1
    · simp only [PyData.depthAll, wD, PyData.depth, g2]
      exact Nat.max_le.mpr ⟨by omega, h2⟩
theorem words_shaped {ws : List (List Str)} (h : ∀ w ∈ ws, wordF (sV w) = true) : SeqAt.shaped (.list (ws.map wD)) = true := by
  have ok : ∀ w ∈ ws, ∀ x ∈ w, PyData.strOk x = true := fun w hw x hx => by
    have z := h w hw
    unfold wordF namesF at z
    exact name_okS (List.all_eq_true.mp (Bool.and_eq_true_iff.mp (Bool.and_eq_true_iff.mp z).1).2 _ (List.mem_map.mpr ⟨x, hx, rfl⟩))
  obtain ⟨h1, h2⟩ := lay_words ok
  unfold SeqAt.shaped
  rw [Bool.and_eq_true, PyData.canLay0, PyData.depth]
  exact ⟨h1, decide_eq_true (by omega)⟩
section
variable {K : PySem.W.Frag} {σ : L2.St} {H : Hp} {te : TE} {p l : Addr}
theorem dp_strs : ∀ w : List Str, DpAll K H (sV w) (w.map PyData.str)
  | [] => .nil
  | x :: w => .cons (.str x) (dp_strs w)
theorem dp_words : ∀ {ws : List (List Str)} {us : List V}, Each (fun w => LstIs (sV w)) H ws us → DpAll K H us (ws.map wD)
  | _, _, .nil => .nil
  | w :: _, _, .cons h t => .cons (by
    obtain ⟨a, rfl, ha⟩ := h
    exact .lst (SqL.of ha) (dp_strs w)) (dp_words t)
theorem callN0_go {sp : Sp} {gV : List V → List V → List V} {n : Nat} {E : XK} {tk : TA} {Q : VK} (h : tk σ H fun ws H1 => ([] : List V).length = 0 ∧ ws.length = n ∧ sp (gV [] ws) H1 Q E) : L2.tCallN 0 n sp gV E tNil tk σ H Q := h
/-- this list, off p -/
def LP (p : Addr) (w : List Str) (v : V) (H : Hp) : Prop := LstIs (sV w) v H ∧ v ≠ .ref p
theorem lp_st (p : Addr) (w : List Str) : Stab (LP p w) := fun v H H' h e => ⟨lstIs_st _ _ _ _ h.1 e, h.2⟩
theorem lp_off {p : Addr} {w : List Str} {v : V} {H H' : Hp} (h : LP p w v H) (o : Off p H H') : LP p w v H' := ⟨lstIs_off h.1 h.2 o, h.2⟩
theorem eachP {p : Addr} {H H' : Hp} (o : Off p H H') : ∀ {ws : List (List Str)} {us : List V}, Each (LP p) H ws us → Each (LP p) H' ws us
  | _, _, .nil => .nil
  | _, _, .cons h t => .cons (lp_off h o) (eachP o t)
theorem EvN.off {R : V → Hp → Prop} (hp : ∃ o, H p = some o) (h : EvN te σ H R) : EvN te σ H (fun v H => R v H ∧ v ≠ .ref p) := fun H1 e Q q => h H1 e _ fun a H2 na e2 r => q a H2 na e2 ⟨r, fun z => ne_of_none (e _ _ hp.choose_spec) na (V.ref.inj z).symm⟩
/-- the words that were drawn -/
structure WP (p l : Addr) (H : Hp) (us : List V) (ws : List (List Str)) : Prop where
  lp : l ≠ p
  hl : H l = some (.lst us)
  each : Each (LP p) H ws us
  ok : okW ws
  good : ∀ w ∈ ws, wordF (sV w) = true
  lw : ∀ v ∈ us, LW [p] 1 6 v H
theorem WP.mk' {us : List V} (lp : l ≠ p) (hl : H l = some (.lst us)) (few : us.length ≤ 8) (all : ∀ v ∈ us, LW [p] 1 6 v H) : ∃ ws, WP p l H us ws := by
  have gen : ∀ {us : List V}, (∀ v ∈ us, LW [p] 1 6 v H) → ∃ ws : List (List Str), Each (LP p) H ws us ∧ ∀ w ∈ ws, wordF (sV w) = true := by
    intro us
    induction us with
    | nil => exact fun _ => ⟨[], .nil, fun _ h => nomatch h⟩
    | cons v us ih =>
      intro h
      obtain ⟨ws, h1, h2⟩ := ih fun u hu => h u (List.mem_cons_of_mem _ hu)
      have hv := h v List.mem_cons_self
      obtain ⟨a, w, rfl, na, ha, l1, l6, nm⟩ := hv
      refine ⟨w :: ws, .cons ⟨⟨a, rfl, ha⟩, fun z => na (by rw [V.ref.inj z]; exact List.mem_singleton.mpr rfl)⟩ h1, fun y hy => ?_⟩
      rcases List.mem_cons.mp hy with rfl | hy
      · unfold wordF namesF
        rw [sV_len, decide_eq_true (by omega : 0 < y.length), decide_eq_true l6, Bool.true_and, Bool.and_true]
        refine List.all_eq_true.mpr fun x hx => ?_
        obtain ⟨z, hz, rfl⟩ := List.mem_map.mp hx
        exact nm z hz
      · exact h2 y hy
  obtain ⟨ws, h1, h2⟩ := gen all
  refine ⟨ws, lp, hl, h1, ⟨by rw [h1.len]; exact few, fun x hx => wordF_len (h2 _ ?_)⟩, h2, all⟩
  unfold at_
  rw [List.getD_eq_getElem?_getD, List.getElem?_eq_getElem hx]
  exact List.getElem_mem hx
theorem WP.off {us : List V} {ws : List (List Str)} {H' : Hp} (h : WP p l H us ws) (o : Off p H H') : WP p l H' us ws := ⟨h.lp, o _ _ h.hl h.lp, eachP o h.each, h.ok, h.good, fun v hv => (h.lw v hv).st (Off2.off o) fun _ z => z⟩
theorem WP.ex {us : List V} {ws : List (List Str)} {H' : Hp} (h : WP p l H us ws) (e : Ex H H') : WP p l H' us ws := h.off (Off.of e)
theorem WP.words {us : List V} {ws : List (List Str)} (h : WP p l H us ws) : WordsE H l ws := by
  have gen : ∀ {ws : List (List Str)} {us : List V}, Each (LP p) H ws us → ∃ as : List Addr, us = as.map V.ref ∧ as.length = ws.length ∧ ∀ (i : Nat) (a : Addr) (w : List Str), as[i]? = some a → ws[i]? = some w → H a = some (.lst (sV w)) := by
    intro ws us h
    induction h with
    | nil => exact ⟨[], rfl, rfl, fun i a w h => nomatch h⟩
    | cons h1 _ ih =>
      obtain ⟨⟨a, rfl, ha⟩, _⟩ := h1
      obtain ⟨as, rfl, l, h3⟩ := ih
      refine ⟨a :: as, rfl, congrArg (· + 1) l, fun i b w x y => ?_⟩
      cases i with
      | zero => cases x; cases y; exact ha
      | succ i => exact h3 i b w x y
  obtain ⟨as, rfl, l2, h3⟩ := gen h.each
  exact ⟨as, h.hl, l2, h3⟩
theorem WP.eachL {us : List V} {ws : List (List Str)} (h : WP p l H us ws) : Each (fun w => LstIs (sV w)) H ws us := h.each.fst
/-- words, as lists or as tuples, off p -/
def WQ (p : Addr) (w : List Str) (v : V) (H : Hp) : Prop := ∃ a, v = .ref a ∧ a ≠ p ∧ (H a = some (.lst (sV w)) ∨ H a = some (.tup (sV w)))
def GW (p : Addr) (ws : List (List Str)) (x : V) (H : Hp) : Prop := ∃ b us, x = .ref b ∧ b ≠ p ∧ (H b = some (.lst us) ∨ H b = some (.tup us)) ∧ Each (WQ p) H ws us
theorem WQ.off {w : List Str} {v : V} {H' : Hp} (h : WQ p w v H) (o : Off p H H') : WQ p w v H' := let ⟨a, e, n, h⟩ := h; ⟨a, e, n, h.imp (fun z => o _ _ z n) fun z => o _ _ z n⟩
theorem eachQ {H' : Hp} (o : Off p H H') : ∀ {ws : List (List Str)} {us : List V}, Each (WQ p) H ws us → Each (WQ p) H' ws us
  | _, _, .nil => .nil
  | _, _, .cons h t => .cons (h.off o) (eachQ o t)
theorem GW.off {ws : List (List Str)} {x : V} {H' : Hp} (h : GW p ws x H) (o : Off p H H') : GW p ws x H' := let ⟨a, us, e, n, h, r⟩ := h; ⟨a, us, e, n, h.imp (fun z => o _ _ z n) (fun z => o _ _ z n), eachQ o r⟩
theorem eachG : ∀ {ws : List (List Str)} {us : List V}, (∀ w ∈ ws, wordF (sV w) = true) → Each (WQ p) H ws us → Each (GoodW K) H ws us
  | _, _, _, .nil => .nil
  | w :: _, _, g, .cons h t => .cons (by
    obtain ⟨a, rfl, _, h⟩ := h
    exact ⟨⟨a, rfl, h.imp SqL.of SqT.of⟩, g w List.mem_cons_self⟩) (eachG (fun y hy => g y (List.mem_cons_of_mem _ hy)) t)
end
end K82
set_option Elab.async false
set_option linter.all false
set_option maxRecDepth 100000
set_option maxHeartbeats 4000000
set_option autoImplicit false
/-! a look of two parts. -/
namespace He
open PySem PySem.Spec PyProof.Rows L2
theorem says_and {c1 c2 : PySem.W.Frag → Bool} {fa : List Fa} {fn : List DefD} {ex : List ED} {K : PySem.W.Frag} (c : SaysR (fun K => c1 K && c2 K) fa fn ex K) : SaysR c1 fa fn ex K ∧ c2 K = true := by
  obtain ⟨a, b⟩ := ba c.chk_
  refine ⟨?_, b⟩
  have z : SaysR (fun _ => true) fa fn ex K := by
    have y : obsR (fun K => c1 K && c2 K) fa fn ex K = obsR (fun _ => true) fa fn ex K := by
      unfold obsR
      simp only [a, b, Bool.true_and]
    exact y.symm.trans c
  have y : obsR c1 fa fn ex K = obsR (fun _ => true) fa fn ex K := by
    unfold obsR
    rw [a]
  exact y.trans z
end He
set_option Elab.async false
set_option linter.all false
set_option maxRecDepth 100000
set_option maxHeartbeats 4000000
set_option autoImplicit false
namespace K82
open PySem PySem.Spec PyProof.Rows L2 He Evl TL Lam LamX NdefX Odd SortD
def sp_law (K : PySem.W.Frag) : Sp := fun vs H Q _ => ∃ (a : Addr) (ns : List Int), vs = [.ref a] ∧ SqL K H a (ns.map V.int) ∧ ns.length ≤ 63 ∧ H (cT K defR).2 = some (.tbl #[]) ∧ ∀ H', Q (.bl true) H'
section
variable {P : Program} {w : World} {K : PySem.W.Frag} {mg : Str → Option Value} {base : Heap}
theorem b_law (T : Tx K mg) : Binds K (fdOf K ("law", none)) ["_law_script"] [] := T.f_law.bindsN fun _ _ _ _ _ _ us hl => match us, hl with | [_], _ => rfl
theorem b_l_refused_right (T : Tx K mg) : Binds K (fdOf K ("_law_refused_right", none)) ["_law_ear_here", "_law_words_here"] [] := T.f_l_refused_right.bindsN fun _ _ _ _ _ _ us hl => match us, hl with | [_, _], _ => rfl
theorem ok_law (T : Tx K mg) (B : TabB base mg (cT K defR).1 (cT K defR).2) : FnOk P w K mg base CX0 12 (ga K "law") (fdOf K ("law", none)) ["_law_script"] (sp_law K) := by
  refine T.f_law.ok sc_law (fun vs H Q E h => by obtain ⟨a, ns, rfl, _⟩ := h; rfl) (fun cdv A outer s H vs Q E hr h => ?_)
  have hu : (A.deeper (envOfC "law" (defScope s_law) s.heap.objs.size (ga K "law") cdv)).units + 64 < cLine := by have := hr.units; omega
  refine ⟨_, PSs.nox (pss_cons (ps_set (i := 1) sc_law.nd rfl (.inl rfl) (pe_call (ok_l_ear T) (hr.mono (by decide)) (by rfl) T.g_l_ear T.f_l_ear.kp (b_l_ear T) .nil pass0 (pa_cons (pv 0) pa_nil)))
    (pss_cons (ps_for PassesOwn.never rfl (pi_range1 (by rfl) T.n_range (pa_cons pe_int pa_nil)) (pg_name (i := 2) sc_law.nd rfl (.inl rfl))
      (pss_cons (ps_set (i := 3) sc_law.nd rfl (.inl rfl) (pe_call (ok_l_words T) (hr.mono (by decide)) (by rfl) T.g_l_words T.f_l_words.kp (b_l_words T) .nil pass0 (pa_cons (pv 1) pa_nil)))
      (pss_cons (ps_setLc (i := 4) (own := [("_law_word", 5)]) (g := (gName 5)) (tt := tYes) (te := tCB (rCopy K) (tCons (tVar 5) tNil)) (by rfl) sc_law.nd rfl rfl (sw_true rfl rfl rfl (by decide +kernel)) (pi_list (pv 3)) (blkOk_by (N := ["_law_script", "_law_ear_here", "_law_turn", "_law_words_here", "_law_held", "_law_word", "_law_told", "_law_row", "_law_number"]) (sc := defScope s_law) (by decide +kernel)) (fun _ _ _ _ _ => pg_name (i := 5) sc_law.nd rfl (Or.inl rfl)) (fun _ _ _ _ _ => pts_nil) (fun _ _ _ _ _ => (pe_callTy call_list_of (by rfl) T.n_list (by decide +kernel) (pa_cons (pv 5) pa_nil))))
      (pss_cons (ps_set (i := 6) sc_law.nd rfl (.inl rfl) (pe_callN0 (ok_squares T) (hr.mono (by decide)) (by rfl) T.g_squares T.f_squares.kp (kb_squares_words_0 T) passL (pk_cons (pe_call (ok_l_one T) (hr.mono (by decide)) (by rfl) T.g_l_one T.f_l_one.kp (b_l_one T) .nil pass0 (pa_cons (pv 1) (pa_cons (pe_lst (pa_cons (pv 3) (pa_cons (pe_callTy call_tuple_of (by rfl) T.n_tuple (by decide +kernel) (pa_cons (pe_lc (own := [("_law_word", 5)]) (g := (gName 5)) (tt := tYes) (te := tCB (rTupOf K) (tCons (tVar 5) tNil)) rfl sc_law.nd (pi_list (pv 3)) (blkOk_by (N := ["_law_script", "_law_ear_here", "_law_turn", "_law_words_here", "_law_held", "_law_word", "_law_told", "_law_row", "_law_number"]) (sc := defScope s_law) (by decide +kernel)) (fun _ _ _ _ _ => pg_name (i := 5) sc_law.nd rfl (Or.inl rfl)) (fun _ _ _ _ _ => pts_nil) (fun _ _ _ _ _ => (pe_callTy call_tuple_of (by rfl) T.n_tuple (by decide +kernel) (pa_cons (pv 5) pa_nil)))) pa_nil)) pa_nil))) pa_nil))) pk_nil)))
      (pss_cons (ps_if (PW.pt (pw_or (pt_not (pt_val (pe_callB call_isi (by rfl) T.n_isinstance (by decide +kernel) (pa_cons (pv 6) (pa_cons (pe_bltn (v := .ty "tuple") (by rfl) T.n_tuple (by decide +kernel) rfl) pa_nil))))) (pw_or (pt_cmpR (op_neD hu) (pe_callTy call_list_of (by rfl) T.n_list (by decide +kernel) (pa_cons (pv 6) pa_nil)) (pe_call (ok_l_due T) (hr.mono (by decide)) (by rfl) T.g_l_due T.f_l_due.kp (b_l_due T) .nil pass0 (pa_cons (pv 3) pa_nil)) (nomark _)) (pw_or1 (pt_cmpR (op_neD hu) (pv 3) (pv 4) (nomark _))))))
        (pss_one (ps_ret pe_bl))
        pss_nil)
      (pss_cons (ps_if (pt_cmpR (op_neL hr.units0) (pe_lc (own := [("_law_row", 7)]) (g := (gName 7)) (tt := tOr (tNot (tB (tCB (rIsi K) (tCons (tVar 7) (tCons (tC (V.ty "tuple")) tNil))))) (tTest (tOp (rNeL K) (tLc (iTup K (tVar 7)) (gName 8) (tB (tCB (rIsi K) (tCons (tVar 8) (tCons (tC (V.ty "bool")) tNil)))) (tVar 8) [8]) (tLst tNil)))) rfl sc_law.nd (pi_tup (pv 6)) (blkOk_by (N := ["_law_script", "_law_ear_here", "_law_turn", "_law_words_here", "_law_held", "_law_word", "_law_told", "_law_row", "_law_number"]) (sc := defScope s_law) (by decide +kernel)) (fun _ _ _ _ _ => pg_name (i := 7) sc_law.nd rfl (Or.inl rfl)) (fun _ _ _ _ _ => pts_one (PW.pt (pw_or (pt_not (pt_val (pe_callB call_isi (by rfl) T.n_isinstance (by decide +kernel) (pa_cons (pv 7) (pa_cons (pe_bltn (v := .ty "tuple") (by rfl) T.n_tuple (by decide +kernel) rfl) pa_nil))))) (pw_or1 (pt_cmpR (op_neL hr.units0) (pe_lc (own := [("_law_number", 8)]) (g := (gName 8))  rfl sc_law.nd (pi_tup (pv 7)) (blkOk_in (N := ["_law_script", "_law_ear_here", "_law_turn", "_law_words_here", "_law_held", "_law_word", "_law_told", "_law_row", "_law_number"]) (by decide +kernel)) (fun _ _ _ _ _ => pg_name (i := 8) sc_law.nd rfl (Or.inl rfl)) (fun _ _ _ _ _ => pts_one (pt_val (pe_callB call_isi (by rfl) T.n_isinstance (by decide +kernel) (pa_cons (pv 8) (pa_cons (pe_bltn (v := .ty "bool") (by rfl) T.n_bool (by decide +kernel) rfl) pa_nil))))) (fun _ _ _ _ _ => (pv 8))) (pe_lst pa_nil) (nomark _)))))) (fun _ _ _ _ _ => (pv 7))) (pe_lst pa_nil) (nomark _))
        (pss_one (ps_ret pe_bl))
        pss_nil)
      (pss_one (ps_if (pt_not (pt_val (pe_call (ok_l_behind_right T) (hr.mono (by decide)) (by rfl) T.g_l_behind_right T.f_l_behind_right.kp (b_l_behind_right T) .nil pass0 (pa_cons (pv 3) (pa_cons (pv 6) pa_nil)))))
        (pss_one (ps_ret pe_bl))
        pss_nil))))))))
    (pss_one (ps_ret (pe_call (ok_l_refused_right T B) (hr.mono (by decide)) (by rfl) T.g_l_refused_right T.f_l_refused_right.kp (b_l_refused_right T) .nil pass0 (pa_cons (pv 1) (pa_cons (pv 3) pa_nil))))))), ?_⟩
  -- slots: [(0, '_law_script'), (1, '_law_ear_here'), (2, '_law_turn'), (3, '_law_words_here'), (4, '_law_held'), (5, '_law_word'), (6, '_law_told'), (7, '_law_row'), (8, '_law_number')]
  obtain ⟨a, ns, rfl, hq, hl, htR, k⟩ := h
  have tabs : Tabs (Tt K) H := fun m hm => by
    rw [List.mem_singleton.mp hm]
    exact TabS.nil htR
  refine q_asgD ⟨_, rfl, a, ns, rfl, hq, hl, fun p c H1 e1 pen1 => ?_⟩
  refine q_forR1 (ea_cons ev_c ea_nil) (by decide) (fun i σ' H' => (∃ u2 u3 u4 u5 u6 u7 u8, σ' = [some (.ref a), some (.ref p), u2, u3, u4, u5, u6, u7, u8] ∧ (1 ≤ i → ∃ l us ws, u3 = some (.ref l) ∧ WP p l H' us ws)) ∧ PenAt K (121 * i) H' p c ∧ Tabs (Tt K) H') (fun H2 e2 => ⟨⟨_, _, _, _, _, _, _, rfl, fun z => absurd z (by decide)⟩, pen1.ex e2, (tabs.ext e1).ext e2⟩) ?_ ?_
  · rintro i σ' H2 hi ⟨⟨u2, u3, u4, u5, u6, u7, u8, rfl, _⟩, pen2, tabs2⟩
    have i3 : i < 3 := by omega
    refine q_asgD ⟨_, rfl, p, c, 121 * i, rfl, pen2, by omega, fun l us H3 off3 pen3 lp nl hl3 few all => ?_⟩
    have tabs3 := tabs_off tabs2 (pen_at pen2).choose_spec off3
    obtain ⟨ws, W3⟩ := WP.mk' lp hl3 few all
    have w8 := W3.ok.1
    have lus : us.length = ws.length := W3.each.len.symm
    -- held
    have src : ∀ {σ' : L2.St} {H' : Hp}, σ'[3]? = some (some (.ref l)) → WP p l H' us ws → EvLS K (tVar 3) σ' H' (fun (q : V × List Str) v H => v = q.1 ∧ LP p q.2 v H) (us.zip ws) := fun h3 W => ls_var (zipS fun w => lp_st p w) (ev_var h3) (SqL.of W.hl) (each_zip W.each)
    have lc : EvLP (tLc (iList K (tVar 3)) (gName 5) tYes (tCB (rCopy K) (tCons (tVar 5) tNil)) [5]) [some (.ref a), some (.ref p), some (.int (i : Nat)), some (.ref l), u4, u5, u6, u7, u8] H3 (LP p) ws := by
      have z : EvLP (tLc (iList K (tVar 3)) (gName 5) tYes (tCB (rCopy K) (tCons (tVar 5) tNil)) [5]) [some (.ref a), some (.ref p), some (.int (i : Nat)), some (.ref l), u4, u5, u6, u7, u8] H3 (fun q : V × List Str => LP p q.2) (us.zip ws) := by
        refine el_lcLN (α := V × List Str) (K := K) (tl := tVar 3) (te := tCB (rCopy K) (tCons (tVar 5) tNil)) (g := gName 5) (vs := [5]) (σ := [some (.ref a), some (.ref p), some (.int (i : Nat)), some (.ref l), u4, u5, u6, u7, u8]) (H := H3) (xs := us.zip ws) (R := fun q : V × List Str => LP p q.2) (Y := fun (q : V × List Str) v H => v = q.1 ∧ LP p q.2 v H) (fun x v D H H' r n o => And.intro (lstIs_off (D := D) (H := H) r.1 n o) r.2) (zipS fun w => lp_st p w) (fun (q : V × List Str) => [some (.ref a), some (.ref p), some (.int (i : Nat)), some (.ref l), u4, some q.1, u6, u7, u8]) (src rfl W3) (by rw [List.length_zip]; omega) (fun _ => rfl) (fun q hq v H' hv N n => by cases hv.1; exact n) (fun q H4 e4 hq => ?_)
        obtain ⟨j, hj⟩ := List.mem_iff_getElem?.mp hq
        obtain ⟨v, hv, e, ⟨b, eb, hb⟩, _⟩ := (each_zip W3.each).at hj
        exact EvN.off (e4 _ _ pen3.there.choose_spec |> fun z => ⟨_, z⟩) (He.EvL.new (el_copy (ev_is (ev_var rfl) (e.symm.trans eb)) (.inl (SqL.of (e4 _ _ hb)))))
      have z2 := EvLP.mapL (R := LP p) Prod.snd z
      rw [zip_snd lus.symm] at z2
      exact z2
    refine q_asgD (lc H3 (Ex.refl H3) _ fun he hs H4 nhe e4 hhe eachH => ?_)
    have W4 := W3.ex e4
    have pen4 := pen3.ex e4
    have tabs4 := tabs3.ext e4
    have hep : he ≠ p := (ne_of_none pen3.there.choose_spec nhe).symm
    -- told
    have toQ : ∀ {H' : Hp} (w : List Str) (v : V), LP p w v H' → WQ p w v H' := fun w v h => by
      obtain ⟨⟨b, rfl, hb⟩, n⟩ := h
      exact ⟨b, rfl, fun z => n (by rw [z]), .inl hb⟩
    let RT : List Str → V → Hp → Prop := fun w v H => ∃ b, v = .ref b ∧ b ≠ p ∧ H b = some (.tup (sV w))
    have rtS : ∀ w, StabN (RT w) := fun w v H H' ⟨b, e, n, h⟩ x => ⟨b, e, n, x _ _ h fun _ y => nomatch y⟩
    have lcT : EvLP (tLc (iList K (tVar 3)) (gName 5) tYes (tCB (rTupOf K) (tCons (tVar 5) tNil)) [5]) [some (.ref a), some (.ref p), some (.int (i : Nat)), some (.ref l), some (.ref he), u5, u6, u7, u8] H4 RT ws := by
      have z : EvLP (tLc (iList K (tVar 3)) (gName 5) tYes (tCB (rTupOf K) (tCons (tVar 5) tNil)) [5]) [some (.ref a), some (.ref p), some (.int (i : Nat)), some (.ref l), some (.ref he), u5, u6, u7, u8] H4 (fun q : V × List Str => RT q.2) (us.zip ws) := by
        rw [← filter_all (us.zip ws)]
        refine el_lcLG (Y := fun (q : V × List Str) v H => v = q.1 ∧ LP p q.2 v H) (fun q => rtS q.2) (zipS fun w => lp_st p w) (fun _ => true) (fun (q : V × List Str) => [some (.ref a), some (.ref p), some (.int (i : Nat)), some (.ref l), some (.ref he), some q.1, u6, u7, u8]) (src rfl W4) (by rw [List.length_zip]; omega) (fun _ => rfl) (fun q hq v H' hv N n => by cases hv.1; exact n) (fun _ _ _ _ => et_yes) (fun q H5 e5 hq _ => ?_)
        obtain ⟨j, hj⟩ := List.mem_iff_getElem?.mp hq
        obtain ⟨v, hv, e, ⟨b, eb, hb⟩, _⟩ := (each_zip W4.each).at hj
        exact fun H6 e6 Q6 q6 => (eu_tupV (ev_is (ev_var rfl) (e.symm.trans eb)) (SqL.of (e5 _ _ hb))) H6 e6 _ fun d H7 nd e7 hd => q6 _ H7 e7 ⟨d, rfl, (ne_of_none ((e5.trans e6) _ _ pen4.there.choose_spec) nd).symm, hd⟩
      have z2 := EvLP.mapL (R := RT) Prod.snd z
      rw [zip_snd lus.symm] at z2
      exact z2
    have up := up_tupL (K := K) (fun w => stabN_ex (rtS w)) lcT.src (by omega)
    have tupE : EvP (tCB (rTupOf K) (tCons (tLc (iList K (tVar 3)) (gName 5) tYes (tCB (rTupOf K) (tCons (tVar 5) tNil)) [5]) tNil)) [some (.ref a), some (.ref p), some (.int (i : Nat)), some (.ref l), some (.ref he), u5, u6, u7, u8] H4 (GW p ws) := fun H5 e5 Q5 q5 => up H5 e5 _ fun b vs H6 nb e6 hb each => q5 _ H6 e6 ⟨b, vs, rfl, (ne_of_none (e5 _ _ pen4.there.choose_spec) nb).symm, .inr hb, each.imp fun w v h => by
      obtain ⟨d, rfl, nd, hd⟩ := h
      exact ⟨d, rfl, nd, .inr hd⟩⟩
    have gst : Stab (GW p ws) := fun v H H' g e => g.off (Off.of e)
    refine q_asgD (callN0_go (cons_go (run_oneG (G := GW p ws) (m := 2) (fun v H H' g o => g.off o) pen4 (by omega) (ev_var rfl) (lg_lst gst (all_cons gst (evp_ev (ev_var rfl) fun H5 e5 => ⟨l, us, rfl, lp, .inl (W4.ex e5).hl, (W4.ex e5).each.imp toQ⟩) (all_cons gst tupE all_nil)) (by decide)) (by decide) fun x H5 gx off5 pen5 => ⟨rfl, rfl, ?_⟩)))
    obtain ⟨xb, xs, rfl, nxb, hxb, eachX⟩ := gx
    refine ⟨_, rfl, .inr (.inr ⟨xs, ws, ⟨xb, rfl, hxb.imp SqL.of SqT.of⟩, by rw [← eachX.len]; omega, eachG W3.good eachX, .inr ⟨w8, fun t ts H6 nt e6 ht eachT => ?_⟩⟩)⟩
    have W6 := (W4.off off5).ex e6
    have eachH6 := (eachP off5 eachH).exS (fun w => lp_st p w) e6
    have hhe6 := e6 _ _ (off5 _ _ hhe hep)
    have pen6 := pen5.ex e6
    have tabs6 := (tabs_off tabs4 (pen_at pen4).choose_spec off5).ext e6
    have stS : ∀ ns : List Int, Stab (TupI ns) := fun ns => stabN_ex (tupI_st ns)
    refine q_when (b := false) (et_is (et_or (a := false) (et_is (et_not (et_B (ev_cb (ea_cons (ev_var rfl) (ea_cons ev_c ea_nil)) (rc_isi (kd_tup ht) (by decide))))) (by decide)) fun _ => et_or (a := false) (b := false) (et_is (et_test (ev_neD (d := .list ((sqRows ws).map rowD)) (e := .list ((sqRows ws).map rowD)) (ed_L (el_copy (ev_var rfl) (.inr (SqT.of ht))) fun H7 e7 => dp_rows (eachT.exS stS e7)) (fun H7 e7 Q7 q7 => call_go ⟨_, rfl, l, ws, rfl, W6.words.ex e7, W3.ok, fun r us' H' nr e' hr each' => q7 _ _ e' (.lst (SqL.of hr) (dp_rows each'))⟩) (rows_shaped _) (rows_shaped _))) (by rw [eqv_same (rows_shaped _)]; rfl)) fun _ => et_is (et_test (ev_neD (d := .list (ws.map wD)) (e := .list (ws.map wD)) (ed_ev (ev_var rfl) fun H7 e7 => .lst (SqL.of (e7 _ _ W6.hl)) (dp_words (W6.ex e7).eachL)) (ed_ev (ev_var rfl) fun H7 e7 => .lst (SqL.of (e7 _ _ hhe6)) (dp_words (Each.fst (eachH6.exS (fun w => lp_st p w) e7)))) (words_shaped W3.good) (words_shaped W3.good))) (by rw [eqv_same (words_shaped W3.good)]; rfl)) rfl) (fun z => nomatch z) fun _ H7 e7 => ?_
    -- no row but tuples of ints
    have nl2 : ∀ {te : TE} {σ' : L2.St} {H' : Hp}, EvL te σ' H' [] → EvT (tTest (tOp (rNeL K) te (tLst tNil))) σ' H' false := fun h => et_is (et_test (ev_opLL h (el_lst ea_nil (Nat.zero_le _)) fun p q H1 hp hq _ => rv_neLS (us := []) (vs := []) (SqL.of hp) (SqL.of hq))) rfl
    have g0 : ∀ (n : Nat) (v : Nat → V), given n (fun _ => false) v = [] := fun n v => by
      unfold given
      rw [List.filter_eq_nil_iff.mpr (fun _ _ => by decide)]
      rfl
    have ht7 := e7 _ _ ht
    have each7 := eachT.exS stS e7
    have fewT : ts.length ≤ 40000 := by
      have z := (sortB_perm rowD (sqRaw ws)).length_eq
      have y := rawW_len W3.ok ws.length (Nat.le_refl _)
      have e : (sqRaw ws).length = (rawW ws ws.length).length := rfl
      have e2 : (sqRows ws).length = (sortB rowD (sqRaw ws)).length := rfl
      have := eachT.len
      omega
    refine q_when (b := false) (nl2 ?_) (fun z => nomatch z) fun _ H8 e8 => ?_
    · rw [← g0 ts.length (fun _ => .non)]
      refine el_lcT _ _ (ev_var rfl) (SqT.of ht7) fewT (fun _ => rfl) (fun m v H8 e8 hv => ?_) (fun m v H8 e8 hv z => nomatch z)
      obtain ⟨r, hr, b, rfl, hb⟩ := each7.get hv
      have hb8 := e8 _ _ hb
      refine et_is (et_or (a := false) (b := false) (et_is (et_not (et_B (ev_cb (ea_cons (ev_var rfl) (ea_cons ev_c ea_nil)) (rc_isi (kd_tup hb8) (by decide))))) (by decide)) fun _ => nl2 ?_) rfl
      rw [← g0 (r.map V.int).length (fun _ => .non)]
      refine el_lcT _ _ (ev_var rfl) (SqT.of hb8) ?_ (fun _ => rfl) (fun m' v' H9 e9 hv' => ?_) (fun m' v' H9 e9 hv' z => nomatch z)
      · obtain ⟨w', x', y', z', b', rfl, _⟩ := mem_raw.mp ((sortB_perm rowD (sqRaw ws)).mem_iff.mp (List.mem_of_getElem? hr))
        show 5 ≤ 40000
        decide
      · rw [List.getElem?_map] at hv'
        obtain ⟨j, _, rfl⟩ := Option.map_eq_some_iff.mp hv'
        exact et_is (et_B (ev_cb (ea_cons (ev_var rfl) (ea_cons ev_c ea_nil)) (rc_isi (kd_int j) (by decide)))) (by decide)
    have e78 := e7.trans e8
    refine s_when (b := false) (et_is (et_not (et_B (ev_call (ea_cons (ev_var rfl) (ea_cons (ev_var rfl) ea_nil)) (z := .bl true) fun H9 e9 Q9 q9 E9 => ⟨l, t, ws, ts, rfl, W6.words.ex (e78.trans e9), W3.ok, W3.good, (e78.trans e9) _ _ ht, eachT.exS stS (e78.trans e9), q9⟩))) rfl) (fun z => nomatch z) fun _ H9 e9 => ?_
    have e69 := e78.trans e9
    exact ⟨⟨_, _, _, _, _, _, _, rfl, fun _ => ⟨l, us, ws, rfl, W6.ex e69⟩⟩, (pen6.ex e69).mono (by omega), tabs6.ext e69⟩
  · rintro σ' H2 ⟨⟨u2, u3, u4, u5, u6, u7, u8, rfl, fin⟩, pen2, tabs2⟩
    have pen2 : PenAt K 363 H2 p c := pen2
    obtain ⟨l, us, ws, rfl, W⟩ := fin (by decide)
    exact ⟨_, rfl, _, rfl, p, c, l, us, 363, rfl, pen2, by omega, W.lp, W.hl, by rw [← W.each.len]; exact W.ok.1, W.lw, tabs2, k⟩
end
end K82
open PySem PySem.W PySem.Calls PyProof.Rows
set_option maxRecDepth 100000 in
set_option maxHeartbeats 0 in
theorem PySem.Challenge.cw_mutesigns_k82_squares_of_words_holds : PySem.Challenge.rw_mutesigns_k82_squares_of_words.Holds := by
  w_on; o_law
  refine HandSHeadRun.head_any (r := OpenLaw.row PySem.Challenge.rw_mutesigns_k82_squares_of_words) (q := view (OpenLaw.row PySem.Challenge.rw_mutesigns_k82_squares_of_words).prog [31]) (H := K82.hk) (ob := K82.ob) (M := 9000) (loose := K82.looseAll) (d := HandSHeadRun.topDef (OpenLaw.row PySem.Challenge.rw_mutesigns_k82_squares_of_words).prog 31) (kwd := []) K82.ob_eq
    (by kernel_rfl) (fun s => by kernel_rfl) K82.run (by kernel_rfl) (by kernel_rfl) (by kernel_rfl) (by rfl) (by first | assumption | decide +kernel) (by decide +kernel) ⟨rfl, rfl, rfl, rfl, rfl, by decide +kernel⟩ ?hw ?hc
  case hw => w_witness2
  case hc =>
    refine LamX.walk_ofTsE (l := PySem.Challenge.rw_mutesigns_k82_squares_of_words) (n := 63) (k := 12) (x := "_law_script") (CX := fun _ => L2.CX0) rfl (by decide) (by kernel_rfl) ⟨rfl, by decide, by decide⟩ ?F (fun _ _ _ _ _ z => z)
    intro w mg fa h Y G hmg0
    obtain ⟨K, KX, c⟩ := Y
    have hmg : mg ("law" : PySem.Str) = some (.ref fa) := by
      have e : (HandSHeadRun.topDef (OpenLaw.row PySem.Challenge.rw_mutesigns_k82_squares_of_words).prog 31).name = ("law" : PySem.Str) := by kernel_rfl
      rw [← e]
      exact hmg0
    have T := K82.tx_of KX G c.r
    have e := hmg.symm.trans T.g_law
    cases e
    have one : ∀ {q : PySem.Addr × PySem.Addr}, q ∈ [He.cT K K82.defR] → q = He.cT K K82.defR := fun m => List.mem_singleton.mp m
    refine ⟨K, KX, He.fdOf K ("law", none), [He.cT K K82.defR], K82.sp_law K, fun q m => ?_, fun q m => ?_, fun q m => ?_, fun s v => T.f_law.bindsA (ps := ["_law_script"]) (fun _ _ _ _ _ _ us hl => match us, hl with | [_], _ => rfl) s [v] rfl, fun H a ns hl _ hH hS => ⟨a, ns, rfl, hS, hl, hH _ (List.mem_singleton.mpr rfl), fun _ => rfl⟩, fun base _ _ B => K82.ok_law T (B _ (List.mem_singleton.mpr rfl))⟩
    · rw [one m]
      exact c.empty K82.defR (List.mem_singleton.mpr rfl)
    · rw [one m]
      exact c.out K82.defR (List.mem_singleton.mpr rfl)
    · rw [one m]
      exact PySem.W.codeHd_of_K KX (c.hd K82.defR (List.mem_singleton.mpr rfl))
