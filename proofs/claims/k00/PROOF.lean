import PyProof.Rows.All
import Wide.All
import OpenK.AllK
import Wide.FinOn
import KE.KStateDown
import Lean
import HandS.Base
import HandS.Call
import HandS.Ends
import HandS.More
import HandS.Words
import HandS.WordsExc
import HandS.Defaults
import HandS.Head0
import HandS.Head1
import HandS.Head2
import HandS.HeadEnd
import HandS.HeadHook1
import HandS.HeadHook2
import PyProof.EqAt
import PyProof.EqKinds
import PyProof.NeKinds
import PyProof.TupleCall
import KE.KFromBytes
import KE.KExcIs
import HandS.List
import HandS.Exc
import HandS.ExcOwn
import HandS.ExcInit
import HandS.ExcField
import HandS.IsInst
import HandS.Evl
import HandS.ExcValue
import HandS.WordsList
import PySem.Challenge.RW_mutesigns_k00_errors_and_checks
import HandS.ForMost
import HandS.Steps
import HandS.Flow
import HandS.DictComp
import HandS.SetKeys
import HandS.Walk
import HandS.Style
import PyProof.ListStr
import PyProof.StrOps2
import KE.GoesMore
set_option Elab.async false
set_option linter.all false
set_option maxRecDepth 100000
set_option maxHeartbeats 4000000
/-! A head by facts, with any Bool look at the written part besides. -/
namespace Hx
open PySem PySem.Spec PyProof.Rows L2 He
def obsX (chk : PySem.W.Frag → Bool) (fa : List Fa) (fn : List DefD) (K : PySem.W.Frag) : AlD := (chk K && ((fa.all fun f => f.ok K) && fn.all fun d => d.ok K), fn.map fun d => fnW K d.at_)
def SaysX (chk : PySem.W.Frag → Bool) (fa : List Fa) (fn : List DefD) (K : PySem.W.Frag) : Prop := obsX chk fa fn K = valD fn
def obsXG (n : Nat) (chk : PySem.W.Frag → Bool) (fa : List Fa) (fn : List DefD) (g : Addr → Option Obj) : AlD := obsX chk fa fn (frG g (asD g n))
def hookX (n : Nat) (chk : PySem.W.Frag → Bool) (fa : List Fa) (fn : List DefD) : PySem.W.Hook where
  α := AlD
  obs := fun s => obsXG n chk fa fn s.heap.get?
  val := fun _ => valD fn
  says := fun _ h => ∃ K : PySem.W.Frag, K.In h ∧ SaysX chk fa fn K
  of := fun _ _ e => ⟨_, frG_in, e⟩
  keeps := fun _ _ _ ⟨K, hK, c⟩ k => ⟨K, PySem.W.Frag.In.keeps hK k, c⟩
theorem obsXG_eq {n : Nat} {chk : PySem.W.Frag → Bool} {fa : List Fa} {fn : List DefD} {g : Addr → Option Obj} {s : Shared} (h : ∀ a, g a = s.heap.get? a) : obsXG n chk fa fn g = (hookX n chk fa fn).obs s := by
  have e : g = s.heap.get? := funext h
  rw [e] <;> rfl
section
variable {chk : PySem.W.Frag → Bool} {fa : List Fa} {fn : List DefD} {K : PySem.W.Frag}
theorem SaysX.chk_ (c : SaysX chk fa fn K) : chk K = true := (ba (show (chk K && ((fa.all fun f => f.ok K) && fn.all fun d => d.ok K)) = true from congrArg (fun z : AlD => z.1) c)).1
theorem SaysX.says (c : SaysX chk fa fn K) : SaysD fa fn K := by
  have h1 := (ba (show (chk K && ((fa.all fun f => f.ok K) && fn.all fun d => d.ok K)) = true from congrArg (fun z : AlD => z.1) c)).2
  have h2 : fn.map (fun d => fnW K d.at_) = fn.map DefD.val := congrArg (fun z : AlD => z.2) c
  show ((fa.all fun f => f.ok K) && fn.all fun d => d.ok K, fn.map fun d => fnW K d.at_) = (true, fn.map DefD.val)
  rw [h1, h2]
end
end Hx
set_option Elab.async false
set_option linter.all false
set_option maxRecDepth 100000
set_option maxHeartbeats 4000000
/-! Own exceptions as values: made by place or by name, their fields read, isinstance asked of them. -/
namespace PySem
namespace XV
open PySem.W PySem.Calls PyProof.Rows PySem.HandSPX
section
open Builtin Builtin.ObjectAttr
variable {M : Model} {A : Around} {E : Value → Shared → Prop} {h : Heap} {g : Array GenState} {d : Drawn} {t : Nat} {os : OsState}
variable {nm q : Str} {C N : Addr} {bs bm bmB : List Value} {hdct : Bool} {sn : List Str} {sub : List Value} {ab : Bool} {col : Option Bool} {dd : Option Addr} {k0 k1 k2 k3 k5 : Option Value} {B newId initId : String}
theorem check_newK (F : ExcBaseFacts B newId initId bmB) (hT : ∀ X : String, bm.contains (.type X) = bmB.contains (.type X)) {rest : List Value} {kw : List (Str × Value)} {Q : Unit → Shared → Prop}
    (hC : h.get? C = some (excClassObj nm q C N bs bm hdct sn sub ab col dd k0 k1 k2 k3 k5 newId)) (hq : Q () ⟨h, g, d, t, os⟩) : wpAny M A (checkBuiltinCall newId ⟨.ref C :: rest, kw⟩) Q E ⟨h, g, d, t, os⟩ := by
  have hcont : (Value.ref C :: bm).contains (.type B) = true := by rw [List.contains_cons, hT, F.hasB, Bool.or_true]
  have hstar := F.noStar
  simp only [checkBuiltinCall, F.newKind, F.newSplit, F.newRow]
  repeat (first | refine wpAny_loadPart_at hC ?_ | (refine wpAny_isSubtype_exc hC ?_; rw [hcont]) | refine wpAny_staticBase_exc hC ?_ | refine wpAny_madeBy_exc hC ?_ | simp only [bne_self_eq_false, Bool.false_eq_true, if_false] | wp_step)
  exact hq
theorem check_type_callK {rest : List Value} {kw : List (Str × Value)} {Q : Unit → Shared → Prop} (hC : h.get? C = some (excClassObj nm q C N bs bm hdct sn sub ab col dd k0 k1 k2 k3 k5 newId))
    (hq : Q () ⟨h, g, d, t, os⟩) : wpAny M A (checkBuiltinCall "type.__call__" ⟨.ref C :: rest, kw⟩) Q E ⟨h, g, d, t, os⟩ := by
  have f3 := tc_sub
  have hT : (⟨h, g, d, t, os⟩ : Shared).TypeIs (.ref C) "type" := ⟨_, hC, rfl⟩
  simp only [checkBuiltinCall, tc_kind, tc_split]
  repeat (any_goals (first | assumption | with_reducible refine wpAny_loadPart_at hC ?_ | with_reducible refine wpAny_onRaise ?_ | with_reducible refine wpAny_map ?_ | wp_step))
end
section
variable {prog : Program} {w : World} {A : Around} {E : Value → Shared → Prop} {R : Result → Shared → Prop} {h : Heap} {g : Array GenState} {d : Drawn} {t : Nat} {os : OsState}
variable {nm q : Str} {C N : Addr} {bs bm bmB : List Value} {hdct : Bool} {sn : List Str} {sub : List Value} {ab : Bool} {col : Option Bool} {dd : Option Addr} {k0 k1 k2 k3 k5 : Option Value} {B newId initId : String}
theorem newK (F : ExcBaseFacts B newId initId bmB) (hT : ∀ X : String, bm.contains (.type X) = bmB.contains (.type X)) {rest : List Value} {kw : List (Str × Value)}
    (hC : h.get? C = some (excClassObj nm q C N bs bm hdct sn sub ab col dd k0 k1 k2 k3 k5 newId))
    (hq : R (.ok (.ret (.ref (h.objs.size + 1)))) ⟨(h.push { cls := .type "tuple", data := .seq rest.toArray }).push
      { cls := .ref C, data := .fields #[.ref h.objs.size, .none, .none, .none, .bool false, .none] }, g, d, t, os⟩) (hrest : rest.length ≤ sizeLine) :
    codeAny (model prog w) A (.builtin newId ⟨.ref C :: rest, kw⟩) R ⟨h, g, d, t, os⟩ := by
  have hends := F.ends
  have hcB : (Value.ref C :: bm).contains (.type B) = true := by rw [List.contains_cons, hT, F.hasB, Bool.or_true]
  have hcA : (Value.ref C :: bm).contains (.type "AttributeError") = false := by rw [List.contains_cons, hT, F.noAttr]; rfl
  have hcN : (Value.ref C :: bm).contains (.type "NameError") = false := by rw [List.contains_cons, hT, F.noName]; rfl
  refine codeAny_builtinAt F.entry ?_
  unfold Builtin.«BaseException.__new__»
  refine wpAt_bind ?_
  show wpAt _ _ _ (stack >>= _) _ _ _
  refine wpAt_bind (wpAt_stack fun p below => wpAt_of_wpAny ?_)
  wp_walk
  refine wpAt_of_wpAny ?_
  rw [F.owner]
  repeat (first | with_reducible refine wpAny_madeHere_exc F.canon hC ?_ | with_reducible refine wpAny_loadPart_at hC ?_ | (with_reducible refine wpAny_isSubtype_exc hC ?_; first | rw [hcB] | rw [hcA] | rw [hcN]) | wp_step)
  show R _ _
  rw [Heap.size_push]
  exact hq
theorem type_callK (F : ExcBaseFacts B newId initId bmB) (hT : ∀ X : String, bm.contains (.type X) = bmB.contains (.type X)) {rest : List Value} {kw : List (Str × Value)} {fI : Addr} {Q : Fin → Shared → Prop}
    (hC : h.get? C = some (excClassObj nm q C N bs bm hdct sn sub ab col dd k0 k1 k2 k3 k5 newId))
    (hi : W.Looks (model prog w) h (typeLookup (.ref C) "__init__") (some (.ref fI))) (hb : ∀ self, W.Looks (model prog w) h (bindSpecial (.ref fI) self) (.ref fI, [self])) (hrest : rest.length ≤ sizeLine)
    (hq : codeAny (model prog w) A (.call (.ref fI) ⟨.ref (h.objs.size + 1) :: rest, kw⟩)
      (fun r s' => match r with | .ok (.ret v) => v = .none ∧ Q (.done (.ret (.ref (h.objs.size + 1)))) s' | .ok _ => False | .error e => E e s')
      ⟨(h.push (W.kdv_tup rest)).push (excO C h.objs.size), g, d, t, os⟩) :
    wpAny (model prog w) A (Builtin.«type.__call__» ⟨.ref C :: rest, kw⟩) Q E ⟨h, g, d, t, os⟩ := by
  repeat (first | with_reducible refine wpAny_loadPart_at hC ?_ | with_reducible refine wpAny_madeBy_exc hC ?_ | wp_step)
  refine codeAny_call_builtin_code (Code.quiet_builtin _ F.quiet) (check_newK F hT hC ?_)
  refine newK F hT hC ?_ hrest
  show wpAny _ _ _ _ _ _
  have k : ∀ b o, h.get? b = some o → ((h.push (W.kdv_tup rest)).push (excO C h.objs.size)).get? b = some o := fun b o e => Heap.get?_push_of_some _ (Heap.get?_push_of_some _ e)
  have hC₁ := k _ _ hC
  have hget : ((h.push (W.kdv_tup rest)).push (excO C h.objs.size)).get? (h.objs.size + 1) = some (excO C h.objs.size) := by heap_get
  have hcC : (Value.ref C :: bm).contains (.ref C) = true := by simp
  have i1 := hi.keeps k
  have b1 := (hb (.ref (h.objs.size + 1))).keeps k
  unfold isInstance
  repeat (first | with_reducible refine wpAny_loadPart_at hget ?_ | (with_reducible refine wpAny_isSubtype_exc hC₁ ?_; rw [hcC]) | wp_step)
  show wpAny _ _ (typeLookup (.ref C) _) _ _ _
  refine i1.at ?_
  refine wpAny_holding (wpAny_bind (b1.at ?_))
  refine wpAny_bind (wpAny_call (codeAny_mono hq fun r s' z => ?_))
  rcases r with e | (v | _ | _ | _) <;> first | exact z | exact z.elim | skip
  obtain ⟨rfl, z⟩ := z
  first
    | exact wpAny_pure (wpAny_pure z)
    | (wp_walk; exact z)
theorem callK (F : ExcBaseFacts B newId initId bmB) (hT : ∀ X : String, bm.contains (.type X) = bmB.contains (.type X)) {rest : List Value} {kw : List (Str × Value)} {fI : Addr}
    (hC : h.get? C = some (excClassObj nm q C N bs bm hdct sn sub ab col dd k0 k1 k2 k3 k5 newId))
    (hi : W.Looks (model prog w) h (typeLookup (.ref C) "__init__") (some (.ref fI))) (hb : ∀ self, W.Looks (model prog w) h (bindSpecial (.ref fI) self) (.ref fI, [self])) (hrest : rest.length ≤ sizeLine)
    (hq : codeAny (model prog w) (A.under (.builtin "type.__call__" ⟨.ref C :: rest, kw⟩)) (.call (.ref fI) ⟨.ref (h.objs.size + 1) :: rest, kw⟩) (W.InitBack (h.objs.size + 1) R)
      ⟨(h.push (W.kdv_tup rest)).push (excO C h.objs.size), g, d, t, os⟩) :
    codeAny (model prog w) A (.call (.ref C) ⟨rest, kw⟩) R ⟨h, g, d, t, os⟩ := by
  have f1 := tc_lookup
  have f2 := tc_bind (.ref C)
  have hTy : (⟨h, g, d, t, os⟩ : Shared).TypeIs (.ref C) "type" := ⟨_, hC, rfl⟩
  refine codeAny_of_tree ?_
  show wpAny _ _ (callAny (.ref C) _) _ _ _
  repeat (any_goals (first | assumption | with_reducible refine wpAny_loadPart_at hC ?_ | wp_step))
  refine ⟨rfl, ?_⟩
  refine codeAny_call_builtin_at (Code.quiet_builtin _ (by decide +kernel)) entry_typeCall (check_type_callK hC (type_callK F hT hC hi hb hrest ?_))
  refine codeAny_mono hq fun r s' z => ?_
  rcases r with e | (v | _ | _ | _) <;> exact z
end
end XV
end PySem
set_option Elab.async false
set_option linter.all false
set_option maxRecDepth 100000
set_option maxHeartbeats 4000000
set_option autoImplicit false
namespace L2
open PySem PySem.Spec PyProof.Rows Evl

/-- an exception of the class at C with these fields stands at a -/
def XAt (H : Hp) (a C : Addr) (fs : List (Str × V)) : Prop := ∃ d, H a = some (exo a C (some d)) ∧ H d = some (exd d fs)
theorem XAt.ex {H H' : Hp} {a C : Addr} {fs : List (Str × V)} (h : XAt H a C fs) (e : Ex H H') : XAt H' a C fs := by
  obtain ⟨d, h1, h2⟩ := h
  exact ⟨d, e _ _ h1, e _ _ h2⟩
/-- what an __init__ of an exception class promises: the fields are laid -/
def spInitX (C : Addr) (fs : List Str) : Sp := fun vs H Q _ => ∃ (a : Addr) (ws : List V), vs = .ref a :: ws ∧ ws.length = fs.length ∧ H a = some (exo a C none) ∧
  ∀ d H', H d = none → d ≠ a → H' a = some (exo a C (some d)) → H' d = some (exd d (fs.zip ws).reverse) → (∀ b o, H b = some o → b ≠ a → H' b = some o) → Q .non H'
/-- what the written part says of an exception class -/
structure XCl (K : PySem.W.Frag) (C : Addr) : Prop where
  oex : OexC K C
  xf : XfC K C
  hcl : (PySem.W.clsIn K C).isSome = true
  ha : PySem.W.findIn K (.ref C) "__class__" = some (some (.builtin "object.__class__"))
  hn : PySem.W.specialIn K (.builtin "object.__class__") "__get__" = some (some (.builtin "getset_descriptor.__get__"))
  ht : PySem.W.takesIn K (.builtin "object.__class__") = some true
  hm : PySem.W.mroIn K C (.type "object") = some true
structure XIn (K : PySem.W.Frag) (C fI : Addr) (fs : List Str) : Prop where
  cl : XCl K C
  init : PySem.W.findIn K (.ref C) "__init__" = some (some (.ref fI))
  tI : PySem.W.typeIn K (.ref fI) = some (.type "function")
  nof : ∀ f ∈ fs, PySem.W.findIn K (.ref C) f = some none

/-- C(..): what is made -/
def tXmk (C : Addr) (fs : List Str) (t : TA) : TE := fun σ H Q => t σ H fun vs H1 => vs.length = fs.length ∧ ∀ a H2, H1 a = none → Ex H1 H2 → XAt H2 a C (fs.zip vs).reverse → Q (.ref a) H2
section
variable {X : Cx} {k : Nat} {C fI : Addr} {fd : FuncData} {fs ps : List Str} {x : Str} {p pos : Pos} {e : Expr} {es : List Expr} {kws : List Keyword} {t : TA} {ta : TE}
theorem run_xmk {pins : List (Addr × Obj)} {σ : St} {H : Hp} {s : Shared} {Q : VK} {us : List Value} {kw : List (Str × Value)} {vs : List V} {bs : List Value} (T : XIn X.K C fI fs) (G : FnOk X.prog X.w X.K X.mg X.base CX0 k fI fd (("self" : Str) :: fs) (spInitX C fs)) (hr : Room (k + 1) X.A)
    (hb : ∀ (s' : Shared) (a : Value), X.K.In s'.heap → BindsTo s' fd ⟨a :: us, kw⟩ (((("self" : Str) :: fs)).zip (a :: bs))) (hus : us.length ≤ 1000)
    (I : Inv X pins σ H s) (r : Vals vs bs) (hl : vs.length = fs.length) (h : ∀ a H2, H a = none → Ex H H2 → XAt H2 a C (fs.zip vs).reverse → Q (.ref a) H2) :
    wpAny (model X.prog X.w) X.A (call (.ref C) us kw) (EP X pins σ Q) X.xe s := by
  obtain ⟨nm, q, N, bs', bm, sn, sub, ab, col, dd, k0, k1, k2, k3, k5, hC, hbm⟩ := T.cl.oex.cls
  obtain ⟨hp, g, dr, tk, os⟩ := s
  have hsz : hp.objs.size ≤ hp.objs.size + 1 := Nat.le_succ _
  have hn : H (hp.objs.size + 1) = none := I.hok.fresh hsz
  have kk : ∀ b o, hp.get? b = some o → ((hp.push (PySem.W.kdv_tup us)).push (PySem.HandSPX.excO C hp.objs.size)).get? b = some o := fun b o e => Heap.get?_push_of_some _ (Heap.get?_push_of_some _ e)
  have hget : ((hp.push (PySem.W.kdv_tup us)).push (PySem.HandSPX.excO C hp.objs.size)).get? (hp.objs.size + 1) = some (PySem.HandSPX.excO C hp.objs.size) := by heap_get
  have I2 : Inv X pins σ (upd H (hp.objs.size + 1) (exo (hp.objs.size + 1) C none)) ⟨(hp.push (PySem.W.kdv_tup us)).push (PySem.HandSPX.excO C hp.objs.size), g, dr, tk, os⟩ :=
    I.laid (t' := tk) (a := hp.objs.size + 1) (o := exo (hp.objs.size + 1) C none) (h' := (hp.push (PySem.W.kdv_tup us)).push (PySem.HandSPX.excO C hp.objs.size)) kk hsz (exo_ok hget)
  have r2 : Vals (V.ref (hp.objs.size + 1) :: vs) (Value.ref (hp.objs.size + 1) :: bs) := .cons rfl r
  have hus' : us.length ≤ sizeLine := by
    rw [sizeLine_eq]
    omega
  have hq : spInitX C fs (V.ref (hp.objs.size + 1) :: vs) (upd H (hp.objs.size + 1) (exo (hp.objs.size + 1) C none)) (fun v H2 => v = .non ∧ Q (.ref (hp.objs.size + 1)) H2) (fun _ _ _ => False) := by
    refine ⟨_, vs, rfl, hl, upd_same, fun d H' n1 n2 e1 e2 k => ⟨rfl, ?_⟩⟩
    refine h _ H' hn (fun b o e => k b o ?_ (ne_of_none e hn)) ⟨d, e1, e2⟩
    rw [upd_ne (ne_of_none e hn)]
    exact e
  refine wpAny_call (PySem.XV.callK F.excBase_ValueError (fun Y => PySem.HandSPX.refsVE_contains Y bm hbm) (I.kIn _ _ hC) (PySem.W.looks_findIn I.kIn T.init) (fun self => PySem.W.bind_fn I.kIn self T.tI) hus'
    (codeAny_mono (G.run _ X.stack _ _ ⟨Value.ref (hp.objs.size + 1) :: us, kw⟩ (Value.ref (hp.objs.size + 1) :: bs) _ _ (fun _ _ _ => False) (hr.make C us kw) (I2.env0.make C us kw) (hb _ _ I2.kIn) r2 hq) fun r s' hq' => ?_))
  cases r with
  | error er => exact pass0 (X := X) pins σ _ _ er s' I2 hq'
  | ok fl =>
    cases fl with
    | ret u =>
      obtain ⟨v, H2, I3, rv, ev, q2⟩ := I2.after hq'
      subst ev
      exact ⟨rv, ⟨V.ref (hp.objs.size + 1), H2, I3, rfl, q2⟩⟩
    | next => exact False.elim hq'
    | brk => exact False.elim hq'
    | cont => exact False.elim hq'

/-- C(e, ..) -/
theorem pe_xmk {sc : Scope} {qual : Str} {pa : Arguments} {bd : List Stmt} (T : XIn X.K C fI fs) (G : FnOk X.prog X.w X.K X.mg X.base CX0 k fI fd (("self" : Str) :: fs) (spInitX C fs)) (hb : Binds X.K fd (("self" : Str) :: fs) [])
    (hz : fs.length ≤ 1000) (hr : Room (k + 1) X.A) (hg : Gl X x) (hm : X.mg x = some (.ref C)) (ha : PA X (e :: es) t)
    (hdb : (x == ("__debug__" : Str)) = false := by decide) (he : starEach (e :: es) X.env = (false, eval e X.env) :: starEach es X.env := by rfl) (hpl : (backTo pos (starEach es X.env)).any (·.1) = false := by rfl) :
    PE X (.Call (.Name x p) (e :: es) [] pos) (tXmk C fs t) := by
  refine ⟨fun pins s σ H Q I h => ?_⟩
  refine wpAny_Call_Name_kw (ld_glob I hg hm ?_ hdb)
  refine PySem.W.callWith_K (h₀ := X.base) I.ok.mod.kin T.cl.oex.kC (thn (ha.run pos pins s σ H _ I h) fun us s1 ⟨vs, H1, I1, r1, hl, q1⟩ => ⟨I1.kIn, ?_⟩) he hpl
  have hl2 : us.length = fs.length := r1.length.symm.trans hl
  show wpAny _ _ (call (.ref C) us) _ _ _
  refine run_xmk T G hr (fun s' a hK => ?_) (by omega) I1 r1 hl q1
  have z := hb s' (a :: us) hK (by simp [hl2])
  simpa using z
/-- C(k = v, ..), no other -/
theorem pe_xmkK (T : XIn X.K C fI fs) (G : FnOk X.prog X.w X.K X.mg X.base CX0 k fI fd (("self" : Str) :: fs) (spInitX C fs)) {ks : List Str} {g : List Value → List Value} {gV : List V → List V}
    (hb : ∀ (s' : Shared) (a : Value) (ws : List Value), ws.length = ks.length → X.K.In s'.heap → BindsTo s' fd ⟨[a], ks.zip ws⟩ ((("self" : Str) :: fs).zip (a :: g ws)))
    (hv : ∀ {vs : List V} {us : List Value}, Vals vs us → Vals (gV vs) (g us)) {tk : TA}
    (hr : Room (k + 1) X.A) (hg : Gl X x) (hm : X.mg x = some (.ref C)) (hkw : PK X kws tk)
    (hall : (backToKw pos (keywordEach kws X.env)).all (·.1.isSome) = true := by rfl) (hks : (backToKw pos (keywordEach kws X.env)).filterMap (·.1) = ks := by rfl)
    (hdb : (x == ("__debug__" : Str)) = false := by decide) (hpl : ((backTo pos (starEach [] X.env)).any (·.1) || (backToKw pos (keywordEach kws X.env)).any (·.1.isNone)) = false := by rfl) :
    PE X (.Call (.Name x p) [] kws pos) (fun σ H Q => tk σ H fun zs H1 => zs.length = ks.length ∧ (gV zs).length = fs.length ∧ ∀ a H2, H1 a = none → Ex H1 H2 → XAt H2 a C (fs.zip (gV zs)).reverse → Q (.ref a) H2) := by
  refine ⟨fun pins s σ H Q I h => ?_⟩
  refine wpAny_Call_Name_kw (ld_glob I hg hm ?_ hdb)
  refine PySem.W.callWith_KW0 (h₀ := X.base) I.ok.mod.kin T.cl.oex.kC hall ?_ hpl
  refine thn (hkw.run pos pins s σ H _ I h) fun ws s2 ⟨zs, H2, I2, rz, l2, l3, q2⟩ => ⟨I2.kIn, ?_⟩
  rw [hks]
  exact run_xmk (us := []) T G hr (fun s' a hK => hb s' a ws (rz.length.symm.trans l2) hK) (Nat.zero_le _) I2 (hv rz) l3 q2
/-- C(), an own class without an own __init__ -/
theorem pe_xmk0 {bmB : List Value} {B newId initId : String} (F : ExcBaseFacts B newId initId bmB) (q : PySem.W.excIn X.K C bmB newId = true) (kC : PySem.W.keepIn X.K (.ref C) = true) (hg : Gl X x) (hm : X.mg x = some (.ref C))
    (hdb : (x == ("__debug__" : Str)) = false := by decide) :
    PE X (.Call (.Name x p) [] [] pos) (fun _ H Q => ∀ a, H a = none → Q (.ref a) (upd H a (exo a C none))) := by
  refine ⟨fun pins s σ H Q I h => ?_⟩
  refine wpAny_Call_Name_kw (ld_glob I hg hm ?_ hdb)
  refine PySem.W.callWith_K0 I.kIn kC ?_
  show wpAny _ _ (call (.ref C) []) _ _ _
  obtain ⟨bm, N, nm, qn, bs, hdct, sn, sub, ab, col, dd, k0, k1, k2, k3, k5, mN, hC, hN, hni, T⟩ := exc_obj I.kIn q
  refine wpAny_call_exc_subT F T hC hN hni (fun h' a hm => ?_) (by show 0 ≤ sizeLine; rw [sizeLine_eq]; omega)
  have hn : H a = none := I.hok.gone hm.new
  obtain ⟨t, ht, _, _⟩ := hm.there
  exact ⟨.ref a, upd H a (exo a C none), I.laidN hm.keeps hm.new hn (exo_ok ht), rfl, h a hn⟩
/-- e.f of an exception -/
def tXfl (K : PySem.W.Frag) (f : Str) (te : TE) : TE := fun σ H Q => te σ H fun x H1 => ∃ (a C : Addr) (fs : List (Str × V)) (v : V), x = .ref a ∧ XCl K C ∧ PySem.W.findIn K (.ref C) f = some none ∧ XAt H1 a C fs ∧ fs.lookup f = some v ∧ Q v H1
theorem pe_xfl {n : Str} {te : TE} (he : PE X e te) (hb : attributeBase e n X.env (eval e X.env) = eval e X.env := by rfl) : PE X (.Attribute e n pos) (tXfl X.K n te) := by
  refine ⟨fun pins s σ H Q I h => ?_⟩
  refine attr_of hb (thn (he.run pins s σ H _ I h) fun u s1 hh => ?_)
  obtain ⟨x, H1, I1, rx, a, C, fs, v, ex, T, hno, ⟨d, h1, h2⟩, l, q⟩ := hh
  subst ex
  obtain rfl : u = Value.ref a := rx
  obtain ⟨t1, ho⟩ := exo_at I1.hok h1
  obtain ⟨mA, hns, hr⟩ := exd_at I1.hok h2
  obtain ⟨od, hod, hl⟩ := lookIn_ns hns
  obtain ⟨u, hu, ru⟩ := RelO.some_of (v := v) (o := mA n) (by rw [← l]; exact hr n)
  have J : PySem.W.InstAt s1.heap a { cls := .ref C, dict := some d, data := .fields #[.ref t1, .none, .none, .none, .bool false, .none] } C (some od) := ⟨ho, rfl, rfl, hod⟩
  exact HandSPX.exc_get I1.kIn J T.xf.ga T.xf.gg T.xf.exC (PySem.W.findObj_own T.xf.hdC hno rfl (by rw [hl, hu])) (handed_of ru) ⟨v, H1, I1.tok _, ru, q⟩
/-- an exception stands at a, its dict too, or it has none -/
def XSt (H : Hp) (a C : Addr) : Prop := H a = some (exo a C none) ∨ ∃ fs, XAt H a C fs
theorem XSt.ex {H H' : Hp} {a C : Addr} (h : XSt H a C) (e : Ex H H') : XSt H' a C := by
  rcases h with h | ⟨fs, h⟩
  · exact .inl (e _ _ h)
  · exact .inr ⟨fs, h.ex e⟩
theorem XSt.inst {pins : List (Addr × Obj)} {σ : St} {H : Hp} {s : Shared} {a : Addr} (I : Inv X pins σ H s) (h : XSt H a C) : ∃ ox od, PySem.W.InstAt s.heap a ox C od := by
  rcases h with h | ⟨fs, d, h1, h2⟩
  · obtain ⟨t1, ho⟩ := exo_at I.hok h
    exact ⟨_, none, ho, rfl, rfl, True.intro⟩
  · obtain ⟨t1, ho⟩ := exo_at I.hok h1
    obtain ⟨mA, ⟨o, es, ep, e1, e2⟩, hr⟩ := exd_at I.hok h2
    exact ⟨_, some o, ho, rfl, rfl, e1⟩
theorem XCl.kit {a : Addr} {ox : Obj} {od : Option Obj} (T : XCl X.K C) : PySem.W.KitX X.K (.ref a) (.ref C) (fun h => PySem.W.InstAt h a ox C od) :=
  PySem.W.kitx_exc T.hcl T.xf.ga T.xf.gg T.xf.exC T.ha T.hn T.ht T.hm
/-- isinstance(e, c) of an exception -/
def rIsX (K : PySem.W.Frag) : List V → Hp → VK → Prop := fun xs H Q => ∃ (a C : Addr) (c : V) (u : Value) (b : Bool), xs = [.ref a, c] ∧ XCl K C ∧ XSt H a C ∧ ClsV c u ∧ PySem.W.kitOne K (.ref C) u = some b ∧ Q (.bl b) H
def rIsXT (K : PySem.W.Frag) : List V → Hp → VK → Prop := fun xs H Q => ∃ (a C tp : Addr) (cs : List V) (us : List Value) (b : Bool), xs = [.ref a, .ref tp] ∧ XCl K C ∧ XSt H a C ∧ H tp = some (.tup cs) ∧ Paired ClsV cs us ∧ PySem.W.kitAny K (.ref C) us = some b ∧ Q (.bl b) H
theorem call_isX : CallR X (.builtin "isinstance") (rIsX X.K) := by
  intro pins s σ H xs us Q I r h
  obtain ⟨a, C, c, u, b, rfl, T, hs, k, e, q⟩ := h
  obtain ⟨u1, u2, rfl, r1, r2⟩ := vals2 r
  have e2 := k.eq r2
  subst e2
  cases (show u1 = Value.ref a from r1)
  obtain ⟨ox, od, J⟩ := hs.inst I
  exact PySem.W.kia_one T.kit I.kIn J e (fun z => nomatch z) fun tk => ⟨.bl b, H, I.tok tk, rfl, q⟩
theorem call_isXT : CallR X (.builtin "isinstance") (rIsXT X.K) := by
  intro pins s σ H xs us Q I r h
  obtain ⟨a, C, tp, cs, ws, b, rfl, T, hs, hT, k, e, q⟩ := h
  obtain ⟨u1, u2, rfl, r1, r2⟩ := vals2 r
  cases (show u2 = Value.ref tp from r2)
  cases (show u1 = Value.ref a from r1)
  obtain ⟨ox, od, J⟩ := hs.inst I
  obtain ⟨_, its, rv, o, h1, h2, n, h3⟩ := (show ObjOk X.prog X.w H s.heap tp (.tup cs) from I.hok tp _ hT)
  have e3 := ClsV.all k rv
  subst e3
  obtain ⟨oc, odd, dt, sl⟩ := o
  simp only at h2 h3
  subst h2 h3
  exact PySem.W.kia_tup T.kit I.kIn J h1 e (fun z => nomatch z) fun tk => ⟨.bl b, H, I.tok tk, rfl, q⟩
end
end L2
set_option Elab.async false
set_option linter.all false
set_option maxRecDepth 100000
set_option maxHeartbeats 4000000
set_option autoImplicit false
/-! What the head must say of a program's exception classes; what follows. -/
namespace He
open PySem PySem.Spec PyProof.Rows L2
/-- a def's own data -/
def fdOf (K : PySem.W.Frag) (p : Str × Option Str) : FuncData := match K.lookup (fAd K p) with
  | some ⟨_, _, .func fd, _⟩ => fd
  | _ => default
theorem funD_at {fa : List Fa} {fn : List DefD} {K : PySem.W.Frag} (c : SaysD fa fn K) (i : Nat) {d : DefD} (h : fn[i]? = some d) : FunD K d.name d.qual d.params d.body d.scope (d.dvs K) (d.kws K) (fAd K d.at_) (fdOf K d.at_) := by
  obtain ⟨fd, F⟩ := c.def_ i h
  obtain ⟨oc, od, dV, kV, doc, pm, an, cdv, ct, osl, e, lk, _⟩ := id F.ex
  have e2 : fdOf K d.at_ = fd := by
    unfold fdOf
    rw [lk]
  rw [e2]
  exact F
def oexB (K : PySem.W.Frag) (C : Addr) : Bool := match K.lookup C with
  | some ⟨.type "type", _, .cls cd, sl⟩ => (match cd.mro, sl.toList with
    | .ref C' :: bm, [_, _, _, _, some (.builtin n), _] => C' == C && n == "ValueError.__new__" && !cd.hasDel && cd.hasDict && HandSPX.refsVE bm
    | _, _ => false)
  | _ => false
theorem oexB_ok {K : PySem.W.Frag} {C : Addr} (q : oexB K C = true) : ∃ nm q N bs bm sn sub ab col dd k0 k1 k2 k3 k5, K.lookup C = some (excClassObj nm q C N bs bm true sn sub ab col dd k0 k1 k2 k3 k5 "ValueError.__new__") ∧ PySem.HandSPX.refsVE bm = true := by
  unfold oexB at q
  split at q
  · rename_i dd cd sl ho
    split at q
    · rename_i C' bm k0 k1 k2 k3 n k5 hm hs
      simp only [Bool.and_eq_true, beq_iff_eq, Bool.not_eq_true'] at q
      obtain ⟨⟨⟨⟨rfl, rfl⟩, hdel⟩, hd⟩, hr⟩ := q
      obtain ⟨nm, bs, mro, ns, qn, hdc, sn, sub, ab, col, del⟩ := cd
      dsimp only at hm hdel hd
      subst hm hdel hd
      have hsl : sl = #[k0, k1, k2, k3, some (.builtin "ValueError.__new__"), k5] := by
        obtain ⟨l⟩ := sl
        simp only at hs
        rw [hs]
      subst hsl
      exact ⟨nm, qn, ns, bs, bm, sn, sub, ab, col, dd, k0, k1, k2, k3, k5, ho, hr⟩
    · cases q
  · cases q
/-- the classes that an exception class is below, itself first -/
def mroNames (K : PySem.W.Frag) (xs : List Str) : List Value := xs.map fun x => Value.ref (ga K x)
def mroB (K : PySem.W.Frag) (x : Str) (bases : List Str) : Bool := match PySem.W.clsIn K (ga K x) with
  | some cd => cd.mro == mroNames K (x :: bases) ++ HandSPX.veTail
  | none => false
def excB (K : PySem.W.Frag) (e : Str × List Str × List Str) : Bool :=
  oexB K (ga K e.1) && (eqO (PySem.W.findIn K (.ref (ga K e.1)) "__setattr__") (some (some (.builtin "object.__setattr__"))) && (decide (PySem.W.subIn K (.ref (ga K e.1)) (.type "BaseException") = some true) &&
    (decide (PySem.W.typeIn K (.ref (ga K e.1)) = some (.type "type")) && (PySem.W.keepIn K (.ref (ga K e.1)) && (xfB K (ga K e.1) && (eqO (PySem.W.findIn K (.ref (ga K e.1)) "__class__") (some (some (.builtin "object.__class__"))) &&
      (decide (PySem.W.mroIn K (ga K e.1) (.type "object") = some true) && ((e.2.2.all fun f => eqO (PySem.W.findIn K (.ref (ga K e.1)) f) (some none)) && mroB K e.1 e.2.1))))))))
def excsB (K : PySem.W.Frag) (xs : List (Str × List Str × List Str)) : Bool :=
  decide (xs.map fun e => ga K e.1).Nodup && (eqO (PySem.W.specialIn K (.builtin "object.__class__") "__get__") (some (some (.builtin "getset_descriptor.__get__"))) && (decide (PySem.W.takesIn K (.builtin "object.__class__") = some true) && xs.all fun e => excB K e))
section
variable {K : PySem.W.Frag} {xs : List (Str × List Str × List Str)}
theorem excsB_cl (h : excsB K xs = true) {x : Str} {bases fs : List Str} (m : (x, bases, fs) ∈ xs) : XCl K (ga K x) ∧ (∀ f ∈ fs, PySem.W.findIn K (.ref (ga K x)) f = some none) ∧ ∃ cd, PySem.W.clsIn K (ga K x) = some cd ∧ cd.mro = mroNames K (x :: bases) ++ HandSPX.veTail := by
  obtain ⟨_, h⟩ := ba h
  obtain ⟨hn, h⟩ := ba h
  obtain ⟨ht, h⟩ := ba h
  have e := List.all_eq_true.mp h _ m
  obtain ⟨e1, e⟩ := ba e
  obtain ⟨e2, e⟩ := ba e
  obtain ⟨e3, e⟩ := ba e
  obtain ⟨e4, e⟩ := ba e
  obtain ⟨e5, e⟩ := ba e
  obtain ⟨e6, e⟩ := ba e
  obtain ⟨e7, e⟩ := ba e
  obtain ⟨e8, e⟩ := ba e
  obtain ⟨e9, e10⟩ := ba e
  have hcd : ∃ cd, PySem.W.clsIn K (ga K x) = some cd ∧ cd.mro = mroNames K (x :: bases) ++ HandSPX.veTail := by
    have e10' : mroB K x bases = true := e10
    unfold mroB at e10'
    split at e10'
    · rename_i cd hc
      exact ⟨cd, hc, beq_iff_eq.mp e10'⟩
    · cases e10'
  refine ⟨⟨⟨oexB_ok e1, eqO_ok e2, of_decide_eq_true e3, of_decide_eq_true e4, e5⟩, xfB_ok e6, ?_, eqO_ok e7, eqO_ok hn, of_decide_eq_true ht, of_decide_eq_true e8⟩, fun f hf => eqO_ok (List.all_eq_true.mp e9 f hf), hcd⟩
  obtain ⟨cd, hc, _⟩ := hcd
  rw [hc]
  rfl
theorem inj_of_nodup {α β : Type} {f : α → β} : ∀ {l : List α}, (l.map f).Nodup → ∀ {a b : α}, a ∈ l → b ∈ l → f a = f b → a = b
  | [], _, _, _, ha, _, _ => nomatch ha
  | c :: r, nd, a, b, ha, hb, e => by
    rw [List.map_cons, List.nodup_cons] at nd
    rcases List.mem_cons.mp ha with ea | ha
    · rcases List.mem_cons.mp hb with eb | hb
      · rw [ea, eb]
      · exact absurd (List.mem_map.mpr ⟨b, hb, (ea ▸ e).symm⟩) nd.1
    · rcases List.mem_cons.mp hb with eb | hb
      · exact absurd (List.mem_map.mpr ⟨a, ha, eb ▸ e⟩) nd.1
      · exact inj_of_nodup nd.2 ha hb e
theorem ga_inj (h : excsB K xs = true) {x y : Str} (mx : x ∈ xs.map (·.1)) (my : y ∈ xs.map (·.1)) (e : ga K x = ga K y) : x = y := by
  obtain ⟨h1, _⟩ := ba h
  have nd : (xs.map fun e => ga K e.1).Nodup := of_decide_eq_true h1
  have e1 : (xs.map fun e => ga K e.1) = (xs.map (·.1)).map (ga K) := by rw [List.map_map] <;> rfl
  rw [e1] at nd
  exact inj_of_nodup nd mx my e
/-- isinstance against an own class -/
theorem kit_exc (h : excsB K xs = true) {x d : Str} {bases fs b2 f2 : List Str} (mx : (x, bases, fs) ∈ xs) (md : (d, b2, f2) ∈ xs) (hb : ∀ y ∈ bases, y ∈ xs.map (·.1)) :
    PySem.W.kitOne K (.ref (ga K x)) (.ref (ga K d)) = some (decide (d ∈ x :: bases)) := by
  obtain ⟨T, _, cd, hc, hm⟩ := excsB_cl h mx
  obtain ⟨T2, _, _⟩ := excsB_cl h md
  have mx' : x ∈ xs.map (·.1) := List.mem_map.mpr ⟨_, mx, rfl⟩
  have md' : d ∈ xs.map (·.1) := List.mem_map.mpr ⟨_, md, rfl⟩
  unfold PySem.W.kitOne
  by_cases e : x = d
  · subst e
    rw [if_pos (beq_iff_eq.mpr rfl), decide_eq_true List.mem_cons_self]
  · have ne : ¬ (Value.ref (ga K x) == Value.ref (ga K d)) = true := fun q => e (ga_inj h mx' md' (Value.ref.inj (beq_iff_eq.mp q)))
    rw [if_neg ne]
    unfold PySem.W.kitCls
    show (if ((PySem.W.clsIn K (ga K d)).isSome && PySem.W.typeIn K (.ref (ga K d)) == some (.type "type")) = true then PySem.W.subIn K (.ref (ga K x)) (.ref (ga K d)) else none) = _
    rw [if_pos (by rw [T2.hcl, T2.oex.tyC] <;> rfl)]
    show PySem.W.mroIn K (ga K x) (.ref (ga K d)) = _
    unfold PySem.W.mroIn
    rw [hc, Option.bind_some, if_neg (by rw [hm]; exact fun q => by cases q)]
    congr 1
    rw [hm]
    by_cases q : d ∈ x :: bases
    · rw [decide_eq_true q, List.contains_iff_mem]
      exact List.mem_append_left _ (List.mem_map.mpr ⟨d, q, rfl⟩)
    · rw [decide_eq_false q, Bool.eq_false_iff]
      intro z
      rw [List.contains_iff_mem] at z
      rcases List.mem_append.mp z with z | z
      · obtain ⟨y, hy, ey⟩ := List.mem_map.mp z
        have my : y ∈ xs.map (·.1) := by
          rcases List.mem_cons.mp hy with r | r
          · rw [r]
            exact mx'
          · exact hb y r
        exact q (ga_inj h my md' (Value.ref.inj ey) ▸ hy)
      · have z' : Value.ref (ga K d) ∈ [Value.type "ValueError", .type "Exception", .type "BaseException", .type "object"] := z
        simp at z'
/-- .. against a built-in one -/
theorem kit_excT (h : excsB K xs = true) {x : Str} {bases fs : List Str} (mx : (x, bases, fs) ∈ xs) {t : String} (ht : PySem.W.kitMeta t = true) :
    PySem.W.kitOne K (.ref (ga K x)) (.type t) = some (HandSPX.veTail.contains (.type t)) := by
  obtain ⟨T, _, cd, hc, hm⟩ := excsB_cl h mx
  unfold PySem.W.kitOne
  rw [if_neg (show ¬ (Value.ref (ga K x) == Value.type t) = true from fun q => nomatch (beq_iff_eq.mp q))]
  unfold PySem.W.kitCls
  show (if PySem.W.kitMeta t = true then PySem.W.subIn K (.ref (ga K x)) (.type t) else none) = _
  rw [if_pos ht]
  show PySem.W.mroIn K (ga K x) (.type t) = _
  unfold PySem.W.mroIn
  rw [hc, Option.bind_some, if_neg (by rw [hm]; exact fun q => by cases q)]
  congr 1
  rw [hm]
  have key : ∀ l : List Str, (mroNames K l ++ HandSPX.veTail).contains (.type t) = HandSPX.veTail.contains (.type t) := by
    intro l
    induction l with
    | nil => rfl
    | cons a r ih =>
      show (Value.ref (ga K a) :: (mroNames K r ++ HandSPX.veTail)).contains (.type t) = _
      rw [List.contains_cons, ih]
      rfl
  exact key _
end
end He
set_option Elab.async false
set_option linter.all false
set_option maxRecDepth 100000
set_option maxHeartbeats 4000000
set_option autoImplicit false
namespace K00
open PySem PySem.Spec PyProof.Rows L2 He Evl
/-! ### the text by places -/
def top (i : Nat) : Stmt := PySem.Challenge.pw_mutesigns_k00_errors_and_checks.main.body.getD i (.Pass ⟨0, 0, 0, 0⟩)
abbrev s_is_integer : Stmt := top 37
abbrev s_is_within : Stmt := top 38
abbrev s_is_name : Stmt := top 39
abbrev s_is_side : Stmt := top 40
abbrev s_is_truth : Stmt := top 41
abbrev s_is_list : Stmt := top 42
abbrev s_are_names : Stmt := top 43
abbrev s_is_word : Stmt := top 44
abbrev s_is_numbers : Stmt := top 45
abbrev s_again_at : Stmt := top 46
abbrev s_is_one_of : Stmt := top 47
abbrev s_first_twice : Stmt := top 48
abbrev s_l_pen : Stmt := top 50
abbrev s_l_draw : Stmt := top 51
abbrev s_l_pick : Stmt := top 52
abbrev s_l_value : Stmt := top 53
abbrev s_l_classes : Stmt := top 54
abbrev s_l_is_only : Stmt := top 55
abbrev s_l_by_place : Stmt := top 56
abbrev s_l_by_name : Stmt := top 57
abbrev s_l_one_right : Stmt := top 58
abbrev s_l_two_right : Stmt := top 59
abbrev s_l_integers_right : Stmt := top 60
abbrev s_l_names_right : Stmt := top 61
abbrev s_l_words_right : Stmt := top 62
abbrev s_l_twice_right : Stmt := top 63
abbrev s_law : Stmt := top 64
abbrev s_BadSide_init : Stmt := inClass (top 2) 0
abbrev s_BadSaying_init : Stmt := inClass (top 3) 0
abbrev s_BadFact_init : Stmt := inClass (top 4) 0
abbrev s_BadBook_init : Stmt := inClass (top 5) 0
abbrev s_BadGrid_init : Stmt := inClass (top 6) 0
abbrev s_BadWord_init : Stmt := inClass (top 7) 0
abbrev s_BadSheet_init : Stmt := inClass (top 8) 0
abbrev s_BadCutting_init : Stmt := inClass (top 9) 0
abbrev s_BadTies_init : Stmt := inClass (top 10) 0
abbrev s_BadHeard_init : Stmt := inClass (top 11) 0
abbrev s_BadValue_init : Stmt := inClass (top 12) 0
abbrev s_BadNaming_init : Stmt := inClass (top 13) 0
abbrev s_BadTurning_init : Stmt := inClass (top 14) 0
abbrev s_BadNumber_init : Stmt := inClass (top 15) 0
abbrev s_BadPaper_init : Stmt := inClass (top 16) 0
abbrev s_BadDesk_init : Stmt := inClass (top 17) 0
abbrev s_Misfit_init : Stmt := inClass (top 18) 0
abbrev s_Missing_init : Stmt := inClass (top 19) 0
abbrev s_NoSign_init : Stmt := inClass (top 20) 0
abbrev s_NoFact_init : Stmt := inClass (top 21) 0
abbrev s_NoStem_init : Stmt := inClass (top 22) 0
abbrev s_NoEnding_init : Stmt := inClass (top 23) 0
abbrev s_NoName_init : Stmt := inClass (top 24) 0
abbrev s_Twice_init : Stmt := inClass (top 25) 0
abbrev s_Impossible_init : Stmt := inClass (top 26) 0
abbrev s_TooMany_init : Stmt := inClass (top 27) 0
abbrev s_BadText_init : Stmt := inClass (top 29) 0
abbrev s_BadLine_init : Stmt := inClass (top 30) 0

theorem sc_is_integer : FnScope ["value"] ["value"] (defScope s_is_integer) := ⟨rfl, rfl, rfl, by decide +kernel, rfl, by decide +kernel, by decide +kernel⟩
theorem sc_is_within : FnScope ["value", "least", "most"] ["value", "least", "most"] (defScope s_is_within) := ⟨rfl, rfl, rfl, by decide +kernel, rfl, by decide +kernel, by decide +kernel⟩
theorem sc_is_name : FnScope ["value", "mark"] ["value"] (defScope s_is_name) := ⟨rfl, rfl, rfl, by decide +kernel, rfl, by decide +kernel, by decide +kernel⟩
theorem sc_is_side : FnScope ["value"] ["value"] (defScope s_is_side) := ⟨rfl, rfl, rfl, by decide +kernel, rfl, by decide +kernel, by decide +kernel⟩
theorem sc_is_truth : FnScope ["value"] ["value"] (defScope s_is_truth) := ⟨rfl, rfl, rfl, by decide +kernel, rfl, by decide +kernel, by decide +kernel⟩
theorem sc_is_list : FnScope ["value"] ["value"] (defScope s_is_list) := ⟨rfl, rfl, rfl, by decide +kernel, rfl, by decide +kernel, by decide +kernel⟩
theorem sc_are_names : FnScope ["value", "one"] ["value"] (defScope s_are_names) := ⟨rfl, rfl, rfl, by decide +kernel, rfl, by decide +kernel, by decide +kernel⟩
theorem sc_is_word : FnScope ["value"] ["value"] (defScope s_is_word) := ⟨rfl, rfl, rfl, by decide +kernel, rfl, by decide +kernel, by decide +kernel⟩
theorem sc_is_numbers : FnScope ["value", "one"] ["value"] (defScope s_is_numbers) := ⟨rfl, rfl, rfl, by decide +kernel, rfl, by decide +kernel, by decide +kernel⟩
theorem sc_again_at : FnScope ["values", "seen", "at", "value"] ["values"] (defScope s_again_at) := ⟨rfl, rfl, rfl, by decide +kernel, rfl, by decide +kernel, by decide +kernel⟩
theorem sc_is_one_of : FnScope ["value", "strings"] ["value", "strings"] (defScope s_is_one_of) := ⟨rfl, rfl, rfl, by decide +kernel, rfl, by decide +kernel, by decide +kernel⟩
theorem sc_first_twice : FnScope ["values", "at"] ["values"] (defScope s_first_twice) := ⟨rfl, rfl, rfl, by decide +kernel, rfl, by decide +kernel, by decide +kernel⟩
theorem sc_l_pen : FnScope ["_law_script", "_law_cell"] ["_law_script"] (defScope s_l_pen) := ⟨rfl, rfl, rfl, by decide +kernel, rfl, by decide +kernel, by decide +kernel⟩
theorem sc_l_draw : FnScope ["_law_pen_here", "_law_many", "_law_rest", "_law_turn", "_law_cell", "_law_mixed"] ["_law_pen_here", "_law_many"] (defScope s_l_draw) := ⟨rfl, rfl, rfl, by decide +kernel, rfl, by decide +kernel, by decide +kernel⟩
theorem sc_l_pick : FnScope ["_law_pen_here", "_law_some"] ["_law_pen_here", "_law_some"] (defScope s_l_pick) := ⟨rfl, rfl, rfl, by decide +kernel, rfl, by decide +kernel, by decide +kernel⟩
theorem sc_l_value : FnScope ["_law_pen_here", "_law_small", "_law_some"] ["_law_pen_here"] (defScope s_l_value) := ⟨rfl, rfl, rfl, by decide +kernel, rfl, by decide +kernel, by decide +kernel⟩
theorem sc_l_classes : FnScope ["_law_error", "_law_told"] ["_law_error"] (defScope s_l_classes) := ⟨rfl, rfl, rfl, by decide +kernel, rfl, by decide +kernel, by decide +kernel⟩
theorem sc_l_is_only : FnScope ["_law_error", "_law_at", "_law_spot"] ["_law_error", "_law_at"] (defScope s_l_is_only) := ⟨rfl, rfl, rfl, by decide +kernel, rfl, by decide +kernel, by decide +kernel⟩
theorem sc_l_by_place : FnScope ["_law_one", "_law_made"] ["_law_one"] (defScope s_l_by_place) := ⟨rfl, rfl, rfl, by decide +kernel, rfl, by decide +kernel, by decide +kernel⟩
theorem sc_l_by_name : FnScope ["_law_one", "_law_made"] ["_law_one"] (defScope s_l_by_name) := ⟨rfl, rfl, rfl, by decide +kernel, rfl, by decide +kernel, by decide +kernel⟩
theorem sc_l_one_right : FnScope ["_law_one", "_law_other", "_law_made", "_law_again", "_law_at", "_law_error", "_law_told", "_law_base", "_law_twin"] ["_law_one", "_law_other"] (defScope s_l_one_right) := ⟨rfl, rfl, rfl, by decide +kernel, rfl, by decide +kernel, by decide +kernel⟩
theorem sc_l_two_right : FnScope ["_law_one", "_law_other", "_law_error"] ["_law_one", "_law_other"] (defScope s_l_two_right) := ⟨rfl, rfl, rfl, by decide +kernel, rfl, by decide +kernel, by decide +kernel⟩
theorem sc_l_integers_right : FnScope ["_law_pen_here", "_law_number", "_law_odd", "_law_low", "_law_high", "_law_told", "_law_row", "_law_turn", "_law_at"] ["_law_pen_here"] (defScope s_l_integers_right) := ⟨rfl, rfl, rfl, by decide +kernel, rfl, by decide +kernel, by decide +kernel⟩
theorem sc_l_names_right : FnScope ["_law_pen_here", "_law_letters", "_law_signs", "_law_name", "_law_turn", "_law_at", "_law_odd", "_law_some"] ["_law_pen_here"] (defScope s_l_names_right) := ⟨rfl, rfl, rfl, by decide +kernel, rfl, by decide +kernel, by decide +kernel⟩
theorem sc_l_words_right : FnScope ["_law_pen_here", "_law_word", "_law_turn", "_law_at", "_law_odd"] ["_law_pen_here"] (defScope s_l_words_right) := ⟨rfl, rfl, rfl, by decide +kernel, rfl, by decide +kernel, by decide +kernel⟩
theorem sc_l_twice_right : FnScope ["_law_pen_here", "_law_numbers", "_law_turn", "_law_texts", "_law_number", "_law_due", "_law_at"] ["_law_pen_here"] (defScope s_l_twice_right) := ⟨rfl, rfl, rfl, by decide +kernel, rfl, by decide +kernel, by decide +kernel⟩
theorem sc_law : FnScope ["_law_script", "_law_pen_here", "_law_turn", "_law_one", "_law_other"] ["_law_script"] (defScope s_law) := ⟨rfl, rfl, rfl, by decide +kernel, rfl, by decide +kernel, by decide +kernel⟩
theorem sc_BadSide_init : FnScope ["self", "part"] ["self", "part"] (defScope s_BadSide_init) := ⟨rfl, rfl, rfl, by decide +kernel, rfl, by decide +kernel, by decide +kernel⟩
theorem sc_BadSaying_init : FnScope ["self", "part"] ["self", "part"] (defScope s_BadSaying_init) := ⟨rfl, rfl, rfl, by decide +kernel, rfl, by decide +kernel, by decide +kernel⟩
theorem sc_BadFact_init : FnScope ["self", "part"] ["self", "part"] (defScope s_BadFact_init) := ⟨rfl, rfl, rfl, by decide +kernel, rfl, by decide +kernel, by decide +kernel⟩
theorem sc_BadBook_init : FnScope ["self", "part"] ["self", "part"] (defScope s_BadBook_init) := ⟨rfl, rfl, rfl, by decide +kernel, rfl, by decide +kernel, by decide +kernel⟩
theorem sc_BadGrid_init : FnScope ["self", "part"] ["self", "part"] (defScope s_BadGrid_init) := ⟨rfl, rfl, rfl, by decide +kernel, rfl, by decide +kernel, by decide +kernel⟩
theorem sc_BadWord_init : FnScope ["self", "part"] ["self", "part"] (defScope s_BadWord_init) := ⟨rfl, rfl, rfl, by decide +kernel, rfl, by decide +kernel, by decide +kernel⟩
theorem sc_BadSheet_init : FnScope ["self", "part"] ["self", "part"] (defScope s_BadSheet_init) := ⟨rfl, rfl, rfl, by decide +kernel, rfl, by decide +kernel, by decide +kernel⟩
theorem sc_BadCutting_init : FnScope ["self", "part"] ["self", "part"] (defScope s_BadCutting_init) := ⟨rfl, rfl, rfl, by decide +kernel, rfl, by decide +kernel, by decide +kernel⟩
theorem sc_BadTies_init : FnScope ["self", "part"] ["self", "part"] (defScope s_BadTies_init) := ⟨rfl, rfl, rfl, by decide +kernel, rfl, by decide +kernel, by decide +kernel⟩
theorem sc_BadHeard_init : FnScope ["self", "part"] ["self", "part"] (defScope s_BadHeard_init) := ⟨rfl, rfl, rfl, by decide +kernel, rfl, by decide +kernel, by decide +kernel⟩
theorem sc_BadValue_init : FnScope ["self", "part"] ["self", "part"] (defScope s_BadValue_init) := ⟨rfl, rfl, rfl, by decide +kernel, rfl, by decide +kernel, by decide +kernel⟩
theorem sc_BadNaming_init : FnScope ["self", "part"] ["self", "part"] (defScope s_BadNaming_init) := ⟨rfl, rfl, rfl, by decide +kernel, rfl, by decide +kernel, by decide +kernel⟩
theorem sc_BadTurning_init : FnScope ["self", "part"] ["self", "part"] (defScope s_BadTurning_init) := ⟨rfl, rfl, rfl, by decide +kernel, rfl, by decide +kernel, by decide +kernel⟩
theorem sc_BadNumber_init : FnScope ["self", "part"] ["self", "part"] (defScope s_BadNumber_init) := ⟨rfl, rfl, rfl, by decide +kernel, rfl, by decide +kernel, by decide +kernel⟩
theorem sc_BadPaper_init : FnScope ["self", "part"] ["self", "part"] (defScope s_BadPaper_init) := ⟨rfl, rfl, rfl, by decide +kernel, rfl, by decide +kernel, by decide +kernel⟩
theorem sc_BadDesk_init : FnScope ["self", "part"] ["self", "part"] (defScope s_BadDesk_init) := ⟨rfl, rfl, rfl, by decide +kernel, rfl, by decide +kernel, by decide +kernel⟩
theorem sc_Misfit_init : FnScope ["self", "part"] ["self", "part"] (defScope s_Misfit_init) := ⟨rfl, rfl, rfl, by decide +kernel, rfl, by decide +kernel, by decide +kernel⟩
theorem sc_Missing_init : FnScope ["self", "value"] ["self", "value"] (defScope s_Missing_init) := ⟨rfl, rfl, rfl, by decide +kernel, rfl, by decide +kernel, by decide +kernel⟩
theorem sc_NoSign_init : FnScope ["self", "value"] ["self", "value"] (defScope s_NoSign_init) := ⟨rfl, rfl, rfl, by decide +kernel, rfl, by decide +kernel, by decide +kernel⟩
theorem sc_NoFact_init : FnScope ["self", "value"] ["self", "value"] (defScope s_NoFact_init) := ⟨rfl, rfl, rfl, by decide +kernel, rfl, by decide +kernel, by decide +kernel⟩
theorem sc_NoStem_init : FnScope ["self", "value"] ["self", "value"] (defScope s_NoStem_init) := ⟨rfl, rfl, rfl, by decide +kernel, rfl, by decide +kernel, by decide +kernel⟩
theorem sc_NoEnding_init : FnScope ["self", "value"] ["self", "value"] (defScope s_NoEnding_init) := ⟨rfl, rfl, rfl, by decide +kernel, rfl, by decide +kernel, by decide +kernel⟩
theorem sc_NoName_init : FnScope ["self", "value"] ["self", "value"] (defScope s_NoName_init) := ⟨rfl, rfl, rfl, by decide +kernel, rfl, by decide +kernel, by decide +kernel⟩
theorem sc_Twice_init : FnScope ["self", "value"] ["self", "value"] (defScope s_Twice_init) := ⟨rfl, rfl, rfl, by decide +kernel, rfl, by decide +kernel, by decide +kernel⟩
theorem sc_Impossible_init : FnScope ["self", "paper"] ["self", "paper"] (defScope s_Impossible_init) := ⟨rfl, rfl, rfl, by decide +kernel, rfl, by decide +kernel, by decide +kernel⟩
theorem sc_TooMany_init : FnScope ["self", "what", "most"] ["self", "what", "most"] (defScope s_TooMany_init) := ⟨rfl, rfl, rfl, by decide +kernel, rfl, by decide +kernel, by decide +kernel⟩
theorem sc_BadText_init : FnScope ["self", "line", "item"] ["self", "line", "item"] (defScope s_BadText_init) := ⟨rfl, rfl, rfl, by decide +kernel, rfl, by decide +kernel, by decide +kernel⟩
theorem sc_BadLine_init : FnScope ["self", "line", "error"] ["self", "line", "error"] (defScope s_BadLine_init) := ⟨rfl, rfl, rfl, by decide +kernel, rfl, by decide +kernel, by decide +kernel⟩

/-! ### the facts -/
def excs : List (Str × List Str × List Str) := [("SignError", [], []), ("BadSide", ["SignError"], ["part"]), ("BadSaying", ["SignError"], ["part"]), ("BadFact", ["SignError"], ["part"]), ("BadBook", ["SignError"], ["part"]), ("BadGrid", ["SignError"], ["part"]), ("BadWord", ["SignError"], ["part"]), ("BadSheet", ["SignError"], ["part"]), ("BadCutting", ["SignError"], ["part"]), ("BadTies", ["SignError"], ["part"]), ("BadHeard", ["SignError"], ["part"]), ("BadValue", ["SignError"], ["part"]), ("BadNaming", ["SignError"], ["part"]), ("BadTurning", ["SignError"], ["part"]), ("BadNumber", ["SignError"], ["part"]), ("BadPaper", ["SignError"], ["part"]), ("BadDesk", ["SignError"], ["part"]), ("Misfit", ["SignError"], ["part"]), ("Missing", ["SignError"], ["value"]), ("NoSign", ["Missing", "SignError"], ["value"]), ("NoFact", ["Missing", "SignError"], ["value"]), ("NoStem", ["Missing", "SignError"], ["value"]), ("NoEnding", ["Missing", "SignError"], ["value"]), ("NoName", ["Missing", "SignError"], ["value"]), ("Twice", ["SignError"], ["value"]), ("Impossible", ["SignError"], ["paper"]), ("TooMany", ["SignError"], ["what", "most"]), ("Nothing", ["SignError"], []), ("BadText", ["SignError"], ["line", "item"]), ("BadLine", ["SignError"], ["line", "error"])]
def defl : List He.DefD := [
  ⟨("is_integer", none), "is_integer", "is_integer", defArgs s_is_integer, defBody s_is_integer, defScope s_is_integer, [], []⟩,
  ⟨("is_within", none), "is_within", "is_within", defArgs s_is_within, defBody s_is_within, defScope s_is_within, [], []⟩,
  ⟨("is_name", none), "is_name", "is_name", defArgs s_is_name, defBody s_is_name, defScope s_is_name, [], []⟩,
  ⟨("is_side", none), "is_side", "is_side", defArgs s_is_side, defBody s_is_side, defScope s_is_side, [], []⟩,
  ⟨("is_truth", none), "is_truth", "is_truth", defArgs s_is_truth, defBody s_is_truth, defScope s_is_truth, [], []⟩,
  ⟨("is_list", none), "is_list", "is_list", defArgs s_is_list, defBody s_is_list, defScope s_is_list, [], []⟩,
  ⟨("are_names", none), "are_names", "are_names", defArgs s_are_names, defBody s_are_names, defScope s_are_names, [], []⟩,
  ⟨("is_word", none), "is_word", "is_word", defArgs s_is_word, defBody s_is_word, defScope s_is_word, [], []⟩,
  ⟨("is_numbers", none), "is_numbers", "is_numbers", defArgs s_is_numbers, defBody s_is_numbers, defScope s_is_numbers, [], []⟩,
  ⟨("again_at", none), "again_at", "again_at", defArgs s_again_at, defBody s_again_at, defScope s_again_at, [], []⟩,
  ⟨("is_one_of", none), "is_one_of", "is_one_of", defArgs s_is_one_of, defBody s_is_one_of, defScope s_is_one_of, [], []⟩,
  ⟨("first_twice", none), "first_twice", "first_twice", defArgs s_first_twice, defBody s_first_twice, defScope s_first_twice, [], []⟩,
  ⟨("_law_pen", none), "_law_pen", "_law_pen", defArgs s_l_pen, defBody s_l_pen, defScope s_l_pen, [], []⟩,
  ⟨("_law_draw", none), "_law_draw", "_law_draw", defArgs s_l_draw, defBody s_l_draw, defScope s_l_draw, [], []⟩,
  ⟨("_law_pick", none), "_law_pick", "_law_pick", defArgs s_l_pick, defBody s_l_pick, defScope s_l_pick, [], []⟩,
  ⟨("_law_value", none), "_law_value", "_law_value", defArgs s_l_value, defBody s_l_value, defScope s_l_value, [], []⟩,
  ⟨("_law_classes", none), "_law_classes", "_law_classes", defArgs s_l_classes, defBody s_l_classes, defScope s_l_classes, [], []⟩,
  ⟨("_law_is_only", none), "_law_is_only", "_law_is_only", defArgs s_l_is_only, defBody s_l_is_only, defScope s_l_is_only, [], []⟩,
  ⟨("_law_by_place", none), "_law_by_place", "_law_by_place", defArgs s_l_by_place, defBody s_l_by_place, defScope s_l_by_place, [], []⟩,
  ⟨("_law_by_name", none), "_law_by_name", "_law_by_name", defArgs s_l_by_name, defBody s_l_by_name, defScope s_l_by_name, [], []⟩,
  ⟨("_law_one_right", none), "_law_one_right", "_law_one_right", defArgs s_l_one_right, defBody s_l_one_right, defScope s_l_one_right, [], []⟩,
  ⟨("_law_two_right", none), "_law_two_right", "_law_two_right", defArgs s_l_two_right, defBody s_l_two_right, defScope s_l_two_right, [], []⟩,
  ⟨("_law_integers_right", none), "_law_integers_right", "_law_integers_right", defArgs s_l_integers_right, defBody s_l_integers_right, defScope s_l_integers_right, [], []⟩,
  ⟨("_law_names_right", none), "_law_names_right", "_law_names_right", defArgs s_l_names_right, defBody s_l_names_right, defScope s_l_names_right, [], []⟩,
  ⟨("_law_words_right", none), "_law_words_right", "_law_words_right", defArgs s_l_words_right, defBody s_l_words_right, defScope s_l_words_right, [], []⟩,
  ⟨("_law_twice_right", none), "_law_twice_right", "_law_twice_right", defArgs s_l_twice_right, defBody s_l_twice_right, defScope s_l_twice_right, [], []⟩,
  ⟨("law", none), "law", "law", defArgs s_law, defBody s_law, defScope s_law, [], []⟩,
  ⟨("BadSide", some "__init__"), "__init__", "BadSide.__init__", defArgs s_BadSide_init, defBody s_BadSide_init, defScope s_BadSide_init, [], []⟩,
  ⟨("BadSaying", some "__init__"), "__init__", "BadSaying.__init__", defArgs s_BadSaying_init, defBody s_BadSaying_init, defScope s_BadSaying_init, [], []⟩,
  ⟨("BadFact", some "__init__"), "__init__", "BadFact.__init__", defArgs s_BadFact_init, defBody s_BadFact_init, defScope s_BadFact_init, [], []⟩,
  ⟨("BadBook", some "__init__"), "__init__", "BadBook.__init__", defArgs s_BadBook_init, defBody s_BadBook_init, defScope s_BadBook_init, [], []⟩,
  ⟨("BadGrid", some "__init__"), "__init__", "BadGrid.__init__", defArgs s_BadGrid_init, defBody s_BadGrid_init, defScope s_BadGrid_init, [], []⟩,
  ⟨("BadWord", some "__init__"), "__init__", "BadWord.__init__", defArgs s_BadWord_init, defBody s_BadWord_init, defScope s_BadWord_init, [], []⟩,
  ⟨("BadSheet", some "__init__"), "__init__", "BadSheet.__init__", defArgs s_BadSheet_init, defBody s_BadSheet_init, defScope s_BadSheet_init, [], []⟩,
  ⟨("BadCutting", some "__init__"), "__init__", "BadCutting.__init__", defArgs s_BadCutting_init, defBody s_BadCutting_init, defScope s_BadCutting_init, [], []⟩,
  ⟨("BadTies", some "__init__"), "__init__", "BadTies.__init__", defArgs s_BadTies_init, defBody s_BadTies_init, defScope s_BadTies_init, [], []⟩,
  ⟨("BadHeard", some "__init__"), "__init__", "BadHeard.__init__", defArgs s_BadHeard_init, defBody s_BadHeard_init, defScope s_BadHeard_init, [], []⟩,
  ⟨("BadValue", some "__init__"), "__init__", "BadValue.__init__", defArgs s_BadValue_init, defBody s_BadValue_init, defScope s_BadValue_init, [], []⟩,
  ⟨("BadNaming", some "__init__"), "__init__", "BadNaming.__init__", defArgs s_BadNaming_init, defBody s_BadNaming_init, defScope s_BadNaming_init, [], []⟩,
  ⟨("BadTurning", some "__init__"), "__init__", "BadTurning.__init__", defArgs s_BadTurning_init, defBody s_BadTurning_init, defScope s_BadTurning_init, [], []⟩,
  ⟨("BadNumber", some "__init__"), "__init__", "BadNumber.__init__", defArgs s_BadNumber_init, defBody s_BadNumber_init, defScope s_BadNumber_init, [], []⟩,
  ⟨("BadPaper", some "__init__"), "__init__", "BadPaper.__init__", defArgs s_BadPaper_init, defBody s_BadPaper_init, defScope s_BadPaper_init, [], []⟩,
  ⟨("BadDesk", some "__init__"), "__init__", "BadDesk.__init__", defArgs s_BadDesk_init, defBody s_BadDesk_init, defScope s_BadDesk_init, [], []⟩,
  ⟨("Misfit", some "__init__"), "__init__", "Misfit.__init__", defArgs s_Misfit_init, defBody s_Misfit_init, defScope s_Misfit_init, [], []⟩,
  ⟨("Missing", some "__init__"), "__init__", "Missing.__init__", defArgs s_Missing_init, defBody s_Missing_init, defScope s_Missing_init, [], []⟩,
  ⟨("NoSign", some "__init__"), "__init__", "NoSign.__init__", defArgs s_NoSign_init, defBody s_NoSign_init, defScope s_NoSign_init, [], []⟩,
  ⟨("NoFact", some "__init__"), "__init__", "NoFact.__init__", defArgs s_NoFact_init, defBody s_NoFact_init, defScope s_NoFact_init, [], []⟩,
  ⟨("NoStem", some "__init__"), "__init__", "NoStem.__init__", defArgs s_NoStem_init, defBody s_NoStem_init, defScope s_NoStem_init, [], []⟩,
  ⟨("NoEnding", some "__init__"), "__init__", "NoEnding.__init__", defArgs s_NoEnding_init, defBody s_NoEnding_init, defScope s_NoEnding_init, [], []⟩,
  ⟨("NoName", some "__init__"), "__init__", "NoName.__init__", defArgs s_NoName_init, defBody s_NoName_init, defScope s_NoName_init, [], []⟩,
  ⟨("Twice", some "__init__"), "__init__", "Twice.__init__", defArgs s_Twice_init, defBody s_Twice_init, defScope s_Twice_init, [], []⟩,
  ⟨("Impossible", some "__init__"), "__init__", "Impossible.__init__", defArgs s_Impossible_init, defBody s_Impossible_init, defScope s_Impossible_init, [], []⟩,
  ⟨("TooMany", some "__init__"), "__init__", "TooMany.__init__", defArgs s_TooMany_init, defBody s_TooMany_init, defScope s_TooMany_init, [], []⟩,
  ⟨("BadText", some "__init__"), "__init__", "BadText.__init__", defArgs s_BadText_init, defBody s_BadText_init, defScope s_BadText_init, [], []⟩,
  ⟨("BadLine", some "__init__"), "__init__", "BadLine.__init__", defArgs s_BadLine_init, defBody s_BadLine_init, defScope s_BadLine_init, [], []⟩]
def facl : List He.Fa := [.glo "is_integer", .glo "is_within", .glo "is_name", .glo "is_side", .glo "is_truth", .glo "is_list", .glo "are_names", .glo "is_word", .glo "is_numbers", .glo "again_at", .glo "is_one_of", .glo "first_twice", .glo "_law_pen", .glo "_law_draw", .glo "_law_pick", .glo "_law_value", .glo "_law_classes", .glo "_law_is_only", .glo "_law_by_place", .glo "_law_by_name", .glo "_law_one_right", .glo "_law_two_right", .glo "_law_integers_right", .glo "_law_names_right", .glo "_law_words_right", .glo "_law_twice_right", .glo "law", .glo "SignError", .glo "BadSide", .glo "BadSaying", .glo "BadFact", .glo "BadBook", .glo "BadGrid", .glo "BadWord", .glo "BadSheet", .glo "BadCutting", .glo "BadTies", .glo "BadHeard", .glo "BadValue", .glo "BadNaming", .glo "BadTurning", .glo "BadNumber", .glo "BadPaper", .glo "BadDesk", .glo "Misfit", .glo "Missing", .glo "NoSign", .glo "NoFact", .glo "NoStem", .glo "NoEnding", .glo "NoName", .glo "Twice", .glo "Impossible", .glo "TooMany", .glo "Nothing", .glo "BadText", .glo "BadLine", .str "LETTERS" "abcdefghijklmnopqrstuvwxyz", .str "NAME_MARKS" "abcdefghijklmnopqrstuvwxyz0123456789", .int "MOST_MARKS" 12, .int "MOST_IN_WORD" 6, .glo "SIDES", .free "ArithmeticError", .free "AttributeError", .free "LookupError", .free "RuntimeError", .free "TypeError", .free "ValueError", .free "abs", .free "all", .free "bool", .free "enumerate", .free "int", .free "isinstance", .free "len", .free "list", .free "range", .free "set", .free "str", .free "tuple", .exc "SignError", .meth "BadSide" "__init__", .meth "BadSaying" "__init__", .meth "BadFact" "__init__", .meth "BadBook" "__init__", .meth "BadGrid" "__init__", .meth "BadWord" "__init__", .meth "BadSheet" "__init__", .meth "BadCutting" "__init__", .meth "BadTies" "__init__", .meth "BadHeard" "__init__", .meth "BadValue" "__init__", .meth "BadNaming" "__init__", .meth "BadTurning" "__init__", .meth "BadNumber" "__init__", .meth "BadPaper" "__init__", .meth "BadDesk" "__init__", .meth "Misfit" "__init__", .meth "Missing" "__init__", .meth "NoSign" "__init__", .meth "NoFact" "__init__", .meth "NoStem" "__init__", .meth "NoEnding" "__init__", .meth "NoName" "__init__", .meth "Twice" "__init__", .meth "Impossible" "__init__", .meth "TooMany" "__init__", .exc "Nothing", .meth "BadText" "__init__", .meth "BadLine" "__init__"]
/-! ### what stands behind the top -/
structure Tx (K : PySem.W.Frag) (mg : Str → Option Value) : Prop where
  f_is_integer : FunD K "is_integer" "is_integer" (defArgs s_is_integer) (defBody s_is_integer) (defScope s_is_integer) [] [] (ga K "is_integer") (fdOf K ("is_integer", none))
  f_is_within : FunD K "is_within" "is_within" (defArgs s_is_within) (defBody s_is_within) (defScope s_is_within) [] [] (ga K "is_within") (fdOf K ("is_within", none))
  f_is_name : FunD K "is_name" "is_name" (defArgs s_is_name) (defBody s_is_name) (defScope s_is_name) [] [] (ga K "is_name") (fdOf K ("is_name", none))
  f_is_side : FunD K "is_side" "is_side" (defArgs s_is_side) (defBody s_is_side) (defScope s_is_side) [] [] (ga K "is_side") (fdOf K ("is_side", none))
  f_is_truth : FunD K "is_truth" "is_truth" (defArgs s_is_truth) (defBody s_is_truth) (defScope s_is_truth) [] [] (ga K "is_truth") (fdOf K ("is_truth", none))
  f_is_list : FunD K "is_list" "is_list" (defArgs s_is_list) (defBody s_is_list) (defScope s_is_list) [] [] (ga K "is_list") (fdOf K ("is_list", none))
  f_are_names : FunD K "are_names" "are_names" (defArgs s_are_names) (defBody s_are_names) (defScope s_are_names) [] [] (ga K "are_names") (fdOf K ("are_names", none))
  f_is_word : FunD K "is_word" "is_word" (defArgs s_is_word) (defBody s_is_word) (defScope s_is_word) [] [] (ga K "is_word") (fdOf K ("is_word", none))
  f_is_numbers : FunD K "is_numbers" "is_numbers" (defArgs s_is_numbers) (defBody s_is_numbers) (defScope s_is_numbers) [] [] (ga K "is_numbers") (fdOf K ("is_numbers", none))
  f_again_at : FunD K "again_at" "again_at" (defArgs s_again_at) (defBody s_again_at) (defScope s_again_at) [] [] (ga K "again_at") (fdOf K ("again_at", none))
  f_is_one_of : FunD K "is_one_of" "is_one_of" (defArgs s_is_one_of) (defBody s_is_one_of) (defScope s_is_one_of) [] [] (ga K "is_one_of") (fdOf K ("is_one_of", none))
  f_first_twice : FunD K "first_twice" "first_twice" (defArgs s_first_twice) (defBody s_first_twice) (defScope s_first_twice) [] [] (ga K "first_twice") (fdOf K ("first_twice", none))
  f_l_pen : FunD K "_law_pen" "_law_pen" (defArgs s_l_pen) (defBody s_l_pen) (defScope s_l_pen) [] [] (ga K "_law_pen") (fdOf K ("_law_pen", none))
  f_l_draw : FunD K "_law_draw" "_law_draw" (defArgs s_l_draw) (defBody s_l_draw) (defScope s_l_draw) [] [] (ga K "_law_draw") (fdOf K ("_law_draw", none))
  f_l_pick : FunD K "_law_pick" "_law_pick" (defArgs s_l_pick) (defBody s_l_pick) (defScope s_l_pick) [] [] (ga K "_law_pick") (fdOf K ("_law_pick", none))
  f_l_value : FunD K "_law_value" "_law_value" (defArgs s_l_value) (defBody s_l_value) (defScope s_l_value) [] [] (ga K "_law_value") (fdOf K ("_law_value", none))
  f_l_classes : FunD K "_law_classes" "_law_classes" (defArgs s_l_classes) (defBody s_l_classes) (defScope s_l_classes) [] [] (ga K "_law_classes") (fdOf K ("_law_classes", none))
  f_l_is_only : FunD K "_law_is_only" "_law_is_only" (defArgs s_l_is_only) (defBody s_l_is_only) (defScope s_l_is_only) [] [] (ga K "_law_is_only") (fdOf K ("_law_is_only", none))
  f_l_by_place : FunD K "_law_by_place" "_law_by_place" (defArgs s_l_by_place) (defBody s_l_by_place) (defScope s_l_by_place) [] [] (ga K "_law_by_place") (fdOf K ("_law_by_place", none))
  f_l_by_name : FunD K "_law_by_name" "_law_by_name" (defArgs s_l_by_name) (defBody s_l_by_name) (defScope s_l_by_name) [] [] (ga K "_law_by_name") (fdOf K ("_law_by_name", none))
  f_l_one_right : FunD K "_law_one_right" "_law_one_right" (defArgs s_l_one_right) (defBody s_l_one_right) (defScope s_l_one_right) [] [] (ga K "_law_one_right") (fdOf K ("_law_one_right", none))
  f_l_two_right : FunD K "_law_two_right" "_law_two_right" (defArgs s_l_two_right) (defBody s_l_two_right) (defScope s_l_two_right) [] [] (ga K "_law_two_right") (fdOf K ("_law_two_right", none))
  f_l_integers_right : FunD K "_law_integers_right" "_law_integers_right" (defArgs s_l_integers_right) (defBody s_l_integers_right) (defScope s_l_integers_right) [] [] (ga K "_law_integers_right") (fdOf K ("_law_integers_right", none))
  f_l_names_right : FunD K "_law_names_right" "_law_names_right" (defArgs s_l_names_right) (defBody s_l_names_right) (defScope s_l_names_right) [] [] (ga K "_law_names_right") (fdOf K ("_law_names_right", none))
  f_l_words_right : FunD K "_law_words_right" "_law_words_right" (defArgs s_l_words_right) (defBody s_l_words_right) (defScope s_l_words_right) [] [] (ga K "_law_words_right") (fdOf K ("_law_words_right", none))
  f_l_twice_right : FunD K "_law_twice_right" "_law_twice_right" (defArgs s_l_twice_right) (defBody s_l_twice_right) (defScope s_l_twice_right) [] [] (ga K "_law_twice_right") (fdOf K ("_law_twice_right", none))
  f_law : FunD K "law" "law" (defArgs s_law) (defBody s_law) (defScope s_law) [] [] (ga K "law") (fdOf K ("law", none))
  f_BadSide_init : FunD K "__init__" "BadSide.__init__" (defArgs s_BadSide_init) (defBody s_BadSide_init) (defScope s_BadSide_init) [] [] (ma K (ga K "BadSide") "__init__") (fdOf K ("BadSide", some "__init__"))
  f_BadSaying_init : FunD K "__init__" "BadSaying.__init__" (defArgs s_BadSaying_init) (defBody s_BadSaying_init) (defScope s_BadSaying_init) [] [] (ma K (ga K "BadSaying") "__init__") (fdOf K ("BadSaying", some "__init__"))
  f_BadFact_init : FunD K "__init__" "BadFact.__init__" (defArgs s_BadFact_init) (defBody s_BadFact_init) (defScope s_BadFact_init) [] [] (ma K (ga K "BadFact") "__init__") (fdOf K ("BadFact", some "__init__"))
  f_BadBook_init : FunD K "__init__" "BadBook.__init__" (defArgs s_BadBook_init) (defBody s_BadBook_init) (defScope s_BadBook_init) [] [] (ma K (ga K "BadBook") "__init__") (fdOf K ("BadBook", some "__init__"))
  f_BadGrid_init : FunD K "__init__" "BadGrid.__init__" (defArgs s_BadGrid_init) (defBody s_BadGrid_init) (defScope s_BadGrid_init) [] [] (ma K (ga K "BadGrid") "__init__") (fdOf K ("BadGrid", some "__init__"))
  f_BadWord_init : FunD K "__init__" "BadWord.__init__" (defArgs s_BadWord_init) (defBody s_BadWord_init) (defScope s_BadWord_init) [] [] (ma K (ga K "BadWord") "__init__") (fdOf K ("BadWord", some "__init__"))
  f_BadSheet_init : FunD K "__init__" "BadSheet.__init__" (defArgs s_BadSheet_init) (defBody s_BadSheet_init) (defScope s_BadSheet_init) [] [] (ma K (ga K "BadSheet") "__init__") (fdOf K ("BadSheet", some "__init__"))
  f_BadCutting_init : FunD K "__init__" "BadCutting.__init__" (defArgs s_BadCutting_init) (defBody s_BadCutting_init) (defScope s_BadCutting_init) [] [] (ma K (ga K "BadCutting") "__init__") (fdOf K ("BadCutting", some "__init__"))
  f_BadTies_init : FunD K "__init__" "BadTies.__init__" (defArgs s_BadTies_init) (defBody s_BadTies_init) (defScope s_BadTies_init) [] [] (ma K (ga K "BadTies") "__init__") (fdOf K ("BadTies", some "__init__"))
  f_BadHeard_init : FunD K "__init__" "BadHeard.__init__" (defArgs s_BadHeard_init) (defBody s_BadHeard_init) (defScope s_BadHeard_init) [] [] (ma K (ga K "BadHeard") "__init__") (fdOf K ("BadHeard", some "__init__"))
  f_BadValue_init : FunD K "__init__" "BadValue.__init__" (defArgs s_BadValue_init) (defBody s_BadValue_init) (defScope s_BadValue_init) [] [] (ma K (ga K "BadValue") "__init__") (fdOf K ("BadValue", some "__init__"))
  f_BadNaming_init : FunD K "__init__" "BadNaming.__init__" (defArgs s_BadNaming_init) (defBody s_BadNaming_init) (defScope s_BadNaming_init) [] [] (ma K (ga K "BadNaming") "__init__") (fdOf K ("BadNaming", some "__init__"))
  f_BadTurning_init : FunD K "__init__" "BadTurning.__init__" (defArgs s_BadTurning_init) (defBody s_BadTurning_init) (defScope s_BadTurning_init) [] [] (ma K (ga K "BadTurning") "__init__") (fdOf K ("BadTurning", some "__init__"))
  f_BadNumber_init : FunD K "__init__" "BadNumber.__init__" (defArgs s_BadNumber_init) (defBody s_BadNumber_init) (defScope s_BadNumber_init) [] [] (ma K (ga K "BadNumber") "__init__") (fdOf K ("BadNumber", some "__init__"))
  f_BadPaper_init : FunD K "__init__" "BadPaper.__init__" (defArgs s_BadPaper_init) (defBody s_BadPaper_init) (defScope s_BadPaper_init) [] [] (ma K (ga K "BadPaper") "__init__") (fdOf K ("BadPaper", some "__init__"))
  f_BadDesk_init : FunD K "__init__" "BadDesk.__init__" (defArgs s_BadDesk_init) (defBody s_BadDesk_init) (defScope s_BadDesk_init) [] [] (ma K (ga K "BadDesk") "__init__") (fdOf K ("BadDesk", some "__init__"))
  f_Misfit_init : FunD K "__init__" "Misfit.__init__" (defArgs s_Misfit_init) (defBody s_Misfit_init) (defScope s_Misfit_init) [] [] (ma K (ga K "Misfit") "__init__") (fdOf K ("Misfit", some "__init__"))
  f_Missing_init : FunD K "__init__" "Missing.__init__" (defArgs s_Missing_init) (defBody s_Missing_init) (defScope s_Missing_init) [] [] (ma K (ga K "Missing") "__init__") (fdOf K ("Missing", some "__init__"))
  f_NoSign_init : FunD K "__init__" "NoSign.__init__" (defArgs s_NoSign_init) (defBody s_NoSign_init) (defScope s_NoSign_init) [] [] (ma K (ga K "NoSign") "__init__") (fdOf K ("NoSign", some "__init__"))
  f_NoFact_init : FunD K "__init__" "NoFact.__init__" (defArgs s_NoFact_init) (defBody s_NoFact_init) (defScope s_NoFact_init) [] [] (ma K (ga K "NoFact") "__init__") (fdOf K ("NoFact", some "__init__"))
  f_NoStem_init : FunD K "__init__" "NoStem.__init__" (defArgs s_NoStem_init) (defBody s_NoStem_init) (defScope s_NoStem_init) [] [] (ma K (ga K "NoStem") "__init__") (fdOf K ("NoStem", some "__init__"))
  f_NoEnding_init : FunD K "__init__" "NoEnding.__init__" (defArgs s_NoEnding_init) (defBody s_NoEnding_init) (defScope s_NoEnding_init) [] [] (ma K (ga K "NoEnding") "__init__") (fdOf K ("NoEnding", some "__init__"))
  f_NoName_init : FunD K "__init__" "NoName.__init__" (defArgs s_NoName_init) (defBody s_NoName_init) (defScope s_NoName_init) [] [] (ma K (ga K "NoName") "__init__") (fdOf K ("NoName", some "__init__"))
  f_Twice_init : FunD K "__init__" "Twice.__init__" (defArgs s_Twice_init) (defBody s_Twice_init) (defScope s_Twice_init) [] [] (ma K (ga K "Twice") "__init__") (fdOf K ("Twice", some "__init__"))
  f_Impossible_init : FunD K "__init__" "Impossible.__init__" (defArgs s_Impossible_init) (defBody s_Impossible_init) (defScope s_Impossible_init) [] [] (ma K (ga K "Impossible") "__init__") (fdOf K ("Impossible", some "__init__"))
  f_TooMany_init : FunD K "__init__" "TooMany.__init__" (defArgs s_TooMany_init) (defBody s_TooMany_init) (defScope s_TooMany_init) [] [] (ma K (ga K "TooMany") "__init__") (fdOf K ("TooMany", some "__init__"))
  f_BadText_init : FunD K "__init__" "BadText.__init__" (defArgs s_BadText_init) (defBody s_BadText_init) (defScope s_BadText_init) [] [] (ma K (ga K "BadText") "__init__") (fdOf K ("BadText", some "__init__"))
  f_BadLine_init : FunD K "__init__" "BadLine.__init__" (defArgs s_BadLine_init) (defBody s_BadLine_init) (defScope s_BadLine_init) [] [] (ma K (ga K "BadLine") "__init__") (fdOf K ("BadLine", some "__init__"))
  g_is_integer : mg "is_integer" = some (.ref (ga K "is_integer"))
  g_is_within : mg "is_within" = some (.ref (ga K "is_within"))
  g_is_name : mg "is_name" = some (.ref (ga K "is_name"))
  g_is_side : mg "is_side" = some (.ref (ga K "is_side"))
  g_is_truth : mg "is_truth" = some (.ref (ga K "is_truth"))
  g_is_list : mg "is_list" = some (.ref (ga K "is_list"))
  g_are_names : mg "are_names" = some (.ref (ga K "are_names"))
  g_is_word : mg "is_word" = some (.ref (ga K "is_word"))
  g_is_numbers : mg "is_numbers" = some (.ref (ga K "is_numbers"))
  g_again_at : mg "again_at" = some (.ref (ga K "again_at"))
  g_is_one_of : mg "is_one_of" = some (.ref (ga K "is_one_of"))
  g_first_twice : mg "first_twice" = some (.ref (ga K "first_twice"))
  g_l_pen : mg "_law_pen" = some (.ref (ga K "_law_pen"))
  g_l_draw : mg "_law_draw" = some (.ref (ga K "_law_draw"))
  g_l_pick : mg "_law_pick" = some (.ref (ga K "_law_pick"))
  g_l_value : mg "_law_value" = some (.ref (ga K "_law_value"))
  g_l_classes : mg "_law_classes" = some (.ref (ga K "_law_classes"))
  g_l_is_only : mg "_law_is_only" = some (.ref (ga K "_law_is_only"))
  g_l_by_place : mg "_law_by_place" = some (.ref (ga K "_law_by_place"))
  g_l_by_name : mg "_law_by_name" = some (.ref (ga K "_law_by_name"))
  g_l_one_right : mg "_law_one_right" = some (.ref (ga K "_law_one_right"))
  g_l_two_right : mg "_law_two_right" = some (.ref (ga K "_law_two_right"))
  g_l_integers_right : mg "_law_integers_right" = some (.ref (ga K "_law_integers_right"))
  g_l_names_right : mg "_law_names_right" = some (.ref (ga K "_law_names_right"))
  g_l_words_right : mg "_law_words_right" = some (.ref (ga K "_law_words_right"))
  g_l_twice_right : mg "_law_twice_right" = some (.ref (ga K "_law_twice_right"))
  g_law : mg "law" = some (.ref (ga K "law"))
  g_SignError : mg "SignError" = some (.ref (ga K "SignError"))
  g_BadSide : mg "BadSide" = some (.ref (ga K "BadSide"))
  g_BadSaying : mg "BadSaying" = some (.ref (ga K "BadSaying"))
  g_BadFact : mg "BadFact" = some (.ref (ga K "BadFact"))
  g_BadBook : mg "BadBook" = some (.ref (ga K "BadBook"))
  g_BadGrid : mg "BadGrid" = some (.ref (ga K "BadGrid"))
  g_BadWord : mg "BadWord" = some (.ref (ga K "BadWord"))
  g_BadSheet : mg "BadSheet" = some (.ref (ga K "BadSheet"))
  g_BadCutting : mg "BadCutting" = some (.ref (ga K "BadCutting"))
  g_BadTies : mg "BadTies" = some (.ref (ga K "BadTies"))
  g_BadHeard : mg "BadHeard" = some (.ref (ga K "BadHeard"))
  g_BadValue : mg "BadValue" = some (.ref (ga K "BadValue"))
  g_BadNaming : mg "BadNaming" = some (.ref (ga K "BadNaming"))
  g_BadTurning : mg "BadTurning" = some (.ref (ga K "BadTurning"))
  g_BadNumber : mg "BadNumber" = some (.ref (ga K "BadNumber"))
  g_BadPaper : mg "BadPaper" = some (.ref (ga K "BadPaper"))
  g_BadDesk : mg "BadDesk" = some (.ref (ga K "BadDesk"))
  g_Misfit : mg "Misfit" = some (.ref (ga K "Misfit"))
  g_Missing : mg "Missing" = some (.ref (ga K "Missing"))
  g_NoSign : mg "NoSign" = some (.ref (ga K "NoSign"))
  g_NoFact : mg "NoFact" = some (.ref (ga K "NoFact"))
  g_NoStem : mg "NoStem" = some (.ref (ga K "NoStem"))
  g_NoEnding : mg "NoEnding" = some (.ref (ga K "NoEnding"))
  g_NoName : mg "NoName" = some (.ref (ga K "NoName"))
  g_Twice : mg "Twice" = some (.ref (ga K "Twice"))
  g_Impossible : mg "Impossible" = some (.ref (ga K "Impossible"))
  g_TooMany : mg "TooMany" = some (.ref (ga K "TooMany"))
  g_Nothing : mg "Nothing" = some (.ref (ga K "Nothing"))
  g_BadText : mg "BadText" = some (.ref (ga K "BadText"))
  g_BadLine : mg "BadLine" = some (.ref (ga K "BadLine"))
  g_LETTERS : ∃ t, mg "LETTERS" = some (.str "abcdefghijklmnopqrstuvwxyz" t)
  g_NAME_MARKS : ∃ t, mg "NAME_MARKS" = some (.str "abcdefghijklmnopqrstuvwxyz0123456789" t)
  g_MOST_MARKS : ∃ t, mg "MOST_MARKS" = some (.int 12 t)
  g_MOST_IN_WORD : ∃ t, mg "MOST_IN_WORD" = some (.int 6 t)
  g_SIDES : mg "SIDES" = some (.ref (ga K "SIDES"))
  n_ArithmeticError : mg "ArithmeticError" = none
  n_AttributeError : mg "AttributeError" = none
  n_LookupError : mg "LookupError" = none
  n_RuntimeError : mg "RuntimeError" = none
  n_TypeError : mg "TypeError" = none
  n_ValueError : mg "ValueError" = none
  n_abs : mg "abs" = none
  n_all : mg "all" = none
  n_bool : mg "bool" = none
  n_enumerate : mg "enumerate" = none
  n_int : mg "int" = none
  n_isinstance : mg "isinstance" = none
  n_len : mg "len" = none
  n_list : mg "list" = none
  n_range : mg "range" = none
  n_set : mg "set" = none
  n_str : mg "str" = none
  n_tuple : mg "tuple" = none
  e_SignError : (He.Fa.exc "SignError").ok K = true
  m_BadSide : Meth K (ga K "BadSide") "__init__" (ma K (ga K "BadSide") "__init__")
  m_BadSaying : Meth K (ga K "BadSaying") "__init__" (ma K (ga K "BadSaying") "__init__")
  m_BadFact : Meth K (ga K "BadFact") "__init__" (ma K (ga K "BadFact") "__init__")
  m_BadBook : Meth K (ga K "BadBook") "__init__" (ma K (ga K "BadBook") "__init__")
  m_BadGrid : Meth K (ga K "BadGrid") "__init__" (ma K (ga K "BadGrid") "__init__")
  m_BadWord : Meth K (ga K "BadWord") "__init__" (ma K (ga K "BadWord") "__init__")
  m_BadSheet : Meth K (ga K "BadSheet") "__init__" (ma K (ga K "BadSheet") "__init__")
  m_BadCutting : Meth K (ga K "BadCutting") "__init__" (ma K (ga K "BadCutting") "__init__")
  m_BadTies : Meth K (ga K "BadTies") "__init__" (ma K (ga K "BadTies") "__init__")
  m_BadHeard : Meth K (ga K "BadHeard") "__init__" (ma K (ga K "BadHeard") "__init__")
  m_BadValue : Meth K (ga K "BadValue") "__init__" (ma K (ga K "BadValue") "__init__")
  m_BadNaming : Meth K (ga K "BadNaming") "__init__" (ma K (ga K "BadNaming") "__init__")
  m_BadTurning : Meth K (ga K "BadTurning") "__init__" (ma K (ga K "BadTurning") "__init__")
  m_BadNumber : Meth K (ga K "BadNumber") "__init__" (ma K (ga K "BadNumber") "__init__")
  m_BadPaper : Meth K (ga K "BadPaper") "__init__" (ma K (ga K "BadPaper") "__init__")
  m_BadDesk : Meth K (ga K "BadDesk") "__init__" (ma K (ga K "BadDesk") "__init__")
  m_Misfit : Meth K (ga K "Misfit") "__init__" (ma K (ga K "Misfit") "__init__")
  m_Missing : Meth K (ga K "Missing") "__init__" (ma K (ga K "Missing") "__init__")
  m_NoSign : Meth K (ga K "NoSign") "__init__" (ma K (ga K "NoSign") "__init__")
  m_NoFact : Meth K (ga K "NoFact") "__init__" (ma K (ga K "NoFact") "__init__")
  m_NoStem : Meth K (ga K "NoStem") "__init__" (ma K (ga K "NoStem") "__init__")
  m_NoEnding : Meth K (ga K "NoEnding") "__init__" (ma K (ga K "NoEnding") "__init__")
  m_NoName : Meth K (ga K "NoName") "__init__" (ma K (ga K "NoName") "__init__")
  m_Twice : Meth K (ga K "Twice") "__init__" (ma K (ga K "Twice") "__init__")
  m_Impossible : Meth K (ga K "Impossible") "__init__" (ma K (ga K "Impossible") "__init__")
  m_TooMany : Meth K (ga K "TooMany") "__init__" (ma K (ga K "TooMany") "__init__")
  e_Nothing : (He.Fa.exc "Nothing").ok K = true
  m_BadText : Meth K (ga K "BadText") "__init__" (ma K (ga K "BadText") "__init__")
  m_BadLine : Meth K (ga K "BadLine") "__init__" (ma K (ga K "BadLine") "__init__")
  xs : excsB K excs = true
  t_SIDES : tupB K "SIDES" [.str "column", .str "row"] = true
def chk (K : PySem.W.Frag) : Bool := excsB K excs && tupB K "SIDES" [.str "column", .str "row"]
theorem tx_of {K : PySem.W.Frag} {mg : Str → Option Value} {h : Heap} (X : K.In h) (G : h.Ns mainGlobals mg) (c : Hx.SaysX chk facl defl K) : Tx K mg := ⟨
  (funD_at c.says 0 (d := ⟨("is_integer", none), "is_integer", "is_integer", defArgs s_is_integer, defBody s_is_integer, defScope s_is_integer, [], []⟩) rfl),
  (funD_at c.says 1 (d := ⟨("is_within", none), "is_within", "is_within", defArgs s_is_within, defBody s_is_within, defScope s_is_within, [], []⟩) rfl),
  (funD_at c.says 2 (d := ⟨("is_name", none), "is_name", "is_name", defArgs s_is_name, defBody s_is_name, defScope s_is_name, [], []⟩) rfl),
  (funD_at c.says 3 (d := ⟨("is_side", none), "is_side", "is_side", defArgs s_is_side, defBody s_is_side, defScope s_is_side, [], []⟩) rfl),
  (funD_at c.says 4 (d := ⟨("is_truth", none), "is_truth", "is_truth", defArgs s_is_truth, defBody s_is_truth, defScope s_is_truth, [], []⟩) rfl),
  (funD_at c.says 5 (d := ⟨("is_list", none), "is_list", "is_list", defArgs s_is_list, defBody s_is_list, defScope s_is_list, [], []⟩) rfl),
  (funD_at c.says 6 (d := ⟨("are_names", none), "are_names", "are_names", defArgs s_are_names, defBody s_are_names, defScope s_are_names, [], []⟩) rfl),
  (funD_at c.says 7 (d := ⟨("is_word", none), "is_word", "is_word", defArgs s_is_word, defBody s_is_word, defScope s_is_word, [], []⟩) rfl),
  (funD_at c.says 8 (d := ⟨("is_numbers", none), "is_numbers", "is_numbers", defArgs s_is_numbers, defBody s_is_numbers, defScope s_is_numbers, [], []⟩) rfl),
  (funD_at c.says 9 (d := ⟨("again_at", none), "again_at", "again_at", defArgs s_again_at, defBody s_again_at, defScope s_again_at, [], []⟩) rfl),
  (funD_at c.says 10 (d := ⟨("is_one_of", none), "is_one_of", "is_one_of", defArgs s_is_one_of, defBody s_is_one_of, defScope s_is_one_of, [], []⟩) rfl),
  (funD_at c.says 11 (d := ⟨("first_twice", none), "first_twice", "first_twice", defArgs s_first_twice, defBody s_first_twice, defScope s_first_twice, [], []⟩) rfl),
  (funD_at c.says 12 (d := ⟨("_law_pen", none), "_law_pen", "_law_pen", defArgs s_l_pen, defBody s_l_pen, defScope s_l_pen, [], []⟩) rfl),
  (funD_at c.says 13 (d := ⟨("_law_draw", none), "_law_draw", "_law_draw", defArgs s_l_draw, defBody s_l_draw, defScope s_l_draw, [], []⟩) rfl),
  (funD_at c.says 14 (d := ⟨("_law_pick", none), "_law_pick", "_law_pick", defArgs s_l_pick, defBody s_l_pick, defScope s_l_pick, [], []⟩) rfl),
  (funD_at c.says 15 (d := ⟨("_law_value", none), "_law_value", "_law_value", defArgs s_l_value, defBody s_l_value, defScope s_l_value, [], []⟩) rfl),
  (funD_at c.says 16 (d := ⟨("_law_classes", none), "_law_classes", "_law_classes", defArgs s_l_classes, defBody s_l_classes, defScope s_l_classes, [], []⟩) rfl),
  (funD_at c.says 17 (d := ⟨("_law_is_only", none), "_law_is_only", "_law_is_only", defArgs s_l_is_only, defBody s_l_is_only, defScope s_l_is_only, [], []⟩) rfl),
  (funD_at c.says 18 (d := ⟨("_law_by_place", none), "_law_by_place", "_law_by_place", defArgs s_l_by_place, defBody s_l_by_place, defScope s_l_by_place, [], []⟩) rfl),
  (funD_at c.says 19 (d := ⟨("_law_by_name", none), "_law_by_name", "_law_by_name", defArgs s_l_by_name, defBody s_l_by_name, defScope s_l_by_name, [], []⟩) rfl),
  (funD_at c.says 20 (d := ⟨("_law_one_right", none), "_law_one_right", "_law_one_right", defArgs s_l_one_right, defBody s_l_one_right, defScope s_l_one_right, [], []⟩) rfl),
  (funD_at c.says 21 (d := ⟨("_law_two_right", none), "_law_two_right", "_law_two_right", defArgs s_l_two_right, defBody s_l_two_right, defScope s_l_two_right, [], []⟩) rfl),
  (funD_at c.says 22 (d := ⟨("_law_integers_right", none), "_law_integers_right", "_law_integers_right", defArgs s_l_integers_right, defBody s_l_integers_right, defScope s_l_integers_right, [], []⟩) rfl),
  (funD_at c.says 23 (d := ⟨("_law_names_right", none), "_law_names_right", "_law_names_right", defArgs s_l_names_right, defBody s_l_names_right, defScope s_l_names_right, [], []⟩) rfl),
  (funD_at c.says 24 (d := ⟨("_law_words_right", none), "_law_words_right", "_law_words_right", defArgs s_l_words_right, defBody s_l_words_right, defScope s_l_words_right, [], []⟩) rfl),
  (funD_at c.says 25 (d := ⟨("_law_twice_right", none), "_law_twice_right", "_law_twice_right", defArgs s_l_twice_right, defBody s_l_twice_right, defScope s_l_twice_right, [], []⟩) rfl),
  (funD_at c.says 26 (d := ⟨("law", none), "law", "law", defArgs s_law, defBody s_law, defScope s_law, [], []⟩) rfl),
  (funD_at c.says 27 (d := ⟨("BadSide", some "__init__"), "__init__", "BadSide.__init__", defArgs s_BadSide_init, defBody s_BadSide_init, defScope s_BadSide_init, [], []⟩) rfl),
  (funD_at c.says 28 (d := ⟨("BadSaying", some "__init__"), "__init__", "BadSaying.__init__", defArgs s_BadSaying_init, defBody s_BadSaying_init, defScope s_BadSaying_init, [], []⟩) rfl),
  (funD_at c.says 29 (d := ⟨("BadFact", some "__init__"), "__init__", "BadFact.__init__", defArgs s_BadFact_init, defBody s_BadFact_init, defScope s_BadFact_init, [], []⟩) rfl),
  (funD_at c.says 30 (d := ⟨("BadBook", some "__init__"), "__init__", "BadBook.__init__", defArgs s_BadBook_init, defBody s_BadBook_init, defScope s_BadBook_init, [], []⟩) rfl),
  (funD_at c.says 31 (d := ⟨("BadGrid", some "__init__"), "__init__", "BadGrid.__init__", defArgs s_BadGrid_init, defBody s_BadGrid_init, defScope s_BadGrid_init, [], []⟩) rfl),
  (funD_at c.says 32 (d := ⟨("BadWord", some "__init__"), "__init__", "BadWord.__init__", defArgs s_BadWord_init, defBody s_BadWord_init, defScope s_BadWord_init, [], []⟩) rfl),
  (funD_at c.says 33 (d := ⟨("BadSheet", some "__init__"), "__init__", "BadSheet.__init__", defArgs s_BadSheet_init, defBody s_BadSheet_init, defScope s_BadSheet_init, [], []⟩) rfl),
  (funD_at c.says 34 (d := ⟨("BadCutting", some "__init__"), "__init__", "BadCutting.__init__", defArgs s_BadCutting_init, defBody s_BadCutting_init, defScope s_BadCutting_init, [], []⟩) rfl),
  (funD_at c.says 35 (d := ⟨("BadTies", some "__init__"), "__init__", "BadTies.__init__", defArgs s_BadTies_init, defBody s_BadTies_init, defScope s_BadTies_init, [], []⟩) rfl),
  (funD_at c.says 36 (d := ⟨("BadHeard", some "__init__"), "__init__", "BadHeard.__init__", defArgs s_BadHeard_init, defBody s_BadHeard_init, defScope s_BadHeard_init, [], []⟩) rfl),
  (funD_at c.says 37 (d := ⟨("BadValue", some "__init__"), "__init__", "BadValue.__init__", defArgs s_BadValue_init, defBody s_BadValue_init, defScope s_BadValue_init, [], []⟩) rfl),
  (funD_at c.says 38 (d := ⟨("BadNaming", some "__init__"), "__init__", "BadNaming.__init__", defArgs s_BadNaming_init, defBody s_BadNaming_init, defScope s_BadNaming_init, [], []⟩) rfl),
  (funD_at c.says 39 (d := ⟨("BadTurning", some "__init__"), "__init__", "BadTurning.__init__", defArgs s_BadTurning_init, defBody s_BadTurning_init, defScope s_BadTurning_init, [], []⟩) rfl),
  (funD_at c.says 40 (d := ⟨("BadNumber", some "__init__"), "__init__", "BadNumber.__init__", defArgs s_BadNumber_init, defBody s_BadNumber_init, defScope s_BadNumber_init, [], []⟩) rfl),
  (funD_at c.says 41 (d := ⟨("BadPaper", some "__init__"), "__init__", "BadPaper.__init__", defArgs s_BadPaper_init, defBody s_BadPaper_init, defScope s_BadPaper_init, [], []⟩) rfl),
  (funD_at c.says 42 (d := ⟨("BadDesk", some "__init__"), "__init__", "BadDesk.__init__", defArgs s_BadDesk_init, defBody s_BadDesk_init, defScope s_BadDesk_init, [], []⟩) rfl),
  (funD_at c.says 43 (d := ⟨("Misfit", some "__init__"), "__init__", "Misfit.__init__", defArgs s_Misfit_init, defBody s_Misfit_init, defScope s_Misfit_init, [], []⟩) rfl),
  (funD_at c.says 44 (d := ⟨("Missing", some "__init__"), "__init__", "Missing.__init__", defArgs s_Missing_init, defBody s_Missing_init, defScope s_Missing_init, [], []⟩) rfl),
  (funD_at c.says 45 (d := ⟨("NoSign", some "__init__"), "__init__", "NoSign.__init__", defArgs s_NoSign_init, defBody s_NoSign_init, defScope s_NoSign_init, [], []⟩) rfl),
  (funD_at c.says 46 (d := ⟨("NoFact", some "__init__"), "__init__", "NoFact.__init__", defArgs s_NoFact_init, defBody s_NoFact_init, defScope s_NoFact_init, [], []⟩) rfl),
  (funD_at c.says 47 (d := ⟨("NoStem", some "__init__"), "__init__", "NoStem.__init__", defArgs s_NoStem_init, defBody s_NoStem_init, defScope s_NoStem_init, [], []⟩) rfl),
  (funD_at c.says 48 (d := ⟨("NoEnding", some "__init__"), "__init__", "NoEnding.__init__", defArgs s_NoEnding_init, defBody s_NoEnding_init, defScope s_NoEnding_init, [], []⟩) rfl),
  (funD_at c.says 49 (d := ⟨("NoName", some "__init__"), "__init__", "NoName.__init__", defArgs s_NoName_init, defBody s_NoName_init, defScope s_NoName_init, [], []⟩) rfl),
  (funD_at c.says 50 (d := ⟨("Twice", some "__init__"), "__init__", "Twice.__init__", defArgs s_Twice_init, defBody s_Twice_init, defScope s_Twice_init, [], []⟩) rfl),
  (funD_at c.says 51 (d := ⟨("Impossible", some "__init__"), "__init__", "Impossible.__init__", defArgs s_Impossible_init, defBody s_Impossible_init, defScope s_Impossible_init, [], []⟩) rfl),
  (funD_at c.says 52 (d := ⟨("TooMany", some "__init__"), "__init__", "TooMany.__init__", defArgs s_TooMany_init, defBody s_TooMany_init, defScope s_TooMany_init, [], []⟩) rfl),
  (funD_at c.says 53 (d := ⟨("BadText", some "__init__"), "__init__", "BadText.__init__", defArgs s_BadText_init, defBody s_BadText_init, defScope s_BadText_init, [], []⟩) rfl),
  (funD_at c.says 54 (d := ⟨("BadLine", some "__init__"), "__init__", "BadLine.__init__", defArgs s_BadLine_init, defBody s_BadLine_init, defScope s_BadLine_init, [], []⟩) rfl),
  (He.glo_ok X G (c.says.fact 0 (f := .glo "is_integer") rfl)),
  (He.glo_ok X G (c.says.fact 1 (f := .glo "is_within") rfl)),
  (He.glo_ok X G (c.says.fact 2 (f := .glo "is_name") rfl)),
  (He.glo_ok X G (c.says.fact 3 (f := .glo "is_side") rfl)),
  (He.glo_ok X G (c.says.fact 4 (f := .glo "is_truth") rfl)),
  (He.glo_ok X G (c.says.fact 5 (f := .glo "is_list") rfl)),
  (He.glo_ok X G (c.says.fact 6 (f := .glo "are_names") rfl)),
  (He.glo_ok X G (c.says.fact 7 (f := .glo "is_word") rfl)),
  (He.glo_ok X G (c.says.fact 8 (f := .glo "is_numbers") rfl)),
  (He.glo_ok X G (c.says.fact 9 (f := .glo "again_at") rfl)),
  (He.glo_ok X G (c.says.fact 10 (f := .glo "is_one_of") rfl)),
  (He.glo_ok X G (c.says.fact 11 (f := .glo "first_twice") rfl)),
  (He.glo_ok X G (c.says.fact 12 (f := .glo "_law_pen") rfl)),
  (He.glo_ok X G (c.says.fact 13 (f := .glo "_law_draw") rfl)),
  (He.glo_ok X G (c.says.fact 14 (f := .glo "_law_pick") rfl)),
  (He.glo_ok X G (c.says.fact 15 (f := .glo "_law_value") rfl)),
  (He.glo_ok X G (c.says.fact 16 (f := .glo "_law_classes") rfl)),
  (He.glo_ok X G (c.says.fact 17 (f := .glo "_law_is_only") rfl)),
  (He.glo_ok X G (c.says.fact 18 (f := .glo "_law_by_place") rfl)),
  (He.glo_ok X G (c.says.fact 19 (f := .glo "_law_by_name") rfl)),
  (He.glo_ok X G (c.says.fact 20 (f := .glo "_law_one_right") rfl)),
  (He.glo_ok X G (c.says.fact 21 (f := .glo "_law_two_right") rfl)),
  (He.glo_ok X G (c.says.fact 22 (f := .glo "_law_integers_right") rfl)),
  (He.glo_ok X G (c.says.fact 23 (f := .glo "_law_names_right") rfl)),
  (He.glo_ok X G (c.says.fact 24 (f := .glo "_law_words_right") rfl)),
  (He.glo_ok X G (c.says.fact 25 (f := .glo "_law_twice_right") rfl)),
  (He.glo_ok X G (c.says.fact 26 (f := .glo "law") rfl)),
  (He.glo_ok X G (c.says.fact 27 (f := .glo "SignError") rfl)),
  (He.glo_ok X G (c.says.fact 28 (f := .glo "BadSide") rfl)),
  (He.glo_ok X G (c.says.fact 29 (f := .glo "BadSaying") rfl)),
  (He.glo_ok X G (c.says.fact 30 (f := .glo "BadFact") rfl)),
  (He.glo_ok X G (c.says.fact 31 (f := .glo "BadBook") rfl)),
  (He.glo_ok X G (c.says.fact 32 (f := .glo "BadGrid") rfl)),
  (He.glo_ok X G (c.says.fact 33 (f := .glo "BadWord") rfl)),
  (He.glo_ok X G (c.says.fact 34 (f := .glo "BadSheet") rfl)),
  (He.glo_ok X G (c.says.fact 35 (f := .glo "BadCutting") rfl)),
  (He.glo_ok X G (c.says.fact 36 (f := .glo "BadTies") rfl)),
  (He.glo_ok X G (c.says.fact 37 (f := .glo "BadHeard") rfl)),
  (He.glo_ok X G (c.says.fact 38 (f := .glo "BadValue") rfl)),
  (He.glo_ok X G (c.says.fact 39 (f := .glo "BadNaming") rfl)),
  (He.glo_ok X G (c.says.fact 40 (f := .glo "BadTurning") rfl)),
  (He.glo_ok X G (c.says.fact 41 (f := .glo "BadNumber") rfl)),
  (He.glo_ok X G (c.says.fact 42 (f := .glo "BadPaper") rfl)),
  (He.glo_ok X G (c.says.fact 43 (f := .glo "BadDesk") rfl)),
  (He.glo_ok X G (c.says.fact 44 (f := .glo "Misfit") rfl)),
  (He.glo_ok X G (c.says.fact 45 (f := .glo "Missing") rfl)),
  (He.glo_ok X G (c.says.fact 46 (f := .glo "NoSign") rfl)),
  (He.glo_ok X G (c.says.fact 47 (f := .glo "NoFact") rfl)),
  (He.glo_ok X G (c.says.fact 48 (f := .glo "NoStem") rfl)),
  (He.glo_ok X G (c.says.fact 49 (f := .glo "NoEnding") rfl)),
  (He.glo_ok X G (c.says.fact 50 (f := .glo "NoName") rfl)),
  (He.glo_ok X G (c.says.fact 51 (f := .glo "Twice") rfl)),
  (He.glo_ok X G (c.says.fact 52 (f := .glo "Impossible") rfl)),
  (He.glo_ok X G (c.says.fact 53 (f := .glo "TooMany") rfl)),
  (He.glo_ok X G (c.says.fact 54 (f := .glo "Nothing") rfl)),
  (He.glo_ok X G (c.says.fact 55 (f := .glo "BadText") rfl)),
  (He.glo_ok X G (c.says.fact 56 (f := .glo "BadLine") rfl)),
  (He.str_ok X G (c.says.fact 57 (f := .str "LETTERS" "abcdefghijklmnopqrstuvwxyz") rfl)),
  (He.str_ok X G (c.says.fact 58 (f := .str "NAME_MARKS" "abcdefghijklmnopqrstuvwxyz0123456789") rfl)),
  (He.int_ok X G (c.says.fact 59 (f := .int "MOST_MARKS" 12) rfl)),
  (He.int_ok X G (c.says.fact 60 (f := .int "MOST_IN_WORD" 6) rfl)),
  (He.glo_ok X G (c.says.fact 61 (f := .glo "SIDES") rfl)),
  (He.free_ok X G (c.says.fact 62 (f := .free "ArithmeticError") rfl)),
  (He.free_ok X G (c.says.fact 63 (f := .free "AttributeError") rfl)),
  (He.free_ok X G (c.says.fact 64 (f := .free "LookupError") rfl)),
  (He.free_ok X G (c.says.fact 65 (f := .free "RuntimeError") rfl)),
  (He.free_ok X G (c.says.fact 66 (f := .free "TypeError") rfl)),
  (He.free_ok X G (c.says.fact 67 (f := .free "ValueError") rfl)),
  (He.free_ok X G (c.says.fact 68 (f := .free "abs") rfl)),
  (He.free_ok X G (c.says.fact 69 (f := .free "all") rfl)),
  (He.free_ok X G (c.says.fact 70 (f := .free "bool") rfl)),
  (He.free_ok X G (c.says.fact 71 (f := .free "enumerate") rfl)),
  (He.free_ok X G (c.says.fact 72 (f := .free "int") rfl)),
  (He.free_ok X G (c.says.fact 73 (f := .free "isinstance") rfl)),
  (He.free_ok X G (c.says.fact 74 (f := .free "len") rfl)),
  (He.free_ok X G (c.says.fact 75 (f := .free "list") rfl)),
  (He.free_ok X G (c.says.fact 76 (f := .free "range") rfl)),
  (He.free_ok X G (c.says.fact 77 (f := .free "set") rfl)),
  (He.free_ok X G (c.says.fact 78 (f := .free "str") rfl)),
  (He.free_ok X G (c.says.fact 79 (f := .free "tuple") rfl)),
  (c.says.fact 80 (f := .exc "SignError") rfl),
  (He.meth_ok (c.says.fact 81 (f := .meth "BadSide" "__init__") rfl)),
  (He.meth_ok (c.says.fact 82 (f := .meth "BadSaying" "__init__") rfl)),
  (He.meth_ok (c.says.fact 83 (f := .meth "BadFact" "__init__") rfl)),
  (He.meth_ok (c.says.fact 84 (f := .meth "BadBook" "__init__") rfl)),
  (He.meth_ok (c.says.fact 85 (f := .meth "BadGrid" "__init__") rfl)),
  (He.meth_ok (c.says.fact 86 (f := .meth "BadWord" "__init__") rfl)),
  (He.meth_ok (c.says.fact 87 (f := .meth "BadSheet" "__init__") rfl)),
  (He.meth_ok (c.says.fact 88 (f := .meth "BadCutting" "__init__") rfl)),
  (He.meth_ok (c.says.fact 89 (f := .meth "BadTies" "__init__") rfl)),
  (He.meth_ok (c.says.fact 90 (f := .meth "BadHeard" "__init__") rfl)),
  (He.meth_ok (c.says.fact 91 (f := .meth "BadValue" "__init__") rfl)),
  (He.meth_ok (c.says.fact 92 (f := .meth "BadNaming" "__init__") rfl)),
  (He.meth_ok (c.says.fact 93 (f := .meth "BadTurning" "__init__") rfl)),
  (He.meth_ok (c.says.fact 94 (f := .meth "BadNumber" "__init__") rfl)),
  (He.meth_ok (c.says.fact 95 (f := .meth "BadPaper" "__init__") rfl)),
  (He.meth_ok (c.says.fact 96 (f := .meth "BadDesk" "__init__") rfl)),
  (He.meth_ok (c.says.fact 97 (f := .meth "Misfit" "__init__") rfl)),
  (He.meth_ok (c.says.fact 98 (f := .meth "Missing" "__init__") rfl)),
  (He.meth_ok (c.says.fact 99 (f := .meth "NoSign" "__init__") rfl)),
  (He.meth_ok (c.says.fact 100 (f := .meth "NoFact" "__init__") rfl)),
  (He.meth_ok (c.says.fact 101 (f := .meth "NoStem" "__init__") rfl)),
  (He.meth_ok (c.says.fact 102 (f := .meth "NoEnding" "__init__") rfl)),
  (He.meth_ok (c.says.fact 103 (f := .meth "NoName" "__init__") rfl)),
  (He.meth_ok (c.says.fact 104 (f := .meth "Twice" "__init__") rfl)),
  (He.meth_ok (c.says.fact 105 (f := .meth "Impossible" "__init__") rfl)),
  (He.meth_ok (c.says.fact 106 (f := .meth "TooMany" "__init__") rfl)),
  (c.says.fact 107 (f := .exc "Nothing") rfl),
  (He.meth_ok (c.says.fact 108 (f := .meth "BadText" "__init__") rfl)),
  (He.meth_ok (c.says.fact 109 (f := .meth "BadLine" "__init__") rfl)),
  (He.ba (c.chk_)).1,
  (He.ba (c.chk_)).2⟩
end K00
set_option Elab.async false
set_option linter.all false
set_option maxRecDepth 100000
set_option maxHeartbeats 0
set_option autoImplicit false
namespace K00
open PySem PySem.Spec PyProof.Rows L2 He Evl
abbrev R : PySem.W.OpenRow := PySem.W.OpenLaw.row PySem.Challenge.rw_mutesigns_k00_errors_and_checks
abbrev hk : PySem.W.Hook := Hx.hookX 5 chk facl defl
def ob (s : PySem.W.SharedT) : He.AlD := Hx.obsXG 5 chk facl defl (HandSHeadRun.getT s)
theorem ob_eq (s : PySem.W.SharedT) : ob s = hk.obs s.abs := Hx.obsXG_eq (HandSHeadRun.getT_eq s)
def loose0 : List Str := ["is_integer", "is_within", "is_name", "is_side", "is_truth", "is_list", "are_names", "is_word", "is_numbers", "again_at", "is_one_of", "first_twice", "_law_pen", "_law_draw", "_law_pick", "_law_value", "_law_classes", "_law_is_only", "_law_by_place", "_law_by_name", "_law_one_right", "_law_two_right", "_law_integers_right", "_law_names_right", "_law_words_right", "_law_twice_right", "SignError", "BadSide", "BadSaying", "BadFact"]
def loose1 : List Str := ["BadBook", "BadGrid", "BadWord", "BadSheet", "BadCutting", "BadTies", "BadHeard", "BadValue", "BadNaming", "BadTurning", "BadNumber", "BadPaper", "BadDesk", "Misfit", "Missing", "NoSign", "NoFact", "NoStem", "NoEnding", "NoName", "Twice", "Impossible", "TooMany", "Nothing", "BadText", "BadLine", "LETTERS", "NAME_MARKS", "MOST_MARKS", "MOST_IN_WORD"]
def loose2 : List Str := ["SIDES"]
abbrev looseAll : List Str := loose0 ++ loose1 ++ loose2
theorem run (w : World) : HandSHeadRun.RunEq R (PySem.W.view R.prog [64]) hk ob 9000 looseAll w := by
  intro os
  kernel_rfl
end K00
set_option Elab.async false
set_option linter.all false
set_option maxRecDepth 100000
set_option maxHeartbeats 4000000
set_option autoImplicit false
/-! Rules and words of our own for the laws: == of lists with decided items, the pen of a law, keywords. -/
namespace L2
open PySem PySem.Spec PyProof.Rows Evl

/-! ### == of items whose answer is known -/
inductive Eqv : V → V → Bool → Prop where
  | non : Eqv .non .non true
  | bl (a b : Bool) : Eqv (.bl a) (.bl b) (a == b)
  | int (a b : Int) : Eqv (.int a) (.int b) (a == b)
  | str (a b : Str) : Eqv (.str a) (.str b) (a == b)
  | same (a : Addr) : Eqv (.ref a) (.ref a) true
  | nonBl (b : Bool) : Eqv .non (.bl b) false
  | blNon (b : Bool) : Eqv (.bl b) .non false
  | nonInt (b : Int) : Eqv .non (.int b) false
  | intNon (b : Int) : Eqv (.int b) .non false
  | nonStr (b : Str) : Eqv .non (.str b) false
  | strNon (b : Str) : Eqv (.str b) .non false
theorem Eqv.at {A : Around} {s : Shared} {x y : V} {b : Bool} {u v : Value} (h : Eqv x y b) (rx : RelV x u) (ry : RelV y v) : SeqAt.EqAt A s u v b := by
  cases h with
  | non => cases rx; cases ry; exact SeqAt.EqAt.same _
  | bl a b => cases rx; cases ry; exact SeqAt.EqAt.bool_bool _ _
  | int a b => obtain ⟨t, rfl⟩ := rx; obtain ⟨t', rfl⟩ := ry; exact SeqAt.EqAt.int_int _ _ _ _
  | str a b => obtain ⟨t, rfl⟩ := rx; obtain ⟨t', rfl⟩ := ry; exact SeqAt.EqAt.str_str _ _ _ _
  | same a => cases rx; cases ry; exact SeqAt.EqAt.same _
  | nonBl b => cases rx; cases ry; exact SeqAt.EqAt.none_bool _
  | blNon b => cases rx; cases ry; exact SeqAt.EqAt.bool_none _
  | nonInt b => cases rx; obtain ⟨t', rfl⟩ := ry; exact SeqAt.EqAt.none_int _ _
  | intNon b => cases ry; obtain ⟨t', rfl⟩ := rx; exact SeqAt.EqAt.int_none _ _
  | nonStr b => cases rx; obtain ⟨t', rfl⟩ := ry; exact SeqAt.EqAt.none_str _ _
  | strNon b => cases ry; obtain ⟨t', rfl⟩ := rx; exact SeqAt.EqAt.str_none _ _
/-- two rows of values, item by item -/
inductive Eqvs : List V → List V → List Bool → Prop where
  | nil : Eqvs [] [] []
  | cons {x y : V} {b : Bool} {xs ys : List V} {bs : List Bool} : Eqv x y b → Eqvs xs ys bs → Eqvs (x :: xs) (y :: ys) (b :: bs)
theorem Eqvs.len {xs ys : List V} {bs : List Bool} (h : Eqvs xs ys bs) : xs.length = bs.length ∧ ys.length = bs.length := by
  induction h with
  | nil => exact ⟨rfl, rfl⟩
  | cons _ _ ih => exact ⟨congrArg Nat.succ ih.1, congrArg Nat.succ ih.2⟩
theorem Eqvs.at {A : Around} {s : Shared} {xs ys : List V} {bs : List Bool} (h : Eqvs xs ys bs) : ∀ {us vs : List Value}, Vals xs us → Vals ys vs → ∀ j (h1 : j < us.length) (h2 : j < vs.length), SeqAt.EqAt A s us[j] vs[j] (bs.getD j false) := by
  induction h with
  | nil =>
    intro us vs r1 r2 j h1 h2
    cases r1
    exact absurd h1 (Nat.not_lt_zero j)
  | cons h _ ih =>
    intro us vs r1 r2 j h1 h2
    cases r1 with
    | cons a1 b1 =>
      cases r2 with
      | cons a2 b2 =>
        cases j with
        | zero => exact h.at a1 a2
        | succ j => exact ih b1 b2 j (Nat.lt_of_succ_lt_succ h1) (Nat.lt_of_succ_lt_succ h2)
theorem range_all : ∀ (bs : List Bool), (List.range bs.length).all (fun j => bs.getD j false) = bs.all id
  | [] => rfl
  | b :: bs => by
    rw [List.length_cons, List.range_succ_eq_map, List.all_cons, List.all_map, List.all_cons]
    have h := range_all bs
    show (b && (List.range bs.length).all fun j => (b :: bs).getD (j + 1) false) = _
    rw [← h]
    rfl
/-- == of two lists: their lengths, then item by item -/
def LEq (xs ys : List V) (r : Bool) : Prop := (xs.length ≠ ys.length ∧ r = false) ∨ ∃ bs, Eqvs xs ys bs ∧ r = bs.all id
def rEqL (K : PySem.W.Frag) : R2 := fun x y H Q => ∃ a b xs ys r, x = .ref a ∧ y = .ref b ∧ SqL K H a xs ∧ SqL K H b ys ∧ LEq xs ys r ∧ Q (.bl r) H
def rNeL (K : PySem.W.Frag) : R2 := fun x y H Q => ∃ a b xs ys r, x = .ref a ∧ y = .ref b ∧ SqL K H a xs ∧ SqL K H b ys ∧ LEq xs ys r ∧ Q (.bl (!r)) H
section
variable {X : Cx}
theorem op_eqL (hu : X.A.units < cLine) : OpR X (compareOp .Eq) (rEqL X.K) := by
  intro pins s σ H x y v u Q I rx ry h
  obtain ⟨a, b, xs, ys, r, rfl, rfl, ha, hb, he, q⟩ := h
  cases (show v = Value.ref a from rx)
  cases (show u = Value.ref b from ry)
  obtain ⟨us, r1, p1, _⟩ := I.list ha
  obtain ⟨ws, r2, p2, _⟩ := I.list hb
  have l1 := r1.length
  have l2 := r2.length
  rcases he with ⟨hn, rfl⟩ | ⟨bs, he, rfl⟩
  · exact SeqAt.RcAt.lists_lengths p1.isList p2.isList (by simp only [List.size_toArray, bne_iff_ne]; omega) hu X.prog X.w _ _ ⟨.bl false, H, I, rfl, q⟩
  · have hl := he.len
    have hsz : us.toArray.size = ws.toArray.size := by simp only [List.size_toArray]; omega
    refine SeqAt.RcAt.lists (e := fun j => bs.getD j false) p1.isList p2.isList hsz hu (fun j h1 h2 => ?_) X.prog X.w _ _ ⟨.bl (bs.all id), H, I, ?_, q⟩
    · have k := he.at (A := X.A.in1) (s := s) r1 r2 j (by simpa using h1) (by simpa using h2)
      simpa using k
    · have e : us.toArray.size = bs.length := by simp only [List.size_toArray]; omega
      rw [e, range_all]
      rfl
theorem op_neL (hu : X.A.units < cLine) : OpR X (compareOp .NotEq) (rNeL X.K) := by
  intro pins s σ H x y v u Q I rx ry h
  obtain ⟨a, b, xs, ys, r, rfl, rfl, ha, hb, he, q⟩ := h
  cases (show v = Value.ref a from rx)
  cases (show u = Value.ref b from ry)
  obtain ⟨us, r1, p1, _⟩ := I.list ha
  obtain ⟨ws, r2, p2, _⟩ := I.list hb
  have l1 := r1.length
  have l2 := r2.length
  rcases he with ⟨hn, rfl⟩ | ⟨bs, he, rfl⟩
  · exact SeqAt.RcNeAt.lists_lengths p1.isList p2.isList (by simp only [List.size_toArray, bne_iff_ne]; omega) hu X.prog X.w _ _ ⟨.bl true, H, I, rfl, q⟩
  · have hl := he.len
    have hsz : us.toArray.size = ws.toArray.size := by simp only [List.size_toArray]; omega
    refine SeqAt.RcNeAt.lists (e := fun j => bs.getD j false) p1.isList p2.isList hsz hu (fun j h1 h2 => ?_) X.prog X.w _ _ ⟨.bl (!bs.all id), H, I, ?_, q⟩
    · have k := he.at (A := X.A.in1) (s := s) r1 r2 j (by simpa using h1) (by simpa using h2)
      simpa using k
    · have e : us.toArray.size = bs.length := by simp only [List.size_toArray]; omega
      rw [e, range_all]
      rfl
/-- a value that is asked whether it is unlike itself: it is not -/
def SelfV (K : PySem.W.Frag) (H : Hp) (x : V) : Prop := scal x x = true ∨ (∃ d, Dp K H x d ∧ SeqAt.shaped d = true) ∨ ∃ a, x = .ref a ∧ H a = some (.dK [])
def rNeSelf (K : PySem.W.Frag) : R2 := fun x y H Q => x = y ∧ SelfV K H x ∧ Q (.bl false) H
theorem op_neSelf (hu : X.A.units + 64 < cLine) : OpR X (compareOp .NotEq) (rNeSelf X.K) := by
  intro pins s σ H x y v u Q I rx ry h
  obtain ⟨rfl, hs, q⟩ := h
  rcases hs with hs | ⟨d, hd, sd⟩ | ⟨a, rfl, ha⟩
  · refine op_ne pins s σ H x x v u Q I rx ry ⟨hs, ?_⟩
    rw [decide_eq_true rfl]
    exact q
  · refine op_neD hu pins s σ H x x v u Q I rx ry ⟨d, d, hd, hd, sd, sd, ?_⟩
    rw [SeqAt.eqv_refl d (SeqAt.canLay_of_shaped sd)]
    exact q
  · exact op_ne_dictA (by omega) pins s σ H _ _ v u Q I rx ry ⟨a, a, [], [], rfl, rfl, ha, ha, rfl, fun p hp => (nomatch hp), q⟩
end

/-! ### keywords -/
section
variable {K : PySem.W.Frag} {x qual : Str} {params : Arguments} {body : List Stmt} {scope : Scope} {kws : List (Str × V)} {f : Addr} {fd : FuncData} {ps : List Str}
theorem FunD.kbindsP (F : FunD K x qual params body scope [] kws f fd) (n : Nat) (ks : List Str) (g : {α : Type} → List α → List α → List α)
    (hrel : ∀ {vs zs : List V} {us ws : List Value}, Vals vs us → Vals zs ws → Vals (g vs zs) (g us ws))
    (h : ∀ (kV doc pm : Value) (an : Option Addr) (cdv ct : Value) (us ws : List Value), us.length = n → ws.length = ks.length →
      bindArgs (PySem.W.fnOf x qual params body scope .none kV doc pm an cdv ct) ⟨us, ks.zip ws⟩ = pure (ps.zip (g us ws))) : KBn K fd ps n ks (fun us ws => g us ws) (fun vs zs => g vs zs) := by
  obtain ⟨oc, od, dV, kV, doc, pm, an, cdv, ct, osl, rfl, lk, hcd, hD, hK⟩ := F.ex
  rcases hD with ⟨_, rfl⟩ | ⟨e, _⟩
  · exact ⟨fun s us ws _ l1 l2 => .of_eq (h kV doc pm an cdv ct us ws l1 l2), fun r1 r2 => hrel r1 r2⟩
  · exact absurd rfl e
end
section
variable {X : Cx} {CX : CXT} {k n : Nat} {f : Addr} {fd : FuncData} {ps ks : List Str} {sp : Sp} {E : XK} {x : Str} {p pos : Pos} {kws : List Keyword} {tk : TA} {g : List Value → List Value → List Value} {gV : List V → List V → List V}
/-- f(k = v, ..) -/
theorem pe_callN0 (F : FnOk X.prog X.w X.K X.mg X.base CX k f fd ps sp) (hr : Room k X.A) (hg : Gl X x) (hm : X.mg x = some (.ref f)) (hk : PySem.W.keepIn X.K (.ref f) = true) (hb : KBn X.K fd ps 0 ks g gV) (hx : Passes CX X E)
    (hkw : PK X kws tk) (hall : (backToKw pos (keywordEach kws X.env)).all (·.1.isSome) = true := by rfl) (hks : (backToKw pos (keywordEach kws X.env)).filterMap (·.1) = ks := by rfl)
    (hdb : (x == ("__debug__" : Str)) = false := by decide) (hpl : ((backTo pos (starEach [] X.env)).any (·.1) || (backToKw pos (keywordEach kws X.env)).any (·.1.isNone)) = false := by rfl) :
    PE X (.Call (.Name x p) [] kws pos) (tCallN 0 ks.length sp gV E tNil tk) := by
  refine ⟨fun pins s σ H Q I h => ?_⟩
  refine wpAny_Call_Name_kw (ld_glob I hg hm ?_ hdb)
  refine PySem.W.callWith_KW0 (h₀ := X.base) I.ok.mod.kin hk hall ?_ hpl
  refine thn (hkw.run pos pins s σ H _ I h) fun ws s2 ⟨zs, H2, I2, rz, l1, l2, q2⟩ => ⟨I2.kIn, ?_⟩
  rw [hks]
  exact run_fnN (us := []) (vs := []) F hr hb hx I2 .nil rz rfl l2 q2
end

/-! ### the pen of a law: a list of its cells, how many were begun, and what is left of a great one -/
/-- all but p is as it was -/
def Off (p : Addr) (H H' : Hp) : Prop := ∀ a o, H a = some o → a ≠ p → H' a = some o
theorem Off.refl (p : Addr) (H : Hp) : Off p H H := fun _ _ h _ => h
theorem Off.trans {p : Addr} {H H1 H2 : Hp} (a : Off p H H1) (b : Off p H1 H2) : Off p H H2 := fun x o h n => b x o (a x o h n) n
theorem Off.of {p : Addr} {H H' : Hp} (e : Ex H H') : Off p H H' := fun a o h _ => e a o h
theorem Off.upd {p : Addr} {H H' : Hp} (e : Off p H H') {o : HO} : Off p H (upd H' p o) := fun a u h n => by
  rw [upd_ne n]
  exact e a u h n
structure PenAt (K : PySem.W.Frag) (n : Nat) (H : Hp) (p c : Addr) : Prop where
  at_ : ∃ (t r : Int) (ns : List Int), H p = some (.lst [.ref c, .int t, .int r]) ∧ H c = some (.lst (ns.map V.int)) ∧ c ≠ p ∧ 0 ≤ t ∧ t ≤ (n : Int) ∧ 0 ≤ r ∧ ns.length ≤ 100
theorem rd_ne {H H' : Hp} {p c : Addr} {u : HO} (e : Off p H H') (n : c ≠ p) (h : Rd H c u) : Rd H' c u := by
  rcases h with h | ⟨o, h⟩
  · exact .inl (e _ _ h n)
  · exact .inr ⟨o, e _ _ h n⟩
theorem Off.sq {K : PySem.W.Frag} {H H' : Hp} {p c : Addr} {xs : List V} (e : Off p H H') (n : c ≠ p) (h : SqL K H c xs) : SqL K H' c xs := by
  rcases h with h | h
  · exact .inl (rd_ne e n h)
  · exact .inr h
theorem Off.sqT {K : PySem.W.Frag} {H H' : Hp} {p c : Addr} {xs : List V} (e : Off p H H') (n : c ≠ p) (h : SqT K H c xs) : SqT K H' c xs := by
  rcases h with h | h
  · exact .inl (rd_ne e n h)
  · exact .inr h
theorem PenAt.ex {K : PySem.W.Frag} {n : Nat} {H H' : Hp} {p c : Addr} (h : PenAt K n H p c) (e : Ex H H') : PenAt K n H' p c := by
  obtain ⟨t, r, ns, h1, h2, h3⟩ := h
  exact ⟨t, r, ns, e _ _ h1, e _ _ h2, h3⟩
theorem PenAt.mono {K : PySem.W.Frag} {n m : Nat} {H : Hp} {p c : Addr} (h : PenAt K n H p c) (l : n ≤ m) : PenAt K m H p c := by
  obtain ⟨t, r, ns, h1, h2, h3, h4, h5, h6⟩ := h
  exact ⟨t, r, ns, h1, h2, h3, h4, by omega, h6⟩
theorem PenAt.there {K : PySem.W.Frag} {n : Nat} {H : Hp} {p c : Addr} (h : PenAt K n H p c) : ∃ o, H p = some o := by
  obtain ⟨t, r, ns, h1, _⟩ := h
  exact ⟨_, h1⟩
/-- what was new beside the pen may change -/
theorem PenAt.mut {K : PySem.W.Frag} {n m : Nat} {H H' : Hp} {p c q : Addr} (h : PenAt K n H p c) (hq : H q = none) (h' : PenAt K m H' p c) {o : HO} : PenAt K m (upd H' q o) p c := by
  obtain ⟨t, r, ns, h1, h2, _⟩ := h
  obtain ⟨t', r', ns', k1, k2, k3⟩ := h'
  exact ⟨t', r', ns', by rw [upd_ne (ne_of_none h1 hq)]; exact k1, by rw [upd_ne (ne_of_none h2 hq)]; exact k2, k3⟩
theorem Off.back {p q : Addr} {H H' : Hp} (e : Off p H H') {o : HO} (h : H' p = some o) (f : H' q = none) : H q = none := by
  cases z : H q with
  | none => rfl
  | some u =>
    by_cases n : q = p
    · rw [n, h] at f
      cases f
    · rw [e q u z n] at f
      cases f
/-- a draw below m: at most one cell more is begun -/
def spDraw (K : PySem.W.Frag) : Sp := fun vs H Q _ => ∃ (p c : Addr) (m : Int) (n : Nat), vs = [.ref p, .int m] ∧ 0 < m ∧ m < 1073741824 ∧ PenAt K n H p c ∧ n ≤ 100000 ∧
  ∀ (d : Int) (H' : Hp), 0 ≤ d → d < m → Off p H H' → PenAt K (n + 1) H' p c → Q (.int d) H'
/-- one of a list's items -/
def spPick (K : PySem.W.Frag) : Sp := fun vs H Q _ => ∃ (p c l : Addr) (xs : List V) (n : Nat), vs = [.ref p, .ref l] ∧ SqL K H l xs ∧ l ≠ p ∧ 0 < xs.length ∧ xs.length ≤ 1000 ∧ PenAt K n H p c ∧ n ≤ 100000 ∧
  ∀ (i : Nat) (x : V) (H' : Hp), xs[i]? = some x → Off p H H' → PenAt K (n + 1) H' p c → Q x H'
end L2
set_option Elab.async false
set_option linter.all false
set_option maxRecDepth 100000
set_option maxHeartbeats 4000000
set_option autoImplicit false
namespace L2
open PySem PySem.Spec PyProof.Rows Evl
/-! ### kinds of values -/
def kinds : List String := ["NoneType", "bool", "int", "str", "list", "tuple", "dict"]
/-- a value of a built-in kind -/
structure Kd (K : PySem.W.Frag) (H : Hp) (x : V) (T : String) : Prop where
  ty : TyX K H x (.type T)
  mem : T ∈ kinds
section
variable {K : PySem.W.Frag} {H : Hp} {a : Addr} {xs : List V}
theorem kd_non : Kd K H .non "NoneType" := ⟨.base .non, by decide⟩
theorem kd_bl (b : Bool) : Kd K H (.bl b) "bool" := ⟨.base (.bl b), by decide⟩
theorem kd_int (i : Int) : Kd K H (.int i) "int" := ⟨.base (.int i), by decide⟩
theorem kd_str (x : Str) : Kd K H (.str x) "str" := ⟨.base (.str x), by decide⟩
theorem kd_lst (h : H a = some (.lst xs)) : Kd K H (.ref a) "list" := ⟨.base (.lst h), by decide⟩
theorem kd_tup (h : H a = some (.tup xs)) : Kd K H (.ref a) "tuple" := ⟨.base (.tup h), by decide⟩
theorem kd_dK {kvs : List (Key × V)} (h : H a = some (.dK kvs)) : Kd K H (.ref a) "dict" := ⟨.base (.dK h), by decide⟩
theorem kd_sqL (h : SqL K H a xs) : Kd K H (.ref a) "list" := by
  refine ⟨?_, by decide⟩
  rcases h with (h | ⟨o, h⟩) | ⟨o, its, n, h1, h2, _⟩
  · exact .base (.lst h)
  · exact .base (.frz h)
  · exact .kList h1 h2
theorem kd_sqT (h : SqT K H a xs) : Kd K H (.ref a) "tuple" := by
  refine ⟨?_, by decide⟩
  rcases h with (h | ⟨o, h⟩) | ⟨o, its, n, h1, h2, _⟩
  · exact .base (.tup h)
  · exact .fTuple h
  · exact .kTuple h1 h2
theorem Kd.ex {H' : Hp} {x : V} {T : String} (h : Kd K H x T) (e : Ex H H') : Kd K H' x T := by
  refine ⟨?_, h.mem⟩
  cases h.ty with
  | base b =>
    cases b with
    | non => exact .base .non
    | bl x => exact .base (.bl x)
    | int i => exact .base (.int i)
    | str x => exact .base (.str x)
    | flt x => exact .base (.flt x)
    | lst h2 => exact .base (.lst (e _ _ h2))
    | frz h2 => exact .base (.frz (e _ _ h2))
    | tup h2 => exact .base (.tup (e _ _ h2))
    | dK h2 => exact .base (.dK (e _ _ h2))
    | dT h2 => exact .base (.dT (e _ _ h2))
  | byt b => exact .byt b
  | set h2 => exact .set (e _ _ h2)
  | kList h2 c => exact .kList h2 c
  | kTuple h2 c => exact .kTuple h2 c
  | kDict h2 c => exact .kDict h2 c
  | fTuple h2 => exact .fTuple (e _ _ h2)
  | fDict h2 => exact .fDict (e _ _ h2)
end
def kAns (T c : String) : Bool := T == c || (T == "bool" && c == "int")
theorem kd_isi {K : PySem.W.Frag} {T c : String} (hT : T ∈ kinds) (hc : c ∈ kinds) : PySem.W.kitOne K (.type T) (.type c) = some (kAns T c) := by
  have h : ∀ T ∈ kinds, ∀ c ∈ kinds, kitB T c = some (kAns T c) := by decide +kernel
  exact kit_ty (h T hT c hc)
/-- isinstance(x, C) of a value of a built-in kind, an answer -/
theorem rc_isi {K : PySem.W.Frag} {H : Hp} {x : V} {T c : String} (h : Kd K H x T) (hc : c ∈ kinds) : RC (rIsi K) [x, .ty c] H (.bl (kAns T c)) := fun H1 e Q q =>
  ⟨x, .ty c, .type T, .type c, kAns T c, rfl, .ty c, (h.ex e).ty, kd_isi h.mem hc, q H1 (Ex.refl H1)⟩
/-- isinstance(x, (C, D)), the tuple just made -/
def kAny (T : String) (cs : List String) : Bool := cs.any fun c => kAns T c
theorem kit_anyK {K : PySem.W.Frag} {T : String} (hT : T ∈ kinds) : ∀ (cs : List String), (∀ c ∈ cs, c ∈ kinds) → PySem.W.kitAny K (.type T) (cs.map .type) = some (kAny T cs)
  | [], _ => rfl
  | c :: cs, h => by
    have h1 := kd_isi (K := K) hT (h c List.mem_cons_self)
    refine kitAny_cons h1 (fun e => ?_) (fun e => ?_)
    · rw [kit_anyK hT cs fun d hd => h d (List.mem_cons_of_mem _ hd)]
      show some (kAny T cs) = some (kAns T c || kAny T cs)
      rw [e] <;> rfl
    · show (kAns T c || kAny T cs) = true
      rw [e] <;> rfl
theorem cls_all (cs : List String) : Paired ClsV (cs.map V.ty) (cs.map Value.type) := by
  induction cs with
  | nil => exact .nil
  | cons c cs ih => exact .cons (.ty c) ih
theorem ev_isiT {K : PySem.W.Frag} {σ : L2.St} {H : Hp} {x : V} {ta tu : TE} {T : String} (cs : List String) (ha : Ev ta σ H x) (hu : EvU tu σ H (cs.map V.ty)) (h : Kd K H x T) (hc : ∀ c ∈ cs, c ∈ kinds) : Ev (tCB (rIsiT K) (tCons ta (tCons tu tNil))) σ H (.bl (kAny T cs)) :=
  fun H1 e Q q => ha H1 e _ fun H2 e2 => hu H2 (e.trans e2) _ fun p H3 _ e3 hp => ⟨x, p, cs.map V.ty, .type T, cs.map .type, kAny T cs, rfl, hp, cls_all cs, (h.ex ((e.trans e2).trans e3)).ty, kit_anyK h.mem cs hc, q H3 (e2.trans e3)⟩
section
variable {X : Cx}
/-! ### is True, is False -/
def rIsBX : R2 := fun x y H Q => ∃ b, y = .bl b ∧ Q (.bl (decide (x = .bl b))) H
def rNotBX : R2 := fun x y H Q => ∃ b, y = .bl b ∧ Q (.bl (!decide (x = .bl b))) H
theorem rel_bool {x : V} {v : Value} {b : Bool} (r : RelV x v) : decide (x = .bl b) = (v == .bool b) := by
  cases x with
  | bl c =>
    cases (show v = Value.bool c from r)
    rw [dec_bl]
    cases c <;> cases b <;> rfl
  | non => cases (show v = Value.none from r); rfl
  | int i => obtain ⟨t, rfl⟩ := r; rfl
  | str i => obtain ⟨t, rfl⟩ := r; rfl
  | byt i => obtain ⟨t, rfl⟩ := r; rfl
  | flt i => obtain ⟨t, rfl⟩ := r; rfl
  | ref i => cases r; rfl
  | ty i => cases r; rfl
theorem op_is_bl : OpR X (compareOp .Is) rIsBX := by
  intro pins s σ H x y v u Q I rx ry h
  obtain ⟨b, rfl, q⟩ := h
  cases (show u = Value.bool b from ry)
  have fin : EP X pins σ Q (.bool (v == .bool b)) s := ⟨.bl _, H, I, congrArg Value.bool (rel_bool rx).symm, q⟩
  cases x <;> first
    | (cases rx; exact wpAny_pure fin)
    | (obtain ⟨t, rfl⟩ := rx; exact wpAny_pure fin)
theorem op_isnot_bl : OpR X (compareOp .IsNot) rNotBX := by
  intro pins s σ H x y v u Q I rx ry h
  obtain ⟨b, rfl, q⟩ := h
  cases (show u = Value.bool b from ry)
  have fin : EP X pins σ Q (.bool (!(v == .bool b))) s := ⟨.bl _, H, I, congrArg Value.bool (congrArg not (rel_bool rx).symm), q⟩
  cases x <;> first
    | (cases rx; exact wpAny_pure fin)
    | (obtain ⟨t, rfl⟩ := rx; exact wpAny_pure fin)
/-! ### a walk over a list or a tuple -/
theorem PI.or {tg iter : Expr} {w1 w2 : TI} (h : PI X tg iter w1) (h' : PI X tg iter w2) : PI X tg iter (fun σ H R => w1 σ H R ∨ w2 σ H R) :=
  ⟨fun pins s σ H R I q => q.elim (h.run pins s σ H R I) (h'.run pins s σ H R I)⟩
def iSeq (K : PySem.W.Frag) (tl : TE) : TI := fun σ H R => iList K tl σ H R ∨ iTup K tl σ H R
theorem pi_seq {tg l : Expr} {tl : TE} (hl : PE X l tl) : PI X tg l (iSeq X.K tl) := PI.or (pi_list hl) (pi_tup hl)
/-! ### texts -/
def signsV (z : Str) : List V := z.cps.toList.map fun c => .str ⟨#[c]⟩
def rListStr : List V → Hp → VK → Prop := fun xs H Q => ∃ z, xs = [.str z] ∧ z.length ≤ sizeLine ∧ ∀ l, H l = none → Q (.ref l) (upd H l (.lst (signsV z)))
theorem call_listStr (hc : X.calm = true) : CallR X (.type "list") rListStr := by
  intro pins s σ H xs us Q I r h
  obtain ⟨z, rfl, hz, q⟩ := h
  obtain ⟨u, rfl, t, rfl⟩ := vals1 r
  refine call_list_str (I.ok.hd hc) z t (hn := hz) fun h' tk acc' c' hk hS hacc => ?_
  have hf : H s.heap.objs.size = none := I.hok.fresh (Nat.le_refl _)
  have hv : Vals (signsV z) acc'.toList := by
    have e1 : (signsV z).length = acc'.toList.length := by
      unfold signsV
      rw [List.length_map, Array.length_toList, Array.length_toList]
      exact hacc.1.symm
    have key : ∀ (as : List V) (bs : List Value), as.length = bs.length → (∀ (j : Nat) (x : V) (v : Value), as[j]? = some x → bs[j]? = some v → RelV x v) → Vals as bs := by
      intro as
      induction as with
      | nil =>
        intro bs e _
        cases bs with
        | nil => exact .nil
        | cons _ _ => cases e
      | cons a as ih =>
        intro bs e k
        cases bs with
        | nil => cases e
        | cons b bs => exact .cons (k 0 a b rfl rfl) (ih bs (Nat.succ.inj e) fun j x v h1 h2 => k (j + 1) x v h1 h2)
    refine key _ _ e1 fun j x v h1 h2 => ?_
    obtain ⟨c, u, hc1, rfl⟩ := hacc.2 j v (by simpa using h2)
    unfold signsV at h1
    rw [List.getElem?_map] at h1
    have hc2 : z.cps.toList[j]? = some c := by simpa using hc1
    rw [hc2] at h1
    cases h1
    exact ⟨u, rfl⟩
  have new : ObjOk X.prog X.w (upd H s.heap.objs.size (.lst (signsV z))) h' s.heap.objs.size (.lst (signsV z)) :=
    ⟨by unfold signsV; rw [List.length_map]; exact hz, acc'.toList, c', hv, by simpa using hS⟩
  exact ⟨.ref _, _, I.laid (t' := tk) hk (Nat.le_refl _) new, rfl, q _ hf⟩
/-- a text, n times -/
def repS (z : Str) (n : Int) : Str := if n < 1 then Str.empty else if (n == 1 || z.length == 0) = true then z else ⟨(List.replicate n.toNat z.cps).foldl (· ++ ·) #[]⟩
theorem foldl_app (a : Array Nat) : ∀ (n : Nat) (acc : Array Nat), ((List.replicate n a).foldl (· ++ ·) acc).toList = acc.toList ++ (List.replicate n a.toList).flatten
  | 0, acc => by simp
  | n + 1, acc => by
    rw [List.replicate_succ, List.foldl_cons, foldl_app a n, List.replicate_succ, List.flatten_cons, Array.toList_append, List.append_assoc]
theorem repS_list (z : Str) (n : Int) : (repS z n).cps.toList = (List.replicate n.toNat z.cps.toList).flatten := by
  unfold repS
  by_cases c1 : n < 1
  · rw [if_pos c1, show n.toNat = 0 by omega]
    rfl
  · rw [if_neg c1]
    by_cases c2 : (n == 1 || z.length == 0) = true
    · rw [if_pos c2]
      rcases Bool.or_eq_true_iff.mp c2 with e | e
      · have e1 : n = 1 := by simpa using e
        rw [e1]
        simp
      · have e1 : z.cps.toList = [] := by
          have : z.cps.size = 0 := by simpa [Str.length] using e
          exact List.eq_nil_of_length_eq_zero (by simpa using this)
        rw [e1]
        simp
    · rw [if_neg c2]
      show ((List.replicate n.toNat z.cps).foldl (· ++ ·) #[]).toList = _
      rw [foldl_app]
      rfl
theorem op_mulStr : OpR X (binaryOp .Mult) (fun x y H Q => ∃ z n, x = .str z ∧ y = .int n ∧ -1000 ≤ n ∧ n ≤ 1000 ∧ z.length ≤ 1000 ∧ Q (.str (repS z n)) H) := by
  intro pins s σ H x y v u Q I rx ry h
  obtain ⟨z, n, rfl, rfl, h1, h2, h3, q⟩ := h
  obtain ⟨t, rfl⟩ := rx
  obtain ⟨t', rfl⟩ := ry
  refine PySem.P.mul_str (x := z) (n := n) ?_ (fun a b => ?_) (fun a b => ?_) ?_
  · rw [decide_eq_false (by omega), decide_eq_false (by omega)]
    rfl
  · intro hlt
    have e : (1000 : Int) * n ≤ 2 ^ 63 - 1 := by omega
    have e2 : (1000 : Int) ≤ (2 ^ 63 - 1) / n := Int.le_ediv_of_mul_le (by omega) e
    omega
  · have e : z.length * n.toNat ≤ 1000 * 1000 := Nat.mul_le_mul h3 (by omega)
    exact decide_eq_false (by rw [sizeLine_eq]; omega)
  · unfold repS at q
    by_cases c1 : n < 1
    · rw [if_pos c1] at q ⊢
      exact ⟨by decide, ⟨.str Str.empty, H, I.tok _, ⟨_, rfl⟩, q⟩⟩
    · rw [if_neg c1] at q ⊢
      by_cases c2 : (n == 1 || z.length == 0) = true
      · rw [if_pos c2] at q ⊢
        exact ⟨.str z, H, I, ⟨_, rfl⟩, q⟩
      · rw [if_neg c2] at q ⊢
        refine ⟨?_, ⟨.str _, H, I.tok _, ⟨_, rfl⟩, q⟩⟩
        have e := repS_list z n
        unfold repS at e
        rw [if_neg c1, if_neg c2] at e
        have e2 : (⟨(List.replicate n.toNat z.cps).foldl (· ++ ·) #[]⟩ : Str).length = n.toNat * z.length := by
          show ((List.replicate n.toNat z.cps).foldl (· ++ ·) #[]).size = _
          rw [← Array.length_toList]
          have e' : ((List.replicate n.toNat z.cps).foldl (· ++ ·) #[]).toList = (List.replicate n.toNat z.cps.toList).flatten := e
          rw [e', List.length_flatten, List.map_replicate, List.sum_replicate_nat, Array.length_toList]
          rfl
        rw [e2]
        have e3 : n.toNat * z.length ≤ 1000 * 1000 := Nat.mul_le_mul (by omega) h3
        rw [sizeLine_eq]
        omega
end
end L2
set_option Elab.async false
set_option linter.all false
set_option maxRecDepth 100000
set_option maxHeartbeats 4000000
set_option autoImplicit false
namespace Evl
open PySem PySem.Spec PyProof.Rows L2
section
variable {K : PySem.W.Frag} {σ : L2.St} {H : Hp} {te tl : TE} {t : TT}
/-- a comprehension over any walk that leaves the heap as it is -/
theorem el_lcW {J : It} {n : Nat} {G : Hp → Prop} {ys : Nat → V → Prop} {wi : TI} {j : Nat} {vs : List Nat} (f : Nat → Bool) (v : Nat → V) (w : Walk J n G (fun i H x H' => H' = H ∧ ys i x))
    (hi : ∀ H1, Ex H H1 → ∀ R : It → Hp → Prop, (∀ H2, Ex H1 H2 → G H2 → R J H2) → wi σ H1 R) (hG : ∀ H1 H2, G H1 → Ex H1 H2 → G H2) (hz : n ≤ 40000) (hw : ∀ x, wipe ((wipe σ vs).set j (some x)) vs = wipe σ vs)
    (ht : ∀ (i : Nat) (x : V) H1, Ex H H1 → i < n → ys i x → EvT t ((wipe σ vs).set j (some x)) H1 (f i)) (he : ∀ (i : Nat) (x : V) H1, Ex H H1 → i < n → ys i x → f i = true → Ev te ((wipe σ vs).set j (some x)) H1 (v i)) :
    EvL (tLc wi (gName j) t te vs) σ H (given n f v) := fun H0 e Q q => hi H0 e _ fun H1 e1 g1 => fun Dl hD =>
  lc_it w (Cw H1 f v Dl) ⟨hD, Ex.new hD, upd_same⟩ (fun i H' _ p => hG H1 H' g1 p.2.1) (fun i x H2 H' hi p y => by
    obtain ⟨rfl, hy⟩ := y
    exact ⟨hw x, cw_turn p (by omega) (ht i x H1 (e.trans e1) hi hy) (fun hf => he i x H1 (e.trans e1) hi hy hf)⟩)
    (fun H' p => q Dl H' (fresh_back e1 p.1) (e1.trans p.2.1) p.2.2)
theorem given_all {n : Nat} {v : Nat → V} {xs : List V} (h : xs.length = n) (e : ∀ i, i < n → xs[i]? = some (v i)) : given n (fun _ => true) v = xs := by
  unfold given
  rw [List.filter_eq_self.mpr (fun _ _ => rfl)]
  refine List.ext_getElem? fun i => ?_
  rw [List.getElem?_map]
  by_cases hi : i < n
  · rw [List.getElem?_range hi, e i hi]
    rfl
  · rw [List.getElem?_eq_none (by rw [List.length_range]; omega), List.getElem?_eq_none (by omega)]
    rfl
theorem et_yes : EvT tYes σ H true := fun H1 _ _ q => q H1 (Ex.refl H1)
/-- [f(x) for x in xs], xs a list or a tuple, g what f gives -/
theorem el_lcSeq {a : Addr} {xs : List V} {j : Nat} {vs : List Nat} (g : V → V) (h : Ev tl σ H (.ref a)) (hx : SqL K H a xs ∨ SqT K H a xs) (hz : xs.length ≤ 40000) (hw : ∀ x, wipe ((wipe σ vs).set j (some x)) vs = wipe σ vs)
    (he : ∀ (x : V) H1, Ex H H1 → x ∈ xs → Ev te ((wipe σ vs).set j (some x)) H1 (g x)) : EvL (tLc (iSeq K tl) (gName j) tYes te vs) σ H (xs.map g) := by
  have e0 : given xs.length (fun _ => true) (fun i => g (xs.getD i .non)) = xs.map g := by
    refine given_all (by rw [List.length_map]) fun i hi => ?_
    rw [List.getElem?_map, List.getElem?_eq_getElem hi, List.getD_eq_getElem?_getD, List.getElem?_eq_getElem hi]
    rfl
  rw [← e0]
  rcases hx with hx | hx
  · refine el_lcW (J := Itl K a) (n := xs.length) (G := fun H => SqL K H a xs) (ys := fun i x => xs[i]? = some x) _ _ walk_list (fun H1 e R q => .inl (h H1 e _ fun H2 e2 => ⟨a, rfl, ⟨xs, ex_l (e.trans e2) hx⟩, q H2 e2 (ex_l (e.trans e2) hx)⟩)) (fun H1 H2 g e => ex_l e g) hz hw (fun _ _ _ _ _ _ => et_yes) (fun i x H1 e hi hy _ => ?_)
    rw [List.getD_eq_getElem?_getD, hy]
    exact he x H1 e (List.mem_of_getElem? hy)
  · refine el_lcW (J := Itt K a) (n := xs.length) (G := fun H => SqT K H a xs) (ys := fun i x => xs[i]? = some x) _ _ walk_tup (fun H1 e R q => .inr (h H1 e _ fun H2 e2 => ⟨a, rfl, ⟨xs, ex_t (e.trans e2) hx⟩, q H2 e2 (ex_t (e.trans e2) hx)⟩)) (fun H1 H2 g e => ex_t e g) hz hw (fun _ _ _ _ _ _ => et_yes) (fun i x H1 e hi hy _ => ?_)
    rw [List.getD_eq_getElem?_getD, hy]
    exact he x H1 e (List.mem_of_getElem? hy)
/-- [f(c) for c in text] -/
theorem el_lcStr {z : Str} {j : Nat} {vs : List Nat} (g : Nat → V) (h : Ev tl σ H (.str z)) (hz : z.length ≤ 40000) (hw : ∀ x, wipe ((wipe σ vs).set j (some x)) vs = wipe σ vs)
    (he : ∀ (c : Nat) H1, Ex H H1 → c ∈ z.cps.toList → Ev te ((wipe σ vs).set j (some (.str ⟨#[c]⟩))) H1 (g c)) : EvL (tLc (iStr tl) (gName j) tYes te vs) σ H (z.cps.toList.map g) := by
  have e0 : given z.cps.size (fun _ => true) (fun i => g (z.cps.toList.getD i 0)) = z.cps.toList.map g := by
    refine given_all (by rw [List.length_map, Array.length_toList]) fun i hi => ?_
    have hi' : i < z.cps.toList.length := by rw [Array.length_toList]; exact hi
    rw [List.getElem?_map, List.getElem?_eq_getElem hi', List.getD_eq_getElem?_getD, List.getElem?_eq_getElem hi']
    rfl
  rw [← e0]
  refine el_lcW (J := Its z) (n := z.cps.size) (G := fun _ => True) (ys := fun i v => ∃ c, z.cps[i]? = some c ∧ v = .str ⟨#[c]⟩) _ _ walk_str (fun H1 e R q => h H1 e _ fun H2 e2 => ⟨z, rfl, q H2 e2 trivial⟩) (fun _ _ _ _ => trivial) hz hw (fun _ _ _ _ _ _ => et_yes) (fun i x H1 e hi hy _ => ?_)
  obtain ⟨c, hc, rfl⟩ := hy
  have hc2 : z.cps.toList[i]? = some c := by simpa using hc
  rw [List.getD_eq_getElem?_getD, hc2]
  exact he c H1 e (List.mem_of_getElem? hc2)
/-- all(..) of a new list of truths -/
theorem ev_all {ta : TE} {bs : List Bool} (h : EvL ta σ H (bs.map V.bl)) : Ev (tCB (rAll K) (tCons ta tNil)) σ H (.bl (bs.all id)) := fun H1 e Q q =>
  h H1 e _ fun p H2 _ e2 hp => ⟨p, bs, rfl, sq_of hp, q H2 e2⟩
theorem all_map {α : Type} (f : α → Bool) (xs : List α) : (xs.map f).all id = xs.all f := by
  rw [List.all_map]
  rfl
end
end Evl
set_option Elab.async false
set_option linter.all false
set_option maxRecDepth 100000
set_option maxHeartbeats 4000000
set_option autoImplicit false
namespace K00
open PySem PySem.Spec PyProof.Rows L2 He Evl
section
variable {P : Program} {w : World} {K : PySem.W.Frag} {mg : Str → Option Value} {base : Heap}
theorem cmulL {i j : Int} (h1 : -1000000000000000000 < i) (h2 : i < 1000000000000000000) : CMul i j := .inl ⟨by omega, by omega⟩
theorem mul_bd {a b A B : Int} (a0 : 0 ≤ a) (aA : a ≤ A) (b0 : 0 ≤ b) (bB : b ≤ B) : 0 ≤ a * b ∧ a * b ≤ A * B := ⟨Int.mul_nonneg a0 b0, Int.mul_le_mul aA bB b0 (Int.le_trans a0 aA)⟩
theorem ok_l_draw (T : Tx K mg) : FnOk P w K mg base CX0 1 (ga K "_law_draw") (fdOf K ("_law_draw", none)) ["_law_pen_here", "_law_many"] (spDraw K) := by
  refine T.f_l_draw.ok sc_l_draw (fun vs H Q E h => ?_) (fun cdv A outer s H vs Q E hr h => ?_)
  · obtain ⟨p, c, m, n, rfl, _⟩ := h
    rfl
  · have hu := hu_of hr
    refine ⟨_, PSs.nox (pss_cons (ps_if (pt_cmpR op_gt (pe_ix ix_list (pv 0) pe_int (fun _ _ => rfl)) pe_int (nomark _))
        (pss_cons (ps_set (i := 2) sc_l_draw.nd rfl (.inl rfl) (pe_ix ix_list (pv 0) pe_int (fun _ _ => rfl)))
        (pss_cons (ps_asg (pe_op op_fdiv (pe_callTy call_int1 (by rfl) T.n_int boot_int (pa_cons (pv 2) pa_nil)) (pv 1)) (pg_sub (pv 0) pe_int set_list))
        (pss_one (ps_ret (pe_op op_mod (pe_callTy call_int1 (by rfl) T.n_int boot_int (pa_cons (pv 2) pa_nil)) (pv 1))))))
        pss_nil)
      (pss_cons (ps_set (i := 3) sc_l_draw.nd rfl (.inl rfl) (pe_ix ix_list (pv 0) pe_int (fun _ _ => rfl)))
      (pss_cons (ps_asg (pe_op op_add (pv 3) pe_int) (pg_sub (pv 0) pe_int set_list))
      (pss_cons (ps_set (i := 4) sc_l_draw.nd rfl (.inl rfl) (pe_op op_add (pe_op op_mul pe_int (pv 3)) pe_int))
      (pss_cut (ps_if (pt_cmpR (op_neL hr.units0) (pe_ix ix_list (pv 0) pe_int (fun _ _ => rfl)) (pe_lst pa_nil) (nomark _))
        (pss_one (ps_set (i := 4) sc_l_draw.nd rfl (.inl rfl) (pe_ix ix_list (pe_ix ix_list (pv 0) pe_int (fun _ _ => rfl)) (pe_op op_mod (pe_callTy call_int1 (by rfl) T.n_int boot_int (pa_cons (pv 3) pa_nil)) (pe_callB call_len (by rfl) T.n_len boot_len (pa_cons (pe_ix ix_list (pv 0) pe_int (fun _ _ => rfl)) pa_nil))) (fun _ _ => rfl))))
        pss_nil)
      (pss_cut (ps_if (PW.pt (pw_and (pt_cmpR op_lt (pv 3) (pe_callB call_len (by rfl) T.n_len boot_len (pa_cons (pe_ix ix_list (pv 0) pe_int (fun _ _ => rfl)) pa_nil)) (nomark _)) (pw_and1 (pt_cmpR op_ge (pe_callB call_abs (by rfl) T.n_abs boot_abs (pa_cons (pv 4) pa_nil)) (pe_op op_pow pe_int pe_int) (nomark _)))))
        (pss_cons (ps_set (i := 2) sc_l_draw.nd rfl (.inl rfl) (pe_op op_add (pe_op op_mul pe_int (pe_op op_sub (pe_callB call_abs (by rfl) T.n_abs boot_abs (pa_cons (pv 4) pa_nil)) (pe_op op_pow pe_int pe_int))) (pe_callTy call_int1 (by rfl) T.n_int boot_int (pa_cons (pe_cmpR op_lt (pv 4) pe_int (nomark _)) pa_nil))))
        (pss_cons (ps_asg (pe_op op_fdiv (pe_callTy call_int1 (by rfl) T.n_int boot_int (pa_cons (pv 2) pa_nil)) (pv 1)) (pg_sub (pv 0) pe_int set_list))
        (pss_one (ps_ret (pe_op op_mod (pe_callTy call_int1 (by rfl) T.n_int boot_int (pa_cons (pv 2) pa_nil)) (pv 1))))))
        pss_nil)
      (pss_cons (ps_set (i := 5) sc_l_draw.nd rfl (.inl rfl) (pe_op op_mod (pe_callTy call_int1 (by rfl) T.n_int boot_int (pa_cons (pe_op op_pow (pe_op op_add (pe_op op_add (pe_op op_mod (pe_callTy call_int1 (by rfl) T.n_int boot_int (pa_cons (pv 4) pa_nil)) pe_int) (pe_op op_mul pe_int (pv 3))) pe_int) pe_int) pa_nil)) pe_int))
      (pss_cons (ps_set (i := 5) sc_l_draw.nd rfl (.inl rfl) (pe_op op_mod (pe_callTy call_int1 (by rfl) T.n_int boot_int (pa_cons (pe_op op_pow (pe_op op_add (pe_op op_add (pe_op op_mul (pv 5) (pe_op op_add (pe_op op_mul pe_int (pv 3)) pe_int)) (pe_op op_mul (pe_op op_mul pe_int (pv 3)) (pv 3))) pe_int) pe_int) pa_nil)) pe_int))
      (pss_one (ps_ret (pe_op op_mod (pe_callTy call_int1 (by rfl) T.n_int boot_int (pa_cons (pe_op op_fdiv (pv 5) pe_int) pa_nil)) (pv 1)))))))))))), ?_⟩
    -- slots: [(0, '_law_pen_here'), (1, '_law_many'), (2, '_law_rest'), (3, '_law_turn'), (4, '_law_cell'), (5, '_law_mixed')]
    obtain ⟨p, c, m, n, rfl, m0, m1, hP, hn, k⟩ := h
    obtain ⟨t, r, ns, hp, hc, hcp, t0, tn, r0, hz⟩ := hP
    have i0 : ∀ {a b d : V}, atI [a, b, d] 0 = some a := fun {a b d} => rfl
    have i1 : ∀ {a b d : V}, atI [a, b, d] 1 = some b := fun {a b d} => rfl
    have i2 : ∀ {a b d : V}, atI [a, b, d] 2 = some d := fun {a b d} => rfl
    refine ⟨_, rfl, p, _, _, _, rfl, rfl, SqL.of hp, i2, r, 0, rfl, rfl, _, rfl, ?_⟩
    refine ite2 (fun h0 => ?_) (fun h0 => ?_)
    · have h0' : (0 : Int) < r := of_decide_eq_true h0
      refine ⟨_, rfl, p, _, _, _, rfl, rfl, SqL.of hp, i2, ?_⟩
      refine ⟨_, rfl, .inl ⟨_, rfl, _, rfl, _, _, rfl, rfl, ⟨m0, m1⟩, _, rfl, p, _, _, 2, rfl, rfl, hp, rfl, ?_⟩⟩
      refine ⟨_, rfl, .inl ⟨_, rfl, _, rfl, _, _, rfl, rfl, m0, ?_⟩⟩
      refine k _ _ (Int.emod_nonneg r (by omega)) (Int.emod_lt_of_pos r m0) (Off.upd (Off.refl p H)) ⟨t, r / m, ns, upd_same, ?_, hcp, t0, by omega, Int.ediv_nonneg r0 (by omega), hz⟩
      exact (Off.upd (Off.refl p H)) _ _ hc hcp
    · have hr0 : r = 0 := by
        have : ¬ (0 : Int) < r := fun z => h0 (decide_eq_true z)
        omega
      refine ⟨_, rfl, p, _, _, _, rfl, rfl, SqL.of hp, i1, ?_⟩
      refine ⟨_, rfl, _, _, rfl, rfl, _, rfl, p, _, _, 1, rfl, rfl, hp, rfl, ?_⟩
      refine ⟨_, rfl, _, _, rfl, rfl, .inl ⟨by decide, by decide⟩, _, _, rfl, rfl, ?_⟩
      have o1 : Off p H (upd H p (.lst [V.ref c, V.int (t + 1), V.int r])) := Off.upd (Off.refl p H)
      have hp1 : upd H p (.lst [V.ref c, V.int (t + 1), V.int r]) p = some (.lst [V.ref c, V.int (t + 1), V.int r]) := upd_same
      have hc1 : (upd H p (.lst [V.ref c, V.int (t + 1), V.int r])) c = some (.lst (ns.map V.int)) := o1 _ _ hc hcp
      generalize hH1 : upd H p (.lst [V.ref c, V.int (t + 1), V.int r]) = H1 at o1 hp1 hc1
      have hH1' : upd H p (HO.lst ([V.ref c, V.int t, V.int r].set 1 ((fun i j => V.int (i + j)) t 1))) = H1 := hH1
      rw [hH1']
      refine ⟨fun σ H2 => Ex H1 H2 ∧ ∃ cell : Int, σ = [some (.ref p), some (.int m), none, some (.int t), some (.int cell), none], ?_, ?_⟩
      · refine ⟨_, rfl, p, _, _, _, rfl, rfl, SqL.of hp1, i0, ?_⟩
        refine ⟨by decide, fun l hl => ?_⟩
        have e1 : Ex H1 (upd H1 l (.lst [])) := Ex.new hl
        refine ⟨c, l, ns.map V.int, [], ns.isEmpty, rfl, rfl, SqL.of (e1 _ _ hc1), SqL.of upd_same, ?_, _, rfl, ?_⟩
        · cases ns with
          | nil => exact .inr ⟨[], .nil, rfl⟩
          | cons a b => exact .inl ⟨by simp, rfl⟩
        · refine ite2 (fun h1 => ?_) (fun h1 => ?_)
          · have hne : ns ≠ [] := by
              intro z
              rw [z] at h1
              exact absurd h1 (by decide)
            have hlen : 0 < ns.length := List.length_pos_iff.mpr hne
            have hlt : (t % (ns.length : Int)).toNat < ns.length := by
              have z1 := Int.emod_nonneg t (b := (ns.length : Int)) (by omega)
              have z2 := Int.emod_lt_of_pos t (b := (ns.length : Int)) (by omega)
              omega
            refine ⟨_, rfl, p, _, _, _, rfl, rfl, SqL.of (e1 _ _ hp1), i0, ?_⟩
            refine ⟨_, rfl, .inl ⟨_, rfl, ?_⟩⟩
            refine ⟨_, rfl, p, _, _, _, rfl, rfl, SqL.of (e1 _ _ hp1), i0, ?_⟩
            refine ⟨_, (ns.map V.int).length, rfl, .inl ⟨_, SqL.of (e1 _ _ hc1), rfl⟩, ?_⟩
            refine ⟨_, _, rfl, rfl, by rw [List.length_map]; omega, ?_⟩
            obtain ⟨j, hj, hjl⟩ : ∃ j : Nat, t % (ns.length : Int) = (j : Int) ∧ j < ns.length := ⟨(t % (ns.length : Int)).toNat, (Int.toNat_of_nonneg (Int.emod_nonneg t (by omega))).symm, hlt⟩
            refine ⟨c, _, _, .int ns[j], rfl, rfl, SqL.of (e1 _ _ hc1), ?_, e1, _, rfl⟩
            rw [List.length_map]
            refine at_of hj ?_
            rw [List.getElem?_map, List.getElem?_eq_getElem hjl]
            rfl
          · exact ⟨e1, _, rfl⟩
      · rintro σ' H2 ⟨e2, cell, rfl⟩
        have hp2 := e2 _ _ hp1
        have hc2 := e2 _ _ hc1
        have o2 : Off p H H2 := o1.trans (Off.of e2)
        refine ⟨fun σ' H' => σ' = [some (V.ref p), some (.int m), none, some (.int t), some (.int cell), none] ∧ H' = H2, ?_, ?_⟩
        · refine ⟨_, rfl, _, rfl, p, _, _, _, rfl, rfl, SqL.of hp2, i0, _, (ns.map V.int).length, rfl, .inl ⟨_, SqL.of hc2, rfl⟩, _, _, rfl, rfl, _, rfl, ?_⟩
          refine ite2 (fun h1 => ?_) (fun h1 => ?_)
          · refine ⟨_, rfl, cell, rfl, 10, 18, rfl, rfl, ⟨by decide, by decide, by decide⟩, _, _, rfl, rfl, _, rfl, ?_⟩
            refine ite2 (fun h2 => ?_) (fun h2 => ?_)
            · refine ⟨_, rfl, cell, rfl, 10, 18, rfl, rfl, ⟨by decide, by decide, by decide⟩, _, _, rfl, rfl, 2, _, rfl, rfl, .inl ⟨by decide, by decide⟩, _, rfl, _, _, rfl, rfl, .inr ⟨_, rfl, _, _, rfl, rfl, ?_⟩⟩
              have hg : (0 : Int) ≤ 2 * ((if cell < 0 then -cell else cell) - 10 ^ (18 : Int).toNat) + (if decide (cell < 0) = true then 1 else 0) := by
                have h3 : (10 : Int) ^ (18 : Int).toNat ≤ (if cell < 0 then -cell else cell) := of_decide_eq_true h2
                have h4 : (0 : Int) ≤ (if decide (cell < 0) = true then 1 else 0) := by
                  split <;> decide
                omega
              refine ⟨_, rfl, .inl ⟨_, rfl, _, rfl, _, _, rfl, rfl, ⟨m0, m1⟩, _, rfl, p, _, _, 2, rfl, rfl, hp2, rfl, ?_⟩⟩
              refine ⟨_, rfl, .inl ⟨_, rfl, _, rfl, _, _, rfl, rfl, m0, ?_⟩⟩
              refine k _ _ (Int.emod_nonneg _ (by omega)) (Int.emod_lt_of_pos _ m0) (Off.upd o2) ⟨t + 1, _, ns, upd_same, ?_, hcp, by omega, by omega, Int.ediv_nonneg hg (by omega), hz⟩
              exact (Off.upd (Off.refl p H2)) _ _ hc2 hcp
            · exact ⟨rfl, rfl⟩
          · exact iteF ⟨rfl, rfl⟩
        · rintro σ' H' ⟨rfl, rfl⟩
          have c1 := Int.emod_nonneg cell (b := 2147483563) (by decide)
          have c2 := Int.emod_lt_of_pos cell (b := 2147483563) (by decide)
          refine ⟨_, rfl, .inl ⟨_, rfl, _, _, rfl, rfl, (show (0 : Int) < 2147483563 by decide), _, rfl, _, _, rfl, rfl, .inl ⟨by decide, by decide⟩, _, _, rfl, rfl, _, _, rfl, rfl, _, _, rfl, rfl, ⟨by decide, by decide, ?_⟩, .inl ⟨_, rfl, _, _, rfl, rfl, (show (0 : Int) < 2147483587 by decide), ?_⟩⟩⟩
          · show (cell % 2147483563 + 59053 * t + 3013).natAbs < 2 ^ 64
            omega
          have d1 := Int.emod_nonneg ((cell % 2147483563 + 59053 * t + 3013) ^ (5 : Int).toNat) (b := 2147483587) (by decide)
          have d2 := Int.emod_lt_of_pos ((cell % 2147483563 + 59053 * t + 3013) ^ (5 : Int).toNat) (b := 2147483587) (by decide)
          generalize hm1 : (cell % 2147483563 + 59053 * t + 3013) ^ (5 : Int).toNat % 2147483587 = mx at d1 d2
          refine ⟨_, rfl, _, rfl, 2, t, rfl, rfl, .inl ⟨by decide, by decide⟩, _, _, rfl, rfl, mx, 2 * t + 3025, ?_, rfl, cmulL (by omega) (by omega), _, rfl, 37201, t, rfl, rfl, .inl ⟨by decide, by decide⟩, _, rfl, 37201 * t, t, rfl, rfl, cmulL (by omega) (by omega), _, _, rfl, rfl, _, _, rfl, rfl, _, _, rfl, rfl, ⟨by decide, by decide, ?_⟩, .inl ⟨_, rfl, _, _, rfl, rfl, (show (0 : Int) < 2147483629 by decide), ?_⟩⟩
          · exact congrArg V.int hm1
          · show (mx * (2 * t + 3025) + 37201 * t * t + 59053).natAbs < 2 ^ 64
            have b1 := mul_bd (a := mx) (b := 2 * t + 3025) (A := 2147483587) (B := 203025) d1 (by omega) (by omega) (by omega)
            have b2 := mul_bd (a := 37201 * t) (b := t) (A := 3720100000) (B := 100000) (by omega) (by omega) (by omega) (by omega)
            omega
          have f1 := Int.emod_nonneg ((mx * (2 * t + 3025) + 37201 * t * t + 59053) ^ (3 : Int).toNat) (b := 2147483629) (by decide)
          have f2 := Int.emod_lt_of_pos ((mx * (2 * t + 3025) + 37201 * t * t + 59053) ^ (3 : Int).toNat) (b := 2147483629) (by decide)
          generalize hm2 : (mx * (2 * t + 3025) + 37201 * t * t + 59053) ^ (3 : Int).toNat % 2147483629 = my at f1 f2
          refine ⟨_, rfl, my, 64, ?_, rfl, ⟨by decide, by decide⟩, .inl ⟨_, rfl, _, rfl, _, _, rfl, rfl, m0, ?_⟩⟩
          · exact congrArg V.int hm2
          refine k _ _ (Int.emod_nonneg (my / 64) (by omega)) (Int.emod_lt_of_pos (my / 64) m0) o2 ⟨t + 1, r, ns, hp2, hc2, hcp, by omega, by omega, by omega, hz⟩
end
end K00
set_option Elab.async false
set_option linter.all false
set_option maxRecDepth 100000
set_option maxHeartbeats 4000000
set_option autoImplicit false
namespace K00
open PySem PySem.Spec PyProof.Rows L2 He Evl
/-! ### what the checks say of a value -/
def intV : V → Bool
  | .int _ => true
  | _ => false
def letters : Str := "abcdefghijklmnopqrstuvwxyz"
def nameMarks : Str := "abcdefghijklmnopqrstuvwxyz0123456789"
def nameB (z : Str) : Bool := decide (1 ≤ z.length) && decide (z.length ≤ 12) && decide (z.cps.toList.getD 0 0 ∈ letters.cps.toList) && z.cps.toList.all fun c => decide (c ∈ nameMarks.cps.toList)
def nameV : V → Bool
  | .str z => nameB z
  | _ => false
def sideV (x : V) : Bool := decide (x = .str "column") || decide (x = .str "row")
def leV : V → Int → Bool
  | .int a, i => decide (a ≤ i)
  | _, _ => true
def geV : V → Int → Bool
  | .int a, i => decide (i ≤ a)
  | _, _ => true
def bndV : V → Prop
  | .non => True
  | .int _ => True
  | _ => False
section
variable {K : PySem.W.Frag} {H : Hp} {x : V} {T : String}
theorem kd_cases (h : Kd K H x T) : (x = .non ∧ T = "NoneType") ∨ (∃ b, x = .bl b ∧ T = "bool") ∨ (∃ i, x = .int i ∧ T = "int") ∨ (∃ z, x = .str z ∧ T = "str") ∨ ∃ a, x = .ref a ∧ (T = "list" ∨ T = "tuple" ∨ T = "dict") := by
  have hm := h.mem
  cases h.ty with
  | base b =>
    cases b with
    | non => exact .inl ⟨rfl, rfl⟩
    | bl x => exact .inr (.inl ⟨_, rfl, rfl⟩)
    | int i => exact .inr (.inr (.inl ⟨_, rfl, rfl⟩))
    | str x => exact .inr (.inr (.inr (.inl ⟨_, rfl, rfl⟩)))
    | flt x => exact absurd hm (by decide)
    | lst h2 => exact .inr (.inr (.inr (.inr ⟨_, rfl, .inl rfl⟩)))
    | frz h2 => exact .inr (.inr (.inr (.inr ⟨_, rfl, .inl rfl⟩)))
    | tup h2 => exact .inr (.inr (.inr (.inr ⟨_, rfl, .inr (.inl rfl)⟩)))
    | dK h2 => exact .inr (.inr (.inr (.inr ⟨_, rfl, .inr (.inr rfl)⟩)))
    | dT h2 => exact .inr (.inr (.inr (.inr ⟨_, rfl, .inr (.inr rfl)⟩)))
  | byt b => exact absurd hm (by decide)
  | set h2 => exact absurd hm (by decide)
  | kList h2 c => exact .inr (.inr (.inr (.inr ⟨_, rfl, .inl rfl⟩)))
  | kTuple h2 c => exact .inr (.inr (.inr (.inr ⟨_, rfl, .inr (.inl rfl)⟩)))
  | kDict h2 c => exact .inr (.inr (.inr (.inr ⟨_, rfl, .inr (.inr rfl)⟩)))
  | fTuple h2 => exact .inr (.inr (.inr (.inr ⟨_, rfl, .inr (.inl rfl)⟩)))
  | fDict h2 => exact .inr (.inr (.inr (.inr ⟨_, rfl, .inr (.inr rfl)⟩)))
theorem kd_int_eq (h : Kd K H x T) : (kAns T "int" && !kAns T "bool") = intV x := by
  rcases kd_cases h with ⟨rfl, rfl⟩ | ⟨b, rfl, rfl⟩ | ⟨i, rfl, rfl⟩ | ⟨z, rfl, rfl⟩ | ⟨a, rfl, rfl | rfl | rfl⟩ <;> (show _ = _; first | rfl | decide)
def isStr : V → Bool
  | .str _ => true
  | _ => false
theorem kd_str_eq (h : Kd K H x T) : kAns T "str" = isStr x := by
  rcases kd_cases h with ⟨rfl, rfl⟩ | ⟨b, rfl, rfl⟩ | ⟨i, rfl, rfl⟩ | ⟨z, rfl, rfl⟩ | ⟨a, rfl, rfl | rfl | rfl⟩ <;> (show _ = _; first | rfl | decide)
end
/-! ### the promises -/
def spInt (K : PySem.W.Frag) : Sp := fun vs H Q _ => ∃ (x : V) (T : String), vs = [x] ∧ Kd K H x T ∧ RetV (.bl (intV x)) H Q
def spWithin (K : PySem.W.Frag) : Sp := fun vs H Q _ => ∃ (x l m : V) (T : String), vs = [x, l, m] ∧ Kd K H x T ∧ bndV l ∧ bndV m ∧ RetV (.bl (match x with | .int i => leV l i && geV m i | _ => false)) H Q
/-- an element that may be asked for a name -/
structure EOk (K : PySem.W.Frag) (H : Hp) (x : V) : Prop where
  kd : ∃ T, Kd K H x T
  len : ∀ z, x = .str z → z.length ≤ 1000
theorem EOk.ex {K : PySem.W.Frag} {H H' : Hp} {x : V} (h : EOk K H x) (e : Ex H H') : EOk K H' x := ⟨h.kd.imp fun _ k => k.ex e, h.len⟩
def spName (K : PySem.W.Frag) : Sp := fun vs H Q _ => ∃ (x : V), vs = [x] ∧ EOk K H x ∧ RetV (.bl (nameV x)) H Q
def spSide (K : PySem.W.Frag) : Sp := fun vs H Q _ => ∃ (x : V) (T : String), vs = [x] ∧ Kd K H x T ∧ RetV (.bl (sideV x)) H Q
def spTruth : Sp := fun vs H Q _ => ∃ (x : V), vs = [x] ∧ RetV (.bl (decide (x = .bl true) || decide (x = .bl false))) H Q
def spIsList (K : PySem.W.Frag) : Sp := fun vs H Q _ => ∃ (x : V) (T : String), vs = [x] ∧ Kd K H x T ∧ RetV (.bl (kAny T ["list", "tuple"])) H Q
/-- a list or tuple of these -/
def SeqV (K : PySem.W.Frag) (H : Hp) (x : V) (xs : List V) : Prop := ∃ a, x = .ref a ∧ (SqL K H a xs ∨ SqT K H a xs)
theorem SeqV.ex {K : PySem.W.Frag} {H H' : Hp} {x : V} {xs : List V} (h : SeqV K H x xs) (e : Ex H H') : SeqV K H' x xs := by
  obtain ⟨a, h1, h2 | h2⟩ := h
  · exact ⟨a, h1, .inl (ex_l e h2)⟩
  · exact ⟨a, h1, .inr (ex_t e h2)⟩
theorem SeqV.kd {K : PySem.W.Frag} {H : Hp} {x : V} {xs : List V} (h : SeqV K H x xs) : ∃ T, Kd K H x T ∧ kAny T ["list", "tuple"] = true := by
  obtain ⟨a, rfl, h2 | h2⟩ := h
  · exact ⟨_, kd_sqL h2, by decide⟩
  · exact ⟨_, kd_sqT h2, by decide⟩
/-- no list, no tuple -/
def NoSeq (K : PySem.W.Frag) (H : Hp) (x : V) : Prop := ∃ T, Kd K H x T ∧ kAny T ["list", "tuple"] = false
theorem NoSeq.ex {K : PySem.W.Frag} {H H' : Hp} {x : V} (h : NoSeq K H x) (e : Ex H H') : NoSeq K H' x := h.imp fun _ k => ⟨k.1.ex e, k.2⟩
def spSeq (K : PySem.W.Frag) (f : List V → Bool) : Sp := fun vs H Q _ => ∃ (x : V), vs = [x] ∧ ((NoSeq K H x ∧ RetV (.bl false) H Q) ∨ ∃ xs, SeqV K H x xs ∧ xs.length ≤ 1000 ∧ (∀ y ∈ xs, EOk K H y) ∧ RetV (.bl (f xs)) H Q)
def namesF (xs : List V) : Bool := decide (0 < xs.length) && xs.all nameV
def wordF (xs : List V) : Bool := namesF xs && decide (xs.length ≤ 6)
def numsF (xs : List V) : Bool := xs.all intV
section
variable {P : Program} {w : World} {K : PySem.W.Frag} {mg : Str → Option Value} {base : Heap}
theorem b_is_integer (T : Tx K mg) : Binds K (fdOf K ("is_integer", none)) ["value"] [] := T.f_is_integer.bindsN fun _ _ _ _ _ _ us hl => match us, hl with | [_], _ => rfl
theorem b_is_within (T : Tx K mg) : Binds K (fdOf K ("is_within", none)) ["value", "least", "most"] [] := T.f_is_within.bindsN fun _ _ _ _ _ _ us hl => match us, hl with | [_, _, _], _ => rfl
theorem b_is_name (T : Tx K mg) : Binds K (fdOf K ("is_name", none)) ["value"] [] := T.f_is_name.bindsN fun _ _ _ _ _ _ us hl => match us, hl with | [_], _ => rfl
theorem b_is_side (T : Tx K mg) : Binds K (fdOf K ("is_side", none)) ["value"] [] := T.f_is_side.bindsN fun _ _ _ _ _ _ us hl => match us, hl with | [_], _ => rfl
theorem b_is_truth (T : Tx K mg) : Binds K (fdOf K ("is_truth", none)) ["value"] [] := T.f_is_truth.bindsN fun _ _ _ _ _ _ us hl => match us, hl with | [_], _ => rfl
theorem b_is_list (T : Tx K mg) : Binds K (fdOf K ("is_list", none)) ["value"] [] := T.f_is_list.bindsN fun _ _ _ _ _ _ us hl => match us, hl with | [_], _ => rfl
theorem b_are_names (T : Tx K mg) : Binds K (fdOf K ("are_names", none)) ["value"] [] := T.f_are_names.bindsN fun _ _ _ _ _ _ us hl => match us, hl with | [_], _ => rfl
theorem b_is_word (T : Tx K mg) : Binds K (fdOf K ("is_word", none)) ["value"] [] := T.f_is_word.bindsN fun _ _ _ _ _ _ us hl => match us, hl with | [_], _ => rfl
theorem b_is_numbers (T : Tx K mg) : Binds K (fdOf K ("is_numbers", none)) ["value"] [] := T.f_is_numbers.bindsN fun _ _ _ _ _ _ us hl => match us, hl with | [_], _ => rfl
theorem ok_is_integer (T : Tx K mg) : FnOk P w K mg base CX0 1 (ga K "is_integer") (fdOf K ("is_integer", none)) ["value"] (spInt K) := by
  refine T.f_is_integer.ok sc_is_integer (fun vs H Q E h => ?_) (fun cdv A outer s H vs Q E hr h => ?_)
  · obtain ⟨x, T', rfl, _⟩ := h
    rfl
  · refine ⟨_, PSs.nox (pss_one (ps_ret (pe_and (pe_callB call_isi (by rfl) T.n_isinstance (by decide +kernel) (pa_cons (pv 0) (pa_cons (pe_bltn (v := .ty "int") (by rfl) T.n_int (by decide +kernel) rfl) pa_nil))) (pe_one (pe_not (pe_callB call_isi (by rfl) T.n_isinstance (by decide +kernel) (pa_cons (pv 0) (pa_cons (pe_bltn (v := .ty "bool") (by rfl) T.n_bool (by decide +kernel) rfl) pa_nil)))))))), ?_⟩
    -- slots: [(0, 'value')]
    obtain ⟨x, T', rfl, hk, k⟩ := h
    refine s_ret (v := .bl (kAns T' "int" && !kAns T' "bool")) (ev_andV (ev_cb (ea_cons (ev_var rfl) (ea_cons ev_c ea_nil)) (rc_isi hk (by decide))) fun _ => ev_notV (ev_cb (ea_cons (ev_var rfl) (ea_cons ev_c ea_nil)) (rc_isi hk (by decide)))) fun H1 e => ?_
    rw [kd_int_eq hk]
    exact k H1 e
theorem ok_is_within (T : Tx K mg) : FnOk P w K mg base CX0 2 (ga K "is_within") (fdOf K ("is_within", none)) ["value", "least", "most"] (spWithin K) := by
  refine T.f_is_within.ok sc_is_within (fun vs H Q E h => ?_) (fun cdv A outer s H vs Q E hr h => ?_)
  · obtain ⟨x, l, m, T', rfl, _⟩ := h
    rfl
  · refine ⟨_, PSs.nox (pss_cons (ps_if (pt_not (pt_val (pe_call (ok_is_integer T) (hr.mono (by decide)) (by rfl) T.g_is_integer T.f_is_integer.kp (b_is_integer T) .nil pass0 (pa_cons (pv 0) pa_nil))))
        (pss_one (ps_ret pe_bl))
        pss_nil)
      (pss_one (ps_ret (pe_and (pe_or (pe_cmpR op_isN (pv 1) pe_non (nomark _)) (pe_one (pe_cmpR op_ge (pv 0) (pv 1) (nomark _)))) (pe_one (pe_or (pe_cmpR op_isN (pv 2) pe_non (nomark _)) (pe_one (pe_cmpR op_le (pv 0) (pv 2) (nomark _))))))))), ?_⟩
    -- slots: [(0, 'value'), (1, 'least'), (2, 'most')]
    obtain ⟨x, l, m, T', rfl, hk, hl, hm, k⟩ := h
    have hcall : EvT (tNot (tB (tCall (spInt K) [] E0 (tCons (tVar 0) tNil)))) (start ["value", "least", "most"] [x, l, m]) H (!intV x) :=
      et_not (et_B (ev_call (ea_cons (ev_var rfl) ea_nil) fun H1 e Q q E => ⟨x, T', rfl, hk.ex e, q⟩))
    refine q_when hcall (fun hb H1 e1 => ?_) (fun hb H1 e1 => ?_)
    · refine s_ret ev_c fun H2 e2 => ?_
      have z := k H2 (e1.trans e2)
      have hx : intV x = false := by simpa using hb
      cases x <;> first | exact z | cases hx
    · have hx : intV x = true := by simpa using hb
      cases x with
      | int i =>
        refine s_ret (v := .bl (leV l i && geV m i)) (ev_andV (ev_is (ev_orV (a := decide (l = .non)) (b := leV l i) (fun H2 e2 Q q => ⟨l, rfl, rfl, q H2 (Ex.refl H2)⟩) fun hn => ?_) ?_)
          fun _ => ev_is (ev_orV (a := decide (m = .non)) (b := geV m i) (fun H2 e2 Q q => ⟨m, rfl, rfl, q H2 (Ex.refl H2)⟩) fun hn => ?_) ?_) fun H2 e2 => k H2 (e1.trans e2)
        · cases l with
          | int a => exact ev_op (ev_var rfl) (ev_var rfl) (rv_I0 (g := fun i j => .bl (decide (j ≤ i))))
          | non => exact absurd hn (by decide)
          | _ => exact hl.elim
        · cases l with
          | int a => rfl
          | non => rfl
          | _ => exact hl.elim
        · cases m with
          | int a => exact ev_op (ev_var rfl) (ev_var rfl) (rv_I0 (g := fun i j => .bl (decide (i ≤ j))))
          | non => exact absurd hn (by decide)
          | _ => exact hm.elim
        · cases m with
          | int a => rfl
          | non => rfl
          | _ => exact hm.elim
      | _ => cases hx
theorem nameB_len {z : Str} (h1 : decide (1 ≤ z.length) = true) : ∃ c r, z.cps.toList = c :: r := by
  have h : 1 ≤ z.length := of_decide_eq_true h1
  cases e : z.cps.toList with
  | nil =>
    have : z.cps.toList.length = 0 := by rw [e]; rfl
    rw [Array.length_toList] at this
    exact absurd h (by show ¬ 1 ≤ z.cps.size; omega)
  | cons c r => exact ⟨c, r, rfl⟩
theorem ok_is_name (T : Tx K mg) : FnOk P w K mg base CX0 1 (ga K "is_name") (fdOf K ("is_name", none)) ["value"] (spName K) := by
  refine T.f_is_name.ok sc_is_name (fun vs H Q E h => ?_) (fun cdv A outer s H vs Q E hr h => ?_)
  · obtain ⟨x, rfl, _⟩ := h
    rfl
  · refine ⟨_, PSs.nox (pss_cons (ps_if (PW.pt (pw_or (pt_not (pt_val (pe_callB call_isi (by rfl) T.n_isinstance (by decide +kernel) (pa_cons (pv 0) (pa_cons (pe_bltn (v := .ty "str") (by rfl) T.n_str (by decide +kernel) rfl) pa_nil))))) (pw_or1 (pt_not (pt_chain op_le op_le pe_int (pe_callB call_len (by rfl) T.n_len boot_len (pa_cons (pv 0) pa_nil)) (pe_glob (v := .int 12) (by rfl) T.g_MOST_MARKS.choose_spec ⟨_, rfl⟩))))))
        (pss_one (ps_ret pe_bl))
        pss_nil)
      (pss_one (ps_ret (pe_and (pe_cmpR op_in_sign (pe_ix ix_str (pv 0) pe_int (fun _ _ => rfl)) (pe_glob (v := .str "abcdefghijklmnopqrstuvwxyz") (by rfl) T.g_LETTERS.choose_spec ⟨_, rfl⟩) (by rfl)) (pe_one (pe_callB (cr_all rfl) (by rfl) T.n_all (by decide +kernel) (pa_cons (pe_lc (own := [("mark", 1)]) (g := (gName 1)) (tt := tYes) rfl sc_is_name.nd (pi_str (pv 0)) (blkOk_by (N := ["value", "mark"]) (sc := defScope s_is_name) (by decide +kernel)) (fun _ _ _ _ _ => pg_name (i := 1) sc_is_name.nd rfl (Or.inl rfl)) (fun _ _ _ _ _ => pts_nil) (fun _ _ _ _ _ => (pe_cmpR op_in_sign (pv 1) (pe_glob (v := .str "abcdefghijklmnopqrstuvwxyz0123456789") (by rfl) T.g_NAME_MARKS.choose_spec ⟨_, rfl⟩) (by rfl)))) pa_nil))))))), ?_⟩
    -- slots: [(0, 'value'), (1, 'mark')]
    obtain ⟨x, rfl, ⟨⟨T', hk⟩, hl⟩, k⟩ := h
    have hs := kd_str_eq hk
    have i1 : EvT (tNot (tB (tCB (rIsi K) (tCons (tVar 0) (tCons (tC (.ty "str")) tNil))))) (start ["value", "mark"] [x]) H (!isStr x) :=
      et_not (et_B (ev_is (ev_cb (ea_cons (ev_var rfl) (ea_cons ev_c ea_nil)) (rc_isi hk (by decide))) (by rw [hs])))
    cases hx : isStr x with
    | false =>
      refine q_when (b := true) ?_ (fun _ H1 e1 => s_ret ev_c fun H2 e2 => ?_) (fun hb => nomatch hb)
      · refine et_is (et_or (b := true) i1 fun hb => ?_) (by rw [hx]; rfl)
        rw [hx] at hb; cases hb
      · have z := k H2 (e1.trans e2)
        cases x <;> first | exact z | cases hx
    | true =>
      obtain ⟨z, rfl⟩ : ∃ z, x = .str z := by
        cases x with
        | str z => exact ⟨z, rfl⟩
        | _ => cases hx
      have hz := hl z rfl
      refine q_when (b := !(decide (1 ≤ z.length) && decide (z.length ≤ 12))) ?_ (fun hb H1 e1 => s_ret ev_c fun H2 e2 => ?_) (fun hb H1 e1 => ?_)
      · refine et_is (et_or (a := false) (b := !(decide (1 ≤ z.length) && decide (z.length ≤ 12))) (et_is i1 rfl) fun _ => et_not ?_) rfl
        intro H1 e Q q
        refine ⟨_, rfl, _, z.length, rfl, ⟨Nat.le_trans hz (by decide), rfl⟩, _, _, rfl, rfl, decide ((1 : Int) ≤ (z.length : Int)), rfl, ?_⟩
        have q1 := q H1 (Ex.refl H1)
        by_cases h1 : 1 ≤ z.length
        · rw [decide_eq_true (show (1 : Int) ≤ (z.length : Int) by omega)]
          refine iteT ⟨_, _, rfl, rfl, decide ((z.length : Int) ≤ 12), rfl, ?_⟩
          have e3 : decide ((z.length : Int) ≤ 12) = decide (z.length ≤ 12) := decide_eq_decide.mpr (by omega)
          rw [e3]
          rw [decide_eq_true h1] at q1
          exact q1
        · rw [decide_eq_false (show ¬ (1 : Int) ≤ (z.length : Int) by omega)]
          rw [decide_eq_false h1] at q1
          exact iteF ⟨_, rfl, q1⟩
      · have e3 : nameV (.str z) = false := by
          show nameB z = false
          unfold nameB
          have : (decide (1 ≤ z.length) && decide (z.length ≤ 12)) = false := by
            revert hb
            cases (decide (1 ≤ z.length) && decide (z.length ≤ 12)) <;> simp
          rw [this] <;> rfl
        have z1 := k H2 (e1.trans e2)
        rw [e3] at z1
        exact z1
      · have hb2 : (decide (1 ≤ z.length) && decide (z.length ≤ 12)) = true := by
          revert hb
          cases (decide (1 ≤ z.length) && decide (z.length ≤ 12)) <;> simp
        obtain ⟨c, r, hc⟩ := nameB_len (Bool.and_eq_true_iff.mp hb2).1
        have ev0 : Ev (tOp rIxS (tVar 0) (tC (.int 0))) (start ["value", "mark"] [V.str z]) H1 (.str ⟨#[c]⟩) := ev_op (ev_var rfl) ev_c (rv_ixS (Nat.le_trans hz (by decide)) (by rw [hc]; exact atI_nat (xs := c :: r) (j := 0) (v := c) rfl))
        refine s_ret (v := .bl (decide (c ∈ letters.cps.toList) && z.cps.toList.all fun c => decide (c ∈ nameMarks.cps.toList))) (ev_andV (ev_op ev0 ev_c ?_) fun _ => ?_) fun H2 e2 => ?_
        · exact fun H3 _ Q q => ⟨c, letters, rfl, rfl, q H3 (Ex.refl H3)⟩
        · rw [← all_map (fun c => decide (c ∈ nameMarks.cps.toList))]
          refine ev_all ?_
          rw [List.map_map]
          refine el_lcStr (fun c => .bl (decide (c ∈ nameMarks.cps.toList))) (ev_var rfl) (Nat.le_trans hz (by decide)) (fun _ => rfl) fun c H3 e3 hc => ?_
          exact ev_op (ev_var rfl) ev_c fun H4 _ Q q => ⟨c, nameMarks, rfl, rfl, q H4 (Ex.refl H4)⟩
        · have z1 := k H2 (e1.trans e2)
          have e3 : nameV (.str z) = (decide (c ∈ letters.cps.toList) && z.cps.toList.all fun c => decide (c ∈ nameMarks.cps.toList)) := by
            show nameB z = _
            unfold nameB
            rw [hb2, hc]
            rfl
          rw [e3] at z1
          exact z1
def spOneOf (K : PySem.W.Frag) : Sp := fun vs H Q _ => ∃ (x : V) (T : String) (a : Addr) (xs : List V), vs = [x, .ref a] ∧ Kd K H x T ∧ (∀ H1, Ex H H1 → SqT K H1 a xs) ∧ xs.all flatV = true ∧ RetV (.bl (isStr x && inV x xs)) H Q
theorem b_is_one_of (T : Tx K mg) : Binds K (fdOf K ("is_one_of", none)) ["value", "strings"] [] := T.f_is_one_of.bindsN fun _ _ _ _ _ _ us hl => match us, hl with | [_, _], _ => rfl
theorem ok_is_one_of (T : Tx K mg) : FnOk P w K mg base CX0 1 (ga K "is_one_of") (fdOf K ("is_one_of", none)) ["value", "strings"] (spOneOf K) := by
  refine T.f_is_one_of.ok sc_is_one_of (fun vs H Q E h => ?_) (fun cdv A outer s H vs Q E hr h => ?_)
  · obtain ⟨x, T', a, xs, rfl, _⟩ := h
    rfl
  · refine ⟨_, PSs.nox (pss_one (ps_ret (pe_and (pe_callB call_isi (by rfl) T.n_isinstance (by decide +kernel) (pa_cons (pv 0) (pa_cons (pe_bltn (v := .ty "str") (by rfl) T.n_str (by decide +kernel) rfl) pa_nil))) (pe_one (pe_cmpR op_in_seq (pv 0) (pv 1) (by rfl)))))), ?_⟩
    -- slots: [(0, 'value'), (1, 'strings')]
    obtain ⟨x, T', a, xs, rfl, hk, hS, hf, k⟩ := h
    have hs := kd_str_eq hk
    refine s_ret (v := .bl (isStr x && inV x xs)) (ev_andV (ev_is (ev_cb (ea_cons (ev_var rfl) (ea_cons ev_c ea_nil)) (rc_isi hk (by decide))) (by rw [hs])) fun hx => ?_) fun H1 e => k H1 e
    refine ev_op (ev_var rfl) (ev_var rfl) (fun H1 e => rv_isT (hS H1 e) ?_ hf H1 (Ex.refl H1))
    cases x <;> first | rfl | cases hx
theorem ok_is_side (T : Tx K mg) : FnOk P w K mg base CX0 2 (ga K "is_side") (fdOf K ("is_side", none)) ["value"] (spSide K) := by
  refine T.f_is_side.ok sc_is_side (fun vs H Q E h => ?_) (fun cdv A outer s H vs Q E hr h => ?_)
  · obtain ⟨x, T', rfl, _⟩ := h
    rfl
  · refine ⟨_, PSs.nox (pss_one (ps_ret (pe_call (ok_is_one_of T) (hr.mono (by decide)) (by rfl) T.g_is_one_of T.f_is_one_of.kp (b_is_one_of T) .nil pass0 (pa_cons (pv 0) (pa_cons (pe_glob (v := .ref (ga K "SIDES")) (by rfl) T.g_SIDES rfl) pa_nil))))), ?_⟩
    -- slots: [(0, 'value')]
    obtain ⟨x, T', rfl, hk, k⟩ := h
    have hS : ∀ H, SqT K H (ga K "SIDES") [.str "column", .str "row"] := fun H => tupB_ok T.t_SIDES H
    refine s_ret (v := .bl (isStr x && inV x [.str "column", .str "row"])) (ev_call (ea_cons (ev_var rfl) (ea_cons ev_c ea_nil)) fun H1 e Q q E => ⟨x, T', _, _, rfl, hk.ex e, fun H1 _ => hS H1, rfl, q⟩) fun H1 e => ?_
    have z := k H1 e
    have e2 : (isStr x && inV x [.str "column", .str "row"]) = sideV x := by
        cases x with
        | str y =>
          show (true && _) = _
          unfold sideV
          rw [Bool.true_and]
          have h1 : inV (.str y) [.str "column", .str "row"] = (decide ((V.str y) = .str "column") || decide ((V.str y) = .str "row")) := by
            have h2 : ∀ a b : Str, eqV (.str a) (.str b) = decide (V.str b = .str a) := fun a b => by
              rw [dec_str]
              show (a == b) = (b == a)
              exact Bool.beq_comm
            show (eqV (.str "column") (.str y) || (eqV (.str "row") (.str y) || false)) = _
            rw [h2, h2, Bool.or_false]
          rw [h1]
        | _ => first | rfl | decide
    rw [e2]
    exact z
theorem ok_is_truth (T : Tx K mg) : FnOk P w K mg base CX0 1 (ga K "is_truth") (fdOf K ("is_truth", none)) ["value"] spTruth := by
  refine T.f_is_truth.ok sc_is_truth (fun vs H Q E h => ?_) (fun cdv A outer s H vs Q E hr h => ?_)
  · obtain ⟨x, rfl, _⟩ := h
    rfl
  · refine ⟨_, PSs.nox (pss_one (ps_ret (pe_or (pe_cmpR op_is_bl (pv 0) pe_bl (nomark _)) (pe_one (pe_cmpR op_is_bl (pv 0) pe_bl (nomark _)))))), ?_⟩
    -- slots: [(0, 'value')]
    obtain ⟨x, rfl, k⟩ := h
    refine s_ret (ev_orV (ev_op (ev_var rfl) ev_c fun H1 e Q q => ⟨true, rfl, q H1 (Ex.refl H1)⟩) fun _ => ev_op (ev_var rfl) ev_c fun H1 e Q q => ⟨false, rfl, q H1 (Ex.refl H1)⟩) fun H1 e => k H1 e
theorem ok_is_list (T : Tx K mg) : FnOk P w K mg base CX0 1 (ga K "is_list") (fdOf K ("is_list", none)) ["value"] (spIsList K) := by
  refine T.f_is_list.ok sc_is_list (fun vs H Q E h => ?_) (fun cdv A outer s H vs Q E hr h => ?_)
  · obtain ⟨x, T', rfl, _⟩ := h
    rfl
  · refine ⟨_, PSs.nox (pss_one (ps_ret (pe_callB call_isiT (by rfl) T.n_isinstance (by decide +kernel) (pa_cons (pv 0) (pa_cons (pe_tup (pa_cons (pe_bltn (v := .ty "list") (by rfl) T.n_list (by decide +kernel) rfl) (pa_cons (pe_bltn (v := .ty "tuple") (by rfl) T.n_tuple (by decide +kernel) rfl) pa_nil))) pa_nil))))), ?_⟩
    -- slots: [(0, 'value')]
    obtain ⟨x, T', rfl, hk, k⟩ := h
    refine s_ret (ev_isiT ["list", "tuple"] (ev_var rfl) (eu_tup (ea_cons ev_c (ea_cons ev_c ea_nil)) (by decide)) hk (by decide)) fun H1 e => k H1 e
theorem sp_islist {K : PySem.W.Frag} {H : Hp} {x : V} {xs : List V} (h : SeqV K H x xs) : SpV (spIsList K) [x] H (.bl true) := fun H1 e Q q E => by
  obtain ⟨T, hk, ha⟩ := h.kd
  refine ⟨x, T, rfl, hk.ex e, ?_⟩
  rw [ha]
  exact q
theorem sp_nolist {K : PySem.W.Frag} {H : Hp} {x : V} (h : NoSeq K H x) : SpV (spIsList K) [x] H (.bl false) := fun H1 e Q q E => by
  obtain ⟨T, hk, ha⟩ := h
  refine ⟨x, T, rfl, hk.ex e, ?_⟩
  rw [ha]
  exact q
theorem lenV_seq {K : PySem.W.Frag} {H : Hp} {x : V} {xs : List V} (h : SeqV K H x xs) : LenV K x H xs.length := by
  obtain ⟨a, rfl, h2 | h2⟩ := h
  · exact .inl ⟨_, h2, rfl⟩
  · exact .inr ⟨_, h2, rfl⟩
theorem ok_is_numbers (T : Tx K mg) : FnOk P w K mg base CX0 2 (ga K "is_numbers") (fdOf K ("is_numbers", none)) ["value"] (spSeq K numsF) := by
  refine T.f_is_numbers.ok sc_is_numbers (fun vs H Q E h => ?_) (fun cdv A outer s H vs Q E hr h => ?_)
  · obtain ⟨x, rfl, _⟩ := h
    rfl
  · refine ⟨_, PSs.nox (pss_one (ps_ret (pe_and (pe_call (ok_is_list T) (hr.mono (by decide)) (by rfl) T.g_is_list T.f_is_list.kp (b_is_list T) .nil pass0 (pa_cons (pv 0) pa_nil)) (pe_one (pe_callB (cr_all rfl) (by rfl) T.n_all (by decide +kernel) (pa_cons (pe_lc (own := [("one", 1)]) (g := (gName 1)) (tt := tYes) rfl sc_is_numbers.nd (pi_seq (pv 0)) (blkOk_by (N := ["value", "one"]) (sc := defScope s_is_numbers) (by decide +kernel)) (fun _ _ _ _ _ => pg_name (i := 1) sc_is_numbers.nd rfl (Or.inl rfl)) (fun _ _ _ _ _ => pts_nil) (fun _ _ _ _ _ => (pe_call (ok_is_integer T) (hr.mono (by decide)) (by rfl) T.g_is_integer T.f_is_integer.kp (b_is_integer T) .nil pass0 (pa_cons (pv 1) pa_nil)))) pa_nil)))))), ?_⟩
    -- slots: [(0, 'value'), (1, 'one')]
    obtain ⟨x, rfl, ⟨hn, k⟩ | ⟨xs, hx, hl, ha, k⟩⟩ := h
    · exact s_ret (v := .bl (false && true)) (ev_andV (ev_call (ea_cons (ev_var rfl) ea_nil) (sp_nolist hn)) fun z => nomatch z) fun H1 e => k H1 e
    · refine s_ret (v := .bl (true && (xs.map intV).all id)) (ev_andV (ev_call (ea_cons (ev_var rfl) ea_nil) (sp_islist hx)) fun _ => ?_) fun H1 e => ?_
      · obtain ⟨a, rfl, hs⟩ := hx
        refine ev_all ?_
        rw [List.map_map]
        refine el_lcSeq (fun y => .bl (intV y)) (ev_var rfl) hs (Nat.le_trans hl (by decide)) (fun _ => rfl) fun y H1 e hy => ?_
        obtain ⟨⟨T', hk⟩, _⟩ := ha y hy
        exact ev_call (ea_cons (ev_var rfl) ea_nil) fun H2 e2 Q q E => ⟨y, T', rfl, hk.ex (e.trans e2), q⟩
      · rw [all_map, Bool.true_and]
        exact k H1 e
theorem ok_are_names (T : Tx K mg) : FnOk P w K mg base CX0 2 (ga K "are_names") (fdOf K ("are_names", none)) ["value"] (spSeq K namesF) := by
  refine T.f_are_names.ok sc_are_names (fun vs H Q E h => ?_) (fun cdv A outer s H vs Q E hr h => ?_)
  · obtain ⟨x, rfl, _⟩ := h
    rfl
  · refine ⟨_, PSs.nox (pss_one (ps_ret (pe_and (pe_call (ok_is_list T) (hr.mono (by decide)) (by rfl) T.g_is_list T.f_is_list.kp (b_is_list T) .nil pass0 (pa_cons (pv 0) pa_nil)) (pe_and (pe_cmpR op_gt (pe_callB call_len (by rfl) T.n_len boot_len (pa_cons (pv 0) pa_nil)) pe_int (nomark _)) (pe_one (pe_callB (cr_all rfl) (by rfl) T.n_all (by decide +kernel) (pa_cons (pe_lc (own := [("one", 1)]) (g := (gName 1)) (tt := tYes) rfl sc_are_names.nd (pi_seq (pv 0)) (blkOk_by (N := ["value", "one"]) (sc := defScope s_are_names) (by decide +kernel)) (fun _ _ _ _ _ => pg_name (i := 1) sc_are_names.nd rfl (Or.inl rfl)) (fun _ _ _ _ _ => pts_nil) (fun _ _ _ _ _ => (pe_call (ok_is_name T) (hr.mono (by decide)) (by rfl) T.g_is_name T.f_is_name.kp (b_is_name T) .nil pass0 (pa_cons (pv 1) pa_nil)))) pa_nil))))))), ?_⟩
    -- slots: [(0, 'value'), (1, 'one')]
    obtain ⟨x, rfl, ⟨hn, k⟩ | ⟨xs, hx, hl, ha, k⟩⟩ := h
    · exact s_ret (v := .bl (false && true)) (ev_andV (ev_call (ea_cons (ev_var rfl) ea_nil) (sp_nolist hn)) fun z => nomatch z) fun H1 e => k H1 e
    · refine s_ret (v := .bl (true && (decide ((0 : Int) < (xs.length : Int)) && (xs.map nameV).all id))) (ev_andV (ev_call (ea_cons (ev_var rfl) ea_nil) (sp_islist hx)) fun _ => ev_andV ?_ fun _ => ?_) fun H1 e => ?_
      · refine ev_op (ev_cb (ea_cons (ev_var rfl) ea_nil) (z := .int (xs.length : Int)) fun H1 e Q q => ⟨x, xs.length, rfl, lenV_seq (hx.ex e), q H1 (Ex.refl H1)⟩) ev_c (rv_I0 (g := fun i j => .bl (decide (j < i))))
      · obtain ⟨a, rfl, hs⟩ := hx
        refine ev_all ?_
        rw [List.map_map]
        refine el_lcSeq (fun y => .bl (nameV y)) (ev_var rfl) hs (Nat.le_trans hl (by decide)) (fun _ => rfl) fun y H1 e hy => ?_
        exact ev_call (ea_cons (ev_var rfl) ea_nil) fun H2 e2 Q q E => ⟨y, rfl, (ha y hy).ex (e.trans e2), q⟩
      · rw [all_map, Bool.true_and]
        have e3 : decide ((0 : Int) < (xs.length : Int)) = decide (0 < xs.length) := decide_eq_decide.mpr (by omega)
        rw [e3]
        exact k H1 e
theorem ok_is_word (T : Tx K mg) : FnOk P w K mg base CX0 3 (ga K "is_word") (fdOf K ("is_word", none)) ["value"] (spSeq K wordF) := by
  refine T.f_is_word.ok sc_is_word (fun vs H Q E h => ?_) (fun cdv A outer s H vs Q E hr h => ?_)
  · obtain ⟨x, rfl, _⟩ := h
    rfl
  · refine ⟨_, PSs.nox (pss_one (ps_ret (pe_and (pe_call (ok_are_names T) (hr.mono (by decide)) (by rfl) T.g_are_names T.f_are_names.kp (b_are_names T) .nil pass0 (pa_cons (pv 0) pa_nil)) (pe_one (pe_cmpR op_le (pe_callB call_len (by rfl) T.n_len boot_len (pa_cons (pv 0) pa_nil)) (pe_glob (v := .int 6) (by rfl) T.g_MOST_IN_WORD.choose_spec ⟨_, rfl⟩) (nomark _)))))), ?_⟩
    -- slots: [(0, 'value')]
    obtain ⟨x, rfl, ⟨hn, k⟩ | ⟨xs, hx, hl, ha, k⟩⟩ := h
    · exact s_ret (v := .bl (false && true)) (ev_andV (ev_call (ea_cons (ev_var rfl) ea_nil) fun H1 e Q q E => ⟨x, rfl, .inl ⟨hn.ex e, q⟩⟩) fun z => nomatch z) fun H1 e => k H1 e
    · refine s_ret (v := .bl (namesF xs && decide ((xs.length : Int) ≤ 6))) (ev_andV (ev_call (ea_cons (ev_var rfl) ea_nil) fun H1 e Q q E => ⟨x, rfl, .inr ⟨xs, hx.ex e, hl, fun y hy => (ha y hy).ex e, q⟩⟩) fun _ => ?_) fun H1 e => ?_
      · refine ev_op (ev_cb (ea_cons (ev_var rfl) ea_nil) (z := .int (xs.length : Int)) fun H1 e Q q => ⟨x, xs.length, rfl, lenV_seq (hx.ex e), q H1 (Ex.refl H1)⟩) ev_c (rv_I0 (g := fun i j => .bl (decide (i ≤ j))))
      · have e3 : decide ((xs.length : Int) ≤ 6) = decide (xs.length ≤ 6) := decide_eq_decide.mpr (by omega)
        rw [e3]
        exact k H1 e
end
end K00
set_option Elab.async false
set_option linter.all false
set_option maxRecDepth 100000
set_option maxHeartbeats 4000000
set_option autoImplicit false
namespace PySem
open Sem (wp)
open AutoSeq1 (wpAny_loadPart')
theorem meets_enumerate_newT {v : Value} {o : Obj} {H : Heap → Prop} (B : Begins v o H) :
    Meets (Builtin.«enumerate.__new__» ⟨[.type "enumerate", v], []⟩) (fun _ R s => H s.heap ∧
      R (.ok (.ret (.ref (s.heap.push o).objs.size))) { s with heap := (s.heap.push o).push { cls := .type "enumerate", data := .fields #[.none, .bool false, .ref s.heap.objs.size, rawInt 0, .none, .none] } }) :=
  .of_wp fun prog w A R s h => by
    obtain ⟨hp, g, d, tk, os⟩ := s; obtain ⟨h1, h⟩ := h
    have hsub := sub_enumerate
    have q1 : ∀ {A' : Around} {E : Value → Shared → Prop} {Q : Value → Shared → Prop}, Q (.ref hp.objs.size) ⟨hp.push o, g, d, tk, os⟩ → wpAny (model prog w) A' (pyIter v) Q E ⟨hp, g, d, tk, os⟩ :=
      fun q => B.iter prog w _ _ ⟨hp, g, d, tk, os⟩ _ h1 q
    wp_walk using q1
    refine wpAny_stack_any fun st => wpAny_pure ?_
    split
    · rename_i c _ _ _ _ _
      cases (c == Value.type "enumerate")
      · wp_walk using q1
        exact ⟨_, rfl, h⟩
      · wp_walk using q1
        exact ⟨_, rfl, h⟩
    · wp_walk using q1
      exact ⟨_, rfl, h⟩
section
variable {prog : Program} {w : World} {A : Around} {E : Value → Shared → Prop} {s : Shared}
theorem enum_begins1 {v : Value} {o : Obj} {H : Heap → Prop} {Q : Value → Shared → Prop} (B : Begins v o H) (h1 : H s.heap)
    (h : ∀ h', IsEnum h' (s.heap.objs.size + 1) s.heap.objs.size 0 .none → h'.get? s.heap.objs.size = some o → h'.objs.size = s.heap.objs.size + 2 →
      (∀ b o, s.heap.get? b = some o → h'.get? b = some o) → Q (.ref (s.heap.objs.size + 1)) { s with heap := h' }) :
    wpAny (model prog w) A (call (.type "enumerate") [v]) Q E s := by
  refine callType_new F.called_enumerate (by decide) (F.typeCall_enumerate_1 _) (F.newCall_enumerate_1 _) (fun obj => F.args_object_init_2 obj _) F.entry_enumerate_new
    (meets_enumerate_newT B) ⟨h1, ?_⟩
  have hz : (s.heap.push o).objs.size = s.heap.objs.size + 1 := Heap.size_push ..
  show _ ∧ _
  rw [hz]
  have he : IsEnum ((s.heap.push o).push { cls := .type "enumerate", data := .fields #[.none, .bool false, .ref s.heap.objs.size, rawInt 0, .none, .none] }) (s.heap.objs.size + 1) s.heap.objs.size 0 .none := by
    have := Heap.get?_push_size (s.heap.push o) (o := { cls := .type "enumerate", data := .fields #[.none, .bool false, .ref s.heap.objs.size, rawInt 0, .none, .none] }) rfl
    rw [hz] at this; exact this
  refine ⟨⟨_, he, rfl⟩, h _ he (Heap.get?_push_of_some _ (Heap.get?_push_size _ B.free)) (by rw [Heap.size_push, hz]) fun b o x => Heap.get?_push_of_some _ (Heap.get?_push_of_some _ x)⟩
end
end PySem
namespace L2
open PySem PySem.Spec PyProof.Rows
/-- the tuple at a, the items in new pairs -/
def IteT (K : PySem.W.Frag) (a : Addr) : It :=
  ⟨fun i H => ∃ (xs : List V) (x : V), SqT K H a xs ∧ xs[i]? = some x, fun i H v H' => ∃ T x, v = .ref T ∧ H T = none ∧ H' = upd H T (.tup [.int (i : Nat), x]) ∧ ∀ xs, SqT K H a xs → xs[i]? = some x, fun i H => ∃ xs : List V, SqT K H a xs ∧ xs.length ≤ i⟩
theorem turn_enumT {P : Program} {w : World} {K : PySem.W.Frag} {elts : List Expr} {kk : Nat} {tpos : Pos} (a e it : Addr) (hai : a ≠ it) :
    Turn P w K (.Tuple elts kk tpos) (IteT K a) [e, it] e (fun i h => (∃ old, IsEnum h e it ((i : Nat) : Int) old) ∧ h.IsTupleIter it a i ∧ e ≠ it ∧ e ≠ a) where
  mem := by simp
  obj := fun i h st b hb => by
    obtain ⟨⟨old, he⟩, ⟨o, ho, hc, hd⟩, _⟩ := st
    have e' : b = e ∨ b = it := by simpa using hb
    rcases e' with z | z
    · rw [z]; exact ⟨_, he, fun v q => nomatch q⟩
    · rw [z]; exact ⟨o, ho, fun v q => by rw [hd] at q; cases q⟩
  keep := fun i h h' st k => let ⟨⟨old, he⟩, hi, hne⟩ := st; ⟨⟨old, k e (by simp) _ he⟩, hi.at fun o q => k it (by simp) o q, hne⟩
  item := by
    intro X hP hw hK hc i pins s σ H E I hf st hg
    subst hP hw hK
    obtain ⟨⟨old, he⟩, hit, hne, hea⟩ := st
    obtain ⟨xs, x, hq, hx⟩ := hg
    obtain ⟨its, rv, p, hz⟩ := I.tuple hq
    obtain ⟨u, hu, ru⟩ := rv.get hx
    have hel : e < s.heap.objs.size := Heap.lt_size he
    have hil : it < s.heap.objs.size := by obtain ⟨_, q, _⟩ := hit; exact Heap.lt_size q
    have hts : s.heap.IsTuple a its.toArray := p
    have hu' : its.toArray[i]? = some u := by simpa using hu
    have hlt : i < its.toArray.size := by
      rcases Nat.lt_or_ge i its.toArray.size with z | z
      · exact z
      · rw [Array.getElem?_eq_none z] at hu'; cases hu'
    refine wpAny_pyNext_enum_itemD (Draws.tuple (A := X.A.in1) (I.ok.hd hc) it a hai its.toArray) he ⟨hit, hts⟩ hlt hne (by simp [hne, hea]) fun v h' tk hv ho hst hT hsz hk => ?_
    obtain rfl : v = u := by rw [hu'] at hv; exact (Option.some.inj hv).symm
    obtain ⟨hit', _⟩ := hst
    refine ⟨_, rfl, wpAny_letOwnedTupleGo_enum (s := { s with heap := h', toks := tk + 1 }) ho fun h'' he' sb => ?_⟩
    have hT2 : h''.get? s.heap.objs.size = some { cls := .type "tuple", data := .seq #[.int i tk, v] } := (sb.2 _ (Nat.ne_of_gt hel)).trans hT
    have new : ObjOk X.prog X.w (upd H s.heap.objs.size (.tup [.int (i : Nat), x])) h'' s.heap.objs.size (.tup [.int (i : Nat), x]) :=
      ⟨by show 2 ≤ sizeLine; decide, [.int i tk, v], .cons ⟨_, rfl⟩ (.cons ru .nil), ⟨_, hT2, rfl, _, rfl⟩⟩
    have I1 : Inv X pins σ (upd H s.heap.objs.size (.tup [.int (i : Nat), x])) { s with heap := h'', toks := tk + 1 } :=
      I.turnedNew (ch := [e, it]) (fun b ob hb q => (sb.2 b (fun z => hb (by simp [z]))).trans (hk b ob (fun z => hb (by simp [z])) (fun z => hb (by simp [z])) q)) hf (Nat.le_refl _) new
    refine ⟨.ref s.heap.objs.size, _, I1, rfl, ⟨_, x, rfl, I.hok.fresh (Nat.le_refl _), rfl, fun ys hy => by rw [I.tuple_inj hy hq]; exact hx⟩, ⟨⟨v, ?_⟩, hit'.at fun o q => (sb.2 it (Ne.symm hne)).trans q, hne, hea⟩, fun b hb => ?_⟩
    · have e1 : ((i + 1 : Nat) : Int) = (i : Int) + 1 := by omega
      rw [e1]; exact he'
    · have hb' : b < s.heap.objs.size := by
        have e' : b = e ∨ b = it := by simpa using hb
        rcases e' with z | z
        · rw [z]; exact hel
        · rw [z]; exact hil
      rw [upd_ne (Nat.ne_of_lt hb')]
      exact (hf b hb).1
  done := by
    intro X hP hw hK hc i pins s σ H E I hf st hg
    subst hP hw hK
    obtain ⟨⟨old, he⟩, hit, hne, hea⟩ := st
    obtain ⟨xs, hq, hx⟩ := hg
    obtain ⟨its, rv, p, hz⟩ := I.tuple hq
    obtain ⟨f0, f1, f2, f3, f4, f5⟩ := hf it (by simp)
    have hl := rv.length
    have hT : s.TypeIs (.ref e) "enumerate" := ⟨_, he, rfl⟩
    unfold pyNext
    refine wpAny_bind (wpAny_attempt (wpAny_callSpecial?_slot (name := Str.ofString "__next__") hT F.slot_enumerate_next
      (wpAny_call_entry F.slot_enumerate_next hT F.entry_enumerate_next ?_ (F.args_enumerate_next_1 _))))
    show wpAny _ _ (field (.ref e) 2 >>= _) _ _ _
    refine wpAny_bind (wpAny_field he rfl (x := .ref it) rfl ?_)
    refine wpAny_bind (wpAny_nextOf_tuple_end (A := X.A.in1) (I.ok.hd hc) hit (show s.heap.IsTuple a its.toArray from p) (by simp; omega) fun h' x he' hx' => ?_)
    obtain ⟨o, ho, hc'⟩ := hx'
    refine wpAny_bind (wpAny_isInstance (T := "StopIteration") (b := true) ⟨o, ho, hc'⟩ isSubtype_stop ?_)
    exact wpAny_pure ⟨rfl, I.turned (t' := s.toks) (fun b o hb q => he' b o hb q) f0 f1 f3 f4 f5⟩
  self := fun A i s Q E st h => let ⟨⟨_, he⟩, _⟩ := st; wpAny_pyIter_enum he h
def iEnumT (K : PySem.W.Frag) (ta : TA) : TI := fun σ H R => ta σ H fun vs H1 => ∃ a xs, vs = [.ref a] ∧ SqT K H1 a xs ∧ R (IteT K a) H1
theorem pi_enumT {X : Cx} {e : Expr} {ta : TA} {p pos tpos : Pos} {elts : List Expr} {kk : Nat} (hg : Gl X "enumerate") (hm : X.mg "enumerate" = none) (ha : PA X [e] ta) (hs : starEach [e] X.env = [(false, eval e X.env)] := by rfl) :
    PI X (.Tuple elts kk tpos) (.Call (.Name "enumerate" p) [e] [] pos) (iEnumT X.K ta) := by
  refine ⟨fun pins s σ H R I h => ?_⟩
  refine Call_ (ld_blt I hg hm boot_enumerate (PyProof.Rows.callWith_type1 (thn (ha.run pos pins s σ H _ I h) fun us s1 ⟨vs, H1, I1, r1, q1⟩ => ?_) hs rfl))
  obtain ⟨a, xs, ex, hq, q⟩ := q1
  subst ex
  cases r1 with
  | cons r rr =>
    cases rr
    cases r
    obtain ⟨its, rv, p', hz⟩ := I1.tuple hq
    have hal : a < s1.heap.objs.size := by obtain ⟨_, q, _⟩ := p'; exact Heap.lt_size q
    refine enum_begins1 (begins_tuple a its.toArray) p' fun h' he hit hsz hk => wpAny_pyIter_enum he ?_
    have I2 : Inv X pins σ H1 { s1 with heap := h' } := I1.kept (t' := s1.toks) hk
    refine ⟨s1.heap.objs.size + 1, [s1.heap.objs.size + 1, s1.heap.objs.size], _, _, H1, rfl, I2, turn_enumT a (s1.heap.objs.size + 1) s1.heap.objs.size (Nat.ne_of_lt hal), ⟨⟨.none, he⟩, ⟨_, hit, rfl, rfl⟩, Nat.succ_ne_self _, Nat.ne_of_gt (Nat.lt_succ_of_lt hal)⟩, fun b hb => ?_, q⟩
    have e' : b = s1.heap.objs.size + 1 ∨ b = s1.heap.objs.size := by simpa using hb
    have hle : s1.heap.objs.size ≤ b := by
      rcases e' with z | z
      · rw [z]; exact Nat.le_add_right _ _
      · rw [z]; exact Nat.le_refl _
    exact I1.fpOk hle (I1.hok.fresh hle)
end L2
set_option Elab.async false
set_option linter.all false
set_option maxRecDepth 100000
set_option maxHeartbeats 4000000
set_option autoImplicit false
namespace L2
open PySem PySem.Spec PyProof.Rows
theorem walk_enumT {K : PySem.W.Frag} {a : Addr} {xs : List V} : Walk (IteT K a) xs.length (fun H => SqT K H a xs) (YPair (fun i => some (.int (i : Nat))) (fun i => xs[i]?)) := by
  refine ⟨fun i _ hi q => ⟨xs, xs[i], q, by simp [hi]⟩, fun _ q => ⟨xs, q, Nat.le_refl _⟩, fun i H v H' _ q y => ?_⟩
  obtain ⟨T, x, h1, h2, h3, h4⟩ := y
  exact ⟨T, .int (i : Nat), x, h1, h2, h3, rfl, h4 xs q⟩
end L2
namespace K00
open PySem PySem.Spec PyProof.Rows L2 He Evl
def inB {α : Type} [DecidableEq α] (x : α) (xs : List α) : Bool := decide (x ∈ xs)
theorem inB_take {α : Type} [DecidableEq α] {xs : List α} {i : Nat} {x : α} (h : xs[i]? = some x) (q : α) : inB q (xs.take (i + 1)) = (inB q (xs.take i) || decide (q = x)) := by
  unfold inB
  rw [List.take_succ, h]
  by_cases hq1 : q ∈ xs.take i <;> by_cases hq2 : q = x <;> simp [hq1, hq2]
def repAt {α : Type} [DecidableEq α] (xs : List α) (i : Nat) : Bool :=
  match xs[i]? with
  | some x => inB x (xs.take i)
  | none => false
def againN {α : Type} [DecidableEq α] (xs : List α) : Option Nat := (List.range xs.length).find? (repAt xs)
def againV (ks : List Key) : V :=
  match againN ks with
  | some i => .int (i : Nat)
  | none => .non
def firstV (ks : List Key) : V :=
  match againN ks with
  | some i => ((ks[i]?).map kV).getD .non
  | none => .non
theorem find_range {p : Nat → Bool} {n i : Nat} (hi : i < n) (h : p i = true) (h0 : ∀ j, j < i → p j = false) : (List.range n).find? p = some i := by
  rw [List.find?_range_eq_some]
  exact ⟨h, by simpa using hi, fun j hj => by rw [h0 j hj]; rfl⟩
theorem find_none {p : Nat → Bool} {n : Nat} (h0 : ∀ j, j < n → p j = false) : (List.range n).find? p = none := by
  rw [List.find?_eq_none]
  intro j hj
  rw [h0 j (List.mem_range.mp hj)]
  decide
def spAgain (K : PySem.W.Frag) : Sp := fun vs H Q _ => ∃ (x : V) (ks : List Key), vs = [x] ∧ SeqV K H x (ks.map kV) ∧ ks.length ≤ 1000 ∧ RetV (againV ks) H Q
def spFirst (K : PySem.W.Frag) : Sp := fun vs H Q _ => ∃ (x : V) (ks : List Key), vs = [x] ∧ SeqV K H x (ks.map kV) ∧ ks.length ≤ 1000 ∧ RetV (firstV ks) H Q
section
variable {P : Program} {w : World} {K : PySem.W.Frag} {mg : Str → Option Value} {base : Heap}
theorem b_again_at (T : Tx K mg) : Binds K (fdOf K ("again_at", none)) ["values"] [] := T.f_again_at.bindsN fun _ _ _ _ _ _ us hl => match us, hl with | [_], _ => rfl
theorem b_first_twice (T : Tx K mg) : Binds K (fdOf K ("first_twice", none)) ["values"] [] := T.f_first_twice.bindsN fun _ _ _ _ _ _ us hl => match us, hl with | [_], _ => rfl
theorem ok_again_at (T : Tx K mg) : FnOk P w K mg base CX0 1 (ga K "again_at") (fdOf K ("again_at", none)) ["values"] (spAgain K) := by
  refine T.f_again_at.ok sc_again_at (fun vs H Q E h => ?_) (fun cdv A outer s H vs Q E hr h => ?_)
  · obtain ⟨x, ks, rfl, _⟩ := h
    rfl
  · refine ⟨_, PSs.nox (pss_cons (ps_set (i := 1) sc_again_at.nd rfl (.inl rfl) (pe_callTy0 cr_set0K (by rfl) T.n_set (by decide +kernel)))
      (pss_cons (ps_for PassesOwn.never rfl (PI.or (pi_enum (by rfl) T.n_enumerate (pa_cons (pv 0) pa_nil)) (pi_enumT (by rfl) T.n_enumerate (pa_cons (pv 0) pa_nil))) (pg_tup rfl (pgs_cons (pg_name (i := 2) sc_again_at.nd rfl (.inl rfl)) (pgs_cons (pg_name (i := 3) sc_again_at.nd rfl (.inl rfl)) pgs_nil)))
        (pss_cons (ps_if (pt_cmpR or_sinK (pv 3) (pv 1) (by rfl))
          (pss_one (ps_ret (pv 2)))
          pss_nil)
        (pss_one (ps_expr (pe_saddK (pv 1) (pa_cons (pv 3) pa_nil))))))
      (pss_one (ps_ret pe_non)))), ?_⟩
    -- slots: [(0, 'values'), (1, 'seen'), (2, 'at'), (3, 'value')]
    obtain ⟨x, ks, rfl, hx, hl, k⟩ := h
    obtain ⟨a, rfl, hx⟩ := hx
    have hlen : (ks.map kV).length = ks.length := List.length_map ..
    refine ⟨rfl, fun p hp => ?_⟩
    rcases hx with hq | hq
    · have eq : SqL K (upd H p (SetK P w p (fun _ => false) 0)) a (ks.map kV) := ex_l (Ex.new hp) hq
      refine .inl ⟨_, rfl, a, _, rfl, eq, ?_⟩
      refine for_it (walk_enum (K := K) (xs := ks.map kV)) (fun i σ' H' => ∃ (u v : Option V) (n : Nat) (S : Key → Bool), σ' = [some (.ref a), some (.ref p), u, v] ∧ H' p = some (SetK P w p S n) ∧ n ≤ i ∧ (∀ q : Key, S q = inB q (ks.take i)) ∧ Ex H H' ∧ ∀ j, j < i → repAt ks j = false) ?_ ?_ ?_ ?_
      · exact ⟨none, none, 0, _, rfl, upd_same, Nat.le_refl _, fun q => by simp [inB], Ex.new hp, fun j hj => absurd hj (Nat.not_lt_zero j)⟩
      · rintro i σ' H' _ ⟨u, v, n, S, rfl, h1, h2, h3, h4, h5⟩
        exact ex_l h4 hq
      · rintro i y σ' H' H'' hi ⟨u, v, n, S, rfl, h1, h2, h3, h4, h5⟩ ⟨T, y1, y2, rfl, hT, rfl, hy1, hy2⟩
        obtain rfl : V.int (i : Nat) = y1 := Option.some.inj hy1
        rw [hlen] at hi
        have hki : ks[i]? = some ks[i] := List.getElem?_eq_getElem hi
        obtain rfl : kV ks[i] = y2 := by
          have hy3 : (ks.map kV)[i]? = some y2 := hy2
          rw [List.getElem?_map, hki] at hy3
          exact Option.some.inj hy3
        have e1 : Ex H' (upd H' T (.tup [.int (i : Nat), kV ks[i]])) := Ex.new hT
        refine ⟨T, _, rfl, SqT.of upd_same, rfl, _, _, rfl, _, _, rfl, rfl, ?_⟩
        refine ⟨_, rfl, _, rfl, ⟨ks[i], p, S, n, rfl, rfl, e1 _ _ h1, _, rfl, ?_⟩⟩
        refine ite2 (fun hb => ?_) (fun hb => ?_)
        · refine ⟨_, rfl, ?_⟩
          have hr : repAt ks i = true := by
            unfold repAt
            rw [hki]
            show inB ks[i] (ks.take i) = true
            rw [← h3]
            exact hb
          have : againV ks = .int (i : Nat) := by
            unfold againV againN
            rw [find_range hi hr h5]
          have q := k _ (h4.trans e1)
          rw [this] at q
          exact q
        · refine ⟨_, rfl, ⟨p, S, n, rfl, e1 _ _ h1⟩, _, rfl, p, ks[i], S, n, rfl, rfl, e1 _ _ h1, ?_, ?_⟩
          · have : (1002 : Nat) < scanBound := by decide
            omega
          · have hS : S ks[i] = false := by
              cases hh : S ks[i] with
              | true => exact absurd hh hb
              | false => rfl
            refine ⟨_, _, n + 1, fun j => S j || decide (j = ks[i]), rfl, ?_, by omega, ?_, Ex.mut (h4.trans e1) hp, ?_⟩
            · rw [upd_same, if_neg (by rw [hS]; decide)]
              rfl
            · intro q
              show (S q || decide (q = ks[i])) = _
              rw [h3 q, inB_take hki]
            · intro j hj
              rcases Nat.lt_succ_iff_lt_or_eq.mp hj with z | z
              · exact h5 j z
              · subst z
                unfold repAt
                rw [hki]
                show inB ks[j] (ks.take j) = false
                rw [← h3]
                exact hS
      · rintro σ' H' ⟨u, v, n, S, rfl, h1, h2, h3, h4, h5⟩
        have : againV ks = .non := by
          unfold againV againN
          rw [find_none (by rw [hlen] at h5; exact h5)]
        show Q .non H'
        rw [← this]
        exact k _ h4
    · have eq : SqT K (upd H p (SetK P w p (fun _ => false) 0)) a (ks.map kV) := ex_t (Ex.new hp) hq
      refine .inr ⟨_, rfl, a, _, rfl, eq, ?_⟩
      refine for_it (walk_enumT (K := K) (xs := ks.map kV)) (fun i σ' H' => ∃ (u v : Option V) (n : Nat) (S : Key → Bool), σ' = [some (.ref a), some (.ref p), u, v] ∧ H' p = some (SetK P w p S n) ∧ n ≤ i ∧ (∀ q : Key, S q = inB q (ks.take i)) ∧ Ex H H' ∧ ∀ j, j < i → repAt ks j = false) ?_ ?_ ?_ ?_
      · exact ⟨none, none, 0, _, rfl, upd_same, Nat.le_refl _, fun q => by simp [inB], Ex.new hp, fun j hj => absurd hj (Nat.not_lt_zero j)⟩
      · rintro i σ' H' _ ⟨u, v, n, S, rfl, h1, h2, h3, h4, h5⟩
        exact ex_t h4 hq
      · rintro i y σ' H' H'' hi ⟨u, v, n, S, rfl, h1, h2, h3, h4, h5⟩ ⟨T, y1, y2, rfl, hT, rfl, hy1, hy2⟩
        obtain rfl : V.int (i : Nat) = y1 := Option.some.inj hy1
        rw [hlen] at hi
        have hki : ks[i]? = some ks[i] := List.getElem?_eq_getElem hi
        obtain rfl : kV ks[i] = y2 := by
          have hy3 : (ks.map kV)[i]? = some y2 := hy2
          rw [List.getElem?_map, hki] at hy3
          exact Option.some.inj hy3
        have e1 : Ex H' (upd H' T (.tup [.int (i : Nat), kV ks[i]])) := Ex.new hT
        refine ⟨T, _, rfl, SqT.of upd_same, rfl, _, _, rfl, _, _, rfl, rfl, ?_⟩
        refine ⟨_, rfl, _, rfl, ⟨ks[i], p, S, n, rfl, rfl, e1 _ _ h1, _, rfl, ?_⟩⟩
        refine ite2 (fun hb => ?_) (fun hb => ?_)
        · refine ⟨_, rfl, ?_⟩
          have hr : repAt ks i = true := by
            unfold repAt
            rw [hki]
            show inB ks[i] (ks.take i) = true
            rw [← h3]
            exact hb
          have : againV ks = .int (i : Nat) := by
            unfold againV againN
            rw [find_range hi hr h5]
          have q := k _ (h4.trans e1)
          rw [this] at q
          exact q
        · refine ⟨_, rfl, ⟨p, S, n, rfl, e1 _ _ h1⟩, _, rfl, p, ks[i], S, n, rfl, rfl, e1 _ _ h1, ?_, ?_⟩
          · have : (1002 : Nat) < scanBound := by decide
            omega
          · have hS : S ks[i] = false := by
              cases hh : S ks[i] with
              | true => exact absurd hh hb
              | false => rfl
            refine ⟨_, _, n + 1, fun j => S j || decide (j = ks[i]), rfl, ?_, by omega, ?_, Ex.mut (h4.trans e1) hp, ?_⟩
            · rw [upd_same, if_neg (by rw [hS]; decide)]
              rfl
            · intro q
              show (S q || decide (q = ks[i])) = _
              rw [h3 q, inB_take hki]
            · intro j hj
              rcases Nat.lt_succ_iff_lt_or_eq.mp hj with z | z
              · exact h5 j z
              · subst z
                unfold repAt
                rw [hki]
                show inB ks[j] (ks.take j) = false
                rw [← h3]
                exact hS
      · rintro σ' H' ⟨u, v, n, S, rfl, h1, h2, h3, h4, h5⟩
        have : againV ks = .non := by
          unfold againV againN
          rw [find_none (by rw [hlen] at h5; exact h5)]
        show Q .non H'
        rw [← this]
        exact k _ h4
theorem ok_first_twice (T : Tx K mg) : FnOk P w K mg base CX0 2 (ga K "first_twice") (fdOf K ("first_twice", none)) ["values"] (spFirst K) := by
  refine T.f_first_twice.ok sc_first_twice (fun vs H Q E h => ?_) (fun cdv A outer s H vs Q E hr h => ?_)
  · obtain ⟨x, ks, rfl, _⟩ := h
    rfl
  · refine ⟨_, PSs.nox (pss_cons (ps_set (i := 1) sc_first_twice.nd rfl (.inl rfl) (pe_call (ok_again_at T) (hr.mono (by decide)) (by rfl) T.g_again_at T.f_again_at.kp (b_again_at T) .nil pass0 (pa_cons (pv 0) pa_nil)))
      (pss_one (ps_ret (pe_ifExp (pt_cmpR op_isN (pv 1) pe_non (nomark _)) pe_non (pe_ix ix_seq (pv 0) (pv 1) (fun _ _ => rfl)))))), ?_⟩
    -- slots: [(0, 'values'), (1, 'at')]
    obtain ⟨x, ks, rfl, hx, hl, k⟩ := h
    refine ⟨_, rfl, x, ks, rfl, hx, hl, fun H1 e => ?_⟩
    have k1 := k _ e
    cases hag : againN ks with
    | none =>
      have e1 : againV ks = .non := by
        unfold againV
        rw [hag]
      have e2 : firstV ks = .non := by
        unfold firstV
        rw [hag]
      rw [e2] at k1
      rw [e1]
      exact ⟨_, rfl, rfl, _, rfl, k1⟩
    | some i =>
      have e1 : againV ks = .int (i : Nat) := by
        unfold againV
        rw [hag]
      have hi : i < ks.length := by
        have := List.mem_of_find?_eq_some hag
        exact List.mem_range.mp this
      have hki : ks[i]? = some ks[i] := List.getElem?_eq_getElem hi
      have e2 : firstV ks = kV ks[i] := by
        unfold firstV
        rw [hag]
        show ((ks[i]?).map kV).getD .non = _
        rw [hki]
        rfl
      have hat : atI (ks.map kV) (i : Nat) = some (kV ks[i]) := by
        refine at_of rfl ?_
        rw [List.getElem?_map, hki]
        rfl
      rw [e2] at k1
      rw [e1]
      obtain ⟨a, rfl, hq | hq⟩ := hx
      · exact ⟨_, rfl, rfl, _, rfl, _, rfl, _, rfl, .inl ⟨a, _, _, _, rfl, rfl, ex_l e hq, hat, k1⟩⟩
      · exact ⟨_, rfl, rfl, _, rfl, _, rfl, _, rfl, .inr (.inl ⟨a, _, _, _, rfl, rfl, ex_t e hq, hat, k1⟩)⟩
end
end K00
set_option Elab.async false
set_option linter.all false
set_option maxRecDepth 100000
set_option maxHeartbeats 4000000
set_option autoImplicit false
/-! The program's own exceptions: their `__init__`s by spInitX, lists of them. -/
namespace He
open PySem PySem.Spec PyProof.Rows L2
def swap2 {α : Type} : List α → List α
  | [a, b] => [b, a]
  | l => l
theorem vals_swap2 {vs : List V} {us : List Value} (r : Vals vs us) : Vals (swap2 vs) (swap2 us) := by
  cases r with
  | nil => exact .nil
  | cons a r =>
    cases r with
    | nil => exact .cons a .nil
    | cons c r =>
      cases r with
      | nil => exact .cons c (.cons a .nil)
      | cons e f => exact .cons a (.cons c (.cons e f))
open PySem PySem.Spec PyProof.Rows L2 Evl
section
variable {K : PySem.W.Frag} {C : Addr} {f1 f2 : Str} {vs : List V} {H : Hp} {Q : VK} {E : XK}
theorem spInit_len {fs : List Str} (h : spInitX C fs vs H Q E) : vs.length = (("self" : Str) :: fs).length := by
  obtain ⟨a, ws, rfl, hl, _⟩ := h
  show ws.length + 1 = fs.length + 1
  rw [hl]
theorem init1 {N : List Str} (hN : N.length = 2) (T : XCl K C) (h1 : PySem.W.findIn K (.ref C) f1 = some none) (h : spInitX C [f1] vs H Q E) :
    tSeq (tOst K f1 (tVar 0) (tVar 1)) tNext { nx := fun _ H' => Q .non H', rt := Q } (start N vs) H := by
  obtain ⟨a, ws, rfl, hl, ha, k⟩ := h
  match N, hN, ws, hl with
  | [_, _], _, [w], _ =>
    refine ⟨w, rfl, .ref a, rfl, a, C, rfl, T.oex, h1, .inl ⟨ha, fun dx hd hne => k dx _ hd hne upd_same ?_ fun b o hb hne' => ?_⟩⟩
    · rw [upd_ne hne, upd_same]
      rfl
    · rw [upd_ne hne', upd_ne (ne_of_none hb hd)]
      exact hb
theorem init1o {N : List Str} (hN : N.length = 2) (T : XCl K C) (h1 : PySem.W.findIn K (.ref C) f1 = some none) (h : spInitX C [f1] vs H Q E) :
    tOst K f1 (tVar 0) (tVar 1) { nx := fun _ H' => Q .non H', rt := Q } (start N vs) H := init1 hN T h1 h
theorem init2 {N : List Str} (hN : N.length = 3) (T : XCl K C) (h1 : PySem.W.findIn K (.ref C) f1 = some none) (h2 : PySem.W.findIn K (.ref C) f2 = some none) (h : spInitX C [f1, f2] vs H Q E) :
    tSeq (tOst K f1 (tVar 0) (tVar 1)) (tOst K f2 (tVar 0) (tVar 2)) { nx := fun _ H' => Q .non H', rt := Q } (start N vs) H := by
  obtain ⟨a, ws, rfl, hl, ha, k⟩ := h
  match N, hN, ws, hl with
  | [_, _, _], _, [w, w2], _ =>
    refine ⟨w, rfl, .ref a, rfl, a, C, rfl, T.oex, h1, .inl ⟨ha, fun dx hd hne => ?_⟩⟩
    have e1 : (upd (upd H dx (exd dx [(f1, w)])) a (exo a C (some dx))) dx = some (exd dx [(f1, w)]) := by
      rw [upd_ne hne]
      exact upd_same
    refine ⟨w2, rfl, .ref a, rfl, a, C, rfl, T.oex, h2, .inr ⟨dx, _, upd_same, e1, by show 1 ≤ 900; decide, ?_⟩⟩
    refine k dx _ hd hne ?_ upd_same fun b o hb hne' => ?_
    · rw [upd_ne (Ne.symm hne)]
      exact upd_same
    · rw [upd_ne (ne_of_none hb hd), upd_ne hne', upd_ne (ne_of_none hb hd)]
      exact hb
end
/-! ### what makes an exception -/
section
variable {K : PySem.W.Frag} {σ : L2.St} {H H' : Hp} {te : TE} {t : TA} {C : Addr} {fs : List Str} {vs : List V}
def EvX (te : TE) (σ : L2.St) (H : Hp) (C : Addr) (fs : List (Str × V)) : Prop := ∀ H1, Ex H H1 → ∀ Q : VK, (∀ a H2, Ex H1 H2 → XAt H2 a C fs → Q (.ref a) H2) → te σ H1 Q
theorem evx_mk (h : EvA t σ H vs) (hl : vs.length = fs.length) : EvX (tXmk C fs t) σ H C (fs.zip vs).reverse := fun H1 e Q q =>
  h H1 e _ fun H2 e2 => ⟨hl, fun a H3 _ e3 x => q a H3 (e2.trans e3) x⟩
/-- C(k = v, ..) -/
def tXmkK (C : Addr) (fs ks : List Str) (gV : List V → List V) (tk : TA) : TE := fun σ H Q => tk σ H fun zs H1 => zs.length = ks.length ∧ (gV zs).length = fs.length ∧ ∀ a H2, H1 a = none → Ex H1 H2 → XAt H2 a C (fs.zip (gV zs)).reverse → Q (.ref a) H2
theorem evx_mkK {ks : List Str} {gV : List V → List V} (h : EvA t σ H vs) (hk : vs.length = ks.length) (hl : (gV vs).length = fs.length) : EvX (tXmkK C fs ks gV t) σ H C (fs.zip (gV vs)).reverse := fun H1 e Q q =>
  h H1 e _ fun H2 e2 => ⟨hk, hl, fun a H3 _ e3 x => q a H3 (e2.trans e3) x⟩
/-- exceptions one behind another: each of its class with its fields -/
def XsAt (K : PySem.W.Frag) (H : Hp) (as : List Addr) (tbl : List (Str × List (Str × V))) : Prop := Paired (fun a e => XAt H a (ga K e.1) e.2) as tbl
theorem XsAt.ex {as : List Addr} {tbl : List (Str × List (Str × V))} (h : XsAt K H as tbl) (e : Ex H H') : XsAt K H' as tbl := by
  induction h with
  | nil => exact .nil
  | cons a b ih => exact .cons (a.ex e) ih
def EvXs (K : PySem.W.Frag) (ta : TA) (σ : L2.St) (H : Hp) (tbl : List (Str × List (Str × V))) : Prop := ∀ H1, Ex H H1 → ∀ Q : List V → Hp → Prop, (∀ as H2, Ex H1 H2 → XsAt K H2 as tbl → Q (as.map V.ref) H2) → ta σ H1 Q
theorem exs_nil : EvXs K tNil σ H [] := fun H1 _ _ q => q [] H1 (Ex.refl H1) .nil
theorem exs_cons {x : Str} {fs : List (Str × V)} {ta : TA} {tbl : List (Str × List (Str × V))} (h : EvX te σ H (ga K x) fs) (hr : EvXs K ta σ H tbl) : EvXs K (tCons te ta) σ H ((x, fs) :: tbl) := fun H1 e Q q =>
  h H1 e _ fun a H2 e2 x => hr H2 (e.trans e2) _ fun as H3 e3 xs => q (a :: as) H3 (e2.trans e3) (.cons (x.ex e3) xs)
/-- a new list of exceptions -/
def EvXl (K : PySem.W.Frag) (te : TE) (σ : L2.St) (H : Hp) (tbl : List (Str × List (Str × V))) : Prop := ∀ H1, Ex H H1 → ∀ Q : VK, (∀ p as H2, Ex H1 H2 → H2 p = some (.lst (as.map V.ref)) → XsAt K H2 as tbl → Q (.ref p) H2) → te σ H1 Q
theorem paired_append {α β : Type} {R : α → β → Prop} {xs xs' : List α} {ys ys' : List β} (h : Paired R xs ys) (h' : Paired R xs' ys') : Paired R (xs ++ xs') (ys ++ ys') := by
  induction h with
  | nil => exact h'
  | cons a b ih => exact .cons a ih
theorem exl_lst {ta : TA} {tbl : List (Str × List (Str × V))} (h : EvXs K ta σ H tbl) (hl : tbl.length ≤ 1000) : EvXl K (tLst ta) σ H tbl := fun H1 e Q q =>
  h H1 e _ fun as H2 e2 xs => ⟨sz_of (by rw [List.length_map, xs.length]; omega), fun p hp => q p as _ (e2.trans (Ex.new hp)) upd_same (xs.ex (Ex.new hp))⟩
/-- xs + [..], xs a list of exceptions in a slot -/
theorem exl_cat {i : Nat} {p : Addr} {as : List Addr} {ta : TA} {t1 t2 : List (Str × List (Str × V))} (hv : σ[i]? = some (some (.ref p))) (hp : H p = some (.lst (as.map V.ref))) (hx : XsAt K H as t1) (h : EvXs K ta σ H t2) (h1 : t1.length ≤ 1000) (h2 : t2.length ≤ 1000) :
    EvXl K (tOp rCat (tVar i) (tLst ta)) σ H (t1 ++ t2) := fun H1 e Q q =>
  ⟨_, hv, exl_lst h h2 H1 e _ fun b bs H2 e2 hb xs => ⟨p, b, _, _, rfl, rfl, e2 _ _ (e _ _ hp), hb, sz_of (by rw [List.length_map, List.length_map, xs.length, hx.length]; omega), fun r hr => by
    have e3 : Ex H2 (upd H2 r (.lst (as.map V.ref ++ bs.map V.ref))) := Ex.new hr
    refine q r (as ++ bs) _ (e2.trans e3) ?_ (paired_append (hx.ex ((e.trans e2).trans e3)) (xs.ex e3))
    rw [List.map_append]
    exact upd_same⟩⟩
variable {D : Ends} {tz : TS}
theorem q_asgX {i : Nat} {tbl : List (Str × List (Str × V))} (h : EvXl K te σ H tbl) (k : ∀ p as H1, Ex H H1 → H1 p = some (.lst (as.map V.ref)) → XsAt K H1 as tbl → tz D (σ.set i (some (.ref p))) H1) : tSeq (tAsg te (gName i)) tz D σ H :=
  h H (Ex.refl H) _ fun p as H1 e hp hx => k p as H1 e hp hx
end
end He
set_option Elab.async false
set_option linter.all false
set_option maxRecDepth 100000
set_option maxHeartbeats 4000000
set_option autoImplicit false
namespace K00
open PySem PySem.Spec PyProof.Rows L2 He Evl
section
variable {P : Program} {w : World} {K : PySem.W.Frag} {mg : Str → Option Value} {base : Heap} {X : Cx} {m : Nat} {e : Expr} {es : List Expr} {kws : List Keyword} {t : TA} {p pos : Pos}
theorem isFn_type {v : Value} (h : PySem.W.isFn K v = true) : PySem.W.typeIn K v = some (.type "function") := by
  unfold PySem.W.isFn at h
  exact eq_of_beq h
theorem mem_SignError : (("SignError", [], []) : Str × List Str × List Str) ∈ excs := List.mem_of_getElem? (i := 0) rfl
theorem xc_SignError (T : Tx K mg) : XCl K (ga K "SignError") := (excsB_cl T.xs mem_SignError).1
theorem x0_SignError (T : Tx X.K X.mg) (hr : Room m X.A) (hg : Gl X "SignError" := by rfl) : PE X (.Call (.Name "SignError" p) [] [] pos) (fun _ H Q => ∀ a, H a = none → Q (.ref a) (upd H a (exo a (ga X.K "SignError") none))) :=
  pe_xmk0 F.excBase_ValueError (exc_ok T.e_SignError).1 (xc_SignError T).oex.kC hg T.g_SignError
theorem mem_BadSide : (("BadSide", ["SignError"], ["part"]) : Str × List Str × List Str) ∈ excs := List.mem_of_getElem? (i := 1) rfl
theorem xc_BadSide (T : Tx K mg) : XCl K (ga K "BadSide") := (excsB_cl T.xs mem_BadSide).1
theorem nf_BadSide_part (T : Tx K mg) : PySem.W.findIn K (.ref (ga K "BadSide")) "part" = some none := (excsB_cl T.xs mem_BadSide).2.1 "part" (by simp)
theorem b_BadSide_init (T : Tx K mg) : Binds K (fdOf K ("BadSide", some "__init__")) ["self", "part"] [] := T.f_BadSide_init.bindsN fun _ _ _ _ _ _ us hl => match us, hl with | [_, _], _ => rfl
theorem ok_BadSide_init (T : Tx K mg) : FnOk P w K mg base CX0 1 (ma K (ga K "BadSide") "__init__") (fdOf K ("BadSide", some "__init__")) ["self", "part"] (spInitX (ga K "BadSide") ["part"]) := by
  refine T.f_BadSide_init.ok sc_BadSide_init (fun vs H Q E h => spInit_len h) (fun cdv A outer s H vs Q E hr h => ?_)
  exact ⟨_, PSs.nox (pss_one (ps_ost (pv 0) (pv 1))), init1o rfl (xc_BadSide T) (nf_BadSide_part T) h⟩
theorem xi_BadSide (T : Tx K mg) : XIn K (ga K "BadSide") (ma K (ga K "BadSide") "__init__") ["part"] := ⟨xc_BadSide T, T.m_BadSide.at_, isFn_type T.m_BadSide.fn, (excsB_cl T.xs mem_BadSide).2.1⟩
theorem xm_BadSide (T : Tx X.K X.mg) (hr : Room m X.A) (ha : PA X (e :: es) t) (hm : 2 ≤ m := by decide) (hg : Gl X "BadSide" := by rfl) (he : starEach (e :: es) X.env = (false, eval e X.env) :: starEach es X.env := by rfl) (hpl : (backTo pos (starEach es X.env)).any (·.1) = false := by rfl) :
    PE X (.Call (.Name "BadSide" p) (e :: es) [] pos) (tXmk (ga X.K "BadSide") ["part"] t) := pe_xmk (sc := default) (qual := "") (pa := default) (bd := []) (xi_BadSide T) (ok_BadSide_init T) (b_BadSide_init T) (by decide) (hr.mono hm) hg T.g_BadSide ha (by decide) he hpl
theorem kx_BadSide_part (T : Tx K mg) {s' : Shared} {a : Value} {ws : List Value} (hK : K.In s'.heap) (hl : ws.length = 1) : BindsTo s' (fdOf K ("BadSide", some "__init__")) ⟨[a], (["part"] : List Str).zip ws⟩ ((["self", "part"] : List Str).zip (a :: (id : List Value → List Value) ws)) := by
  have kb : KBn K (fdOf K ("BadSide", some "__init__")) ["self", "part"] 1 ["part"] (fun us ws => us ++ (id : List Value → List Value) ws) (fun us ws => us ++ (id : List V → List V) ws) := T.f_BadSide_init.kbindsP 1 ["part"] (fun us ws => us ++ id ws) (fun r1 r2 => r1.append r2) fun _ _ _ _ _ _ us ws l1 l2 => match us, ws, l1, l2 with | [_], [_], _, _ => rfl
  exact kb.to s' [a] ws hK rfl hl
theorem xk_BadSide_part (T : Tx X.K X.mg) (hr : Room m X.A) (hkw : PK X kws t) (hm : 2 ≤ m := by decide) (hg : Gl X "BadSide" := by rfl) (hall : (backToKw pos (keywordEach kws X.env)).all (·.1.isSome) = true := by rfl) (hks : (backToKw pos (keywordEach kws X.env)).filterMap (·.1) = ([("part" : Str)] : List Str) := by rfl) (hpl : ((backTo pos (starEach [] X.env)).any (·.1) || (backToKw pos (keywordEach kws X.env)).any (·.1.isNone)) = false := by rfl) :
    PE X (.Call (.Name "BadSide" p) [] kws pos) (tXmkK (ga X.K "BadSide") ["part"] ["part"] id t) := pe_xmkK (xi_BadSide T) (ok_BadSide_init T) (fun _ _ _ hl hK => kx_BadSide_part T hK hl) (fun r => r) (hr.mono hm) hg T.g_BadSide hkw hall hks (by decide) hpl
theorem mem_BadSaying : (("BadSaying", ["SignError"], ["part"]) : Str × List Str × List Str) ∈ excs := List.mem_of_getElem? (i := 2) rfl
theorem xc_BadSaying (T : Tx K mg) : XCl K (ga K "BadSaying") := (excsB_cl T.xs mem_BadSaying).1
theorem nf_BadSaying_part (T : Tx K mg) : PySem.W.findIn K (.ref (ga K "BadSaying")) "part" = some none := (excsB_cl T.xs mem_BadSaying).2.1 "part" (by simp)
theorem b_BadSaying_init (T : Tx K mg) : Binds K (fdOf K ("BadSaying", some "__init__")) ["self", "part"] [] := T.f_BadSaying_init.bindsN fun _ _ _ _ _ _ us hl => match us, hl with | [_, _], _ => rfl
theorem ok_BadSaying_init (T : Tx K mg) : FnOk P w K mg base CX0 1 (ma K (ga K "BadSaying") "__init__") (fdOf K ("BadSaying", some "__init__")) ["self", "part"] (spInitX (ga K "BadSaying") ["part"]) := by
  refine T.f_BadSaying_init.ok sc_BadSaying_init (fun vs H Q E h => spInit_len h) (fun cdv A outer s H vs Q E hr h => ?_)
  exact ⟨_, PSs.nox (pss_one (ps_ost (pv 0) (pv 1))), init1o rfl (xc_BadSaying T) (nf_BadSaying_part T) h⟩
theorem xi_BadSaying (T : Tx K mg) : XIn K (ga K "BadSaying") (ma K (ga K "BadSaying") "__init__") ["part"] := ⟨xc_BadSaying T, T.m_BadSaying.at_, isFn_type T.m_BadSaying.fn, (excsB_cl T.xs mem_BadSaying).2.1⟩
theorem xm_BadSaying (T : Tx X.K X.mg) (hr : Room m X.A) (ha : PA X (e :: es) t) (hm : 2 ≤ m := by decide) (hg : Gl X "BadSaying" := by rfl) (he : starEach (e :: es) X.env = (false, eval e X.env) :: starEach es X.env := by rfl) (hpl : (backTo pos (starEach es X.env)).any (·.1) = false := by rfl) :
    PE X (.Call (.Name "BadSaying" p) (e :: es) [] pos) (tXmk (ga X.K "BadSaying") ["part"] t) := pe_xmk (sc := default) (qual := "") (pa := default) (bd := []) (xi_BadSaying T) (ok_BadSaying_init T) (b_BadSaying_init T) (by decide) (hr.mono hm) hg T.g_BadSaying ha (by decide) he hpl
theorem kx_BadSaying_part (T : Tx K mg) {s' : Shared} {a : Value} {ws : List Value} (hK : K.In s'.heap) (hl : ws.length = 1) : BindsTo s' (fdOf K ("BadSaying", some "__init__")) ⟨[a], (["part"] : List Str).zip ws⟩ ((["self", "part"] : List Str).zip (a :: (id : List Value → List Value) ws)) := by
  have kb : KBn K (fdOf K ("BadSaying", some "__init__")) ["self", "part"] 1 ["part"] (fun us ws => us ++ (id : List Value → List Value) ws) (fun us ws => us ++ (id : List V → List V) ws) := T.f_BadSaying_init.kbindsP 1 ["part"] (fun us ws => us ++ id ws) (fun r1 r2 => r1.append r2) fun _ _ _ _ _ _ us ws l1 l2 => match us, ws, l1, l2 with | [_], [_], _, _ => rfl
  exact kb.to s' [a] ws hK rfl hl
theorem xk_BadSaying_part (T : Tx X.K X.mg) (hr : Room m X.A) (hkw : PK X kws t) (hm : 2 ≤ m := by decide) (hg : Gl X "BadSaying" := by rfl) (hall : (backToKw pos (keywordEach kws X.env)).all (·.1.isSome) = true := by rfl) (hks : (backToKw pos (keywordEach kws X.env)).filterMap (·.1) = ([("part" : Str)] : List Str) := by rfl) (hpl : ((backTo pos (starEach [] X.env)).any (·.1) || (backToKw pos (keywordEach kws X.env)).any (·.1.isNone)) = false := by rfl) :
    PE X (.Call (.Name "BadSaying" p) [] kws pos) (tXmkK (ga X.K "BadSaying") ["part"] ["part"] id t) := pe_xmkK (xi_BadSaying T) (ok_BadSaying_init T) (fun _ _ _ hl hK => kx_BadSaying_part T hK hl) (fun r => r) (hr.mono hm) hg T.g_BadSaying hkw hall hks (by decide) hpl
theorem mem_BadFact : (("BadFact", ["SignError"], ["part"]) : Str × List Str × List Str) ∈ excs := List.mem_of_getElem? (i := 3) rfl
theorem xc_BadFact (T : Tx K mg) : XCl K (ga K "BadFact") := (excsB_cl T.xs mem_BadFact).1
theorem nf_BadFact_part (T : Tx K mg) : PySem.W.findIn K (.ref (ga K "BadFact")) "part" = some none := (excsB_cl T.xs mem_BadFact).2.1 "part" (by simp)
theorem b_BadFact_init (T : Tx K mg) : Binds K (fdOf K ("BadFact", some "__init__")) ["self", "part"] [] := T.f_BadFact_init.bindsN fun _ _ _ _ _ _ us hl => match us, hl with | [_, _], _ => rfl
theorem ok_BadFact_init (T : Tx K mg) : FnOk P w K mg base CX0 1 (ma K (ga K "BadFact") "__init__") (fdOf K ("BadFact", some "__init__")) ["self", "part"] (spInitX (ga K "BadFact") ["part"]) := by
  refine T.f_BadFact_init.ok sc_BadFact_init (fun vs H Q E h => spInit_len h) (fun cdv A outer s H vs Q E hr h => ?_)
  exact ⟨_, PSs.nox (pss_one (ps_ost (pv 0) (pv 1))), init1o rfl (xc_BadFact T) (nf_BadFact_part T) h⟩
theorem xi_BadFact (T : Tx K mg) : XIn K (ga K "BadFact") (ma K (ga K "BadFact") "__init__") ["part"] := ⟨xc_BadFact T, T.m_BadFact.at_, isFn_type T.m_BadFact.fn, (excsB_cl T.xs mem_BadFact).2.1⟩
theorem xm_BadFact (T : Tx X.K X.mg) (hr : Room m X.A) (ha : PA X (e :: es) t) (hm : 2 ≤ m := by decide) (hg : Gl X "BadFact" := by rfl) (he : starEach (e :: es) X.env = (false, eval e X.env) :: starEach es X.env := by rfl) (hpl : (backTo pos (starEach es X.env)).any (·.1) = false := by rfl) :
    PE X (.Call (.Name "BadFact" p) (e :: es) [] pos) (tXmk (ga X.K "BadFact") ["part"] t) := pe_xmk (sc := default) (qual := "") (pa := default) (bd := []) (xi_BadFact T) (ok_BadFact_init T) (b_BadFact_init T) (by decide) (hr.mono hm) hg T.g_BadFact ha (by decide) he hpl
theorem kx_BadFact_part (T : Tx K mg) {s' : Shared} {a : Value} {ws : List Value} (hK : K.In s'.heap) (hl : ws.length = 1) : BindsTo s' (fdOf K ("BadFact", some "__init__")) ⟨[a], (["part"] : List Str).zip ws⟩ ((["self", "part"] : List Str).zip (a :: (id : List Value → List Value) ws)) := by
  have kb : KBn K (fdOf K ("BadFact", some "__init__")) ["self", "part"] 1 ["part"] (fun us ws => us ++ (id : List Value → List Value) ws) (fun us ws => us ++ (id : List V → List V) ws) := T.f_BadFact_init.kbindsP 1 ["part"] (fun us ws => us ++ id ws) (fun r1 r2 => r1.append r2) fun _ _ _ _ _ _ us ws l1 l2 => match us, ws, l1, l2 with | [_], [_], _, _ => rfl
  exact kb.to s' [a] ws hK rfl hl
theorem xk_BadFact_part (T : Tx X.K X.mg) (hr : Room m X.A) (hkw : PK X kws t) (hm : 2 ≤ m := by decide) (hg : Gl X "BadFact" := by rfl) (hall : (backToKw pos (keywordEach kws X.env)).all (·.1.isSome) = true := by rfl) (hks : (backToKw pos (keywordEach kws X.env)).filterMap (·.1) = ([("part" : Str)] : List Str) := by rfl) (hpl : ((backTo pos (starEach [] X.env)).any (·.1) || (backToKw pos (keywordEach kws X.env)).any (·.1.isNone)) = false := by rfl) :
    PE X (.Call (.Name "BadFact" p) [] kws pos) (tXmkK (ga X.K "BadFact") ["part"] ["part"] id t) := pe_xmkK (xi_BadFact T) (ok_BadFact_init T) (fun _ _ _ hl hK => kx_BadFact_part T hK hl) (fun r => r) (hr.mono hm) hg T.g_BadFact hkw hall hks (by decide) hpl
theorem mem_BadBook : (("BadBook", ["SignError"], ["part"]) : Str × List Str × List Str) ∈ excs := List.mem_of_getElem? (i := 4) rfl
theorem xc_BadBook (T : Tx K mg) : XCl K (ga K "BadBook") := (excsB_cl T.xs mem_BadBook).1
theorem nf_BadBook_part (T : Tx K mg) : PySem.W.findIn K (.ref (ga K "BadBook")) "part" = some none := (excsB_cl T.xs mem_BadBook).2.1 "part" (by simp)
theorem b_BadBook_init (T : Tx K mg) : Binds K (fdOf K ("BadBook", some "__init__")) ["self", "part"] [] := T.f_BadBook_init.bindsN fun _ _ _ _ _ _ us hl => match us, hl with | [_, _], _ => rfl
theorem ok_BadBook_init (T : Tx K mg) : FnOk P w K mg base CX0 1 (ma K (ga K "BadBook") "__init__") (fdOf K ("BadBook", some "__init__")) ["self", "part"] (spInitX (ga K "BadBook") ["part"]) := by
  refine T.f_BadBook_init.ok sc_BadBook_init (fun vs H Q E h => spInit_len h) (fun cdv A outer s H vs Q E hr h => ?_)
  exact ⟨_, PSs.nox (pss_one (ps_ost (pv 0) (pv 1))), init1o rfl (xc_BadBook T) (nf_BadBook_part T) h⟩
theorem xi_BadBook (T : Tx K mg) : XIn K (ga K "BadBook") (ma K (ga K "BadBook") "__init__") ["part"] := ⟨xc_BadBook T, T.m_BadBook.at_, isFn_type T.m_BadBook.fn, (excsB_cl T.xs mem_BadBook).2.1⟩
theorem xm_BadBook (T : Tx X.K X.mg) (hr : Room m X.A) (ha : PA X (e :: es) t) (hm : 2 ≤ m := by decide) (hg : Gl X "BadBook" := by rfl) (he : starEach (e :: es) X.env = (false, eval e X.env) :: starEach es X.env := by rfl) (hpl : (backTo pos (starEach es X.env)).any (·.1) = false := by rfl) :
    PE X (.Call (.Name "BadBook" p) (e :: es) [] pos) (tXmk (ga X.K "BadBook") ["part"] t) := pe_xmk (sc := default) (qual := "") (pa := default) (bd := []) (xi_BadBook T) (ok_BadBook_init T) (b_BadBook_init T) (by decide) (hr.mono hm) hg T.g_BadBook ha (by decide) he hpl
theorem kx_BadBook_part (T : Tx K mg) {s' : Shared} {a : Value} {ws : List Value} (hK : K.In s'.heap) (hl : ws.length = 1) : BindsTo s' (fdOf K ("BadBook", some "__init__")) ⟨[a], (["part"] : List Str).zip ws⟩ ((["self", "part"] : List Str).zip (a :: (id : List Value → List Value) ws)) := by
  have kb : KBn K (fdOf K ("BadBook", some "__init__")) ["self", "part"] 1 ["part"] (fun us ws => us ++ (id : List Value → List Value) ws) (fun us ws => us ++ (id : List V → List V) ws) := T.f_BadBook_init.kbindsP 1 ["part"] (fun us ws => us ++ id ws) (fun r1 r2 => r1.append r2) fun _ _ _ _ _ _ us ws l1 l2 => match us, ws, l1, l2 with | [_], [_], _, _ => rfl
  exact kb.to s' [a] ws hK rfl hl
theorem xk_BadBook_part (T : Tx X.K X.mg) (hr : Room m X.A) (hkw : PK X kws t) (hm : 2 ≤ m := by decide) (hg : Gl X "BadBook" := by rfl) (hall : (backToKw pos (keywordEach kws X.env)).all (·.1.isSome) = true := by rfl) (hks : (backToKw pos (keywordEach kws X.env)).filterMap (·.1) = ([("part" : Str)] : List Str) := by rfl) (hpl : ((backTo pos (starEach [] X.env)).any (·.1) || (backToKw pos (keywordEach kws X.env)).any (·.1.isNone)) = false := by rfl) :
    PE X (.Call (.Name "BadBook" p) [] kws pos) (tXmkK (ga X.K "BadBook") ["part"] ["part"] id t) := pe_xmkK (xi_BadBook T) (ok_BadBook_init T) (fun _ _ _ hl hK => kx_BadBook_part T hK hl) (fun r => r) (hr.mono hm) hg T.g_BadBook hkw hall hks (by decide) hpl
theorem mem_BadGrid : (("BadGrid", ["SignError"], ["part"]) : Str × List Str × List Str) ∈ excs := List.mem_of_getElem? (i := 5) rfl
theorem xc_BadGrid (T : Tx K mg) : XCl K (ga K "BadGrid") := (excsB_cl T.xs mem_BadGrid).1
theorem nf_BadGrid_part (T : Tx K mg) : PySem.W.findIn K (.ref (ga K "BadGrid")) "part" = some none := (excsB_cl T.xs mem_BadGrid).2.1 "part" (by simp)
theorem b_BadGrid_init (T : Tx K mg) : Binds K (fdOf K ("BadGrid", some "__init__")) ["self", "part"] [] := T.f_BadGrid_init.bindsN fun _ _ _ _ _ _ us hl => match us, hl with | [_, _], _ => rfl
theorem ok_BadGrid_init (T : Tx K mg) : FnOk P w K mg base CX0 1 (ma K (ga K "BadGrid") "__init__") (fdOf K ("BadGrid", some "__init__")) ["self", "part"] (spInitX (ga K "BadGrid") ["part"]) := by
  refine T.f_BadGrid_init.ok sc_BadGrid_init (fun vs H Q E h => spInit_len h) (fun cdv A outer s H vs Q E hr h => ?_)
  exact ⟨_, PSs.nox (pss_one (ps_ost (pv 0) (pv 1))), init1o rfl (xc_BadGrid T) (nf_BadGrid_part T) h⟩
theorem xi_BadGrid (T : Tx K mg) : XIn K (ga K "BadGrid") (ma K (ga K "BadGrid") "__init__") ["part"] := ⟨xc_BadGrid T, T.m_BadGrid.at_, isFn_type T.m_BadGrid.fn, (excsB_cl T.xs mem_BadGrid).2.1⟩
theorem xm_BadGrid (T : Tx X.K X.mg) (hr : Room m X.A) (ha : PA X (e :: es) t) (hm : 2 ≤ m := by decide) (hg : Gl X "BadGrid" := by rfl) (he : starEach (e :: es) X.env = (false, eval e X.env) :: starEach es X.env := by rfl) (hpl : (backTo pos (starEach es X.env)).any (·.1) = false := by rfl) :
    PE X (.Call (.Name "BadGrid" p) (e :: es) [] pos) (tXmk (ga X.K "BadGrid") ["part"] t) := pe_xmk (sc := default) (qual := "") (pa := default) (bd := []) (xi_BadGrid T) (ok_BadGrid_init T) (b_BadGrid_init T) (by decide) (hr.mono hm) hg T.g_BadGrid ha (by decide) he hpl
theorem kx_BadGrid_part (T : Tx K mg) {s' : Shared} {a : Value} {ws : List Value} (hK : K.In s'.heap) (hl : ws.length = 1) : BindsTo s' (fdOf K ("BadGrid", some "__init__")) ⟨[a], (["part"] : List Str).zip ws⟩ ((["self", "part"] : List Str).zip (a :: (id : List Value → List Value) ws)) := by
  have kb : KBn K (fdOf K ("BadGrid", some "__init__")) ["self", "part"] 1 ["part"] (fun us ws => us ++ (id : List Value → List Value) ws) (fun us ws => us ++ (id : List V → List V) ws) := T.f_BadGrid_init.kbindsP 1 ["part"] (fun us ws => us ++ id ws) (fun r1 r2 => r1.append r2) fun _ _ _ _ _ _ us ws l1 l2 => match us, ws, l1, l2 with | [_], [_], _, _ => rfl
  exact kb.to s' [a] ws hK rfl hl
theorem xk_BadGrid_part (T : Tx X.K X.mg) (hr : Room m X.A) (hkw : PK X kws t) (hm : 2 ≤ m := by decide) (hg : Gl X "BadGrid" := by rfl) (hall : (backToKw pos (keywordEach kws X.env)).all (·.1.isSome) = true := by rfl) (hks : (backToKw pos (keywordEach kws X.env)).filterMap (·.1) = ([("part" : Str)] : List Str) := by rfl) (hpl : ((backTo pos (starEach [] X.env)).any (·.1) || (backToKw pos (keywordEach kws X.env)).any (·.1.isNone)) = false := by rfl) :
    PE X (.Call (.Name "BadGrid" p) [] kws pos) (tXmkK (ga X.K "BadGrid") ["part"] ["part"] id t) := pe_xmkK (xi_BadGrid T) (ok_BadGrid_init T) (fun _ _ _ hl hK => kx_BadGrid_part T hK hl) (fun r => r) (hr.mono hm) hg T.g_BadGrid hkw hall hks (by decide) hpl
theorem mem_BadWord : (("BadWord", ["SignError"], ["part"]) : Str × List Str × List Str) ∈ excs := List.mem_of_getElem? (i := 6) rfl
theorem xc_BadWord (T : Tx K mg) : XCl K (ga K "BadWord") := (excsB_cl T.xs mem_BadWord).1
theorem nf_BadWord_part (T : Tx K mg) : PySem.W.findIn K (.ref (ga K "BadWord")) "part" = some none := (excsB_cl T.xs mem_BadWord).2.1 "part" (by simp)
theorem b_BadWord_init (T : Tx K mg) : Binds K (fdOf K ("BadWord", some "__init__")) ["self", "part"] [] := T.f_BadWord_init.bindsN fun _ _ _ _ _ _ us hl => match us, hl with | [_, _], _ => rfl
theorem ok_BadWord_init (T : Tx K mg) : FnOk P w K mg base CX0 1 (ma K (ga K "BadWord") "__init__") (fdOf K ("BadWord", some "__init__")) ["self", "part"] (spInitX (ga K "BadWord") ["part"]) := by
  refine T.f_BadWord_init.ok sc_BadWord_init (fun vs H Q E h => spInit_len h) (fun cdv A outer s H vs Q E hr h => ?_)
  exact ⟨_, PSs.nox (pss_one (ps_ost (pv 0) (pv 1))), init1o rfl (xc_BadWord T) (nf_BadWord_part T) h⟩
theorem xi_BadWord (T : Tx K mg) : XIn K (ga K "BadWord") (ma K (ga K "BadWord") "__init__") ["part"] := ⟨xc_BadWord T, T.m_BadWord.at_, isFn_type T.m_BadWord.fn, (excsB_cl T.xs mem_BadWord).2.1⟩
theorem xm_BadWord (T : Tx X.K X.mg) (hr : Room m X.A) (ha : PA X (e :: es) t) (hm : 2 ≤ m := by decide) (hg : Gl X "BadWord" := by rfl) (he : starEach (e :: es) X.env = (false, eval e X.env) :: starEach es X.env := by rfl) (hpl : (backTo pos (starEach es X.env)).any (·.1) = false := by rfl) :
    PE X (.Call (.Name "BadWord" p) (e :: es) [] pos) (tXmk (ga X.K "BadWord") ["part"] t) := pe_xmk (sc := default) (qual := "") (pa := default) (bd := []) (xi_BadWord T) (ok_BadWord_init T) (b_BadWord_init T) (by decide) (hr.mono hm) hg T.g_BadWord ha (by decide) he hpl
theorem kx_BadWord_part (T : Tx K mg) {s' : Shared} {a : Value} {ws : List Value} (hK : K.In s'.heap) (hl : ws.length = 1) : BindsTo s' (fdOf K ("BadWord", some "__init__")) ⟨[a], (["part"] : List Str).zip ws⟩ ((["self", "part"] : List Str).zip (a :: (id : List Value → List Value) ws)) := by
  have kb : KBn K (fdOf K ("BadWord", some "__init__")) ["self", "part"] 1 ["part"] (fun us ws => us ++ (id : List Value → List Value) ws) (fun us ws => us ++ (id : List V → List V) ws) := T.f_BadWord_init.kbindsP 1 ["part"] (fun us ws => us ++ id ws) (fun r1 r2 => r1.append r2) fun _ _ _ _ _ _ us ws l1 l2 => match us, ws, l1, l2 with | [_], [_], _, _ => rfl
  exact kb.to s' [a] ws hK rfl hl
theorem xk_BadWord_part (T : Tx X.K X.mg) (hr : Room m X.A) (hkw : PK X kws t) (hm : 2 ≤ m := by decide) (hg : Gl X "BadWord" := by rfl) (hall : (backToKw pos (keywordEach kws X.env)).all (·.1.isSome) = true := by rfl) (hks : (backToKw pos (keywordEach kws X.env)).filterMap (·.1) = ([("part" : Str)] : List Str) := by rfl) (hpl : ((backTo pos (starEach [] X.env)).any (·.1) || (backToKw pos (keywordEach kws X.env)).any (·.1.isNone)) = false := by rfl) :
    PE X (.Call (.Name "BadWord" p) [] kws pos) (tXmkK (ga X.K "BadWord") ["part"] ["part"] id t) := pe_xmkK (xi_BadWord T) (ok_BadWord_init T) (fun _ _ _ hl hK => kx_BadWord_part T hK hl) (fun r => r) (hr.mono hm) hg T.g_BadWord hkw hall hks (by decide) hpl
theorem mem_BadSheet : (("BadSheet", ["SignError"], ["part"]) : Str × List Str × List Str) ∈ excs := List.mem_of_getElem? (i := 7) rfl
theorem xc_BadSheet (T : Tx K mg) : XCl K (ga K "BadSheet") := (excsB_cl T.xs mem_BadSheet).1
theorem nf_BadSheet_part (T : Tx K mg) : PySem.W.findIn K (.ref (ga K "BadSheet")) "part" = some none := (excsB_cl T.xs mem_BadSheet).2.1 "part" (by simp)
theorem b_BadSheet_init (T : Tx K mg) : Binds K (fdOf K ("BadSheet", some "__init__")) ["self", "part"] [] := T.f_BadSheet_init.bindsN fun _ _ _ _ _ _ us hl => match us, hl with | [_, _], _ => rfl
theorem ok_BadSheet_init (T : Tx K mg) : FnOk P w K mg base CX0 1 (ma K (ga K "BadSheet") "__init__") (fdOf K ("BadSheet", some "__init__")) ["self", "part"] (spInitX (ga K "BadSheet") ["part"]) := by
  refine T.f_BadSheet_init.ok sc_BadSheet_init (fun vs H Q E h => spInit_len h) (fun cdv A outer s H vs Q E hr h => ?_)
  exact ⟨_, PSs.nox (pss_one (ps_ost (pv 0) (pv 1))), init1o rfl (xc_BadSheet T) (nf_BadSheet_part T) h⟩
theorem xi_BadSheet (T : Tx K mg) : XIn K (ga K "BadSheet") (ma K (ga K "BadSheet") "__init__") ["part"] := ⟨xc_BadSheet T, T.m_BadSheet.at_, isFn_type T.m_BadSheet.fn, (excsB_cl T.xs mem_BadSheet).2.1⟩
theorem xm_BadSheet (T : Tx X.K X.mg) (hr : Room m X.A) (ha : PA X (e :: es) t) (hm : 2 ≤ m := by decide) (hg : Gl X "BadSheet" := by rfl) (he : starEach (e :: es) X.env = (false, eval e X.env) :: starEach es X.env := by rfl) (hpl : (backTo pos (starEach es X.env)).any (·.1) = false := by rfl) :
    PE X (.Call (.Name "BadSheet" p) (e :: es) [] pos) (tXmk (ga X.K "BadSheet") ["part"] t) := pe_xmk (sc := default) (qual := "") (pa := default) (bd := []) (xi_BadSheet T) (ok_BadSheet_init T) (b_BadSheet_init T) (by decide) (hr.mono hm) hg T.g_BadSheet ha (by decide) he hpl
theorem kx_BadSheet_part (T : Tx K mg) {s' : Shared} {a : Value} {ws : List Value} (hK : K.In s'.heap) (hl : ws.length = 1) : BindsTo s' (fdOf K ("BadSheet", some "__init__")) ⟨[a], (["part"] : List Str).zip ws⟩ ((["self", "part"] : List Str).zip (a :: (id : List Value → List Value) ws)) := by
  have kb : KBn K (fdOf K ("BadSheet", some "__init__")) ["self", "part"] 1 ["part"] (fun us ws => us ++ (id : List Value → List Value) ws) (fun us ws => us ++ (id : List V → List V) ws) := T.f_BadSheet_init.kbindsP 1 ["part"] (fun us ws => us ++ id ws) (fun r1 r2 => r1.append r2) fun _ _ _ _ _ _ us ws l1 l2 => match us, ws, l1, l2 with | [_], [_], _, _ => rfl
  exact kb.to s' [a] ws hK rfl hl
theorem xk_BadSheet_part (T : Tx X.K X.mg) (hr : Room m X.A) (hkw : PK X kws t) (hm : 2 ≤ m := by decide) (hg : Gl X "BadSheet" := by rfl) (hall : (backToKw pos (keywordEach kws X.env)).all (·.1.isSome) = true := by rfl) (hks : (backToKw pos (keywordEach kws X.env)).filterMap (·.1) = ([("part" : Str)] : List Str) := by rfl) (hpl : ((backTo pos (starEach [] X.env)).any (·.1) || (backToKw pos (keywordEach kws X.env)).any (·.1.isNone)) = false := by rfl) :
    PE X (.Call (.Name "BadSheet" p) [] kws pos) (tXmkK (ga X.K "BadSheet") ["part"] ["part"] id t) := pe_xmkK (xi_BadSheet T) (ok_BadSheet_init T) (fun _ _ _ hl hK => kx_BadSheet_part T hK hl) (fun r => r) (hr.mono hm) hg T.g_BadSheet hkw hall hks (by decide) hpl
theorem mem_BadCutting : (("BadCutting", ["SignError"], ["part"]) : Str × List Str × List Str) ∈ excs := List.mem_of_getElem? (i := 8) rfl
theorem xc_BadCutting (T : Tx K mg) : XCl K (ga K "BadCutting") := (excsB_cl T.xs mem_BadCutting).1
theorem nf_BadCutting_part (T : Tx K mg) : PySem.W.findIn K (.ref (ga K "BadCutting")) "part" = some none := (excsB_cl T.xs mem_BadCutting).2.1 "part" (by simp)
theorem b_BadCutting_init (T : Tx K mg) : Binds K (fdOf K ("BadCutting", some "__init__")) ["self", "part"] [] := T.f_BadCutting_init.bindsN fun _ _ _ _ _ _ us hl => match us, hl with | [_, _], _ => rfl
theorem ok_BadCutting_init (T : Tx K mg) : FnOk P w K mg base CX0 1 (ma K (ga K "BadCutting") "__init__") (fdOf K ("BadCutting", some "__init__")) ["self", "part"] (spInitX (ga K "BadCutting") ["part"]) := by
  refine T.f_BadCutting_init.ok sc_BadCutting_init (fun vs H Q E h => spInit_len h) (fun cdv A outer s H vs Q E hr h => ?_)
  exact ⟨_, PSs.nox (pss_one (ps_ost (pv 0) (pv 1))), init1o rfl (xc_BadCutting T) (nf_BadCutting_part T) h⟩
theorem xi_BadCutting (T : Tx K mg) : XIn K (ga K "BadCutting") (ma K (ga K "BadCutting") "__init__") ["part"] := ⟨xc_BadCutting T, T.m_BadCutting.at_, isFn_type T.m_BadCutting.fn, (excsB_cl T.xs mem_BadCutting).2.1⟩
theorem xm_BadCutting (T : Tx X.K X.mg) (hr : Room m X.A) (ha : PA X (e :: es) t) (hm : 2 ≤ m := by decide) (hg : Gl X "BadCutting" := by rfl) (he : starEach (e :: es) X.env = (false, eval e X.env) :: starEach es X.env := by rfl) (hpl : (backTo pos (starEach es X.env)).any (·.1) = false := by rfl) :
    PE X (.Call (.Name "BadCutting" p) (e :: es) [] pos) (tXmk (ga X.K "BadCutting") ["part"] t) := pe_xmk (sc := default) (qual := "") (pa := default) (bd := []) (xi_BadCutting T) (ok_BadCutting_init T) (b_BadCutting_init T) (by decide) (hr.mono hm) hg T.g_BadCutting ha (by decide) he hpl
theorem kx_BadCutting_part (T : Tx K mg) {s' : Shared} {a : Value} {ws : List Value} (hK : K.In s'.heap) (hl : ws.length = 1) : BindsTo s' (fdOf K ("BadCutting", some "__init__")) ⟨[a], (["part"] : List Str).zip ws⟩ ((["self", "part"] : List Str).zip (a :: (id : List Value → List Value) ws)) := by
  have kb : KBn K (fdOf K ("BadCutting", some "__init__")) ["self", "part"] 1 ["part"] (fun us ws => us ++ (id : List Value → List Value) ws) (fun us ws => us ++ (id : List V → List V) ws) := T.f_BadCutting_init.kbindsP 1 ["part"] (fun us ws => us ++ id ws) (fun r1 r2 => r1.append r2) fun _ _ _ _ _ _ us ws l1 l2 => match us, ws, l1, l2 with | [_], [_], _, _ => rfl
  exact kb.to s' [a] ws hK rfl hl
theorem xk_BadCutting_part (T : Tx X.K X.mg) (hr : Room m X.A) (hkw : PK X kws t) (hm : 2 ≤ m := by decide) (hg : Gl X "BadCutting" := by rfl) (hall : (backToKw pos (keywordEach kws X.env)).all (·.1.isSome) = true := by rfl) (hks : (backToKw pos (keywordEach kws X.env)).filterMap (·.1) = ([("part" : Str)] : List Str) := by rfl) (hpl : ((backTo pos (starEach [] X.env)).any (·.1) || (backToKw pos (keywordEach kws X.env)).any (·.1.isNone)) = false := by rfl) :
    PE X (.Call (.Name "BadCutting" p) [] kws pos) (tXmkK (ga X.K "BadCutting") ["part"] ["part"] id t) := pe_xmkK (xi_BadCutting T) (ok_BadCutting_init T) (fun _ _ _ hl hK => kx_BadCutting_part T hK hl) (fun r => r) (hr.mono hm) hg T.g_BadCutting hkw hall hks (by decide) hpl
theorem mem_BadTies : (("BadTies", ["SignError"], ["part"]) : Str × List Str × List Str) ∈ excs := List.mem_of_getElem? (i := 9) rfl
theorem xc_BadTies (T : Tx K mg) : XCl K (ga K "BadTies") := (excsB_cl T.xs mem_BadTies).1
theorem nf_BadTies_part (T : Tx K mg) : PySem.W.findIn K (.ref (ga K "BadTies")) "part" = some none := (excsB_cl T.xs mem_BadTies).2.1 "part" (by simp)
theorem b_BadTies_init (T : Tx K mg) : Binds K (fdOf K ("BadTies", some "__init__")) ["self", "part"] [] := T.f_BadTies_init.bindsN fun _ _ _ _ _ _ us hl => match us, hl with | [_, _], _ => rfl
theorem ok_BadTies_init (T : Tx K mg) : FnOk P w K mg base CX0 1 (ma K (ga K "BadTies") "__init__") (fdOf K ("BadTies", some "__init__")) ["self", "part"] (spInitX (ga K "BadTies") ["part"]) := by
  refine T.f_BadTies_init.ok sc_BadTies_init (fun vs H Q E h => spInit_len h) (fun cdv A outer s H vs Q E hr h => ?_)
  exact ⟨_, PSs.nox (pss_one (ps_ost (pv 0) (pv 1))), init1o rfl (xc_BadTies T) (nf_BadTies_part T) h⟩
theorem xi_BadTies (T : Tx K mg) : XIn K (ga K "BadTies") (ma K (ga K "BadTies") "__init__") ["part"] := ⟨xc_BadTies T, T.m_BadTies.at_, isFn_type T.m_BadTies.fn, (excsB_cl T.xs mem_BadTies).2.1⟩
theorem xm_BadTies (T : Tx X.K X.mg) (hr : Room m X.A) (ha : PA X (e :: es) t) (hm : 2 ≤ m := by decide) (hg : Gl X "BadTies" := by rfl) (he : starEach (e :: es) X.env = (false, eval e X.env) :: starEach es X.env := by rfl) (hpl : (backTo pos (starEach es X.env)).any (·.1) = false := by rfl) :
    PE X (.Call (.Name "BadTies" p) (e :: es) [] pos) (tXmk (ga X.K "BadTies") ["part"] t) := pe_xmk (sc := default) (qual := "") (pa := default) (bd := []) (xi_BadTies T) (ok_BadTies_init T) (b_BadTies_init T) (by decide) (hr.mono hm) hg T.g_BadTies ha (by decide) he hpl
theorem kx_BadTies_part (T : Tx K mg) {s' : Shared} {a : Value} {ws : List Value} (hK : K.In s'.heap) (hl : ws.length = 1) : BindsTo s' (fdOf K ("BadTies", some "__init__")) ⟨[a], (["part"] : List Str).zip ws⟩ ((["self", "part"] : List Str).zip (a :: (id : List Value → List Value) ws)) := by
  have kb : KBn K (fdOf K ("BadTies", some "__init__")) ["self", "part"] 1 ["part"] (fun us ws => us ++ (id : List Value → List Value) ws) (fun us ws => us ++ (id : List V → List V) ws) := T.f_BadTies_init.kbindsP 1 ["part"] (fun us ws => us ++ id ws) (fun r1 r2 => r1.append r2) fun _ _ _ _ _ _ us ws l1 l2 => match us, ws, l1, l2 with | [_], [_], _, _ => rfl
  exact kb.to s' [a] ws hK rfl hl
theorem xk_BadTies_part (T : Tx X.K X.mg) (hr : Room m X.A) (hkw : PK X kws t) (hm : 2 ≤ m := by decide) (hg : Gl X "BadTies" := by rfl) (hall : (backToKw pos (keywordEach kws X.env)).all (·.1.isSome) = true := by rfl) (hks : (backToKw pos (keywordEach kws X.env)).filterMap (·.1) = ([("part" : Str)] : List Str) := by rfl) (hpl : ((backTo pos (starEach [] X.env)).any (·.1) || (backToKw pos (keywordEach kws X.env)).any (·.1.isNone)) = false := by rfl) :
    PE X (.Call (.Name "BadTies" p) [] kws pos) (tXmkK (ga X.K "BadTies") ["part"] ["part"] id t) := pe_xmkK (xi_BadTies T) (ok_BadTies_init T) (fun _ _ _ hl hK => kx_BadTies_part T hK hl) (fun r => r) (hr.mono hm) hg T.g_BadTies hkw hall hks (by decide) hpl
theorem mem_BadHeard : (("BadHeard", ["SignError"], ["part"]) : Str × List Str × List Str) ∈ excs := List.mem_of_getElem? (i := 10) rfl
theorem xc_BadHeard (T : Tx K mg) : XCl K (ga K "BadHeard") := (excsB_cl T.xs mem_BadHeard).1
theorem nf_BadHeard_part (T : Tx K mg) : PySem.W.findIn K (.ref (ga K "BadHeard")) "part" = some none := (excsB_cl T.xs mem_BadHeard).2.1 "part" (by simp)
theorem b_BadHeard_init (T : Tx K mg) : Binds K (fdOf K ("BadHeard", some "__init__")) ["self", "part"] [] := T.f_BadHeard_init.bindsN fun _ _ _ _ _ _ us hl => match us, hl with | [_, _], _ => rfl
theorem ok_BadHeard_init (T : Tx K mg) : FnOk P w K mg base CX0 1 (ma K (ga K "BadHeard") "__init__") (fdOf K ("BadHeard", some "__init__")) ["self", "part"] (spInitX (ga K "BadHeard") ["part"]) := by
  refine T.f_BadHeard_init.ok sc_BadHeard_init (fun vs H Q E h => spInit_len h) (fun cdv A outer s H vs Q E hr h => ?_)
  exact ⟨_, PSs.nox (pss_one (ps_ost (pv 0) (pv 1))), init1o rfl (xc_BadHeard T) (nf_BadHeard_part T) h⟩
theorem xi_BadHeard (T : Tx K mg) : XIn K (ga K "BadHeard") (ma K (ga K "BadHeard") "__init__") ["part"] := ⟨xc_BadHeard T, T.m_BadHeard.at_, isFn_type T.m_BadHeard.fn, (excsB_cl T.xs mem_BadHeard).2.1⟩
theorem xm_BadHeard (T : Tx X.K X.mg) (hr : Room m X.A) (ha : PA X (e :: es) t) (hm : 2 ≤ m := by decide) (hg : Gl X "BadHeard" := by rfl) (he : starEach (e :: es) X.env = (false, eval e X.env) :: starEach es X.env := by rfl) (hpl : (backTo pos (starEach es X.env)).any (·.1) = false := by rfl) :
    PE X (.Call (.Name "BadHeard" p) (e :: es) [] pos) (tXmk (ga X.K "BadHeard") ["part"] t) := pe_xmk (sc := default) (qual := "") (pa := default) (bd := []) (xi_BadHeard T) (ok_BadHeard_init T) (b_BadHeard_init T) (by decide) (hr.mono hm) hg T.g_BadHeard ha (by decide) he hpl
theorem kx_BadHeard_part (T : Tx K mg) {s' : Shared} {a : Value} {ws : List Value} (hK : K.In s'.heap) (hl : ws.length = 1) : BindsTo s' (fdOf K ("BadHeard", some "__init__")) ⟨[a], (["part"] : List Str).zip ws⟩ ((["self", "part"] : List Str).zip (a :: (id : List Value → List Value) ws)) := by
  have kb : KBn K (fdOf K ("BadHeard", some "__init__")) ["self", "part"] 1 ["part"] (fun us ws => us ++ (id : List Value → List Value) ws) (fun us ws => us ++ (id : List V → List V) ws) := T.f_BadHeard_init.kbindsP 1 ["part"] (fun us ws => us ++ id ws) (fun r1 r2 => r1.append r2) fun _ _ _ _ _ _ us ws l1 l2 => match us, ws, l1, l2 with | [_], [_], _, _ => rfl
  exact kb.to s' [a] ws hK rfl hl
theorem xk_BadHeard_part (T : Tx X.K X.mg) (hr : Room m X.A) (hkw : PK X kws t) (hm : 2 ≤ m := by decide) (hg : Gl X "BadHeard" := by rfl) (hall : (backToKw pos (keywordEach kws X.env)).all (·.1.isSome) = true := by rfl) (hks : (backToKw pos (keywordEach kws X.env)).filterMap (·.1) = ([("part" : Str)] : List Str) := by rfl) (hpl : ((backTo pos (starEach [] X.env)).any (·.1) || (backToKw pos (keywordEach kws X.env)).any (·.1.isNone)) = false := by rfl) :
    PE X (.Call (.Name "BadHeard" p) [] kws pos) (tXmkK (ga X.K "BadHeard") ["part"] ["part"] id t) := pe_xmkK (xi_BadHeard T) (ok_BadHeard_init T) (fun _ _ _ hl hK => kx_BadHeard_part T hK hl) (fun r => r) (hr.mono hm) hg T.g_BadHeard hkw hall hks (by decide) hpl
theorem mem_BadValue : (("BadValue", ["SignError"], ["part"]) : Str × List Str × List Str) ∈ excs := List.mem_of_getElem? (i := 11) rfl
theorem xc_BadValue (T : Tx K mg) : XCl K (ga K "BadValue") := (excsB_cl T.xs mem_BadValue).1
theorem nf_BadValue_part (T : Tx K mg) : PySem.W.findIn K (.ref (ga K "BadValue")) "part" = some none := (excsB_cl T.xs mem_BadValue).2.1 "part" (by simp)
theorem b_BadValue_init (T : Tx K mg) : Binds K (fdOf K ("BadValue", some "__init__")) ["self", "part"] [] := T.f_BadValue_init.bindsN fun _ _ _ _ _ _ us hl => match us, hl with | [_, _], _ => rfl
theorem ok_BadValue_init (T : Tx K mg) : FnOk P w K mg base CX0 1 (ma K (ga K "BadValue") "__init__") (fdOf K ("BadValue", some "__init__")) ["self", "part"] (spInitX (ga K "BadValue") ["part"]) := by
  refine T.f_BadValue_init.ok sc_BadValue_init (fun vs H Q E h => spInit_len h) (fun cdv A outer s H vs Q E hr h => ?_)
  exact ⟨_, PSs.nox (pss_one (ps_ost (pv 0) (pv 1))), init1o rfl (xc_BadValue T) (nf_BadValue_part T) h⟩
theorem xi_BadValue (T : Tx K mg) : XIn K (ga K "BadValue") (ma K (ga K "BadValue") "__init__") ["part"] := ⟨xc_BadValue T, T.m_BadValue.at_, isFn_type T.m_BadValue.fn, (excsB_cl T.xs mem_BadValue).2.1⟩
theorem xm_BadValue (T : Tx X.K X.mg) (hr : Room m X.A) (ha : PA X (e :: es) t) (hm : 2 ≤ m := by decide) (hg : Gl X "BadValue" := by rfl) (he : starEach (e :: es) X.env = (false, eval e X.env) :: starEach es X.env := by rfl) (hpl : (backTo pos (starEach es X.env)).any (·.1) = false := by rfl) :
    PE X (.Call (.Name "BadValue" p) (e :: es) [] pos) (tXmk (ga X.K "BadValue") ["part"] t) := pe_xmk (sc := default) (qual := "") (pa := default) (bd := []) (xi_BadValue T) (ok_BadValue_init T) (b_BadValue_init T) (by decide) (hr.mono hm) hg T.g_BadValue ha (by decide) he hpl
theorem kx_BadValue_part (T : Tx K mg) {s' : Shared} {a : Value} {ws : List Value} (hK : K.In s'.heap) (hl : ws.length = 1) : BindsTo s' (fdOf K ("BadValue", some "__init__")) ⟨[a], (["part"] : List Str).zip ws⟩ ((["self", "part"] : List Str).zip (a :: (id : List Value → List Value) ws)) := by
  have kb : KBn K (fdOf K ("BadValue", some "__init__")) ["self", "part"] 1 ["part"] (fun us ws => us ++ (id : List Value → List Value) ws) (fun us ws => us ++ (id : List V → List V) ws) := T.f_BadValue_init.kbindsP 1 ["part"] (fun us ws => us ++ id ws) (fun r1 r2 => r1.append r2) fun _ _ _ _ _ _ us ws l1 l2 => match us, ws, l1, l2 with | [_], [_], _, _ => rfl
  exact kb.to s' [a] ws hK rfl hl
theorem xk_BadValue_part (T : Tx X.K X.mg) (hr : Room m X.A) (hkw : PK X kws t) (hm : 2 ≤ m := by decide) (hg : Gl X "BadValue" := by rfl) (hall : (backToKw pos (keywordEach kws X.env)).all (·.1.isSome) = true := by rfl) (hks : (backToKw pos (keywordEach kws X.env)).filterMap (·.1) = ([("part" : Str)] : List Str) := by rfl) (hpl : ((backTo pos (starEach [] X.env)).any (·.1) || (backToKw pos (keywordEach kws X.env)).any (·.1.isNone)) = false := by rfl) :
    PE X (.Call (.Name "BadValue" p) [] kws pos) (tXmkK (ga X.K "BadValue") ["part"] ["part"] id t) := pe_xmkK (xi_BadValue T) (ok_BadValue_init T) (fun _ _ _ hl hK => kx_BadValue_part T hK hl) (fun r => r) (hr.mono hm) hg T.g_BadValue hkw hall hks (by decide) hpl
theorem mem_BadNaming : (("BadNaming", ["SignError"], ["part"]) : Str × List Str × List Str) ∈ excs := List.mem_of_getElem? (i := 12) rfl
theorem xc_BadNaming (T : Tx K mg) : XCl K (ga K "BadNaming") := (excsB_cl T.xs mem_BadNaming).1
theorem nf_BadNaming_part (T : Tx K mg) : PySem.W.findIn K (.ref (ga K "BadNaming")) "part" = some none := (excsB_cl T.xs mem_BadNaming).2.1 "part" (by simp)
theorem b_BadNaming_init (T : Tx K mg) : Binds K (fdOf K ("BadNaming", some "__init__")) ["self", "part"] [] := T.f_BadNaming_init.bindsN fun _ _ _ _ _ _ us hl => match us, hl with | [_, _], _ => rfl
theorem ok_BadNaming_init (T : Tx K mg) : FnOk P w K mg base CX0 1 (ma K (ga K "BadNaming") "__init__") (fdOf K ("BadNaming", some "__init__")) ["self", "part"] (spInitX (ga K "BadNaming") ["part"]) := by
  refine T.f_BadNaming_init.ok sc_BadNaming_init (fun vs H Q E h => spInit_len h) (fun cdv A outer s H vs Q E hr h => ?_)
  exact ⟨_, PSs.nox (pss_one (ps_ost (pv 0) (pv 1))), init1o rfl (xc_BadNaming T) (nf_BadNaming_part T) h⟩
theorem xi_BadNaming (T : Tx K mg) : XIn K (ga K "BadNaming") (ma K (ga K "BadNaming") "__init__") ["part"] := ⟨xc_BadNaming T, T.m_BadNaming.at_, isFn_type T.m_BadNaming.fn, (excsB_cl T.xs mem_BadNaming).2.1⟩
theorem xm_BadNaming (T : Tx X.K X.mg) (hr : Room m X.A) (ha : PA X (e :: es) t) (hm : 2 ≤ m := by decide) (hg : Gl X "BadNaming" := by rfl) (he : starEach (e :: es) X.env = (false, eval e X.env) :: starEach es X.env := by rfl) (hpl : (backTo pos (starEach es X.env)).any (·.1) = false := by rfl) :
    PE X (.Call (.Name "BadNaming" p) (e :: es) [] pos) (tXmk (ga X.K "BadNaming") ["part"] t) := pe_xmk (sc := default) (qual := "") (pa := default) (bd := []) (xi_BadNaming T) (ok_BadNaming_init T) (b_BadNaming_init T) (by decide) (hr.mono hm) hg T.g_BadNaming ha (by decide) he hpl
theorem kx_BadNaming_part (T : Tx K mg) {s' : Shared} {a : Value} {ws : List Value} (hK : K.In s'.heap) (hl : ws.length = 1) : BindsTo s' (fdOf K ("BadNaming", some "__init__")) ⟨[a], (["part"] : List Str).zip ws⟩ ((["self", "part"] : List Str).zip (a :: (id : List Value → List Value) ws)) := by
  have kb : KBn K (fdOf K ("BadNaming", some "__init__")) ["self", "part"] 1 ["part"] (fun us ws => us ++ (id : List Value → List Value) ws) (fun us ws => us ++ (id : List V → List V) ws) := T.f_BadNaming_init.kbindsP 1 ["part"] (fun us ws => us ++ id ws) (fun r1 r2 => r1.append r2) fun _ _ _ _ _ _ us ws l1 l2 => match us, ws, l1, l2 with | [_], [_], _, _ => rfl
  exact kb.to s' [a] ws hK rfl hl
theorem xk_BadNaming_part (T : Tx X.K X.mg) (hr : Room m X.A) (hkw : PK X kws t) (hm : 2 ≤ m := by decide) (hg : Gl X "BadNaming" := by rfl) (hall : (backToKw pos (keywordEach kws X.env)).all (·.1.isSome) = true := by rfl) (hks : (backToKw pos (keywordEach kws X.env)).filterMap (·.1) = ([("part" : Str)] : List Str) := by rfl) (hpl : ((backTo pos (starEach [] X.env)).any (·.1) || (backToKw pos (keywordEach kws X.env)).any (·.1.isNone)) = false := by rfl) :
    PE X (.Call (.Name "BadNaming" p) [] kws pos) (tXmkK (ga X.K "BadNaming") ["part"] ["part"] id t) := pe_xmkK (xi_BadNaming T) (ok_BadNaming_init T) (fun _ _ _ hl hK => kx_BadNaming_part T hK hl) (fun r => r) (hr.mono hm) hg T.g_BadNaming hkw hall hks (by decide) hpl
theorem mem_BadTurning : (("BadTurning", ["SignError"], ["part"]) : Str × List Str × List Str) ∈ excs := List.mem_of_getElem? (i := 13) rfl
theorem xc_BadTurning (T : Tx K mg) : XCl K (ga K "BadTurning") := (excsB_cl T.xs mem_BadTurning).1
theorem nf_BadTurning_part (T : Tx K mg) : PySem.W.findIn K (.ref (ga K "BadTurning")) "part" = some none := (excsB_cl T.xs mem_BadTurning).2.1 "part" (by simp)
theorem b_BadTurning_init (T : Tx K mg) : Binds K (fdOf K ("BadTurning", some "__init__")) ["self", "part"] [] := T.f_BadTurning_init.bindsN fun _ _ _ _ _ _ us hl => match us, hl with | [_, _], _ => rfl
theorem ok_BadTurning_init (T : Tx K mg) : FnOk P w K mg base CX0 1 (ma K (ga K "BadTurning") "__init__") (fdOf K ("BadTurning", some "__init__")) ["self", "part"] (spInitX (ga K "BadTurning") ["part"]) := by
  refine T.f_BadTurning_init.ok sc_BadTurning_init (fun vs H Q E h => spInit_len h) (fun cdv A outer s H vs Q E hr h => ?_)
  exact ⟨_, PSs.nox (pss_one (ps_ost (pv 0) (pv 1))), init1o rfl (xc_BadTurning T) (nf_BadTurning_part T) h⟩
theorem xi_BadTurning (T : Tx K mg) : XIn K (ga K "BadTurning") (ma K (ga K "BadTurning") "__init__") ["part"] := ⟨xc_BadTurning T, T.m_BadTurning.at_, isFn_type T.m_BadTurning.fn, (excsB_cl T.xs mem_BadTurning).2.1⟩
theorem xm_BadTurning (T : Tx X.K X.mg) (hr : Room m X.A) (ha : PA X (e :: es) t) (hm : 2 ≤ m := by decide) (hg : Gl X "BadTurning" := by rfl) (he : starEach (e :: es) X.env = (false, eval e X.env) :: starEach es X.env := by rfl) (hpl : (backTo pos (starEach es X.env)).any (·.1) = false := by rfl) :
    PE X (.Call (.Name "BadTurning" p) (e :: es) [] pos) (tXmk (ga X.K "BadTurning") ["part"] t) := pe_xmk (sc := default) (qual := "") (pa := default) (bd := []) (xi_BadTurning T) (ok_BadTurning_init T) (b_BadTurning_init T) (by decide) (hr.mono hm) hg T.g_BadTurning ha (by decide) he hpl
theorem kx_BadTurning_part (T : Tx K mg) {s' : Shared} {a : Value} {ws : List Value} (hK : K.In s'.heap) (hl : ws.length = 1) : BindsTo s' (fdOf K ("BadTurning", some "__init__")) ⟨[a], (["part"] : List Str).zip ws⟩ ((["self", "part"] : List Str).zip (a :: (id : List Value → List Value) ws)) := by
  have kb : KBn K (fdOf K ("BadTurning", some "__init__")) ["self", "part"] 1 ["part"] (fun us ws => us ++ (id : List Value → List Value) ws) (fun us ws => us ++ (id : List V → List V) ws) := T.f_BadTurning_init.kbindsP 1 ["part"] (fun us ws => us ++ id ws) (fun r1 r2 => r1.append r2) fun _ _ _ _ _ _ us ws l1 l2 => match us, ws, l1, l2 with | [_], [_], _, _ => rfl
  exact kb.to s' [a] ws hK rfl hl
theorem xk_BadTurning_part (T : Tx X.K X.mg) (hr : Room m X.A) (hkw : PK X kws t) (hm : 2 ≤ m := by decide) (hg : Gl X "BadTurning" := by rfl) (hall : (backToKw pos (keywordEach kws X.env)).all (·.1.isSome) = true := by rfl) (hks : (backToKw pos (keywordEach kws X.env)).filterMap (·.1) = ([("part" : Str)] : List Str) := by rfl) (hpl : ((backTo pos (starEach [] X.env)).any (·.1) || (backToKw pos (keywordEach kws X.env)).any (·.1.isNone)) = false := by rfl) :
    PE X (.Call (.Name "BadTurning" p) [] kws pos) (tXmkK (ga X.K "BadTurning") ["part"] ["part"] id t) := pe_xmkK (xi_BadTurning T) (ok_BadTurning_init T) (fun _ _ _ hl hK => kx_BadTurning_part T hK hl) (fun r => r) (hr.mono hm) hg T.g_BadTurning hkw hall hks (by decide) hpl
theorem mem_BadNumber : (("BadNumber", ["SignError"], ["part"]) : Str × List Str × List Str) ∈ excs := List.mem_of_getElem? (i := 14) rfl
theorem xc_BadNumber (T : Tx K mg) : XCl K (ga K "BadNumber") := (excsB_cl T.xs mem_BadNumber).1
theorem nf_BadNumber_part (T : Tx K mg) : PySem.W.findIn K (.ref (ga K "BadNumber")) "part" = some none := (excsB_cl T.xs mem_BadNumber).2.1 "part" (by simp)
theorem b_BadNumber_init (T : Tx K mg) : Binds K (fdOf K ("BadNumber", some "__init__")) ["self", "part"] [] := T.f_BadNumber_init.bindsN fun _ _ _ _ _ _ us hl => match us, hl with | [_, _], _ => rfl
theorem ok_BadNumber_init (T : Tx K mg) : FnOk P w K mg base CX0 1 (ma K (ga K "BadNumber") "__init__") (fdOf K ("BadNumber", some "__init__")) ["self", "part"] (spInitX (ga K "BadNumber") ["part"]) := by
  refine T.f_BadNumber_init.ok sc_BadNumber_init (fun vs H Q E h => spInit_len h) (fun cdv A outer s H vs Q E hr h => ?_)
  exact ⟨_, PSs.nox (pss_one (ps_ost (pv 0) (pv 1))), init1o rfl (xc_BadNumber T) (nf_BadNumber_part T) h⟩
theorem xi_BadNumber (T : Tx K mg) : XIn K (ga K "BadNumber") (ma K (ga K "BadNumber") "__init__") ["part"] := ⟨xc_BadNumber T, T.m_BadNumber.at_, isFn_type T.m_BadNumber.fn, (excsB_cl T.xs mem_BadNumber).2.1⟩
theorem xm_BadNumber (T : Tx X.K X.mg) (hr : Room m X.A) (ha : PA X (e :: es) t) (hm : 2 ≤ m := by decide) (hg : Gl X "BadNumber" := by rfl) (he : starEach (e :: es) X.env = (false, eval e X.env) :: starEach es X.env := by rfl) (hpl : (backTo pos (starEach es X.env)).any (·.1) = false := by rfl) :
    PE X (.Call (.Name "BadNumber" p) (e :: es) [] pos) (tXmk (ga X.K "BadNumber") ["part"] t) := pe_xmk (sc := default) (qual := "") (pa := default) (bd := []) (xi_BadNumber T) (ok_BadNumber_init T) (b_BadNumber_init T) (by decide) (hr.mono hm) hg T.g_BadNumber ha (by decide) he hpl
theorem kx_BadNumber_part (T : Tx K mg) {s' : Shared} {a : Value} {ws : List Value} (hK : K.In s'.heap) (hl : ws.length = 1) : BindsTo s' (fdOf K ("BadNumber", some "__init__")) ⟨[a], (["part"] : List Str).zip ws⟩ ((["self", "part"] : List Str).zip (a :: (id : List Value → List Value) ws)) := by
  have kb : KBn K (fdOf K ("BadNumber", some "__init__")) ["self", "part"] 1 ["part"] (fun us ws => us ++ (id : List Value → List Value) ws) (fun us ws => us ++ (id : List V → List V) ws) := T.f_BadNumber_init.kbindsP 1 ["part"] (fun us ws => us ++ id ws) (fun r1 r2 => r1.append r2) fun _ _ _ _ _ _ us ws l1 l2 => match us, ws, l1, l2 with | [_], [_], _, _ => rfl
  exact kb.to s' [a] ws hK rfl hl
theorem xk_BadNumber_part (T : Tx X.K X.mg) (hr : Room m X.A) (hkw : PK X kws t) (hm : 2 ≤ m := by decide) (hg : Gl X "BadNumber" := by rfl) (hall : (backToKw pos (keywordEach kws X.env)).all (·.1.isSome) = true := by rfl) (hks : (backToKw pos (keywordEach kws X.env)).filterMap (·.1) = ([("part" : Str)] : List Str) := by rfl) (hpl : ((backTo pos (starEach [] X.env)).any (·.1) || (backToKw pos (keywordEach kws X.env)).any (·.1.isNone)) = false := by rfl) :
    PE X (.Call (.Name "BadNumber" p) [] kws pos) (tXmkK (ga X.K "BadNumber") ["part"] ["part"] id t) := pe_xmkK (xi_BadNumber T) (ok_BadNumber_init T) (fun _ _ _ hl hK => kx_BadNumber_part T hK hl) (fun r => r) (hr.mono hm) hg T.g_BadNumber hkw hall hks (by decide) hpl
theorem mem_BadPaper : (("BadPaper", ["SignError"], ["part"]) : Str × List Str × List Str) ∈ excs := List.mem_of_getElem? (i := 15) rfl
theorem xc_BadPaper (T : Tx K mg) : XCl K (ga K "BadPaper") := (excsB_cl T.xs mem_BadPaper).1
theorem nf_BadPaper_part (T : Tx K mg) : PySem.W.findIn K (.ref (ga K "BadPaper")) "part" = some none := (excsB_cl T.xs mem_BadPaper).2.1 "part" (by simp)
theorem b_BadPaper_init (T : Tx K mg) : Binds K (fdOf K ("BadPaper", some "__init__")) ["self", "part"] [] := T.f_BadPaper_init.bindsN fun _ _ _ _ _ _ us hl => match us, hl with | [_, _], _ => rfl
theorem ok_BadPaper_init (T : Tx K mg) : FnOk P w K mg base CX0 1 (ma K (ga K "BadPaper") "__init__") (fdOf K ("BadPaper", some "__init__")) ["self", "part"] (spInitX (ga K "BadPaper") ["part"]) := by
  refine T.f_BadPaper_init.ok sc_BadPaper_init (fun vs H Q E h => spInit_len h) (fun cdv A outer s H vs Q E hr h => ?_)
  exact ⟨_, PSs.nox (pss_one (ps_ost (pv 0) (pv 1))), init1o rfl (xc_BadPaper T) (nf_BadPaper_part T) h⟩
theorem xi_BadPaper (T : Tx K mg) : XIn K (ga K "BadPaper") (ma K (ga K "BadPaper") "__init__") ["part"] := ⟨xc_BadPaper T, T.m_BadPaper.at_, isFn_type T.m_BadPaper.fn, (excsB_cl T.xs mem_BadPaper).2.1⟩
theorem xm_BadPaper (T : Tx X.K X.mg) (hr : Room m X.A) (ha : PA X (e :: es) t) (hm : 2 ≤ m := by decide) (hg : Gl X "BadPaper" := by rfl) (he : starEach (e :: es) X.env = (false, eval e X.env) :: starEach es X.env := by rfl) (hpl : (backTo pos (starEach es X.env)).any (·.1) = false := by rfl) :
    PE X (.Call (.Name "BadPaper" p) (e :: es) [] pos) (tXmk (ga X.K "BadPaper") ["part"] t) := pe_xmk (sc := default) (qual := "") (pa := default) (bd := []) (xi_BadPaper T) (ok_BadPaper_init T) (b_BadPaper_init T) (by decide) (hr.mono hm) hg T.g_BadPaper ha (by decide) he hpl
theorem kx_BadPaper_part (T : Tx K mg) {s' : Shared} {a : Value} {ws : List Value} (hK : K.In s'.heap) (hl : ws.length = 1) : BindsTo s' (fdOf K ("BadPaper", some "__init__")) ⟨[a], (["part"] : List Str).zip ws⟩ ((["self", "part"] : List Str).zip (a :: (id : List Value → List Value) ws)) := by
  have kb : KBn K (fdOf K ("BadPaper", some "__init__")) ["self", "part"] 1 ["part"] (fun us ws => us ++ (id : List Value → List Value) ws) (fun us ws => us ++ (id : List V → List V) ws) := T.f_BadPaper_init.kbindsP 1 ["part"] (fun us ws => us ++ id ws) (fun r1 r2 => r1.append r2) fun _ _ _ _ _ _ us ws l1 l2 => match us, ws, l1, l2 with | [_], [_], _, _ => rfl
  exact kb.to s' [a] ws hK rfl hl
theorem xk_BadPaper_part (T : Tx X.K X.mg) (hr : Room m X.A) (hkw : PK X kws t) (hm : 2 ≤ m := by decide) (hg : Gl X "BadPaper" := by rfl) (hall : (backToKw pos (keywordEach kws X.env)).all (·.1.isSome) = true := by rfl) (hks : (backToKw pos (keywordEach kws X.env)).filterMap (·.1) = ([("part" : Str)] : List Str) := by rfl) (hpl : ((backTo pos (starEach [] X.env)).any (·.1) || (backToKw pos (keywordEach kws X.env)).any (·.1.isNone)) = false := by rfl) :
    PE X (.Call (.Name "BadPaper" p) [] kws pos) (tXmkK (ga X.K "BadPaper") ["part"] ["part"] id t) := pe_xmkK (xi_BadPaper T) (ok_BadPaper_init T) (fun _ _ _ hl hK => kx_BadPaper_part T hK hl) (fun r => r) (hr.mono hm) hg T.g_BadPaper hkw hall hks (by decide) hpl
theorem mem_BadDesk : (("BadDesk", ["SignError"], ["part"]) : Str × List Str × List Str) ∈ excs := List.mem_of_getElem? (i := 16) rfl
theorem xc_BadDesk (T : Tx K mg) : XCl K (ga K "BadDesk") := (excsB_cl T.xs mem_BadDesk).1
theorem nf_BadDesk_part (T : Tx K mg) : PySem.W.findIn K (.ref (ga K "BadDesk")) "part" = some none := (excsB_cl T.xs mem_BadDesk).2.1 "part" (by simp)
theorem b_BadDesk_init (T : Tx K mg) : Binds K (fdOf K ("BadDesk", some "__init__")) ["self", "part"] [] := T.f_BadDesk_init.bindsN fun _ _ _ _ _ _ us hl => match us, hl with | [_, _], _ => rfl
theorem ok_BadDesk_init (T : Tx K mg) : FnOk P w K mg base CX0 1 (ma K (ga K "BadDesk") "__init__") (fdOf K ("BadDesk", some "__init__")) ["self", "part"] (spInitX (ga K "BadDesk") ["part"]) := by
  refine T.f_BadDesk_init.ok sc_BadDesk_init (fun vs H Q E h => spInit_len h) (fun cdv A outer s H vs Q E hr h => ?_)
  exact ⟨_, PSs.nox (pss_one (ps_ost (pv 0) (pv 1))), init1o rfl (xc_BadDesk T) (nf_BadDesk_part T) h⟩
theorem xi_BadDesk (T : Tx K mg) : XIn K (ga K "BadDesk") (ma K (ga K "BadDesk") "__init__") ["part"] := ⟨xc_BadDesk T, T.m_BadDesk.at_, isFn_type T.m_BadDesk.fn, (excsB_cl T.xs mem_BadDesk).2.1⟩
theorem xm_BadDesk (T : Tx X.K X.mg) (hr : Room m X.A) (ha : PA X (e :: es) t) (hm : 2 ≤ m := by decide) (hg : Gl X "BadDesk" := by rfl) (he : starEach (e :: es) X.env = (false, eval e X.env) :: starEach es X.env := by rfl) (hpl : (backTo pos (starEach es X.env)).any (·.1) = false := by rfl) :
    PE X (.Call (.Name "BadDesk" p) (e :: es) [] pos) (tXmk (ga X.K "BadDesk") ["part"] t) := pe_xmk (sc := default) (qual := "") (pa := default) (bd := []) (xi_BadDesk T) (ok_BadDesk_init T) (b_BadDesk_init T) (by decide) (hr.mono hm) hg T.g_BadDesk ha (by decide) he hpl
theorem kx_BadDesk_part (T : Tx K mg) {s' : Shared} {a : Value} {ws : List Value} (hK : K.In s'.heap) (hl : ws.length = 1) : BindsTo s' (fdOf K ("BadDesk", some "__init__")) ⟨[a], (["part"] : List Str).zip ws⟩ ((["self", "part"] : List Str).zip (a :: (id : List Value → List Value) ws)) := by
  have kb : KBn K (fdOf K ("BadDesk", some "__init__")) ["self", "part"] 1 ["part"] (fun us ws => us ++ (id : List Value → List Value) ws) (fun us ws => us ++ (id : List V → List V) ws) := T.f_BadDesk_init.kbindsP 1 ["part"] (fun us ws => us ++ id ws) (fun r1 r2 => r1.append r2) fun _ _ _ _ _ _ us ws l1 l2 => match us, ws, l1, l2 with | [_], [_], _, _ => rfl
  exact kb.to s' [a] ws hK rfl hl
theorem xk_BadDesk_part (T : Tx X.K X.mg) (hr : Room m X.A) (hkw : PK X kws t) (hm : 2 ≤ m := by decide) (hg : Gl X "BadDesk" := by rfl) (hall : (backToKw pos (keywordEach kws X.env)).all (·.1.isSome) = true := by rfl) (hks : (backToKw pos (keywordEach kws X.env)).filterMap (·.1) = ([("part" : Str)] : List Str) := by rfl) (hpl : ((backTo pos (starEach [] X.env)).any (·.1) || (backToKw pos (keywordEach kws X.env)).any (·.1.isNone)) = false := by rfl) :
    PE X (.Call (.Name "BadDesk" p) [] kws pos) (tXmkK (ga X.K "BadDesk") ["part"] ["part"] id t) := pe_xmkK (xi_BadDesk T) (ok_BadDesk_init T) (fun _ _ _ hl hK => kx_BadDesk_part T hK hl) (fun r => r) (hr.mono hm) hg T.g_BadDesk hkw hall hks (by decide) hpl
theorem mem_Misfit : (("Misfit", ["SignError"], ["part"]) : Str × List Str × List Str) ∈ excs := List.mem_of_getElem? (i := 17) rfl
theorem xc_Misfit (T : Tx K mg) : XCl K (ga K "Misfit") := (excsB_cl T.xs mem_Misfit).1
theorem nf_Misfit_part (T : Tx K mg) : PySem.W.findIn K (.ref (ga K "Misfit")) "part" = some none := (excsB_cl T.xs mem_Misfit).2.1 "part" (by simp)
theorem b_Misfit_init (T : Tx K mg) : Binds K (fdOf K ("Misfit", some "__init__")) ["self", "part"] [] := T.f_Misfit_init.bindsN fun _ _ _ _ _ _ us hl => match us, hl with | [_, _], _ => rfl
theorem ok_Misfit_init (T : Tx K mg) : FnOk P w K mg base CX0 1 (ma K (ga K "Misfit") "__init__") (fdOf K ("Misfit", some "__init__")) ["self", "part"] (spInitX (ga K "Misfit") ["part"]) := by
  refine T.f_Misfit_init.ok sc_Misfit_init (fun vs H Q E h => spInit_len h) (fun cdv A outer s H vs Q E hr h => ?_)
  exact ⟨_, PSs.nox (pss_one (ps_ost (pv 0) (pv 1))), init1o rfl (xc_Misfit T) (nf_Misfit_part T) h⟩
theorem xi_Misfit (T : Tx K mg) : XIn K (ga K "Misfit") (ma K (ga K "Misfit") "__init__") ["part"] := ⟨xc_Misfit T, T.m_Misfit.at_, isFn_type T.m_Misfit.fn, (excsB_cl T.xs mem_Misfit).2.1⟩
theorem xm_Misfit (T : Tx X.K X.mg) (hr : Room m X.A) (ha : PA X (e :: es) t) (hm : 2 ≤ m := by decide) (hg : Gl X "Misfit" := by rfl) (he : starEach (e :: es) X.env = (false, eval e X.env) :: starEach es X.env := by rfl) (hpl : (backTo pos (starEach es X.env)).any (·.1) = false := by rfl) :
    PE X (.Call (.Name "Misfit" p) (e :: es) [] pos) (tXmk (ga X.K "Misfit") ["part"] t) := pe_xmk (sc := default) (qual := "") (pa := default) (bd := []) (xi_Misfit T) (ok_Misfit_init T) (b_Misfit_init T) (by decide) (hr.mono hm) hg T.g_Misfit ha (by decide) he hpl
theorem kx_Misfit_part (T : Tx K mg) {s' : Shared} {a : Value} {ws : List Value} (hK : K.In s'.heap) (hl : ws.length = 1) : BindsTo s' (fdOf K ("Misfit", some "__init__")) ⟨[a], (["part"] : List Str).zip ws⟩ ((["self", "part"] : List Str).zip (a :: (id : List Value → List Value) ws)) := by
  have kb : KBn K (fdOf K ("Misfit", some "__init__")) ["self", "part"] 1 ["part"] (fun us ws => us ++ (id : List Value → List Value) ws) (fun us ws => us ++ (id : List V → List V) ws) := T.f_Misfit_init.kbindsP 1 ["part"] (fun us ws => us ++ id ws) (fun r1 r2 => r1.append r2) fun _ _ _ _ _ _ us ws l1 l2 => match us, ws, l1, l2 with | [_], [_], _, _ => rfl
  exact kb.to s' [a] ws hK rfl hl
theorem xk_Misfit_part (T : Tx X.K X.mg) (hr : Room m X.A) (hkw : PK X kws t) (hm : 2 ≤ m := by decide) (hg : Gl X "Misfit" := by rfl) (hall : (backToKw pos (keywordEach kws X.env)).all (·.1.isSome) = true := by rfl) (hks : (backToKw pos (keywordEach kws X.env)).filterMap (·.1) = ([("part" : Str)] : List Str) := by rfl) (hpl : ((backTo pos (starEach [] X.env)).any (·.1) || (backToKw pos (keywordEach kws X.env)).any (·.1.isNone)) = false := by rfl) :
    PE X (.Call (.Name "Misfit" p) [] kws pos) (tXmkK (ga X.K "Misfit") ["part"] ["part"] id t) := pe_xmkK (xi_Misfit T) (ok_Misfit_init T) (fun _ _ _ hl hK => kx_Misfit_part T hK hl) (fun r => r) (hr.mono hm) hg T.g_Misfit hkw hall hks (by decide) hpl
theorem mem_Missing : (("Missing", ["SignError"], ["value"]) : Str × List Str × List Str) ∈ excs := List.mem_of_getElem? (i := 18) rfl
theorem xc_Missing (T : Tx K mg) : XCl K (ga K "Missing") := (excsB_cl T.xs mem_Missing).1
theorem nf_Missing_value (T : Tx K mg) : PySem.W.findIn K (.ref (ga K "Missing")) "value" = some none := (excsB_cl T.xs mem_Missing).2.1 "value" (by simp)
theorem b_Missing_init (T : Tx K mg) : Binds K (fdOf K ("Missing", some "__init__")) ["self", "value"] [] := T.f_Missing_init.bindsN fun _ _ _ _ _ _ us hl => match us, hl with | [_, _], _ => rfl
theorem ok_Missing_init (T : Tx K mg) : FnOk P w K mg base CX0 1 (ma K (ga K "Missing") "__init__") (fdOf K ("Missing", some "__init__")) ["self", "value"] (spInitX (ga K "Missing") ["value"]) := by
  refine T.f_Missing_init.ok sc_Missing_init (fun vs H Q E h => spInit_len h) (fun cdv A outer s H vs Q E hr h => ?_)
  exact ⟨_, PSs.nox (pss_one (ps_ost (pv 0) (pv 1))), init1o rfl (xc_Missing T) (nf_Missing_value T) h⟩
theorem xi_Missing (T : Tx K mg) : XIn K (ga K "Missing") (ma K (ga K "Missing") "__init__") ["value"] := ⟨xc_Missing T, T.m_Missing.at_, isFn_type T.m_Missing.fn, (excsB_cl T.xs mem_Missing).2.1⟩
theorem xm_Missing (T : Tx X.K X.mg) (hr : Room m X.A) (ha : PA X (e :: es) t) (hm : 2 ≤ m := by decide) (hg : Gl X "Missing" := by rfl) (he : starEach (e :: es) X.env = (false, eval e X.env) :: starEach es X.env := by rfl) (hpl : (backTo pos (starEach es X.env)).any (·.1) = false := by rfl) :
    PE X (.Call (.Name "Missing" p) (e :: es) [] pos) (tXmk (ga X.K "Missing") ["value"] t) := pe_xmk (sc := default) (qual := "") (pa := default) (bd := []) (xi_Missing T) (ok_Missing_init T) (b_Missing_init T) (by decide) (hr.mono hm) hg T.g_Missing ha (by decide) he hpl
theorem kx_Missing_value (T : Tx K mg) {s' : Shared} {a : Value} {ws : List Value} (hK : K.In s'.heap) (hl : ws.length = 1) : BindsTo s' (fdOf K ("Missing", some "__init__")) ⟨[a], (["value"] : List Str).zip ws⟩ ((["self", "value"] : List Str).zip (a :: (id : List Value → List Value) ws)) := by
  have kb : KBn K (fdOf K ("Missing", some "__init__")) ["self", "value"] 1 ["value"] (fun us ws => us ++ (id : List Value → List Value) ws) (fun us ws => us ++ (id : List V → List V) ws) := T.f_Missing_init.kbindsP 1 ["value"] (fun us ws => us ++ id ws) (fun r1 r2 => r1.append r2) fun _ _ _ _ _ _ us ws l1 l2 => match us, ws, l1, l2 with | [_], [_], _, _ => rfl
  exact kb.to s' [a] ws hK rfl hl
theorem xk_Missing_value (T : Tx X.K X.mg) (hr : Room m X.A) (hkw : PK X kws t) (hm : 2 ≤ m := by decide) (hg : Gl X "Missing" := by rfl) (hall : (backToKw pos (keywordEach kws X.env)).all (·.1.isSome) = true := by rfl) (hks : (backToKw pos (keywordEach kws X.env)).filterMap (·.1) = ([("value" : Str)] : List Str) := by rfl) (hpl : ((backTo pos (starEach [] X.env)).any (·.1) || (backToKw pos (keywordEach kws X.env)).any (·.1.isNone)) = false := by rfl) :
    PE X (.Call (.Name "Missing" p) [] kws pos) (tXmkK (ga X.K "Missing") ["value"] ["value"] id t) := pe_xmkK (xi_Missing T) (ok_Missing_init T) (fun _ _ _ hl hK => kx_Missing_value T hK hl) (fun r => r) (hr.mono hm) hg T.g_Missing hkw hall hks (by decide) hpl
theorem mem_NoSign : (("NoSign", ["Missing", "SignError"], ["value"]) : Str × List Str × List Str) ∈ excs := List.mem_of_getElem? (i := 19) rfl
theorem xc_NoSign (T : Tx K mg) : XCl K (ga K "NoSign") := (excsB_cl T.xs mem_NoSign).1
theorem nf_NoSign_value (T : Tx K mg) : PySem.W.findIn K (.ref (ga K "NoSign")) "value" = some none := (excsB_cl T.xs mem_NoSign).2.1 "value" (by simp)
theorem b_NoSign_init (T : Tx K mg) : Binds K (fdOf K ("NoSign", some "__init__")) ["self", "value"] [] := T.f_NoSign_init.bindsN fun _ _ _ _ _ _ us hl => match us, hl with | [_, _], _ => rfl
theorem ok_NoSign_init (T : Tx K mg) : FnOk P w K mg base CX0 1 (ma K (ga K "NoSign") "__init__") (fdOf K ("NoSign", some "__init__")) ["self", "value"] (spInitX (ga K "NoSign") ["value"]) := by
  refine T.f_NoSign_init.ok sc_NoSign_init (fun vs H Q E h => spInit_len h) (fun cdv A outer s H vs Q E hr h => ?_)
  exact ⟨_, PSs.nox (pss_one (ps_ost (pv 0) (pv 1))), init1o rfl (xc_NoSign T) (nf_NoSign_value T) h⟩
theorem xi_NoSign (T : Tx K mg) : XIn K (ga K "NoSign") (ma K (ga K "NoSign") "__init__") ["value"] := ⟨xc_NoSign T, T.m_NoSign.at_, isFn_type T.m_NoSign.fn, (excsB_cl T.xs mem_NoSign).2.1⟩
theorem xm_NoSign (T : Tx X.K X.mg) (hr : Room m X.A) (ha : PA X (e :: es) t) (hm : 2 ≤ m := by decide) (hg : Gl X "NoSign" := by rfl) (he : starEach (e :: es) X.env = (false, eval e X.env) :: starEach es X.env := by rfl) (hpl : (backTo pos (starEach es X.env)).any (·.1) = false := by rfl) :
    PE X (.Call (.Name "NoSign" p) (e :: es) [] pos) (tXmk (ga X.K "NoSign") ["value"] t) := pe_xmk (sc := default) (qual := "") (pa := default) (bd := []) (xi_NoSign T) (ok_NoSign_init T) (b_NoSign_init T) (by decide) (hr.mono hm) hg T.g_NoSign ha (by decide) he hpl
theorem kx_NoSign_value (T : Tx K mg) {s' : Shared} {a : Value} {ws : List Value} (hK : K.In s'.heap) (hl : ws.length = 1) : BindsTo s' (fdOf K ("NoSign", some "__init__")) ⟨[a], (["value"] : List Str).zip ws⟩ ((["self", "value"] : List Str).zip (a :: (id : List Value → List Value) ws)) := by
  have kb : KBn K (fdOf K ("NoSign", some "__init__")) ["self", "value"] 1 ["value"] (fun us ws => us ++ (id : List Value → List Value) ws) (fun us ws => us ++ (id : List V → List V) ws) := T.f_NoSign_init.kbindsP 1 ["value"] (fun us ws => us ++ id ws) (fun r1 r2 => r1.append r2) fun _ _ _ _ _ _ us ws l1 l2 => match us, ws, l1, l2 with | [_], [_], _, _ => rfl
  exact kb.to s' [a] ws hK rfl hl
theorem xk_NoSign_value (T : Tx X.K X.mg) (hr : Room m X.A) (hkw : PK X kws t) (hm : 2 ≤ m := by decide) (hg : Gl X "NoSign" := by rfl) (hall : (backToKw pos (keywordEach kws X.env)).all (·.1.isSome) = true := by rfl) (hks : (backToKw pos (keywordEach kws X.env)).filterMap (·.1) = ([("value" : Str)] : List Str) := by rfl) (hpl : ((backTo pos (starEach [] X.env)).any (·.1) || (backToKw pos (keywordEach kws X.env)).any (·.1.isNone)) = false := by rfl) :
    PE X (.Call (.Name "NoSign" p) [] kws pos) (tXmkK (ga X.K "NoSign") ["value"] ["value"] id t) := pe_xmkK (xi_NoSign T) (ok_NoSign_init T) (fun _ _ _ hl hK => kx_NoSign_value T hK hl) (fun r => r) (hr.mono hm) hg T.g_NoSign hkw hall hks (by decide) hpl
theorem mem_NoFact : (("NoFact", ["Missing", "SignError"], ["value"]) : Str × List Str × List Str) ∈ excs := List.mem_of_getElem? (i := 20) rfl
theorem xc_NoFact (T : Tx K mg) : XCl K (ga K "NoFact") := (excsB_cl T.xs mem_NoFact).1
theorem nf_NoFact_value (T : Tx K mg) : PySem.W.findIn K (.ref (ga K "NoFact")) "value" = some none := (excsB_cl T.xs mem_NoFact).2.1 "value" (by simp)
theorem b_NoFact_init (T : Tx K mg) : Binds K (fdOf K ("NoFact", some "__init__")) ["self", "value"] [] := T.f_NoFact_init.bindsN fun _ _ _ _ _ _ us hl => match us, hl with | [_, _], _ => rfl
theorem ok_NoFact_init (T : Tx K mg) : FnOk P w K mg base CX0 1 (ma K (ga K "NoFact") "__init__") (fdOf K ("NoFact", some "__init__")) ["self", "value"] (spInitX (ga K "NoFact") ["value"]) := by
  refine T.f_NoFact_init.ok sc_NoFact_init (fun vs H Q E h => spInit_len h) (fun cdv A outer s H vs Q E hr h => ?_)
  exact ⟨_, PSs.nox (pss_one (ps_ost (pv 0) (pv 1))), init1o rfl (xc_NoFact T) (nf_NoFact_value T) h⟩
theorem xi_NoFact (T : Tx K mg) : XIn K (ga K "NoFact") (ma K (ga K "NoFact") "__init__") ["value"] := ⟨xc_NoFact T, T.m_NoFact.at_, isFn_type T.m_NoFact.fn, (excsB_cl T.xs mem_NoFact).2.1⟩
theorem xm_NoFact (T : Tx X.K X.mg) (hr : Room m X.A) (ha : PA X (e :: es) t) (hm : 2 ≤ m := by decide) (hg : Gl X "NoFact" := by rfl) (he : starEach (e :: es) X.env = (false, eval e X.env) :: starEach es X.env := by rfl) (hpl : (backTo pos (starEach es X.env)).any (·.1) = false := by rfl) :
    PE X (.Call (.Name "NoFact" p) (e :: es) [] pos) (tXmk (ga X.K "NoFact") ["value"] t) := pe_xmk (sc := default) (qual := "") (pa := default) (bd := []) (xi_NoFact T) (ok_NoFact_init T) (b_NoFact_init T) (by decide) (hr.mono hm) hg T.g_NoFact ha (by decide) he hpl
theorem kx_NoFact_value (T : Tx K mg) {s' : Shared} {a : Value} {ws : List Value} (hK : K.In s'.heap) (hl : ws.length = 1) : BindsTo s' (fdOf K ("NoFact", some "__init__")) ⟨[a], (["value"] : List Str).zip ws⟩ ((["self", "value"] : List Str).zip (a :: (id : List Value → List Value) ws)) := by
  have kb : KBn K (fdOf K ("NoFact", some "__init__")) ["self", "value"] 1 ["value"] (fun us ws => us ++ (id : List Value → List Value) ws) (fun us ws => us ++ (id : List V → List V) ws) := T.f_NoFact_init.kbindsP 1 ["value"] (fun us ws => us ++ id ws) (fun r1 r2 => r1.append r2) fun _ _ _ _ _ _ us ws l1 l2 => match us, ws, l1, l2 with | [_], [_], _, _ => rfl
  exact kb.to s' [a] ws hK rfl hl
theorem xk_NoFact_value (T : Tx X.K X.mg) (hr : Room m X.A) (hkw : PK X kws t) (hm : 2 ≤ m := by decide) (hg : Gl X "NoFact" := by rfl) (hall : (backToKw pos (keywordEach kws X.env)).all (·.1.isSome) = true := by rfl) (hks : (backToKw pos (keywordEach kws X.env)).filterMap (·.1) = ([("value" : Str)] : List Str) := by rfl) (hpl : ((backTo pos (starEach [] X.env)).any (·.1) || (backToKw pos (keywordEach kws X.env)).any (·.1.isNone)) = false := by rfl) :
    PE X (.Call (.Name "NoFact" p) [] kws pos) (tXmkK (ga X.K "NoFact") ["value"] ["value"] id t) := pe_xmkK (xi_NoFact T) (ok_NoFact_init T) (fun _ _ _ hl hK => kx_NoFact_value T hK hl) (fun r => r) (hr.mono hm) hg T.g_NoFact hkw hall hks (by decide) hpl
theorem mem_NoStem : (("NoStem", ["Missing", "SignError"], ["value"]) : Str × List Str × List Str) ∈ excs := List.mem_of_getElem? (i := 21) rfl
theorem xc_NoStem (T : Tx K mg) : XCl K (ga K "NoStem") := (excsB_cl T.xs mem_NoStem).1
theorem nf_NoStem_value (T : Tx K mg) : PySem.W.findIn K (.ref (ga K "NoStem")) "value" = some none := (excsB_cl T.xs mem_NoStem).2.1 "value" (by simp)
theorem b_NoStem_init (T : Tx K mg) : Binds K (fdOf K ("NoStem", some "__init__")) ["self", "value"] [] := T.f_NoStem_init.bindsN fun _ _ _ _ _ _ us hl => match us, hl with | [_, _], _ => rfl
theorem ok_NoStem_init (T : Tx K mg) : FnOk P w K mg base CX0 1 (ma K (ga K "NoStem") "__init__") (fdOf K ("NoStem", some "__init__")) ["self", "value"] (spInitX (ga K "NoStem") ["value"]) := by
  refine T.f_NoStem_init.ok sc_NoStem_init (fun vs H Q E h => spInit_len h) (fun cdv A outer s H vs Q E hr h => ?_)
  exact ⟨_, PSs.nox (pss_one (ps_ost (pv 0) (pv 1))), init1o rfl (xc_NoStem T) (nf_NoStem_value T) h⟩
theorem xi_NoStem (T : Tx K mg) : XIn K (ga K "NoStem") (ma K (ga K "NoStem") "__init__") ["value"] := ⟨xc_NoStem T, T.m_NoStem.at_, isFn_type T.m_NoStem.fn, (excsB_cl T.xs mem_NoStem).2.1⟩
theorem xm_NoStem (T : Tx X.K X.mg) (hr : Room m X.A) (ha : PA X (e :: es) t) (hm : 2 ≤ m := by decide) (hg : Gl X "NoStem" := by rfl) (he : starEach (e :: es) X.env = (false, eval e X.env) :: starEach es X.env := by rfl) (hpl : (backTo pos (starEach es X.env)).any (·.1) = false := by rfl) :
    PE X (.Call (.Name "NoStem" p) (e :: es) [] pos) (tXmk (ga X.K "NoStem") ["value"] t) := pe_xmk (sc := default) (qual := "") (pa := default) (bd := []) (xi_NoStem T) (ok_NoStem_init T) (b_NoStem_init T) (by decide) (hr.mono hm) hg T.g_NoStem ha (by decide) he hpl
theorem kx_NoStem_value (T : Tx K mg) {s' : Shared} {a : Value} {ws : List Value} (hK : K.In s'.heap) (hl : ws.length = 1) : BindsTo s' (fdOf K ("NoStem", some "__init__")) ⟨[a], (["value"] : List Str).zip ws⟩ ((["self", "value"] : List Str).zip (a :: (id : List Value → List Value) ws)) := by
  have kb : KBn K (fdOf K ("NoStem", some "__init__")) ["self", "value"] 1 ["value"] (fun us ws => us ++ (id : List Value → List Value) ws) (fun us ws => us ++ (id : List V → List V) ws) := T.f_NoStem_init.kbindsP 1 ["value"] (fun us ws => us ++ id ws) (fun r1 r2 => r1.append r2) fun _ _ _ _ _ _ us ws l1 l2 => match us, ws, l1, l2 with | [_], [_], _, _ => rfl
  exact kb.to s' [a] ws hK rfl hl
theorem xk_NoStem_value (T : Tx X.K X.mg) (hr : Room m X.A) (hkw : PK X kws t) (hm : 2 ≤ m := by decide) (hg : Gl X "NoStem" := by rfl) (hall : (backToKw pos (keywordEach kws X.env)).all (·.1.isSome) = true := by rfl) (hks : (backToKw pos (keywordEach kws X.env)).filterMap (·.1) = ([("value" : Str)] : List Str) := by rfl) (hpl : ((backTo pos (starEach [] X.env)).any (·.1) || (backToKw pos (keywordEach kws X.env)).any (·.1.isNone)) = false := by rfl) :
    PE X (.Call (.Name "NoStem" p) [] kws pos) (tXmkK (ga X.K "NoStem") ["value"] ["value"] id t) := pe_xmkK (xi_NoStem T) (ok_NoStem_init T) (fun _ _ _ hl hK => kx_NoStem_value T hK hl) (fun r => r) (hr.mono hm) hg T.g_NoStem hkw hall hks (by decide) hpl
theorem mem_NoEnding : (("NoEnding", ["Missing", "SignError"], ["value"]) : Str × List Str × List Str) ∈ excs := List.mem_of_getElem? (i := 22) rfl
theorem xc_NoEnding (T : Tx K mg) : XCl K (ga K "NoEnding") := (excsB_cl T.xs mem_NoEnding).1
theorem nf_NoEnding_value (T : Tx K mg) : PySem.W.findIn K (.ref (ga K "NoEnding")) "value" = some none := (excsB_cl T.xs mem_NoEnding).2.1 "value" (by simp)
theorem b_NoEnding_init (T : Tx K mg) : Binds K (fdOf K ("NoEnding", some "__init__")) ["self", "value"] [] := T.f_NoEnding_init.bindsN fun _ _ _ _ _ _ us hl => match us, hl with | [_, _], _ => rfl
theorem ok_NoEnding_init (T : Tx K mg) : FnOk P w K mg base CX0 1 (ma K (ga K "NoEnding") "__init__") (fdOf K ("NoEnding", some "__init__")) ["self", "value"] (spInitX (ga K "NoEnding") ["value"]) := by
  refine T.f_NoEnding_init.ok sc_NoEnding_init (fun vs H Q E h => spInit_len h) (fun cdv A outer s H vs Q E hr h => ?_)
  exact ⟨_, PSs.nox (pss_one (ps_ost (pv 0) (pv 1))), init1o rfl (xc_NoEnding T) (nf_NoEnding_value T) h⟩
theorem xi_NoEnding (T : Tx K mg) : XIn K (ga K "NoEnding") (ma K (ga K "NoEnding") "__init__") ["value"] := ⟨xc_NoEnding T, T.m_NoEnding.at_, isFn_type T.m_NoEnding.fn, (excsB_cl T.xs mem_NoEnding).2.1⟩
theorem xm_NoEnding (T : Tx X.K X.mg) (hr : Room m X.A) (ha : PA X (e :: es) t) (hm : 2 ≤ m := by decide) (hg : Gl X "NoEnding" := by rfl) (he : starEach (e :: es) X.env = (false, eval e X.env) :: starEach es X.env := by rfl) (hpl : (backTo pos (starEach es X.env)).any (·.1) = false := by rfl) :
    PE X (.Call (.Name "NoEnding" p) (e :: es) [] pos) (tXmk (ga X.K "NoEnding") ["value"] t) := pe_xmk (sc := default) (qual := "") (pa := default) (bd := []) (xi_NoEnding T) (ok_NoEnding_init T) (b_NoEnding_init T) (by decide) (hr.mono hm) hg T.g_NoEnding ha (by decide) he hpl
theorem kx_NoEnding_value (T : Tx K mg) {s' : Shared} {a : Value} {ws : List Value} (hK : K.In s'.heap) (hl : ws.length = 1) : BindsTo s' (fdOf K ("NoEnding", some "__init__")) ⟨[a], (["value"] : List Str).zip ws⟩ ((["self", "value"] : List Str).zip (a :: (id : List Value → List Value) ws)) := by
  have kb : KBn K (fdOf K ("NoEnding", some "__init__")) ["self", "value"] 1 ["value"] (fun us ws => us ++ (id : List Value → List Value) ws) (fun us ws => us ++ (id : List V → List V) ws) := T.f_NoEnding_init.kbindsP 1 ["value"] (fun us ws => us ++ id ws) (fun r1 r2 => r1.append r2) fun _ _ _ _ _ _ us ws l1 l2 => match us, ws, l1, l2 with | [_], [_], _, _ => rfl
  exact kb.to s' [a] ws hK rfl hl
theorem xk_NoEnding_value (T : Tx X.K X.mg) (hr : Room m X.A) (hkw : PK X kws t) (hm : 2 ≤ m := by decide) (hg : Gl X "NoEnding" := by rfl) (hall : (backToKw pos (keywordEach kws X.env)).all (·.1.isSome) = true := by rfl) (hks : (backToKw pos (keywordEach kws X.env)).filterMap (·.1) = ([("value" : Str)] : List Str) := by rfl) (hpl : ((backTo pos (starEach [] X.env)).any (·.1) || (backToKw pos (keywordEach kws X.env)).any (·.1.isNone)) = false := by rfl) :
    PE X (.Call (.Name "NoEnding" p) [] kws pos) (tXmkK (ga X.K "NoEnding") ["value"] ["value"] id t) := pe_xmkK (xi_NoEnding T) (ok_NoEnding_init T) (fun _ _ _ hl hK => kx_NoEnding_value T hK hl) (fun r => r) (hr.mono hm) hg T.g_NoEnding hkw hall hks (by decide) hpl
theorem mem_NoName : (("NoName", ["Missing", "SignError"], ["value"]) : Str × List Str × List Str) ∈ excs := List.mem_of_getElem? (i := 23) rfl
theorem xc_NoName (T : Tx K mg) : XCl K (ga K "NoName") := (excsB_cl T.xs mem_NoName).1
theorem nf_NoName_value (T : Tx K mg) : PySem.W.findIn K (.ref (ga K "NoName")) "value" = some none := (excsB_cl T.xs mem_NoName).2.1 "value" (by simp)
theorem b_NoName_init (T : Tx K mg) : Binds K (fdOf K ("NoName", some "__init__")) ["self", "value"] [] := T.f_NoName_init.bindsN fun _ _ _ _ _ _ us hl => match us, hl with | [_, _], _ => rfl
theorem ok_NoName_init (T : Tx K mg) : FnOk P w K mg base CX0 1 (ma K (ga K "NoName") "__init__") (fdOf K ("NoName", some "__init__")) ["self", "value"] (spInitX (ga K "NoName") ["value"]) := by
  refine T.f_NoName_init.ok sc_NoName_init (fun vs H Q E h => spInit_len h) (fun cdv A outer s H vs Q E hr h => ?_)
  exact ⟨_, PSs.nox (pss_one (ps_ost (pv 0) (pv 1))), init1o rfl (xc_NoName T) (nf_NoName_value T) h⟩
theorem xi_NoName (T : Tx K mg) : XIn K (ga K "NoName") (ma K (ga K "NoName") "__init__") ["value"] := ⟨xc_NoName T, T.m_NoName.at_, isFn_type T.m_NoName.fn, (excsB_cl T.xs mem_NoName).2.1⟩
theorem xm_NoName (T : Tx X.K X.mg) (hr : Room m X.A) (ha : PA X (e :: es) t) (hm : 2 ≤ m := by decide) (hg : Gl X "NoName" := by rfl) (he : starEach (e :: es) X.env = (false, eval e X.env) :: starEach es X.env := by rfl) (hpl : (backTo pos (starEach es X.env)).any (·.1) = false := by rfl) :
    PE X (.Call (.Name "NoName" p) (e :: es) [] pos) (tXmk (ga X.K "NoName") ["value"] t) := pe_xmk (sc := default) (qual := "") (pa := default) (bd := []) (xi_NoName T) (ok_NoName_init T) (b_NoName_init T) (by decide) (hr.mono hm) hg T.g_NoName ha (by decide) he hpl
theorem kx_NoName_value (T : Tx K mg) {s' : Shared} {a : Value} {ws : List Value} (hK : K.In s'.heap) (hl : ws.length = 1) : BindsTo s' (fdOf K ("NoName", some "__init__")) ⟨[a], (["value"] : List Str).zip ws⟩ ((["self", "value"] : List Str).zip (a :: (id : List Value → List Value) ws)) := by
  have kb : KBn K (fdOf K ("NoName", some "__init__")) ["self", "value"] 1 ["value"] (fun us ws => us ++ (id : List Value → List Value) ws) (fun us ws => us ++ (id : List V → List V) ws) := T.f_NoName_init.kbindsP 1 ["value"] (fun us ws => us ++ id ws) (fun r1 r2 => r1.append r2) fun _ _ _ _ _ _ us ws l1 l2 => match us, ws, l1, l2 with | [_], [_], _, _ => rfl
  exact kb.to s' [a] ws hK rfl hl
theorem xk_NoName_value (T : Tx X.K X.mg) (hr : Room m X.A) (hkw : PK X kws t) (hm : 2 ≤ m := by decide) (hg : Gl X "NoName" := by rfl) (hall : (backToKw pos (keywordEach kws X.env)).all (·.1.isSome) = true := by rfl) (hks : (backToKw pos (keywordEach kws X.env)).filterMap (·.1) = ([("value" : Str)] : List Str) := by rfl) (hpl : ((backTo pos (starEach [] X.env)).any (·.1) || (backToKw pos (keywordEach kws X.env)).any (·.1.isNone)) = false := by rfl) :
    PE X (.Call (.Name "NoName" p) [] kws pos) (tXmkK (ga X.K "NoName") ["value"] ["value"] id t) := pe_xmkK (xi_NoName T) (ok_NoName_init T) (fun _ _ _ hl hK => kx_NoName_value T hK hl) (fun r => r) (hr.mono hm) hg T.g_NoName hkw hall hks (by decide) hpl
theorem mem_Twice : (("Twice", ["SignError"], ["value"]) : Str × List Str × List Str) ∈ excs := List.mem_of_getElem? (i := 24) rfl
theorem xc_Twice (T : Tx K mg) : XCl K (ga K "Twice") := (excsB_cl T.xs mem_Twice).1
theorem nf_Twice_value (T : Tx K mg) : PySem.W.findIn K (.ref (ga K "Twice")) "value" = some none := (excsB_cl T.xs mem_Twice).2.1 "value" (by simp)
theorem b_Twice_init (T : Tx K mg) : Binds K (fdOf K ("Twice", some "__init__")) ["self", "value"] [] := T.f_Twice_init.bindsN fun _ _ _ _ _ _ us hl => match us, hl with | [_, _], _ => rfl
theorem ok_Twice_init (T : Tx K mg) : FnOk P w K mg base CX0 1 (ma K (ga K "Twice") "__init__") (fdOf K ("Twice", some "__init__")) ["self", "value"] (spInitX (ga K "Twice") ["value"]) := by
  refine T.f_Twice_init.ok sc_Twice_init (fun vs H Q E h => spInit_len h) (fun cdv A outer s H vs Q E hr h => ?_)
  exact ⟨_, PSs.nox (pss_one (ps_ost (pv 0) (pv 1))), init1o rfl (xc_Twice T) (nf_Twice_value T) h⟩
theorem xi_Twice (T : Tx K mg) : XIn K (ga K "Twice") (ma K (ga K "Twice") "__init__") ["value"] := ⟨xc_Twice T, T.m_Twice.at_, isFn_type T.m_Twice.fn, (excsB_cl T.xs mem_Twice).2.1⟩
theorem xm_Twice (T : Tx X.K X.mg) (hr : Room m X.A) (ha : PA X (e :: es) t) (hm : 2 ≤ m := by decide) (hg : Gl X "Twice" := by rfl) (he : starEach (e :: es) X.env = (false, eval e X.env) :: starEach es X.env := by rfl) (hpl : (backTo pos (starEach es X.env)).any (·.1) = false := by rfl) :
    PE X (.Call (.Name "Twice" p) (e :: es) [] pos) (tXmk (ga X.K "Twice") ["value"] t) := pe_xmk (sc := default) (qual := "") (pa := default) (bd := []) (xi_Twice T) (ok_Twice_init T) (b_Twice_init T) (by decide) (hr.mono hm) hg T.g_Twice ha (by decide) he hpl
theorem kx_Twice_value (T : Tx K mg) {s' : Shared} {a : Value} {ws : List Value} (hK : K.In s'.heap) (hl : ws.length = 1) : BindsTo s' (fdOf K ("Twice", some "__init__")) ⟨[a], (["value"] : List Str).zip ws⟩ ((["self", "value"] : List Str).zip (a :: (id : List Value → List Value) ws)) := by
  have kb : KBn K (fdOf K ("Twice", some "__init__")) ["self", "value"] 1 ["value"] (fun us ws => us ++ (id : List Value → List Value) ws) (fun us ws => us ++ (id : List V → List V) ws) := T.f_Twice_init.kbindsP 1 ["value"] (fun us ws => us ++ id ws) (fun r1 r2 => r1.append r2) fun _ _ _ _ _ _ us ws l1 l2 => match us, ws, l1, l2 with | [_], [_], _, _ => rfl
  exact kb.to s' [a] ws hK rfl hl
theorem xk_Twice_value (T : Tx X.K X.mg) (hr : Room m X.A) (hkw : PK X kws t) (hm : 2 ≤ m := by decide) (hg : Gl X "Twice" := by rfl) (hall : (backToKw pos (keywordEach kws X.env)).all (·.1.isSome) = true := by rfl) (hks : (backToKw pos (keywordEach kws X.env)).filterMap (·.1) = ([("value" : Str)] : List Str) := by rfl) (hpl : ((backTo pos (starEach [] X.env)).any (·.1) || (backToKw pos (keywordEach kws X.env)).any (·.1.isNone)) = false := by rfl) :
    PE X (.Call (.Name "Twice" p) [] kws pos) (tXmkK (ga X.K "Twice") ["value"] ["value"] id t) := pe_xmkK (xi_Twice T) (ok_Twice_init T) (fun _ _ _ hl hK => kx_Twice_value T hK hl) (fun r => r) (hr.mono hm) hg T.g_Twice hkw hall hks (by decide) hpl
theorem mem_Impossible : (("Impossible", ["SignError"], ["paper"]) : Str × List Str × List Str) ∈ excs := List.mem_of_getElem? (i := 25) rfl
theorem xc_Impossible (T : Tx K mg) : XCl K (ga K "Impossible") := (excsB_cl T.xs mem_Impossible).1
theorem nf_Impossible_paper (T : Tx K mg) : PySem.W.findIn K (.ref (ga K "Impossible")) "paper" = some none := (excsB_cl T.xs mem_Impossible).2.1 "paper" (by simp)
theorem b_Impossible_init (T : Tx K mg) : Binds K (fdOf K ("Impossible", some "__init__")) ["self", "paper"] [] := T.f_Impossible_init.bindsN fun _ _ _ _ _ _ us hl => match us, hl with | [_, _], _ => rfl
theorem ok_Impossible_init (T : Tx K mg) : FnOk P w K mg base CX0 1 (ma K (ga K "Impossible") "__init__") (fdOf K ("Impossible", some "__init__")) ["self", "paper"] (spInitX (ga K "Impossible") ["paper"]) := by
  refine T.f_Impossible_init.ok sc_Impossible_init (fun vs H Q E h => spInit_len h) (fun cdv A outer s H vs Q E hr h => ?_)
  exact ⟨_, PSs.nox (pss_one (ps_ost (pv 0) (pv 1))), init1o rfl (xc_Impossible T) (nf_Impossible_paper T) h⟩
theorem xi_Impossible (T : Tx K mg) : XIn K (ga K "Impossible") (ma K (ga K "Impossible") "__init__") ["paper"] := ⟨xc_Impossible T, T.m_Impossible.at_, isFn_type T.m_Impossible.fn, (excsB_cl T.xs mem_Impossible).2.1⟩
theorem xm_Impossible (T : Tx X.K X.mg) (hr : Room m X.A) (ha : PA X (e :: es) t) (hm : 2 ≤ m := by decide) (hg : Gl X "Impossible" := by rfl) (he : starEach (e :: es) X.env = (false, eval e X.env) :: starEach es X.env := by rfl) (hpl : (backTo pos (starEach es X.env)).any (·.1) = false := by rfl) :
    PE X (.Call (.Name "Impossible" p) (e :: es) [] pos) (tXmk (ga X.K "Impossible") ["paper"] t) := pe_xmk (sc := default) (qual := "") (pa := default) (bd := []) (xi_Impossible T) (ok_Impossible_init T) (b_Impossible_init T) (by decide) (hr.mono hm) hg T.g_Impossible ha (by decide) he hpl
theorem kx_Impossible_paper (T : Tx K mg) {s' : Shared} {a : Value} {ws : List Value} (hK : K.In s'.heap) (hl : ws.length = 1) : BindsTo s' (fdOf K ("Impossible", some "__init__")) ⟨[a], (["paper"] : List Str).zip ws⟩ ((["self", "paper"] : List Str).zip (a :: (id : List Value → List Value) ws)) := by
  have kb : KBn K (fdOf K ("Impossible", some "__init__")) ["self", "paper"] 1 ["paper"] (fun us ws => us ++ (id : List Value → List Value) ws) (fun us ws => us ++ (id : List V → List V) ws) := T.f_Impossible_init.kbindsP 1 ["paper"] (fun us ws => us ++ id ws) (fun r1 r2 => r1.append r2) fun _ _ _ _ _ _ us ws l1 l2 => match us, ws, l1, l2 with | [_], [_], _, _ => rfl
  exact kb.to s' [a] ws hK rfl hl
theorem xk_Impossible_paper (T : Tx X.K X.mg) (hr : Room m X.A) (hkw : PK X kws t) (hm : 2 ≤ m := by decide) (hg : Gl X "Impossible" := by rfl) (hall : (backToKw pos (keywordEach kws X.env)).all (·.1.isSome) = true := by rfl) (hks : (backToKw pos (keywordEach kws X.env)).filterMap (·.1) = ([("paper" : Str)] : List Str) := by rfl) (hpl : ((backTo pos (starEach [] X.env)).any (·.1) || (backToKw pos (keywordEach kws X.env)).any (·.1.isNone)) = false := by rfl) :
    PE X (.Call (.Name "Impossible" p) [] kws pos) (tXmkK (ga X.K "Impossible") ["paper"] ["paper"] id t) := pe_xmkK (xi_Impossible T) (ok_Impossible_init T) (fun _ _ _ hl hK => kx_Impossible_paper T hK hl) (fun r => r) (hr.mono hm) hg T.g_Impossible hkw hall hks (by decide) hpl
theorem mem_TooMany : (("TooMany", ["SignError"], ["what", "most"]) : Str × List Str × List Str) ∈ excs := List.mem_of_getElem? (i := 26) rfl
theorem xc_TooMany (T : Tx K mg) : XCl K (ga K "TooMany") := (excsB_cl T.xs mem_TooMany).1
theorem nf_TooMany_what (T : Tx K mg) : PySem.W.findIn K (.ref (ga K "TooMany")) "what" = some none := (excsB_cl T.xs mem_TooMany).2.1 "what" (by simp)
theorem nf_TooMany_most (T : Tx K mg) : PySem.W.findIn K (.ref (ga K "TooMany")) "most" = some none := (excsB_cl T.xs mem_TooMany).2.1 "most" (by simp)
theorem b_TooMany_init (T : Tx K mg) : Binds K (fdOf K ("TooMany", some "__init__")) ["self", "what", "most"] [] := T.f_TooMany_init.bindsN fun _ _ _ _ _ _ us hl => match us, hl with | [_, _, _], _ => rfl
theorem ok_TooMany_init (T : Tx K mg) : FnOk P w K mg base CX0 1 (ma K (ga K "TooMany") "__init__") (fdOf K ("TooMany", some "__init__")) ["self", "what", "most"] (spInitX (ga K "TooMany") ["what", "most"]) := by
  refine T.f_TooMany_init.ok sc_TooMany_init (fun vs H Q E h => spInit_len h) (fun cdv A outer s H vs Q E hr h => ?_)
  exact ⟨_, PSs.nox (pss_cons (ps_ost (pv 0) (pv 1)) (pss_one (ps_ost (pv 0) (pv 2)))), init2 rfl (xc_TooMany T) (nf_TooMany_what T) (nf_TooMany_most T) h⟩
theorem xi_TooMany (T : Tx K mg) : XIn K (ga K "TooMany") (ma K (ga K "TooMany") "__init__") ["what", "most"] := ⟨xc_TooMany T, T.m_TooMany.at_, isFn_type T.m_TooMany.fn, (excsB_cl T.xs mem_TooMany).2.1⟩
theorem xm_TooMany (T : Tx X.K X.mg) (hr : Room m X.A) (ha : PA X (e :: es) t) (hm : 2 ≤ m := by decide) (hg : Gl X "TooMany" := by rfl) (he : starEach (e :: es) X.env = (false, eval e X.env) :: starEach es X.env := by rfl) (hpl : (backTo pos (starEach es X.env)).any (·.1) = false := by rfl) :
    PE X (.Call (.Name "TooMany" p) (e :: es) [] pos) (tXmk (ga X.K "TooMany") ["what", "most"] t) := pe_xmk (sc := default) (qual := "") (pa := default) (bd := []) (xi_TooMany T) (ok_TooMany_init T) (b_TooMany_init T) (by decide) (hr.mono hm) hg T.g_TooMany ha (by decide) he hpl
theorem kx_TooMany_most_what (T : Tx K mg) {s' : Shared} {a : Value} {ws : List Value} (hK : K.In s'.heap) (hl : ws.length = 2) : BindsTo s' (fdOf K ("TooMany", some "__init__")) ⟨[a], (["most", "what"] : List Str).zip ws⟩ ((["self", "what", "most"] : List Str).zip (a :: (swap2 : List Value → List Value) ws)) := by
  have kb : KBn K (fdOf K ("TooMany", some "__init__")) ["self", "what", "most"] 1 ["most", "what"] (fun us ws => us ++ (swap2 : List Value → List Value) ws) (fun us ws => us ++ (swap2 : List V → List V) ws) := T.f_TooMany_init.kbindsP 1 ["most", "what"] (fun us ws => us ++ swap2 ws) (fun r1 r2 => r1.append (vals_swap2 r2)) fun _ _ _ _ _ _ us ws l1 l2 => match us, ws, l1, l2 with | [_], [_, _], _, _ => rfl
  exact kb.to s' [a] ws hK rfl hl
theorem xk_TooMany_most_what (T : Tx X.K X.mg) (hr : Room m X.A) (hkw : PK X kws t) (hm : 2 ≤ m := by decide) (hg : Gl X "TooMany" := by rfl) (hall : (backToKw pos (keywordEach kws X.env)).all (·.1.isSome) = true := by rfl) (hks : (backToKw pos (keywordEach kws X.env)).filterMap (·.1) = ([("most" : Str), ("what" : Str)] : List Str) := by rfl) (hpl : ((backTo pos (starEach [] X.env)).any (·.1) || (backToKw pos (keywordEach kws X.env)).any (·.1.isNone)) = false := by rfl) :
    PE X (.Call (.Name "TooMany" p) [] kws pos) (tXmkK (ga X.K "TooMany") ["what", "most"] ["most", "what"] swap2 t) := pe_xmkK (xi_TooMany T) (ok_TooMany_init T) (fun _ _ _ hl hK => kx_TooMany_most_what T hK hl) (fun r => vals_swap2 r) (hr.mono hm) hg T.g_TooMany hkw hall hks (by decide) hpl
theorem mem_Nothing : (("Nothing", ["SignError"], []) : Str × List Str × List Str) ∈ excs := List.mem_of_getElem? (i := 27) rfl
theorem xc_Nothing (T : Tx K mg) : XCl K (ga K "Nothing") := (excsB_cl T.xs mem_Nothing).1
theorem x0_Nothing (T : Tx X.K X.mg) (hr : Room m X.A) (hg : Gl X "Nothing" := by rfl) : PE X (.Call (.Name "Nothing" p) [] [] pos) (fun _ H Q => ∀ a, H a = none → Q (.ref a) (upd H a (exo a (ga X.K "Nothing") none))) :=
  pe_xmk0 F.excBase_ValueError (exc_ok T.e_Nothing).1 (xc_Nothing T).oex.kC hg T.g_Nothing
theorem mem_BadText : (("BadText", ["SignError"], ["line", "item"]) : Str × List Str × List Str) ∈ excs := List.mem_of_getElem? (i := 28) rfl
theorem xc_BadText (T : Tx K mg) : XCl K (ga K "BadText") := (excsB_cl T.xs mem_BadText).1
theorem nf_BadText_line (T : Tx K mg) : PySem.W.findIn K (.ref (ga K "BadText")) "line" = some none := (excsB_cl T.xs mem_BadText).2.1 "line" (by simp)
theorem nf_BadText_item (T : Tx K mg) : PySem.W.findIn K (.ref (ga K "BadText")) "item" = some none := (excsB_cl T.xs mem_BadText).2.1 "item" (by simp)
theorem b_BadText_init (T : Tx K mg) : Binds K (fdOf K ("BadText", some "__init__")) ["self", "line", "item"] [] := T.f_BadText_init.bindsN fun _ _ _ _ _ _ us hl => match us, hl with | [_, _, _], _ => rfl
theorem ok_BadText_init (T : Tx K mg) : FnOk P w K mg base CX0 1 (ma K (ga K "BadText") "__init__") (fdOf K ("BadText", some "__init__")) ["self", "line", "item"] (spInitX (ga K "BadText") ["line", "item"]) := by
  refine T.f_BadText_init.ok sc_BadText_init (fun vs H Q E h => spInit_len h) (fun cdv A outer s H vs Q E hr h => ?_)
  exact ⟨_, PSs.nox (pss_cons (ps_ost (pv 0) (pv 1)) (pss_one (ps_ost (pv 0) (pv 2)))), init2 rfl (xc_BadText T) (nf_BadText_line T) (nf_BadText_item T) h⟩
theorem xi_BadText (T : Tx K mg) : XIn K (ga K "BadText") (ma K (ga K "BadText") "__init__") ["line", "item"] := ⟨xc_BadText T, T.m_BadText.at_, isFn_type T.m_BadText.fn, (excsB_cl T.xs mem_BadText).2.1⟩
theorem xm_BadText (T : Tx X.K X.mg) (hr : Room m X.A) (ha : PA X (e :: es) t) (hm : 2 ≤ m := by decide) (hg : Gl X "BadText" := by rfl) (he : starEach (e :: es) X.env = (false, eval e X.env) :: starEach es X.env := by rfl) (hpl : (backTo pos (starEach es X.env)).any (·.1) = false := by rfl) :
    PE X (.Call (.Name "BadText" p) (e :: es) [] pos) (tXmk (ga X.K "BadText") ["line", "item"] t) := pe_xmk (sc := default) (qual := "") (pa := default) (bd := []) (xi_BadText T) (ok_BadText_init T) (b_BadText_init T) (by decide) (hr.mono hm) hg T.g_BadText ha (by decide) he hpl
theorem kx_BadText_item_line (T : Tx K mg) {s' : Shared} {a : Value} {ws : List Value} (hK : K.In s'.heap) (hl : ws.length = 2) : BindsTo s' (fdOf K ("BadText", some "__init__")) ⟨[a], (["item", "line"] : List Str).zip ws⟩ ((["self", "line", "item"] : List Str).zip (a :: (swap2 : List Value → List Value) ws)) := by
  have kb : KBn K (fdOf K ("BadText", some "__init__")) ["self", "line", "item"] 1 ["item", "line"] (fun us ws => us ++ (swap2 : List Value → List Value) ws) (fun us ws => us ++ (swap2 : List V → List V) ws) := T.f_BadText_init.kbindsP 1 ["item", "line"] (fun us ws => us ++ swap2 ws) (fun r1 r2 => r1.append (vals_swap2 r2)) fun _ _ _ _ _ _ us ws l1 l2 => match us, ws, l1, l2 with | [_], [_, _], _, _ => rfl
  exact kb.to s' [a] ws hK rfl hl
theorem xk_BadText_item_line (T : Tx X.K X.mg) (hr : Room m X.A) (hkw : PK X kws t) (hm : 2 ≤ m := by decide) (hg : Gl X "BadText" := by rfl) (hall : (backToKw pos (keywordEach kws X.env)).all (·.1.isSome) = true := by rfl) (hks : (backToKw pos (keywordEach kws X.env)).filterMap (·.1) = ([("item" : Str), ("line" : Str)] : List Str) := by rfl) (hpl : ((backTo pos (starEach [] X.env)).any (·.1) || (backToKw pos (keywordEach kws X.env)).any (·.1.isNone)) = false := by rfl) :
    PE X (.Call (.Name "BadText" p) [] kws pos) (tXmkK (ga X.K "BadText") ["line", "item"] ["item", "line"] swap2 t) := pe_xmkK (xi_BadText T) (ok_BadText_init T) (fun _ _ _ hl hK => kx_BadText_item_line T hK hl) (fun r => vals_swap2 r) (hr.mono hm) hg T.g_BadText hkw hall hks (by decide) hpl
theorem mem_BadLine : (("BadLine", ["SignError"], ["line", "error"]) : Str × List Str × List Str) ∈ excs := List.mem_of_getElem? (i := 29) rfl
theorem xc_BadLine (T : Tx K mg) : XCl K (ga K "BadLine") := (excsB_cl T.xs mem_BadLine).1
theorem nf_BadLine_line (T : Tx K mg) : PySem.W.findIn K (.ref (ga K "BadLine")) "line" = some none := (excsB_cl T.xs mem_BadLine).2.1 "line" (by simp)
theorem nf_BadLine_error (T : Tx K mg) : PySem.W.findIn K (.ref (ga K "BadLine")) "error" = some none := (excsB_cl T.xs mem_BadLine).2.1 "error" (by simp)
theorem b_BadLine_init (T : Tx K mg) : Binds K (fdOf K ("BadLine", some "__init__")) ["self", "line", "error"] [] := T.f_BadLine_init.bindsN fun _ _ _ _ _ _ us hl => match us, hl with | [_, _, _], _ => rfl
theorem ok_BadLine_init (T : Tx K mg) : FnOk P w K mg base CX0 1 (ma K (ga K "BadLine") "__init__") (fdOf K ("BadLine", some "__init__")) ["self", "line", "error"] (spInitX (ga K "BadLine") ["line", "error"]) := by
  refine T.f_BadLine_init.ok sc_BadLine_init (fun vs H Q E h => spInit_len h) (fun cdv A outer s H vs Q E hr h => ?_)
  exact ⟨_, PSs.nox (pss_cons (ps_ost (pv 0) (pv 1)) (pss_one (ps_ost (pv 0) (pv 2)))), init2 rfl (xc_BadLine T) (nf_BadLine_line T) (nf_BadLine_error T) h⟩
theorem xi_BadLine (T : Tx K mg) : XIn K (ga K "BadLine") (ma K (ga K "BadLine") "__init__") ["line", "error"] := ⟨xc_BadLine T, T.m_BadLine.at_, isFn_type T.m_BadLine.fn, (excsB_cl T.xs mem_BadLine).2.1⟩
theorem xm_BadLine (T : Tx X.K X.mg) (hr : Room m X.A) (ha : PA X (e :: es) t) (hm : 2 ≤ m := by decide) (hg : Gl X "BadLine" := by rfl) (he : starEach (e :: es) X.env = (false, eval e X.env) :: starEach es X.env := by rfl) (hpl : (backTo pos (starEach es X.env)).any (·.1) = false := by rfl) :
    PE X (.Call (.Name "BadLine" p) (e :: es) [] pos) (tXmk (ga X.K "BadLine") ["line", "error"] t) := pe_xmk (sc := default) (qual := "") (pa := default) (bd := []) (xi_BadLine T) (ok_BadLine_init T) (b_BadLine_init T) (by decide) (hr.mono hm) hg T.g_BadLine ha (by decide) he hpl
theorem kx_BadLine_error_line (T : Tx K mg) {s' : Shared} {a : Value} {ws : List Value} (hK : K.In s'.heap) (hl : ws.length = 2) : BindsTo s' (fdOf K ("BadLine", some "__init__")) ⟨[a], (["error", "line"] : List Str).zip ws⟩ ((["self", "line", "error"] : List Str).zip (a :: (swap2 : List Value → List Value) ws)) := by
  have kb : KBn K (fdOf K ("BadLine", some "__init__")) ["self", "line", "error"] 1 ["error", "line"] (fun us ws => us ++ (swap2 : List Value → List Value) ws) (fun us ws => us ++ (swap2 : List V → List V) ws) := T.f_BadLine_init.kbindsP 1 ["error", "line"] (fun us ws => us ++ swap2 ws) (fun r1 r2 => r1.append (vals_swap2 r2)) fun _ _ _ _ _ _ us ws l1 l2 => match us, ws, l1, l2 with | [_], [_, _], _, _ => rfl
  exact kb.to s' [a] ws hK rfl hl
theorem xk_BadLine_error_line (T : Tx X.K X.mg) (hr : Room m X.A) (hkw : PK X kws t) (hm : 2 ≤ m := by decide) (hg : Gl X "BadLine" := by rfl) (hall : (backToKw pos (keywordEach kws X.env)).all (·.1.isSome) = true := by rfl) (hks : (backToKw pos (keywordEach kws X.env)).filterMap (·.1) = ([("error" : Str), ("line" : Str)] : List Str) := by rfl) (hpl : ((backTo pos (starEach [] X.env)).any (·.1) || (backToKw pos (keywordEach kws X.env)).any (·.1.isNone)) = false := by rfl) :
    PE X (.Call (.Name "BadLine" p) [] kws pos) (tXmkK (ga X.K "BadLine") ["line", "error"] ["error", "line"] swap2 t) := pe_xmkK (xi_BadLine T) (ok_BadLine_init T) (fun _ _ _ hl hK => kx_BadLine_error_line T hK hl) (fun r => vals_swap2 r) (hr.mono hm) hg T.g_BadLine hkw hall hks (by decide) hpl
end
end K00
set_option Elab.async false
set_option linter.all false
set_option maxRecDepth 100000
set_option maxHeartbeats 4000000
set_option autoImplicit false
namespace Evl
open PySem PySem.Spec PyProof.Rows L2
section
variable {K : PySem.W.Frag} {σ : L2.St} {H H' : Hp} {ta tb te tx : TE} {t u : TT} {x y z v : V} {D : Ends} {tu tw tz : TS} {g : TG}
theorem s_retC {ta : TA} {P : List V → Hp → Prop} (h : ∀ H1, Ex H H1 → ∀ Q : List V → Hp → Prop, (∀ vs H2, Ex H1 H2 → P vs H2 → Q vs H2) → ta σ H1 Q)
    (k : ∀ vs H1, Ex H H1 → P vs H1 → vs.length ≤ 1000 ∧ ∀ p, H1 p = none → D.rt (.ref p) (upd H1 p (.lst vs))) : tRet (tLst ta) D σ H :=
  h H (Ex.refl H) _ fun vs H1 e hp => ⟨sz_of (by have := (k vs H1 e hp).1; omega), (k vs H1 e hp).2⟩
theorem cut_to {xs : List V} {n : Nat} : cutV xs none (some (n : Int)) = xs.take n := by
  unfold cutV
  rw [HT.sIx_nat]
  show (xs.drop 0).take (min n xs.length - 0) = _
  rw [List.drop_zero, Nat.sub_zero]
  rcases Nat.le_total n xs.length with h | h
  · rw [Nat.min_eq_left h]
  · rw [Nat.min_eq_right h, List.take_length, List.take_of_length_le h]
theorem cut_from {xs : List V} {n : Nat} : cutV xs (some (n : Int)) none = xs.drop n := by
  unfold cutV
  rw [HT.sIx_nat]
  show (xs.drop (min n xs.length)).take (xs.length - min n xs.length) = _
  rcases Nat.le_total n xs.length with h | h
  · rw [Nat.min_eq_left h, List.take_of_length_le (by rw [List.length_drop]; omega)]
  · rw [Nat.min_eq_right h, List.drop_length, List.drop_of_length_le h, List.take_nil]
end
end Evl
namespace He
open PySem PySem.Spec PyProof.Rows L2 Evl
section
variable {K : PySem.W.Frag} {σ : L2.St} {H H' : Hp} {te tb : TE}
theorem el_cat {i : Nat} {p : Addr} {xs ys : List V} (hv : σ[i]? = some (some (.ref p))) (hp : H p = some (.lst xs)) (h : EvL tb σ H ys) (hz : xs.length + ys.length ≤ 100000) : EvL (tOp rCat (tVar i) tb) σ H (xs ++ ys) := fun H1 e Q q =>
  ⟨_, hv, h H1 e _ fun b H2 hb e2 h2 => ⟨p, b, _, _, rfl, rfl, e2 _ _ (e _ _ hp), h2, sz_of hz, fun r hr => q r _ (fresh_back e2 hr) (e2.trans (Ex.new hr)) upd_same⟩⟩
/-- an object of an exception class that the program has -/
structure XOb (K : PySem.W.Frag) (xs : List (Str × List Str × List Str)) (H : Hp) (a : Addr) (x : Str) (bases fs : List Str) : Prop where
  mem : (x, bases, fs) ∈ xs
  cl : XCl K (ga K x)
  st : XSt H a (ga K x)
theorem XOb.ex {xs : List (Str × List Str × List Str)} {a : Addr} {x : Str} {bases fs : List Str} (h : XOb K xs H a x bases fs) (e : Ex H H') : XOb K xs H' a x bases fs := ⟨h.mem, h.cl, h.st.ex e⟩
variable {xs : List (Str × List Str × List Str)} {a : Addr} {x : Str} {bases fs : List Str}
theorem rc_isX (hX : excsB K xs = true) (hc : ∀ e ∈ xs, ∀ y ∈ e.2.1, y ∈ xs.map (·.1)) (h : XOb K xs H a x bases fs) {d : Str} {b2 f2 : List Str} (md : (d, b2, f2) ∈ xs) :
    RC (rIsX K) [.ref a, .ref (ga K d)] H (.bl (decide (d ∈ x :: bases))) := fun H1 e Q q =>
  ⟨a, ga K x, .ref (ga K d), .ref (ga K d), _, rfl, h.cl, h.st.ex e, .own _, kit_exc hX h.mem md (hc _ h.mem), q H1 (Ex.refl H1)⟩
theorem kit_anyX (hX : excsB K xs = true) (mx : (x, bases, fs) ∈ xs) : ∀ (ts : List String), (∀ t ∈ ts, PySem.W.kitMeta t = true) → PySem.W.kitAny K (.ref (ga K x)) (ts.map .type) = some (ts.any fun t => HandSPX.veTail.contains (.type t))
  | [], _ => rfl
  | t :: r, h => by
    have h1 := kit_excT hX mx (h t List.mem_cons_self)
    have h2 := kit_anyX hX mx r fun u hu => h u (List.mem_cons_of_mem _ hu)
    show PySem.W.kitAny K (.ref (ga K x)) (.type t :: r.map .type) = _
    unfold PySem.W.kitAny
    rw [h1, List.any_cons]
    cases HandSPX.veTail.contains (.type t) with
    | true => rfl
    | false => exact h2
theorem rc_isXT (hX : excsB K xs = true) (h : XOb K xs H a x bases fs) {t : String} (ht : PySem.W.kitMeta t = true) : RC (rIsX K) [.ref a, .ty t] H (.bl (HandSPX.veTail.contains (.type t))) := fun H1 e Q q =>
  ⟨a, ga K x, .ty t, .type t, _, rfl, h.cl, h.st.ex e, .ty t, kit_excT hX h.mem ht, q H1 (Ex.refl H1)⟩
theorem ev_isXs (hX : excsB K xs = true) (h : XOb K xs H a x bases fs) {tu : TE} (ts : List String) (ht : ∀ t ∈ ts, PySem.W.kitMeta t = true) (ha : Ev te σ H (.ref a)) (hu : EvU tu σ H (ts.map V.ty)) :
    Ev (tCB (rIsXT K) (tCons te (tCons tu tNil))) σ H (.bl (ts.any fun t => HandSPX.veTail.contains (.type t))) := fun H1 e Q q =>
  ha H1 e _ fun H2 e2 => hu H2 (e.trans e2) _ fun p H3 _ e3 hp =>
    ⟨a, ga K x, p, ts.map V.ty, ts.map .type, _, rfl, h.cl, h.st.ex ((e.trans e2).trans e3), hp, cls_all ts, kit_anyX hX h.mem ts ht, q H3 (e2.trans e3)⟩
theorem eqvs_bools : ∀ l : List Bool, Eqvs (l.map V.bl) (l.map V.bl) (l.map fun _ => true)
  | [] => .nil
  | b :: r => .cons (by have h := Eqv.bl b b; rw [beq_self_eq_true] at h; exact h) (eqvs_bools r)
theorem leq_bools (l : List Bool) : LEq (l.map V.bl) (l.map V.bl) true := .inr ⟨_, eqvs_bools l, by rw [List.all_map]; exact (List.all_eq_true.mpr fun _ _ => rfl).symm⟩
theorem given_true (n : Nat) (v : Nat → V) : given n (fun _ => true) v = (List.range n).map v := by
  unfold given
  rw [List.filter_eq_self.mpr fun _ _ => rfl]
theorem ev_chain {r r' : R2} {ta tc : TE} {x y z : V} {b c : Bool} (ha : Ev ta σ H x) (hb : Ev tb σ H y) (hr : RV r x y H (.bl b)) (hc : b = true → Ev tc σ H z) (hr' : b = true → RV r' y z H (.bl c)) : Ev (tChain r r' ta tb tc) σ H (.bl (b && c)) := fun H1 e Q q =>
  ha H1 e _ fun H2 e2 => hb H2 (e.trans e2) _ fun H3 e3 => hr H3 ((e.trans e2).trans e3) _ fun H4 e4 => ⟨b, rfl, by
    cases b with
    | true =>
      show tc σ H4 fun w' H5 => r' y w' H5 Q
      exact hc rfl H4 (((e.trans e2).trans e3).trans e4) _ fun H5 e5 => hr' rfl H5 ((((e.trans e2).trans e3).trans e4).trans e5) Q fun H6 e6 => q H6 ((((e2.trans e3).trans e4).trans e5).trans e6)
    | false =>
      show Q (.bl false) H4
      exact q H4 ((e2.trans e3).trans e4)⟩
end
end He
set_option Elab.async false
set_option linter.all false
set_option maxRecDepth 100000
set_option maxHeartbeats 4000000
set_option autoImplicit false
namespace K00
open PySem PySem.Spec PyProof.Rows L2 He Evl
def spPen (K : PySem.W.Frag) : Sp := fun vs H Q _ => ∃ (a : Addr) (ns : List Int), vs = [.ref a] ∧ SqL K H a (ns.map V.int) ∧ ns.length ≤ 63 ∧ ∀ p c H', Ex H H' → PenAt K 0 H' p c → Q (.ref p) H'
/-- a drawn value -/
structure ValAt (K : PySem.W.Frag) (H : Hp) (x : V) : Prop where
  self : SelfV K H x
  eqv : Eqv x x true
theorem eqv_int (i : Int) : Eqv (.int i) (.int i) true := by
  have h := Eqv.int i i
  rw [beq_self_eq_true] at h
  exact h
theorem eqv_str (i : Str) : Eqv (.str i) (.str i) true := by
  have h := Eqv.str i i
  rw [beq_self_eq_true] at h
  exact h
theorem eqv_bl (i : Bool) : Eqv (.bl i) (.bl i) true := by
  have h := Eqv.bl i i
  rw [beq_self_eq_true] at h
  exact h
theorem tos_len {d : Int} (d0 : 0 ≤ d) (d1 : d < 80) : (Str.ofString (toString d)).length ≤ 10 := by
  have h : ∀ m : Nat, m < 80 → (Str.ofString (toString (m : Int))).length ≤ 10 := by decide +kernel
  obtain ⟨m, rfl⟩ : ∃ m : Nat, d = (m : Int) := ⟨d.toNat, (Int.toNat_of_nonneg d0).symm⟩
  exact h m (by omega)
theorem shx (d : Int) : SeqAt.shaped (.tuple [.int d, .tuple [.str "x"]]) = true := by
  have h : PyData.strOk "x" = true := by decide +kernel
  have h2 : (PyData.tuple [PyData.int 0, PyData.tuple [PyData.str "x"]]).depth ≤ 64 := by decide +kernel
  unfold SeqAt.shaped
  simp [PyData.canLay0, PyData.canLayAll0]
  exact ⟨h, h2⟩
def spValue (K : PySem.W.Frag) : Sp := fun vs H Q _ => ∃ (p c : Addr) (n : Nat), vs = [.ref p] ∧ PenAt K n H p c ∧ n ≤ 10000 ∧ ∀ (x : V) (H' : Hp), (∀ H'' : Hp, Off p H' H'' → ValAt K H'' x) → Off p H H' → PenAt K (n + 2) H' p c → Q x H'
section
variable {P : Program} {w : World} {K : PySem.W.Frag} {mg : Str → Option Value} {base : Heap}
theorem b_l_draw (T : Tx K mg) : Binds K (fdOf K ("_law_draw", none)) ["_law_pen_here", "_law_many"] [] := T.f_l_draw.bindsN fun _ _ _ _ _ _ us hl => match us, hl with | [_, _], _ => rfl
theorem b_l_pen (T : Tx K mg) : Binds K (fdOf K ("_law_pen", none)) ["_law_script"] [] := T.f_l_pen.bindsN fun _ _ _ _ _ _ us hl => match us, hl with | [_], _ => rfl
theorem b_l_pick (T : Tx K mg) : Binds K (fdOf K ("_law_pick", none)) ["_law_pen_here", "_law_some"] [] := T.f_l_pick.bindsN fun _ _ _ _ _ _ us hl => match us, hl with | [_, _], _ => rfl
theorem b_l_value (T : Tx K mg) : Binds K (fdOf K ("_law_value", none)) ["_law_pen_here"] [] := T.f_l_value.bindsN fun _ _ _ _ _ _ us hl => match us, hl with | [_], _ => rfl
theorem ok_l_pen (T : Tx K mg) : FnOk P w K mg base CX0 1 (ga K "_law_pen") (fdOf K ("_law_pen", none)) ["_law_script"] (spPen K) := by
  refine T.f_l_pen.ok sc_l_pen (fun vs H Q E h => ?_) (fun cdv A outer s H vs Q E hr h => ?_)
  · obtain ⟨a, ns, rfl, _⟩ := h
    rfl
  · refine ⟨_, PSs.nox (pss_one (ps_ret (pe_lst (pa_cons (pe_lc (own := [("_law_cell", 1)]) (g := (gName 1)) (tt := tYes) rfl sc_l_pen.nd (pi_list (pe_slice sl_list (pv 0) po_none (po_some pe_int))) (blkOk_by (N := ["_law_script", "_law_cell"]) (sc := defScope s_l_pen) (by decide +kernel)) (fun _ _ _ _ _ => pg_name (i := 1) sc_l_pen.nd rfl (Or.inl rfl)) (fun _ _ _ _ _ => pts_nil) (fun _ _ _ _ _ => (pe_callTy call_int1 (by rfl) T.n_int boot_int (pa_cons (pv 1) pa_nil)))) (pa_cons pe_int (pa_cons pe_int pa_nil)))))), ?_⟩
    -- slots: [(0, '_law_script'), (1, '_law_cell')]
    obtain ⟨a, ns, rfl, hq, hl, k⟩ := h
    have hsl : cutV (ns.map V.int) none (some 61) = (ns.take 61).map V.int := by
      exact (cut_to (n := 61)).trans (List.map_take ..).symm
    have el : EvL (tSl (rSlL K) (tVar 0) tNoPart (tPart (tC (.int 61)))) (start ["_law_script", "_law_cell"] [.ref a]) H ((ns.take 61).map V.int) := by
      rw [← hsl]
      exact el_sl (ev_var rfl) eo_none (eo_some ev_c) hq
    have hg : given ((ns.take 61).map V.int).length (fun _ => true) (fun i => .int ((ns.take 61).getD i 0)) = (ns.take 61).map V.int := by
      refine given_all rfl fun i hi => ?_
      rw [List.length_map] at hi
      rw [List.getElem?_map, List.getElem?_eq_getElem hi, List.getD_eq_getElem?_getD, List.getElem?_eq_getElem hi]
      rfl
    have el2 := el_lcNL (K := K) (j := 1) (vs := [1]) (t := tYes) (te := tCB (fun xs H Q => (∃ i, xs = [.int i] ∧ Q (.int i) H) ∨ ∃ k, xs = [.bl k] ∧ Q (.int (if k then 1 else 0)) H) (tCons (tVar 1) tNil)) (fun _ => true) (fun i => .int ((ns.take 61).getD i 0)) el (by rw [List.length_map, List.length_take]; omega) (fun _ => rfl) (fun _ _ _ _ _ => et_yes) (fun i x H1 e hi _ => by
      rw [List.getElem?_map] at hi
      cases hz : (ns.take 61)[i]? with
      | none =>
        rw [hz] at hi
        cases hi
      | some z =>
        rw [hz] at hi
        obtain rfl : V.int z = x := Option.some.inj hi
        rw [List.getD_eq_getElem?_getD, hz]
        exact ev_cb (ea_cons (ev_var rfl) ea_nil) (fun H1 _ Q q => .inl ⟨z, rfl, q H1 (Ex.refl H1)⟩))
    rw [hg] at el2
    have l3 := ea_consL (P := fun vs H2 => ∃ c, vs = [V.ref c, .int 0, .int 0] ∧ Ex H H2 ∧ H2 c = some (.lst ((ns.take 61).map V.int))) el2 (tr := tCons (tC (.int 0)) (tCons (tC (.int 0)) tNil)) (fun c H1 h1 e1 Q q => q _ H1 (Ex.refl H1) ⟨c, rfl, e1, h1⟩)
    refine s_retC (P := fun vs H2 => ∃ c, vs = [V.ref c, .int 0, .int 0] ∧ Ex H H2 ∧ H2 c = some (.lst ((ns.take 61).map V.int))) (fun H1 e1 Q q => ?_) (fun vs H2 e2 hv => ?_)
    · exact l3 H1 e1 Q q
    · obtain ⟨c, rfl, e3, h3⟩ := hv
      refine ⟨by show 3 ≤ 1000; decide, fun p hp => k p c _ (e3.trans (Ex.new hp)) ⟨0, 0, ns.take 61, upd_same, Ex.new hp _ _ h3, ne_of_none h3 hp, by decide, by decide, by decide, ?_⟩⟩
      rw [List.length_take]
      omega
theorem ok_l_pick (T : Tx K mg) : FnOk P w K mg base CX0 2 (ga K "_law_pick") (fdOf K ("_law_pick", none)) ["_law_pen_here", "_law_some"] (spPick K) := by
  refine T.f_l_pick.ok sc_l_pick (fun vs H Q E h => ?_) (fun cdv A outer s H vs Q E hr h => ?_)
  · obtain ⟨p, c, l, xs, n, rfl, _⟩ := h
    rfl
  · refine ⟨_, PSs.nox (pss_one (ps_ret (pe_ix ix_list (pv 1) (pe_call (ok_l_draw T) (hr.mono (by decide)) (by rfl) T.g_l_draw T.f_l_draw.kp (b_l_draw T) .nil pass0 (pa_cons (pv 0) (pa_cons (pe_callB call_len (by rfl) T.n_len boot_len (pa_cons (pv 1) pa_nil)) pa_nil))) (fun _ _ => rfl)))), ?_⟩
    -- slots: [(0, '_law_pen_here'), (1, '_law_some')]
    obtain ⟨p, c, l, xs, n, rfl, hx, hne, h0, h1, hP, hn, k⟩ := h
    refine ⟨_, rfl, _, rfl, _, rfl, _, xs.length, rfl, .inl ⟨_, hx, rfl⟩, p, c, xs.length, n, rfl, by omega, by omega, hP, hn, fun d H' d0 d1 off pen => ?_⟩
    obtain ⟨j, hj, hjl⟩ : ∃ j : Nat, d = (j : Int) ∧ j < xs.length := ⟨d.toNat, (Int.toNat_of_nonneg d0).symm, by omega⟩
    have hxj : xs[j]? = some xs[j] := List.getElem?_eq_getElem hjl
    exact ⟨l, xs, d, xs[j], rfl, rfl, Off.sq off hne hx, at_of hj hxj, k j xs[j] H' hxj off pen⟩
theorem ok_l_value (T : Tx K mg) : FnOk P w K mg base CX0 2 (ga K "_law_value") (fdOf K ("_law_value", none)) ["_law_pen_here"] (spValue K) := by
  refine T.f_l_value.ok sc_l_value (fun vs H Q E h => ?_) (fun cdv A outer s H vs Q E hr h => ?_)
  · obtain ⟨p, c, n, rfl, _⟩ := h
    rfl
  · refine ⟨_, PSs.nox (pss_cons (ps_set (i := 1) sc_l_value.nd rfl (.inl rfl) (pe_call (ok_l_draw T) (hr.mono (by decide)) (by rfl) T.g_l_draw T.f_l_draw.kp (b_l_draw T) .nil pass0 (pa_cons (pv 0) (pa_cons pe_int pa_nil))))
      (pss_cons (ps_set (i := 2) sc_l_value.nd rfl (.inl rfl) (pe_lst (pa_cons (pv 1) (pa_cons (pe_op op_sub (pe_un un_neg (pe_op op_pow pe_int pe_int)) (pv 1)) (pa_cons (pe_op op_add_str pe_str (pe_callTy call_str_int (by rfl) T.n_str (by decide +kernel) (pa_cons (pv 1) pa_nil))) (pa_cons pe_str (pa_cons pe_non (pa_cons (pe_lst (pa_cons (pv 1) (pa_cons (pe_lst (pa_cons pe_non pa_nil)) pa_nil))) (pa_cons (pe_tup (pa_cons (pv 1) (pa_cons (pe_tup (pa_cons pe_str pa_nil)) pa_nil))) (pa_cons pe_bl (pa_cons pe_dnewK (pa_cons pe_str pa_nil))))))))))))
      (pss_one (ps_ret (pe_ix ix_list (pv 2) (pe_call (ok_l_draw T) (hr.mono (by decide)) (by rfl) T.g_l_draw T.f_l_draw.kp (b_l_draw T) .nil pass0 (pa_cons (pv 0) (pa_cons pe_int pa_nil))) (fun _ _ => rfl)))))), ?_⟩
    -- slots: [(0, '_law_pen_here'), (1, '_law_small'), (2, '_law_some')]
    obtain ⟨p, c, n, rfl, hP, hn, k⟩ := h
    refine ⟨_, rfl, p, c, 80, n, rfl, by decide, by decide, hP, by omega, fun d H1 d0 d1 off1 pen1 => ?_⟩
    refine ⟨_, rfl, ?_⟩
    have hlog : d.natAbs.log2 < 1920 := by
      have h : ∀ m : Nat, m < 80 → m.log2 < 1920 := by decide +kernel
      exact h _ (by omega)
    have hz : ("a" : Str).length + (Str.ofString (toString d)).length ≤ sizeLine := by
      have h := tos_len d0 d1
      have h1 : (20 : Nat) ≤ sizeLine := by decide
      have h2 : ("a" : Str).length = 1 := by decide
      omega
    refine ⟨10, 30, rfl, rfl, ⟨by decide, by decide, by decide⟩, _, rfl, _, rfl, ?_⟩
    refine ⟨_, _, rfl, rfl, _, rfl, d, rfl, hlog, _, _, rfl, rfl, hz, ?_⟩
    refine ⟨_, rfl, by show 1 ≤ sizeLine; decide, fun q1 hq1 => ⟨by show 2 ≤ sizeLine; decide, fun q2 hq2 => ?_⟩⟩
    refine ⟨_, rfl, by show 1 ≤ sizeLine; decide, fun q3 hq3 => ⟨by show 2 ≤ sizeLine; decide, fun q4 hq4 => ?_⟩⟩
    refine fun q5 hq5 => ⟨by show 10 ≤ sizeLine; decide, fun l hl => ?_⟩
    have x1 : Ex H1 _ := Ex.new (o := HO.lst [V.non]) hq1
    have x2 := Ex.new (o := HO.lst [V.int d, V.ref q1]) hq2
    have x3 := Ex.new (o := HO.tup [V.str (Str.ofString "x")]) hq3
    have x4 := Ex.new (o := HO.tup [V.int d, V.ref q3]) hq4
    have x5 := Ex.new (o := HO.dK []) hq5
    refine ⟨_, rfl, _, rfl, ?_⟩
    have x6 := Ex.new (o := HO.lst [V.int d, V.int (-10 ^ Int.toNat 30 - d), V.str (Str.ofString "a" ++ Str.ofString (toString d)), V.str (Str.ofString ""), V.non, V.ref q2, V.ref q4, V.bl true, V.ref q5, V.str (Str.ofString "part")]) hl
    have gL := upd_same (H := upd (upd (upd (upd (upd H1 q1 (HO.lst [V.non])) q2 (HO.lst [V.int d, V.ref q1])) q3 (HO.tup [V.str (Str.ofString "x")])) q4 (HO.tup [V.int d, V.ref q3])) q5 (HO.dK [])) (a := l) (o := HO.lst [V.int d, V.int (-10 ^ Int.toNat 30 - d), V.str (Str.ofString "a" ++ Str.ofString (toString d)), V.str (Str.ofString ""), V.non, V.ref q2, V.ref q4, V.bl true, V.ref q5, V.str (Str.ofString "part")])
    obtain ⟨op, hp⟩ := pen1.there
    have n1 : q1 ≠ p := Ne.symm (ne_of_none hp hq1)
    have n2 : q2 ≠ p := Ne.symm (ne_of_none (x1 _ _ hp) hq2)
    have n3 : q3 ≠ p := Ne.symm (ne_of_none ((x1.trans x2) _ _ hp) hq3)
    have n4 : q4 ≠ p := Ne.symm (ne_of_none (((x1.trans x2).trans x3) _ _ hp) hq4)
    have n5 : q5 ≠ p := Ne.symm (ne_of_none ((((x1.trans x2).trans x3).trans x4) _ _ hp) hq5)
    have nl : l ≠ p := Ne.symm (ne_of_none (((((x1.trans x2).trans x3).trans x4).trans x5) _ _ hp) hl)
    have xa := ((((x1.trans x2).trans x3).trans x4).trans x5).trans x6
    have g1 := ((((x2.trans x3).trans x4).trans x5).trans x6) _ _ (upd_same (H := H1) (a := q1))
    have g2 := (((x3.trans x4).trans x5).trans x6) _ _ upd_same
    have g3 := ((x4.trans x5).trans x6) _ _ upd_same
    have g4 := (x5.trans x6) _ _ upd_same
    have g5 := x6 _ _ upd_same
    refine ⟨p, c, 10, n + 1, rfl, by decide, by decide, pen1.ex xa, by omega, fun j H3 j0 j1 off3 pen3 => ?_⟩
    have r1 := off3 _ _ g1 n1
    have r2 := off3 _ _ g2 n2
    have r3 := off3 _ _ g3 n3
    have r4 := off3 _ _ g4 n4
    have r5 := off3 _ _ g5 n5
    have rL := off3 _ _ gL nl
    have offA : Off p H H3 := (off1.trans (Off.of xa)).trans off3
    have fin : ∀ (i : Nat) (v : V), [V.int d, V.int (-10 ^ Int.toNat 30 - d), V.str (Str.ofString "a" ++ Str.ofString (toString d)), V.str (Str.ofString ""), V.non, V.ref q2, V.ref q4, V.bl true, V.ref q5, V.str (Str.ofString "part")][i]? = some v → j = (i : Int) → (∀ H'' : Hp, Off p H3 H'' → ValAt K H'' v) → rIxL K (V.ref l) (.int j) H3 Q := fun i v hv hj va =>
      ⟨l, _, j, v, rfl, rfl, SqL.of rL, at_of hj hv, k v H3 va offA pen3⟩
    have cc : j = (0 : Nat) ∨ j = (1 : Nat) ∨ j = (2 : Nat) ∨ j = (3 : Nat) ∨ j = (4 : Nat) ∨ j = (5 : Nat) ∨ j = (6 : Nat) ∨ j = (7 : Nat) ∨ j = (8 : Nat) ∨ j = (9 : Nat) := by omega
    rcases cc with c | c | c | c | c | c | c | c | c | c
    · exact fin _ _ rfl c fun H4 o4 => ⟨.inl rfl, eqv_int _⟩
    · exact fin _ _ rfl c fun H4 o4 => ⟨.inl rfl, eqv_int _⟩
    · exact fin _ _ rfl c fun H4 o4 => ⟨.inl rfl, eqv_str _⟩
    · exact fin _ _ rfl c fun H4 o4 => ⟨.inl rfl, eqv_str _⟩
    · exact fin _ _ rfl c fun H4 o4 => ⟨.inl rfl, .non⟩
    · exact fin _ _ rfl c fun H4 o4 => ⟨.inr (.inl ⟨.list [.int d, .list [.none]], .lst (SqL.of (o4 _ _ r2 n2)) (.cons (.int d) (.cons (.lst (SqL.of (o4 _ _ r1 n1)) (.cons .non .nil)) .nil)), rfl⟩), .same _⟩
    · exact fin _ _ rfl c fun H4 o4 => ⟨.inr (.inl ⟨.tuple [.int d, .tuple [.str "x"]], .tup (SqT.of (o4 _ _ r4 n4)) (.cons (.int d) (.cons (.tup (SqT.of (o4 _ _ r3 n3)) (.cons (.str "x") .nil)) .nil)), shx d⟩), .same _⟩
    · exact fin _ _ rfl c fun H4 o4 => ⟨.inl rfl, eqv_bl _⟩
    · exact fin _ _ rfl c fun H4 o4 => ⟨.inr (.inr ⟨q5, rfl, o4 _ _ r5 n5⟩), .same _⟩
    · exact fin _ _ rfl c fun H4 o4 => ⟨.inl rfl, eqv_str _⟩
end
end K00
set_option Elab.async false
set_option linter.all false
set_option maxRecDepth 100000
set_option maxHeartbeats 4000000
set_option autoImplicit false
namespace K00
open PySem PySem.Spec PyProof.Rows L2 He Evl
def cls28 : List Str := ["BadSide", "BadSaying", "BadFact", "BadBook", "BadGrid", "BadWord", "BadSheet", "BadCutting", "BadTies", "BadHeard", "BadValue", "BadNaming", "BadTurning", "BadNumber", "BadPaper", "BadDesk", "Misfit", "NoSign", "NoFact", "NoStem", "NoEnding", "NoName", "Twice", "Impossible", "TooMany", "Nothing", "BadText", "BadLine"]
theorem excs_closed : ∀ e ∈ excs, ∀ y ∈ e.2.1, y ∈ excs.map (·.1) := by decide +kernel
def tbl28 : List (Str × List Str × List Str) := cls28.filterMap fun x => excs.find? fun e => e.1 == x
def classesB (x : Str) (bases : List Str) : List Bool := cls28.map fun c => decide (c ∈ x :: bases)
/-- a list made, and kept -/
def RetN (xs : List V) (H : Hp) (Q : VK) : Prop := ∀ p H2, Ex H H2 → H2 p = some (.lst xs) → Q (.ref p) H2
def spClasses (K : PySem.W.Frag) : Sp := fun vs H Q _ => ∃ (a : Addr) (x : Str) (bases fs : List Str), vs = [.ref a] ∧ XOb K excs H a x bases fs ∧ RetN ((classesB x bases).map V.bl) H Q
def spOnly (K : PySem.W.Frag) : Sp := fun vs H Q _ => ∃ (a : Addr) (x : Str) (bases fs : List Str) (i : Nat), vs = [.ref a, .int (i : Nat)] ∧ XOb K excs H a x bases fs ∧ tbl28[i]? = some (x, bases, fs) ∧ RetV (.bl true) H Q
section
variable {P : Program} {w : World} {K : PySem.W.Frag} {mg : Str → Option Value} {base : Heap}
theorem b_l_classes (T : Tx K mg) : Binds K (fdOf K ("_law_classes", none)) ["_law_error"] [] := T.f_l_classes.bindsN fun _ _ _ _ _ _ us hl => match us, hl with | [_], _ => rfl
theorem b_l_is_only (T : Tx K mg) : Binds K (fdOf K ("_law_is_only", none)) ["_law_error", "_law_at"] [] := T.f_l_is_only.bindsN fun _ _ _ _ _ _ us hl => match us, hl with | [_, _], _ => rfl
theorem ok_l_classes (T : Tx K mg) : FnOk P w K mg base CX0 1 (ga K "_law_classes") (fdOf K ("_law_classes", none)) ["_law_error"] (spClasses K) := by
  refine T.f_l_classes.ok sc_l_classes (fun vs H Q E h => ?_) (fun cdv A outer s H vs Q E hr h => ?_)
  · obtain ⟨a, x, bases, fs, rfl, _⟩ := h
    rfl
  · refine ⟨_, PSs.nox (pss_cons (ps_set (i := 1) sc_l_classes.nd rfl (.inl rfl) (pe_lst (pa_cons (pe_callB call_isX (by rfl) T.n_isinstance (by decide +kernel) (pa_cons (pv 0) (pa_cons (pe_glob (v := .ref (ga K "BadSide")) (by rfl) T.g_BadSide rfl) pa_nil))) (pa_cons (pe_callB call_isX (by rfl) T.n_isinstance (by decide +kernel) (pa_cons (pv 0) (pa_cons (pe_glob (v := .ref (ga K "BadSaying")) (by rfl) T.g_BadSaying rfl) pa_nil))) (pa_cons (pe_callB call_isX (by rfl) T.n_isinstance (by decide +kernel) (pa_cons (pv 0) (pa_cons (pe_glob (v := .ref (ga K "BadFact")) (by rfl) T.g_BadFact rfl) pa_nil))) (pa_cons (pe_callB call_isX (by rfl) T.n_isinstance (by decide +kernel) (pa_cons (pv 0) (pa_cons (pe_glob (v := .ref (ga K "BadBook")) (by rfl) T.g_BadBook rfl) pa_nil))) pa_nil))))))
      (pss_cons (ps_set (i := 1) sc_l_classes.nd rfl (.inl rfl) (pe_op op_cat (pv 1) (pe_lst (pa_cons (pe_callB call_isX (by rfl) T.n_isinstance (by decide +kernel) (pa_cons (pv 0) (pa_cons (pe_glob (v := .ref (ga K "BadGrid")) (by rfl) T.g_BadGrid rfl) pa_nil))) (pa_cons (pe_callB call_isX (by rfl) T.n_isinstance (by decide +kernel) (pa_cons (pv 0) (pa_cons (pe_glob (v := .ref (ga K "BadWord")) (by rfl) T.g_BadWord rfl) pa_nil))) (pa_cons (pe_callB call_isX (by rfl) T.n_isinstance (by decide +kernel) (pa_cons (pv 0) (pa_cons (pe_glob (v := .ref (ga K "BadSheet")) (by rfl) T.g_BadSheet rfl) pa_nil))) (pa_cons (pe_callB call_isX (by rfl) T.n_isinstance (by decide +kernel) (pa_cons (pv 0) (pa_cons (pe_glob (v := .ref (ga K "BadCutting")) (by rfl) T.g_BadCutting rfl) pa_nil))) pa_nil)))))))
      (pss_cons (ps_set (i := 1) sc_l_classes.nd rfl (.inl rfl) (pe_op op_cat (pv 1) (pe_lst (pa_cons (pe_callB call_isX (by rfl) T.n_isinstance (by decide +kernel) (pa_cons (pv 0) (pa_cons (pe_glob (v := .ref (ga K "BadTies")) (by rfl) T.g_BadTies rfl) pa_nil))) (pa_cons (pe_callB call_isX (by rfl) T.n_isinstance (by decide +kernel) (pa_cons (pv 0) (pa_cons (pe_glob (v := .ref (ga K "BadHeard")) (by rfl) T.g_BadHeard rfl) pa_nil))) (pa_cons (pe_callB call_isX (by rfl) T.n_isinstance (by decide +kernel) (pa_cons (pv 0) (pa_cons (pe_glob (v := .ref (ga K "BadValue")) (by rfl) T.g_BadValue rfl) pa_nil))) (pa_cons (pe_callB call_isX (by rfl) T.n_isinstance (by decide +kernel) (pa_cons (pv 0) (pa_cons (pe_glob (v := .ref (ga K "BadNaming")) (by rfl) T.g_BadNaming rfl) pa_nil))) pa_nil)))))))
      (pss_cons (ps_set (i := 1) sc_l_classes.nd rfl (.inl rfl) (pe_op op_cat (pv 1) (pe_lst (pa_cons (pe_callB call_isX (by rfl) T.n_isinstance (by decide +kernel) (pa_cons (pv 0) (pa_cons (pe_glob (v := .ref (ga K "BadTurning")) (by rfl) T.g_BadTurning rfl) pa_nil))) (pa_cons (pe_callB call_isX (by rfl) T.n_isinstance (by decide +kernel) (pa_cons (pv 0) (pa_cons (pe_glob (v := .ref (ga K "BadNumber")) (by rfl) T.g_BadNumber rfl) pa_nil))) (pa_cons (pe_callB call_isX (by rfl) T.n_isinstance (by decide +kernel) (pa_cons (pv 0) (pa_cons (pe_glob (v := .ref (ga K "BadPaper")) (by rfl) T.g_BadPaper rfl) pa_nil))) (pa_cons (pe_callB call_isX (by rfl) T.n_isinstance (by decide +kernel) (pa_cons (pv 0) (pa_cons (pe_glob (v := .ref (ga K "BadDesk")) (by rfl) T.g_BadDesk rfl) pa_nil))) pa_nil)))))))
      (pss_cons (ps_set (i := 1) sc_l_classes.nd rfl (.inl rfl) (pe_op op_cat (pv 1) (pe_lst (pa_cons (pe_callB call_isX (by rfl) T.n_isinstance (by decide +kernel) (pa_cons (pv 0) (pa_cons (pe_glob (v := .ref (ga K "Misfit")) (by rfl) T.g_Misfit rfl) pa_nil))) (pa_cons (pe_callB call_isX (by rfl) T.n_isinstance (by decide +kernel) (pa_cons (pv 0) (pa_cons (pe_glob (v := .ref (ga K "NoSign")) (by rfl) T.g_NoSign rfl) pa_nil))) (pa_cons (pe_callB call_isX (by rfl) T.n_isinstance (by decide +kernel) (pa_cons (pv 0) (pa_cons (pe_glob (v := .ref (ga K "NoFact")) (by rfl) T.g_NoFact rfl) pa_nil))) (pa_cons (pe_callB call_isX (by rfl) T.n_isinstance (by decide +kernel) (pa_cons (pv 0) (pa_cons (pe_glob (v := .ref (ga K "NoStem")) (by rfl) T.g_NoStem rfl) pa_nil))) pa_nil)))))))
      (pss_cons (ps_set (i := 1) sc_l_classes.nd rfl (.inl rfl) (pe_op op_cat (pv 1) (pe_lst (pa_cons (pe_callB call_isX (by rfl) T.n_isinstance (by decide +kernel) (pa_cons (pv 0) (pa_cons (pe_glob (v := .ref (ga K "NoEnding")) (by rfl) T.g_NoEnding rfl) pa_nil))) (pa_cons (pe_callB call_isX (by rfl) T.n_isinstance (by decide +kernel) (pa_cons (pv 0) (pa_cons (pe_glob (v := .ref (ga K "NoName")) (by rfl) T.g_NoName rfl) pa_nil))) (pa_cons (pe_callB call_isX (by rfl) T.n_isinstance (by decide +kernel) (pa_cons (pv 0) (pa_cons (pe_glob (v := .ref (ga K "Twice")) (by rfl) T.g_Twice rfl) pa_nil))) (pa_cons (pe_callB call_isX (by rfl) T.n_isinstance (by decide +kernel) (pa_cons (pv 0) (pa_cons (pe_glob (v := .ref (ga K "Impossible")) (by rfl) T.g_Impossible rfl) pa_nil))) pa_nil)))))))
      (pss_cons (ps_set (i := 1) sc_l_classes.nd rfl (.inl rfl) (pe_op op_cat (pv 1) (pe_lst (pa_cons (pe_callB call_isX (by rfl) T.n_isinstance (by decide +kernel) (pa_cons (pv 0) (pa_cons (pe_glob (v := .ref (ga K "TooMany")) (by rfl) T.g_TooMany rfl) pa_nil))) (pa_cons (pe_callB call_isX (by rfl) T.n_isinstance (by decide +kernel) (pa_cons (pv 0) (pa_cons (pe_glob (v := .ref (ga K "Nothing")) (by rfl) T.g_Nothing rfl) pa_nil))) (pa_cons (pe_callB call_isX (by rfl) T.n_isinstance (by decide +kernel) (pa_cons (pv 0) (pa_cons (pe_glob (v := .ref (ga K "BadText")) (by rfl) T.g_BadText rfl) pa_nil))) (pa_cons (pe_callB call_isX (by rfl) T.n_isinstance (by decide +kernel) (pa_cons (pv 0) (pa_cons (pe_glob (v := .ref (ga K "BadLine")) (by rfl) T.g_BadLine rfl) pa_nil))) pa_nil)))))))
      (pss_one (ps_ret (pv 1)))))))))), ?_⟩
    -- slots: [(0, '_law_error'), (1, '_law_told')]
    obtain ⟨a, x, bases, fs, rfl, hx, k⟩ := h
    refine q_asgL (el_lst (ea_cons (ev_cb (ea_cons (ev_var rfl) (ea_cons ev_c ea_nil)) (rc_isX T.xs excs_closed hx mem_BadSide)) (ea_cons (ev_cb (ea_cons (ev_var rfl) (ea_cons ev_c ea_nil)) (rc_isX T.xs excs_closed hx mem_BadSaying)) (ea_cons (ev_cb (ea_cons (ev_var rfl) (ea_cons ev_c ea_nil)) (rc_isX T.xs excs_closed hx mem_BadFact)) (ea_cons (ev_cb (ea_cons (ev_var rfl) (ea_cons ev_c ea_nil)) (rc_isX T.xs excs_closed hx mem_BadBook)) ea_nil)))) (by show 4 ≤ 100000; decide)) fun p0 H0 _ e0 h0 => ?_
    have hx0 := hx.ex e0
    have f0 : Ex H H0 := e0
    refine q_asgL (el_cat rfl h0 (el_lst (ea_cons (ev_cb (ea_cons (ev_var rfl) (ea_cons ev_c ea_nil)) (rc_isX T.xs excs_closed hx0 mem_BadGrid)) (ea_cons (ev_cb (ea_cons (ev_var rfl) (ea_cons ev_c ea_nil)) (rc_isX T.xs excs_closed hx0 mem_BadWord)) (ea_cons (ev_cb (ea_cons (ev_var rfl) (ea_cons ev_c ea_nil)) (rc_isX T.xs excs_closed hx0 mem_BadSheet)) (ea_cons (ev_cb (ea_cons (ev_var rfl) (ea_cons ev_c ea_nil)) (rc_isX T.xs excs_closed hx0 mem_BadCutting)) ea_nil)))) (by show 4 ≤ 100000; decide)) (by show _ ≤ 100000; simp)) fun p1 H1 _ e1 h1 => ?_
    have hx1 := hx0.ex e1
    have f1 : Ex H H1 := f0.trans e1
    refine q_asgL (el_cat rfl h1 (el_lst (ea_cons (ev_cb (ea_cons (ev_var rfl) (ea_cons ev_c ea_nil)) (rc_isX T.xs excs_closed hx1 mem_BadTies)) (ea_cons (ev_cb (ea_cons (ev_var rfl) (ea_cons ev_c ea_nil)) (rc_isX T.xs excs_closed hx1 mem_BadHeard)) (ea_cons (ev_cb (ea_cons (ev_var rfl) (ea_cons ev_c ea_nil)) (rc_isX T.xs excs_closed hx1 mem_BadValue)) (ea_cons (ev_cb (ea_cons (ev_var rfl) (ea_cons ev_c ea_nil)) (rc_isX T.xs excs_closed hx1 mem_BadNaming)) ea_nil)))) (by show 4 ≤ 100000; decide)) (by show _ ≤ 100000; simp)) fun p2 H2 _ e2 h2 => ?_
    have hx2 := hx1.ex e2
    have f2 : Ex H H2 := f1.trans e2
    refine q_asgL (el_cat rfl h2 (el_lst (ea_cons (ev_cb (ea_cons (ev_var rfl) (ea_cons ev_c ea_nil)) (rc_isX T.xs excs_closed hx2 mem_BadTurning)) (ea_cons (ev_cb (ea_cons (ev_var rfl) (ea_cons ev_c ea_nil)) (rc_isX T.xs excs_closed hx2 mem_BadNumber)) (ea_cons (ev_cb (ea_cons (ev_var rfl) (ea_cons ev_c ea_nil)) (rc_isX T.xs excs_closed hx2 mem_BadPaper)) (ea_cons (ev_cb (ea_cons (ev_var rfl) (ea_cons ev_c ea_nil)) (rc_isX T.xs excs_closed hx2 mem_BadDesk)) ea_nil)))) (by show 4 ≤ 100000; decide)) (by show _ ≤ 100000; simp)) fun p3 H3 _ e3 h3 => ?_
    have hx3 := hx2.ex e3
    have f3 : Ex H H3 := f2.trans e3
    refine q_asgL (el_cat rfl h3 (el_lst (ea_cons (ev_cb (ea_cons (ev_var rfl) (ea_cons ev_c ea_nil)) (rc_isX T.xs excs_closed hx3 mem_Misfit)) (ea_cons (ev_cb (ea_cons (ev_var rfl) (ea_cons ev_c ea_nil)) (rc_isX T.xs excs_closed hx3 mem_NoSign)) (ea_cons (ev_cb (ea_cons (ev_var rfl) (ea_cons ev_c ea_nil)) (rc_isX T.xs excs_closed hx3 mem_NoFact)) (ea_cons (ev_cb (ea_cons (ev_var rfl) (ea_cons ev_c ea_nil)) (rc_isX T.xs excs_closed hx3 mem_NoStem)) ea_nil)))) (by show 4 ≤ 100000; decide)) (by show _ ≤ 100000; simp)) fun p4 H4 _ e4 h4 => ?_
    have hx4 := hx3.ex e4
    have f4 : Ex H H4 := f3.trans e4
    refine q_asgL (el_cat rfl h4 (el_lst (ea_cons (ev_cb (ea_cons (ev_var rfl) (ea_cons ev_c ea_nil)) (rc_isX T.xs excs_closed hx4 mem_NoEnding)) (ea_cons (ev_cb (ea_cons (ev_var rfl) (ea_cons ev_c ea_nil)) (rc_isX T.xs excs_closed hx4 mem_NoName)) (ea_cons (ev_cb (ea_cons (ev_var rfl) (ea_cons ev_c ea_nil)) (rc_isX T.xs excs_closed hx4 mem_Twice)) (ea_cons (ev_cb (ea_cons (ev_var rfl) (ea_cons ev_c ea_nil)) (rc_isX T.xs excs_closed hx4 mem_Impossible)) ea_nil)))) (by show 4 ≤ 100000; decide)) (by show _ ≤ 100000; simp)) fun p5 H5 _ e5 h5 => ?_
    have hx5 := hx4.ex e5
    have f5 : Ex H H5 := f4.trans e5
    refine q_asgL (el_cat rfl h5 (el_lst (ea_cons (ev_cb (ea_cons (ev_var rfl) (ea_cons ev_c ea_nil)) (rc_isX T.xs excs_closed hx5 mem_TooMany)) (ea_cons (ev_cb (ea_cons (ev_var rfl) (ea_cons ev_c ea_nil)) (rc_isX T.xs excs_closed hx5 mem_Nothing)) (ea_cons (ev_cb (ea_cons (ev_var rfl) (ea_cons ev_c ea_nil)) (rc_isX T.xs excs_closed hx5 mem_BadText)) (ea_cons (ev_cb (ea_cons (ev_var rfl) (ea_cons ev_c ea_nil)) (rc_isX T.xs excs_closed hx5 mem_BadLine)) ea_nil)))) (by show 4 ≤ 100000; decide)) (by show _ ≤ 100000; simp)) fun p6 H6 _ e6 h6 => ?_
    have hx6 := hx5.ex e6
    have f6 : Ex H H6 := f5.trans e6
    exact s_ret (ev_var rfl) fun H9 e9 => k p6 H9 (f6.trans e9) (e9 _ _ h6)
theorem only_facts : ∀ i : Nat, i < 28 → (match tbl28[i]? with
    | some (x, b, _) => decide (("SignError" : Str) ∈ x :: b) && (decide (("Missing" : Str) ∈ x :: b) == (decide (17 ≤ i) && decide (i < 22)) && (classesB x b == (List.range 28).map fun j => decide (j = i)))
    | none => false) = true := by decide +kernel
theorem only_at {i : Nat} {x : Str} {b f : List Str} (h : tbl28[i]? = some (x, b, f)) : i < 28 ∧ decide (("SignError" : Str) ∈ x :: b) = true ∧ decide (("Missing" : Str) ∈ x :: b) = (decide (17 ≤ i) && decide (i < 22)) ∧ classesB x b = (List.range 28).map fun j => decide (j = i) := by
  have hl : tbl28.length = 28 := by decide +kernel
  have hi : i < 28 := by
    have := (List.getElem?_eq_some_iff.mp h).1
    omega
  have q := only_facts i hi
  rw [h] at q
  have q' : (decide (("SignError" : Str) ∈ x :: b) && (decide (("Missing" : Str) ∈ x :: b) == (decide (17 ≤ i) && decide (i < 22)) && (classesB x b == (List.range 28).map fun j => decide (j = i)))) = true := q
  rw [Bool.and_eq_true, Bool.and_eq_true] at q'
  exact ⟨hi, q'.1, eq_of_beq q'.2.1, eq_of_beq q'.2.2⟩
theorem ok_l_is_only (T : Tx K mg) : FnOk P w K mg base CX0 2 (ga K "_law_is_only") (fdOf K ("_law_is_only", none)) ["_law_error", "_law_at"] (spOnly K) := by
  refine T.f_l_is_only.ok sc_l_is_only (fun vs H Q E h => ?_) (fun cdv A outer s H vs Q E hr h => ?_)
  · obtain ⟨a, x, bases, fs, i, rfl, _⟩ := h
    rfl
  · refine ⟨_, PSs.nox (pss_cons (ps_if (PW.pt (pw_or (pt_not (pt_val (pe_callB call_isX (by rfl) T.n_isinstance (by decide +kernel) (pa_cons (pv 0) (pa_cons (pe_glob (v := .ref (ga K "SignError")) (by rfl) T.g_SignError rfl) pa_nil))))) (pw_or1 (pt_not (pt_val (pe_callB call_isX (by rfl) T.n_isinstance (by decide +kernel) (pa_cons (pv 0) (pa_cons (pe_bltn (v := .ty "ValueError") (by rfl) T.n_ValueError (by decide +kernel) rfl) pa_nil))))))))
        (pss_one (ps_ret pe_bl))
        pss_nil)
      (pss_cons (ps_if (PW.pt (pw_or (pt_val (pe_callB call_isXT (by rfl) T.n_isinstance (by decide +kernel) (pa_cons (pv 0) (pa_cons (pe_tup (pa_cons (pe_bltn (v := .ty "LookupError") (by rfl) T.n_LookupError (by decide +kernel) rfl) (pa_cons (pe_bltn (v := .ty "TypeError") (by rfl) T.n_TypeError (by decide +kernel) rfl) (pa_cons (pe_bltn (v := .ty "ArithmeticError") (by rfl) T.n_ArithmeticError (by decide +kernel) rfl) (pa_cons (pe_bltn (v := .ty "AttributeError") (by rfl) T.n_AttributeError (by decide +kernel) rfl) (pa_cons (pe_bltn (v := .ty "RuntimeError") (by rfl) T.n_RuntimeError (by decide +kernel) rfl) pa_nil)))))) pa_nil)))) (pw_or1 (pt_cmpR op_ne (pe_callB call_isX (by rfl) T.n_isinstance (by decide +kernel) (pa_cons (pv 0) (pa_cons (pe_glob (v := .ref (ga K "Missing")) (by rfl) T.g_Missing rfl) pa_nil))) (pe_chain op_le op_lt pe_int (pv 1) pe_int) (nomark _)))))
        (pss_one (ps_ret pe_bl))
        pss_nil)
      (pss_one (ps_ret (pe_cmpR (op_eqL hr.units0) (pe_call (ok_l_classes T) (hr.mono (by decide)) (by rfl) T.g_l_classes T.f_l_classes.kp (b_l_classes T) .nil pass0 (pa_cons (pv 0) pa_nil)) (pe_lc (own := [("_law_spot", 2)]) (g := (gName 2)) (tt := tYes) rfl sc_l_is_only.nd (pi_range1 (by rfl) T.n_range (pa_cons pe_int pa_nil)) (blkOk_by (N := ["_law_error", "_law_at", "_law_spot"]) (sc := defScope s_l_is_only) (by decide +kernel)) (fun _ _ _ _ _ => pg_name (i := 2) sc_l_is_only.nd rfl (Or.inl rfl)) (fun _ _ _ _ _ => pts_nil) (fun _ _ _ _ _ => (pe_cmpR op_eq (pv 2) (pv 1) (nomark _)))) (nomark _)))))), ?_⟩
    -- slots: [(0, '_law_error'), (1, '_law_at'), (2, '_law_spot')]
    obtain ⟨a, x, bases, fs, i, rfl, hx, hi, k⟩ := h
    obtain ⟨hi28, hS, hM, hC⟩ := only_at hi
    have hE : HandSPX.veTail.contains (Value.type "ValueError") = true := by decide +kernel
    have hA : (["LookupError", "TypeError", "ArithmeticError", "AttributeError", "RuntimeError"].any fun t => HandSPX.veTail.contains (Value.type t)) = false := by decide +kernel
    have hM1 : PySem.W.kitMeta "ValueError" = true := by decide +kernel
    have hM2 : ∀ t ∈ ["LookupError", "TypeError", "ArithmeticError", "AttributeError", "RuntimeError"], PySem.W.kitMeta t = true := by decide +kernel
    refine q_when (b := false) (et_is (et_or (et_not (et_B (ev_cb (ea_cons (ev_var rfl) (ea_cons ev_c ea_nil)) (rc_isX T.xs excs_closed hx mem_SignError)))) fun _ => et_not (et_B (ev_cb (ea_cons (ev_var rfl) (ea_cons ev_c ea_nil)) (rc_isXT T.xs hx hM1)))) (by rw [hS, hE] <;> rfl)) (fun hb => nomatch hb) fun _ H1 e1 => ?_
    have hx1 := hx.ex e1
    have htr : decide (((17 : Nat) : Int) ≤ (i : Int)) = decide (17 ≤ i) ∧ decide ((i : Int) < ((22 : Nat) : Int)) = decide (i < 22) := ⟨by rw [decide_eq_decide]; omega, by rw [decide_eq_decide]; omega⟩
    refine q_when (b := false) (et_is (et_or (et_B (ev_isXs (te := tVar 0) T.xs hx1 ["LookupError", "TypeError", "ArithmeticError", "AttributeError", "RuntimeError"] hM2 (ev_var rfl) (eu_tup (ea_cons ev_c (ea_cons ev_c (ea_cons ev_c (ea_cons ev_c (ea_cons ev_c ea_nil))))) (by show 5 ≤ 100000; decide)))) fun _ => et_test (ev_op (ev_cb (ea_cons (ev_var rfl) (ea_cons ev_c ea_nil)) (rc_isX T.xs excs_closed hx1 mem_Missing)) (ev_chain (b := decide (17 ≤ i)) (c := decide (i < 22)) ev_c (ev_var rfl) (by rw [← htr.1]; exact rv_I0) (fun _ => ev_c) (fun _ => by rw [← htr.2]; exact rv_I0)) (rv_ne rfl))) ?_) (fun hb => nomatch hb) fun _ H2 e2 => ?_
    · rw [hA, hM]
      show (!decide (V.bl (decide (17 ≤ i) && decide (i < 22)) = V.bl (decide (17 ≤ i) && decide (i < 22)))) = false
      rw [decide_eq_true rfl] <;> rfl
    have hx2 := hx1.ex e2
    have el : EvL (tLc (iRng1 (tCons (tC (.int 28)) tNil)) (gName 2) tYes (tOp rEq (tVar 2) (tVar 1)) [2]) (start ["_law_error", "_law_at", "_law_spot"] [.ref a, .int (i : Nat)]) H2 ((classesB x bases).map V.bl) := by
      have h := el_lcR1 (j := 2) (vs := [2]) (n := 28) (t := tYes) (te := tOp rEq (tVar 2) (tVar 1)) (σ := start ["_law_error", "_law_at", "_law_spot"] [.ref a, .int (i : Nat)]) (H := H2) (fun _ => true) (fun j => .bl (decide (j = i))) (ea_cons ev_c ea_nil) ⟨by decide, by decide⟩ (fun _ => rfl) (fun _ _ _ _ => et_yes) (fun j H3 _ _ _ => by
        have e : decide (V.int (j : Nat) = V.int (i : Nat)) = decide (j = i) := by
          rw [decide_eq_decide]
          exact ⟨fun h => by have := V.int.inj h; omega, fun h => by rw [h]⟩
        rw [← e]
        exact ev_op (ev_var rfl) (ev_var rfl) (rv_eq rfl))
      have e : (classesB x bases).map V.bl = given (28 : Int).toNat (fun _ => true) (fun j => .bl (decide (j = i))) := by
        rw [hC, given_true, List.map_map]
        rfl
      rw [e]
      exact h
    refine s_ret (v := .bl true) (fun H3 e3 Q' q => ?_) fun H3 e3 => k H3 ((e1.trans e2).trans e3)
    refine ⟨_, rfl, a, x, bases, fs, rfl, hx2.ex e3, fun p H4 e4 h4 => ?_⟩
    refine el H4 (e3.trans e4) _ fun p2 H5 _ e5 h5 => ?_
    exact ⟨p, p2, _, _, true, rfl, rfl, SqL.of (e5 _ _ h4), SqL.of h5, leq_bools _, q H5 (e4.trans e5)⟩
end
end K00
set_option Elab.async false
set_option linter.all false
set_option maxRecDepth 100000
set_option maxHeartbeats 4000000
set_option autoImplicit false
namespace K00
open PySem PySem.Spec PyProof.Rows L2 He Evl
def tbl23 : List (Str × Str) := [("BadSide", "part"), ("BadSaying", "part"), ("BadFact", "part"), ("BadBook", "part"), ("BadGrid", "part"), ("BadWord", "part"), ("BadSheet", "part"), ("BadCutting", "part"), ("BadTies", "part"), ("BadHeard", "part"), ("BadValue", "part"), ("BadNaming", "part"), ("BadTurning", "part"), ("BadNumber", "part"), ("BadPaper", "part"), ("BadDesk", "part"), ("Misfit", "part"), ("NoSign", "value"), ("NoFact", "value"), ("NoStem", "value"), ("NoEnding", "value"), ("NoName", "value"), ("Twice", "value")]
def tblV (v : V) : List (Str × List (Str × V)) := tbl23.map fun e => (e.1, [(e.2, v)])
def spBy (K : PySem.W.Frag) : Sp := fun vs H Q _ => ∃ (v : V), vs = [v] ∧ ∀ p as H2, Ex H H2 → H2 p = some (.lst (as.map V.ref)) → XsAt K H2 as (tblV v) → Q (.ref p) H2
section
variable {P : Program} {w : World} {K : PySem.W.Frag} {mg : Str → Option Value} {base : Heap}
theorem b_l_by_place (T : Tx K mg) : Binds K (fdOf K ("_law_by_place", none)) ["_law_one"] [] := T.f_l_by_place.bindsN fun _ _ _ _ _ _ us hl => match us, hl with | [_], _ => rfl
theorem b_l_by_name (T : Tx K mg) : Binds K (fdOf K ("_law_by_name", none)) ["_law_one"] [] := T.f_l_by_name.bindsN fun _ _ _ _ _ _ us hl => match us, hl with | [_], _ => rfl
theorem ok_l_by_place (T : Tx K mg) : FnOk P w K mg base CX0 3 (ga K "_law_by_place") (fdOf K ("_law_by_place", none)) ["_law_one"] (spBy K) := by
  refine T.f_l_by_place.ok sc_l_by_place (fun vs H Q E h => ?_) (fun cdv A outer s H vs Q E hr h => ?_)
  · obtain ⟨v, rfl, _⟩ := h
    rfl
  · refine ⟨_, PSs.nox (pss_cons (ps_set (i := 1) sc_l_by_place.nd rfl (.inl rfl) (pe_lst (pa_cons (xm_BadSide T hr (pa_cons (pv 0) pa_nil)) (pa_cons (xm_BadSaying T hr (pa_cons (pv 0) pa_nil)) (pa_cons (xm_BadFact T hr (pa_cons (pv 0) pa_nil)) (pa_cons (xm_BadBook T hr (pa_cons (pv 0) pa_nil)) (pa_cons (xm_BadGrid T hr (pa_cons (pv 0) pa_nil)) (pa_cons (xm_BadWord T hr (pa_cons (pv 0) pa_nil)) (pa_cons (xm_BadSheet T hr (pa_cons (pv 0) pa_nil)) pa_nil)))))))))
      (pss_cons (ps_set (i := 1) sc_l_by_place.nd rfl (.inl rfl) (pe_op op_cat (pv 1) (pe_lst (pa_cons (xm_BadCutting T hr (pa_cons (pv 0) pa_nil)) (pa_cons (xm_BadTies T hr (pa_cons (pv 0) pa_nil)) (pa_cons (xm_BadHeard T hr (pa_cons (pv 0) pa_nil)) (pa_cons (xm_BadValue T hr (pa_cons (pv 0) pa_nil)) (pa_cons (xm_BadNaming T hr (pa_cons (pv 0) pa_nil)) (pa_cons (xm_BadTurning T hr (pa_cons (pv 0) pa_nil)) (pa_cons (xm_BadNumber T hr (pa_cons (pv 0) pa_nil)) pa_nil))))))))))
      (pss_cons (ps_set (i := 1) sc_l_by_place.nd rfl (.inl rfl) (pe_op op_cat (pv 1) (pe_lst (pa_cons (xm_BadPaper T hr (pa_cons (pv 0) pa_nil)) (pa_cons (xm_BadDesk T hr (pa_cons (pv 0) pa_nil)) (pa_cons (xm_Misfit T hr (pa_cons (pv 0) pa_nil)) (pa_cons (xm_NoSign T hr (pa_cons (pv 0) pa_nil)) (pa_cons (xm_NoFact T hr (pa_cons (pv 0) pa_nil)) (pa_cons (xm_NoStem T hr (pa_cons (pv 0) pa_nil)) (pa_cons (xm_NoEnding T hr (pa_cons (pv 0) pa_nil)) pa_nil))))))))))
      (pss_cons (ps_set (i := 1) sc_l_by_place.nd rfl (.inl rfl) (pe_op op_cat (pv 1) (pe_lst (pa_cons (xm_NoName T hr (pa_cons (pv 0) pa_nil)) (pa_cons (xm_Twice T hr (pa_cons (pv 0) pa_nil)) pa_nil)))))
      (pss_one (ps_ret (pv 1))))))), ?_⟩
    -- slots: [(0, '_law_one'), (1, '_law_made')]
    obtain ⟨v, rfl, k⟩ := h
    refine q_asgX (exl_lst (exs_cons (x := "BadSide") (fs := [("part", v)]) (evx_mk (fs := ["part"]) (ea_cons (ev_var rfl) ea_nil) rfl) (exs_cons (x := "BadSaying") (fs := [("part", v)]) (evx_mk (fs := ["part"]) (ea_cons (ev_var rfl) ea_nil) rfl) (exs_cons (x := "BadFact") (fs := [("part", v)]) (evx_mk (fs := ["part"]) (ea_cons (ev_var rfl) ea_nil) rfl) (exs_cons (x := "BadBook") (fs := [("part", v)]) (evx_mk (fs := ["part"]) (ea_cons (ev_var rfl) ea_nil) rfl) (exs_cons (x := "BadGrid") (fs := [("part", v)]) (evx_mk (fs := ["part"]) (ea_cons (ev_var rfl) ea_nil) rfl) (exs_cons (x := "BadWord") (fs := [("part", v)]) (evx_mk (fs := ["part"]) (ea_cons (ev_var rfl) ea_nil) rfl) (exs_cons (x := "BadSheet") (fs := [("part", v)]) (evx_mk (fs := ["part"]) (ea_cons (ev_var rfl) ea_nil) rfl) exs_nil))))))) (Nat.le_of_ble_eq_true rfl)) fun p0 as0 H0 e0 h0 x0 => ?_
    have f0 : Ex H H0 := e0
    refine q_asgX (exl_cat rfl h0 x0 (exs_cons (x := "BadCutting") (fs := [("part", v)]) (evx_mk (fs := ["part"]) (ea_cons (ev_var rfl) ea_nil) rfl) (exs_cons (x := "BadTies") (fs := [("part", v)]) (evx_mk (fs := ["part"]) (ea_cons (ev_var rfl) ea_nil) rfl) (exs_cons (x := "BadHeard") (fs := [("part", v)]) (evx_mk (fs := ["part"]) (ea_cons (ev_var rfl) ea_nil) rfl) (exs_cons (x := "BadValue") (fs := [("part", v)]) (evx_mk (fs := ["part"]) (ea_cons (ev_var rfl) ea_nil) rfl) (exs_cons (x := "BadNaming") (fs := [("part", v)]) (evx_mk (fs := ["part"]) (ea_cons (ev_var rfl) ea_nil) rfl) (exs_cons (x := "BadTurning") (fs := [("part", v)]) (evx_mk (fs := ["part"]) (ea_cons (ev_var rfl) ea_nil) rfl) (exs_cons (x := "BadNumber") (fs := [("part", v)]) (evx_mk (fs := ["part"]) (ea_cons (ev_var rfl) ea_nil) rfl) exs_nil))))))) (Nat.le_of_ble_eq_true rfl) (Nat.le_of_ble_eq_true rfl)) fun p1 as1 H1 e1 h1 x1 => ?_
    have f1 : Ex H H1 := f0.trans e1
    refine q_asgX (exl_cat rfl h1 x1 (exs_cons (x := "BadPaper") (fs := [("part", v)]) (evx_mk (fs := ["part"]) (ea_cons (ev_var rfl) ea_nil) rfl) (exs_cons (x := "BadDesk") (fs := [("part", v)]) (evx_mk (fs := ["part"]) (ea_cons (ev_var rfl) ea_nil) rfl) (exs_cons (x := "Misfit") (fs := [("part", v)]) (evx_mk (fs := ["part"]) (ea_cons (ev_var rfl) ea_nil) rfl) (exs_cons (x := "NoSign") (fs := [("value", v)]) (evx_mk (fs := ["value"]) (ea_cons (ev_var rfl) ea_nil) rfl) (exs_cons (x := "NoFact") (fs := [("value", v)]) (evx_mk (fs := ["value"]) (ea_cons (ev_var rfl) ea_nil) rfl) (exs_cons (x := "NoStem") (fs := [("value", v)]) (evx_mk (fs := ["value"]) (ea_cons (ev_var rfl) ea_nil) rfl) (exs_cons (x := "NoEnding") (fs := [("value", v)]) (evx_mk (fs := ["value"]) (ea_cons (ev_var rfl) ea_nil) rfl) exs_nil))))))) (Nat.le_of_ble_eq_true rfl) (Nat.le_of_ble_eq_true rfl)) fun p2 as2 H2 e2 h2 x2 => ?_
    have f2 : Ex H H2 := f1.trans e2
    refine q_asgX (exl_cat rfl h2 x2 (exs_cons (x := "NoName") (fs := [("value", v)]) (evx_mk (fs := ["value"]) (ea_cons (ev_var rfl) ea_nil) rfl) (exs_cons (x := "Twice") (fs := [("value", v)]) (evx_mk (fs := ["value"]) (ea_cons (ev_var rfl) ea_nil) rfl) exs_nil)) (Nat.le_of_ble_eq_true rfl) (Nat.le_of_ble_eq_true rfl)) fun p3 as3 H3 e3 h3 x3 => ?_
    have f3 : Ex H H3 := f2.trans e3
    exact s_ret (ev_var rfl) fun H9 e9 => k p3 as3 H9 (f3.trans e9) (e9 _ _ h3) (x3.ex e9)
theorem ok_l_by_name (T : Tx K mg) : FnOk P w K mg base CX0 3 (ga K "_law_by_name") (fdOf K ("_law_by_name", none)) ["_law_one"] (spBy K) := by
  refine T.f_l_by_name.ok sc_l_by_name (fun vs H Q E h => ?_) (fun cdv A outer s H vs Q E hr h => ?_)
  · obtain ⟨v, rfl, _⟩ := h
    rfl
  · refine ⟨_, PSs.nox (pss_cons (ps_set (i := 1) sc_l_by_name.nd rfl (.inl rfl) (pe_lst (pa_cons (xk_BadSide_part T hr (pk_cons (pv 0) pk_nil)) (pa_cons (xk_BadSaying_part T hr (pk_cons (pv 0) pk_nil)) (pa_cons (xk_BadFact_part T hr (pk_cons (pv 0) pk_nil)) (pa_cons (xk_BadBook_part T hr (pk_cons (pv 0) pk_nil)) (pa_cons (xk_BadGrid_part T hr (pk_cons (pv 0) pk_nil)) pa_nil)))))))
      (pss_cons (ps_set (i := 1) sc_l_by_name.nd rfl (.inl rfl) (pe_op op_cat (pv 1) (pe_lst (pa_cons (xk_BadWord_part T hr (pk_cons (pv 0) pk_nil)) (pa_cons (xk_BadSheet_part T hr (pk_cons (pv 0) pk_nil)) (pa_cons (xk_BadCutting_part T hr (pk_cons (pv 0) pk_nil)) (pa_cons (xk_BadTies_part T hr (pk_cons (pv 0) pk_nil)) (pa_cons (xk_BadHeard_part T hr (pk_cons (pv 0) pk_nil)) pa_nil))))))))
      (pss_cons (ps_set (i := 1) sc_l_by_name.nd rfl (.inl rfl) (pe_op op_cat (pv 1) (pe_lst (pa_cons (xk_BadValue_part T hr (pk_cons (pv 0) pk_nil)) (pa_cons (xk_BadNaming_part T hr (pk_cons (pv 0) pk_nil)) (pa_cons (xk_BadTurning_part T hr (pk_cons (pv 0) pk_nil)) (pa_cons (xk_BadNumber_part T hr (pk_cons (pv 0) pk_nil)) (pa_cons (xk_BadPaper_part T hr (pk_cons (pv 0) pk_nil)) pa_nil))))))))
      (pss_cons (ps_set (i := 1) sc_l_by_name.nd rfl (.inl rfl) (pe_op op_cat (pv 1) (pe_lst (pa_cons (xk_BadDesk_part T hr (pk_cons (pv 0) pk_nil)) (pa_cons (xk_Misfit_part T hr (pk_cons (pv 0) pk_nil)) (pa_cons (xk_NoSign_value T hr (pk_cons (pv 0) pk_nil)) (pa_cons (xk_NoFact_value T hr (pk_cons (pv 0) pk_nil)) (pa_cons (xk_NoStem_value T hr (pk_cons (pv 0) pk_nil)) pa_nil))))))))
      (pss_cons (ps_set (i := 1) sc_l_by_name.nd rfl (.inl rfl) (pe_op op_cat (pv 1) (pe_lst (pa_cons (xk_NoEnding_value T hr (pk_cons (pv 0) pk_nil)) (pa_cons (xk_NoName_value T hr (pk_cons (pv 0) pk_nil)) (pa_cons (xk_Twice_value T hr (pk_cons (pv 0) pk_nil)) pa_nil))))))
      (pss_one (ps_ret (pv 1)))))))), ?_⟩
    -- slots: [(0, '_law_one'), (1, '_law_made')]
    obtain ⟨v, rfl, k⟩ := h
    refine q_asgX (exl_lst (exs_cons (x := "BadSide") (fs := [("part", v)]) (evx_mkK (fs := ["part"]) (ks := ["part"]) (gV := id) (ea_cons (ev_var rfl) ea_nil) rfl rfl) (exs_cons (x := "BadSaying") (fs := [("part", v)]) (evx_mkK (fs := ["part"]) (ks := ["part"]) (gV := id) (ea_cons (ev_var rfl) ea_nil) rfl rfl) (exs_cons (x := "BadFact") (fs := [("part", v)]) (evx_mkK (fs := ["part"]) (ks := ["part"]) (gV := id) (ea_cons (ev_var rfl) ea_nil) rfl rfl) (exs_cons (x := "BadBook") (fs := [("part", v)]) (evx_mkK (fs := ["part"]) (ks := ["part"]) (gV := id) (ea_cons (ev_var rfl) ea_nil) rfl rfl) (exs_cons (x := "BadGrid") (fs := [("part", v)]) (evx_mkK (fs := ["part"]) (ks := ["part"]) (gV := id) (ea_cons (ev_var rfl) ea_nil) rfl rfl) exs_nil))))) (Nat.le_of_ble_eq_true rfl)) fun p0 as0 H0 e0 h0 x0 => ?_
    have f0 : Ex H H0 := e0
    refine q_asgX (exl_cat rfl h0 x0 (exs_cons (x := "BadWord") (fs := [("part", v)]) (evx_mkK (fs := ["part"]) (ks := ["part"]) (gV := id) (ea_cons (ev_var rfl) ea_nil) rfl rfl) (exs_cons (x := "BadSheet") (fs := [("part", v)]) (evx_mkK (fs := ["part"]) (ks := ["part"]) (gV := id) (ea_cons (ev_var rfl) ea_nil) rfl rfl) (exs_cons (x := "BadCutting") (fs := [("part", v)]) (evx_mkK (fs := ["part"]) (ks := ["part"]) (gV := id) (ea_cons (ev_var rfl) ea_nil) rfl rfl) (exs_cons (x := "BadTies") (fs := [("part", v)]) (evx_mkK (fs := ["part"]) (ks := ["part"]) (gV := id) (ea_cons (ev_var rfl) ea_nil) rfl rfl) (exs_cons (x := "BadHeard") (fs := [("part", v)]) (evx_mkK (fs := ["part"]) (ks := ["part"]) (gV := id) (ea_cons (ev_var rfl) ea_nil) rfl rfl) exs_nil))))) (Nat.le_of_ble_eq_true rfl) (Nat.le_of_ble_eq_true rfl)) fun p1 as1 H1 e1 h1 x1 => ?_
    have f1 : Ex H H1 := f0.trans e1
    refine q_asgX (exl_cat rfl h1 x1 (exs_cons (x := "BadValue") (fs := [("part", v)]) (evx_mkK (fs := ["part"]) (ks := ["part"]) (gV := id) (ea_cons (ev_var rfl) ea_nil) rfl rfl) (exs_cons (x := "BadNaming") (fs := [("part", v)]) (evx_mkK (fs := ["part"]) (ks := ["part"]) (gV := id) (ea_cons (ev_var rfl) ea_nil) rfl rfl) (exs_cons (x := "BadTurning") (fs := [("part", v)]) (evx_mkK (fs := ["part"]) (ks := ["part"]) (gV := id) (ea_cons (ev_var rfl) ea_nil) rfl rfl) (exs_cons (x := "BadNumber") (fs := [("part", v)]) (evx_mkK (fs := ["part"]) (ks := ["part"]) (gV := id) (ea_cons (ev_var rfl) ea_nil) rfl rfl) (exs_cons (x := "BadPaper") (fs := [("part", v)]) (evx_mkK (fs := ["part"]) (ks := ["part"]) (gV := id) (ea_cons (ev_var rfl) ea_nil) rfl rfl) exs_nil))))) (Nat.le_of_ble_eq_true rfl) (Nat.le_of_ble_eq_true rfl)) fun p2 as2 H2 e2 h2 x2 => ?_
    have f2 : Ex H H2 := f1.trans e2
    refine q_asgX (exl_cat rfl h2 x2 (exs_cons (x := "BadDesk") (fs := [("part", v)]) (evx_mkK (fs := ["part"]) (ks := ["part"]) (gV := id) (ea_cons (ev_var rfl) ea_nil) rfl rfl) (exs_cons (x := "Misfit") (fs := [("part", v)]) (evx_mkK (fs := ["part"]) (ks := ["part"]) (gV := id) (ea_cons (ev_var rfl) ea_nil) rfl rfl) (exs_cons (x := "NoSign") (fs := [("value", v)]) (evx_mkK (fs := ["value"]) (ks := ["value"]) (gV := id) (ea_cons (ev_var rfl) ea_nil) rfl rfl) (exs_cons (x := "NoFact") (fs := [("value", v)]) (evx_mkK (fs := ["value"]) (ks := ["value"]) (gV := id) (ea_cons (ev_var rfl) ea_nil) rfl rfl) (exs_cons (x := "NoStem") (fs := [("value", v)]) (evx_mkK (fs := ["value"]) (ks := ["value"]) (gV := id) (ea_cons (ev_var rfl) ea_nil) rfl rfl) exs_nil))))) (Nat.le_of_ble_eq_true rfl) (Nat.le_of_ble_eq_true rfl)) fun p3 as3 H3 e3 h3 x3 => ?_
    have f3 : Ex H H3 := f2.trans e3
    refine q_asgX (exl_cat rfl h3 x3 (exs_cons (x := "NoEnding") (fs := [("value", v)]) (evx_mkK (fs := ["value"]) (ks := ["value"]) (gV := id) (ea_cons (ev_var rfl) ea_nil) rfl rfl) (exs_cons (x := "NoName") (fs := [("value", v)]) (evx_mkK (fs := ["value"]) (ks := ["value"]) (gV := id) (ea_cons (ev_var rfl) ea_nil) rfl rfl) (exs_cons (x := "Twice") (fs := [("value", v)]) (evx_mkK (fs := ["value"]) (ks := ["value"]) (gV := id) (ea_cons (ev_var rfl) ea_nil) rfl rfl) exs_nil))) (Nat.le_of_ble_eq_true rfl) (Nat.le_of_ble_eq_true rfl)) fun p4 as4 H4 e4 h4 x4 => ?_
    have f4 : Ex H H4 := f3.trans e4
    exact s_ret (ev_var rfl) fun H9 e9 => k p4 as4 H9 (f4.trans e9) (e9 _ _ h4) (x4.ex e9)
end
end K00
set_option Elab.async false
set_option linter.all false
set_option maxRecDepth 100000
set_option maxHeartbeats 4000000
set_option autoImplicit false
namespace He
open PySem PySem.Spec PyProof.Rows L2 Evl
section
variable {K : PySem.W.Frag} {σ : L2.St} {H H' : Hp} {te tb : TE} {D : Ends} {tu tz : TS}
/-- a new tuple of exceptions -/
def EvXu (K : PySem.W.Frag) (te : TE) (σ : L2.St) (H : Hp) (tbl : List (Str × List (Str × V))) : Prop := ∀ H1, Ex H H1 → ∀ Q : VK, (∀ p as H2, Ex H1 H2 → H2 p = some (.tup (as.map V.ref)) → XsAt K H2 as tbl → Q (.ref p) H2) → te σ H1 Q
theorem exu_tup {ta : TA} {tbl : List (Str × List (Str × V))} (h : EvXs K ta σ H tbl) (hl : tbl.length ≤ 1000) : EvXu K (tTup ta) σ H tbl := fun H1 e Q q =>
  h H1 e _ fun as H2 e2 xs => ⟨sz_of (by rw [List.length_map, xs.length]; omega), fun p hp => q p as _ (e2.trans (Ex.new hp)) upd_same (xs.ex (Ex.new hp))⟩
theorem XsAt.get {as : List Addr} {tbl : List (Str × List (Str × V))} (h : XsAt K H as tbl) : ∀ {i : Nat} {a : Addr}, as[i]? = some a → ∃ e, tbl[i]? = some e ∧ XAt H a (ga K e.1) e.2 := by
  induction h with
  | nil => exact fun h => nomatch h
  | cons x _ ih =>
    intro i a h
    cases i with
    | zero =>
      obtain rfl := Option.some.inj h
      exact ⟨_, rfl, x⟩
    | succ i => exact ih h
theorem XsAt.gets {as : List Addr} {tbl : List (Str × List (Str × V))} (h : XsAt K H as tbl) : ∀ {i : Nat} {e : Str × List (Str × V)}, tbl[i]? = some e → ∃ a, as[i]? = some a ∧ XAt H a (ga K e.1) e.2 := by
  induction h with
  | nil => exact fun h => nomatch h
  | cons x _ ih =>
    intro i e h
    cases i with
    | zero =>
      obtain rfl := Option.some.inj h
      exact ⟨_, rfl, x⟩
    | succ i => exact ih h
/-- for e in (C(..), ..) -/
theorem q_forX {j : Nat} {tbl : List (Str × List (Str × V))} (S : L2.St → Prop) (h : EvXu K te σ H tbl) (h0 : S σ)
    (hs : ∀ (i : Nat) (a : Addr) (e : Str × List (Str × V)) (σ' : L2.St) (H' : Hp), Ex H H' → tbl[i]? = some e → XAt H' a (ga K e.1) e.2 → S σ' → ∀ N : L2.St → Hp → Prop, (∀ σ2 H2, Ex H' H2 → S σ2 → N σ2 H2) →
      tu { D with nx := N, ct := N, bk := tz D } (σ'.set j (some (.ref a))) H') (hd : ∀ σ' H', Ex H H' → S σ' → tz D σ' H') : tSeq (tFor (iTup K te) (gName j) tu) tz D σ H :=
  h H (Ex.refl H) _ fun p as H1 e1 hp hx => ⟨p, rfl, ⟨_, SqT.of hp⟩, for_tup (xs := as.map V.ref) (fun _ σ' H' => Ex H1 H' ∧ S σ') ⟨Ex.refl H1, h0⟩ (fun i σ' H' _ q => SqT.of (q.1 _ _ hp)) (fun i x σ' H' hi q => by
    obtain ⟨e2, hS⟩ := q
    rw [List.getElem?_map] at hi
    cases hz : as[i]? with
    | none =>
      rw [hz] at hi
      cases hi
    | some a =>
      rw [hz] at hi
      obtain rfl : V.ref a = x := Option.some.inj hi
      obtain ⟨e, he, xa⟩ := hx.get hz
      exact hs i a e σ' H' (e1.trans e2) he (xa.ex e2) hS _ fun σ2 H2 e3 s2 => ⟨e2.trans e3, s2⟩) fun σ' H' q => hd σ' H' (e1.trans q.1) q.2⟩
theorem s_forX {j : Nat} {tbl : List (Str × List (Str × V))} (S : L2.St → Prop) (h : EvXu K te σ H tbl) (h0 : S σ)
    (hs : ∀ (i : Nat) (a : Addr) (e : Str × List (Str × V)) (σ' : L2.St) (H' : Hp), Ex H H' → tbl[i]? = some e → XAt H' a (ga K e.1) e.2 → S σ' → ∀ N : L2.St → Hp → Prop, (∀ σ2 H2, Ex H' H2 → S σ2 → N σ2 H2) →
      tu { D with nx := N, ct := N, bk := D.nx } (σ'.set j (some (.ref a))) H') (hd : ∀ σ' H', Ex H H' → S σ' → D.nx σ' H') : tFor (iTup K te) (gName j) tu D σ H :=
  q_forX (tz := tNext) S h h0 hs hd
theorem ev_xfl {a C : Addr} {fs : List (Str × V)} {f : Str} {v : V} (h : Ev te σ H (.ref a)) (T : XCl K C) (hno : PySem.W.findIn K (.ref C) f = some none) (hx : XAt H a C fs) (hl : fs.lookup f = some v) : Ev (tXfl K f te) σ H v := fun H1 e Q q =>
  h H1 e _ fun H2 e2 => ⟨a, C, fs, v, rfl, T, hno, hx.ex (e.trans e2), hl, q H2 e2⟩
/-- [..] != [..] -/
theorem ev_neLL {xs ys : List V} {r : Bool} {ta tb : TE} (ha : EvL ta σ H xs) (hb : EvL tb σ H ys) (he : LEq xs ys r) : Ev (tOp (rNeL K) ta tb) σ H (.bl (!r)) :=
  ev_opLL ha hb fun p q H1 hp hq _ H2 e2 Q k => ⟨p, q, xs, ys, r, rfl, rfl, SqL.of (e2 _ _ hp), SqL.of (e2 _ _ hq), he, k H2 (Ex.refl H2)⟩
theorem ev_eqLL {xs ys : List V} {r : Bool} {ta tb : TE} (ha : EvL ta σ H xs) (hb : EvL tb σ H ys) (he : LEq xs ys r) : Ev (tOp (rEqL K) ta tb) σ H (.bl r) :=
  ev_opLL ha hb fun p q H1 hp hq _ H2 e2 Q k => ⟨p, q, xs, ys, r, rfl, rfl, SqL.of (e2 _ _ hp), SqL.of (e2 _ _ hq), he, k H2 (Ex.refl H2)⟩
end
end He
set_option Elab.async false
set_option linter.all false
set_option maxRecDepth 100000
set_option maxHeartbeats 4000000
set_option autoImplicit false
namespace K00
open PySem PySem.Spec PyProof.Rows L2 He Evl
def spVals (K : PySem.W.Frag) : Sp := fun vs H Q _ => ∃ (x y : V), vs = [x, y] ∧ ValAt K H x ∧ ValAt K H y ∧ RetV (.bl true) H Q
section
variable {P : Program} {w : World} {K : PySem.W.Frag} {mg : Str → Option Value} {base : Heap}
theorem b_l_two_right (T : Tx K mg) : Binds K (fdOf K ("_law_two_right", none)) ["_law_one", "_law_other"] [] := T.f_l_two_right.bindsN fun _ _ _ _ _ _ us hl => match us, hl with | [_, _], _ => rfl
theorem b_l_one_right (T : Tx K mg) : Binds K (fdOf K ("_law_one_right", none)) ["_law_one", "_law_other"] [] := T.f_l_one_right.bindsN fun _ _ _ _ _ _ us hl => match us, hl with | [_, _], _ => rfl
theorem ev_only {σ : L2.St} {H : Hp} {a : Addr} {x : Str} {b f : List Str} {fs : List (Str × V)} {i : Nat} {te tf : TE} (T : Tx K mg) (h1 : Ev te σ H (.ref a)) (h2 : Ev tf σ H (.int (i : Nat))) (m : (x, b, f) ∈ excs) (hx : XAt H a (ga K x) fs) (hi : tbl28[i]? = some (x, b, f)) : Ev (tCall (spOnly K) [] E0 (tCons te (tCons tf tNil))) σ H (.bl true) :=
  ev_call (ea_cons h1 (ea_cons h2 ea_nil)) fun H1 e Q q E => ⟨a, x, b, f, i, rfl, ⟨m, (excsB_cl T.xs m).1, .inr ⟨fs, hx.ex e⟩⟩, hi, q⟩
theorem two_block (T : Tx K mg) {C f1 f2 : Str} {b : List Str} {i : Nat} {H : Hp} {x y : V} {u : Option V} {D : Ends} {tz : TS} (m : (C, b, [f1, f2]) ∈ excs) (hi : tbl28[i]? = some (C, b, [f1, f2])) (hf : (f1 == f2) = false) (hx : Eqv x x true) (hy : Eqv y y true)
    (k : ∀ u H', Ex H H' → tz D [some x, some y, u] H') :
    tSeq (tFor (iTup K (tTup (tCons (tXmk (ga K C) [f1, f2] (tCons (tVar 0) (tCons (tVar 1) tNil))) (tCons (tXmkK (ga K C) [f1, f2] [f2, f1] swap2 (tCons (tVar 1) (tCons (tVar 0) tNil))) tNil)))) (gName 2)
      (tIfS (tOr (tTest (tOp (rNeL K) (tLst (tCons (tXfl K f1 (tVar 2)) (tCons (tXfl K f2 (tVar 2)) tNil))) (tLst (tCons (tVar 0) (tCons (tVar 1) tNil))))) (tNot (tB (tCall (spOnly K) [] E0 (tCons (tVar 2) (tCons (tC (.int (i : Nat))) tNil)))))) (tRet (tC (.bl false))) tNext)) tz D [some x, some y, u] H := by
  have hcl := excsB_cl T.xs m
  refine q_forX (tbl := [(C, [(f2, y), (f1, x)]), (C, [(f2, y), (f1, x)])]) (fun σ => ∃ u, σ = [some x, some y, u]) (exu_tup (exs_cons (evx_mk (fs := [f1, f2]) (ea_cons (ev_var rfl) (ea_cons (ev_var rfl) ea_nil)) rfl) (exs_cons (evx_mkK (fs := [f1, f2]) (ks := [f2, f1]) (gV := swap2) (ea_cons (ev_var rfl) (ea_cons (ev_var rfl) ea_nil)) rfl rfl) exs_nil)) (Nat.le_of_ble_eq_true rfl)) ⟨u, rfl⟩ ?_ ?_
  · rintro j a e σ' H' e1 he hxa ⟨u', rfl⟩ N hN
    have he' : e = (C, [(f2, y), (f1, x)]) := by
      have hm := List.mem_of_getElem? he
      simpa using hm
    subst he'
    have l2 : ([(f2, y), (f1, x)] : List (Str × V)).lookup f2 = some y := by
      rw [List.lookup_cons_self]
    have l1 : ([(f2, y), (f1, x)] : List (Str × V)).lookup f1 = some x := by
      show (match f1 == f2 with | true => some y | false => ([(f1, x)] : List (Str × V)).lookup f1) = some x
      rw [hf]
      exact List.lookup_cons_self
    refine s_when (b := false) (et_is (et_or (et_test (ev_neLL (r := true) (el_lst (ea_cons (ev_xfl (ev_var rfl) hcl.1 (hcl.2.1 f1 (by simp)) hxa l1) (ea_cons (ev_xfl (ev_var rfl) hcl.1 (hcl.2.1 f2 (by simp)) hxa l2) ea_nil)) (by show 2 ≤ 100000; decide)) (el_lst (ea_cons (ev_var rfl) (ea_cons (ev_var rfl) ea_nil)) (by show 2 ≤ 100000; decide)) (.inr ⟨[true, true], .cons hx (.cons hy .nil), rfl⟩))) fun _ => et_not (et_B (ev_only T (ev_var rfl) ev_c m hxa hi))) rfl) (fun hb => nomatch hb) fun _ H2 e2 => ?_
    exact hN _ H2 e2 ⟨_, rfl⟩
  · rintro σ' H' e1 ⟨u', rfl⟩
    exact k u' H' e1
theorem ok_l_two_right (T : Tx K mg) : FnOk P w K mg base CX0 3 (ga K "_law_two_right") (fdOf K ("_law_two_right", none)) ["_law_one", "_law_other"] (spVals K) := by
  refine T.f_l_two_right.ok sc_l_two_right (fun vs H Q E h => ?_) (fun cdv A outer s H vs Q E hr h => ?_)
  · obtain ⟨x, y, rfl, _⟩ := h
    rfl
  · refine ⟨_, PSs.nox (pss_cons (ps_for PassesOwn.never rfl (pi_tup (pe_tup (pa_cons (xm_TooMany T hr (pa_cons (pv 0) (pa_cons (pv 1) pa_nil))) (pa_cons (xk_TooMany_most_what T hr (pk_cons (pv 1) (pk_cons (pv 0) pk_nil))) pa_nil)))) (pg_name (i := 2) sc_l_two_right.nd rfl (.inl rfl))
        (pss_one (ps_if (PW.pt (pw_or (pt_cmpR (op_neL hr.units0) (pe_lst (pa_cons (pe_xfl (pv 2)) (pa_cons (pe_xfl (pv 2)) pa_nil))) (pe_lst (pa_cons (pv 0) (pa_cons (pv 1) pa_nil))) (nomark _)) (pw_or1 (pt_not (pt_val (pe_call (ok_l_is_only T) (hr.mono (by decide)) (by rfl) T.g_l_is_only T.f_l_is_only.kp (b_l_is_only T) .nil pass0 (pa_cons (pv 2) (pa_cons pe_int pa_nil))))))))
          (pss_one (ps_ret pe_bl))
          pss_nil)))
      (pss_cons (ps_for PassesOwn.never rfl (pi_tup (pe_tup (pa_cons (xm_BadText T hr (pa_cons (pv 0) (pa_cons (pv 1) pa_nil))) (pa_cons (xk_BadText_item_line T hr (pk_cons (pv 1) (pk_cons (pv 0) pk_nil))) pa_nil)))) (pg_name (i := 2) sc_l_two_right.nd rfl (.inl rfl))
        (pss_one (ps_if (PW.pt (pw_or (pt_cmpR (op_neL hr.units0) (pe_lst (pa_cons (pe_xfl (pv 2)) (pa_cons (pe_xfl (pv 2)) pa_nil))) (pe_lst (pa_cons (pv 0) (pa_cons (pv 1) pa_nil))) (nomark _)) (pw_or1 (pt_not (pt_val (pe_call (ok_l_is_only T) (hr.mono (by decide)) (by rfl) T.g_l_is_only T.f_l_is_only.kp (b_l_is_only T) .nil pass0 (pa_cons (pv 2) (pa_cons pe_int pa_nil))))))))
          (pss_one (ps_ret pe_bl))
          pss_nil)))
      (pss_cons (ps_for PassesOwn.never rfl (pi_tup (pe_tup (pa_cons (xm_BadLine T hr (pa_cons (pv 0) (pa_cons (pv 1) pa_nil))) (pa_cons (xk_BadLine_error_line T hr (pk_cons (pv 1) (pk_cons (pv 0) pk_nil))) pa_nil)))) (pg_name (i := 2) sc_l_two_right.nd rfl (.inl rfl))
        (pss_one (ps_if (PW.pt (pw_or (pt_cmpR (op_neL hr.units0) (pe_lst (pa_cons (pe_xfl (pv 2)) (pa_cons (pe_xfl (pv 2)) pa_nil))) (pe_lst (pa_cons (pv 0) (pa_cons (pv 1) pa_nil))) (nomark _)) (pw_or1 (pt_not (pt_val (pe_call (ok_l_is_only T) (hr.mono (by decide)) (by rfl) T.g_l_is_only T.f_l_is_only.kp (b_l_is_only T) .nil pass0 (pa_cons (pv 2) (pa_cons pe_int pa_nil))))))))
          (pss_one (ps_ret pe_bl))
          pss_nil)))
      (pss_one (ps_ret pe_bl))))), ?_⟩
    -- slots: [(0, '_law_one'), (1, '_law_other'), (2, '_law_error')]
    obtain ⟨x, y, rfl, hx, hy, k⟩ := h
    refine two_block (i := 24) T mem_TooMany (by decide +kernel) (by decide +kernel) hx.eqv hy.eqv fun u1 H1 e1 => ?_
    refine two_block (i := 26) T mem_BadText (by decide +kernel) (by decide +kernel) hx.eqv hy.eqv fun u2 H2 e2 => ?_
    refine two_block (i := 27) T mem_BadLine (by decide +kernel) (by decide +kernel) hx.eqv hy.eqv fun u3 H3 e3 => ?_
    exact k H3 ((e1.trans e2).trans e3)
end
end K00
set_option Elab.async false
set_option linter.all false
set_option maxRecDepth 100000
set_option maxHeartbeats 4000000
set_option autoImplicit false
namespace L2
open PySem PySem.Spec PyProof.Rows Evl
mutual
theorem Dp.ex {K : PySem.W.Frag} {H H' : Hp} (e : Ex H H') : ∀ {v : V} {d : PyData}, Dp K H v d → Dp K H' v d
  | _, _, .non => .non
  | _, _, .bl b => .bl b
  | _, _, .int i => .int i
  | _, _, .str x => .str x
  | _, _, .lst h a => .lst (ex_l e h) (DpAll.ex e a)
  | _, _, .tup h a => .tup (ex_t e h) (DpAll.ex e a)
theorem DpAll.ex {K : PySem.W.Frag} {H H' : Hp} (e : Ex H H') : ∀ {vs : List V} {ds : List PyData}, DpAll K H vs ds → DpAll K H' vs ds
  | _, _, .nil => .nil
  | _, _, .cons h a => .cons (Dp.ex e h) (DpAll.ex e a)
end
theorem SelfV.ex {K : PySem.W.Frag} {H H' : Hp} {x : V} (h : SelfV K H x) (e : Ex H H') : SelfV K H' x := by
  rcases h with h | ⟨d, hd, sd⟩ | ⟨a, rfl, ha⟩
  · exact .inl h
  · exact .inr (.inl ⟨d, hd.ex e, sd⟩)
  · exact .inr (.inr ⟨a, rfl, e _ _ ha⟩)
end L2
namespace He
open PySem PySem.Spec PyProof.Rows L2 Evl
section
variable {K : PySem.W.Frag} {σ : L2.St} {H H' : Hp} {te tb ta : TE} {D : Ends} {tu tz : TS} {t : TT} {g : TG}
/-- evaluates to a value of which R holds from then on -/
def EvP (te : TE) (σ : L2.St) (H : Hp) (R : V → Hp → Prop) : Prop := ∀ H1, Ex H H1 → ∀ Q : VK, (∀ v H2, Ex H1 H2 → R v H2 → Q v H2) → te σ H1 Q
def Stab (R : V → Hp → Prop) : Prop := ∀ v H H', R v H → Ex H H' → R v H'
theorem evp_tup2 {t1 t2 : TE} {R1 R2 : V → Hp → Prop} (h1 : EvP t1 σ H R1) (h2 : EvP t2 σ H R2) (s1 : Stab R1) (s2 : Stab R2) : EvP (tTup (tCons t1 (tCons t2 tNil))) σ H (fun v H => ∃ p a b, v = .ref p ∧ H p = some (.tup [a, b]) ∧ R1 a H ∧ R2 b H) := fun H1 e Q q =>
  h1 H1 e _ fun a H2 e2 r1 => h2 H2 (e.trans e2) _ fun b H3 e3 r2 => ⟨by show 2 ≤ sizeLine; decide, fun p hp => q _ _ ((e2.trans e3).trans (Ex.new hp)) ⟨p, a, b, rfl, upd_same, s1 _ _ _ r1 (e3.trans (Ex.new hp)), s2 _ _ _ r2 (Ex.new hp)⟩⟩
/-- for .. in (a, b), R of both -/
theorem q_forP {R : V → Hp → Prop} (sR : Stab R) (S : L2.St → Prop) (h : EvP te σ H (fun v H => ∃ p a b, v = .ref p ∧ H p = some (.tup [a, b]) ∧ R a H ∧ R b H)) (h0 : S σ)
    (hs : ∀ (v : V) (σ' : L2.St) (H' : Hp), Ex H H' → R v H' → S σ' → ∀ N : L2.St → Hp → Prop, (∀ σ2 H2, Ex H' H2 → S σ2 → N σ2 H2) →
      g v σ' H' fun σ2 H2 => tu { D with nx := N, ct := N, bk := tz D } σ2 H2) (hd : ∀ σ' H', Ex H H' → S σ' → tz D σ' H') : tSeq (tFor (iTup K te) g tu) tz D σ H :=
  h H (Ex.refl H) _ fun v H1 e1 ⟨p, a, b, ev, hp, ra, rb⟩ => ⟨p, ev, ⟨_, SqT.of hp⟩, for_tup (xs := [a, b]) (fun _ σ' H' => Ex H1 H' ∧ S σ') ⟨Ex.refl H1, h0⟩ (fun i σ' H' _ q => SqT.of (q.1 _ _ hp)) (fun i x σ' H' hi q => by
    obtain ⟨e2, hS⟩ := q
    have hr : R x H' := by
      match i, hi with
      | 0, hi => exact Option.some.inj hi ▸ sR _ _ _ ra e2
      | 1, hi => exact Option.some.inj hi ▸ sR _ _ _ rb e2
    exact hs x σ' H' (e1.trans e2) hr hS _ fun σ2 H2 e3 s2 => ⟨e2.trans e3, s2⟩) fun σ' H' q => hd σ' H' (e1.trans q.1) q.2⟩
/-- for i, x in enumerate(xs), the heap grows alone -/
theorem s_enum {i j k n : Nat} {l : Addr} {xs : List V} (hn : n = 2) (hv : σ[k]? = some (some (.ref l))) (hl : SqL K H l xs) (S : L2.St → Prop) (h0 : S σ)
    (hs : ∀ (m : Nat) (v : V) (σ' : L2.St) (H' : Hp), Ex H H' → xs[m]? = some v → S σ' → ∀ N : L2.St → Hp → Prop, (∀ σ2 H2, Ex H' H2 → S σ2 → N σ2 H2) →
      tu { D with nx := N, ct := N, bk := D.nx } ((σ'.set i (some (.int (m : Nat)))).set j (some v)) H') (hd : ∀ σ' H', Ex H H' → S σ' → D.nx σ' H') :
    tFor (iEnum K (tCons (tVar k) tNil)) (gTup K n (gCons (gName i) (gCons (gName j) gNil))) tu D σ H := by
  subst hn
  refine ⟨_, hv, l, xs, rfl, hl, ?_⟩
  refine for_it (walk_enum (K := K) (xs := xs)) (fun _ σ' H' => Ex H H' ∧ S σ') ⟨Ex.refl H, h0⟩ (fun _ _ _ _ q => ex_l q.1 hl) ?_ fun σ' H' q => hd σ' H' q.1 q.2
  rintro m y σ' H' H'' hi ⟨e1, hS⟩ ⟨T, y1, y2, rfl, hT, rfl, hy1, hy2⟩
  obtain rfl : V.int (m : Nat) = y1 := Option.some.inj hy1
  refine ⟨T, _, rfl, SqT.of upd_same, rfl, _, _, rfl, _, _, rfl, rfl, ?_⟩
  exact hs m y2 σ' _ (e1.trans (Ex.new hT)) hy2 hS _ fun σ2 H2 e3 s2 => ⟨(e1.trans (Ex.new hT)).trans e3, s2⟩
theorem el_if {xs : List V} {b : Bool} (h : EvT t σ H b) (h1 : b = true → EvL ta σ H xs) (h2 : b = false → EvL tb σ H xs) : EvL (tIf t ta tb) σ H xs := fun H1 e Q q => h H1 e _ fun H2 e2 => by
  cases b with
  | true =>
    show ta σ H2 Q
    exact h1 rfl H2 (e.trans e2) Q fun p H3 hp e3 h3 => q p H3 (fresh_back e2 hp) (e2.trans e3) h3
  | false =>
    show tb σ H2 Q
    exact h2 rfl H2 (e.trans e2) Q fun p H3 hp e3 h3 => q p H3 (fresh_back e2 hp) (e2.trans e3) h3
theorem q_asgE {i : Nat} {C : Addr} {fs : List (Str × V)} (h : EvX te σ H C fs) (k : ∀ a H1, Ex H H1 → XAt H1 a C fs → tz D (σ.set i (some (.ref a))) H1) : tSeq (tAsg te (gName i)) tz D σ H :=
  h H (Ex.refl H) _ fun a H1 e hx => k a H1 e hx
theorem ev_xflX {C : Addr} {fs : List (Str × V)} {f : Str} {v : V} (h : EvX te σ H C fs) (T : XCl K C) (hno : PySem.W.findIn K (.ref C) f = some none) (hl : fs.lookup f = some v) : Ev (tXfl K f te) σ H v := fun H1 e Q q =>
  h H1 e _ fun a H2 e2 hx => ⟨a, C, fs, v, rfl, T, hno, hx, hl, q H2 e2⟩
theorem rv_neSelf {x : V} (h : SelfV K H x) : RV (rNeSelf K) x x H (.bl false) := fun H1 e Q q => ⟨rfl, h.ex e, q H1 (Ex.refl H1)⟩
/-- a list in a slot != [..] -/
theorem ev_neVL {xs ys : List V} {r : Bool} {p : Addr} (ha : Ev ta σ H (.ref p)) (hp : SqL K H p xs) (hb : EvL tb σ H ys) (he : LEq xs ys r) : Ev (tOp (rNeL K) ta tb) σ H (.bl (!r)) :=
  ev_opL ha hb fun q H1 hq e H2 e2 Q k => ⟨p, q, xs, ys, r, rfl, rfl, ex_l (e.trans e2) hp, SqL.of (e2 _ _ hq), he, k H2 (Ex.refl H2)⟩
theorem evx_p {C : Addr} {fs : List (Str × V)} (h : EvX te σ H C fs) : EvP te σ H (fun v H => ∃ a, v = .ref a ∧ XAt H a C fs) := fun H1 e Q q => h H1 e _ fun a H2 e2 hx => q _ H2 e2 ⟨a, rfl, hx⟩
end
end He
set_option Elab.async false
set_option linter.all false
set_option maxRecDepth 100000
set_option maxHeartbeats 4000000
set_option autoImplicit false
namespace K00
open PySem PySem.Spec PyProof.Rows L2 He Evl
section
variable {P : Program} {w : World} {K : PySem.W.Frag} {mg : Str → Option Value} {base : Heap}
theorem facts23 : ∀ m : Nat, m < 23 → (match tbl23[m]?, tbl28[m]? with
    | some (n, f), some (x, _, fs) => n == x && fs == [f] && f == (if m < 17 then ("part" : Str) else "value")
    | _, _ => false) = true := by decide +kernel
theorem mem28 : ∀ e ∈ tbl28, e ∈ excs := by decide +kernel
theorem at23 {m : Nat} {n f : Str} (h : tbl23[m]? = some (n, f)) : ∃ b, tbl28[m]? = some (n, b, [f]) ∧ (n, b, [f]) ∈ excs ∧ m < 23 ∧ f = (if m < 17 then ("part" : Str) else "value") := by
  have hl : tbl23.length = 23 := rfl
  have hm : m < 23 := by
    have := (List.getElem?_eq_some_iff.mp h).1
    omega
  have q := facts23 m hm
  rw [h] at q
  cases hz : tbl28[m]? with
  | none =>
    rw [hz] at q
    cases q
  | some e =>
    obtain ⟨x, b, fs⟩ := e
    rw [hz] at q
    have q' : (n == x && fs == [f] && f == (if m < 17 then ("part" : Str) else "value")) = true := q
    rw [Bool.and_eq_true, Bool.and_eq_true] at q'
    have e1 : n = x := eq_of_beq q'.1.1
    have e2 : fs = [f] := eq_of_beq q'.1.2
    subst e1 e2
    exact ⟨b, rfl, mem28 _ (List.mem_of_getElem? hz), hm, eq_of_beq q'.2⟩
/-- what by_place and by_name give -/
def ByAt (K : PySem.W.Frag) (x v : V) (H : Hp) : Prop := ∃ l as, v = .ref l ∧ H l = some (.lst (as.map V.ref)) ∧ XsAt K H as (tblV x)
theorem byAt_stab {x : V} : Stab (ByAt K x) := fun v H H' ⟨l, as, ev, hl, hx⟩ e => ⟨l, as, ev, e _ _ hl, hx.ex e⟩
theorem evp_by {σ : L2.St} {H : Hp} {te : TE} {x : V} (h : Ev te σ H x) : EvP (tCall (spBy K) [] E0 (tCons te tNil)) σ H (ByAt K x) := fun H1 e Q q =>
  h H1 e _ fun H2 e2 => ⟨x, rfl, fun p as H3 e3 hp hx => q _ H3 (e2.trans e3) ⟨p, as, rfl, hp, hx⟩⟩
theorem pair_stab {R1 R2 : V → Hp → Prop} (s1 : Stab R1) (s2 : Stab R2) : Stab (fun v H => ∃ p a b, v = .ref p ∧ H p = some (.tup [a, b]) ∧ R1 a H ∧ R2 b H) := fun v H H' ⟨p, a, b, ev, hp, r1, r2⟩ e => ⟨p, a, b, ev, e _ _ hp, s1 _ _ _ r1 e, s2 _ _ _ r2 e⟩
def ImpAt (K : PySem.W.Frag) (x v : V) (H : Hp) : Prop := ∃ a, v = .ref a ∧ XAt H a (ga K "Impossible") [("paper", x)]
theorem impAt_stab {x : V} : Stab (ImpAt K x) := fun v H H' ⟨a, ev, hx⟩ e => ⟨a, ev, hx.ex e⟩
def s9 (x y : V) (σ : L2.St) : Prop := ∃ a b c d e f g, σ = [some x, some y, a, b, c, d, e, f, g]
/-- the loop over an error of each class -/
theorem one_inner (T : Tx K mg) {σ : L2.St} {H : Hp} {x y : V} {l l' : Addr} {as as' : List Addr} {D : Ends} {n : Nat} (hn : n = 2) (hx : Eqv x x true) (hy : Eqv y y true) (hl : H l = some (.lst (as.map V.ref))) (hl' : H l' = some (.lst (as'.map V.ref))) (xa : XsAt K H as (tblV x)) (xb : XsAt K H as' (tblV y))
    (hσ : ∃ c d e f g, σ = [some x, some y, some (.ref l), some (.ref l'), c, d, e, f, g]) (hd : ∀ σ' H', Ex H H' → s9 x y σ' → D.nx σ' H') :
    tFor (iEnum K (tCons (tVar 2) tNil)) (gTup K n (gCons (gName 4) (gCons (gName 5) gNil))) (tSeq (tAsg (tIf (tTest (tOp (rI0 fun i j => V.bl (decide (i < j))) (tVar 4) (tC (V.int 17)))) (tLst (tCons (tXfl K "part" (tVar 5)) (tCons (tXfl K "part" (tOp (rIxL K) (tVar 3) (tVar 4))) tNil))) (tLst (tCons (tXfl K "value" (tVar 5)) (tCons (tXfl K "value" (tOp (rIxL K) (tVar 3) (tVar 4))) tNil)))) (gName 6))
      (tIfS (tOr (tTest (tOp (rNeL K) (tVar 6) (tLst (tCons (tVar 0) (tCons (tVar 1) tNil))))) (tOr (tNot (tB (tCall (spOnly K) [] E0 (tCons (tVar 5) (tCons (tVar 4) tNil))))) (tNot (tB (tCall (spOnly K) [] E0 (tCons (tOp (rIxL K) (tVar 3) (tVar 4)) (tCons (tVar 4) tNil))))))) (tRet (tC (V.bl false))) tNext)) D σ H := by
  obtain ⟨c, d, e, f, g, rfl⟩ := hσ
  refine s_enum (xs := as.map V.ref) hn rfl (SqL.of hl) (fun σ => ∃ c d e f g, σ = [some x, some y, some (.ref l), some (.ref l'), c, d, e, f, g]) ⟨_, _, _, _, _, rfl⟩ ?_ ?_
  · rintro m v σ' H' e1 hv ⟨c, d, e, f, g, rfl⟩ N hN
    rw [List.getElem?_map] at hv
    cases hz : as[m]? with
    | none =>
      rw [hz] at hv
      cases hv
    | some a =>
      rw [hz] at hv
      obtain rfl : V.ref a = v := Option.some.inj hv
      obtain ⟨ent, he, hxa⟩ := xa.get hz
      unfold tblV at he
      rw [List.getElem?_map] at he
      cases hw : tbl23[m]? with
      | none =>
        rw [hw] at he
        cases he
      | some nf =>
        obtain ⟨nm, fl⟩ := nf
        rw [hw] at he
        obtain rfl : (nm, [(fl, x)]) = ent := Option.some.inj he
        obtain ⟨b, h28, hm, hlt, hfl⟩ := at23 hw
        obtain ⟨a', hz', hxb⟩ := xb.gets (i := m) (e := (nm, [(fl, y)])) (by unfold tblV; rw [List.getElem?_map, hw] <;> rfl)
        have hcl := excsB_cl T.xs hm
        have hno := hcl.2.1 fl (by simp)
        have hxa1 := hxa.ex e1
        have hxb1 := hxb.ex e1
        have hat : atI (as'.map V.ref) (m : Nat) = some (.ref a') := by
          refine at_of rfl ?_
          rw [List.getElem?_map, hz']
          rfl
        have lx : ([(fl, x)] : List (Str × V)).lookup fl = some x := List.lookup_cons_self
        have ly : ([(fl, y)] : List (Str × V)).lookup fl = some y := List.lookup_cons_self
        have elst : ∀ f0 : Str, f0 = fl → EvL (tLst (tCons (tXfl K f0 (tVar 5)) (tCons (tXfl K f0 (tOp (rIxL K) (tVar 3) (tVar 4))) tNil))) [some x, some y, some (.ref l), some (.ref l'), some (.int (m : Nat)), some (.ref a), e, f, g] H' [x, y] := fun f0 h0 => by
          subst h0
          exact el_lst (ea_cons (ev_xfl (ev_var rfl) hcl.1 hno hxa1 lx) (ea_cons (ev_xfl (ev_op (ev_var rfl) (ev_var rfl) (rv_ixL (SqL.of (e1 _ _ hl')) hat)) hcl.1 hno hxb1 ly) ea_nil)) (by show 2 ≤ 100000; decide)
        have e17 : decide ((m : Int) < ((17 : Nat) : Int)) = decide (m < 17) := by rw [decide_eq_decide]; omega
        refine q_asgL (xs := [x, y]) (el_if (b := decide (m < 17)) (et_test (by rw [← e17]; exact ev_op (ev_var rfl) ev_c rv_I0)) (fun hb => elst _ (by rw [hfl, if_pos (of_decide_eq_true hb)])) (fun hb => elst _ (by rw [hfl, if_neg (of_decide_eq_false hb)]))) fun p H2 _ e2 hp => ?_
        refine s_when (b := false) (et_is (et_or (et_test (ev_neVL (r := true) (ev_var rfl) (SqL.of hp) (el_lst (ea_cons (ev_var rfl) (ea_cons (ev_var rfl) ea_nil)) (by show 2 ≤ 100000; decide)) (.inr ⟨[true, true], .cons hx (.cons hy .nil), rfl⟩))) fun _ => et_or (et_not (et_B (ev_only T (ev_var rfl) (ev_var rfl) hm (hxa1.ex e2) h28))) fun _ => et_not (et_B (ev_only T (ev_op (ev_var rfl) (ev_var rfl) (rv_ixL (SqL.of (e2 _ _ (e1 _ _ hl'))) hat)) (ev_var rfl) hm (hxb1.ex e2) h28))) rfl) (fun hb => nomatch hb) fun _ H3 e3 => ?_
        exact hN _ H3 (e2.trans e3) ⟨_, _, _, _, _, rfl⟩
  · rintro σ' H' e1 ⟨c, d, e, f, g, rfl⟩
    exact hd _ H' e1 ⟨_, _, _, _, _, _, _, rfl⟩
theorem ok_l_one_right (T : Tx K mg) : FnOk P w K mg base CX0 4 (ga K "_law_one_right") (fdOf K ("_law_one_right", none)) ["_law_one", "_law_other"] (spVals K) := by
  refine T.f_l_one_right.ok sc_l_one_right (fun vs H Q E h => ?_) (fun cdv A outer s H vs Q E hr h => ?_)
  · obtain ⟨x, y, rfl, _⟩ := h
    rfl
  · refine ⟨_, PSs.nox (pss_cons (ps_for PassesOwn.never rfl (pi_tup (pe_tup (pa_cons (pe_tup (pa_cons (pe_call (ok_l_by_place T) (hr.mono (by decide)) (by rfl) T.g_l_by_place T.f_l_by_place.kp (b_l_by_place T) .nil pass0 (pa_cons (pv 0) pa_nil)) (pa_cons (pe_call (ok_l_by_name T) (hr.mono (by decide)) (by rfl) T.g_l_by_name T.f_l_by_name.kp (b_l_by_name T) .nil pass0 (pa_cons (pv 1) pa_nil)) pa_nil))) (pa_cons (pe_tup (pa_cons (pe_call (ok_l_by_name T) (hr.mono (by decide)) (by rfl) T.g_l_by_name T.f_l_by_name.kp (b_l_by_name T) .nil pass0 (pa_cons (pv 0) pa_nil)) (pa_cons (pe_call (ok_l_by_place T) (hr.mono (by decide)) (by rfl) T.g_l_by_place T.f_l_by_place.kp (b_l_by_place T) .nil pass0 (pa_cons (pv 1) pa_nil)) pa_nil))) pa_nil)))) (pg_tup rfl (pgs_cons (pg_name (i := 2) sc_l_one_right.nd rfl (.inl rfl)) (pgs_cons (pg_name (i := 3) sc_l_one_right.nd rfl (.inl rfl)) pgs_nil)))
        (pss_one (ps_for PassesOwn.never rfl (pi_enum (by rfl) T.n_enumerate (pa_cons (pv 2) pa_nil)) (pg_tup rfl (pgs_cons (pg_name (i := 4) sc_l_one_right.nd rfl (.inl rfl)) (pgs_cons (pg_name (i := 5) sc_l_one_right.nd rfl (.inl rfl)) pgs_nil)))
          (pss_cons (ps_set (i := 6) sc_l_one_right.nd rfl (.inl rfl) (pe_ifExp (pt_cmpR op_lt (pv 4) pe_int (nomark _)) (pe_lst (pa_cons (pe_xfl (pv 5)) (pa_cons (pe_xfl (pe_ix ix_list (pv 3) (pv 4) (fun _ _ => rfl))) pa_nil))) (pe_lst (pa_cons (pe_xfl (pv 5)) (pa_cons (pe_xfl (pe_ix ix_list (pv 3) (pv 4) (fun _ _ => rfl))) pa_nil)))))
          (pss_one (ps_if (PW.pt (pw_or (pt_cmpR (op_neL hr.units0) (pv 6) (pe_lst (pa_cons (pv 0) (pa_cons (pv 1) pa_nil))) (nomark _)) (pw_or (pt_not (pt_val (pe_call (ok_l_is_only T) (hr.mono (by decide)) (by rfl) T.g_l_is_only T.f_l_is_only.kp (b_l_is_only T) .nil pass0 (pa_cons (pv 5) (pa_cons (pv 4) pa_nil))))) (pw_or1 (pt_not (pt_val (pe_call (ok_l_is_only T) (hr.mono (by decide)) (by rfl) T.g_l_is_only T.f_l_is_only.kp (b_l_is_only T) .nil pass0 (pa_cons (pe_ix ix_list (pv 3) (pv 4) (fun _ _ => rfl)) (pa_cons (pv 4) pa_nil)))))))))
            (pss_one (ps_ret pe_bl))
            pss_nil))))))
      (pss_cons (ps_set (i := 7) sc_l_one_right.nd rfl (.inl rfl) (xk_Missing_value T hr (pk_cons (pv 0) pk_nil)))
      (pss_cons (ps_if (PW.pt (pw_or (pt_cmpR (op_neSelf hr.units) (pe_xfl (pv 7)) (pv 0) (nomark _)) (pw_or (pt_val (pe_callB call_isX (by rfl) T.n_isinstance (by decide +kernel) (pa_cons (pv 7) (pa_cons (pe_glob (v := .ref (ga K "NoSign")) (by rfl) T.g_NoSign rfl) pa_nil)))) (pw_or (pt_not (pt_val (pe_callB call_isX (by rfl) T.n_isinstance (by decide +kernel) (pa_cons (pv 7) (pa_cons (pe_glob (v := .ref (ga K "SignError")) (by rfl) T.g_SignError rfl) pa_nil))))) (pw_or1 (pt_cmpR (op_neSelf hr.units) (pe_xfl (xm_Missing T hr (pa_cons (pv 1) pa_nil))) (pv 1) (nomark _)))))))
        (pss_one (ps_ret pe_bl))
        pss_nil)
      (pss_cons (ps_for PassesOwn.never rfl (pi_tup (pe_tup (pa_cons (pe_tup (pa_cons (xm_Impossible T hr (pa_cons (pv 0) pa_nil)) (pa_cons (xk_Impossible_paper T hr (pk_cons (pv 1) pk_nil)) pa_nil))) (pa_cons (pe_tup (pa_cons (xk_Impossible_paper T hr (pk_cons (pv 0) pk_nil)) (pa_cons (xm_Impossible T hr (pa_cons (pv 1) pa_nil)) pa_nil))) pa_nil)))) (pg_tup rfl (pgs_cons (pg_name (i := 5) sc_l_one_right.nd rfl (.inl rfl)) (pgs_cons (pg_name (i := 8) sc_l_one_right.nd rfl (.inl rfl)) pgs_nil)))
        (pss_one (ps_if (PW.pt (pw_or (pt_cmpR (op_neL hr.units0) (pe_lst (pa_cons (pe_xfl (pv 5)) (pa_cons (pe_xfl (pv 8)) pa_nil))) (pe_lst (pa_cons (pv 0) (pa_cons (pv 1) pa_nil))) (nomark _)) (pw_or (pt_not (pt_val (pe_call (ok_l_is_only T) (hr.mono (by decide)) (by rfl) T.g_l_is_only T.f_l_is_only.kp (b_l_is_only T) .nil pass0 (pa_cons (pv 5) (pa_cons pe_int pa_nil))))) (pw_or1 (pt_not (pt_val (pe_call (ok_l_is_only T) (hr.mono (by decide)) (by rfl) T.g_l_is_only T.f_l_is_only.kp (b_l_is_only T) .nil pass0 (pa_cons (pv 8) (pa_cons pe_int pa_nil)))))))))
          (pss_one (ps_ret pe_bl))
          pss_nil)))
      (pss_one (ps_ret (pe_call (ok_l_is_only T) (hr.mono (by decide)) (by rfl) T.g_l_is_only T.f_l_is_only.kp (b_l_is_only T) .nil pass0 (pa_cons (x0_Nothing T hr) (pa_cons pe_int pa_nil))))))))), ?_⟩
    -- slots: [(0, '_law_one'), (1, '_law_other'), (2, '_law_made'), (3, '_law_again'), (4, '_law_at'), (5, '_law_error'), (6, '_law_told'), (7, '_law_base'), (8, '_law_twin')]
    obtain ⟨x, y, rfl, hx, hy, k⟩ := h
    have stA := pair_stab (byAt_stab (K := K) (x := x)) (byAt_stab (K := K) (x := y))
    have ebx : ∀ te, Ev te (start ["_law_one", "_law_other", "_law_made", "_law_again", "_law_at", "_law_error", "_law_told", "_law_base", "_law_twin"] [x, y]) H x → EvP (tTup (tCons (tCall (spBy K) [] E0 (tCons te tNil)) (tCons (tCall (spBy K) [] E0 (tCons (tVar 1) tNil)) tNil))) (start ["_law_one", "_law_other", "_law_made", "_law_again", "_law_at", "_law_error", "_law_told", "_law_base", "_law_twin"] [x, y]) H (fun v H => ∃ p a b, v = .ref p ∧ H p = some (.tup [a, b]) ∧ ByAt K x a H ∧ ByAt K y b H) := fun te h =>
      evp_tup2 (evp_by h) (evp_by (ev_var rfl)) byAt_stab byAt_stab
    refine q_forP (R := fun v H => ∃ p a b, v = .ref p ∧ H p = some (.tup [a, b]) ∧ ByAt K x a H ∧ ByAt K y b H) stA (s9 x y) (evp_tup2 (ebx _ (ev_var rfl)) (ebx _ (ev_var rfl)) stA stA) ⟨_, _, _, _, _, _, _, rfl⟩ ?_ ?_
    · rintro v σ' H' e1 ⟨p, v1, v2, rfl, hp, ⟨l, as, rfl, hl, xa⟩, ⟨l', as', rfl, hl', xb⟩⟩ ⟨a, b, c, d, e, f, g, rfl⟩ N hN
      refine ⟨p, _, rfl, SqT.of hp, rfl, _, _, rfl, _, _, rfl, rfl, ?_⟩
      exact one_inner T rfl hx.eqv hy.eqv hl hl' xa xb ⟨_, _, _, _, _, rfl⟩ fun σ2 H2 e2 s2 => hN σ2 H2 e2 s2
    rintro σ1 H1 e1 ⟨a, b, c, d, e, f, g, rfl⟩
    refine q_asgE (evx_mkK (fs := ["value"]) (ks := ["value"]) (gV := id) (vs := [x]) (ea_cons (ev_var rfl) ea_nil) rfl rfl) fun ab H2 e2 hb => ?_
    have hM := excsB_cl T.xs mem_Missing
    have ob : XOb K excs H2 ab "Missing" ["SignError"] ["value"] := ⟨mem_Missing, hM.1, .inr ⟨_, hb⟩⟩
    have nS : decide (("NoSign" : Str) ∈ (("Missing" : Str) :: (["SignError"] : List Str))) = false := by decide +kernel
    have nE : decide (("SignError" : Str) ∈ (("Missing" : Str) :: (["SignError"] : List Str))) = true := by decide +kernel
    have sx : SelfV K H2 x := hx.self.ex (e1.trans e2)
    have sy : SelfV K H2 y := hy.self.ex (e1.trans e2)
    refine q_when (b := false) (et_is (et_or (et_test (ev_op (ev_xfl (ev_var rfl) hM.1 (hM.2.1 "value" (by simp)) hb rfl) (ev_var rfl) (rv_neSelf sx))) fun _ => et_or (et_B (ev_cb (ea_cons (ev_var rfl) (ea_cons ev_c ea_nil)) (rc_isX T.xs excs_closed ob mem_NoSign))) fun _ => et_or (et_not (et_B (ev_cb (ea_cons (ev_var rfl) (ea_cons ev_c ea_nil)) (rc_isX T.xs excs_closed ob mem_SignError)))) fun _ => et_test (ev_op (ev_xflX (evx_mk (fs := ["value"]) (vs := [y]) (ea_cons (ev_var rfl) ea_nil) rfl) hM.1 (hM.2.1 "value" (by simp)) rfl) (ev_var rfl) (rv_neSelf sy))) (by rw [nS, nE] <;> rfl)) (fun hb => nomatch hb) fun _ H3 e3 => ?_
    have stB := pair_stab (impAt_stab (K := K) (x := x)) (impAt_stab (K := K) (x := y))
    have hI := excsB_cl T.xs mem_Impossible
    have noI := hI.2.1 "paper" (by simp)
    refine q_forP (R := fun v H => ∃ p a b, v = .ref p ∧ H p = some (.tup [a, b]) ∧ ImpAt K x a H ∧ ImpAt K y b H) stB (s9 x y) (evp_tup2
      (evp_tup2 (evx_p (evx_mk (fs := ["paper"]) (vs := [x]) (ea_cons (ev_var rfl) ea_nil) rfl)) (evx_p (evx_mkK (fs := ["paper"]) (ks := ["paper"]) (gV := id) (vs := [y]) (ea_cons (ev_var rfl) ea_nil) rfl rfl)) impAt_stab impAt_stab)
      (evp_tup2 (evx_p (evx_mkK (fs := ["paper"]) (ks := ["paper"]) (gV := id) (vs := [x]) (ea_cons (ev_var rfl) ea_nil) rfl rfl)) (evx_p (evx_mk (fs := ["paper"]) (vs := [y]) (ea_cons (ev_var rfl) ea_nil) rfl)) impAt_stab impAt_stab) stB stB) ⟨_, _, _, _, _, _, _, rfl⟩ ?_ ?_
    · rintro v σ' H' e4 ⟨p, v1, v2, rfl, hp, ⟨a1, rfl, h1⟩, ⟨a2, rfl, h2⟩⟩ ⟨a, b, c, d, e, f, g, rfl⟩ N hN
      refine ⟨p, _, rfl, SqT.of hp, rfl, _, _, rfl, _, _, rfl, rfl, ?_⟩
      have h23 : tbl28[23]? = some (("Impossible", ["SignError"], ["paper"]) : Str × List Str × List Str) := by decide +kernel
      refine s_when (b := false) (et_is (et_or (et_test (ev_neLL (r := true) (xs := [x, y]) (ys := [x, y]) (el_lst (ea_cons (ev_xfl (ev_var rfl) hI.1 noI h1 rfl) (ea_cons (ev_xfl (ev_var rfl) hI.1 noI h2 rfl) ea_nil)) (by show 2 ≤ 100000; decide)) (el_lst (ea_cons (ev_var rfl) (ea_cons (ev_var rfl) ea_nil)) (by show 2 ≤ 100000; decide)) (.inr ⟨[true, true], .cons hx.eqv (.cons hy.eqv .nil), rfl⟩))) fun _ => et_or (et_not (et_B (ev_only (i := 23) T (ev_var rfl) ev_c mem_Impossible h1 h23))) fun _ => et_not (et_B (ev_only (i := 23) T (ev_var rfl) ev_c mem_Impossible h2 h23))) rfl) (fun hb => nomatch hb) fun _ H5 e5 => ?_
      exact hN _ H5 e5 ⟨_, _, _, _, _, _, _, rfl⟩
    rintro σ4 H4 e4 ⟨a, b, c, d, e, f, g, rfl⟩
    have h25 : tbl28[25]? = some (("Nothing", ["SignError"], []) : Str × List Str × List Str) := by decide +kernel
    refine s_ret (v := .bl true) (fun H5 e5 Q' q => ?_) fun H5 e5 => k H5 ((((e1.trans e2).trans e3).trans e4).trans e5)
    intro an han
    refine ⟨an, "Nothing", ["SignError"], [], 25, rfl, ⟨mem_Nothing, (excsB_cl T.xs mem_Nothing).1, .inl upd_same⟩, h25, fun H6 e6 => q H6 ((Ex.new han).trans e6)⟩
end
end K00
set_option Elab.async false
set_option linter.all false
set_option maxRecDepth 100000
set_option maxHeartbeats 4000000
set_option autoImplicit false
namespace He
open PySem PySem.Spec PyProof.Rows L2 Evl
section
variable {K : PySem.W.Frag} {σ : L2.St} {H H' : Hp} {te tb : TE} {ta : TA} {D : Ends} {tu tz : TS} {t : TT} {g : TG}
theorem Off.mut {p q : Addr} {H H' : Hp} (e : Off p H H') (h : H q = none) {o : HO} : Off p H (upd H' q o) := fun a u ha n => by
  rw [upd_ne (ne_of_none ha h)]
  exact e a u ha n
/-- [e for t in range(m)], m and the items drawn -/
theorem lc_pen {p c : Addr} {n0 L M : Nat} {j : Nat} {vs : List Nat} {R : V → Prop} {Q : VK} (hP : PenAt K n0 H p c) (hM : M ≤ 1000)
    (hta : ∀ Q' : List V → Hp → Prop, (∀ (m : Nat) H1, L ≤ m → m ≤ M → Off p H H1 → PenAt K (n0 + 1) H1 p c → Q' [.int (m : Nat)] H1) → ta σ H Q')
    (hw : ∀ x, wipe ((wipe σ vs).set j (some x)) vs = wipe σ vs)
    (hte : ∀ (i k : Nat) H1, i < M → k ≤ n0 + 1 + M → Off p H H1 → PenAt K k H1 p c → ∀ Q' : VK, (∀ x H2, R x → Off p H1 H2 → PenAt K (k + 1) H2 p c → Q' x H2) → te ((wipe σ vs).set j (some (.int (i : Nat)))) H1 Q')
    (hQ : ∀ (xs : List V) (l : Addr) H2, L ≤ xs.length → xs.length ≤ M → (∀ x ∈ xs, R x) → H2 l = some (.lst xs) → l ≠ p → H l = none → Off p H H2 → PenAt K (n0 + 1 + M) H2 p c → Q (.ref l) H2) :
    tLc (iRng1 ta) (gName j) tYes te vs σ H Q := by
  refine hta _ fun m H1 hL hm off1 pen1 => ⟨(m : Int), rfl, by omega, by omega, fun Dl hD => ?_⟩
  obtain ⟨op, hp1⟩ := pen1.there
  have hDp : p ≠ Dl := ne_of_none hp1 hD
  have hDl : H Dl = none := off1.back hp1 hD
  refine lc_range (lo := 0) (n := (m : Int).toNat) (fun i H' => ∃ acc, H' Dl = some (.lst acc) ∧ acc.length = i ∧ (∀ x ∈ acc, R x) ∧ Off p H1 H' ∧ PenAt K (n0 + 1 + i) H' p c) ⟨[], upd_same, rfl, fun x hx => (nomatch hx), Off.of (Ex.new hD), pen1.ex (Ex.new hD)⟩ ?_ ?_
  · rintro i H' hi ⟨acc, ha, hlen, hR, off2, pen2⟩
    have e0 : (0 : Int) + (i : Int) = (i : Int) := Int.zero_add _
    show wipe ((wipe σ vs).set j (some (.int ((0 : Int) + (i : Int))))) vs = wipe σ vs ∧ te ((wipe σ vs).set j (some (.int ((0 : Int) + (i : Int))))) H' fun y H4 => ∃ acc, H4 Dl = some (.lst acc) ∧ acc.length < sizeLine ∧ _
    rw [e0]
    refine ⟨hw _, hte i (n0 + 1 + i) H' (by omega) (by omega) (off1.trans off2) pen2 _ fun x H2 hx off3 pen3 => ⟨acc, off3 _ _ ha (Ne.symm hDp), sz_lt (by omega), acc ++ [x], upd_same, ?_, ?_, Off.mut (off2.trans off3) hD, ?_⟩⟩
    · rw [List.length_append, hlen]
      rfl
    · intro y hy
      rcases List.mem_append.mp hy with hy | hy
      · exact hR y hy
      · rw [List.mem_singleton.mp hy]
        exact hx
    · exact PenAt.mut pen1 hD pen3
  · rintro H' ⟨acc, ha, hlen, hR, off2, pen2⟩
    exact hQ acc Dl H' (by omega) (by omega) hR ha (Ne.symm hDp) hDl (off1.trans off2) (pen2.mono (by omega))
/-- [e for i, x in enumerate(xs) if t] -/
theorem el_lcE {k i j : Nat} {l : Addr} {xs : List V} {vs : List Nat} (f : Nat → Bool) (v : Nat → V) (hv : σ[k]? = some (some (.ref l))) (hl : SqL K H l xs) (hz : xs.length ≤ 40000)
    (hw : ∀ x y, wipe (((wipe σ vs).set i (some x)).set j (some y)) vs = wipe σ vs)
    (ht : ∀ (m : Nat) (x : V) H1, Ex H H1 → xs[m]? = some x → EvT t (((wipe σ vs).set i (some (.int (m : Nat)))).set j (some x)) H1 (f m))
    (he : ∀ (m : Nat) (x : V) H1, Ex H H1 → xs[m]? = some x → f m = true → Ev te (((wipe σ vs).set i (some (.int (m : Nat)))).set j (some x)) H1 (v m)) :
    EvL (tLc (iEnum K (tCons (tVar k) tNil)) (gTup K 2 (gCons (gName i) (gCons (gName j) gNil))) t te vs) σ H (given xs.length f v) := fun H1 e Q q =>
  ⟨_, hv, l, xs, rfl, ex_l e hl, fun Dl hD =>
    lc_it (walk_enum (K := K) (xs := xs)) (Cw H1 f v Dl) ⟨hD, Ex.new hD, upd_same⟩ (fun i H' _ p => ex_l (e.trans p.2.1) hl) (fun m x H2 H3 hm pc y => by
      obtain ⟨T, y1, y2, rfl, hT, rfl, hy1, hy2⟩ := y
      obtain rfl : V.int (m : Nat) = y1 := Option.some.inj hy1
      obtain ⟨p1, p2, p3⟩ := pc
      have pc' : Cw H1 f v Dl m (upd H2 T (.tup [.int (m : Nat), y2])) := ⟨p1, p2.trans (Ex.new hT), Ex.new hT _ _ p3⟩
      exact ⟨T, _, rfl, SqT.of upd_same, rfl, _, _, rfl, _, _, rfl, rfl, hw _ _, cw_turn pc' (by omega) (ht m y2 H1 e hy2) (fun hf => he m y2 H1 e hy2 hf)⟩)
      (fun H' p => q Dl H' p.1 p.2.1 p.2.2)⟩
theorem q_asgD {i : Nat} (h : te σ H fun v H1 => tz D (σ.set i (some v)) H1) : tSeq (tAsg te (gName i)) tz D σ H := h
theorem items_of {α : Type} {f : α → V} {P : α → Prop} : ∀ {xs : List V}, (∀ x ∈ xs, ∃ a, x = f a ∧ P a) → ∃ as : List α, xs = as.map f ∧ ∀ a ∈ as, P a
  | [], _ => ⟨[], rfl, fun _ h => nomatch h⟩
  | x :: xs, h => by
    obtain ⟨a, rfl, ha⟩ := h x List.mem_cons_self
    obtain ⟨as, rfl, has⟩ := items_of (xs := xs) fun y hy => h y (List.mem_cons_of_mem _ hy)
    refine ⟨a :: as, rfl, fun b hb => ?_⟩
    rcases List.mem_cons.mp hb with rfl | hb
    · exact ha
    · exact has b hb
/-- xs != [] -/
theorem ev_ne_nil {p : Addr} {xs : List V} (ha : Ev te σ H (.ref p)) (hp : SqL K H p xs) : Ev (tOp (rNeL K) te (tLst tNil)) σ H (.bl (decide (xs ≠ []))) := by
  cases xs with
  | nil => exact ev_neVL (r := true) ha hp (el_lst ea_nil (Nat.zero_le _)) (.inr ⟨[], .nil, rfl⟩)
  | cons x r => exact ev_is (ev_neVL (r := false) ha hp (el_lst ea_nil (Nat.zero_le _)) (.inl ⟨by simp, rfl⟩)) (by rw [decide_eq_true (by simp)] <;> rfl)
end
end He
set_option Elab.async false
set_option linter.all false
set_option maxRecDepth 100000
set_option maxHeartbeats 4000000
set_option autoImplicit false
namespace K00
open PySem PySem.Spec PyProof.Rows L2 He Evl
/-- what draws as it goes, and says yes -/
def spTrue (K : PySem.W.Frag) (d : Nat) : Sp := fun vs H Q _ => ∃ (p c : Addr) (n : Nat), vs = [.ref p] ∧ PenAt K n H p c ∧ n ≤ 10000 ∧ ∀ H', Off p H H' → PenAt K (n + d) H' p c → Q (.bl true) H'
theorem repAt_map {α β : Type} [DecidableEq α] [DecidableEq β] {f : α → β} {xs : List α} (hf : ∀ a ∈ xs, ∀ b ∈ xs, f a = f b → a = b) (i : Nat) : repAt (xs.map f) i = repAt xs i := by
  unfold repAt
  rw [List.getElem?_map]
  cases h : xs[i]? with
  | none => rfl
  | some x =>
    have hx : x ∈ xs := List.mem_of_getElem? h
    show inB (f x) ((xs.map f).take i) = inB x (xs.take i)
    unfold inB
    rw [decide_eq_decide, ← List.map_take]
    constructor
    · intro hm
      obtain ⟨y, hy, e⟩ := List.mem_map.mp hm
      exact hf y (List.mem_of_mem_take hy) x hx e ▸ hy
    · intro hm
      exact List.mem_map.mpr ⟨x, hm, rfl⟩
theorem againN_map {α β : Type} [DecidableEq α] [DecidableEq β] {f : α → β} {xs : List α} (hf : ∀ a ∈ xs, ∀ b ∈ xs, f a = f b → a = b) : againN (xs.map f) = againN xs := by
  unfold againN
  rw [List.length_map]
  congr 1
  exact funext (repAt_map hf)
theorem againN_head {α : Type} [DecidableEq α] (xs : List α) : againN xs = ((List.range xs.length).filter (repAt xs)).head? := by
  unfold againN
  rw [List.head?_filter]
theorem in_ints (a : Int) : ∀ xs : List Int, inV (.int a) (xs.map V.int) = inB a xs
  | [] => rfl
  | b :: xs => by
    have h := in_ints a xs
    show (eqV (.int b) (.int a) || inV (.int a) (xs.map V.int)) = _
    rw [h]
    unfold inB
    have e : eqV (.int b) (.int a) = decide (a = b) := by
      show (_ : Bool) = _
      by_cases z : a = b
      · subst z
        simp [eqV]
      · have z' : ¬ b = a := fun q => z q.symm
        simp [eqV, z, z']
    rw [e]
    by_cases h1 : a = b <;> by_cases h2 : a ∈ xs <;> simp [h1, h2]
def txV (n : Int) : Str := ("x" : Str) ++ Str.ofString (toString n)
theorem txV_inj {a b : Int} (ha : 0 ≤ a ∧ a < 7) (hb : 0 ≤ b ∧ b < 7) (h : txV a = txV b) : a = b := by
  have q : ∀ m : Nat, m < 7 → ∀ n : Nat, n < 7 → txV (m : Int) = txV (n : Int) → m = n := by decide +kernel
  obtain ⟨m, rfl⟩ : ∃ m : Nat, a = (m : Int) := ⟨a.toNat, (Int.toNat_of_nonneg ha.1).symm⟩
  obtain ⟨n, rfl⟩ : ∃ m : Nat, b = (m : Int) := ⟨b.toNat, (Int.toNat_of_nonneg hb.1).symm⟩
  rw [q m (by omega) n (by omega) h]
theorem txV_fit {n : Int} (h0 : 0 ≤ n) (h1 : n < 7) : n.natAbs.log2 < 1920 ∧ ("x" : Str).length + (Str.ofString (toString n)).length ≤ sizeLine := by
  have q : ∀ m : Nat, m < 7 → m.log2 < 1920 ∧ ("x" : Str).length + (Str.ofString (toString (m : Int))).length ≤ sizeLine := by decide +kernel
  obtain ⟨m, rfl⟩ : ∃ m : Nat, n = (m : Int) := ⟨n.toNat, (Int.toNat_of_nonneg h0).symm⟩
  exact q m (by omega)
section
variable {P : Program} {w : World} {K : PySem.W.Frag} {mg : Str → Option Value} {base : Heap}
theorem kb_first_twice_values_0 (T : Tx K mg) : KBn K (fdOf K ("first_twice", none)) ["values"] 0 ["values"] (fun us ws => us ++ ws) (fun us ws => us ++ ws) := T.f_first_twice.kbindsP 0 ["values"] (fun us ws => us ++ ws) (fun r1 r2 => r1.append r2) fun _ _ _ _ _ _ us ws l1 l2 => match us, ws, l1, l2 with | [], [_], _, _ => rfl
theorem b_l_twice_right (T : Tx K mg) : Binds K (fdOf K ("_law_twice_right", none)) ["_law_pen_here"] [] := T.f_l_twice_right.bindsN fun _ _ _ _ _ _ us hl => match us, hl with | [_], _ => rfl
theorem ok_l_twice_right (T : Tx K mg) : FnOk P w K mg base CX0 3 (ga K "_law_twice_right") (fdOf K ("_law_twice_right", none)) ["_law_pen_here"] (spTrue K 9) := by
  refine T.f_l_twice_right.ok sc_l_twice_right (fun vs H Q E h => ?_) (fun cdv A outer s H vs Q E hr h => ?_)
  · obtain ⟨p, c, n, rfl, _⟩ := h
    rfl
  · refine ⟨_, PSs.nox (pss_cons (ps_set (i := 1) sc_l_twice_right.nd rfl (.inr rfl) (pe_lc (own := [("_law_turn", 2)]) (g := (gName 2)) (tt := tYes) rfl sc_l_twice_right.nd (pi_range1 (by rfl) T.n_range (pa_cons (pe_call (ok_l_draw T) (hr.mono (by decide)) (by rfl) T.g_l_draw T.f_l_draw.kp (b_l_draw T) .nil pass0 (pa_cons (pv 0) (pa_cons pe_int pa_nil))) pa_nil)) (blkOk_by (N := ["_law_pen_here", "_law_numbers", "_law_turn", "_law_texts", "_law_number", "_law_due", "_law_at"]) (sc := defScope s_l_twice_right) (by decide +kernel)) (fun _ _ _ _ _ => pg_name (i := 2) sc_l_twice_right.nd rfl (Or.inl rfl)) (fun _ _ _ _ _ => pts_nil) (fun _ _ _ _ _ => (pe_call (ok_l_draw T) (hr.mono (by decide)) (by rfl) T.g_l_draw T.f_l_draw.kp (b_l_draw T) .nil pass0 (pa_cons (pv 0) (pa_cons pe_int pa_nil))))))
      (pss_cons (ps_setLc (i := 3) (own := [("_law_number", 4)]) (g := (gName 4)) (tt := tYes) (by rfl) sc_l_twice_right.nd rfl rfl (sw_true rfl rfl rfl (by decide +kernel)) (pi_list (pv 1)) (blkOk_by (N := ["_law_pen_here", "_law_numbers", "_law_turn", "_law_texts", "_law_number", "_law_due", "_law_at"]) (sc := defScope s_l_twice_right) (by decide +kernel)) (fun _ _ _ _ _ => pg_name (i := 4) sc_l_twice_right.nd rfl (Or.inl rfl)) (fun _ _ _ _ _ => pts_nil) (fun _ _ _ _ _ => (pe_op op_add_str pe_str (pe_callTy call_str_int (by rfl) T.n_str (by decide +kernel) (pa_cons (pv 4) pa_nil)))))
      (pss_cons (ps_setLc (i := 5) (own := [("_law_at", 6), ("_law_number", 4)]) (g := (gTup K 2 (gCons (gName 6) (gCons (gName 4) gNil)))) (tt := tTest (tOp (rIn K false) (tVar 4) (tSl (rSlL K) (tVar 1) tNoPart (tPart (tVar 6))))) (by rfl) sc_l_twice_right.nd rfl rfl (sw_true rfl rfl rfl (by decide +kernel)) (pi_enum (by rfl) T.n_enumerate (pa_cons (pv 1) pa_nil)) (blkOk_by (N := ["_law_pen_here", "_law_numbers", "_law_turn", "_law_texts", "_law_number", "_law_due", "_law_at"]) (sc := defScope s_l_twice_right) (by decide +kernel)) (fun _ _ _ _ _ => pg_tup rfl (pgs_cons (pg_name (i := 6) sc_l_twice_right.nd rfl (Or.inl rfl)) (pgs_cons (pg_name (i := 4) sc_l_twice_right.nd rfl (Or.inl rfl)) pgs_nil))) (fun _ _ _ _ _ => pts_one (pt_cmpR op_in_seq (pv 4) (pe_slice sl_list (pv 1) po_none (po_some (pv 6))) (by rfl))) (fun _ _ _ _ _ => (pv 6)))
      (pss_cons (ps_if (pt_cmpR op_ne (pe_callN0 (ok_first_twice T) (hr.mono (by decide)) (by rfl) T.g_first_twice T.f_first_twice.kp (kb_first_twice_values_0 T) pass0 (pk_cons (pv 1) pk_nil)) (pe_ifExp (pt_cmpR (op_neL hr.units0) (pv 5) (pe_lst pa_nil) (nomark _)) (pe_ix ix_list (pv 1) (pe_ix ix_list (pv 5) pe_int (fun _ _ => rfl)) (fun _ _ => rfl)) pe_non) (nomark _))
        (pss_one (ps_ret pe_bl))
        pss_nil)
      (pss_one (ps_ret (pe_and (pe_cmpR op_eq (pe_call (ok_first_twice T) (hr.mono (by decide)) (by rfl) T.g_first_twice T.f_first_twice.kp (b_first_twice T) .nil pass0 (pa_cons (pe_callTy call_tuple_of (by rfl) T.n_tuple (by decide +kernel) (pa_cons (pv 3) pa_nil)) pa_nil)) (pe_ifExp (pt_cmpR (op_neL hr.units0) (pv 5) (pe_lst pa_nil) (nomark _)) (pe_ix ix_list (pv 3) (pe_ix ix_list (pv 5) pe_int (fun _ _ => rfl)) (fun _ _ => rfl)) pe_non) (nomark _)) (pe_one (pe_cmpR op_isN (pe_call (ok_first_twice T) (hr.mono (by decide)) (by rfl) T.g_first_twice T.f_first_twice.kp (b_first_twice T) .nil pass0 (pa_cons (pe_lst pa_nil) pa_nil)) pe_non (nomark _)))))))))), ?_⟩
    -- slots: [(0, '_law_pen_here'), (1, '_law_numbers'), (2, '_law_turn'), (3, '_law_texts'), (4, '_law_number'), (5, '_law_due'), (6, '_law_at')]
    obtain ⟨p, c, n, rfl, hP, hn, k⟩ := h
    refine q_asgD (lc_pen (L := 0) (M := 7) (R := fun x => ∃ a, x = V.int a ∧ (0 ≤ a ∧ a < 7)) hP (by decide) (fun Q' q => ?_) (fun _ => rfl) (fun i k1 H1 hi hk off pen Q' q => ?_) (fun xs l H1 _ hlen hR h1 hlp hl0 off1 pen1 => ?_))
    · exact ⟨_, rfl, p, c, 8, n, rfl, by decide, by decide, hP, by omega, fun d H1 d0 d1 off pen => by
        obtain ⟨m, rfl⟩ : ∃ m : Nat, d = (m : Int) := ⟨d.toNat, (Int.toNat_of_nonneg d0).symm⟩
        exact q m H1 (Nat.zero_le _) (by omega) off pen⟩
    · exact ⟨_, rfl, p, c, 7, k1, rfl, by decide, by decide, pen, by omega, fun d H2 d0 d1 off2 pen2 => q _ H2 ⟨d, rfl, d0, d1⟩ off2 pen2⟩
    obtain ⟨ns, rfl, hns⟩ := items_of hR
    rw [List.length_map] at hlen
    have hget : ∀ (m : Nat) (x : V), (ns.map V.int)[m]? = some x → ∃ a, ns[m]? = some a ∧ x = .int a ∧ (0 ≤ a ∧ a < 7) := fun m x hx => by
      rw [List.getElem?_map] at hx
      cases hz : ns[m]? with
      | none =>
        rw [hz] at hx
        cases hx
      | some a =>
        rw [hz] at hx
        exact ⟨a, rfl, (Option.some.inj hx).symm, hns a (List.mem_of_getElem? hz)⟩
    have e2 : given (ns.map V.int).length (fun _ => true) (fun m => V.str (txV (ns.getD m 0))) = (ns.map txV).map V.str := by
      refine given_all (by rw [List.length_map, List.length_map, List.length_map]) fun m hm => ?_
      rw [List.length_map] at hm
      rw [List.getElem?_map, List.getElem?_map, List.getElem?_eq_getElem hm, List.getD_eq_getElem?_getD, List.getElem?_eq_getElem hm]
      rfl
    have elT := el_lcL (K := K) (tl := tVar 1) (j := 4) (vs := [4]) (t := tYes) (te := tOp (fun x y H Q => ∃ i j, x = V.str i ∧ y = V.str j ∧ i.length + j.length ≤ sizeLine ∧ Q (V.str (i ++ j)) H) (tC (V.str "x")) (tCB (fun xs H Q => ∃ i, xs = [V.int i] ∧ i.natAbs.log2 < 1920 ∧ Q (V.str (Str.ofString (toString i))) H) (tCons (tVar 4) tNil)))
      (σ := [some (.ref p), some (.ref l), none, none, none, none, none]) (H := H1) (fun _ => true) (fun m => V.str (txV (ns.getD m 0))) (ev_var rfl) (SqL.of h1) (by rw [List.length_map]; omega) (fun _ => rfl) (fun _ _ _ _ _ => et_yes) (fun m x H2 e hx _ => by
        obtain ⟨a, ha, rfl, a0, a1⟩ := hget m x hx
        obtain ⟨f1, f2⟩ := txV_fit a0 a1
        rw [List.getD_eq_getElem?_getD, ha]
        exact fun H3 e3 Q q => ⟨_, rfl, a, rfl, f1, _, _, rfl, rfl, f2, q H3 (Ex.refl H3)⟩)
    rw [e2] at elT
    refine q_asgL elT fun l2 H2 hl2 x2 h2 => ?_
    have elD := el_lcE (K := K) (k := 1) (i := 6) (j := 4) (vs := [6, 4]) (t := tTest (tOp (rIn K false) (tVar 4) (tSl (rSlL K) (tVar 1) tNoPart (tPart (tVar 6))))) (te := tVar 6)
      (σ := [some (.ref p), some (.ref l), none, some (.ref l2), none, none, none]) (H := H2) (repAt ns) (fun m => V.int (m : Nat)) rfl (SqL.of (x2 _ _ h1)) (by rw [List.length_map]; omega) (fun _ _ => rfl) (fun m x H3 e hx => by
        obtain ⟨a, ha, rfl, _⟩ := hget m x hx
        have er : repAt ns m = inV (.int a) (cutV (ns.map V.int) none (some (m : Int))) := by
          rw [cut_to, ← List.map_take, in_ints]
          unfold repAt
          rw [ha]
        rw [er]
        exact et_test (ev_opL (ev_var rfl) (el_sl (ev_var rfl) eo_none (eo_some (ev_var rfl)) (SqL.of (e _ _ (x2 _ _ h1)))) fun q H4 hq _ => rv_isL (SqL.of hq) rfl (by
          rw [cut_to, ← List.map_take, List.all_map]
          exact List.all_eq_true.mpr fun _ _ => rfl)))
      (fun m x H3 e hx _ => ev_var rfl)
    refine q_asgL elD fun l3 H3 hl3 x3 h3 => ?_
    have hL : SqL K H3 l (ns.map V.int) := SqL.of (x3 _ _ (x2 _ _ h1))
    have hL2 : SqL K H3 l2 ((ns.map txV).map V.str) := SqL.of (x3 _ _ h2)
    have hL3 : SqL K H3 l3 (given (ns.map V.int).length (repAt ns) fun m => V.int (m : Nat)) := SqL.of h3
    have ks1 : (ns.map (Sum.inl : Int → Key)).map kV = ns.map V.int := by
      rw [List.map_map]
      rfl
    have ks2 : ((ns.map txV).map (Sum.inr : Str → Key)).map kV = (ns.map txV).map V.str := by
      rw [List.map_map]
      rfl
    have a1 : againN (ns.map (Sum.inl : Int → Key)) = againN ns := againN_map fun a _ b _ h => Sum.inl.inj h
    have a2 : againN ((ns.map txV).map (Sum.inr : Str → Key)) = againN ns := (againN_map fun a _ b _ h => Sum.inr.inj h).trans (againN_map fun a ha b hb h => txV_inj (hns a ha) (hns b hb) h)
    have key : ∀ (v1 v2 : V), firstV (ns.map (Sum.inl : Int → Key)) = v1 → firstV ((ns.map txV).map (Sum.inr : Str → Key)) = v2 → scal v1 v1 = true → scal v2 v2 = true →
        (∀ H4, Ex H3 H4 → Ev (tIf (tTest (tOp (rNeL K) (tVar 5) (tLst tNil))) (tOp (rIxL K) (tVar 1) (tOp (rIxL K) (tVar 5) (tC (V.int 0)))) (tC V.non)) [some (.ref p), some (.ref l), none, some (.ref l2), none, some (.ref l3), none] H4 v1) →
        (∀ H4, Ex H3 H4 → Ev (tIf (tTest (tOp (rNeL K) (tVar 5) (tLst tNil))) (tOp (rIxL K) (tVar 3) (tOp (rIxL K) (tVar 5) (tC (V.int 0)))) (tC V.non)) [some (.ref p), some (.ref l), none, some (.ref l2), none, some (.ref l3), none] H4 v2) →
        tSeq (tIfS (tTest (tOp rNe (tCallN 0 1 (spFirst K) (fun us ws => us ++ ws) E0 tNil (tCons (tVar 1) tNil)) (tIf (tTest (tOp (rNeL K) (tVar 5) (tLst tNil))) (tOp (rIxL K) (tVar 1) (tOp (rIxL K) (tVar 5) (tC (V.int 0)))) (tC V.non)))) (tRet (tC (V.bl false))) tNext) (tRet (tAndV (tOp rEq (tCall (spFirst K) [] E0 (tCons (tCB (fun xs H_1 Q => ∃ p ys, xs = [V.ref p] ∧ ((SqL K H_1 p ys ∧ ∀ (l : Addr), H_1 l = none → Q (V.ref l) (upd H_1 l (HO.tup ys))) ∨ SqT K H_1 p ys ∧ Q (V.ref p) H_1)) (tCons (tVar 3) tNil)) tNil)) (tIf (tTest (tOp (rNeL K) (tVar 5) (tLst tNil))) (tOp (rIxL K) (tVar 3) (tOp (rIxL K) (tVar 5) (tC (V.int 0)))) (tC V.non))) (tOp (fun x y H Q => y = V.non ∧ Q (V.bl (decide (x = V.non))) H) (tCall (spFirst K) [] E0 (tCons (tLst tNil) tNil)) (tC V.non)))) { nx := fun x H' => Q V.non H', rt := Q } [some (.ref p), some (.ref l), none, some (.ref l2), none, some (.ref l3), none] H3 := fun v1 v2 f1 f2 c1 c2 g1 g2 => by
      have c1ev : Ev (tCallN 0 1 (spFirst K) (fun us ws => us ++ ws) E0 tNil (tCons (tVar 1) tNil)) [some (.ref p), some (.ref l), none, some (.ref l2), none, some (.ref l3), none] H3 v1 := fun H4 e4 Q q =>
        ⟨_, rfl, rfl, rfl, V.ref l, ns.map (Sum.inl : Int → Key), rfl, ⟨l, rfl, .inl (by rw [ks1]; exact ex_l e4 hL)⟩, by rw [List.length_map]; omega, fun H5 e5 => by rw [f1]; exact q H5 e5⟩
      refine q_when (b := false) (et_is (et_test (ev_op c1ev (g1 H3 (Ex.refl H3)) (rv_ne c1))) (by rw [decide_eq_true rfl] <;> rfl)) (fun hb => nomatch hb) fun _ H4 e4 => ?_
      have c2ev : Ev (tCall (spFirst K) [] E0 (tCons (tCB (fun xs H_1 Q => ∃ p ys, xs = [V.ref p] ∧ ((SqL K H_1 p ys ∧ ∀ (l : Addr), H_1 l = none → Q (V.ref l) (upd H_1 l (HO.tup ys))) ∨ SqT K H_1 p ys ∧ Q (V.ref p) H_1)) (tCons (tVar 3) tNil)) tNil)) [some (.ref p), some (.ref l), none, some (.ref l2), none, some (.ref l3), none] H4 v2 := fun H5 e5 Q q =>
        ⟨_, rfl, l2, _, rfl, .inl ⟨ex_l (e4.trans e5) hL2, fun l4 h4 => ⟨V.ref l4, (ns.map txV).map (Sum.inr : Str → Key), rfl, ⟨l4, rfl, .inr (by rw [ks2]; exact SqT.of upd_same)⟩, by rw [List.length_map, List.length_map]; omega, fun H6 e6 => by rw [f2]; exact q H6 ((Ex.new h4).trans e6)⟩⟩⟩
      have c3ev : Ev (tCall (spFirst K) [] E0 (tCons (tLst tNil) tNil)) [some (.ref p), some (.ref l), none, some (.ref l2), none, some (.ref l3), none] H4 V.non := fun H5 e5 Q q =>
        ⟨Nat.zero_le _, fun l4 h4 => ⟨V.ref l4, [], rfl, ⟨l4, rfl, .inl (SqL.of upd_same)⟩, Nat.zero_le _, fun H6 e6 => q H6 ((Ex.new h4).trans e6)⟩⟩
      refine s_ret (v := .bl true) (ev_is (ev_andV (ev_op c2ev (g2 H4 e4) (rv_eq c2)) fun _ => ev_op c3ev ev_c fun H5 e5 Q q => ⟨rfl, q H5 (Ex.refl H5)⟩) (by rw [decide_eq_true rfl] <;> rfl)) fun H5 e5 => ?_
      have xx : Ex H1 H5 := ((x2.trans x3).trans e4).trans e5
      exact k H5 (off1.trans (Off.of xx)) ((pen1.ex xx).mono (by omega))
    have hh := againN_head ns
    have hgl : (given (ns.map V.int).length (repAt ns) fun m => V.int (m : Nat)) = ((List.range ns.length).filter (repAt ns)).map fun m => V.int (m : Nat) := by
      unfold given
      rw [List.length_map]
    rw [hgl] at hL3
    cases hag : againN ns with
    | none =>
      rw [hag] at hh
      have hf : (List.range ns.length).filter (repAt ns) = [] := List.head?_eq_none_iff.mp hh.symm
      rw [hf] at hL3
      refine key .non .non (by unfold firstV; rw [a1, hag]) (by unfold firstV; rw [a2, hag]) rfl rfl (fun H4 e4 => ?_) (fun H4 e4 => ?_)
      · exact ev_if (b := false) (et_is (et_test (ev_ne_nil (ev_var rfl) (ex_l e4 hL3))) rfl) (fun hb => nomatch hb) fun _ => ev_c
      · exact ev_if (b := false) (et_is (et_test (ev_ne_nil (ev_var rfl) (ex_l e4 hL3))) rfl) (fun hb => nomatch hb) fun _ => ev_c
    | some i =>
      rw [hag] at hh
      obtain ⟨r, hf⟩ : ∃ r, (List.range ns.length).filter (repAt ns) = i :: r := by
        cases hq : (List.range ns.length).filter (repAt ns) with
        | nil =>
          rw [hq] at hh
          cases hh
        | cons b r =>
          rw [hq] at hh
          obtain rfl : i = b := Option.some.inj hh
          exact ⟨r, rfl⟩
      have hi : i < ns.length := by
        have hm : i ∈ (List.range ns.length).filter (repAt ns) := by rw [hf]; exact List.mem_cons_self
        exact List.mem_range.mp (List.mem_filter.mp hm).1
      have hni : ns[i]? = some ns[i] := List.getElem?_eq_getElem hi
      rw [hf] at hL3
      have z0 : atI ((i :: r).map fun m => V.int (m : Nat)) 0 = some (.int (i : Nat)) := at_of (rfl : (0 : Int) = ((0 : Nat) : Int)) rfl
      have t1 : atI (ns.map V.int) (i : Nat) = some (.int ns[i]) := at_of rfl (by rw [List.getElem?_map, hni] <;> rfl)
      have t2 : atI ((ns.map txV).map V.str) (i : Nat) = some (.str (txV ns[i])) := at_of rfl (by rw [List.getElem?_map, List.getElem?_map, hni] <;> rfl)
      refine key (.int ns[i]) (.str (txV ns[i])) (by unfold firstV; rw [a1, hag]; show (((ns.map (Sum.inl : Int → Key))[i]?).map kV).getD .non = _; rw [List.getElem?_map, hni] <;> rfl) (by unfold firstV; rw [a2, hag]; show ((((ns.map txV).map (Sum.inr : Str → Key))[i]?).map kV).getD .non = _; rw [List.getElem?_map, List.getElem?_map, hni] <;> rfl) rfl rfl (fun H4 e4 => ?_) (fun H4 e4 => ?_)
      · exact ev_if (b := true) (et_is (et_test (ev_ne_nil (ev_var rfl) (ex_l e4 hL3))) rfl) (fun _ => ev_op (ev_var rfl) (ev_op (ev_var rfl) ev_c (rv_ixL (ex_l e4 hL3) z0)) (rv_ixL (ex_l e4 hL) t1)) (fun hb => nomatch hb)
      · exact ev_if (b := true) (et_is (et_test (ev_ne_nil (ev_var rfl) (ex_l e4 hL3))) rfl) (fun _ => ev_op (ev_var rfl) (ev_op (ev_var rfl) ev_c (rv_ixL (ex_l e4 hL3) z0)) (rv_ixL (ex_l e4 hL2) t2)) (fun hb => nomatch hb)
end
end K00
set_option Elab.async false
set_option linter.all false
set_option maxRecDepth 100000
set_option maxHeartbeats 4000000
set_option autoImplicit false
namespace K00
open PySem PySem.Spec PyProof.Rows L2 He Evl
/-- what draws as it goes, and says yes -/
def spYes (K : PySem.W.Frag) (d : Nat) : Sp := fun vs H Q _ => ∃ (p c : Addr) (n : Nat), vs = [.ref p] ∧ PenAt K n H p c ∧ n ≤ 10000 ∧ ∀ H', Off p H H' → PenAt K (n + d) H' p c → Q (.bl true) H'
/-- the shape of a drawn value: a plain one, a list, a tuple of one, a dict -/
inductive Sh where
  | sc (v : V)
  | lst (y : V)
  | tup (y : V)
  | dk
def isSc : V → Bool
  | .non => true
  | .bl _ => true
  | .int _ => true
  | .str z => decide (z.length ≤ 1000)
  | _ => false
def ShAt (p : Addr) (H : Hp) (x : V) : Sh → Prop
  | .sc v => x = v ∧ isSc v = true
  | .lst y => ∃ a, x = .ref a ∧ a ≠ p ∧ isSc y = true ∧ H a = some (.lst [y])
  | .tup y => ∃ a, x = .ref a ∧ a ≠ p ∧ isSc y = true ∧ H a = some (.tup [y])
  | .dk => ∃ a kvs, x = .ref a ∧ a ≠ p ∧ H a = some (.dK kvs)
theorem ShAt.off {p : Addr} {H H' : Hp} {x : V} {sh : Sh} (h : ShAt p H x sh) (e : Off p H H') : ShAt p H' x sh := by
  cases sh with
  | sc v => exact h
  | lst y => obtain ⟨a, e1, e2, e3, e4⟩ := h; exact ⟨a, e1, e2, e3, e _ _ e4 e2⟩
  | tup y => obtain ⟨a, e1, e2, e3, e4⟩ := h; exact ⟨a, e1, e2, e3, e _ _ e4 e2⟩
  | dk => obtain ⟨a, k, e1, e2, e4⟩ := h; exact ⟨a, k, e1, e2, e _ _ e4 e2⟩
theorem ShAt.ex {p : Addr} {H H' : Hp} {x : V} {sh : Sh} (h : ShAt p H x sh) (e : Ex H H') : ShAt p H' x sh := h.off (Off.of e)
def scKind : V → String
  | .non => "NoneType"
  | .bl _ => "bool"
  | .int _ => "int"
  | _ => "str"
def shKind : Sh → String
  | .sc v => scKind v
  | .lst _ => "list"
  | .tup _ => "tuple"
  | .dk => "dict"
theorem sc_kd {K : PySem.W.Frag} {H : Hp} {v : V} (h : isSc v = true) : Kd K H v (scKind v) := by
  cases v with
  | non => exact kd_non
  | bl b => exact kd_bl b
  | int i => exact kd_int i
  | str z => exact kd_str z
  | _ => cases h
theorem sc_noseq {v : V} (h : isSc v = true) : kAny (scKind v) ["list", "tuple"] = false := by
  cases v with
  | non => show kAny "NoneType" ["list", "tuple"] = false; decide
  | bl b => show kAny "bool" ["list", "tuple"] = false; decide
  | int i => show kAny "int" ["list", "tuple"] = false; decide
  | str z => show kAny "str" ["list", "tuple"] = false; decide
  | _ => cases h
theorem ShAt.kd {K : PySem.W.Frag} {p : Addr} {H : Hp} {x : V} {sh : Sh} (h : ShAt p H x sh) : Kd K H x (shKind sh) := by
  cases sh with
  | sc v => obtain ⟨rfl, hs⟩ := h; exact sc_kd hs
  | lst y => obtain ⟨a, rfl, _, _, e4⟩ := h; exact kd_lst e4
  | tup y => obtain ⟨a, rfl, _, _, e4⟩ := h; exact kd_tup e4
  | dk => obtain ⟨a, k, rfl, _, e4⟩ := h; exact kd_dK e4
theorem sc_eok {K : PySem.W.Frag} {H : Hp} {v : V} (h : isSc v = true) : EOk K H v := ⟨⟨_, sc_kd h⟩, fun z hz => by subst hz; exact of_decide_eq_true h⟩
theorem ShAt.eok {K : PySem.W.Frag} {p : Addr} {H : Hp} {x : V} {sh : Sh} (h : ShAt p H x sh) : EOk K H x := by
  refine ⟨⟨_, h.kd⟩, fun z hz => ?_⟩
  subst hz
  cases sh with
  | sc v => obtain ⟨e, hs⟩ := h; subst e; exact of_decide_eq_true hs
  | lst y => obtain ⟨a, e, _⟩ := h; cases e
  | tup y => obtain ⟨a, e, _⟩ := h; cases e
  | dk => obtain ⟨a, k, e, _⟩ := h; cases e
/-- a look that knows plain values alone -/
def shB (f : V → Bool) : Sh → Bool
  | .sc v => f v
  | _ => false
theorem ShAt.look {p : Addr} {H : Hp} {x : V} {sh : Sh} {f : V → Bool} (h : ShAt p H x sh) (hf : ∀ a, f (.ref a) = false) : f x = shB f sh := by
  cases sh with
  | sc v => obtain ⟨rfl, hs⟩ := h; rfl
  | lst y => obtain ⟨a, rfl, _⟩ := h; exact hf a
  | tup y => obtain ⟨a, rfl, _⟩ := h; exact hf a
  | dk => obtain ⟨a, k, rfl, _⟩ := h; exact hf a
/-- what a check of lists says of a shape -/
def seqB (f : List V → Bool) : Sh → Bool
  | .lst y => f [y]
  | .tup y => f [y]
  | _ => false
theorem ShAt.seq {K : PySem.W.Frag} {p : Addr} {H : Hp} {x : V} {sh : Sh} (f : List V → Bool) (h : ShAt p H x sh) : SpV (spSeq K f) [x] H (.bl (seqB f sh)) := fun H1 e Q q E => by
  have h1 := h.ex e
  refine ⟨x, rfl, ?_⟩
  cases sh with
  | sc v => exact .inl ⟨⟨_, h1.kd, by obtain ⟨rfl, hs⟩ := h; exact sc_noseq hs⟩, fun H2 e2 => q H2 e2⟩
  | lst y => obtain ⟨a, rfl, _, hy, e4⟩ := h1; exact .inr ⟨[y], ⟨a, rfl, .inl (SqL.of e4)⟩, Nat.le_of_ble_eq_true rfl, fun z hz => by rw [List.mem_singleton.mp hz]; exact sc_eok hy, fun H2 e2 => q H2 e2⟩
  | tup y => obtain ⟨a, rfl, _, hy, e4⟩ := h1; exact .inr ⟨[y], ⟨a, rfl, .inr (SqT.of e4)⟩, Nat.le_of_ble_eq_true rfl, fun z hz => by rw [List.mem_singleton.mp hz]; exact sc_eok hy, fun H2 e2 => q H2 e2⟩
  | dk => exact .inl ⟨⟨_, h1.kd, by show kAny "dict" _ = false; decide⟩, fun H2 e2 => q H2 e2⟩
/-! ### one of a display -/
section
variable {K : PySem.W.Frag} {σ : L2.St} {H H' : Hp} {te tb : TE} {ta : TA} {D : Ends} {tu tz : TS} {p c : Addr}
def EvShs (p : Addr) (ta : TA) (σ : L2.St) (H : Hp) (shs : List Sh) : Prop := ∀ H1, Ex H H1 → ∀ Q : List V → Hp → Prop, (∀ vs H2, Ex H1 H2 → Paired (ShAt p H2) vs shs → Q vs H2) → ta σ H1 Q
theorem shs_nil : EvShs p tNil σ H [] := fun H1 _ _ q => q [] H1 (Ex.refl H1) .nil
theorem shs_sc {v : V} {shs : List Sh} (h : Ev te σ H v) (hv : isSc v = true) (hr : EvShs p ta σ H shs) : EvShs p (tCons te ta) σ H (.sc v :: shs) := fun H1 e Q q =>
  h H1 e _ fun H2 e2 => hr H2 (e.trans e2) _ fun vs H3 e3 r => q (v :: vs) H3 (e2.trans e3) (.cons ⟨rfl, hv⟩ r)
theorem shs_lst {y : V} {shs : List Sh} (hp : ∃ o, H p = some o) (h : Ev te σ H y) (hy : isSc y = true) (hr : EvShs p ta σ H shs) : EvShs p (tCons (tLst (tCons te tNil)) ta) σ H (.lst y :: shs) := fun H1 e Q q =>
  h H1 e _ fun H2 e2 => ⟨by show 1 ≤ sizeLine; decide, fun a ha => hr _ ((e.trans e2).trans (Ex.new ha)) _ fun vs H3 e3 r => q (.ref a :: vs) H3 ((e2.trans (Ex.new ha)).trans e3) (.cons ⟨a, rfl, let ⟨_, ho⟩ := hp; Ne.symm (ne_of_none ((e.trans e2) _ _ ho) ha), hy, e3 _ _ upd_same⟩ r)⟩
theorem shs_tup {y : V} {shs : List Sh} (hp : ∃ o, H p = some o) (h : Ev te σ H y) (hy : isSc y = true) (hr : EvShs p ta σ H shs) : EvShs p (tCons (tTup (tCons te tNil)) ta) σ H (.tup y :: shs) := fun H1 e Q q =>
  h H1 e _ fun H2 e2 => ⟨by show 1 ≤ sizeLine; decide, fun a ha => hr _ ((e.trans e2).trans (Ex.new ha)) _ fun vs H3 e3 r => q (.ref a :: vs) H3 ((e2.trans (Ex.new ha)).trans e3) (.cons ⟨a, rfl, let ⟨_, ho⟩ := hp; Ne.symm (ne_of_none ((e.trans e2) _ _ ho) ha), hy, e3 _ _ upd_same⟩ r)⟩
theorem shs_dk {shs : List Sh} (hp : ∃ o, H p = some o) (hr : EvShs p ta σ H shs) : EvShs p (tCons tDNewK ta) σ H (.dk :: shs) := fun H1 e Q q a ha =>
  hr _ (e.trans (Ex.new ha)) _ fun vs H3 e3 r => q (.ref a :: vs) H3 ((Ex.new ha).trans e3) (.cons ⟨a, [], rfl, let ⟨_, ho⟩ := hp; Ne.symm (ne_of_none (e _ _ ho) ha), e3 _ _ upd_same⟩ r)
theorem disp_one {k : Key} {v : V} {Q : VK} (q : ∀ a, H a = none → Q (.ref a) (upd H a (.dK (mergeK [] [(k, v)])))) : tDisp [(tC (kV k), tC v)] σ H Q := fun a ha => ⟨upd_same, [(k, v)], rfl, by show 1 ≤ 15; decide, by
  have z := q a ha
  rw [← upd_upd (H := H) (a := a) (o := .dK [])] at z
  exact z⟩
theorem shs_disp {k : Key} {v : V} {shs : List Sh} (hp : ∃ o, H p = some o) (hr : EvShs p ta σ H shs) : EvShs p (tCons (tDisp [(tC (kV k), tC v)]) ta) σ H (.dk :: shs) := fun H1 e Q q =>
  disp_one fun a ha => hr _ (e.trans (Ex.new ha)) _ fun vs H3 e3 r => q (.ref a :: vs) H3 ((Ex.new ha).trans e3) (.cons ⟨a, _, rfl, let ⟨_, ho⟩ := hp; Ne.symm (ne_of_none (e _ _ ho) ha), e3 _ _ upd_same⟩ r)
theorem paired_get {α β : Type} {R : α → β → Prop} {xs : List α} {ys : List β} (h : Paired R xs ys) : ∀ {i : Nat} {x : α}, xs[i]? = some x → ∃ y, y ∈ ys ∧ R x y := by
  induction h with
  | nil => exact fun h => nomatch h
  | cons a _ ih =>
    intro i x h
    cases i with
    | zero => exact ⟨_, List.mem_cons_self, Option.some.inj h ▸ a⟩
    | succ i =>
      obtain ⟨y, hy, r⟩ := ih h
      exact ⟨y, List.mem_cons_of_mem _ hy, r⟩
theorem run_pick {shs : List Sh} {n : Nat} {Q : VK} (hP : PenAt K n H p c) (hn : n ≤ 100000) (hv : Ev te σ H (.ref p)) (h : EvShs p ta σ H shs) (hl : 0 < shs.length ∧ shs.length ≤ 1000)
    (k : ∀ (sh : Sh) (x : V) H1, sh ∈ shs → ShAt p H1 x sh → Off p H H1 → PenAt K (n + 1) H1 p c → Q x H1) : tCall (spPick K) [] E0 (tCons te (tCons (tLst ta) tNil)) σ H Q :=
  hv H (Ex.refl H) _ fun H1 e1 => h H1 e1 _ fun vs H2 e2 r => ⟨sz_of (by rw [r.length]; omega), fun l hl' => by
    have e3 : Ex H (upd H2 l (.lst vs)) := (e1.trans e2).trans (Ex.new hl')
    obtain ⟨o, ho⟩ := hP.there
    refine ⟨p, c, l, vs, n, rfl, SqL.of upd_same, Ne.symm (ne_of_none ((e1.trans e2) _ _ ho) hl'), by rw [r.length]; exact hl.1, by rw [r.length]; exact hl.2, hP.ex e3, hn, fun i x H4 hx off pen => ?_⟩
    obtain ⟨sh, hs, hr⟩ := paired_get r hx
    exact k sh x H4 hs ((hr.ex (Ex.new hl')).off off) ((Off.of e3).trans off) pen⟩
theorem q_pick {shs : List Sh} {n i : Nat} (hP : PenAt K n H p c) (hn : n ≤ 100000) (hv : Ev te σ H (.ref p)) (h : EvShs p ta σ H shs) (hl : 0 < shs.length ∧ shs.length ≤ 1000)
    (k : ∀ (sh : Sh) (x : V) H1, sh ∈ shs → ShAt p H1 x sh → Off p H H1 → PenAt K (n + 1) H1 p c → tz D (σ.set i (some x)) H1) : tSeq (tAsg (tCall (spPick K) [] E0 (tCons te (tCons (tLst ta) tNil))) (gName i)) tz D σ H :=
  q_asgD (run_pick hP hn hv h hl k)
/-! ### calls -/
theorem ev_callN {n m : Nat} {sp : Sp} {E : XK} {tk : TA} {vs zs : List V} {z : V} (h : EvA ta σ H vs) (hk : EvA tk σ H zs) (hl : vs.length = n) (hm : zs.length = m) (hs : SpV sp (vs ++ zs) H z) : Ev (L2.tCallN n m sp (fun us ws => us ++ ws) E ta tk) σ H z := fun H1 e Q q =>
  h H1 e _ fun H2 e2 => hk H2 (e.trans e2) _ fun H3 e3 => ⟨hl, hm, hs H3 ((e.trans e2).trans e3) Q (fun H4 e4 => q H4 ((e2.trans e3).trans e4)) E⟩
theorem el_catN {xs ys : List V} (ha : EvL te σ H xs) (hb : EvL tb σ H ys) (hz : xs.length + ys.length ≤ 100000) : EvL (tOp rCat te tb) σ H (xs ++ ys) := fun H1 e Q q =>
  ha H1 e _ fun a H2 hna e2 h2 => hb H2 (e.trans e2) _ fun b H3 _ e3 h3 => ⟨a, b, _, _, rfl, rfl, e3 _ _ h2, h3, sz_of hz, fun r hr => q r _ (fresh_back (e2.trans e3) hr) ((e2.trans e3).trans (Ex.new hr)) upd_same⟩
/-- a check of a new list -/
theorem ev_seqN {xs : List V} {f : List V → Bool} (h : EvL te σ H xs) (hl : xs.length ≤ 1000) (hx : ∀ H1, Ex H H1 → ∀ y ∈ xs, EOk K H1 y) : Ev (tCall (spSeq K f) [] E0 (tCons te tNil)) σ H (.bl (f xs)) := fun H1 e Q q =>
  h H1 e _ fun a H2 _ e2 h2 => ⟨.ref a, rfl, .inr ⟨xs, ⟨a, rfl, .inl (SqL.of h2)⟩, hl, hx H2 (e.trans e2), fun H3 e3 => q H3 (e2.trans e3)⟩⟩
theorem sp_seqL {a : Addr} {xs : List V} {f : List V → Bool} (h : SqL K H a xs) (hl : xs.length ≤ 1000) (hx : ∀ H1, Ex H H1 → ∀ y ∈ xs, EOk K H1 y) : SpV (spSeq K f) [.ref a] H (.bl (f xs)) := fun H1 e Q q E =>
  ⟨.ref a, rfl, .inr ⟨xs, ⟨a, rfl, .inl (ex_l e h)⟩, hl, hx H1 e, fun H3 e3 => q H3 e3⟩⟩
/-- .. of tuple(xs), a list in a slot, by name -/
theorem ev_seqTup {a : Addr} {xs : List V} {f : List V → Bool} (hv : Ev te σ H (.ref a)) (h : SqL K H a xs) (hl : xs.length ≤ 1000) (hx : ∀ H1, Ex H H1 → ∀ y ∈ xs, EOk K H1 y) :
    Ev (L2.tCallN 0 1 (spSeq K f) (fun us ws => us ++ ws) E0 tNil (tCons (tCB (fun xs H_1 Q => ∃ p ys, xs = [V.ref p] ∧ ((SqL K H_1 p ys ∧ ∀ (l : Addr), H_1 l = none → Q (V.ref l) (upd H_1 l (HO.tup ys))) ∨ SqT K H_1 p ys ∧ Q (V.ref p) H_1)) (tCons te tNil)) tNil)) σ H (.bl (f xs)) := fun H1 e Q q =>
  hv H1 e _ fun H2 e2 => ⟨a, xs, rfl, .inl ⟨ex_l (e.trans e2) h, fun l hl' => ⟨rfl, rfl, .ref l, rfl, .inr ⟨xs, ⟨l, rfl, .inr (SqT.of upd_same)⟩, hl, hx _ ((e.trans e2).trans (Ex.new hl')), fun H3 e3 => q H3 ((e2.trans (Ex.new hl')).trans e3)⟩⟩⟩⟩
theorem sp_int {x : V} {T : String} (h : Kd K H x T) : SpV (spInt K) [x] H (.bl (intV x)) := fun H1 e Q q E => ⟨x, T, rfl, h.ex e, q⟩
theorem sp_withinI {i : Int} {l m : V} (hl : bndV l) (hm : bndV m) : SpV (spWithin K) [.int i, l, m] H (.bl (leV l i && geV m i)) := fun H1 e Q q E => ⟨.int i, l, m, "int", rfl, kd_int i, hl, hm, q⟩
theorem sp_withinN {x l m : V} {T : String} (h : Kd K H x T) (hx : intV x = false) (hl : bndV l) (hm : bndV m) : SpV (spWithin K) [x, l, m] H (.bl false) := fun H1 e Q q E => by
  refine ⟨x, l, m, T, rfl, h.ex e, hl, hm, ?_⟩
  cases x with
  | int i => cases hx
  | _ => exact q
theorem sp_name {x : V} (h : EOk K H x) : SpV (spName K) [x] H (.bl (nameV x)) := fun H1 e Q q E => ⟨x, rfl, h.ex e, q⟩
theorem sp_side {x : V} {T : String} (h : Kd K H x T) : SpV (spSide K) [x] H (.bl (sideV x)) := fun H1 e Q q E => ⟨x, T, rfl, h.ex e, q⟩
theorem sp_truth {x : V} : SpV spTruth [x] H (.bl (decide (x = .bl true) || decide (x = .bl false))) := fun H1 e Q q E => ⟨x, rfl, q⟩
theorem ev_seqDisp {k : Key} {v : V} {f : List V → Bool} : Ev (tCall (spSeq K f) [] E0 (tCons (tDisp [(tC (kV k), tC v)]) tNil)) σ H (.bl false) := fun H1 e Q q => by
  have z : tDisp [(tC (kV k), tC v)] σ H1 fun x H2 => spSeq K f [x] H2 Q E0 := disp_one (Q := fun x H2 => spSeq K f [x] H2 Q E0) fun a ha =>
    (show ShAt (a + 1) (upd H1 a (.dK (mergeK [] [(k, v)]))) (.ref a) .dk from ⟨a, _, rfl, Nat.ne_of_lt (Nat.lt_succ_self a), upd_same⟩).seq (K := K) f _ (Ex.refl _) _ (fun H2 e2 => q H2 ((Ex.new ha).trans e2)) E0
  exact z
theorem ev_seqSc {v : V} {f : List V → Bool} (h : Ev te σ H v) (hv : isSc v = true) : Ev (tCall (spSeq K f) [] E0 (tCons te tNil)) σ H (.bl false) :=
  ev_call (ea_cons h ea_nil) ((show ShAt 0 H v (.sc v) from ⟨rfl, hv⟩).seq f)
theorem int_eok {H : Hp} {a : Int} : EOk K H (.int a) := ⟨⟨"int", kd_int a⟩, fun z hz => nomatch hz⟩
theorem mem_cut {xs : List V} {lo hi : Option Int} {y : V} (h : y ∈ cutV xs lo hi) : y ∈ xs := List.mem_of_mem_drop (List.mem_of_mem_take h)
theorem nums_ints (ns : List Int) : numsF (ns.map V.int) = true := by
  unfold numsF
  rw [List.all_map]
  exact List.all_eq_true.mpr fun _ _ => rfl
theorem one_arg {Q : List V → Hp → Prop} (h : te σ H fun x H1 => Q [x] H1) : tCons te tNil σ H Q := h
theorem ret_notSeq {f : List V → Bool} (h : te σ H fun x H1 => spSeq K f [x] H1 (fun v H2 => ∃ b, v = .bl b ∧ D.rt (.bl (!b)) H2) E0) : tRet (tNotV (tCall (spSeq K f) [] E0 (tCons te tNil))) D σ H := h
theorem ev_seqU {xs : List V} {f : List V → Bool} (h : EvU te σ H xs) (hl : xs.length ≤ 1000) (hx : ∀ H1, Ex H H1 → ∀ y ∈ xs, EOk K H1 y) : Ev (tCall (spSeq K f) [] E0 (tCons te tNil)) σ H (.bl (f xs)) := fun H1 e Q q =>
  h H1 e _ fun a H2 _ e2 h2 => ⟨.ref a, rfl, .inr ⟨xs, ⟨a, rfl, .inr (SqT.of h2)⟩, hl, hx H2 (e.trans e2), fun H3 e3 => q H3 (e2.trans e3)⟩⟩
theorem el_rep {xs : List V} {i : Int} (ha : EvL te σ H xs) (hb : Ev tb σ H (.int i)) (h0 : -1000 ≤ i) (h1 : i ≤ 1000) (hz : xs.length ≤ 10) : EvL (tOp rRep te tb) σ H (List.replicate i.toNat xs).flatten := fun H1 e Q q =>
  ha H1 e _ fun a H2 hna e2 h2 => hb H2 (e.trans e2) _ fun H3 e3 => ⟨a, i, xs, rfl, rfl, e3 _ _ h2, by omega, by omega, sz_of (by
    have : xs.length * i.toNat ≤ 10 * 1000 := Nat.mul_le_mul hz (by omega)
    omega), fun r hr => q r _ (fresh_back (e2.trans e3) hr) ((e2.trans e3).trans (Ex.new hr)) upd_same⟩
theorem ev_lenV {a : Addr} {xs : List V} (h : Ev te σ H (.ref a)) (hx : SqL K H a xs) : Ev (tCB (fun xs H Q => ∃ x n, xs = [x] ∧ LenV K x H n ∧ Q (.int n) H) (tCons te tNil)) σ H (.int (xs.length : Nat)) := fun H1 e Q q =>
  h H1 e _ fun H2 e2 => ⟨_, xs.length, rfl, .inl ⟨_, ex_l (e.trans e2) hx, rfl⟩, q H2 e2⟩
theorem str_eok {H : Hp} {z : Str} (h : z.length ≤ 1000) : EOk K H (.str z) := ⟨⟨"str", kd_str z⟩, fun z' hz => by cases hz; exact h⟩
end
end K00
set_option Elab.async false
set_option linter.all false
set_option maxRecDepth 100000
set_option maxHeartbeats 4000000
set_option autoImplicit false
namespace K00
open PySem PySem.Spec PyProof.Rows L2 He Evl
section
variable {P : Program} {w : World} {K : PySem.W.Frag} {mg : Str → Option Value} {base : Heap}
theorem b_l_integers_right (T : Tx K mg) : Binds K (fdOf K ("_law_integers_right", none)) ["_law_pen_here"] [] := T.f_l_integers_right.bindsN fun _ _ _ _ _ _ us hl => match us, hl with | [_], _ => rfl
theorem kb_is_integer_value_0 (T : Tx K mg) : KBn K (fdOf K ("is_integer", none)) ["value"] 0 ["value"] (fun us ws => us ++ ws) (fun us ws => us ++ ws) := T.f_is_integer.kbindsP 0 ["value"] (fun us ws => us ++ ws) (fun r1 r2 => r1.append r2) fun _ _ _ _ _ _ us ws l1 l2 => match us, ws, l1, l2 with | [], [_], _, _ => rfl
theorem kb_is_numbers_value_0 (T : Tx K mg) : KBn K (fdOf K ("is_numbers", none)) ["value"] 0 ["value"] (fun us ws => us ++ ws) (fun us ws => us ++ ws) := T.f_is_numbers.kbindsP 0 ["value"] (fun us ws => us ++ ws) (fun r1 r2 => r1.append r2) fun _ _ _ _ _ _ us ws l1 l2 => match us, ws, l1, l2 with | [], [_], _, _ => rfl
theorem kb_is_within_least_most_1 (T : Tx K mg) : KBn K (fdOf K ("is_within", none)) ["value", "least", "most"] 1 ["least", "most"] (fun us ws => us ++ ws) (fun us ws => us ++ ws) := T.f_is_within.kbindsP 1 ["least", "most"] (fun us ws => us ++ ws) (fun r1 r2 => r1.append r2) fun _ _ _ _ _ _ us ws l1 l2 => match us, ws, l1, l2 with | [_], [_, _], _, _ => rfl
theorem kb_is_within_value_least_most_0 (T : Tx K mg) : KBn K (fdOf K ("is_within", none)) ["value", "least", "most"] 0 ["value", "least", "most"] (fun us ws => us ++ ws) (fun us ws => us ++ ws) := T.f_is_within.kbindsP 0 ["value", "least", "most"] (fun us ws => us ++ ws) (fun r1 r2 => r1.append r2) fun _ _ _ _ _ _ us ws l1 l2 => match us, ws, l1, l2 with | [], [_, _, _], _, _ => rfl
theorem ok_l_integers_right (T : Tx K mg) : FnOk P w K mg base CX0 3 (ga K "_law_integers_right") (fdOf K ("_law_integers_right", none)) ["_law_pen_here"] (spYes K 12) := by
  refine T.f_l_integers_right.ok sc_l_integers_right (fun vs H Q E h => ?_) (fun cdv A outer s H vs Q E hr h => ?_)
  · obtain ⟨p, c, n, rfl, _⟩ := h
    rfl
  · refine ⟨_, PSs.nox (pss_cons (ps_set (i := 1) sc_l_integers_right.nd rfl (.inl rfl) (pe_call (ok_l_pick T) (hr.mono (by decide)) (by rfl) T.g_l_pick T.f_l_pick.kp (b_l_pick T) .nil pass0 (pa_cons (pv 0) (pa_cons (pe_lst (pa_cons pe_int (pa_cons pe_int (pa_cons (pe_un un_neg pe_int) (pa_cons (pe_op op_pow pe_int pe_int) (pa_cons (pe_un un_neg (pe_op op_pow pe_int pe_int)) (pa_cons (pe_call (ok_l_draw T) (hr.mono (by decide)) (by rfl) T.g_l_draw T.f_l_draw.kp (b_l_draw T) .nil pass0 (pa_cons (pv 0) (pa_cons pe_int pa_nil))) pa_nil))))))) pa_nil))))
      (pss_cons (ps_set (i := 2) sc_l_integers_right.nd rfl (.inl rfl) (pe_call (ok_l_pick T) (hr.mono (by decide)) (by rfl) T.g_l_pick T.f_l_pick.kp (b_l_pick T) .nil pass0 (pa_cons (pv 0) (pa_cons (pe_lst (pa_cons pe_bl (pa_cons pe_bl (pa_cons pe_non (pa_cons pe_str (pa_cons (pe_lst (pa_cons pe_int pa_nil)) (pa_cons (pe_tup (pa_cons pe_int pa_nil)) (pa_cons pe_dnewK (pa_cons pe_str (pa_cons (pe_cmpR op_eq (pv 1) pe_int (nomark _)) pa_nil)))))))))) pa_nil))))
      (pss_cons (ps_if (PW.pt (pw_or (pt_cmpR (op_neL hr.units0) (pe_lst (pa_cons (pe_callN0 (ok_is_integer T) (hr.mono (by decide)) (by rfl) T.g_is_integer T.f_is_integer.kp (kb_is_integer_value_0 T) pass0 (pk_cons (pv 1) pk_nil)) (pa_cons (pe_call (ok_is_integer T) (hr.mono (by decide)) (by rfl) T.g_is_integer T.f_is_integer.kp (b_is_integer T) .nil pass0 (pa_cons (pv 2) pa_nil)) pa_nil))) (pe_lst (pa_cons pe_bl (pa_cons pe_bl pa_nil))) (nomark _)) (pw_or (pt_val (pe_call (ok_is_within T) (hr.mono (by decide)) (by rfl) T.g_is_within T.f_is_within.kp (b_is_within T) .nil pass0 (pa_cons (pv 2) (pa_cons pe_non (pa_cons pe_non pa_nil))))) (pw_or1 (pt_val (pe_callN (ok_is_within T) (hr.mono (by decide)) (by rfl) T.g_is_within T.f_is_within.kp (kb_is_within_least_most_1 T) pass0 (pa_cons (pv 2) pa_nil) (pk_cons pe_int (pk_cons pe_int pk_nil))))))))
        (pss_one (ps_ret pe_bl))
        pss_nil)
      (pss_cons (ps_par (i := 3) (j := 4) (by rfl) sc_l_integers_right.nd rfl rfl (by decide) rfl rfl (pa_cons (pe_op op_sub (pe_call (ok_l_draw T) (hr.mono (by decide)) (by rfl) T.g_l_draw T.f_l_draw.kp (b_l_draw T) .nil pass0 (pa_cons (pv 0) (pa_cons pe_int pa_nil))) pe_int) (pa_cons (pe_op op_sub (pe_call (ok_l_draw T) (hr.mono (by decide)) (by rfl) T.g_l_draw T.f_l_draw.kp (b_l_draw T) .nil pass0 (pa_cons (pv 0) (pa_cons pe_int pa_nil))) pe_int) pa_nil)) (by rfl))
      (pss_cons (ps_set (i := 5) sc_l_integers_right.nd rfl (.inl rfl) (pe_lst (pa_cons (pe_call (ok_is_within T) (hr.mono (by decide)) (by rfl) T.g_is_within T.f_is_within.kp (b_is_within T) .nil pass0 (pa_cons (pv 1) (pa_cons (pe_op op_add (pv 1) (pv 3)) (pa_cons (pe_op op_add (pv 1) (pv 4)) pa_nil)))) (pa_cons (pe_callN0 (ok_is_within T) (hr.mono (by decide)) (by rfl) T.g_is_within T.f_is_within.kp (kb_is_within_value_least_most_0 T) pass0 (pk_cons (pv 1) (pk_cons pe_non (pk_cons (pe_op op_add (pv 1) (pv 4)) pk_nil)))) (pa_cons (pe_call (ok_is_within T) (hr.mono (by decide)) (by rfl) T.g_is_within T.f_is_within.kp (b_is_within T) .nil pass0 (pa_cons (pv 1) (pa_cons (pe_op op_add (pv 1) (pv 3)) (pa_cons pe_non pa_nil)))) pa_nil)))))
      (pss_cons (ps_if (PW.pt (pw_or (pt_cmpR (op_neL hr.units0) (pv 5) (pe_lst (pa_cons (pe_chain op_le op_le (pv 3) pe_int (pv 4)) (pa_cons (pe_cmpR op_le pe_int (pv 4) (nomark _)) (pa_cons (pe_cmpR op_le (pv 3) pe_int (nomark _)) pa_nil)))) (nomark _)) (pw_or1 (pt_cmpR op_isnot_bl (pe_call (ok_is_within T) (hr.mono (by decide)) (by rfl) T.g_is_within T.f_is_within.kp (b_is_within T) .nil pass0 (pa_cons (pv 1) (pa_cons pe_non (pa_cons pe_non pa_nil)))) pe_bl (nomark _)))))
        (pss_one (ps_ret pe_bl))
        pss_nil)
      (pss_cons (ps_setLc (i := 6) (own := [("_law_turn", 7)]) (g := (gName 7)) (tt := tYes) (by rfl) sc_l_integers_right.nd rfl rfl (sw_true rfl rfl rfl (by decide +kernel)) (pi_range1 (by rfl) T.n_range (pa_cons (pe_call (ok_l_draw T) (hr.mono (by decide)) (by rfl) T.g_l_draw T.f_l_draw.kp (b_l_draw T) .nil pass0 (pa_cons (pv 0) (pa_cons pe_int pa_nil))) pa_nil)) (blkOk_by (N := ["_law_pen_here", "_law_number", "_law_odd", "_law_low", "_law_high", "_law_told", "_law_row", "_law_turn", "_law_at"]) (sc := defScope s_l_integers_right) (by decide +kernel)) (fun _ _ _ _ _ => pg_name (i := 7) sc_l_integers_right.nd rfl (Or.inl rfl)) (fun _ _ _ _ _ => pts_nil) (fun _ _ _ _ _ => (pe_op op_sub (pe_call (ok_l_draw T) (hr.mono (by decide)) (by rfl) T.g_l_draw T.f_l_draw.kp (b_l_draw T) .nil pass0 (pa_cons (pv 0) (pa_cons pe_int pa_nil))) pe_int)))
      (pss_cons (ps_set (i := 8) sc_l_integers_right.nd rfl (.inl rfl) (pe_call (ok_l_draw T) (hr.mono (by decide)) (by rfl) T.g_l_draw T.f_l_draw.kp (b_l_draw T) .nil pass0 (pa_cons (pv 0) (pa_cons (pe_op op_add (pe_callB call_len (by rfl) T.n_len boot_len (pa_cons (pv 6) pa_nil)) pe_int) pa_nil))))
      (pss_cons (ps_if (PW.pt (pw_or (pt_not (pt_val (pe_call (ok_is_numbers T) (hr.mono (by decide)) (by rfl) T.g_is_numbers T.f_is_numbers.kp (b_is_numbers T) .nil pass0 (pa_cons (pv 6) pa_nil)))) (pw_or (pt_not (pt_val (pe_callN0 (ok_is_numbers T) (hr.mono (by decide)) (by rfl) T.g_is_numbers T.f_is_numbers.kp (kb_is_numbers_value_0 T) pass0 (pk_cons (pe_callTy call_tuple_of (by rfl) T.n_tuple (by decide +kernel) (pa_cons (pv 6) pa_nil)) pk_nil)))) (pw_or1 (pt_cmpR op_ne (pe_call (ok_is_numbers T) (hr.mono (by decide)) (by rfl) T.g_is_numbers T.f_is_numbers.kp (b_is_numbers T) .nil pass0 (pa_cons (pv 2) pa_nil)) (pe_callB call_isiT (by rfl) T.n_isinstance (by decide +kernel) (pa_cons (pv 2) (pa_cons (pe_tup (pa_cons (pe_bltn (v := .ty "list") (by rfl) T.n_list (by decide +kernel) rfl) (pa_cons (pe_bltn (v := .ty "tuple") (by rfl) T.n_tuple (by decide +kernel) rfl) pa_nil))) pa_nil))) (nomark _))))))
        (pss_one (ps_ret pe_bl))
        pss_nil)
      (pss_one (ps_ret (pe_and (pe_not (pe_call (ok_is_numbers T) (hr.mono (by decide)) (by rfl) T.g_is_numbers T.f_is_numbers.kp (b_is_numbers T) .nil pass0 (pa_cons (pe_op op_cat (pe_op op_cat (pe_slice sl_list (pv 6) po_none (po_some (pv 8))) (pe_lst (pa_cons (pv 2) pa_nil))) (pe_slice sl_list (pv 6) (po_some (pv 8)) po_none)) pa_nil))) (pe_and (pe_not (pe_call (ok_is_numbers T) (hr.mono (by decide)) (by rfl) T.g_is_numbers T.f_is_numbers.kp (b_is_numbers T) .nil pass0 (pa_cons pe_str pa_nil))) (pe_one (pe_not (pe_call (ok_is_numbers T) (hr.mono (by decide)) (by rfl) T.g_is_numbers T.f_is_numbers.kp (b_is_numbers T) .nil pass0 (pa_cons (pe_disp (pps_cons pe_int pe_int pps_nil) rfl rfl (by simp) (by simp)) pa_nil))))))))))))))))), ?_⟩
    -- slots: [(0, '_law_pen_here'), (1, '_law_number'), (2, '_law_odd'), (3, '_law_low'), (4, '_law_high'), (5, '_law_told'), (6, '_law_row'), (7, '_law_turn'), (8, '_law_at')]
    obtain ⟨p, c, n, rfl, hP, hn, k⟩ := h
    refine q_asgD ?_
    refine ⟨_, rfl, 1, rfl, 10, 30, rfl, rfl, ⟨by decide, by decide, by decide⟩, 10, 30, rfl, rfl, ⟨by decide, by decide, by decide⟩, _, rfl, ?_⟩
    refine ⟨_, rfl, p, c, 100, n, rfl, by decide, by decide, hP, by omega, fun d H1 d0 d1 off1 pen1 => ?_⟩
    refine ⟨by show 6 ≤ sizeLine; decide, fun l hl => ?_⟩
    obtain ⟨o1, ho1⟩ := pen1.there
    refine ⟨p, c, l, _, n + 1, rfl, SqL.of upd_same, Ne.symm (ne_of_none ho1 hl), by show 0 < 6; decide, by show 6 ≤ 1000; decide, pen1.ex (Ex.new hl), by omega, fun i x H2 hx off2 pen2 => ?_⟩
    obtain ⟨num, rfl⟩ : ∃ num : Int, x = .int num := by
      have hm := List.mem_of_getElem? hx
      simp only [List.mem_cons, List.not_mem_nil, or_false] at hm
      rcases hm with e | e | e | e | e | e <;> exact ⟨_, e⟩
    have offA : Off p H H2 := (off1.trans (Off.of (Ex.new hl))).trans off2
    clear hx ho1 hl off2 pen1 off1
    refine q_pick (p := p) (c := c) (n := n + 2) (shs := [.sc (.bl true), .sc (.bl false), .sc .non, .sc (.str "1"), .lst (.int 1), .tup (.int 1), .dk, .sc (.str ""), .sc (.bl (decide (V.int num = V.int 0)))]) pen2 (by omega) (ev_var rfl)
      (shs_sc ev_c rfl (shs_sc ev_c rfl (shs_sc ev_c rfl (shs_sc ev_c (by decide +kernel) (shs_lst pen2.there ev_c rfl (shs_tup pen2.there ev_c rfl (shs_dk pen2.there (shs_sc ev_c (by decide +kernel) (shs_sc (ev_op (ev_var rfl) ev_c (rv_eq rfl)) rfl shs_nil)))))))))
      ⟨Nat.zero_lt_succ _, Nat.le_of_ble_eq_true rfl⟩ fun sh odd H3 hsh hodd off3 pen3 => ?_
    have hI : intV odd = false := by
      rw [hodd.look (f := intV) fun _ => rfl]
      simp only [List.mem_cons, List.not_mem_nil, or_false] at hsh
      rcases hsh with e | e | e | e | e | e | e | e | e <;> rw [e] <;> rfl
    have hS : seqB numsF sh = kAny (shKind sh) ["list", "tuple"] := by
      simp only [List.mem_cons, List.not_mem_nil, or_false] at hsh
      rcases hsh with e | e | e | e | e | e | e | e | e <;> subst e <;> first | exact (sc_noseq hodd.2).symm | decide
    refine q_when (b := false) (et_is (et_or (et_test (ev_neLL (r := true) (xs := [true, false].map V.bl) (ys := [true, false].map V.bl) (el_lst (ea_cons (ev_callN ea_nil (ea_cons (ev_var rfl) ea_nil) rfl rfl (sp_int (kd_int num))) (ea_cons (ev_is (ev_call (ea_cons (ev_var rfl) ea_nil) (sp_int hodd.kd)) (by rw [hI])) ea_nil)) (by show 2 ≤ 100000; decide)) (el_lst (ea_cons ev_c (ea_cons ev_c ea_nil)) (by show 2 ≤ 100000; decide)) (leq_bools _)))
      fun _ => et_or (et_B (ev_call (ea_cons (ev_var rfl) (ea_cons ev_c (ea_cons ev_c ea_nil))) (sp_withinN hodd.kd hI trivial trivial))) fun _ => et_B (ev_callN (ea_cons (ev_var rfl) ea_nil) (ea_cons ev_c (ea_cons ev_c ea_nil)) rfl rfl (sp_withinN hodd.kd hI trivial trivial))) rfl) (fun hb => nomatch hb) fun _ H4 x4 => ?_
    have pen4 := pen3.ex x4
    have odd4 := hodd.ex x4
    refine ⟨_, rfl, p, c, 5, n + 3, rfl, by decide, by decide, pen4, by omega, fun lo H5 l0 l1 off5 pen5 => ⟨_, _, rfl, rfl, _, rfl, p, c, 5, n + 4, rfl, by decide, by decide, pen5, by omega, fun hi H6 h0 h1 off6 pen6 => ⟨_, _, rfl, rfl, _, _, rfl, ?_⟩⟩⟩
    have odd6 := (odd4.off off5).off off6
    have offB : Off p H H6 := ((offA.trans off3).trans (Off.of x4)).trans (off5.trans off6)
    have e1 : decide (num + (lo - 2) ≤ num) = decide (lo - 2 ≤ 0) := by rw [decide_eq_decide]; omega
    have e2 : decide (num ≤ num + (hi - 2)) = decide (0 ≤ hi - 2) := by rw [decide_eq_decide]; omega
    refine q_asgL (xs := [decide (lo - 2 ≤ 0) && decide (0 ≤ hi - 2), decide (0 ≤ hi - 2), decide (lo - 2 ≤ 0)].map V.bl) (el_lst (ea_cons
      (ev_is (ev_call (ea_cons (ev_var rfl) (ea_cons (ev_op (ev_var rfl) (ev_var rfl) rv_I0) (ea_cons (ev_op (ev_var rfl) (ev_var rfl) rv_I0) ea_nil))) (sp_withinI (by trivial) (by trivial))) (by show V.bl (decide (num + (lo - 2) ≤ num) && decide (num ≤ num + (hi - 2))) = _; rw [e1, e2])) (ea_cons
      (ev_is (ev_callN ea_nil (ea_cons (ev_var rfl) (ea_cons ev_c (ea_cons (ev_op (ev_var rfl) (ev_var rfl) rv_I0) ea_nil))) rfl rfl (sp_withinI (by trivial) (by trivial))) (by show V.bl (true && decide (num ≤ num + (hi - 2))) = _; rw [e2, Bool.true_and])) (ea_cons
      (ev_is (ev_call (ea_cons (ev_var rfl) (ea_cons (ev_op (ev_var rfl) (ev_var rfl) rv_I0) (ea_cons ev_c ea_nil))) (sp_withinI (by trivial) (by trivial))) (by show V.bl (decide (num + (lo - 2) ≤ num) && true) = _; rw [e1, Bool.and_true])) ea_nil))) (by show 3 ≤ 100000; decide)) fun lt H7 _ x7 h7 => ?_
    refine q_when (b := false) (et_is (et_or (et_test (ev_neVL (r := true) (ev_var rfl) (SqL.of h7) (el_lst (ea_cons (ev_chain (b := decide (lo - 2 ≤ 0)) (c := decide (0 ≤ hi - 2)) (ev_var rfl) ev_c rv_I0 (fun _ => ev_var rfl) (fun _ => rv_I0)) (ea_cons (ev_op ev_c (ev_var rfl) rv_I0) (ea_cons (ev_op (ev_var rfl) ev_c rv_I0) ea_nil))) (by show 3 ≤ 100000; decide)) (leq_bools [decide (lo - 2 ≤ 0) && decide (0 ≤ hi - 2), decide (0 ≤ hi - 2), decide (lo - 2 ≤ 0)])))
      fun _ => et_test (ev_op (ev_call (ea_cons (ev_var rfl) (ea_cons ev_c (ea_cons ev_c ea_nil))) (sp_withinI (by trivial) (by trivial))) ev_c (z := .bl false) fun H8 _ Q q => ⟨true, rfl, q H8 (Ex.refl H8)⟩)) rfl) (fun hb => nomatch hb) fun _ H8 x8 => ?_
    have x78 : Ex H6 H8 := x7.trans x8
    have pen8 := pen6.ex x78
    refine q_asgD (lc_pen (L := 0) (M := 4) (R := fun x => ∃ a, x = V.int a ∧ True) pen8 (by decide) (fun Q' q => ?_) (fun _ => rfl) (fun i k1 H9 hi hk off pen Q' q => ?_) (fun xs lr H9 _ hlen hR hr hrp _ off9 pen9 => ?_))
    · exact ⟨_, rfl, p, c, 5, n + 4 + 1, rfl, by decide, by decide, pen8, by omega, fun d H9 d0 d1 off pen => by
        obtain ⟨m, rfl⟩ : ∃ m : Nat, d = (m : Int) := ⟨d.toNat, (Int.toNat_of_nonneg d0).symm⟩
        exact q m H9 (Nat.zero_le _) (by omega) off pen⟩
    · exact ⟨_, rfl, p, c, 9, k1, rfl, by decide, by decide, pen, by omega, fun d H10 d0 d1 off2 pen2 => ⟨_, _, rfl, rfl, q _ H10 ⟨_, rfl, trivial⟩ off2 pen2⟩⟩
    obtain ⟨ns, rfl, _⟩ := items_of hR
    rw [List.length_map] at hlen
    refine ⟨_, rfl, _, rfl, _, (ns.map V.int).length, rfl, .inl ⟨_, SqL.of hr, rfl⟩, _, _, rfl, rfl, p, c, _, _, rfl, by rw [List.length_map]; omega, by rw [List.length_map]; omega, pen9, by omega, fun at_ H10 t0 t1 off10 pen10 => ?_⟩
    obtain ⟨at_, rfl⟩ : ∃ m : Nat, at_ = (m : Int) := ⟨at_.toNat, (Int.toNat_of_nonneg t0).symm⟩
    have hr10 : SqL K H10 lr (ns.map V.int) := SqL.of (off10 _ _ hr hrp)
    have odd10 := ((odd6.ex x78).off off9).off off10
    have ei : ∀ H', ∀ y ∈ ns.map V.int, EOk K H' y := fun H' y hy => by
      obtain ⟨z, _, rfl⟩ := List.mem_map.mp hy
      exact int_eok
    have hl1 : (ns.map V.int).length ≤ 1000 := by rw [List.length_map]; omega
    refine q_when (b := false) (et_is (et_or (et_not (et_B (ev_call (ea_cons (ev_var rfl) ea_nil) (sp_seqL hr10 hl1 fun H' _ => ei H')))) fun _ => et_or (et_not (et_B (ev_seqTup (ev_var rfl) hr10 hl1 fun H' _ => ei H'))) fun _ => et_test (ev_op (ev_call (ea_cons (ev_var rfl) ea_nil) (odd10.seq numsF)) (ev_isiT ["list", "tuple"] (ev_var rfl) (eu_tup (ea_cons ev_c (ea_cons ev_c ea_nil)) (by show 2 ≤ 100000; decide)) odd10.kd (by decide)) (rv_ne rfl))) (by rw [nums_ints, hS, decide_eq_true rfl] <;> rfl)) (fun hb => nomatch hb) fun _ H11 x11 => ?_
    have odd11 := odd10.ex x11
    have hr11 := ex_l x11 hr10
    have hcat : numsF (cutV (ns.map V.int) none (some (at_ : Int)) ++ [odd] ++ cutV (ns.map V.int) (some (at_ : Int)) none) = false := by
      unfold numsF
      rw [List.all_append, List.all_append]
      have h1 : [odd].all intV = false := by
        show (intV odd && true) = false
        rw [hI] <;> rfl
      rw [h1, Bool.and_false, Bool.false_and]
    have hcl : (cutV (ns.map V.int) none (some (at_ : Int)) ++ [odd] ++ cutV (ns.map V.int) (some (at_ : Int)) none).length ≤ 1000 := by
      have z1 := cutV_length (ns.map V.int) none (some (at_ : Int))
      have z2 := cutV_length (ns.map V.int) (some (at_ : Int)) none
      rw [List.length_map] at z1 z2
      rw [List.length_append, List.length_append]
      show _ + 1 + _ ≤ 1000
      omega
    have z1 := cutV_length (ns.map V.int) none (some (at_ : Int))
    have z2 := cutV_length (ns.map V.int) (some (at_ : Int)) none
    refine s_ret (v := .bl true) (ev_is (ev_andV (ev_notV (ev_seqN (el_catN (el_catN (el_sl (ev_var rfl) eo_none (eo_some (ev_var rfl)) hr11) (el_lst (ea_cons (ev_var rfl) ea_nil) (by show 1 ≤ 100000; decide)) (by show _ + 1 ≤ 100000; omega)) (el_sl (ev_var rfl) (eo_some (ev_var rfl)) eo_none hr11) (by rw [List.length_append]; show _ + 1 + _ ≤ 100000; omega)) hcl fun H' x' y hy => ?_))
      fun _ => ev_andV (ev_notV (ev_seqSc ev_c (by decide +kernel))) fun _ => ev_notV (ev_seqDisp (k := Sum.inl 1))) (by rw [hcat] <;> rfl)) fun H12 x12 => ?_
    · rcases List.mem_append.mp hy with hy | hy
      · rcases List.mem_append.mp hy with hy | hy
        · exact ei _ _ (mem_cut hy)
        · rw [List.mem_singleton.mp hy]
          exact (odd11.ex x').eok
      · exact ei _ _ (mem_cut hy)
    · exact k H12 ((((offB.trans (Off.of x78)).trans off9).trans off10).trans (Off.of (x11.trans x12))) (((pen10.ex (x11.trans x12))).mono (by omega))
end
end K00
set_option Elab.async false
set_option linter.all false
set_option maxRecDepth 100000
set_option maxHeartbeats 4000000
set_option autoImplicit false
namespace K00
open PySem PySem.Spec PyProof.Rows L2 He Evl
section
variable {P : Program} {w : World} {K : PySem.W.Frag} {mg : Str → Option Value} {base : Heap}
theorem b_l_words_right (T : Tx K mg) : Binds K (fdOf K ("_law_words_right", none)) ["_law_pen_here"] [] := T.f_l_words_right.bindsN fun _ _ _ _ _ _ us hl => match us, hl with | [_], _ => rfl
theorem kb_is_word_value_0 (T : Tx K mg) : KBn K (fdOf K ("is_word", none)) ["value"] 0 ["value"] (fun us ws => us ++ ws) (fun us ws => us ++ ws) := T.f_is_word.kbindsP 0 ["value"] (fun us ws => us ++ ws) (fun r1 r2 => r1.append r2) fun _ _ _ _ _ _ us ws l1 l2 => match us, ws, l1, l2 with | [], [_], _, _ => rfl
theorem ok_l_words_right (T : Tx K mg) : FnOk P w K mg base CX0 4 (ga K "_law_words_right") (fdOf K ("_law_words_right", none)) ["_law_pen_here"] (spYes K 12) := by
  refine T.f_l_words_right.ok sc_l_words_right (fun vs H Q E h => ?_) (fun cdv A outer s H vs Q E hr h => ?_)
  · obtain ⟨p, c, n, rfl, _⟩ := h
    rfl
  · refine ⟨_, PSs.nox (pss_cons (ps_setLc (i := 1) (own := [("_law_turn", 2)]) (g := (gName 2)) (tt := tYes) (by rfl) sc_l_words_right.nd rfl rfl (sw_true rfl rfl rfl (by decide +kernel)) (pi_range1 (by rfl) T.n_range (pa_cons (pe_op op_add pe_int (pe_call (ok_l_draw T) (hr.mono (by decide)) (by rfl) T.g_l_draw T.f_l_draw.kp (b_l_draw T) .nil pass0 (pa_cons (pv 0) (pa_cons pe_int pa_nil)))) pa_nil)) (blkOk_by (N := ["_law_pen_here", "_law_word", "_law_turn", "_law_at", "_law_odd"]) (sc := defScope s_l_words_right) (by decide +kernel)) (fun _ _ _ _ _ => pg_name (i := 2) sc_l_words_right.nd rfl (Or.inl rfl)) (fun _ _ _ _ _ => pts_nil) (fun _ _ _ _ _ => (pe_call (ok_l_pick T) (hr.mono (by decide)) (by rfl) T.g_l_pick T.f_l_pick.kp (b_l_pick T) .nil pass0 (pa_cons (pv 0) (pa_cons (pe_lst (pa_cons pe_str (pa_cons pe_str (pa_cons pe_str (pa_cons pe_str (pa_cons pe_str pa_nil)))))) pa_nil)))))
      (pss_cons (ps_par (i := 3) (j := 4) (by rfl) sc_l_words_right.nd rfl rfl (by decide) rfl rfl (pa_cons (pe_call (ok_l_draw T) (hr.mono (by decide)) (by rfl) T.g_l_draw T.f_l_draw.kp (b_l_draw T) .nil pass0 (pa_cons (pv 0) (pa_cons (pe_op op_add (pe_callB call_len (by rfl) T.n_len boot_len (pa_cons (pv 1) pa_nil)) pe_int) pa_nil))) (pa_cons (pe_call (ok_l_pick T) (hr.mono (by decide)) (by rfl) T.g_l_pick T.f_l_pick.kp (b_l_pick T) .nil pass0 (pa_cons (pv 0) (pa_cons (pe_lst (pa_cons pe_str (pa_cons pe_str (pa_cons pe_non (pa_cons pe_int (pa_cons (pe_lst (pa_cons pe_str pa_nil)) (pa_cons pe_str (pa_cons pe_str (pa_cons pe_str (pa_cons pe_str pa_nil)))))))))) pa_nil))) pa_nil)) (by rfl))
      (pss_cons (ps_if (PW.pt (pw_or (pt_not (pt_val (pe_call (ok_is_word T) (hr.mono (by decide)) (by rfl) T.g_is_word T.f_is_word.kp (b_is_word T) .nil pass0 (pa_cons (pv 1) pa_nil)))) (pw_or (pt_not (pt_val (pe_callN0 (ok_is_word T) (hr.mono (by decide)) (by rfl) T.g_is_word T.f_is_word.kp (kb_is_word_value_0 T) pass0 (pk_cons (pe_callTy call_tuple_of (by rfl) T.n_tuple (by decide +kernel) (pa_cons (pv 1) pa_nil)) pk_nil)))) (pw_or (pt_val (pe_call (ok_is_word T) (hr.mono (by decide)) (by rfl) T.g_is_word T.f_is_word.kp (b_is_word T) .nil pass0 (pa_cons (pe_op op_cat (pe_op op_cat (pe_slice sl_list (pv 1) po_none (po_some (pv 3))) (pe_lst (pa_cons (pv 4) pa_nil))) (pe_slice sl_list (pv 1) (po_some (pv 3)) po_none)) pa_nil))) (pw_or1 (pt_val (pe_call (ok_is_word T) (hr.mono (by decide)) (by rfl) T.g_is_word T.f_is_word.kp (b_is_word T) .nil pass0 (pa_cons (pe_lst (pa_cons (pv 4) pa_nil)) pa_nil))))))))
        (pss_one (ps_ret pe_bl))
        pss_nil)
      (pss_cons (ps_if (PW.pt (pw_or (pt_val (pe_call (ok_is_word T) (hr.mono (by decide)) (by rfl) T.g_is_word T.f_is_word.kp (b_is_word T) .nil pass0 (pa_cons (pe_op op_cat (pv 1) (pe_op op_rep (pe_lst (pa_cons pe_str pa_nil)) (pe_op op_sub pe_int (pe_callB call_len (by rfl) T.n_len boot_len (pa_cons (pv 1) pa_nil))))) pa_nil))) (pw_or (pt_not (pt_val (pe_call (ok_is_word T) (hr.mono (by decide)) (by rfl) T.g_is_word T.f_is_word.kp (b_is_word T) .nil pass0 (pa_cons (pe_op op_cat (pv 1) (pe_op op_rep (pe_lst (pa_cons pe_str pa_nil)) (pe_op op_sub pe_int (pe_callB call_len (by rfl) T.n_len boot_len (pa_cons (pv 1) pa_nil))))) pa_nil)))) (pw_or (pt_val (pe_call (ok_is_word T) (hr.mono (by decide)) (by rfl) T.g_is_word T.f_is_word.kp (b_is_word T) .nil pass0 (pa_cons (pe_lst pa_nil) pa_nil))) (pw_or1 (pt_val (pe_call (ok_is_word T) (hr.mono (by decide)) (by rfl) T.g_is_word T.f_is_word.kp (b_is_word T) .nil pass0 (pa_cons (pe_tup pa_nil) pa_nil))))))))
        (pss_one (ps_ret pe_bl))
        pss_nil)
      (pss_one (ps_ret (pe_not (pe_call (ok_is_word T) (hr.mono (by decide)) (by rfl) T.g_is_word T.f_is_word.kp (b_is_word T) .nil pass0 (pa_cons (pe_call (ok_l_pick T) (hr.mono (by decide)) (by rfl) T.g_l_pick T.f_l_pick.kp (b_l_pick T) .nil pass0 (pa_cons (pv 0) (pa_cons (pe_lst (pa_cons pe_str (pa_cons pe_str (pa_cons pe_non (pa_cons pe_int (pa_cons (pe_disp (pps_cons pe_str pe_int pps_nil) rfl rfl (by simp) (by simp)) (pa_cons pe_bl pa_nil))))))) pa_nil))) pa_nil))))))))), ?_⟩
    -- slots: [(0, '_law_pen_here'), (1, '_law_word'), (2, '_law_turn'), (3, '_law_at'), (4, '_law_odd')]
    obtain ⟨p, c, n, rfl, hP, hn, k⟩ := h
    refine q_asgD (lc_pen (L := 1) (M := 6) (R := fun x => ∃ z, x = V.str z ∧ (nameB z = true ∧ z.length ≤ 1000)) hP (by decide) (fun Q' q => ?_) (fun _ => rfl) (fun i k1 H1 hi hk off pen Q' q => ?_) (fun xs l H1 hL hlen hR h1 hlp _ off1 pen1 => ?_))
    · exact ⟨_, rfl, p, c, 6, n, rfl, by decide, by decide, hP, by omega, fun d H1 d0 d1 off pen => ⟨_, _, rfl, rfl, by
        obtain ⟨m, rfl⟩ : ∃ m : Nat, d = (m : Int) := ⟨d.toNat, (Int.toNat_of_nonneg d0).symm⟩
        have z := q (1 + m) H1 (by omega) (by omega) off pen
        have e : (1 : Int) + (m : Int) = ((1 + m : Nat) : Int) := by omega
        show Q' [V.int ((1 : Int) + (m : Int))] H1
        rw [e]
        exact z⟩⟩
    · refine run_pick (shs := [.sc (.str "a"), .sc (.str "b2"), .sc (.str "row"), .sc (.str "x"), .sc (.str "abcdefghijkl")]) pen (by omega) (ev_var rfl) (shs_sc ev_c (by decide +kernel) (shs_sc ev_c (by decide +kernel) (shs_sc ev_c (by decide +kernel) (shs_sc ev_c (by decide +kernel) (shs_sc ev_c (by decide +kernel) shs_nil))))) ⟨Nat.zero_lt_succ _, Nat.le_of_ble_eq_true rfl⟩ fun sh x H2 hsh hx off2 pen2 => q x H2 ?_ off2 pen2
      simp only [List.mem_cons, List.not_mem_nil, or_false] at hsh
      rcases hsh with e | e | e | e | e <;> subst e <;> exact ⟨_, hx.1, by decide +kernel, by decide +kernel⟩
    obtain ⟨zs, rfl, hzs⟩ := items_of hR
    rw [List.length_map] at hlen hL
    refine ⟨_, rfl, _, rfl, _, (zs.map V.str).length, rfl, .inl ⟨_, SqL.of h1, rfl⟩, _, _, rfl, rfl, p, c, _, _, rfl, by rw [List.length_map]; omega, by rw [List.length_map]; omega, pen1, by omega, fun at_ H2 t0 t1 off2 pen2 => one_arg ?_⟩
    obtain ⟨at_, rfl⟩ : ∃ m : Nat, at_ = (m : Int) := ⟨at_.toNat, (Int.toNat_of_nonneg t0).symm⟩
    refine run_pick (shs := [.sc (.str ""), .sc (.str "A"), .sc .non, .sc (.int 5), .lst (.str "a"), .sc (.str "a b"), .sc (.str "abcdefghijklm"), .sc (.str "1"), .sc (.str "-")]) pen2 (by omega) (ev_var rfl)
      (shs_sc ev_c (by decide +kernel) (shs_sc ev_c (by decide +kernel) (shs_sc ev_c rfl (shs_sc ev_c rfl (shs_lst pen2.there ev_c (by decide +kernel) (shs_sc ev_c (by decide +kernel) (shs_sc ev_c (by decide +kernel) (shs_sc ev_c (by decide +kernel) (shs_sc ev_c (by decide +kernel) shs_nil)))))))))
      ⟨Nat.zero_lt_succ _, Nat.le_of_ble_eq_true rfl⟩ fun sh odd H3 hsh hodd off3 pen3 => ⟨_, _, rfl, ?_⟩
    have hN : nameV odd = false := by
      rw [hodd.look (f := nameV) fun _ => rfl]
      simp only [List.mem_cons, List.not_mem_nil, or_false] at hsh
      rcases hsh with e | e | e | e | e | e | e | e | e <;> rw [e] <;> decide +kernel
    have hw3 : H3 l = some (.lst (zs.map V.str)) := (off2.trans off3) _ _ h1 hlp
    have hq3 : SqL K H3 l (zs.map V.str) := SqL.of hw3
    have ez : ∀ H', ∀ y ∈ zs.map V.str, EOk K H' y := fun H' y hy => by
      obtain ⟨z, hz, rfl⟩ := List.mem_map.mp hy
      exact str_eok (hzs z hz).2
    have hall : (zs.map V.str).all nameV = true := List.all_eq_true.mpr fun y hy => by
      obtain ⟨z, hz, rfl⟩ := List.mem_map.mp hy
      exact (hzs z hz).1
    have hml : (zs.map V.str).length = zs.length := List.length_map ..
    have hword : wordF (zs.map V.str) = true := by
      unfold wordF namesF
      rw [hall, hml, decide_eq_true (show 0 < zs.length by omega), decide_eq_true (show zs.length ≤ 6 by omega)] <;> rfl
    have hl1 : (zs.map V.str).length ≤ 1000 := by omega
    have hone : [odd].all nameV = false := by
      show (nameV odd && true) = false
      rw [hN] <;> rfl
    have z1 := cutV_length (zs.map V.str) none (some (at_ : Int))
    have z2 := cutV_length (zs.map V.str) (some (at_ : Int)) none
    have hcat : wordF (cutV (zs.map V.str) none (some (at_ : Int)) ++ [odd] ++ cutV (zs.map V.str) (some (at_ : Int)) none) = false := by
      unfold wordF namesF
      rw [List.all_append, List.all_append, hone, Bool.and_false, Bool.false_and, Bool.and_false, Bool.false_and]
    have hcl : (cutV (zs.map V.str) none (some (at_ : Int)) ++ [odd] ++ cutV (zs.map V.str) (some (at_ : Int)) none).length ≤ 1000 := by
      rw [List.length_append, List.length_append]
      show _ + 1 + _ ≤ 1000
      omega
    have hw1 : wordF [odd] = false := by
      unfold wordF namesF
      rw [hone, Bool.and_false, Bool.false_and]
    refine q_when (b := false) (et_is (et_or (et_not (et_B (ev_call (ea_cons (ev_var rfl) ea_nil) (sp_seqL hq3 hl1 fun H' _ => ez H')))) fun _ => et_or (et_not (et_B (ev_seqTup (ev_var rfl) hq3 hl1 fun H' _ => ez H'))) fun _ => et_or (et_B (ev_seqN (el_catN (el_catN (el_sl (ev_var rfl) eo_none (eo_some (ev_var rfl)) hq3) (el_lst (ea_cons (ev_var rfl) ea_nil) (by show 1 ≤ 100000; decide)) (by show _ + 1 ≤ 100000; omega)) (el_sl (ev_var rfl) (eo_some (ev_var rfl)) eo_none hq3) (by rw [List.length_append]; show _ + 1 + _ ≤ 100000; omega)) hcl fun H' x' y hy => ?_)) fun _ => et_B (ev_seqN (el_lst (ea_cons (ev_var rfl) ea_nil) (by show 1 ≤ 100000; decide)) (by show 1 ≤ 1000; decide) fun H' x' y hy => by
        rw [List.mem_singleton.mp hy]
        exact (hodd.ex x').eok)) (by rw [hword, hcat, hw1] <;> rfl)) (fun hb => nomatch hb) fun _ H4 x4 => ?_
    · rcases List.mem_append.mp hy with hy | hy
      · rcases List.mem_append.mp hy with hy | hy
        · exact ez _ _ (mem_cut hy)
        · rw [List.mem_singleton.mp hy]
          exact (hodd.ex x').eok
      · exact ez _ _ (mem_cut hy)
    have hw4 := x4 _ _ hw3
    have hq4 : SqL K H4 l (zs.map V.str) := SqL.of hw4
    have hflat : ∀ m : Nat, (List.replicate m [V.str "z"]).flatten = List.replicate m (V.str "z") := fun m => by
      induction m with
      | zero => rfl
      | succ m ih => rw [List.replicate_succ, List.flatten_cons, ih] <;> rfl
    have elz : ∀ m : Nat, m ≤ 7 → EvL (tOp rRep (tLst (tCons (tC (V.str "z")) tNil)) (tOp (rI0 fun i j => V.int (i - j)) (tC (V.int (m : Int))) (tCB (fun xs H_1 Q => ∃ x n, xs = [x] ∧ LenV K x H_1 n ∧ Q (V.int ↑n) H_1) (tCons (tVar 1) tNil)))) [some (.ref p), some (.ref l), none, some (.int (at_ : Int)), some odd] H4 (List.replicate (m - zs.length) (V.str "z")) := fun m hm => by
      have h := el_rep (xs := [V.str "z"]) (i := (m : Int) - ((zs.map V.str).length : Nat)) (el_lst (ea_cons ev_c ea_nil) (by show 1 ≤ 100000; decide)) (ev_op ev_c (ev_lenV (te := tVar 1) (σ := [some (.ref p), some (.ref l), none, some (.int (at_ : Int)), some odd]) (ev_var rfl) hq4) (rv_I0 (g := fun i j => V.int (i - j)))) (by omega) (by omega) (by show 1 ≤ 10; decide)
      have e : ((m : Int) - ((zs.map V.str).length : Nat)).toNat = m - zs.length := by omega
      rw [e, hflat] at h
      exact h
    have eg : ∀ (m : Nat) (H' : Hp), ∀ y ∈ zs.map V.str ++ List.replicate m (V.str "z"), EOk K H' y := fun m H' y hy => by
      rcases List.mem_append.mp hy with hy | hy
      · exact ez H' y hy
      · rw [List.eq_of_mem_replicate hy]
        exact str_eok (by decide +kernel)
    have ln : ∀ m : Nat, (zs.map V.str ++ List.replicate (m - zs.length) (V.str "z")).length = zs.length + (m - zs.length) := fun m => by
      rw [List.length_append, List.length_replicate, hml]
    have hw7 : wordF (zs.map V.str ++ List.replicate (7 - zs.length) (V.str "z")) = false := by
      unfold wordF
      rw [ln 7, decide_eq_false (show ¬ zs.length + (7 - zs.length) ≤ 6 by omega), Bool.and_false]
    have hw6 : wordF (zs.map V.str ++ List.replicate (6 - zs.length) (V.str "z")) = true := by
      have hr : (List.replicate (6 - zs.length) (V.str "z")).all nameV = true := List.all_eq_true.mpr fun y hy => by
        rw [List.eq_of_mem_replicate hy]
        decide +kernel
      unfold wordF namesF
      rw [ln 6, List.all_append, hall, hr, decide_eq_true (show 0 < zs.length + (6 - zs.length) by omega), decide_eq_true (show zs.length + (6 - zs.length) ≤ 6 by omega)] <;> rfl
    refine q_when (b := false) (et_is (et_or (et_B (ev_seqN (el_cat rfl hw4 (elz 7 (by decide)) (by rw [List.length_replicate]; omega)) (by rw [ln 7]; omega) fun H' _ => eg _ H')) fun _ => et_or (et_not (et_B (ev_seqN (el_cat rfl hw4 (elz 6 (by decide)) (by rw [List.length_replicate]; omega)) (by rw [ln 6]; omega) fun H' _ => eg _ H'))) fun _ => et_or (et_B (ev_seqN (xs := []) (el_lst ea_nil (Nat.zero_le _)) (Nat.zero_le _) fun _ _ y hy => nomatch hy)) fun _ => et_B (ev_seqU (xs := []) (eu_tup ea_nil (Nat.zero_le _)) (Nat.zero_le _) fun _ _ y hy => nomatch hy)) (by rw [hw7, hw6] <;> rfl)) (fun hb => nomatch hb) fun _ H5 x5 => ?_
    have pen5 := pen3.ex (x4.trans x5)
    refine ret_notSeq (run_pick (shs := [.sc (.str "a"), .sc (.str "ab"), .sc .non, .sc (.int 5), .dk, .sc (.bl true)]) pen5 (by omega) (ev_var rfl) (shs_sc ev_c (by decide +kernel) (shs_sc ev_c (by decide +kernel) (shs_sc ev_c rfl (shs_sc ev_c rfl (shs_disp (k := Sum.inr "a") pen5.there (shs_sc ev_c rfl shs_nil)))))) ⟨Nat.zero_lt_succ _, Nat.le_of_ble_eq_true rfl⟩ fun sh x H6 hsh hx off6 pen6 => ?_)
    have hb : seqB wordF sh = false := by
      simp only [List.mem_cons, List.not_mem_nil, or_false] at hsh
      rcases hsh with e | e | e | e | e | e <;> rw [e] <;> rfl
    refine hx.seq wordF H6 (Ex.refl H6) _ (fun H7 x7 => ⟨_, rfl, ?_⟩) E0
    rw [hb]
    exact k H7 ((((off1.trans off2).trans off3).trans (Off.of (x4.trans x5))).trans (off6.trans (Off.of x7))) ((pen6.ex x7).mono (by omega))
end
end K00
set_option Elab.async false
set_option linter.all false
set_option maxRecDepth 100000
set_option maxHeartbeats 4000000
set_option autoImplicit false
namespace K00
open PySem PySem.Spec PyProof.Rows L2 He Evl
/-- signs of names, the first a letter -/
structure Good (z : Str) : Prop where
  ne : 1 ≤ z.length
  hd : z.cps.toList.getD 0 0 ∈ letters.cps.toList
  all : ∀ c ∈ z.cps.toList, c ∈ nameMarks.cps.toList
theorem len_list (z : Str) : z.cps.toList.length = z.length := Array.length_toList
theorem cps_app (a b : Str) : (a ++ b).cps.toList = a.cps.toList ++ b.cps.toList := Array.toList_append
theorem len_app (a b : Str) : (a ++ b).length = a.length + b.length := by
  rw [← len_list, cps_app, List.length_append, len_list, len_list]
theorem Good.name {z : Str} (g : Good z) : nameB z = decide (z.length ≤ 12) := by
  have h : (z.cps.toList.all fun c => decide (c ∈ nameMarks.cps.toList)) = true := List.all_eq_true.mpr fun c hc => decide_eq_true (g.all c hc)
  unfold nameB
  rw [h, decide_eq_true g.ne, decide_eq_true g.hd, Bool.true_and, Bool.and_true, Bool.and_true]
theorem Good.app {z y : Str} (g : Good z) (h : ∀ c ∈ y.cps.toList, c ∈ nameMarks.cps.toList) : Good (z ++ y) := by
  refine ⟨by rw [len_app]; have := g.ne; omega, ?_, fun c hc => ?_⟩
  · have h1 : z.cps.toList ≠ [] := fun e => by
      have := g.ne
      rw [← len_list, e] at this
      exact absurd this (by decide)
    obtain ⟨a, r, e⟩ := List.exists_cons_of_ne_nil h1
    have := g.hd
    rw [e] at this
    rw [cps_app, e]
    exact this
  · rw [cps_app] at hc
    rcases List.mem_append.mp hc with hc | hc
    · exact g.all c hc
    · exact h c hc
/-- a sign that names have not -/
def badB (y : Str) : Bool := !(y.cps.toList.all fun c => decide (c ∈ nameMarks.cps.toList))
theorem bad_name {a y b : Str} (h : badB y = true) : nameB ((a ++ y) ++ b) = false := by
  have h1 : (y.cps.toList.all fun c => decide (c ∈ nameMarks.cps.toList)) = false := by
    unfold badB at h
    rwa [Bool.not_eq_true'] at h
  unfold nameB
  rw [cps_app, cps_app, List.all_append, List.all_append, h1, Bool.and_false, Bool.false_and, Bool.and_false]
theorem seven_name (b : Str) : nameB (("7" : Str) ++ b) = false := by
  have h : ((("7" : Str) ++ b).cps.toList.getD 0 0) = 55 := by
    rw [cps_app]
    rfl
  have h2 : decide (55 ∈ letters.cps.toList) = false := by decide +kernel
  unfold nameB
  rw [h, h2, Bool.and_false, Bool.false_and]
theorem repz (n : Int) : (repS "z" n).cps.toList = List.replicate n.toNat 122 := by
  rw [repS_list]
  have e : ("z" : Str).cps.toList = [122] := by decide +kernel
  rw [e]
  generalize n.toNat = m
  induction m with
  | zero => rfl
  | succ m ih => rw [List.replicate_succ, List.flatten_cons, ih] <;> rfl
theorem repz_mem {n : Int} {c : Nat} (h : c ∈ (repS "z" n).cps.toList) : c ∈ nameMarks.cps.toList := by
  rw [repz] at h
  rw [List.eq_of_mem_replicate h]
  decide +kernel
theorem repz_len (n : Int) : (repS "z" n).length = n.toNat := by
  rw [← len_list, repz, List.length_replicate]
theorem dec_strV (a b : Str) : decide (V.str a = V.str b) = (b == a) := by
  by_cases h : a = b
  · rw [h, decide_eq_true rfl, beq_self_eq_true]
  · rw [decide_eq_false fun q => h (V.str.inj q)]
    exact (beq_eq_false_iff_ne.mpr (Ne.symm h)).symm
theorem side_in (z : Str) : sideV (.str z) = inV (.str z) [.str "row", .str "column"] := by
  show (decide (V.str z = V.str "column") || decide (V.str z = V.str "row")) = (("row" : Str) == z || (("column" : Str) == z || false))
  rw [dec_strV, dec_strV, Bool.or_false, Bool.or_comm]
def truthV (x : V) : Bool := decide (x = .bl true) || decide (x = .bl false)
theorem sub_letters : ∀ c ∈ letters.cps.toList, c ∈ nameMarks.cps.toList := by decide +kernel
section
variable {σ : L2.St} {K : PySem.W.Frag} {H : Hp} {te tb : TE} {p c : Addr}
theorem run_pickL {xs : List V} {n : Nat} {Q : VK} (hP : PenAt K n H p c) (hn : n ≤ 100000) (hv : Ev te σ H (.ref p)) (h : EvL tb σ H xs) (hl : 0 < xs.length ∧ xs.length ≤ 1000)
    (k : ∀ (i : Nat) (x : V) H1, xs[i]? = some x → Off p H H1 → PenAt K (n + 1) H1 p c → Q x H1) : tCall (spPick K) [] E0 (tCons te (tCons tb tNil)) σ H Q :=
  hv H (Ex.refl H) _ fun H1 e1 => h H1 e1 _ fun l H2 hl' e2 hl2 => by
    obtain ⟨o, ho⟩ := hP.there
    refine ⟨p, c, l, xs, n, rfl, SqL.of hl2, Ne.symm (ne_of_none (e1 _ _ ho) hl'), hl.1, hl.2, hP.ex (e1.trans e2), hn, fun i x H4 hx off pen => ?_⟩
    exact k i x H4 hx ((Off.of (e1.trans e2)).trans off) pen
theorem el_listStr {z : Str} (h : Ev te σ H (.str z)) (hz : z.length ≤ 1000) : EvL (tCB rListStr (tCons te tNil)) σ H (signsV z) := fun H1 e Q q =>
  h H1 e _ fun H2 e2 => ⟨z, rfl, sz_of (by omega), fun l hl => q l _ (fresh_back e2 hl) (e2.trans (Ex.new hl)) upd_same⟩
theorem ev_addS {a b : Str} {ta tb : TE} (h1 : Ev ta σ H (.str a)) (h2 : Ev tb σ H (.str b)) (hz : a.length + b.length ≤ 1000) : Ev (tOp (fun x y H Q => ∃ i j, x = .str i ∧ y = .str j ∧ i.length + j.length ≤ sizeLine ∧ Q (.str (i ++ j)) H) ta tb) σ H (.str (a ++ b)) :=
  ev_op h1 h2 fun H1 _ Q q => ⟨a, b, rfl, rfl, sz_of (by omega), q H1 (Ex.refl H1)⟩
theorem ev_slS {z : Str} {tl th : TO} {lo hi : Option Int} (h : Ev te σ H (.str z)) (h1 : EvO tl σ H lo) (h2 : EvO th σ H hi) (hz : z.length ≤ 1000) : Ev (tSl rSlS te tl th) σ H (.str (cutS z lo hi)) := fun H1 e Q q =>
  h H1 e _ fun H2 e2 => h1 H2 (e.trans e2) _ fun H3 e3 => h2 H3 ((e.trans e2).trans e3) _ fun H4 e4 => ⟨z, rfl, sz_of (by omega), q H4 ((e2.trans e3).trans e4)⟩
theorem ev_lenS {z : Str} (h : Ev te σ H (.str z)) (hz : z.length ≤ 1000) : Ev (tCB (fun xs H Q => ∃ x n, xs = [x] ∧ LenV K x H n ∧ Q (.int n) H) (tCons te tNil)) σ H (.int (z.length : Nat)) := fun H1 e Q q =>
  h H1 e _ fun H2 e2 => ⟨_, z.length, rfl, ⟨sz_of (by omega), rfl⟩, q H2 e2⟩
theorem ev_repS {z : Str} {i : Int} (h1 : Ev te σ H (.str z)) (h2 : Ev tb σ H (.int i)) (a : -1000 ≤ i) (b : i ≤ 1000) (hz : z.length ≤ 1000) : Ev (tOp (fun x y H Q => ∃ z n, x = .str z ∧ y = .int n ∧ -1000 ≤ n ∧ n ≤ 1000 ∧ z.length ≤ 1000 ∧ Q (.str (repS z n)) H) te tb) σ H (.str (repS z i)) :=
  ev_op h1 h2 fun H1 _ Q q => ⟨z, i, rfl, rfl, a, b, hz, q H1 (Ex.refl H1)⟩
theorem ev_name {z : Str} (h : Ev te σ H (.str z)) (hz : z.length ≤ 1000) : Ev (tCall (spName K) [] E0 (tCons te tNil)) σ H (.bl (nameB z)) := ev_call (ea_cons h ea_nil) (sp_name (str_eok hz))
end
section
variable {P : Program} {w : World} {K : PySem.W.Frag} {mg : Str → Option Value} {base : Heap}
theorem b_l_names_right (T : Tx K mg) : Binds K (fdOf K ("_law_names_right", none)) ["_law_pen_here"] [] := T.f_l_names_right.bindsN fun _ _ _ _ _ _ us hl => match us, hl with | [_], _ => rfl
theorem kb_is_name_value_0 (T : Tx K mg) : KBn K (fdOf K ("is_name", none)) ["value"] 0 ["value"] (fun us ws => us ++ ws) (fun us ws => us ++ ws) := T.f_is_name.kbindsP 0 ["value"] (fun us ws => us ++ ws) (fun r1 r2 => r1.append r2) fun _ _ _ _ _ _ us ws l1 l2 => match us, ws, l1, l2 with | [], [_], _, _ => rfl
theorem kb_is_side_value_0 (T : Tx K mg) : KBn K (fdOf K ("is_side", none)) ["value"] 0 ["value"] (fun us ws => us ++ ws) (fun us ws => us ++ ws) := T.f_is_side.kbindsP 0 ["value"] (fun us ws => us ++ ws) (fun r1 r2 => r1.append r2) fun _ _ _ _ _ _ us ws l1 l2 => match us, ws, l1, l2 with | [], [_], _, _ => rfl
theorem kb_is_truth_value_0 (T : Tx K mg) : KBn K (fdOf K ("is_truth", none)) ["value"] 0 ["value"] (fun us ws => us ++ ws) (fun us ws => us ++ ws) := T.f_is_truth.kbindsP 0 ["value"] (fun us ws => us ++ ws) (fun r1 r2 => r1.append r2) fun _ _ _ _ _ _ us ws l1 l2 => match us, ws, l1, l2 with | [], [_], _, _ => rfl
theorem ok_l_names_right (T : Tx K mg) : FnOk P w K mg base CX0 3 (ga K "_law_names_right") (fdOf K ("_law_names_right", none)) ["_law_pen_here"] (spYes K 17) := by
  refine T.f_l_names_right.ok sc_l_names_right (fun vs H Q E h => ?_) (fun cdv A outer s H vs Q E hr h => ?_)
  · obtain ⟨p, c, n, rfl, _⟩ := h
    rfl
  · refine ⟨_, PSs.nox (pss_cons (ps_asg (pe_tup (pa_cons pe_str (pa_cons pe_str pa_nil))) (pg_tup rfl (pgs_cons (pg_name (i := 1) sc_l_names_right.nd rfl (.inl rfl)) (pgs_cons (pg_name (i := 2) sc_l_names_right.nd rfl (.inl rfl)) pgs_nil))))
      (pss_cons (ps_set (i := 3) sc_l_names_right.nd rfl (.inl rfl) (pe_call (ok_l_pick T) (hr.mono (by decide)) (by rfl) T.g_l_pick T.f_l_pick.kp (b_l_pick T) .nil pass0 (pa_cons (pv 0) (pa_cons (pe_callTy (call_listStr rfl) (by rfl) T.n_list (by decide +kernel) (pa_cons (pv 1) pa_nil)) pa_nil))))
      (pss_cons (ps_for PassesOwn.never rfl (pi_range1 (by rfl) T.n_range (pa_cons (pe_call (ok_l_draw T) (hr.mono (by decide)) (by rfl) T.g_l_draw T.f_l_draw.kp (b_l_draw T) .nil pass0 (pa_cons (pv 0) (pa_cons pe_int pa_nil))) pa_nil)) (pg_name (i := 4) sc_l_names_right.nd rfl (.inl rfl))
        (pss_one (ps_set (i := 3) sc_l_names_right.nd rfl (.inl rfl) (pe_op op_add_str (pv 3) (pe_call (ok_l_pick T) (hr.mono (by decide)) (by rfl) T.g_l_pick T.f_l_pick.kp (b_l_pick T) .nil pass0 (pa_cons (pv 0) (pa_cons (pe_callTy (call_listStr rfl) (by rfl) T.n_list (by decide +kernel) (pa_cons (pv 2) pa_nil)) pa_nil)))))))
      (pss_cons (ps_par (i := 5) (j := 6) (by rfl) sc_l_names_right.nd rfl rfl (by decide) rfl rfl (pa_cons (pe_call (ok_l_draw T) (hr.mono (by decide)) (by rfl) T.g_l_draw T.f_l_draw.kp (b_l_draw T) .nil pass0 (pa_cons (pv 0) (pa_cons (pe_op op_add (pe_callB call_len (by rfl) T.n_len boot_len (pa_cons (pv 3) pa_nil)) pe_int) pa_nil))) (pa_cons (pe_call (ok_l_pick T) (hr.mono (by decide)) (by rfl) T.g_l_pick T.f_l_pick.kp (b_l_pick T) .nil pass0 (pa_cons (pv 0) (pa_cons (pe_lst (pa_cons pe_str (pa_cons pe_str (pa_cons pe_str (pa_cons pe_str (pa_cons pe_str (pa_cons pe_str (pa_cons pe_str (pa_cons pe_str (pa_cons pe_str (pa_cons pe_str (pa_cons pe_str (pa_cons pe_str (pa_cons pe_str (pa_cons pe_str pa_nil))))))))))))))) pa_nil))) pa_nil)) (by rfl))
      (pss_cons (ps_if (PW.pt (pw_or (pt_not (pt_val (pe_call (ok_is_name T) (hr.mono (by decide)) (by rfl) T.g_is_name T.f_is_name.kp (b_is_name T) .nil pass0 (pa_cons (pv 3) pa_nil)))) (pw_or (pt_val (pe_call (ok_is_name T) (hr.mono (by decide)) (by rfl) T.g_is_name T.f_is_name.kp (b_is_name T) .nil pass0 (pa_cons (pe_op op_add_str (pe_op op_add_str (pe_slice sl_str (pv 3) po_none (po_some (pv 5))) (pv 6)) (pe_slice sl_str (pv 3) (po_some (pv 5)) po_none)) pa_nil))) (pw_or (pt_val (pe_callN0 (ok_is_name T) (hr.mono (by decide)) (by rfl) T.g_is_name T.f_is_name.kp (kb_is_name_value_0 T) pass0 (pk_cons (pe_op op_add_str pe_str (pe_slice sl_str (pv 3) po_none (po_some pe_int))) pk_nil))) (pw_or1 (pt_val (pe_call (ok_is_name T) (hr.mono (by decide)) (by rfl) T.g_is_name T.f_is_name.kp (b_is_name T) .nil pass0 (pa_cons pe_str pa_nil))))))))
        (pss_one (ps_ret pe_bl))
        pss_nil)
      (pss_cons (ps_if (PW.pt (pw_or (pt_val (pe_call (ok_is_name T) (hr.mono (by decide)) (by rfl) T.g_is_name T.f_is_name.kp (b_is_name T) .nil pass0 (pa_cons (pe_op op_add_str (pv 3) (pe_op op_mulStr pe_str (pe_op op_sub pe_int (pe_callB call_len (by rfl) T.n_len boot_len (pa_cons (pv 3) pa_nil))))) pa_nil))) (pw_or1 (pt_not (pt_val (pe_call (ok_is_name T) (hr.mono (by decide)) (by rfl) T.g_is_name T.f_is_name.kp (b_is_name T) .nil pass0 (pa_cons (pe_op op_add_str (pv 3) (pe_op op_mulStr pe_str (pe_op op_sub pe_int (pe_callB call_len (by rfl) T.n_len boot_len (pa_cons (pv 3) pa_nil))))) pa_nil)))))))
        (pss_one (ps_ret pe_bl))
        pss_nil)
      (pss_cons (ps_if (PW.pt (pw_or (pt_cmpR op_ne (pe_call (ok_is_side T) (hr.mono (by decide)) (by rfl) T.g_is_side T.f_is_side.kp (b_is_side T) .nil pass0 (pa_cons (pv 3) pa_nil)) (pe_cmpR op_in_seq (pv 3) (pe_tup (pa_cons pe_str (pa_cons pe_str pa_nil))) (by rfl)) (nomark _)) (pw_or (pt_not (pt_val (pe_callN0 (ok_is_side T) (hr.mono (by decide)) (by rfl) T.g_is_side T.f_is_side.kp (kb_is_side_value_0 T) pass0 (pk_cons pe_str pk_nil)))) (pw_or (pt_not (pt_val (pe_call (ok_is_side T) (hr.mono (by decide)) (by rfl) T.g_is_side T.f_is_side.kp (b_is_side T) .nil pass0 (pa_cons pe_str pa_nil)))) (pw_or (pt_val (pe_call (ok_is_side T) (hr.mono (by decide)) (by rfl) T.g_is_side T.f_is_side.kp (b_is_side T) .nil pass0 (pa_cons pe_str pa_nil))) (pw_or1 (pt_val (pe_call (ok_is_side T) (hr.mono (by decide)) (by rfl) T.g_is_side T.f_is_side.kp (b_is_side T) .nil pass0 (pa_cons pe_str pa_nil)))))))))
        (pss_one (ps_ret pe_bl))
        pss_nil)
      (pss_cons (ps_set (i := 7) sc_l_names_right.nd rfl (.inl rfl) (pe_call (ok_l_pick T) (hr.mono (by decide)) (by rfl) T.g_l_pick T.f_l_pick.kp (b_l_pick T) .nil pass0 (pa_cons (pv 0) (pa_cons (pe_lst (pa_cons pe_non (pa_cons pe_int (pa_cons pe_int (pa_cons pe_int (pa_cons pe_str (pa_cons (pe_lst (pa_cons pe_str pa_nil)) (pa_cons (pe_tup (pa_cons pe_str pa_nil)) (pa_cons pe_dnewK (pa_cons pe_str (pa_cons (pe_op op_pow pe_int pe_int) pa_nil))))))))))) pa_nil))))
      (pss_cons (ps_if (PW.pt (pw_or (pt_val (pe_call (ok_is_name T) (hr.mono (by decide)) (by rfl) T.g_is_name T.f_is_name.kp (b_is_name T) .nil pass0 (pa_cons (pv 7) pa_nil))) (pw_or (pt_val (pe_call (ok_is_side T) (hr.mono (by decide)) (by rfl) T.g_is_side T.f_is_side.kp (b_is_side T) .nil pass0 (pa_cons (pv 7) pa_nil))) (pw_or (pt_val (pe_call (ok_is_truth T) (hr.mono (by decide)) (by rfl) T.g_is_truth T.f_is_truth.kp (b_is_truth T) .nil pass0 (pa_cons (pv 7) pa_nil))) (pw_or1 (pt_val (pe_call (ok_is_truth T) (hr.mono (by decide)) (by rfl) T.g_is_truth T.f_is_truth.kp (b_is_truth T) .nil pass0 (pa_cons (pv 3) pa_nil))))))))
        (pss_one (ps_ret pe_bl))
        pss_nil)
      (pss_one (ps_ret (pe_and (pe_cmpR op_is_bl (pe_callN0 (ok_is_truth T) (hr.mono (by decide)) (by rfl) T.g_is_truth T.f_is_truth.kp (kb_is_truth_value_0 T) pass0 (pk_cons pe_bl pk_nil)) pe_bl (nomark _)) (pe_one (pe_cmpR op_is_bl (pe_call (ok_is_truth T) (hr.mono (by decide)) (by rfl) T.g_is_truth T.f_is_truth.kp (b_is_truth T) .nil pass0 (pa_cons pe_bl pa_nil)) pe_bl (nomark _))))))))))))))), ?_⟩
    -- slots: [(0, '_law_pen_here'), (1, '_law_letters'), (2, '_law_signs'), (3, '_law_name'), (4, '_law_turn'), (5, '_law_at'), (6, '_law_odd'), (7, '_law_some')]
    obtain ⟨p, c, n, rfl, hP, hn, k⟩ := h
    have hLl : letters.length = 26 := by decide +kernel
    have hMl : nameMarks.length = 36 := by decide +kernel
    have sL : (signsV letters).length = 26 := by decide +kernel
    have sM : (signsV nameMarks).length = 36 := by decide +kernel
    refine ⟨by show 2 ≤ sizeLine; decide, fun q0 hq0 => ⟨q0, _, rfl, SqT.of upd_same, rfl, _, _, rfl, _, _, rfl, rfl, ?_⟩⟩
    have y0 : Ex H (upd H q0 (.tup [.str "abcdefghijklmnopqrstuvwxyz", .str "abcdefghijklmnopqrstuvwxyz0123456789"])) := Ex.new hq0
    have pen0 := hP.ex y0
    refine q_asgD (run_pickL pen0 (by omega) (ev_var rfl) (el_listStr (z := letters) (ev_var rfl) (by rw [hLl]; decide)) (by rw [sL]; decide) fun i0 x0 H1 hx0 off1 pen1 => ?_)
    obtain ⟨c0, hc0, rfl⟩ : ∃ c0, c0 ∈ letters.cps.toList ∧ x0 = .str ⟨#[c0]⟩ := by
      unfold signsV at hx0
      obtain ⟨c0, hc, e⟩ := List.mem_map.mp (List.mem_of_getElem? hx0)
      exact ⟨c0, hc, e.symm⟩
    have g0 : Good ⟨#[c0]⟩ := ⟨Nat.le_refl 1, hc0, fun d hd => by
      have : d = c0 := by simpa using hd
      rw [this]
      exact sub_letters c0 hc0⟩
    have offA : Off p H H1 := (Off.of y0).trans off1
    clear off1 pen0 y0 hq0
    refine ⟨_, rfl, p, c, 12, n + 1, rfl, by decide, by decide, pen1, by omega, fun d H2 d0 d1 off2 pen2 => ⟨d, rfl, by omega, by omega, for_range (lo := 0) (n := d.toNat) (fun i σ' H' => ∃ z u, σ' = [some (.ref p), some (.str letters), some (.str nameMarks), some (.str z), u, none, none, none] ∧ Good z ∧ z.length = 1 + i ∧ Off p H H' ∧ PenAt K (n + 2 + i) H' p c) ⟨_, none, rfl, g0, rfl, offA.trans off2, pen2⟩ ?_ ?_⟩⟩
    · rintro i σ' H' hi ⟨z, u, rfl, gz, hz, off3, pen3⟩
      refine ⟨_, rfl, ?_⟩
      refine run_pickL pen3 (by omega) (ev_var rfl) (el_listStr (z := nameMarks) (ev_var rfl) (by rw [hMl]; decide)) (by rw [sM]; decide) fun i1 x1 H3 hx1 off4 pen4 => ?_
      obtain ⟨c1, hc1, rfl⟩ : ∃ c1, c1 ∈ nameMarks.cps.toList ∧ x1 = .str ⟨#[c1]⟩ := by
        unfold signsV at hx1
        obtain ⟨c1, hc, e⟩ := List.mem_map.mp (List.mem_of_getElem? hx1)
        exact ⟨c1, hc, e.symm⟩
      have l1 : (⟨#[c1]⟩ : Str).length = 1 := rfl
      refine ⟨_, _, rfl, rfl, sz_of (by omega), z ++ ⟨#[c1]⟩, _, rfl, gz.app fun d hd => ?_, ?_, off3.trans off4, pen4⟩
      · have : d = c1 := by simpa using hd
        rw [this]
        exact hc1
      · rw [len_app, l1]
        omega
    rintro σ' H3 ⟨z, u, rfl, gz, hz, off3, pen3⟩
    have hz1 : 1 ≤ z.length := gz.ne
    have hz2 : z.length ≤ 12 := by omega
    have pen3' : PenAt K (n + 13) H3 p c := pen3.mono (by omega)
    clear pen3 pen2 off2
    refine ⟨_, rfl, _, rfl, _, z.length, rfl, ⟨sz_of (by omega), rfl⟩, _, _, rfl, rfl, p, c, _, _, rfl, by omega, by omega, pen3', by omega, fun at_ H4 t0 t1 off4 pen4 => one_arg ?_⟩
    refine run_pick (shs := [.sc (.str "A"), .sc (.str " "), .sc (.str "_"), .sc (.str "-"), .sc (.str "."), .sc (.str "\n"), .sc (.str "\t"), .sc (.str "#"), .sc (.str "{"), .sc (.str "`"), .sc (.str "/"), .sc (.str ":"), .sc (.str "@"), .sc (.str "+")]) pen4 (by omega) (ev_var rfl)
      (shs_sc ev_c (by decide +kernel) (shs_sc ev_c (by decide +kernel) (shs_sc ev_c (by decide +kernel) (shs_sc ev_c (by decide +kernel) (shs_sc ev_c (by decide +kernel) (shs_sc ev_c (by decide +kernel) (shs_sc ev_c (by decide +kernel) (shs_sc ev_c (by decide +kernel) (shs_sc ev_c (by decide +kernel) (shs_sc ev_c (by decide +kernel) (shs_sc ev_c (by decide +kernel) (shs_sc ev_c (by decide +kernel) (shs_sc ev_c (by decide +kernel) (shs_sc ev_c (by decide +kernel) shs_nil))))))))))))))
      ⟨Nat.zero_lt_succ _, Nat.le_of_ble_eq_true rfl⟩ fun sh odd H5 hsh hodd off5 pen5 => ⟨_, _, rfl, ?_⟩
    obtain ⟨y, rfl, hy1, hy2⟩ : ∃ y, odd = .str y ∧ badB y = true ∧ y.length = 1 := by
      simp only [List.mem_cons, List.not_mem_nil, or_false] at hsh
      rcases hsh with e | e | e | e | e | e | e | e | e | e | e | e | e | e <;> subst e <;> exact ⟨_, hodd.1, by decide +kernel, by decide +kernel⟩
    have off5' : Off p H H5 := (off3.trans off4).trans off5
    clear hsh hodd off3 off4 off5
    have k1 := cutS_length z none (some at_)
    have k2 := cutS_length z (some at_) none
    have k3 := cutS_length z none (some 5)
    have l7 : ("7" : Str).length = 1 := by decide +kernel
    have lz : ("z" : Str).length = 1 := by decide +kernel
    have n0 : nameB "" = false := by decide +kernel
    have gn : nameB z = true := by rw [gz.name, decide_eq_true hz2]
    refine q_when (b := false) (et_is (et_or (et_not (et_B (ev_name (ev_var rfl) (by omega)))) fun _ => et_or (et_B (ev_name (ev_addS (ev_addS (ev_slS (ev_var rfl) eo_none (eo_some (ev_var rfl)) (by omega)) (ev_var rfl) (by omega)) (ev_slS (ev_var rfl) (eo_some (ev_var rfl)) eo_none (by omega)) (by rw [len_app]; omega)) (by rw [len_app, len_app]; omega))) fun _ => et_or (et_B (ev_callN ea_nil (ea_cons (ev_addS ev_c (ev_slS (ev_var rfl) eo_none (eo_some ev_c) (by omega)) (by omega)) ea_nil) rfl rfl (sp_name (str_eok (by rw [len_app]; omega))))) fun _ => et_B (ev_name ev_c (by decide +kernel))) (by
      show (!nameB z || (nameB ((cutS z none (some at_) ++ y) ++ cutS z (some at_) none) || (nameB (("7" : Str) ++ cutS z none (some 5)) || nameB ""))) = false
      rw [gn, bad_name hy1, seven_name, n0] <;> rfl)) (fun hb => nomatch hb) fun _ H6 x6 => ?_
    have gA : ∀ i : Int, Good (z ++ repS "z" i) := fun i => gz.app fun c hc => repz_mem hc
    have l13 : (repS "z" (13 - (z.length : Nat))).length = 13 - z.length := by rw [repz_len]; omega
    have l12 : (repS "z" (12 - (z.length : Nat))).length = 12 - z.length := by rw [repz_len]; omega
    have n13 : nameB (z ++ repS "z" (13 - (z.length : Nat))) = false := by
      rw [(gA _).name, len_app, l13, decide_eq_false (by omega)]
    have n12 : nameB (z ++ repS "z" (12 - (z.length : Nat))) = true := by
      rw [(gA _).name, len_app, l12, decide_eq_true (by omega)]
    refine q_when (b := false) (et_is (et_or (et_B (ev_name (ev_addS (ev_var rfl) (ev_repS ev_c (ev_op ev_c (ev_lenS (ev_var rfl) (by omega)) (rv_I0 (g := fun i j => V.int (i - j)))) (by omega) (by omega) (by omega)) (by rw [l13]; omega)) (by rw [len_app, l13]; omega))) fun _ => et_not (et_B (ev_name (ev_addS (ev_var rfl) (ev_repS ev_c (ev_op ev_c (ev_lenS (ev_var rfl) (by omega)) (rv_I0 (g := fun i j => V.int (i - j)))) (by omega) (by omega) (by omega)) (by rw [l12]; omega)) (by rw [len_app, l12]; omega)))) (by rw [n13, n12] <;> rfl)) (fun hb => nomatch hb) fun _ H7 x7 => ?_
    have s1 : sideV (.str "row") = true := by decide +kernel
    have s2 : sideV (.str "column") = true := by decide +kernel
    have s3 : sideV (.str "rows") = false := by decide +kernel
    have s4 : sideV (.str "Row") = false := by decide +kernel
    refine q_when (b := false) (et_is (et_or (et_test (ev_op (ev_call (ea_cons (ev_var rfl) ea_nil) (sp_side (kd_str z))) (ev_inU (ev_var rfl) (eu_tup (ea_cons ev_c (ea_cons ev_c ea_nil)) (by show 2 ≤ 100000; decide)) rfl rfl) (rv_ne rfl))) fun _ => et_or (et_not (et_B (ev_callN ea_nil (ea_cons ev_c ea_nil) rfl rfl (sp_side (kd_str _))))) fun _ => et_or (et_not (et_B (ev_call (ea_cons ev_c ea_nil) (sp_side (kd_str _))))) fun _ => et_or (et_B (ev_call (ea_cons ev_c ea_nil) (sp_side (kd_str _)))) fun _ => et_B (ev_call (ea_cons ev_c ea_nil) (sp_side (kd_str _)))) (by
      rw [side_in z, s1, s2, s3, s4, decide_eq_true rfl] <;> rfl)) (fun hb => nomatch hb) fun _ H8 x8 => ?_
    have pen8 := pen5.ex ((x6.trans x7).trans x8)
    refine q_pick (shs := [.sc .non, .sc (.int 5), .sc (.int 0), .sc (.int 1), .sc (.str "True"), .lst (.str "row"), .tup (.str "row"), .dk, .sc (.str ""), .sc (.int (10 ^ (30 : Int).toNat))]) pen8 (by omega) (ev_var rfl)
      (shs_sc ev_c rfl (shs_sc ev_c rfl (shs_sc ev_c rfl (shs_sc ev_c rfl (shs_sc ev_c (by decide +kernel) (shs_lst pen8.there ev_c (by decide +kernel) (shs_tup pen8.there ev_c (by decide +kernel) (shs_dk pen8.there (shs_sc ev_c (by decide +kernel) (shs_sc (ev_op ev_c ev_c (rv_I (C := CPow) (g := fun i j => V.int (i ^ j.toNat)) ⟨by decide, by decide, by decide⟩)) rfl shs_nil))))))))))
      ⟨Nat.zero_lt_succ _, Nat.le_of_ble_eq_true rfl⟩ fun sh some_ H9 hsh hsm off9 pen9 => ?_
    have f1 : nameV some_ = false := by
      rw [hsm.look (f := nameV) fun _ => rfl]
      simp only [List.mem_cons, List.not_mem_nil, or_false] at hsh
      rcases hsh with e | e | e | e | e | e | e | e | e | e <;> rw [e] <;> decide +kernel
    have f2 : sideV some_ = false := by
      rw [hsm.look (f := sideV) fun _ => rfl]
      simp only [List.mem_cons, List.not_mem_nil, or_false] at hsh
      rcases hsh with e | e | e | e | e | e | e | e | e | e <;> rw [e] <;> decide +kernel
    have f3 : truthV some_ = false := by
      rw [hsm.look (f := truthV) fun _ => rfl]
      simp only [List.mem_cons, List.not_mem_nil, or_false] at hsh
      rcases hsh with e | e | e | e | e | e | e | e | e | e <;> rw [e] <;> decide +kernel
    have f4 : truthV (.str z) = false := rfl
    refine q_when (b := false) (et_is (et_or (et_B (ev_call (ea_cons (ev_var rfl) ea_nil) (sp_name hsm.eok))) fun _ => et_or (et_B (ev_call (ea_cons (ev_var rfl) ea_nil) (sp_side hsm.kd))) fun _ => et_or (et_B (ev_call (ea_cons (ev_var rfl) ea_nil) sp_truth)) fun _ => et_B (ev_call (ea_cons (ev_var rfl) ea_nil) sp_truth)) (by
      show (nameV some_ || (sideV some_ || (truthV some_ || truthV (.str z)))) = false
      rw [f1, f2, f3, f4] <;> rfl)) (fun hb => nomatch hb) fun _ H10 x10 => ?_
    refine s_ret (v := .bl true) (ev_is (ev_andV (ev_op (ev_callN ea_nil (ea_cons ev_c ea_nil) rfl rfl sp_truth) ev_c (z := .bl true) fun H1 _ Q q => ⟨true, rfl, q H1 (Ex.refl H1)⟩) fun _ => ev_op (ev_call (ea_cons ev_c ea_nil) sp_truth) ev_c (z := .bl true) fun H1 _ Q q => ⟨true, rfl, q H1 (Ex.refl H1)⟩) rfl) fun H11 x11 => ?_
    exact k H11 ((((off5'.trans (Off.of ((x6.trans x7).trans x8))).trans off9)).trans (Off.of (x10.trans x11))) ((pen9.ex (x10.trans x11)).mono (by omega))
end
end K00
set_option Elab.async false
set_option linter.all false
set_option maxRecDepth 100000
set_option maxHeartbeats 4000000
set_option autoImplicit false
namespace K00
open PySem PySem.Spec PyProof.Rows L2 He Evl
def sp_law (K : PySem.W.Frag) : Sp := fun vs H Q _ => ∃ (a : Addr) (ns : List Int), vs = [.ref a] ∧ SqL K H a (ns.map V.int) ∧ ns.length ≤ 63 ∧ ∀ H', Q (.bl true) H'
section
variable {P : Program} {w : World} {K : PySem.W.Frag} {mg : Str → Option Value} {base : Heap}
theorem b_law (T : Tx K mg) : Binds K (fdOf K ("law", none)) ["_law_script"] [] := T.f_law.bindsN fun _ _ _ _ _ _ us hl => match us, hl with | [_], _ => rfl
theorem ok_law (T : Tx K mg) : FnOk P w K mg base CX0 5 (ga K "law") (fdOf K ("law", none)) ["_law_script"] (sp_law K) := by
  refine T.f_law.ok sc_law (fun vs H Q E h => ?_) (fun cdv A outer s H vs Q E hr h => ?_)
  · obtain ⟨a, ns, rfl, _⟩ := h
    rfl
  · refine ⟨_, PSs.nox (pss_cons (ps_set (i := 1) sc_law.nd rfl (.inl rfl) (pe_call (ok_l_pen T) (hr.mono (by decide)) (by rfl) T.g_l_pen T.f_l_pen.kp (b_l_pen T) .nil pass0 (pa_cons (pv 0) pa_nil)))
      (pss_cons (ps_for PassesOwn.never rfl (pi_range1 (by rfl) T.n_range (pa_cons pe_int pa_nil)) (pg_name (i := 2) sc_law.nd rfl (.inl rfl))
        (pss_cons (ps_par (i := 3) (j := 4) (by rfl) sc_law.nd rfl rfl (by decide) rfl rfl (pa_cons (pe_call (ok_l_value T) (hr.mono (by decide)) (by rfl) T.g_l_value T.f_l_value.kp (b_l_value T) .nil pass0 (pa_cons (pv 1) pa_nil)) (pa_cons (pe_call (ok_l_value T) (hr.mono (by decide)) (by rfl) T.g_l_value T.f_l_value.kp (b_l_value T) .nil pass0 (pa_cons (pv 1) pa_nil)) pa_nil)) (by rfl))
        (pss_cons (ps_if (PW.pt (pw_or (pt_not (pt_val (pe_call (ok_l_one_right T) (hr.mono (by decide)) (by rfl) T.g_l_one_right T.f_l_one_right.kp (b_l_one_right T) .nil pass0 (pa_cons (pv 3) (pa_cons (pv 4) pa_nil))))) (pw_or1 (pt_not (pt_val (pe_call (ok_l_two_right T) (hr.mono (by decide)) (by rfl) T.g_l_two_right T.f_l_two_right.kp (b_l_two_right T) .nil pass0 (pa_cons (pv 3) (pa_cons (pv 4) pa_nil))))))))
          (pss_one (ps_ret pe_bl))
          pss_nil)
        (pss_one (ps_if (PW.pt (pw_or (pt_not (pt_val (pe_call (ok_l_integers_right T) (hr.mono (by decide)) (by rfl) T.g_l_integers_right T.f_l_integers_right.kp (b_l_integers_right T) .nil pass0 (pa_cons (pv 1) pa_nil)))) (pw_or (pt_not (pt_val (pe_call (ok_l_names_right T) (hr.mono (by decide)) (by rfl) T.g_l_names_right T.f_l_names_right.kp (b_l_names_right T) .nil pass0 (pa_cons (pv 1) pa_nil)))) (pw_or (pt_not (pt_val (pe_call (ok_l_words_right T) (hr.mono (by decide)) (by rfl) T.g_l_words_right T.f_l_words_right.kp (b_l_words_right T) .nil pass0 (pa_cons (pv 1) pa_nil)))) (pw_or1 (pt_not (pt_val (pe_call (ok_l_twice_right T) (hr.mono (by decide)) (by rfl) T.g_l_twice_right T.f_l_twice_right.kp (b_l_twice_right T) .nil pass0 (pa_cons (pv 1) pa_nil)))))))))
          (pss_one (ps_ret pe_bl))
          pss_nil)))))
      (pss_one (ps_ret pe_bl)))), ?_⟩
    -- slots: [(0, '_law_script'), (1, '_law_pen_here'), (2, '_law_turn'), (3, '_law_one'), (4, '_law_other')]
    obtain ⟨a, ns, rfl, hq, hl, k⟩ := h
    refine q_asgD ?_
    refine ⟨_, rfl, a, ns, rfl, hq, hl, fun p c H1 e1 pen1 => ?_⟩
    refine ⟨3, rfl, by decide, by decide, for_range (lo := 0) (n := (3 : Int).toNat) (fun i σ' H' => ∃ u v w, σ' = [some (.ref a), some (.ref p), u, v, w] ∧ PenAt K (54 * i) H' p c) ⟨none, none, none, rfl, pen1⟩ ?_ ?_⟩
    · rintro i σ' H' hi ⟨u, v, w, rfl, pen⟩
      have hi3 : i < 3 := hi
      refine ⟨_, rfl, p, c, 54 * i, rfl, pen, by omega, fun x H2 hx off2 pen2 => one_arg ?_⟩
      refine ⟨_, rfl, p, c, 54 * i + 2, rfl, pen2, by omega, fun y H3 hy off3 pen3 => ⟨_, _, rfl, ?_⟩⟩
      have hx3 := hx H3 off3
      have hy3 := hy H3 (Off.refl p H3)
      refine ⟨_, rfl, _, rfl, x, y, rfl, hx3, hy3, fun H4 e4 => ⟨true, rfl, ?_⟩⟩
      refine ⟨_, rfl, _, rfl, x, y, rfl, hx H4 (off3.trans (Off.of e4)), hy H4 (Off.of e4), fun H5 e5 => ⟨true, rfl, ?_⟩⟩
      have pen5 := pen3.ex (e4.trans e5)
      refine ⟨_, rfl, p, c, 54 * i + 4, rfl, pen5, by omega, fun H6 off6 pen6 => ⟨true, rfl, ?_⟩⟩
      refine ⟨_, rfl, p, c, 54 * i + 16, rfl, pen6, by omega, fun H7 off7 pen7 => ⟨true, rfl, ?_⟩⟩
      refine ⟨_, rfl, p, c, 54 * i + 33, rfl, pen7, by omega, fun H8 off8 pen8 => ⟨true, rfl, ?_⟩⟩
      refine ⟨_, rfl, p, c, 54 * i + 45, rfl, pen8, by omega, fun H9 off9 pen9 => ⟨true, rfl, ?_⟩⟩
      exact ⟨_, _, _, rfl, pen9.mono (by omega)⟩
    · rintro σ' H' ⟨u, v, w, rfl, pen⟩
      exact k H'
end
end K00
open PySem PySem.W PySem.Calls PyProof.Rows
set_option maxRecDepth 100000 in
set_option maxHeartbeats 0 in
theorem PySem.Challenge.cw_mutesigns_k00_errors_and_checks_holds : PySem.Challenge.rw_mutesigns_k00_errors_and_checks.Holds := by
  w_on; o_law
  refine HandSHeadRun.head_any (r := OpenLaw.row PySem.Challenge.rw_mutesigns_k00_errors_and_checks) (q := view (OpenLaw.row PySem.Challenge.rw_mutesigns_k00_errors_and_checks).prog [64]) (H := K00.hk) (ob := K00.ob) (M := 9000) (loose := K00.looseAll) (d := HandSHeadRun.topDef (OpenLaw.row PySem.Challenge.rw_mutesigns_k00_errors_and_checks).prog 64) (kwd := []) K00.ob_eq
    (by kernel_rfl) (fun s => by kernel_rfl) K00.run (by kernel_rfl) (by kernel_rfl) (by kernel_rfl) (by rfl) (by first | assumption | decide +kernel) (by decide +kernel) ⟨rfl, rfl, rfl, rfl, rfl, by decide +kernel⟩ ?hw ?hc
  case hw => w_witness2
  case hc =>
    refine L2.walk_ofE (l := PySem.Challenge.rw_mutesigns_k00_errors_and_checks) (n := 63) (k := 5) (x := "_law_script") (CX := L2.CX0) rfl (by decide) (by kernel_rfl) ⟨rfl, by decide, by decide⟩ ?F (fun _ _ _ _ z => z)
    intro w mg fa h Y G hmg0
    obtain ⟨K, KX, c⟩ := Y
    have hmg : mg ("law" : PySem.Str) = some (.ref fa) := by
      have e : (HandSHeadRun.topDef (OpenLaw.row PySem.Challenge.rw_mutesigns_k00_errors_and_checks).prog 64).name = ("law" : PySem.Str) := by kernel_rfl
      rw [← e]
      exact hmg0
    have T := K00.tx_of KX G c
    have e := hmg.symm.trans T.g_law
    cases e
    exact ⟨K, He.fdOf K ("law", none), K00.sp_law K, KX, fun s v => T.f_law.bindsA (ps := ["_law_script"]) (fun _ _ _ _ _ _ us hl => match us, hl with | [_], _ => rfl) s [v] rfl, fun H a ns hl _ hS => ⟨a, ns, rfl, hS, hl, fun _ => rfl⟩, fun base _ _ => K00.ok_law T⟩

