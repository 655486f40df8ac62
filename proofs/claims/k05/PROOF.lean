import PyProof.Rows.All
import Wide.All
import OpenK.AllK
import Wide.FinOn
import KE.KStateDown
import HandS.ForExc
import HandS.More
import HandS.Defaults
import HandS.Head0
import KE.HD3
import HandS.Head1
import HandS.Head2
import HandS.HeadEnd
import HandS.HeadHook1
import HandS.HeadHook2
import HandS.HeadWalk
import HandS.HeadNt
import HandS.Property
import HandS.Gcd
import HandS.Wide
import HandS.MakeKw
import HandS.Comp
import HandS.Text
import HandS.FStr
import HandS.StrMore
import HandS.Flow
import HandS.IsInst
import HandS.EndBits
import HandS.RaiseMore
import HandS.SlotsOwn
import HandS.OwnEq
import HandS.ClsMeth
import HandS.CallRecv
import HandS.MakeKwOnly
import HandS.TupLe
import KE.KCallOwn
import KE.KOpsOwn
import HandS.ExcInit
import HandS.ExcField
import HandS.ExcOwn
import HandS.ExcIs
import HandS.TryMany
import KE.KExcIs
import KE.KExcInit
import HandS.ExcValue
import HandS.Codes
import KE.IntTextLaws
import PyProof.Rows.ReprOcc
import PyProof.Rows.SortStrRead
import HandS.NoneIn
import HandS.Dict
import PySem.Challenge.RW_delaynets_k05_errors_and_limits
set_option Elab.async false
set_option linter.all false
set_option maxRecDepth 100000
set_option maxHeartbeats 0
/-! A head's facts by names: every fact a test of the written part, every def by its own path. -/
namespace Hk
open PySem PySem.Spec PyProof.Rows L2
abbrev Fr := PySem.W.Frag
abbrev Tst := Fr → Bool
/-- a def of the text: the path to its function object, its text, its defaults -/
structure Dx where
  ad : Fr → Addr
  nm : Str
  ql : Str
  st : Stmt
  df : List He.Dv := []
abbrev Seen : Type := Option (Str × Str × Arguments × FuncBody × Scope × Addr × List (Str × Addr) × Addr)
def seenAt (K : Fr) (a : Addr) : Seen :=
  match K.lookup a with
  | some ⟨_, _, .func g, _⟩ => some (g.name, g.qualname, g.params, g.body, g.scope, g.globals, g.closure, g.builtins)
  | _ => none
def Dx.due (d : Dx) : Seen := some (d.nm, d.ql, defArgs d.st, .stmts (defBody d.st), defScope d.st, mainGlobals, [], builtinsNs)
def Dx.vs (K : Fr) (d : Dx) : List V := d.df.map (He.Dv.v K)
def Dx.okb (K : Fr) (d : Dx) : Bool :=
  PySem.W.keepIn K (.ref (d.ad K)) &&
    (match K.lookup (d.ad K) with
    | some ⟨_, _, .func g, _⟩ => PySem.W.codeIn K g.code d.ql && He.dflB K g.defaults (d.vs K)
    | _ => false)
/-- the def d stands at its address as fd -/
abbrev DAt (K : Fr) (d : Dx) (fd : FuncData) : Prop := FunD K d.nm d.ql (defArgs d.st) (defBody d.st) (defScope d.st) (d.vs K) [] (d.ad K) fd
theorem Dx.at_of {K : Fr} {d : Dx} (e : seenAt K (d.ad K) = d.due) (c : d.okb K = true) : ∃ fd, DAt K d fd := by
  obtain ⟨kp, c2⟩ := He.ba c
  unfold seenAt at e
  cases q : K.lookup (d.ad K) with
  | none =>
    rw [q] at c2
    exact nomatch c2
  | some ob =>
    obtain ⟨oc, od, dt, osl⟩ := ob
    rw [q] at c2 e
    cases dt with
    | func g =>
      obtain ⟨m1, m2, m3, m4, m5, m6, m7, m8, m9, m10, m11, m12, m13, m14, m15⟩ := g
      have e2 : (some (m1, m2, m3, m4, m5, m6, m7, m15) : Seen) = some (d.nm, d.ql, defArgs d.st, .stmts (defBody d.st), defScope d.st, mainGlobals, [], builtinsNs) := e
      simp only [Option.some.injEq, Prod.mk.injEq] at e2
      obtain ⟨u1, u2, u3, u4, u5, u6, u7, u8⟩ := e2
      subst u1 u2 u3 u4 u5 u6 u7 u8
      obtain ⟨v1, v2⟩ := He.ba (show (PySem.W.codeIn K m13 d.ql && He.dflB K m8 (d.vs K)) = true from c2)
      exact ⟨_, ⟨oc, od, m8, m9, m10, m11, m12, m13, m14, osl, rfl, q, v1, He.dflB_ok v2, .inl rfl⟩, kp⟩
    | _ => exact nomatch c2
abbrev Al2 : Type := Bool × List Seen
def look (fa : List Tst) (fn : List Dx) (K : Fr) : Al2 := ((fa.all fun f => f K) && fn.all fun d => d.okb K, fn.map fun d => seenAt K (d.ad K))
def due (fn : List Dx) : Al2 := (true, fn.map Dx.due)
def Says (fa : List Tst) (fn : List Dx) (K : Fr) : Prop := look fa fn K = due fn
def lookG (n : Nat) (fa : List Tst) (fn : List Dx) (g : Addr → Option Obj) : Al2 := look fa fn (He.frG g (cStatics :: He.asD g n))
def hook (n : Nat) (fa : List Tst) (fn : List Dx) : PySem.W.Hook where
  α := Al2
  obs := fun s => lookG n fa fn s.heap.get?
  val := fun _ => due fn
  says := fun _ h => ∃ K : Fr, K.In h ∧ Says fa fn K
  of := fun _ _ e => ⟨_, He.frG_in, e⟩
  keeps := fun _ _ _ ⟨K, hK, c⟩ k => ⟨K, PySem.W.Frag.In.keeps hK k, c⟩
theorem lookG_eq {n : Nat} {fa : List Tst} {fn : List Dx} {g : Addr → Option Obj} {s : Shared} (h : ∀ a, g a = s.heap.get? a) : lookG n fa fn g = (hook n fa fn).obs s := by
  have e : g = s.heap.get? := funext h
  subst e
  rfl
section
variable {fa : List Tst} {fn : List Dx} {K : Fr}
theorem Says.tst (c : Says fa fn K) (i : Nat) {f : Tst} (h : fa[i]? = some f := by rfl) : f K = true := by
  have c0 := congrArg Prod.fst c
  have c1 := (He.ba (show ((fa.all fun f => f K) && fn.all fun d => d.okb K) = true from c0)).1
  exact List.all_eq_true.mp c1 f (List.mem_of_getElem? h)
theorem Says.dat (c : Says fa fn K) (i : Nat) {d : Dx} (h : fn[i]? = some d := by rfl) : ∃ fd, DAt K d fd := by
  have c0 := congrArg Prod.fst c
  have c2 := (He.ba (show ((fa.all fun f => f K) && fn.all fun d => d.okb K) = true from c0)).2
  have e : (fn.map fun d => seenAt K (d.ad K)) = fn.map Dx.due := congrArg Prod.snd c
  have e2 : (fn.map fun d => seenAt K (d.ad K))[i]? = (fn.map Dx.due)[i]? := by rw [e]
  rw [List.getElem?_map, List.getElem?_map, h] at e2
  exact Dx.at_of (Option.some.inj e2) (List.all_eq_true.mp c2 d (List.mem_of_getElem? h))
end
/-! ### tests -/
def tGlo (x : Str) : Tst := (He.Fa.glo x).ok
def tFree (x : Str) : Tst := (He.Fa.free x).ok
def tInt (x : Str) (i : Int) : Tst := (He.Fa.int x i).ok
def tStr (x z : Str) : Tst := (He.Fa.str x z).ok
def tCls (x : Str) : Tst := (He.Fa.cls x).ok
def tNoat (x f : Str) : Tst := (He.Fa.noat x f).ok
def tMeth (x m : Str) : Tst := (He.Fa.meth x m).ok
def tMkr (x : Str) : Tst := (He.Fa.mkr x).ok
/-- the name is a built-in function (brought in from a module) -/
def tBlt (x : Str) (id : String) : Tst := fun K => He.eqO (PySem.W.nsIn K mainGlobals x) (some (some (.builtin id)))
/-- the getter of the property f of the class x -/
def getAd (x f : Str) (K : Fr) : Addr := match PySem.W.recIn K (He.ma K (He.ga K x) f) "property" with
  | some (.ref g :: _) => g
  | _ => 0
def tProp (x f : Str) : Tst := fun K =>
  He.eqO (PySem.W.findIn K (.ref (He.ga K x)) f) (some (some (.ref (He.ma K (He.ga K x) f)))) &&
  (He.eqO (PySem.W.specialIn K (.ref (He.ma K (He.ga K x) f)) "__get__") (some (some (.builtin "property.__get__"))) &&
  (decide (PySem.W.takesIn K (.ref (He.ma K (He.ga K x) f)) = some true) &&
  (match PySem.W.recIn K (He.ma K (He.ga K x) f) "property" with
  | some (.ref _ :: _) => true
  | _ => false)))
theorem prop_ok {K : Fr} {x f : Str} (c : tProp x f K = true) : PropOf K (He.ga K x) f (He.ma K (He.ga K x) f) (getAd x f K) := by
  obtain ⟨c1, c⟩ := He.ba c
  obtain ⟨c2, c⟩ := He.ba c
  obtain ⟨c3, c4⟩ := He.ba c
  refine ⟨He.eqO_ok c1, He.eqO_ok c2, of_decide_eq_true c3, ?_⟩
  unfold getAd
  cases e : PySem.W.recIn K (He.ma K (He.ga K x) f) "property" with
  | none =>
    rw [e] at c4
    exact nomatch c4
  | some l =>
    rw [e] at c4
    cases l with
    | nil => exact nomatch c4
    | cons v r =>
      cases v with
      | ref g => exact ⟨r, rfl⟩
      | _ => exact nomatch c4
theorem blt_ok {K : Fr} {h : Heap} {mg : Str → Option Value} (X : K.In h) (G : h.Ns mainGlobals mg) {x : Str} {id : String} (c : tBlt x id K = true) : mg x = some (.builtin id) := PySem.W.mg_of X G (He.eqO_ok c)
/-- where a global def stands; a class's method -/
def gAd (x : Str) (K : Fr) : Addr := He.ga K x
def mAd (x m : Str) (K : Fr) : Addr := He.ma K (He.ga K x) m
end Hk
namespace Hk
open PySem PySem.Spec PyProof.Rows L2
/-- the function inside the static method m of the class x -/
def statAd (x m : Str) (K : Fr) : Addr := He5.wf K (He.ga K x) "staticmethod" m
def tStat (x m : Str) : Tst := fun K => He5.wrapB K (He.ga K x) "staticmethod" "staticmethod.__get__" m &&
  (PySem.W.readsIn K (He.ga K x) (.type "type") && (He.eqO (PySem.W.specialIn K (.ref (He.ga K x)) "__getattribute__") (some (some (.builtin "type.__getattribute__"))) && PySem.W.keepIn K (.ref (statAd x m K))))
/-- == is the class's own, != object's -/
def tNe (x : Str) : Tst := fun K => He.eqO (PySem.W.findIn K (.ref (He.ga K x)) "__ne__") (some (some (.builtin "object.__ne__"))) && decide (PySem.W.subIn K (.ref (He.ga K x)) (.type "object") = some true)
/-- what isinstance asks of an instance of the class x -/
def tIns (x : Str) : Tst := fun K => He.eqO (PySem.W.findIn K (.ref (He.ga K x)) "__class__") (some (some (.builtin "object.__class__"))) &&
  (He.eqO (PySem.W.specialIn K (.builtin "object.__class__") "__get__") (some (some (.builtin "getset_descriptor.__get__"))) && (decide (PySem.W.takesIn K (.builtin "object.__class__") = some true) && decide (PySem.W.mroIn K (He.ga K x) (.type "object") = some true)))
/-- isinstance of the built-in type t against the class x; of the class y against x -/
def tKit (t : String) (x : Str) (b : Bool) : Tst := fun K => decide (PySem.W.kitOne K (.type t) (.ref (He.ga K x)) = some b)
def tKitO (y x : Str) (b : Bool) : Tst := fun K => decide (PySem.W.kitOne K (.ref (He.ga K y)) (.ref (He.ga K x)) = some b)
def tKitB (y : Str) (t : String) (b : Bool) : Tst := fun K => decide (PySem.W.kitOne K (.ref (He.ga K y)) (.type t) = some b)
/-- a comparison of an instance of x with a value of the type t begins with the instance -/
def tFst (x : Str) (t : String) : Tst := fun K => PySem.W.notFirst K (He.ga K x) (.type t)
def tFstO (x : Str) : Tst := fun K => PySem.W.notFirst K (He.ga K x) (.ref (He.ga K x))
theorem ins_ok {K : Fr} {x : Str} (c : tIns x K = true) {H : Hp} {a dx : Addr} {fs : List (Str × V)} (e : H a = some (.ins (He.ga K x) dx fs)) (cl : Cls K (He.ga K x)) : TyOf K H (.ref a) (.ref (He.ga K x)) := by
  obtain ⟨c1, c⟩ := He.ba c
  obtain ⟨c2, c⟩ := He.ba c
  obtain ⟨c3, c4⟩ := He.ba c
  exact .ins e cl (He.eqO_ok c1) (He.eqO_ok c2) (of_decide_eq_true c3) (of_decide_eq_true c4)
def clsMk (x : Str) : Tst := fun K => tCls x K && tMkr x K
end Hk
namespace Hk
open PySem PySem.Spec PyProof.Rows L2
section
variable {P : Program} {w : World} {K : Fr} {mg : Str → Option Value} {base : Heap}
/-- the global name x stands for a def at ad that keeps the promise sp (nothing is raised), at level k -/
def Cal (P : Program) (w : World) (K : Fr) (mg : Str → Option Value) (base : Heap) (k : Nat) (x : Str) (ad : Addr) (ps : List Str) (sp : Sp) : Prop :=
  ∃ fd : FuncData, FnOk P w K mg base CX0 k ad fd ps sp ∧ Binds K fd ps [] ∧ PySem.W.keepIn K (.ref ad) = true ∧ mg x = some (.ref ad)
theorem Cal.mono {j k : Nat} {x : Str} {ad : Addr} {ps : List Str} {sp : Sp} (c : Cal P w K mg base j x ad ps sp) (h : j ≤ k) : Cal P w K mg base k x ad ps sp := by
  obtain ⟨fd, F, r⟩ := c
  exact ⟨fd, F.mono h, r⟩
theorem Cal.imp {k : Nat} {x : Str} {ad : Addr} {ps : List Str} {sp sp' : Sp} (c : Cal P w K mg base k x ad ps sp) (h : ∀ vs H Q E, sp' vs H Q E → sp vs H Q E) : Cal P w K mg base k x ad ps sp' := by
  obtain ⟨fd, F, r⟩ := c
  exact ⟨fd, F.imp h, r⟩
theorem pe_c {X : Cx} {k : Nat} {x : Str} {ad : Addr} {ps : List Str} {sp : Sp} {e : Expr} {es : List Expr} {t : TA} {p pos : Pos} (c : Cal X.prog X.w X.K X.mg X.base k x ad ps sp) (hr : Room k X.A) (ha : PA X (e :: es) t) (hg : Gl X x := by rfl)
    (hdb : (x == ("__debug__" : Str)) = false := by decide) (he : starEach (e :: es) X.env = (false, eval e X.env) :: starEach es X.env := by rfl) (hpl : (backTo pos (starEach es X.env)).any (·.1) = false := by rfl) :
    PE X (.Call (.Name x p) (e :: es) [] pos) (tCall sp [] E0 t) := by
  obtain ⟨fd, F, b, kp, m⟩ := c
  exact pe_call F hr hg m kp b .nil pass0 ha hdb he hpl
/-- the body of a def: its reading -/
abbrev Body (P : Program) (w : World) (K : Fr) (mg : Str → Option Value) (base : Heap) (k : Nat) (d : Dx) (N ps : List Str) (sp : Sp) : Prop :=
  ∀ (cdv : Value) (A : Around) (outer : List Env) (s : Shared) (H : Hp) (vs : List V) (Q : VK) (E : XK), Room k (A.deeper (envOfC d.ql (defScope d.st) s.heap.objs.size (d.ad K) cdv)) → sp vs H Q E →
      ∃ t, PSs (cxOf CX0 P w K mg base N d.ql (defScope d.st) (d.ad K) cdv A outer s H E).nox (defBody d.st) t ∧ t { nx := fun _ H' => Q .non H', rt := Q } (start N vs) H
theorem ok_of {k : Nat} {d : Dx} {N ps : List Str} {sp : Sp} {fd : FuncData} (D : DAt K d fd) (S : FnScope N ps (defScope d.st)) (len : ∀ vs H Q E, sp vs H Q E → vs.length = ps.length) (hb : Body P w K mg base k d N ps sp) :
    FnOk P w K mg base CX0 (k + 1) (d.ad K) fd ps sp := by
  refine FunD.ok D S len fun cdv A outer s H vs Q E hr h => ?_
  obtain ⟨t, h1, h2⟩ := hb cdv A outer s H vs Q E hr h
  exact ⟨t, h1.nox, h2⟩
theorem cal_of {k : Nat} {d : Dx} {N ps : List Str} {sp : Sp} {x : Str} (D : ∃ fd, DAt K d fd) (hv : d.df = []) (S : FnScope N ps (defScope d.st)) (hm : mg x = some (.ref (d.ad K)))
    (hbi : ∀ (kV doc pm : Value) (an : Option Addr) (cdv ct : Value) (us : List Value), us.length = ps.length → bindArgs (PySem.W.fnOf d.nm d.ql (defArgs d.st) (defBody d.st) (defScope d.st) .none kV doc pm an cdv ct) ⟨us, []⟩ = pure (ps.zip us))
    (len : ∀ vs H Q E, sp vs H Q E → vs.length = ps.length) (hb : Body P w K mg base k d N ps sp) : Cal P w K mg base (k + 1) x (d.ad K) ps sp := by
  obtain ⟨fd, D⟩ := D
  have e : d.vs K = [] := by
    unfold Dx.vs
    rw [hv]
    rfl
  have D' : FunD K d.nm d.ql (defArgs d.st) (defBody d.st) (defScope d.st) [] [] (d.ad K) fd := by
    rw [← e]
    exact D
  exact ⟨fd, ok_of D S len hb, FunD.bindsN D' hbi, D.kp, hm⟩
end
end Hk
namespace Hk
open PySem PySem.Spec PyProof.Rows L2
theorem bo_int : bootBuiltins "int" = some (.type "int") := by decide +kernel
theorem bo_str : bootBuiltins "str" = some (.type "str") := by decide +kernel
theorem bo_len : bootBuiltins "len" = some (.builtin "len") := by decide +kernel
theorem bo_min : bootBuiltins "min" = some (.builtin "min") := by decide +kernel
theorem bo_max : bootBuiltins "max" = some (.builtin "max") := by decide +kernel
theorem bo_abs : bootBuiltins "abs" = some (.builtin "abs") := by decide +kernel
theorem bo_repr : bootBuiltins "repr" = some (.builtin "repr") := by decide +kernel
theorem bo_isinstance : bootBuiltins "isinstance" = some (.builtin "isinstance") := by decide +kernel
theorem bo_all : bootBuiltins "all" = some (.builtin "all") := by decide +kernel
theorem bo_any : bootBuiltins "any" = some (.builtin "any") := by decide +kernel
theorem bo_range : bootBuiltins "range" = some (.type "range") := by decide +kernel
theorem bo_bool : bootBuiltins "bool" = some (.type "bool") := by decide +kernel
end Hk

/-! Defs below which nothing is being shown (no repr runs around them): so repr of made data has its rule. -/
namespace Hk
open PySem PySem.Spec PyProof.Rows L2
abbrev Calm (A : Around) : Prop := A.guards = some []
/-- a def's promise where no repr runs around the call; nothing is raised -/
structure FnG (P : Program) (w : World) (K : Fr) (mg : Str → Option Value) (base : Heap) (k : Nat) (f : Addr) (fd : FuncData) (ps : List Str) (sp : Sp) : Prop where
  len : ∀ vs H Q E, sp vs H Q E → vs.length = ps.length
  run : ∀ (A : Around) (out : List Env) (s : Shared) (H : Hp) (args : Args) (us : List Value) (vs : List V) (Q : VK), Room k A → Calm A → Env0 P w K mg base A out s H → BindsTo s fd args (ps.zip us) → Vals vs us → sp vs H Q E0 →
    codeAny (model P w) A (.call (.ref f) args) (CR CX0 out P w H s Q E0) s
section
variable {P : Program} {w : World} {K : Fr} {mg : Str → Option Value} {base : Heap}
theorem FnG.mono {j k : Nat} {f : Addr} {fd : FuncData} {ps : List Str} {sp : Sp} (F : FnG P w K mg base j f fd ps sp) (h : j ≤ k) : FnG P w K mg base k f fd ps sp :=
  ⟨F.len, fun A out s H args us vs Q r => F.run A out s H args us vs Q (r.mono h)⟩
theorem FnG.of {k : Nat} {f : Addr} {fd : FuncData} {ps : List Str} {sp : Sp} (F : FnOk P w K mg base CX0 k f fd ps sp) : FnG P w K mg base k f fd ps sp :=
  ⟨F.len, fun A out s H args us vs Q r _ e b v h => F.run A out s H args us vs Q E0 r e b v h⟩
theorem FnG.imp {k : Nat} {f : Addr} {fd : FuncData} {ps : List Str} {sp sp' : Sp} (F : FnG P w K mg base k f fd ps sp) (h : ∀ vs H Q E, sp' vs H Q E → sp vs H Q E) : FnG P w K mg base k f fd ps sp' :=
  ⟨fun vs H Q E q => F.len vs H Q E (h _ _ _ _ q), fun A out s H args us vs Q r g e b v q => F.run A out s H args us vs Q r g e b v (h _ _ _ _ q)⟩
/-- such a def is called from a body -/
theorem call_g {X : Cx} {pins : List (Addr × Obj)} {σ : L2.St} {H : Hp} {s : Shared} {Q : VK} {us : List Value} {vs : List V} {k : Nat} {f : Addr} {fd : FuncData} {ps : List Str} {sp : Sp} (F : FnG X.prog X.w X.K X.mg X.base k f fd ps sp)
    (hr : Room k X.A) (hc : Calm X.A) (hb : Binds X.K fd ps []) (I : Inv X pins σ H s) (r : Vals vs us) (h : sp vs H Q E0) : wpAny (model X.prog X.w) X.A (call (.ref f) us) (EP X pins σ Q) X.xe s := by
  have ln : us.length = ps.length := r.length.symm.trans (F.len _ _ _ _ h)
  have bd : BindsTo s fd ⟨us, []⟩ (ps.zip us) := by
    have := hb s us I.kIn (by rw [List.append_nil]; exact ln)
    rwa [List.append_nil] at this
  refine wpAny_call (codeAny_mono (F.run X.A X.stack s H ⟨us, []⟩ us vs Q hr hc I.env0 bd r h) fun z s' hq => ?_)
  rcases z with e | fl
  · exact (show False from hq).elim
  · cases fl with
    | ret u => exact I.after hq
    | _ => exact (show False from hq).elim
/-- the global name x: a def at ad that keeps sp -/
def CalG (P : Program) (w : World) (K : Fr) (mg : Str → Option Value) (base : Heap) (k : Nat) (x : Str) (ad : Addr) (ps : List Str) (sp : Sp) : Prop :=
  ∃ fd : FuncData, FnG P w K mg base k ad fd ps sp ∧ Binds K fd ps [] ∧ PySem.W.keepIn K (.ref ad) = true ∧ mg x = some (.ref ad)
theorem Cal.g {k : Nat} {x : Str} {ad : Addr} {ps : List Str} {sp : Sp} (c : Cal P w K mg base k x ad ps sp) : CalG P w K mg base k x ad ps sp := by
  obtain ⟨fd, F, r⟩ := c
  exact ⟨fd, .of F, r⟩
theorem CalG.mono {j k : Nat} {x : Str} {ad : Addr} {ps : List Str} {sp : Sp} (c : CalG P w K mg base j x ad ps sp) (h : j ≤ k) : CalG P w K mg base k x ad ps sp := by
  obtain ⟨fd, F, r⟩ := c
  exact ⟨fd, F.mono h, r⟩
/-- its reading -/
def tG (sp : Sp) (t : TA) : TE := fun σ H Q => t σ H fun vs H1 => sp vs H1 Q E0
theorem pe_g {X : Cx} {k : Nat} {x : Str} {ad : Addr} {ps : List Str} {sp : Sp} {e : Expr} {es : List Expr} {t : TA} {p pos : Pos} (c : CalG X.prog X.w X.K X.mg X.base k x ad ps sp) (hr : Room k X.A) (hc : Calm X.A) (ha : PA X (e :: es) t) (hg : Gl X x := by rfl)
    (hdb : (x == ("__debug__" : Str)) = false := by decide) (he : starEach (e :: es) X.env = (false, eval e X.env) :: starEach es X.env := by rfl) (hpl : (backTo pos (starEach es X.env)).any (·.1) = false := by rfl) :
    PE X (.Call (.Name x p) (e :: es) [] pos) (tG sp t) := by
  obtain ⟨fd, F, b, kp, m⟩ := c
  refine ⟨fun pins s σ H Q I h => wpAny_Call_Name_kw (ld_glob I hg m ?_ hdb)⟩
  refine PySem.W.callWith_K (h₀ := X.base) I.ok.mod.kin kp (thn (ha.run pos pins s σ H _ I h) fun us s1 ⟨vs, H1, J, r, q⟩ => ⟨J.kIn, ?_⟩) he hpl
  exact call_g F hr hc b J r q
abbrev BodyG (P : Program) (w : World) (K : Fr) (mg : Str → Option Value) (base : Heap) (k : Nat) (d : Dx) (N ps : List Str) (sp : Sp) : Prop :=
  ∀ (cdv : Value) (A : Around) (outer : List Env) (s : Shared) (H : Hp) (vs : List V) (Q : VK) (E : XK), Room k (A.deeper (envOfC d.ql (defScope d.st) s.heap.objs.size (d.ad K) cdv)) → Calm A → sp vs H Q E →
      ∃ t, PSs (cxOf CX0 P w K mg base N d.ql (defScope d.st) (d.ad K) cdv A outer s H E).nox (defBody d.st) t ∧ t { nx := fun _ H' => Q .non H', rt := Q } (start N vs) H
/-- such a def, by its body -/
theorem okg_of {k : Nat} {d : Dx} {N ps : List Str} {sp : Sp} {fd : FuncData} (D : DAt K d fd) (S : FnScope N ps (defScope d.st)) (len : ∀ vs H Q E, sp vs H Q E → vs.length = ps.length) (hb : BodyG P w K mg base k d N ps sp) :
    FnG P w K mg base (k + 1) (d.ad K) fd ps sp := by
  obtain ⟨oc, od, dV, kV, doc, pm, an, cdv, ct, osl, rfl, lk, hcd, _, _⟩ := D.ex
  refine ⟨len, fun A out s H args us vs Q hr hc e0 hbd r hsp => ?_⟩
  have old : ∀ b o, base.get? b = some o → s.heap.get? b = some o := fun b o z => (e0.bs b o z).1
  have KX : K.In s.heap := e0.mod.kin.keeps old
  have kd : ∀ y ∈ ps.zip us, (defScope d.st).names.lookup y.1 = some .local ∨ ((defScope d.st).names.lookup y.1 = some .cell ∧ ((cellsFrom (s.heap.objs.size + 1) (defScope d.st).names []).lookup y.1).isSome = true) := by
    rintro ⟨n, v⟩ hy
    have q := S.par n (List.of_mem_zip hy).1
    exact q.imp id fun q => ⟨q, PySem.W.cellsFrom_some _ _ _ (.inl q)⟩
  refine codeAny_call_function hr.depth (KX _ _ lk) rfl S.co S.gen rfl (PySem.W.codeRec_of KX hcd) (hbd _ _ _ _ ?_)
  refine wpAny_newFunctionEnv_cells S.kind kd fun env he s1 x => ?_
  subst he
  refine ⟨(e0.mod.nolimit.keeps old).keeps x.toInCall.keep, codeAny_func ?_⟩
  obtain ⟨t, ht, hq⟩ := hb cdv A out s H vs Q E0 (hr.deeper _) hc hsp
  have I : Inv (cxOf CX0 P w K mg base N d.ql (defScope d.st) (d.ad K) cdv A out s H E0) [] (start N vs) H s1 := inv_start S hr.hd e0 (len _ _ _ _ hsp) r x
  refine wpAny_mono (ht.nox.run [] s1 (start N vs) H _ I hq) (fun fl s' hs => ?_) fun e s' hs => hs
  cases fl with
  | next =>
    obtain ⟨σ', H', J, q⟩ := hs
    exact ⟨V.non, H', J.os, J.bare, J.base, J.hok, rfl, q⟩
  | ret u =>
    obtain ⟨v, σ', H', J, rv, q⟩ := hs
    exact ⟨v, H', J.os, J.bare, J.base, J.hok, rv, q⟩
  | brk =>
    obtain ⟨σ', H', J, q⟩ := hs
    exact False.elim q
  | cont =>
    obtain ⟨σ', H', J, q⟩ := hs
    exact False.elim q
theorem calg_of {k : Nat} {d : Dx} {N ps : List Str} {sp : Sp} {x : Str} (D : ∃ fd, DAt K d fd) (hv : d.df = []) (S : FnScope N ps (defScope d.st)) (hm : mg x = some (.ref (d.ad K)))
    (hbi : ∀ (kV doc pm : Value) (an : Option Addr) (cdv ct : Value) (us : List Value), us.length = ps.length → bindArgs (PySem.W.fnOf d.nm d.ql (defArgs d.st) (defBody d.st) (defScope d.st) .none kV doc pm an cdv ct) ⟨us, []⟩ = pure (ps.zip us))
    (len : ∀ vs H Q E, sp vs H Q E → vs.length = ps.length) (hb : BodyG P w K mg base k d N ps sp) : CalG P w K mg base (k + 1) x (d.ad K) ps sp := by
  obtain ⟨fd, D⟩ := D
  have e : d.vs K = [] := by
    unfold Dx.vs
    rw [hv]
    rfl
  have D' : FunD K d.nm d.ql (defArgs d.st) (defBody d.st) (defScope d.st) [] [] (d.ad K) fd := by
    rw [← e]
    exact D
  exact ⟨fd, okg_of D S len hb, FunD.bindsN D' hbi, D.kp, hm⟩
/-- the law's own end: such a def is called with the script -/
theorem end_g {l : PySem.W.OpenLaw} {q : Program} {loose : List Str} {XP : (Str → Option Value) → Heap → Prop} {YP : World → Heap → Prop} {d : DefRec} {k : Nat} {x : Str} (hn : l.most = some 63) (hdf : d.params.defaults = []) (hr : Room k callerA)
    (F : ∀ (w : World) (mg : Str → Option Value) (fa : Addr) (h : Heap), YP w h → h.Ns mainGlobals mg → mg d.name = some (.ref fa) →
      ∃ (K : Fr) (fd : FuncData) (sp : Sp), K.In h ∧ (∀ (s : Shared) (u : Value), BindsTo s fd ⟨[u], []⟩ [(x, u)]) ∧
        (∀ (H : Hp) (a : Addr) (ns : List Int), ns.length ≤ 63 → (∀ n ∈ ns, Builtin.Int.intBits n ≤ 1048576) → SqL K H a (ns.map V.int) → sp [.ref a] H (fun v _ => v = .bl true) E0) ∧
        ∀ base : Heap, K.In base → base.Ns mainGlobals mg → FnG l.prog w K mg base k fa fd [x] sp) :
    PySem.W.WalkO q loose XP YP l.row.toRowW d [] (fun f vs => PySem.call f vs) := by
  refine Att.attach_callB hn hdf fun w s₀ s₁ mg mb fa o pm cd doc a vs ns G Y ho hd hcd hmg hobj hints hlen hbits hg => ?_
  obtain ⟨K, fd, sp, KX, hbi, hsp, hF⟩ := F w mg fa _ Y G.T.g hmg
  have rv := vals_ints hints
  have sz : vs.length ≤ sizeLine := by
    have := hints.length
    have e : 63 ≤ sizeLine := by decide
    omega
  have szn : (ns.map V.int).length ≤ sizeLine := by
    rw [rv.length]
    exact sz
  -- an abstract heap in which the script alone may be tracked
  obtain ⟨H, hO, hS, hok, hA, hK⟩ : ∃ H : Hp, Only H ∧ SqL K H a (ns.map V.int) ∧ HOk l.prog w H s₁.heap ∧ (∀ b, H b ≠ none → b = a) ∧ (H a ≠ none → K.lookup a = none) := by
    cases hk : K.lookup a with
    | some ob =>
      have e := KX a ob hk
      rw [hobj] at e
      cases e
      refine ⟨fun _ => none, fun _ => .inl rfl, .inr ⟨_, vs.toArray, _, hk, rfl, rfl, rfl, ?_, ?_⟩, fun b u z => (nomatch z), fun b z => absurd rfl z, fun z => absurd rfl z⟩
      · rw [List.size_toArray]
        exact sz
      · simpa using rv
    | none =>
      have at_ : ∀ {b : Addr} {u : HO}, (if b = a then some (HO.frz { cls := .type "list", data := .seq vs.toArray } (.lst (ns.map V.int))) else none) = some u → b = a ∧ u = HO.frz { cls := .type "list", data := .seq vs.toArray } (.lst (ns.map V.int)) := fun {b u} z => by
        by_cases hb : b = a
        · rw [if_pos hb] at z
          exact ⟨hb, (Option.some.inj z).symm⟩
        · rw [if_neg hb] at z
          exact nomatch z
      refine ⟨fun b => if b = a then some (.frz { cls := .type "list", data := .seq vs.toArray } (.lst (ns.map V.int))) else none, fun b => ?_, .inl (.inr ⟨_, if_pos rfl⟩), fun b u z => ?_, fun b z => ?_, fun _ => rfl⟩
      · by_cases hb : b = a
        · exact .inr ⟨_, _, if_pos hb⟩
        · exact .inl (if_neg hb)
      · obtain ⟨e1, e2⟩ := at_ z
        subst e1 e2
        exact ⟨hobj, szn, vs, _, rv, hobj⟩
      · by_cases hb : b = a
        · exact hb
        · exact absurd (if_neg hb) z
  have old : ∀ {b : Addr} {ob : Obj}, s₁.heap.get? b = some ob → H b = none → (hidT s₁.heap H).get? b = some ob := fun e n => hidT_get e n
  have only_a : ∀ b, b ≠ a → H b = none := fun b hb => by
    cases z : H b with
    | none => rfl
    | some u => exact absurd (hA b (by rw [z]; exact fun y => nomatch y)) hb
  have dict_out : ∀ {b : Addr} {ob : Obj} {es : Array DictEntry} {ep : Nat}, s₁.heap.get? b = some ob → ob.data = .dict es ep → H b = none := fun {b ob es ep} e dd => only_a b fun z => by
    subst z
    rw [hobj] at e
    cases e
    exact nomatch dd
  have ns_ : ∀ {b : Addr} {m : Str → Option Value}, s₁.heap.Ns b m → (hidT s₁.heap H).Ns b m := fun {b m} ⟨ob, es, ep, e, dd, r⟩ => ⟨ob, es, ep, old e (dict_out e dd), dd, r⟩
  have K_ : K.In (hidT s₁.heap H) := fun b ob e => old (KX b ob e) (by
    cases z : H b with
    | none => rfl
    | some u =>
      have eb := hA b (by rw [z]; exact fun y => nomatch y)
      subst eb
      have := hK (by rw [z]; exact fun y => nomatch y)
      rw [this] at e
      exact nomatch e)
  obtain ⟨mc, l1, l2⟩ := G.T.nolimit
  have e0 : Env0 l.prog w K mg (hidT s₁.heap H) callerA [] s₁ H :=
    { frames := rfl, mod := ⟨K_, ns_ G.T.g, ⟨mb, ns_ G.T.b, G.T.builtins⟩, ⟨mc, ns_ l1, l2⟩⟩, bs := fun b ob e => of_hidT e, bsz := Nat.le_of_eq (hidT_size _ _), funs := trivial, frf := fun b hb => absurd hb (List.not_mem_nil), hok := hok, bare := .of_eq hg }
  refine codeAny_mono ((hF _ K_ (ns_ G.T.g)).run callerA [] s₁ H ⟨[.ref a], []⟩ [.ref a] [.ref a] (fun v _ => v = .bl true) hr rfl e0 (hbi s₁ (.ref a)) (.cons rfl .nil) (hsp H a ns hlen hbits hS)) fun r s' h => ?_
  cases r with
  | error e => exact (show False from h).elim
  | ok fl =>
    cases fl with
    | ret u =>
      obtain ⟨v, H', os, bare, un, hok', r', ev⟩ := h
      have ev' : v = .bl true := ev
      subst ev'
      cases r'
      refine ⟨rfl, OldK.of_keep fun b ob e => ?_, os, bare⟩
      rcases hO b with z | ⟨o1, xs, z⟩
      · exact un.keep b ob e z (List.not_mem_nil) (List.not_mem_nil)
      · obtain ⟨e1, _⟩ := hok b _ z
        obtain ⟨e2, _⟩ := hok' b _ (un.frzs b o1 _ z)
        rw [e] at e1
        cases e1
        exact e2
    | _ => exact (show False from h).elim
end
end Hk

/-! repr of data; str, repr, == of own instances by their own methods; static methods. -/
namespace Hk
open PySem PySem.Spec PyProof.Rows L2
mutual
theorem Dp.noDict {K : Fr} {H : Hp} : ∀ (d : PyData) (v : V), Dp K H v d → d.hasDict = false
  | .none, _, _ => by simp [PyData.hasDict]
  | .bool _, _, _ => by simp [PyData.hasDict]
  | .int _, _, _ => by simp [PyData.hasDict]
  | .str _, _, _ => by simp [PyData.hasDict]
  | .list ds, _, h => by
    cases h with
    | lst _ ha =>
      simp only [PyData.hasDict]
      exact Dp.noDictAll ds _ ha
  | .tuple ds, _, h => by
    cases h with
    | tup _ ha =>
      simp only [PyData.hasDict]
      exact Dp.noDictAll ds _ ha
  | .dict _, _, h => by cases h
theorem Dp.noDictAll {K : Fr} {H : Hp} : ∀ (ds : List PyData) (vs : List V), DpAll K H vs ds → PyData.hasDictAll ds = false
  | [], _, _ => by simp [PyData.hasDictAll]
  | d :: ds, _, h => by
    cases h with
    | cons h1 h2 =>
      simp only [PyData.hasDictAll, Bool.or_eq_false_iff]
      exact ⟨Dp.noDict d _ h1, Dp.noDictAll ds _ h2⟩
end
/-- repr(x), x data: none, a truth, an int, a text, lists and tuples of such -/
def rRepr (K : Fr) : List V → Hp → VK → Prop := fun xs H Q => ∃ x d, xs = [x] ∧ Dp K H x d ∧ d.showable = true ∧ d.depth ≤ 60 ∧ d.shown.length ≤ sizeLine ∧ Q (.str d.shown) H
section
variable {X : Cx}
theorem call_reprD {k : Nat} (hc : Calm X.A) (hr : Room k X.A) : CallR X (.builtin "repr") (rRepr X.K) := by
  intro pins s σ H xs us Q I r h
  obtain ⟨x, d, rfl, hd, hs, hdp, hz, q⟩ := h
  obtain ⟨u, rfl, ru⟩ := r.one
  cases hd with
  | non =>
    cases ru
    rw [PyData.shown_none] at q
    exact PySem.P.repr_of_none ⟨.str _, H, I.tok _, ⟨_, rfl⟩, q⟩
  | bl b =>
    cases ru
    rw [PyData.shown_bool] at q
    refine PySem.P.repr_of_bool ⟨.str _, H, I.tok _, ⟨_, rfl⟩, ?_⟩
    cases b <;> exact q
  | int i =>
    obtain ⟨t, rfl⟩ := ru
    rw [PyData.shown_int] at q
    refine PySem.P.repr_of_int ?_ ⟨.str _, H, I.tok _, ⟨_, rfl⟩, q⟩
    simpa [PyData.showable] using hs
  | str y =>
    obtain ⟨t, rfl⟩ := ru
    rw [PyData.shown_str] at q hz
    exact PySem.P.repr_of_str ⟨.str _, H, I.tok _, ⟨_, rfl⟩, q⟩ hz
  | @lst a ys ds h1 h2 =>
    have e : u = Value.ref a := ru
    subst e
    have nd := Dp.noDict _ _ (Dp.lst h1 h2)
    obtain ⟨as, hr'⟩ := Dp.reads I (.list ds) _ _ (Dp.lst h1 h2) rfl
    refine PySem.repr_of_reads' hr' hs (fun z => by rw [nd] at z; exact nomatch z) hc ?_ (fun b o z => z) (fun h' u tk kp => ⟨.str _, H, I.kept kp, ⟨_, rfl⟩, q⟩) hz
    have := hr.units
    omega
  | @tup a ys ds h1 h2 =>
    have e : u = Value.ref a := ru
    subst e
    have nd := Dp.noDict _ _ (Dp.tup h1 h2)
    obtain ⟨as, hr'⟩ := Dp.reads I (.tuple ds) _ _ (Dp.tup h1 h2) rfl
    refine PySem.repr_of_reads' hr' hs (fun z => by rw [nd] at z; exact nomatch z) hc ?_ (fun b o z => z) (fun h' u tk kp => ⟨.str _, H, I.kept kp, ⟨_, rfl⟩, q⟩) hz
    have := hr.units
    omega
/-! ### own methods that the interpreter calls -/
theorem own_run {A' : Around} {pins : List (Addr × Obj)} {σ : L2.St} {H : Hp} {s : Shared} {Q : VK} {E' : Value → Shared → Prop} {us : List Value} {vs : List V} {k : Nat} {f : Addr} {fd : FuncData} {ps : List Str} {sp : Sp} (F : FnOk X.prog X.w X.K X.mg X.base CX0 k f fd ps sp)
    (hr : Room k A') (e0 : Env0 X.prog X.w X.K X.mg X.base A' X.stack s H) (hb : Binds X.K fd ps []) (I : Inv X pins σ H s) (r : Vals vs us) (h : sp vs H Q E0) : wpAny (model X.prog X.w) A' (call (.ref f) us) (EP X pins σ Q) E' s := by
  have ln : us.length = ps.length := r.length.symm.trans (F.len _ _ _ _ h)
  have bd : BindsTo s fd ⟨us, []⟩ (ps.zip us) := by
    have := hb s us I.kIn (by rw [List.append_nil]; exact ln)
    rwa [List.append_nil] at this
  refine wpAny_call (codeAny_mono (F.run A' X.stack s H ⟨us, []⟩ us vs Q E0 hr e0 bd r h) fun z s' hq => ?_)
  rcases z with e | fl
  · exact (show False from hq).elim
  · cases fl with
    | ret u => exact I.after hq
    | _ => exact (show False from hq).elim
/-- the class at C has its own def at f for the name m -/
structure Own (K : Fr) (C : Addr) (m : Str) (f : Addr) : Prop where
  at_ : PySem.W.findIn K (.ref C) m = some (some (.ref f))
  fn : PySem.W.isFn K (.ref f) = true
def rText (C : Addr) (sp : Sp) : List V → Hp → VK → Prop := fun xs H Q => ∃ a dx fs, xs = [.ref a] ∧ H a = some (.ins C dx fs) ∧ sp [.ref a] H (fun z H' => ∃ y, z = .str y ∧ Q z H') E0
section
variable {k : Nat} {C f : Addr} {fd : FuncData} {ps : List Str} {sp : Sp}
theorem call_strO (O : Own X.K C "__str__" f) (F : FnOk X.prog X.w X.K X.mg X.base CX0 k f fd ps sp) (hb : Binds X.K fd ps []) (hr : Room (k + 2) X.A) : CallR X (.type "str") (rText C sp) := by
  intro pins s σ H xs us Q I r h
  obtain ⟨a, dx, fs, rfl, ha, q⟩ := h
  obtain ⟨u, rfl, ru⟩ := r.one
  cases (show u = Value.ref a from ru)
  obtain ⟨mA, M, _⟩ := ins_get I.hok ha
  obtain ⟨od, J, _⟩ := M.look
  have r2 : Room k X.A.in1.in1 := (show Room (k + 1) X.A.in1 from Room.in1 hr).in1
  refine PySem.W.kso_call r2.units0 I.kIn J O.at_ O.fn (wpAny_mono (own_run (vs := [.ref a]) F r2 I.env0.in1.in1 hb I (.cons rfl .nil) q) (fun v s' z => ?_) fun _ _ z => z)
  obtain ⟨z', H', I', rz, y, ey, qz⟩ := z
  subst ey
  obtain ⟨t, e⟩ := (show ∃ t, v = Value.str y t from rz)
  cases e
  exact ⟨.str y, H', I', ⟨t, rfl⟩, qz⟩
theorem call_reprO (O : Own X.K C "__repr__" f) (F : FnOk X.prog X.w X.K X.mg X.base CX0 k f fd ps sp) (hb : Binds X.K fd ps []) (hr : Room (k + 1) X.A) : CallR X (.builtin "repr") (rText C sp) := by
  intro pins s σ H xs us Q I r h
  obtain ⟨a, dx, fs, rfl, ha, q⟩ := h
  obtain ⟨u, rfl, ru⟩ := r.one
  cases (show u = Value.ref a from ru)
  obtain ⟨mA, M, _⟩ := ins_get I.hok ha
  obtain ⟨od, J, _⟩ := M.look
  have r2 : Room k X.A.in1 := Room.in1 hr
  obtain ⟨m, hF⟩ := I.fr
  refine PySem.W.repr_K r2.units0 hF I.ok.mod.kin J O.at_ O.fn (wpAny_mono (own_run (vs := [.ref a]) F r2 I.env0.in1 hb I (.cons rfl .nil) q) (fun v s' z => ?_) fun _ _ z => z)
  obtain ⟨z', H', I', rz, y, ey, qz⟩ := z
  subst ey
  obtain ⟨t, e⟩ := (show ∃ t, v = Value.str y t from rz)
  cases e
  exact ⟨.str y, H', I', ⟨t, rfl⟩, qz⟩
/-- the type of what is compared -/
inductive TyL (K : Fr) (H : Hp) : V → Value → Prop where
  | non : TyL K H .non (.type "NoneType")
  | bl (b : Bool) : TyL K H (.bl b) (.type "bool")
  | int (i : Int) : TyL K H (.int i) (.type "int")
  | str (y : Str) : TyL K H (.str y) (.type "str")
  | lst {a : Addr} {xs : List V} (h : H a = some (.lst xs)) : TyL K H (.ref a) (.type "list")
  | tup {a : Addr} {xs : List V} (h : H a = some (.tup xs)) : TyL K H (.ref a) (.type "tuple")
  | ins {a C dx : Addr} {fs : List (Str × V)} (h : H a = some (.ins C dx fs)) : TyL K H (.ref a) (.ref C)
theorem typeOf_obj {M : Model} {h : Heap} {a : Addr} {o : Obj} {t : Value} (e : h.get? a = some o) (c : o.cls = t) : PySem.W.Looks M h (typeOf (.ref a)) t := by
  intro A Q E s kp q
  refine wpAny_typeOf_ref (kp _ _ e) ?_
  rw [c]
  exact q
theorem TyL.looks {pins : List (Addr × Obj)} {σ : L2.St} {H : Hp} {s : Shared} {y : V} {u t : Value} {M : Model} (I : Inv X pins σ H s) (ry : RelV y u) (ty : TyL X.K H y t) : PySem.W.Looks M s.heap (typeOf u) t := by
  cases ty with
  | non => cases ry; exact PySem.W.Looks.of_pure rfl
  | bl b => cases ry; exact PySem.W.Looks.of_pure rfl
  | int i =>
    obtain ⟨t, rfl⟩ := ry
    exact PySem.W.Looks.of_pure rfl
  | str z =>
    obtain ⟨t, rfl⟩ := ry
    exact PySem.W.Looks.of_pure rfl
  | @lst a xs h =>
    cases (show u = Value.ref a from ry)
    obtain ⟨_, its, n, _, e⟩ := (show ObjOk X.prog X.w H s.heap a (.lst xs) from I.hok a _ h)
    exact typeOf_obj e rfl
  | @tup a xs h =>
    cases (show u = Value.ref a from ry)
    obtain ⟨_, its, _, o, e, c, _⟩ := (show ObjOk X.prog X.w H s.heap a (.tup xs) from I.hok a _ h)
    exact typeOf_obj e c
  | @ins a C dx fs h =>
    cases (show u = Value.ref a from ry)
    obtain ⟨mA, M, _⟩ := ins_get I.hok h
    obtain ⟨od, J, _⟩ := M.look
    exact J.type
def rEqO (K : Fr) (C : Addr) (sp : Sp) : R2 := fun x y H Q => ∃ a dx fs t, x = .ref a ∧ H a = some (.ins C dx fs) ∧ TyL K H y t ∧ PySem.W.notFirst K C t = true ∧ sp [x, y] H (fun z H' => ∃ b, z = .bl b ∧ Q z H') E0
theorem op_eqO (O : Own X.K C "__eq__" f) (F : FnOk X.prog X.w X.K X.mg X.base CX0 k f fd ps sp) (hb : Binds X.K fd ps []) (hr : Room k X.A) : OpR X (compareOp .Eq) (rEqO X.K C sp) := by
  intro pins s σ H x y v u Q I rx ry h
  obtain ⟨a, dx, fs, t, rfl, ha, ty, hn, q⟩ := h
  cases (show v = Value.ref a from rx)
  obtain ⟨mA, M, _⟩ := ins_get I.hok ha
  obtain ⟨od, J, _⟩ := M.look
  obtain ⟨m, hF⟩ := I.fr
  show wpAny _ _ (richCompare .Eq (.ref a) u) _ _ _
  refine PySem.W.cmp_K (op := .Eq) hr.units0 hF I.ok.mod.kin J (ty.looks I ry) hn O.at_ O.fn (wpAny_mono (own_run (vs := [.ref a, y]) F hr I.env0 hb I (.cons rfl (.cons ry .nil)) q) (fun w s' z => ?_) fun _ _ z => z)
  obtain ⟨z', H', I', rz, b, eb, qz⟩ := z
  subst eb
  cases rz
  exact ⟨.bl b, H', I', rfl, qz⟩
end
end
end Hk
namespace Hk
open PySem PySem.Spec PyProof.Rows L2
/-! ### != where the class has == alone -/
section
variable {prog : Program} {w : World} {A : Around} {E : Value → Shared → Prop} {s : Shared} {K : Fr} {x C f : Addr} {ox : Obj} {od : Option Obj}
theorem ne_dflt {b tb : Value} {Q : Value → Shared → Prop} (hu : A.units + 2 < cLine) (Y : K.In s.heap) (I : PySem.W.InstAt s.heap x ox C od) (hb : PySem.W.Looks (model prog w) s.heap (typeOf b) tb) (hn : PySem.W.notFirst K C tb = true)
    (hne : PySem.W.findIn K (.ref C) "__ne__" = some (some (.builtin "object.__ne__"))) (he : PySem.W.findIn K (.ref C) "__eq__" = some (some (.ref f))) (hf : PySem.W.isFn K (.ref f) = true) (hob : PySem.W.subIn K (.ref C) (.type "object") = some true)
    (h : wpAny (model prog w) A.in1 (call (.ref f) [.ref x, b]) (fun v s' => ∃ r, v = .bool r ∧ Q (.bool (!r)) s') E s) : wpAny (model prog w) A (richCompare .NotEq (.ref x) b) Q E s := by
  have slot := PySem.F.slot_object_ne
  have body : wpAny (model prog w) A.in1 (Builtin.«object.__ne__» ⟨[.ref x, b], []⟩) (fun fin s' => ∃ v, fin = .done (.ret v) ∧ v ≠ .notImplemented ∧ Q v s') E s := by
    unfold Builtin.«object.__ne__»
    repeat (first
      | with_reducible refine wpAny_cRoomFor (show A.units + 1 < cLine by omega) ?_
      | (refine wpAny_bind (m := callSpecialIfBound? (.ref x) (Str.ofString "__eq__") [b]) (PySem.W.ifBound_K Y I he hf (wpAny_mono h (fun r s' hr => ?_) fun _ _ e => e))
         obtain ⟨b, rfl, hq⟩ := hr)
      | exact ⟨_, rfl, (fun z => nomatch z), hq⟩
      | (refine wpAny_bind (m := truthy (.bool _)) (wpAny_truthy_bool ?_))
      | wp_step)
  have called : wpAny (model prog w) A (call (.builtin "object.__ne__") [.ref x, b]) (fun v s' => v ≠ .notImplemented ∧ Q v s') E s := by
    refine wpAny_call (codeAny_call_builtin slot.plain PySem.F.cmpEntry_ne (PySem.W.check_slot PySem.F.cmpKind_ne PySem.F.cmpSplit_ne (I.type.andThen (PySem.W.looks_subIn Y hob)) (PySem.F.cmpArgs_ne _ _) ?_))
    exact wpAny_mono body (fun fin s' hv => by obtain ⟨v, rfl, q⟩ := hv; exact q) fun _ _ z => z
  have one : wpAny (model prog w) A (tryCompare (.ref x) (cmpInfo .NotEq).2.1 b) (fun r s' => ∃ v, r = some v ∧ Q v s') E s := by
    unfold tryCompare
    refine wpAny_bind ?_
    simp only [callSpecialIfBound?, bindSpecialIfBound?]
    refine wpAny_holding (wpAny_bind (wpAny_bind (wpAny_bind (I.type.here ((PySem.W.looks_findIn Y hne).here ?_)))))
    simp only [slot.bind]
    refine wpAny_bind (wpAny_askSetting (wpAny_ite ?_))
    split
    · refine wpAny_bind (wpAny_pure (wpAny_pure ?_))
      refine wpAny_bind (wpAny_mono called (fun v s' hv => wpAny_pure ?_) fun _ _ z => z)
      obtain ⟨h1, h2⟩ := hv
      cases v <;> first | exact absurd rfl h1 | exact wpAny_pure ⟨_, rfl, h2⟩
    · refine wpAny_tryCatch (wpAny_bind (wpAny_pure (wpAny_pure ?_)))
      refine wpAny_bind (wpAny_mono called (fun v s' hv => wpAny_pure ?_) fun _ _ z => z)
      obtain ⟨h1, h2⟩ := hv
      cases v <;> first | exact absurd rfl h1 | exact wpAny_pure ⟨_, rfl, h2⟩
  unfold richCompare
  simp only [oneThing_ref]
  refine wpAny_holding (wpAny_bind (wpAny_cRoomFor (by omega) ?_))
  refine wpAny_bind (I.type.here (wpAny_bind (hb.here ?_)))
  have nosub : ((Value.ref C != tb) = true) → PySem.W.subIn K tb (.ref C) = some false := fun q => by
    rcases Bool.or_eq_true_iff.mp hn with e | e
    · rw [beq_iff_eq.mp e] at q
      simp at q
    · exact beq_iff_eq.mp e
  split
  · rename_i q
    refine wpAny_bind ((PySem.W.looks_subIn Y (nosub q)).here ?_)
    simp only [Bool.false_eq_true, if_false]
    refine wpAny_bind (wpAny_mono one (fun r s' z => ?_) fun _ _ e => e)
    obtain ⟨v, rfl, hv⟩ := z
    exact wpAny_pure hv
  · refine wpAny_bind (wpAny_pure ?_)
    simp only [Bool.false_eq_true, if_false]
    refine wpAny_bind (wpAny_mono one (fun r s' z => ?_) fun _ _ e => e)
    obtain ⟨v, rfl, hv⟩ := z
    exact wpAny_pure hv
end
section
variable {X : Cx} {k : Nat} {C f : Addr} {fd : FuncData} {ps : List Str} {sp : Sp}
/-- the class has its own ==, and != of object -/
structure NeOf (K : Fr) (C : Addr) : Prop where
  ne : PySem.W.findIn K (.ref C) "__ne__" = some (some (.builtin "object.__ne__"))
  ob : PySem.W.subIn K (.ref C) (.type "object") = some true
def rNeO (K : Fr) (C : Addr) (sp : Sp) : R2 := fun x y H Q => ∃ a dx fs t, x = .ref a ∧ H a = some (.ins C dx fs) ∧ TyL K H y t ∧ PySem.W.notFirst K C t = true ∧ sp [x, y] H (fun z H' => ∃ b, z = .bl b ∧ Q (.bl (!b)) H') E0
theorem op_neO (O : Own X.K C "__eq__" f) (N : NeOf X.K C) (F : FnOk X.prog X.w X.K X.mg X.base CX0 k f fd ps sp) (hb : Binds X.K fd ps []) (hr : Room (k + 1) X.A) : OpR X (compareOp .NotEq) (rNeO X.K C sp) := by
  intro pins s σ H x y v u Q I rx ry h
  obtain ⟨a, dx, fs, t, rfl, ha, ty, hn, q⟩ := h
  cases (show v = Value.ref a from rx)
  obtain ⟨mA, M, _⟩ := ins_get I.hok ha
  obtain ⟨od, J, _⟩ := M.look
  have r2 : Room k X.A.in1 := Room.in1 hr
  show wpAny _ _ (richCompare .NotEq (.ref a) u) _ _ _
  refine ne_dflt (by have := hr.units; omega) I.kIn J (ty.looks I ry) hn N.ne O.at_ O.fn N.ob (wpAny_mono (own_run (vs := [.ref a, y]) F r2 I.env0.in1 hb I (.cons rfl (.cons ry .nil)) q) (fun w s' z => ?_) fun _ _ z => z)
  obtain ⟨z', H', I', rz, b, eb, qz⟩ := z
  subst eb
  cases rz
  exact ⟨b, rfl, .bl (!b), H', I', rfl, qz⟩
end
/-! ### a static method, called off its class by one keyword or more -/
structure Stat (K : Fr) (C : Addr) (mc : Value) (m : Str) (p g : Addr) : Prop where
  rd : ClX.CRead K C mc
  at_ : PySem.W.findCls K (.ref C) mc m = some (.get (.builtin "staticmethod.__get__") (.ref p) .none (.ref C))
  rc : ∃ rest, PySem.W.recIn K p "staticmethod" = some (.ref g :: rest)
  kp : PySem.W.keepIn K (.ref g) = true
def tStatK (C : Addr) (sp : Sp) (ta : TE) (tk : TA) : TE := fun σ H Q => ta σ H fun x H1 => x = .ref C ∧ tk σ H1 fun vs H2 => sp vs H2 Q E0
section
variable {X : Cx} {k : Nat} {C p g : Addr} {mc : Value} {m : Str} {fd : FuncData} {ps : List Str} {sp : Sp} {o : Expr} {kws : List Keyword} {ta : TE} {tk : TA} {pos apos : Pos} {pl : Sem Bool}
theorem pe_statK (he : PE X o ta) (S : Stat X.K C mc m p g) (F : FnOk X.prog X.w X.K X.mg X.base CX0 k g fd ps sp) (hr : Room k X.A)
    (hbk : ∀ (s : Shared) (ws : List Value), X.K.In s.heap → ws.length = ps.length → BindsTo s fd ⟨[], ps.zip ws⟩ (ps.zip ws)) (hk : PK X kws tk)
    (hall : (backToKw pos (keywordEach kws X.env)).all (·.1.isSome) = true := by rfl) (hks : (backToKw pos (keywordEach kws X.env)).filterMap (·.1) = ps := by rfl)
    (hpl : ((backTo pos (starEach [] X.env)).any (·.1) || (backToKw pos (keywordEach kws X.env)).any (·.1.isNone)) = false := by rfl)
    (ht : eval (.Call (.Attribute o m apos) [] kws pos) X.env = (do
      let ov ← eval o X.env
      standAt apos.atName
      let (f, first) ← holding [ov] (getMethod ov m pl)
      callWith pos f first (backTo pos (starEach [] X.env)) (backToKw pos (keywordEach kws X.env))) := by rfl) :
    PE X (.Call (.Attribute o m apos) [] kws pos) (tStatK C sp ta tk) := by
  refine ⟨fun pins s σ H Q I h => PySem.W.methodCall_KW (pl := pl) (thn (he.run pins s σ H _ I h) fun u s1 hu => ?_) ht⟩
  obtain ⟨x, H1, I1, rx, ex, q⟩ := hu
  subst ex
  obtain rfl : u = Value.ref C := rx
  obtain ⟨rest, hp⟩ := S.rc
  refine PySem.W.method_cls I1.kIn S.rd.ga (PySem.W.cls_bind I1.kIn S.rd.rd S.at_ (wpAny_call (PySem.W.sm_get (s := { s1 with toks := s1.toks + 1 }) I1.kIn hp (PySem.W.handed_on rfl ?_))))
  refine PySem.W.callWith_KW0 (h₀ := X.base) I1.ok.mod.kin S.kp hall (thn (hk.run pos pins _ σ H1 _ (I1.tok _) q) fun ws s2 hw => ?_) hpl
  obtain ⟨vs, H2, I2, rv, q2⟩ := hw
  have ln : ws.length = ps.length := rv.length.symm.trans (F.len _ _ _ _ q2)
  refine ⟨I2.kIn, ?_⟩
  rw [hks]
  refine wpAny_call (codeAny_mono (F.run X.A X.stack s2 H2 ⟨[], ps.zip ws⟩ ws vs Q E0 hr I2.env0 (hbk s2 ws I2.kIn ln) rv q2) fun z s' hq => ?_)
  rcases z with e | fl
  · exact (show False from hq).elim
  · cases fl with
    | ret u => exact I2.after hq
    | _ => exact (show False from hq).elim
end
end Hk
namespace Hk
open PySem PySem.Spec PyProof.Rows L2
theorem ne_ok {K : Fr} {x : Str} (c : tNe x K = true) : NeOf K (He.ga K x) := by
  obtain ⟨c1, c2⟩ := He.ba c
  exact ⟨He.eqO_ok c1, of_decide_eq_true c2⟩
theorem own_ok {K : Fr} {x m : Str} (c : tMeth x m K = true) : Own K (He.ga K x) m (mAd x m K) := by
  have h := He.meth_ok c
  exact ⟨h.at_, h.fn⟩
theorem stat_ok {K : Fr} {x m : Str} (c : tStat x m K = true) : Stat K (He.ga K x) (.type "type") m (He.ma K (He.ga K x) m) (statAd x m K) := by
  obtain ⟨c1, c⟩ := He.ba c
  obtain ⟨c2, c⟩ := He.ba c
  obtain ⟨c3, c4⟩ := He.ba c
  obtain ⟨h1, h2⟩ := He5.wrapB_ok c1
  exact ⟨⟨c2, He.eqO_ok c3⟩, h1, h2, c4⟩
end Hk

/-! Operators of an own class: with its own, with an int on either side; neg, abs; += without an own one. -/
namespace Hk
open PySem PySem.Spec PyProof.Rows L2
section
variable {prog : Program} {w : World} {A : Around} {E : Value → Shared → Prop} {s : Shared} {K : Fr} {x C f g : Addr} {ox : Obj} {od : Option Obj}
/-- an int's own operator declines an instance -/
def Declines (id : String) : Prop := ∀ (prog : Program) (w : World) (A : Around) (E : Value → Shared → Prop) (s : Shared) (i : Int) (t : Tok) (x C dx : Addr) (Q : Value → Shared → Prop), s.heap.get? x = some (PySem.W.instObj C dx) → Q .notImplemented s →
  wpAny (model prog w) A (call (.builtin id) [.int i t, .ref x]) Q E s
theorem decl_add : Declines "int.__add__" := by
  intro prog w A E s i t x C dx Q ho q
  refine wpAny_call (codeAny_call_builtin F.slot_int_add.plain F.entry_int_add (F.slot_int_add.check _ _ _ _ _ _ _ _ (typeIs_int s i t) (F.args_int_add_2 _ _) ?_))
  unfold Builtin.«int.__add__» Builtin.Int.intBinary
  refine wpAny_bind (m := slotArgs "__add__" 1 _) (wpAny_pure ?_)
  refine wpAny_bind (m := Builtin.Int.intOfSelf _) (wpAny_pure ?_)
  refine wpAny_bind (m := asInt? _) (wpAny_bind (wpAny_load ho (wpAny_pure ?_)))
  refine wpAny_bind (wpAny_rule (wpAny_pure ?_))
  exact q
theorem decl_sub : Declines "int.__sub__" := by
  intro prog w A E s i t x C dx Q ho q
  refine wpAny_call (codeAny_call_builtin F.slot_int_sub.plain F.entry_int_sub (F.slot_int_sub.check _ _ _ _ _ _ _ _ (typeIs_int s i t) (F.args_int_sub_2 _ _) ?_))
  unfold Builtin.«int.__sub__» Builtin.Int.intBinary
  refine wpAny_bind (m := slotArgs "__sub__" 1 _) (wpAny_pure ?_)
  refine wpAny_bind (m := Builtin.Int.intOfSelf _) (wpAny_pure ?_)
  refine wpAny_bind (m := asInt? _) (wpAny_bind (wpAny_load ho (wpAny_pure ?_)))
  refine wpAny_bind (wpAny_rule (wpAny_pure ?_))
  exact q
theorem decl_mul : Declines "int.__mul__" := by
  intro prog w A E s i t x C dx Q ho q
  refine wpAny_call (codeAny_call_builtin F.slot_int_mul.plain F.entry_int_mul (F.slot_int_mul.check _ _ _ _ _ _ _ _ (typeIs_int s i t) (F.args_int_mul_2 _ _) ?_))
  unfold Builtin.«int.__mul__» Builtin.Int.intBinary
  refine wpAny_bind (m := slotArgs "__mul__" 1 _) (wpAny_pure ?_)
  refine wpAny_bind (m := Builtin.Int.intOfSelf _) (wpAny_pure ?_)
  refine wpAny_bind (m := asInt? _) (wpAny_bind (wpAny_load ho (wpAny_pure ?_)))
  refine wpAny_bind (wpAny_rule (wpAny_pure ?_))
  exact q
/-- int op instance: the class's reflected operator -/
theorem rbin_own {op : Operator} {id : String} {i : Int} {t : Tok} {dx : Addr} {Q : Value → Shared → Prop} (Y : K.In s.heap) (I : PySem.W.InstAt s.heap x (PySem.W.instObj C dx) C od) (hc : PySem.W.selfFirst K C = true)
    (fT : fillsNumberSlot (.type "int") op.info.2 = pure true) (slot : Slot "int" (PySem.dunder op.info.2) id) (dec : Declines id) (hs : PySem.W.findIn K (.ref C) (PySem.dunder op.info.2) = some (some (.ref f)))
    (hsub : PySem.W.subIn K (.ref C) (.type "int") = some false) (hr : PySem.W.findIn K (.ref C) (dunderR op.info.2) = some (some (.ref g))) (hg : PySem.W.isFn K (.ref g) = true)
    (h : wpAny (model prog w) A (call (.ref g) [.ref x, .int i t]) (PySem.W.CmpBack Q) E s) : wpAny (model prog w) A (binaryOp op (.int i t) (.ref x)) Q E s := by
  obtain ⟨cd, rest, hcd, hm⟩ := PySem.W.ksp_first hc
  rcases hi : op.info with ⟨sym, nm⟩
  rw [hi] at fT slot hs hr
  dsimp only at fT slot hs hr
  simp only [binaryOp, hi]
  refine wpAny_holding ?_
  simp only [binaryOp1]
  refine wpAny_bind (wpAny_bind (wpAny_typeOf (typeIs_int s i t) ?_))
  refine wpAny_bind (I.type.here (wpAny_bind (wpAny_of_eq fT ?_)))
  have hne : (Value.type "int" == Value.ref C) = false := Bool.eq_false_iff.mpr fun q => nomatch beq_iff_eq.mp q
  simp only [hne, Bool.false_eq_true, if_false]
  refine wpAny_bind ((PySem.W.fills_K Y hcd hm hs).here ?_)
  simp only [Bool.and_self, if_true]
  refine wpAny_bind ((PySem.W.looks_subIn Y hsub).here ?_)
  have hpy : numberSlotInPython (.type "int") nm = pure false := rfl
  simp only [Bool.false_eq_true, if_false, pure_bind, Bool.not_false, Bool.and_self, if_true, hpy]
  refine wpAny_bind (wpAny_tryMethod_declines (typeIs_int s i t) slot (dec _ _ _ _ _ _ _ _ _ _ _ I.at_ ⟨rfl, ?_⟩))
  refine wpAny_bind ?_
  unfold tryMethod
  refine wpAny_bind (PySem.W.special_fn Y I hr (beq_iff_eq.mp hg) (wpAny_mono h (fun v s' hv => ?_) fun _ _ e => e))
  cases v <;> first | exact hv.elim | exact wpAny_pure (wpAny_bind (wpAny_rule (wpAny_pure (wpAny_pure hv))))
/-- the class names no operator in place -/
theorem noInplace {M : Model} {h : Heap} {nm : String} {cd : ClassData} {add : Bool} (Y : K.In h) (hc : PySem.W.clsIn K C = some cd) (hm : cd.mro = [.ref C, .type "object"]) (h1 : PySem.W.findIn K (.ref C) (dunderI nm) = some none)
    (h2 : PySem.W.findIn K (.type "object") (dunderI nm) = some none) : PySem.W.Looks M h (fillsInplaceSlot (.ref C) nm add) false := by
  intro A' Q E' s' k q
  have Lm := ((PySem.W.looks_clsIn (M := M) Y hc).andThen (f := fun cd => pure cd.mro) .now).keeps k
  obtain ⟨hh, gg, d, tt, os⟩ := s'
  have Y' : K.In hh := Y.keeps k
  have L1 : PySem.W.Looks M hh (typeLookup (.ref C) (dunderI nm)) none := PySem.W.looks_findIn Y' h1
  have L2 : PySem.W.Looks M hh (typeLookup (.type "object") (dunderI nm)) none := PySem.W.looks_findIn Y' h2
  unfold fillsInplaceSlot
  refine wpAny_bind (Lm.at ?_)
  rw [hm, List.anyM_cons, List.anyM_cons, List.anyM_nil]
  refine wpAny_bind (wpAny_bind (L1.at (wpAny_pure ?_)))
  refine wpAny_bind (wpAny_bind (L2.at (wpAny_pure ?_)))
  exact wpAny_pure q
/-- what the class must have for an operator, with its own and with ints -/
structure BinF (K : Fr) (C : Addr) (nm : String) (f : Addr) : Prop where
  self : PySem.W.selfFirst K C = true
  at_ : PySem.W.findIn K (.ref C) (PySem.dunder nm) = some (some (.ref f))
  fn : PySem.W.isFn K (.ref f) = true
  rr : ∃ rc, PySem.W.findIn K (.ref C) (dunderR nm) = some rc ∧ (rc = none ∨ ∃ g : Addr, rc = some (.ref g))
  i1 : ∃ fo, PySem.W.findIn K (.type "int") (PySem.dunder nm) = some fo
  i2 : ∃ ro, PySem.W.findIn K (.type "int") (dunderR nm) = some ro
  sub : PySem.W.subIn K (.type "int") (.ref C) = some false
/-- the operator's first part: with its own, with an int -/
theorem bin1_own {nm : String} {b : Value} {Q : Value → Shared → Prop} (Y : K.In s.heap) (I : PySem.W.InstAt s.heap x ox C od) (B : BinF K C nm f) (hb : PySem.W.Looks (model prog w) s.heap (typeOf b) (.ref C))
    (h : wpAny (model prog w) A (call (.ref f) [.ref x, b]) (PySem.W.CmpBack Q) E s) : wpAny (model prog w) A (binaryOp1 nm (.ref x) b) (fun r s' => ∃ v, r = some v ∧ Q v s') E s := by
  obtain ⟨cd, rest, hcd, hm⟩ := PySem.W.ksp_first B.self
  unfold binaryOp1
  refine wpAny_bind (I.type.here (wpAny_bind (hb.here (wpAny_bind ((PySem.W.fills_K Y hcd hm B.at_).here ?_)))))
  simp only [beq_self_eq_true, if_true]
  refine wpAny_bind (wpAny_pure ?_)
  simp only [Bool.and_false, Bool.false_eq_true, if_false, Bool.false_and]
  refine wpAny_bind (wpAny_pure ?_)
  simp only [Bool.false_eq_true, if_false]
  refine wpAny_bind (wpAny_mono (PySem.W.ksp_try Y I B.at_ B.fn h) (fun r s' hr => ?_) fun _ _ e => e)
  obtain ⟨v, rfl, hq⟩ := hr
  exact wpAny_pure ⟨v, rfl, hq⟩
theorem bin1_int {nm : String} {i : Int} {t : Tok} {Q : Value → Shared → Prop} (Y : K.In s.heap) (I : PySem.W.InstAt s.heap x ox C od) (B : BinF K C nm f)
    (h : wpAny (model prog w) A (call (.ref f) [.ref x, .int i t]) (PySem.W.CmpBack Q) E s) : wpAny (model prog w) A (binaryOp1 nm (.ref x) (.int i t)) (fun r s' => ∃ v, r = some v ∧ Q v s') E s := by
  obtain ⟨cd, rest, hcd, hm⟩ := PySem.W.ksp_first B.self
  have one := PySem.W.ksp_try Y I B.at_ B.fn h
  obtain ⟨rc, hr, hp⟩ := B.rr
  obtain ⟨fo, h1⟩ := B.i1
  obtain ⟨ro, h2⟩ := B.i2
  obtain ⟨hh, gg, d, tt, os⟩ := s
  have L1 : PySem.W.Looks (model prog w) hh (typeOf (.ref x)) (.ref C) := I.type
  have L2 : PySem.W.Looks (model prog w) hh (typeOf (.int i t)) (.type "int") := PySem.W.Looks.of_pure rfl
  have L3 : PySem.W.Looks (model prog w) hh (fillsNumberSlot (.ref C) nm) true := PySem.W.fills_K Y hcd hm B.at_
  have L4 : PySem.W.Looks (model prog w) hh (fillsNumberSlot (.type "int") nm) ((fo.isSome && !isSeqSlot fo) || (ro.isSome && !isSeqSlot ro)) := PySem.W.ksp_fillsT Y h1 h2
  have L5 : PySem.W.Looks (model prog w) hh (isSubtype (.type "int") (.ref C)) false := PySem.W.looks_subIn Y B.sub
  have L6 : PySem.W.Looks (model prog w) hh (numberSlotInPython (.ref C) nm) true := PySem.W.ksp_inPy Y B.at_ hr hp
  have L7 : PySem.W.Looks (model prog w) hh (numberSlotInPython (.type "int") nm) false := PySem.W.Looks.of_pure rfl
  have L8 : PySem.W.Looks (model prog w) hh (typeLookup (.type "int") (dunderR nm)) ro := PySem.W.looks_findIn Y h2
  generalize ((fo.isSome && !isSeqSlot fo) || (ro.isSome && !isSeqSlot ro)) = right at L4
  have hne : (Value.ref C == Value.type "int") = false := Bool.eq_false_iff.mpr fun q => nomatch beq_iff_eq.mp q
  unfold binaryOp1
  refine wpAny_bind (L1.at (wpAny_bind (L2.at (wpAny_bind (L3.at ?_)))))
  simp only [hne, Bool.false_eq_true, if_false]
  cases right with
  | false =>
    ksp_lk
    refine wpAny_mono one (fun r s' hr' => ?_) fun _ _ e => e
    obtain ⟨v, rfl, hq⟩ := hr'
    ksp_lk
    exact ⟨v, rfl, hq⟩
  | true =>
    ksp_lk
    refine wpAny_mono one (fun r s' hr' => ?_) fun _ _ e => e
    obtain ⟨v, rfl, hq⟩ := hr'
    ksp_lk
    exact ⟨v, rfl, hq⟩
theorem bin_of1 {op : Operator} {a b : Value} {Q : Value → Shared → Prop} (h : wpAny (model prog w) A (binaryOp1 op.info.2 a b) (fun r s' => ∃ v, r = some v ∧ Q v s') E s) : wpAny (model prog w) A (binaryOp op a b) Q E s := by
  rcases hi : op.info with ⟨sym, nm⟩
  rw [hi] at h
  simp only [binaryOp, hi]
  refine wpAny_holding (wpAny_bind (wpAny_mono h (fun r s' hr => ?_) fun _ _ e => e))
  obtain ⟨v, rfl, hq⟩ := hr
  exact wpAny_pure hq
/-- op= by the plain operator -/
theorem ip_of1 {op : Operator} {cd : ClassData} {b : Value} {Q : Value → Shared → Prop} (Y : K.In s.heap) (I : PySem.W.InstAt s.heap x ox C od) (hc : PySem.W.clsIn K C = some cd) (hm : cd.mro = [.ref C, .type "object"])
    (h1 : PySem.W.findIn K (.ref C) (dunderI op.info.2) = some none) (h2 : PySem.W.findIn K (.type "object") (dunderI op.info.2) = some none)
    (h : wpAny (model prog w) A (binaryOp1 op.info.2 (.ref x) b) (fun r s' => ∃ v, r = some v ∧ Q v s') E s) : wpAny (model prog w) A (inplaceOp op (.ref x) b) Q E s := by
  unfold inplaceOp
  refine wpAny_holding (wpAny_bind (I.type.here (wpAny_bind ((noInplace Y hc hm h1 h2).here ?_))))
  simp only [Bool.false_eq_true, if_false]
  refine wpAny_bind (wpAny_mono h (fun r s' hr => ?_) fun _ _ e => e)
  obtain ⟨v, rfl, hq⟩ := hr
  exact wpAny_pure hq
end
end Hk
namespace Hk
open PySem PySem.Spec PyProof.Rows L2
theorem backC {Q : Value → Shared → Prop} {z : V} {u : Value} {s' : Shared} (r : RelV z u) (h : Q u s') : PySem.W.CmpBack Q u s' := by
  cases z with
  | non => cases r; exact h
  | bl b => cases r; exact h
  | int i => obtain ⟨t, rfl⟩ := r; exact h
  | str y => obtain ⟨t, rfl⟩ := r; exact h
  | byt y => obtain ⟨t, rfl⟩ := r; exact h
  | flt y => obtain ⟨t, rfl⟩ := r; exact h
  | ref a => cases r; exact h
  | ty n => cases r; exact h
/-- x op y: x of the class at C, y another or an int: the def's promise -/
def rBinO (C : Addr) (sp : Sp) : R2 := fun x y H Q => ∃ a dx fs, x = .ref a ∧ H a = some (.ins C dx fs) ∧ ((∃ i, y = .int i) ∨ ∃ b dy gs, y = .ref b ∧ H b = some (.ins C dy gs)) ∧ sp [x, y] H Q E0
/-- i op y, i an int -/
def rRbinO (C : Addr) (sp : Sp) : R2 := fun x y H Q => ∃ i b dy gs, x = .int i ∧ y = .ref b ∧ H b = some (.ins C dy gs) ∧ sp [y, x] H Q E0
def rUnO (C : Addr) (sp : Sp) : V → Hp → VK → Prop := fun x H Q => ∃ a dx fs, x = .ref a ∧ H a = some (.ins C dx fs) ∧ sp [x] H Q E0
/-- the class's mro is itself and object, it names no op= -/
structure NoIp (K : Fr) (C : Addr) (nm : String) : Prop where
  mro : ∃ cd, PySem.W.clsIn K C = some cd ∧ cd.mro = [.ref C, .type "object"]
  no : PySem.W.findIn K (.ref C) (dunderI nm) = some none
  noO : PySem.W.findIn K (.type "object") (dunderI nm) = some none
/-- the reflected one -/
structure RbinF (K : Fr) (C : Addr) (nm : String) (g : Addr) : Prop where
  at_ : PySem.W.findIn K (.ref C) (dunderR nm) = some (some (.ref g))
  fn : PySem.W.isFn K (.ref g) = true
  sub : PySem.W.subIn K (.ref C) (.type "int") = some false
section
variable {X : Cx} {k : Nat} {C f g : Addr} {fd : FuncData} {ps : List Str} {sp : Sp} {op : Operator}
theorem bin1_run {pins : List (Addr × Obj)} {s : Shared} {σ : L2.St} {H : Hp} {x y : V} {v u : Value} {Q : VK} (B : BinF X.K C op.info.2 f) (F : FnOk X.prog X.w X.K X.mg X.base CX0 k f fd ps sp) (hb : Binds X.K fd ps []) (hr : Room k X.A)
    (I : Inv X pins σ H s) (rx : RelV x v) (ry : RelV y u) (h : rBinO C sp x y H Q) :
    wpAny (model X.prog X.w) X.A (binaryOp1 op.info.2 v u) (fun r s' => ∃ w, r = some w ∧ EP X pins σ Q w s') X.xe s := by
  obtain ⟨a, dx, fs, rfl, ha, hy, q⟩ := h
  cases (show v = Value.ref a from rx)
  obtain ⟨mA, M, _⟩ := ins_get I.hok ha
  obtain ⟨od, J, _⟩ := M.look
  have run : wpAny (model X.prog X.w) X.A (call (.ref f) [.ref a, u]) (PySem.W.CmpBack (EP X pins σ Q)) X.xe s :=
    wpAny_mono (own_run (vs := [.ref a, y]) F hr I.env0 hb I (.cons rfl (.cons ry .nil)) q) (fun w s' z => by
      obtain ⟨z', H', I', rz, qz⟩ := id z
      exact backC rz z) fun _ _ z => z
  rcases hy with ⟨i, rfl⟩ | ⟨b, dy, gs, rfl, hb2⟩
  · obtain ⟨t, rfl⟩ := (show ∃ t, u = Value.int i t from ry)
    exact bin1_int I.kIn J B run
  · exact bin1_own I.kIn J B (TyL.looks I ry (.ins hb2)) run
theorem op_binO (B : BinF X.K C op.info.2 f) (F : FnOk X.prog X.w X.K X.mg X.base CX0 k f fd ps sp) (hb : Binds X.K fd ps []) (hr : Room k X.A) : OpR X (binaryOp op) (rBinO C sp) :=
  fun pins s σ H x y v u Q I rx ry h => bin_of1 (bin1_run B F hb hr I rx ry h)
theorem ip_binO (B : BinF X.K C op.info.2 f) (N : NoIp X.K C op.info.2) (F : FnOk X.prog X.w X.K X.mg X.base CX0 k f fd ps sp) (hb : Binds X.K fd ps []) (hr : Room k X.A) : PIp X op (rBinO C sp) := by
  intro pins s σ H x y v u Q I rx ry h
  obtain ⟨a, dx, fs, ex, ha, _⟩ := id h
  subst ex
  obtain ⟨mA, M, _⟩ := ins_get I.hok ha
  obtain ⟨od, J, _⟩ := M.look
  obtain ⟨cd, m1, m2⟩ := N.mro
  have e : v = Value.ref a := rx
  subst e
  exact ip_of1 I.kIn J m1 m2 N.no N.noO (bin1_run B F hb hr I rx ry h)
theorem op_rbinO {bi : String} (B : BinF X.K C op.info.2 f) (R : RbinF X.K C op.info.2 g) (fT : fillsNumberSlot (.type "int") op.info.2 = pure true) (slot : Slot "int" (PySem.dunder op.info.2) bi) (dec : Declines bi)
    (F : FnOk X.prog X.w X.K X.mg X.base CX0 k g fd ps sp) (hb : Binds X.K fd ps []) (hr : Room k X.A) : OpR X (binaryOp op) (rRbinO C sp) := by
  intro pins s σ H x y v u Q I rx ry h
  obtain ⟨i, b, dy, gs, rfl, rfl, ha, q⟩ := h
  obtain ⟨t, rfl⟩ := (show ∃ t, v = Value.int i t from rx)
  cases (show u = Value.ref b from ry)
  obtain ⟨mA, M, _⟩ := ins_get I.hok ha
  obtain ⟨od, J, _⟩ := M.look
  exact rbin_own I.kIn J B.self fT slot dec B.at_ R.sub R.at_ R.fn (wpAny_mono (own_run (vs := [.ref b, .int i]) F hr I.env0 hb I (.cons rfl (.cons rx .nil)) q) (fun w s' z => by
      obtain ⟨z', H', I', rz, qz⟩ := id z
      exact backC rz z) fun _ _ z => z)
theorem op_negO (O : Own X.K C "__neg__" f) (F : FnOk X.prog X.w X.K X.mg X.base CX0 k f fd ps sp) (hb : Binds X.K fd ps []) (hr : Room k X.A) : UnR X (unaryOp .USub) (rUnO C sp) := by
  intro pins s σ H x v Q I rx h
  obtain ⟨a, dx, fs, rfl, ha, q⟩ := h
  cases (show v = Value.ref a from rx)
  obtain ⟨mA, M, _⟩ := ins_get I.hok ha
  obtain ⟨od, J, _⟩ := M.look
  obtain ⟨m, hF⟩ := I.fr
  exact PySem.W.ksp_neg hF I.ok.mod.kin J O.at_ O.fn (own_run (vs := [.ref a]) F hr I.env0 hb I (.cons rfl .nil) q)
theorem call_absO (O : Own X.K C "__abs__" f) (F : FnOk X.prog X.w X.K X.mg X.base CX0 k f fd ps sp) (hb : Binds X.K fd ps []) (hr : Room (k + 1) X.A) : CallR X (.builtin "abs") (fun xs H Q => ∃ x, xs = [x] ∧ rUnO C sp x H Q) := by
  intro pins s σ H xs us Q I r h
  obtain ⟨x, rfl, a, dx, fs, rfl, ha, q⟩ := h
  obtain ⟨u, rfl, ru⟩ := r.one
  cases (show u = Value.ref a from ru)
  obtain ⟨mA, M, _⟩ := ins_get I.hok ha
  obtain ⟨od, J, _⟩ := M.look
  have r2 : Room k X.A.in1 := Room.in1 hr
  refine Calls.call_function_entry kind_abs plain_abs entry_abs (args_abs _) ?_
  unfold Builtin.«abs»
  refine wpAny_bind (m := oneArg "abs" _) (wpAny_pure ?_)
  refine wpAny_bind (m := callSpecial? (.ref a) (Str.ofString "__abs__")) (PySem.W.special_fn I.kIn J O.at_ (beq_iff_eq.mp O.fn) (wpAny_mono (own_run (vs := [.ref a]) F r2 I.env0.in1 hb I (.cons rfl .nil) q) (fun v s' z => ?_) fun _ _ z => z))
  exact wpAny_pure ⟨_, rfl, z⟩
end
/-! ### their facts -/
def tBin (x : Str) (nm : String) : Tst := fun K => PySem.W.selfFirst K (He.ga K x) && (tMeth x (PySem.dunder nm) K && ((match PySem.W.findIn K (.ref (He.ga K x)) (dunderR nm) with
    | some none => true
    | some (some (.ref _)) => true
    | _ => false) && ((PySem.W.findIn K (.type "int") (PySem.dunder nm)).isSome && ((PySem.W.findIn K (.type "int") (dunderR nm)).isSome && decide (PySem.W.subIn K (.type "int") (.ref (He.ga K x)) = some false)))))
def tRbin (x : Str) (nm : String) : Tst := fun K => tMeth x (dunderR nm) K && decide (PySem.W.subIn K (.ref (He.ga K x)) (.type "int") = some false)
def tNoIp (x : Str) (nm : String) : Tst := fun K => (match PySem.W.clsIn K (He.ga K x) with
    | some cd => decide (cd.mro = [.ref (He.ga K x), .type "object"])
    | none => false) && (He.eqO (PySem.W.findIn K (.ref (He.ga K x)) (dunderI nm)) (some none) && He.eqO (PySem.W.findIn K (.type "object") (dunderI nm)) (some none))
theorem bin_ok {K : Fr} {x : Str} {nm : String} (c : tBin x nm K = true) : BinF K (He.ga K x) nm (mAd x (PySem.dunder nm) K) := by
  obtain ⟨c1, c⟩ := He.ba c
  obtain ⟨c2, c⟩ := He.ba c
  obtain ⟨c3, c⟩ := He.ba c
  obtain ⟨c4, c⟩ := He.ba c
  obtain ⟨c5, c6⟩ := He.ba c
  have m := He.meth_ok c2
  refine ⟨c1, m.at_, m.fn, ?_, Option.isSome_iff_exists.mp c4, Option.isSome_iff_exists.mp c5, of_decide_eq_true c6⟩
  cases e : PySem.W.findIn K (.ref (He.ga K x)) (dunderR nm) with
  | none =>
    rw [e] at c3
    exact nomatch c3
  | some o =>
    rw [e] at c3
    cases o with
    | none => exact ⟨none, rfl, .inl rfl⟩
    | some v =>
      cases v with
      | ref g => exact ⟨_, rfl, .inr ⟨g, rfl⟩⟩
      | _ => exact nomatch c3
theorem rbin_ok {K : Fr} {x : Str} {nm : String} (c : tRbin x nm K = true) : RbinF K (He.ga K x) nm (mAd x (dunderR nm) K) := by
  obtain ⟨c1, c2⟩ := He.ba c
  have m := He.meth_ok c1
  exact ⟨m.at_, m.fn, of_decide_eq_true c2⟩
theorem noip_ok {K : Fr} {x : Str} {nm : String} (c : tNoIp x nm K = true) : NoIp K (He.ga K x) nm := by
  obtain ⟨c1, c⟩ := He.ba c
  obtain ⟨c2, c3⟩ := He.ba c
  refine ⟨?_, He.eqO_ok c2, He.eqO_ok c3⟩
  cases e : PySem.W.clsIn K (He.ga K x) with
  | none =>
    rw [e] at c1
    exact nomatch c1
  | some cd =>
    rw [e] at c1
    exact ⟨cd, rfl, of_decide_eq_true c1⟩
end Hk

/-! A method called by one keyword or more. -/
namespace Hk
open PySem PySem.Spec PyProof.Rows L2
def tMethK (C : Addr) (m : Str) (sp : Sp) (ta : TE) (tk : TA) : TE := fun σ H Q => ta σ H fun x H1 => ∃ a dx fs, x = .ref a ∧ H1 a = some (.ins C dx fs) ∧ fs.lookup m = none ∧ tk σ H1 fun vs H2 => sp (x :: vs) H2 Q E0
section
variable {X : Cx} {k : Nat} {C p f : Addr} {m : Str} {fd : FuncData} {p1 : Str} {ps : List Str} {sp : Sp} {o : Expr} {kws : List Keyword} {ta : TE} {tk : TA} {pos apos : Pos} {pl : Sem Bool}
theorem pe_methK (he : PE X o ta) (c : Cls X.K C) (hm : Meth X.K C m f) (F : FnOk X.prog X.w X.K X.mg X.base CX0 k f fd (p1 :: ps) sp) (hr : Room k X.A)
    (hbk : ∀ (s : Shared) (v : Value) (ws : List Value), X.K.In s.heap → ws.length = ps.length → BindsTo s fd ⟨[v], ps.zip ws⟩ ((p1 :: ps).zip (v :: ws))) (hk : PK X kws tk)
    (hall : (backToKw pos (keywordEach kws X.env)).all (·.1.isSome) = true := by rfl) (hks : (backToKw pos (keywordEach kws X.env)).filterMap (·.1) = ps := by rfl)
    (hpl : ((backTo pos (starEach [] X.env)).any (·.1) || (backToKw pos (keywordEach kws X.env)).any (·.1.isNone)) = false := by rfl)
    (ht : eval (.Call (.Attribute o m apos) [] kws pos) X.env = (do
      let ov ← eval o X.env
      standAt apos.atName
      let (f, first) ← holding [ov] (getMethod ov m pl)
      callWith pos f first (backTo pos (starEach [] X.env)) (backToKw pos (keywordEach kws X.env))) := by rfl) :
    PE X (.Call (.Attribute o m apos) [] kws pos) (tMethK C m sp ta tk) := by
  refine ⟨fun pins s σ H Q I h => PySem.W.methodCall_KW (pl := pl) (thn (he.run pins s σ H _ I h) fun u s1 hu => ?_) ht⟩
  obtain ⟨x, H1, I1, rx, a, dx, fs, ex, ea, l, q⟩ := hu
  subst ex
  obtain rfl : u = Value.ref a := rx
  refine getmeth_ok I1 ea c hm l ?_
  refine PySem.W.callWith_KW0 (first := [.ref a]) (h₀ := X.base) I.ok.mod.kin hm.kp hall (thn (hk.run pos pins s1 σ H1 _ I1 q) fun ws s2 hw => ?_) hpl
  obtain ⟨vs, H2, I2, rv, q2⟩ := hw
  have rv2 : Vals (.ref a :: vs) (.ref a :: ws) := .cons rfl rv
  have ln : ws.length = ps.length := by
    have h1 := rv2.length
    have h2 := F.len _ _ _ _ q2
    simp only [List.length_cons] at h1 h2
    omega
  refine ⟨I2.kIn, ?_⟩
  rw [hks]
  refine wpAny_call (codeAny_mono (F.run X.A X.stack s2 H2 ⟨[.ref a], ps.zip ws⟩ (.ref a :: ws) (.ref a :: vs) Q E0 hr I2.env0 (hbk s2 _ ws I2.kIn ln) rv2 q2) fun z s' hq => ?_)
  rcases z with e | fl
  · exact (show False from hq).elim
  · cases fl with
    | ret u => exact I2.after hq
    | _ => exact (show False from hq).elim
end
end Hk

/-! Exceptions of own classes: tests of the written part, defs that raise, what a suite asks of what it caught. -/
namespace Hk
open PySem PySem.Spec PyProof.Rows L2
/-! ### tests -/
def oexB (K : Fr) (C : Addr) : Bool := (match K.lookup C with
  | some ⟨.type "type", _, .cls cd, sl⟩ => (match cd.mro, sl.toList with
    | .ref C' :: bm, [_, _, _, _, some (.builtin n), _] => C' == C && (n == "ValueError.__new__" && (!cd.hasDel && (cd.hasDict && PySem.HandSPX.refsVE bm)))
    | _, _ => false)
  | _ => false) && (He.eqO (PySem.W.findIn K (.ref C) "__setattr__") (some (some (.builtin "object.__setattr__"))) && (decide (PySem.W.subIn K (.ref C) (.type "BaseException") = some true) && (decide (PySem.W.typeIn K (.ref C) = some (.type "type")) && PySem.W.keepIn K (.ref C))))
theorem oexB_ok {K : Fr} {C : Addr} (q : oexB K C = true) : OexC K C := by
  obtain ⟨q, c⟩ := He.ba q
  obtain ⟨c1, c⟩ := He.ba c
  obtain ⟨c2, c⟩ := He.ba c
  obtain ⟨c3, c4⟩ := He.ba c
  refine ⟨?_, He.eqO_ok c1, of_decide_eq_true c2, of_decide_eq_true c3, c4⟩
  split at q
  · rename_i dd cd sl ho
    split at q
    · rename_i C' bm k0 k1 k2 k3 n k5 hm hs
      simp only [Bool.and_eq_true, beq_iff_eq, Bool.not_eq_true'] at q
      obtain ⟨rfl, rfl, hdel, hdct, hv⟩ := q
      obtain ⟨nm, bs, mro, ns, qn, hd, sn, sub, ab, col, del⟩ := cd
      dsimp only at hm hdel hdct
      subst hm hdel hdct
      have hsl : sl = #[k0, k1, k2, k3, some (.builtin "ValueError.__new__"), k5] := by
        obtain ⟨l⟩ := sl
        simp only at hs
        rw [hs]
      subst hsl
      exact ⟨nm, qn, ns, bs, bm, sn, sub, ab, col, dd, k0, k1, k2, k3, k5, ho, hv⟩
    · cases q
  · cases q
def tOex (x : Str) : Tst := fun K => oexB K (He.ga K x)
def tXfc (x : Str) : Tst := fun K => xfB K (He.ga K x)
def tNof (x f : Str) : Tst := fun K => He.eqO (PySem.W.findIn K (.ref (He.ga K x)) f) (some none)
/-- its own __init__ stands at the address of the method -/
def tInit (x : Str) : Tst := fun K => tMeth x "__init__" K && decide (PySem.W.typeIn K (.ref (mAd x "__init__" K)) = some (.type "function"))
def excB (K : Fr) (D : Addr) : Bool := He.eqO (PySem.W.findIn K (.ref D) "__getattribute__") (some (some (.builtin "BaseException.__getattribute__"))) && (He.eqO (PySem.W.findIn K (.ref D) "__getattr__") (some none) && (decide (PySem.W.subIn K (.ref D) (.type "BaseException") = some true) && (PySem.W.hasDictIn K D &&
  (He.eqO (PySem.W.findIn K (.ref D) "__class__") (some (some (.builtin "object.__class__"))) && (He.eqO (PySem.W.specialIn K (.builtin "object.__class__") "__get__") (some (some (.builtin "getset_descriptor.__get__"))) && (decide (PySem.W.takesIn K (.builtin "object.__class__") = some true) && decide (PySem.W.mroIn K D (.type "object") = some true)))))))
theorem excB_ok {K : Fr} {D : Addr} (c : excB K D = true) : ExcC K D := by
  obtain ⟨c1, c⟩ := He.ba c
  obtain ⟨c2, c⟩ := He.ba c
  obtain ⟨c3, c⟩ := He.ba c
  obtain ⟨c4, c⟩ := He.ba c
  obtain ⟨c5, c⟩ := He.ba c
  obtain ⟨c6, c⟩ := He.ba c
  obtain ⟨c7, c8⟩ := He.ba c
  exact ⟨He.eqO_ok c1, He.eqO_ok c2, of_decide_eq_true c3, c4, He.eqO_ok c5, He.eqO_ok c6, of_decide_eq_true c7, of_decide_eq_true c8⟩
def tExc (x : Str) : Tst := fun K => excB K (He.ga K x)
/-- except: an error of the class x against the class y -/
def tExm (x y : Str) (b : Bool) : Tst := fun K => decide (PySem.W.exmOne K (.ref (He.ga K x)) (.ref (He.ga K y)) = some b)
/-! ### what a suite asks -/
def tXfX (K : PySem.W.Frag) (a : Addr) (cls : Value) (d : Option Addr) (f : Str) (te : TE) : TE := fun σ H Q => te σ H fun x H1 => x = .ref a ∧ ∃ (C dd : Addr) (fs : List (Str × V)) (v : V), cls = .ref C ∧ XfC K C ∧ PySem.W.findIn K (.ref C) f = some none ∧ d = some dd ∧ H1 dd = some (.xd fs) ∧ fs.lookup f = some v ∧ Q v H1
theorem pe_xfX {X : Cx} {a : Addr} {oe : Obj} {cls : Value} {d : Option Addr} {pn : List (Addr × Obj)} {e : Expr} {te : TE} {pos : Pos} {n : Str} (hz : Zc cls d oe) (hf : ∃ vs, oe.data = .fields vs) (he : PE (X.suite a ((a, oe) :: pn)) e te)
    (hb : attributeBase e n X.env (eval e X.env) = eval e X.env := by rfl) : PE (X.suite a ((a, oe) :: pn)) (.Attribute e n pos) (tXfX X.K a cls d n te) := by
  refine ⟨fun pins s σ H Q I h => ?_⟩
  refine attr_of hb (thn (he.run pins s σ H _ I h) fun u s1 hh => ?_)
  obtain ⟨x, H1, I1, rx, ex, C, dd, fs, v, ec, T, hno, ed, ea, l, q⟩ := hh
  subst ex
  obtain rfl : u = Value.ref a := rx
  subst ec
  subst ed
  obtain ⟨ha, _⟩ := I1.pin (a, oe) (List.mem_append_left _ List.mem_cons_self)
  obtain ⟨vs, hd⟩ := hf
  obtain ⟨mz, ns, rel⟩ : ObjOk X.prog X.w H1 s1.heap dd (.xd fs) := I1.hok dd _ ea
  obtain ⟨od, ho, hl⟩ := lookIn_ns ns
  have rn := rel n
  rw [l] at rn
  obtain ⟨val, ev, rv⟩ := RelO.some_of rn
  have J : PySem.W.InstAt s1.heap a oe C (some od) := ⟨ha, hz.1, by unfold PySem.W.notCls; rw [hd] <;> rfl, by rw [hz.2]; exact ho⟩
  have own := PySem.W.findObj_own T.hdC hno rfl ((hl n).trans (congrArg some ev))
  exact HandSPX.exc_get I1.kIn J T.ga T.gg T.exC own (handed_of rv) ⟨v, H1, I1.tok _, rv, q⟩
/-- isinstance(e, c), e what the suite holds, of the class cls, its dict d -/
def rIsX (K : PySem.W.Frag) (a : Addr) (cls : Value) (d : Option Addr) : List V → Hp → VK → Prop := fun xs H Q => ∃ (D : Addr) (c : V) (cv : Value) (b : Bool), cls = .ref D ∧ ExcC K D ∧ (d = none ∨ ∃ dd fs, d = some dd ∧ H dd = some (.xd fs)) ∧ xs = [.ref a, c] ∧ (∀ u, RelV c u → u = cv) ∧ PySem.W.kitOne K (.ref D) cv = some b ∧ Q (.bl b) H
theorem call_isX {X : Cx} {a : Addr} {cls : Value} {d : Option Addr} {oe : Obj} {pn : List (Addr × Obj)} (hz : Zc cls d oe) (hf : ∃ vs, oe.data = .fields vs) : CallR (X.suite a ((a, oe) :: pn)) (.builtin "isinstance") (rIsX X.K a cls d) := by
  intro pins s σ H xs us Q I r h
  obtain ⟨D, c, cv, b, ec, C, hd, rfl, hcv, e, q⟩ := h
  subst ec
  cases r with
  | cons rx rr =>
    cases rr with
    | cons rt rr =>
      cases rr
      cases rx
      have ec := hcv _ rt
      subst ec
      obtain ⟨hget, _⟩ := I.pin (a, oe) (List.mem_append.mpr (.inl List.mem_cons_self))
      obtain ⟨vs, hv⟩ := hf
      obtain ⟨cdD, hcD, _⟩ := PySem.W.any_some C.hd
      have hcl : (PySem.W.clsIn X.K D).isSome = true := by rw [hcD]; rfl
      obtain ⟨od, J⟩ : ∃ od, PySem.W.InstAt s.heap a oe D od := by
        rcases hd with rfl | ⟨dd, fs, rfl, ea⟩
        · exact ⟨none, hget, hz.1, by unfold PySem.W.notCls; rw [hv] <;> rfl, by rw [hz.2]; trivial⟩
        · have hx : ObjOk X.prog X.w H s.heap dd (.xd fs) := I.hok dd _ ea
          obtain ⟨mA, hns, hr⟩ := hx
          obtain ⟨od, ho, hl⟩ := lookIn_ns hns
          exact ⟨some od, hget, hz.1, by unfold PySem.W.notCls; rw [hv] <;> rfl, by rw [hz.2]; exact ho⟩
      exact PySem.W.kia_one (PySem.W.kitx_exc hcl C.hg C.hk C.hs C.ha C.hn C.ht C.hm) I.kIn J e (fun z => nomatch z) fun tk => ⟨.bl b, H, I.kept (t' := tk) fun _ _ z => z, rfl, q⟩
/-! ### defs that raise -/
section
variable {P : Program} {w : World} {K : Fr} {mg : Str → Option Value} {base : Heap}
/-- as Cal, for a def that may raise (its promise says what) -/
def CalX (P : Program) (w : World) (K : Fr) (mg : Str → Option Value) (base : Heap) (k : Nat) (x : Str) (ad : Addr) (ps : List Str) (sp : Sp) : Prop :=
  ∃ fd : FuncData, FnOk P w K mg base (L2.CX P w) k ad fd ps sp ∧ Binds K fd ps [] ∧ PySem.W.keepIn K (.ref ad) = true ∧ mg x = some (.ref ad)
theorem pe_cx {X : Cx} {k : Nat} {x : Str} {ad : Addr} {ps : List Str} {sp : Sp} {W : WX} {e : Expr} {es : List Expr} {t : TA} {p pos : Pos} (c : CalX X.prog X.w X.K X.mg X.base k x ad ps sp) (tk : Takes X W) (hr : Room k X.A) (ha : PA X (e :: es) t) (hg : Gl X x := by rfl)
    (hdb : (x == ("__debug__" : Str)) = false := by decide) (he : starEach (e :: es) X.env = (false, eval e X.env) :: starEach es X.env := by rfl) (hpl : (backTo pos (starEach es X.env)).any (·.1) = false := by rfl) :
    PE X (.Call (.Name x p) (e :: es) [] pos) (tCallS sp (WE W) t) := by
  obtain ⟨fd, F, b, kp, m⟩ := c
  exact pe_callS F hr hg m kp b (fun σ => passAt tk σ) ha hdb he hpl
abbrev BodyX (P : Program) (w : World) (K : Fr) (mg : Str → Option Value) (base : Heap) (k : Nat) (d : Dx) (N ps : List Str) (sp : Sp) : Prop :=
  ∀ (cdv : Value) (A : Around) (outer : List Env) (s : Shared) (H : Hp) (vs : List V) (Q : VK) (E : XK), Room k (A.deeper (envOfC d.ql (defScope d.st) s.heap.objs.size (d.ad K) cdv)) → sp vs H Q E →
      ∃ t, PSs (cxOf (L2.CX P w) P w K mg base N d.ql (defScope d.st) (d.ad K) cdv A outer s H E) (defBody d.st) t ∧ t { nx := fun _ H' => Q .non H', rt := Q } (start N vs) H
theorem okx_of {k : Nat} {d : Dx} {N ps : List Str} {sp : Sp} {fd : FuncData} (D : DAt K d fd) (S : FnScope N ps (defScope d.st)) (len : ∀ vs H Q E, sp vs H Q E → vs.length = ps.length) (hb : BodyX P w K mg base k d N ps sp) :
    FnOk P w K mg base (L2.CX P w) (k + 1) (d.ad K) fd ps sp := FunD.ok D S len hb
end
end Hk

/-! Exceptions as values: made by a def of their own or without one, positionally or by keywords; their fields; isinstance of them. -/
namespace Hk
open PySem PySem.Spec PyProof.Rows L2
abbrev tlV : List Value := [.type "ValueError", .type "Exception", .type "BaseException", .type "object"]
abbrev tlL : List Value := [.type "LookupError", .type "Exception", .type "BaseException", .type "object"]
abbrev tlR : List Value := [.type "RuntimeError", .type "Exception", .type "BaseException", .type "object"]
abbrev tlA : List Value := [.type "ArithmeticError", .type "Exception", .type "BaseException", .type "object"]
/-- one of four built-in bases -/
structure Bas (B newId initId : String) (bm : List Value) : Prop where
  f : ExcBaseFacts B newId initId bm
  s : StoreFacts B bm "object.__setattr__" "object"
theorem basV : Bas "ValueError" "ValueError.__new__" "ValueError.__init__" tlV := ⟨PySem.F.excBase_ValueError, PySem.F.store_ValueError⟩
theorem basL : Bas "LookupError" "LookupError.__new__" "LookupError.__init__" tlL := ⟨PySem.F.excBase_LookupError, PySem.F.store_LookupError⟩
theorem basR : Bas "RuntimeError" "RuntimeError.__new__" "RuntimeError.__init__" tlR := ⟨PySem.F.excBase_RuntimeError, PySem.F.store_RuntimeError⟩
theorem basA : Bas "ArithmeticError" "ArithmeticError.__new__" "ArithmeticError.__init__" tlA := ⟨PySem.F.excBase_ArithmeticError, PySem.F.store_ArithmeticError⟩
/-- what the written part says of an own exception class -/
structure VeC (K : Fr) (C : Addr) : Prop where
  b : ∃ B newId initId bm, Bas B newId initId bm ∧ PySem.W.excInitIn K C bm newId = true ∧ PySem.W.excOver K C bm = true
  sa : PySem.W.findIn K (.ref C) "__setattr__" = some (some (.builtin "object.__setattr__"))
  kC : PySem.W.keepIn K (.ref C) = true
  x : ExcC K C
def basB (K : Fr) (C : Addr) (bm : List Value) (n : String) : Bool := PySem.W.excInitIn K C bm n && PySem.W.excOver K C bm
def veB (K : Fr) (C : Addr) : Bool := (basB K C tlV "ValueError.__new__" || (basB K C tlL "LookupError.__new__" || (basB K C tlR "RuntimeError.__new__" || basB K C tlA "ArithmeticError.__new__"))) &&
  (He.eqO (PySem.W.findIn K (.ref C) "__setattr__") (some (some (.builtin "object.__setattr__"))) && (PySem.W.keepIn K (.ref C) && excB K C))
theorem veB_ok {K : Fr} {C : Addr} (c : veB K C = true) : VeC K C := by
  obtain ⟨c1, c⟩ := He.ba c
  obtain ⟨c2, c⟩ := He.ba c
  obtain ⟨c3, c4⟩ := He.ba c
  refine ⟨?_, He.eqO_ok c2, c3, excB_ok c4⟩
  rcases Bool.or_eq_true_iff.mp c1 with h | h
  · exact ⟨_, _, _, _, basV, He.ba h⟩
  · rcases Bool.or_eq_true_iff.mp h with h | h
    · exact ⟨_, _, _, _, basL, He.ba h⟩
    · rcases Bool.or_eq_true_iff.mp h with h | h
      · exact ⟨_, _, _, _, basR, He.ba h⟩
      · exact ⟨_, _, _, _, basA, He.ba h⟩
def tVe (x : Str) : Tst := fun K => veB K (He.ga K x)
end Hk
namespace Hk
open PySem PySem.Spec PyProof.Rows L2
/-! ### a class called, with keywords too -/
section
variable {prog : Program} {w : World} {A : Around} {E : Value → Shared → Prop} {R : Result → Shared → Prop} {h : Heap} {g : Array GenState} {d : Drawn} {t : Nat} {os : OsState}
variable {nm q : Str} {C N : Addr} {bs bm bmB : List Value} {hdct : Bool} {sn : List Str} {sub : List Value} {ab : Bool} {col : Option Bool} {dd : Option Addr} {k0 k1 k2 k3 k5 : Option Value} {B newId initId : String}
theorem chk_new (F : ExcBaseFacts B newId initId bmB) (hT : ∀ X : String, bm.contains (.type X) = bmB.contains (.type X)) {rest : List Value} {kw : List (Str × Value)} {Q : Unit → Shared → Prop} {M : Model}
    (hC : h.get? C = some (excClassObj nm q C N bs bm hdct sn sub ab col dd k0 k1 k2 k3 k5 newId)) (hq : Q () ⟨h, g, d, t, os⟩) : wpAny M A (checkBuiltinCall newId ⟨.ref C :: rest, kw⟩) Q E ⟨h, g, d, t, os⟩ := by
  have c1 : (Value.ref C :: bm).contains (.type B) = true := by rw [List.contains_cons, hT, F.hasB, Bool.or_true]
  have c2 := F.noStar
  cases kw with
  | nil => exact HandSPX.check_new_own F hT hC hq
  | cons k r =>
    simp only [checkBuiltinCall, F.newKind, F.newSplit, F.newRow]
    repeat (first | (refine wpAny_loadPart_at hC ?_) | (refine wpAny_isSubtype_exc hC ?_; rw [c1]) | (refine wpAny_staticBase_exc hC ?_) | (refine wpAny_madeBy_exc hC ?_) | (simp only [bne_self_eq_false, Bool.false_eq_true, if_false]) | wp_step)
    exact hq
end
end Hk

namespace Hk
open PySem PySem.Spec PyProof.Rows L2
section
variable {prog : Program} {w : World} {A : Around} {E : Value → Shared → Prop} {R : Result → Shared → Prop} {h : Heap} {g : Array GenState} {d : Drawn} {t : Nat} {os : OsState}
variable {nm q : Str} {C N : Addr} {bs bm bmB : List Value} {hdct : Bool} {sn : List Str} {sub : List Value} {ab : Bool} {col : Option Bool} {dd : Option Addr} {k0 k1 k2 k3 k5 : Option Value} {B newId initId : String}
theorem new_kw (F : ExcBaseFacts B newId initId bmB) (hT : ∀ X : String, bm.contains (.type X) = bmB.contains (.type X)) {rest : List Value} {kw : List (Str × Value)}
    (hC : h.get? C = some (excClassObj nm q C N bs bm hdct sn sub ab col dd k0 k1 k2 k3 k5 newId))
    (hq : R (.ok (.ret (.ref (h.objs.size + 1)))) ⟨(h.push (PySem.W.kdv_tup rest)).push (HandSPX.excO C h.objs.size), g, d, t, os⟩) (hrest : rest.length ≤ sizeLine) :
    codeAny (model prog w) A (.builtin newId ⟨.ref C :: rest, kw⟩) R ⟨h, g, d, t, os⟩ := by
  have e1 := F.ends
  have e2 : (Value.ref C :: bm).contains (.type B) = true := by rw [List.contains_cons, hT, F.hasB, Bool.or_true]
  have e3 : (Value.ref C :: bm).contains (.type "AttributeError") = false := by rw [List.contains_cons, hT, F.noAttr]; rfl
  have e4 : (Value.ref C :: bm).contains (.type "NameError") = false := by rw [List.contains_cons, hT, F.noName]; rfl
  refine codeAny_builtinAt F.entry ?_
  unfold Builtin.«BaseException.__new__»
  refine PySem.wpAt_bind ?_
  show PySem.wpAt _ _ _ (stack >>= _) _ _ _
  refine PySem.wpAt_bind (PySem.wpAt_stack fun p below => PySem.wpAt_of_wpAny ?_)
  wp_walk
  refine PySem.wpAt_of_wpAny ?_
  rw [F.owner]
  repeat (first | (with_reducible refine wpAny_madeHere_exc F.canon hC ?_) | (with_reducible refine wpAny_loadPart_at hC ?_) | (with_reducible refine wpAny_isSubtype_exc hC ?_; first | rw [e2] | rw [e3] | rw [e4]) | wp_step)
  show R _ _
  rw [Heap.size_push]
  exact hq
theorem type_kw (F : ExcBaseFacts B newId initId bmB) (hT : ∀ X : String, bm.contains (.type X) = bmB.contains (.type X)) {rest : List Value} {kw : List (Str × Value)} {fI : Addr} {Q : Fin → Shared → Prop}
    (hC : h.get? C = some (excClassObj nm q C N bs bm hdct sn sub ab col dd k0 k1 k2 k3 k5 newId))
    (hi : PySem.W.Looks (model prog w) h (typeLookup (.ref C) "__init__") (some (.ref fI))) (hb : ∀ self, PySem.W.Looks (model prog w) h (bindSpecial (.ref fI) self) (.ref fI, [self])) (hrest : rest.length ≤ sizeLine)
    (hq : codeAny (model prog w) A (.call (.ref fI) ⟨.ref (h.objs.size + 1) :: rest, kw⟩)
      (fun r s' => match r with | .ok (.ret v) => v = .none ∧ Q (.done (.ret (.ref (h.objs.size + 1)))) s' | .ok _ => False | .error e => E e s')
      ⟨(h.push (PySem.W.kdv_tup rest)).push (HandSPX.excO C h.objs.size), g, d, t, os⟩) :
    wpAny (model prog w) A (Builtin.«type.__call__» ⟨.ref C :: rest, kw⟩) Q E ⟨h, g, d, t, os⟩ := by
  repeat (first | (with_reducible refine wpAny_loadPart_at hC ?_) | (with_reducible refine wpAny_madeBy_exc hC ?_) | wp_step)
  refine codeAny_call_builtin_code (Code.quiet_builtin _ F.quiet) (chk_new F hT hC ?_)
  refine new_kw F hT hC ?_ hrest
  show wpAny _ _ _ _ _ _
  have kk : ∀ b o, h.get? b = some o → ((h.push (PySem.W.kdv_tup rest)).push (HandSPX.excO C h.objs.size)).get? b = some o := fun b o e => Heap.get?_push_of_some _ (Heap.get?_push_of_some _ e)
  have hC2 := kk _ _ hC
  have hg2 : ((h.push (PySem.W.kdv_tup rest)).push (HandSPX.excO C h.objs.size)).get? (h.objs.size + 1) = some (HandSPX.excO C h.objs.size) := by heap_get
  have hcc : (Value.ref C :: bm).contains (.ref C) = true := by simp
  have i1 := hi.keeps kk
  have b1 := (hb (.ref (h.objs.size + 1))).keeps kk
  unfold isInstance
  repeat (first | (with_reducible refine wpAny_loadPart_at hg2 ?_) | (with_reducible refine wpAny_isSubtype_exc hC2 ?_; rw [hcc]) | wp_step)
  show wpAny _ _ (typeLookup (.ref C) _) _ _ _
  refine i1.at ?_
  refine wpAny_holding (wpAny_bind (b1.at ?_))
  refine wpAny_bind (wpAny_call (codeAny_mono hq fun r s' z => ?_))
  rcases r with e | (v | _ | _ | _) <;> first | exact z | exact z.elim | skip
  obtain ⟨rfl, z⟩ := z
  first
    | exact wpAny_pure (wpAny_pure z)
    | (wp_walk; exact z)
theorem chk_tc {M : Model} {rest : List Value} {kw : List (Str × Value)} {Q : Unit → Shared → Prop} (hC : h.get? C = some (excClassObj nm q C N bs bm hdct sn sub ab col dd k0 k1 k2 k3 k5 newId))
    (hq : Q () ⟨h, g, d, t, os⟩) : wpAny M A (checkBuiltinCall "type.__call__" ⟨.ref C :: rest, kw⟩) Q E ⟨h, g, d, t, os⟩ := by
  cases kw with
  | nil => exact wpAny_check_type_call_sub hC hq
  | cons k r =>
    have f3 := tc_sub
    have hT : (⟨h, g, d, t, os⟩ : Shared).TypeIs (.ref C) "type" := ⟨_, hC, rfl⟩
    simp only [checkBuiltinCall, tc_kind, tc_split]
    repeat (any_goals (first | assumption | (with_reducible refine wpAny_loadPart_at hC ?_) | (with_reducible refine wpAny_onRaise ?_) | (with_reducible refine wpAny_map ?_) | wp_step))
theorem call_kw (F : ExcBaseFacts B newId initId bmB) (hT : ∀ X : String, bm.contains (.type X) = bmB.contains (.type X)) {rest : List Value} {kw : List (Str × Value)} {fI : Addr}
    (hC : h.get? C = some (excClassObj nm q C N bs bm hdct sn sub ab col dd k0 k1 k2 k3 k5 newId))
    (hi : PySem.W.Looks (model prog w) h (typeLookup (.ref C) "__init__") (some (.ref fI))) (hb : ∀ self, PySem.W.Looks (model prog w) h (bindSpecial (.ref fI) self) (.ref fI, [self])) (hrest : rest.length ≤ sizeLine)
    (hq : codeAny (model prog w) (A.under (.builtin "type.__call__" ⟨.ref C :: rest, kw⟩)) (.call (.ref fI) ⟨.ref (h.objs.size + 1) :: rest, kw⟩) (PySem.W.InitBack (h.objs.size + 1) R)
      ⟨(h.push (PySem.W.kdv_tup rest)).push (HandSPX.excO C h.objs.size), g, d, t, os⟩) :
    codeAny (model prog w) A (.call (.ref C) ⟨rest, kw⟩) R ⟨h, g, d, t, os⟩ := by
  have f1 := tc_lookup
  have f2 := tc_bind (.ref C)
  have hTy : (⟨h, g, d, t, os⟩ : Shared).TypeIs (.ref C) "type" := ⟨_, hC, rfl⟩
  refine codeAny_of_tree ?_
  show wpAny _ _ (callAny (.ref C) _) _ _ _
  repeat (any_goals (first | assumption | (with_reducible refine wpAny_loadPart_at hC ?_) | wp_step))
  refine ⟨rfl, ?_⟩
  refine codeAny_call_builtin_at (Code.quiet_builtin _ (by decide +kernel)) entry_typeCall (chk_tc hC (type_kw F hT hC hi hb hrest ?_))
  refine codeAny_mono hq fun r s' z => ?_
  rcases r with e | (v | _ | _ | _) <;> exact z
end
end Hk

namespace Hk
open PySem PySem.Spec PyProof.Rows L2
/-! ### self.f = y in __init__ -/
section
open PySem.Builtin PySem.Builtin.ObjectAttr
variable {prog : Program} {w : World} {A : Around} {E : Value → Shared → Prop} {R : Result → Shared → Prop} {hp : Heap} {g : Array GenState} {d : Drawn} {t : Nat} {os : OsState} {K : Fr}
theorem osa_first {name : Str} {tk : Tok} {v : Value} {x C : Addr} {fv : Array Value} (T : VeC K C)
    (Y : K.In hp) (hx : hp.get? x = some { cls := .ref C, data := .fields fv }) (ha : PySem.W.findIn K (.ref C) name = some none)
    (hq : ∀ h' tk' dx, (∀ b o, b ≠ x → hp.get? b = some o → h'.get? b = some o) → hp.objs.size ≤ dx → dx ≠ x → h'.get? x = some { cls := .ref C, dict := some dx, data := .fields fv } →
      h'.Ns1 dx (fun y => if y = name then some v else none) → R (.ok (.ret .none)) ⟨h', g, d, tk', os⟩) :
    codeAny (model prog w) A (.call (.builtin "object.__setattr__") ⟨[.ref x, .str name tk, v], []⟩) R ⟨hp, g, d, t, os⟩ := by
  obtain ⟨B, newId, initId, bm, b, _, ov⟩ := T.b
  have I : PySem.W.InstAt hp x { cls := .ref C, data := .fields fv } C none := ⟨hx, rfl, rfl, trivial⟩
  have hxs : x ≠ hp.objs.size := Nat.ne_of_lt (Heap.lt_size hx)
  refine PySem.W.osa_openX (s := ⟨hp, g, d, t, os⟩) (r := none) b.s Y I ov (by unfold PySem.W.takerIn; rw [ha]; rfl) fun bb => ?_
  show wpAny _ _ (storeInOwnDict (.ref x) (.ref C) (.str name tk) name v bb) _ _ _
  obtain ⟨cd, hcd, hh⟩ := PySem.W.any_some T.x.hd
  have hcls : PySem.W.Looks (model prog w) hp (classData C) cd := PySem.W.looks_clsIn Y hcd
  obtain ⟨nm, bs, mro, ns, qn, hd, sn, sb, ab, col, del⟩ := cd
  dsimp only at hh
  subst hh
  unfold storeInOwnDict ownDictForStores
  repeat (first | (with_reducible refine HandSPX.store_in_new ?_ ?_) | (with_reducible refine wpAny_loadPart_at hx ?_) | (with_reducible refine hcls.at ?_) | wp_step)
  · exact ⟨_, #[], _, (Heap.get?_update_ne _ _ _ _ hxs.symm).trans (Heap.get?_push_at rfl rfl), rfl, fun e he => absurd he (by simp), fun _ => rfl⟩
  · intro h' tk' hn' hs
    have hx1 : (hp.push { cls := .type "dict", data := .dict #[] }).get? x = some { cls := .ref C, data := .fields fv } := Heap.get?_push_of_some _ hx
    refine hq h' tk' hp.objs.size (fun b o hb ho => ?_) (Nat.le_refl _) hxs.symm ?_ hn'
    · exact (hs.2 b (Nat.ne_of_lt (Heap.lt_size ho))).trans ((Heap.get?_update_ne _ _ _ _ hb).trans (Heap.get?_push_of_some _ ho))
    · exact (hs.2 x hxs).trans (Heap.get?_update_self _ hx1 rfl)
theorem osa_more {name : Str} {tk : Tok} {v : Value} {m0 : Str → Option Value} {ns : List Str} {x C dx : Addr} {fv : Array Value} (T : VeC K C)
    (Y : K.In hp) (hx : hp.get? x = some { cls := .ref C, dict := some dx, data := .fields fv }) (hns : hp.Ns1 dx m0) (hw : Within m0 ns) (hz : ns.length ≤ 1000) (ha : PySem.W.findIn K (.ref C) name = some none)
    (hq : ∀ h' tk', (∀ b o, b ≠ dx → hp.get? b = some o → h'.get? b = some o) → h'.Ns1 dx (fun y => if y = name then some v else m0 y) → R (.ok (.ret .none)) ⟨h', g, d, tk', os⟩) :
    codeAny (model prog w) A (.call (.builtin "object.__setattr__") ⟨[.ref x, .str name tk, v], []⟩) R ⟨hp, g, d, t, os⟩ := by
  obtain ⟨B, newId, initId, bm, b, _, ov⟩ := T.b
  obtain ⟨oD, esD, epD, hoD, hdD, _⟩ := hns.count hw
  have I : PySem.W.InstAt hp x { cls := .ref C, dict := some dx, data := .fields fv } C (some oD) := ⟨hx, rfl, rfl, hoD⟩
  refine PySem.W.osa_openX (s := ⟨hp, g, d, t, os⟩) (r := none) b.s Y I ov (by unfold PySem.W.takerIn; rw [ha]; rfl) fun bb => ?_
  show wpAny _ _ (storeInOwnDict (.ref x) (.ref C) (.str name tk) name v bb) _ _ _
  obtain ⟨cd, hcd, hh⟩ := PySem.W.any_some T.x.hd
  have hcls : PySem.W.Looks (model prog w) hp (classData C) cd := PySem.W.looks_clsIn Y hcd
  obtain ⟨nm, bs, mro, nn, qn, hd, sn, sb, ab, col, del⟩ := cd
  dsimp only at hh
  subst hh
  unfold storeInOwnDict ownDictForStores
  repeat (first | (with_reducible refine PySem.OEX.store_in_old hns hw hz ?_) | (with_reducible refine wpAny_loadPart_at hx ?_) | (with_reducible refine hcls.at ?_) | wp_step)
  intro h' tk' hn' hs
  exact hq h' tk' (fun b o hb ho => (hs.2 b hb).trans ho) hn'
end
section
variable {X : Cx} {pins : List (Addr × Obj)} {σ : L2.St} {H : Hp} {s : Shared} {a C dx : Addr} {f : Str} {y : V} {u : Value} {fs : List (Str × V)} {Q : Unit → Shared → Prop} {E : Value → Shared → Prop} {A : Around}
theorem vst_new (T : VeC X.K C) (I : Inv X pins σ H s) (e : H a = some (exo a C none)) (hno : PySem.W.findIn X.K (.ref C) f = some none) (ry : RelV y u)
    (h : ∀ dx s', H dx = none → dx ≠ a → Inv X pins σ (upd (upd H dx (exd dx [(f, y)])) a (exo a C (some dx))) s' → Q () s') : wpAny (model X.prog X.w) A (setAttr (.ref a) f u) Q E s := by
  obtain ⟨t1, ho⟩ := exo_at I.hok e
  obtain ⟨hp, g, d, t, os⟩ := s
  refine PySem.W.set_plain I.kIn (ox := { cls := .ref C, dict := none, data := .fields #[.ref t1, .none, .none, .none, .bool false, .none] }) (od := none) ⟨ho, rfl, rfl, trivial⟩ T.sa ?_
  refine osa_first T I.kIn ho hno (fun h' tk' dx k dn dne hx hn => ?_)
  have hnd : H dx = none := I.hok.fresh dn
  have nd : ∀ {b : Addr} {o : Obj}, hp.get? b = some o → b ≠ dx := fun {b o} q => Nat.ne_of_lt (Nat.lt_of_lt_of_le (Heap.lt_size q) dn)
  have na : ∀ {b : Addr}, H b = none → b ≠ a := fun {b} n z => by
    rw [z, e] at n
    exact nomatch n
  have U : Un X.fs [] H (upd (upd H dx (exd dx [(f, y)])) a (exo a C (some dx))) hp h' := by
    refine ⟨fun b o q n _ _ => k b o (na n) q, fun b o q n _ _ => ⟨o.slots, k b o (na n) q⟩, fun b o q n _ => ?_, fun b o q _ => ?_, fun b xs q => ?_, fun b o v q => ?_, fun b ps q => ⟨#[], ?_⟩⟩
    · rw [upd_ne (na n), upd_ne (nd q)]
      exact n
    · by_cases hb : b = a
      · exact ⟨_, by rw [hb]; exact hx⟩
      · exact ⟨o, k b o hb q⟩
    · rw [upd_ne (at_ne e q exo_tup), upd_ne (ne_of_none q hnd)]
      exact q
    · rw [upd_ne (at_ne e q exo_frz), upd_ne (ne_of_none q hnd)]
      exact q
    · rw [upd_ne (at_ne e q exo_tbl), upd_ne (ne_of_none q hnd), q]
      simp
  refine h dx _ hnd dne (I.un (t' := tk') U fun b o q => ?_)
  by_cases hb : b = a
  · subst hb
    rw [upd_same] at q
    cases q
    exact exo_ok hx
  · rw [upd_ne hb] at q
    by_cases hd : b = dx
    · subst hd
      rw [upd_same] at q
      cases q
      exact exd_ok hn (relO_put (fs := []) ry fun g => True.intro)
    · rw [upd_ne hd] at q
      refine (I.hok b o q).stay (fun c v hc z => k c v ?_ z) (fun c hc => ?_) fun c xs hc => ?_
      · rcases hc with hc | hc
        · rw [hc]
          exact hb
        · exact at_ne e hc exo_own
      · rw [upd_ne (at_ne e hc exo_own), upd_ne (ne_of_none hc hnd)]
        exact hc
      · rw [upd_ne (at_ne e hc exo_tup), upd_ne (ne_of_none hc hnd)]
        exact hc
theorem vst_old (T : VeC X.K C) (I : Inv X pins σ H s) (e : H a = some (exo a C (some dx))) (ed : H dx = some (exd dx fs)) (hl : fs.length ≤ 900) (hno : PySem.W.findIn X.K (.ref C) f = some none) (ry : RelV y u)
    (h : ∀ s', Inv X pins σ (upd H dx (exd dx ((f, y) :: fs))) s' → Q () s') : wpAny (model X.prog X.w) A (setAttr (.ref a) f u) Q E s := by
  obtain ⟨t1, ho⟩ := exo_at I.hok e
  obtain ⟨mA, hns, rel⟩ := exd_at I.hok ed
  have hw := within_of rel
  obtain ⟨hp, g, d, t, os⟩ := s
  obtain ⟨oD, _, _, hoD, _, _⟩ := hns.count hw
  refine PySem.W.set_plain I.kIn (ox := { cls := .ref C, dict := some dx, data := .fields #[.ref t1, .none, .none, .none, .bool false, .none] }) (od := some oD) ⟨ho, rfl, rfl, hoD⟩ T.sa ?_
  refine osa_more T I.kIn ho hns hw (by rw [List.length_map]; omega) hno (fun h' tk' k hn => ?_)
  have hd : ∃ o, h'.get? dx = some o := by
    obtain ⟨o, _, _, e', _⟩ := hn
    exact ⟨o, e'⟩
  exact h _ (I.write (t' := tk') (x := dx) (e := dx) (o := exd dx ((f, y) :: fs)) (by rw [ed]; exact True.intro) (.inl rfl) k hd (exd_ok hn (relO_put ry rel)))
end
/-- self.f = e -/
def tVst (K : Fr) (f : Str) (to te : TE) : TS := fun D σ H => te σ H fun y H1 => to σ H1 fun x H2 => ∃ a C : Addr, x = .ref a ∧ VeC K C ∧ PySem.W.findIn K (.ref C) f = some none ∧
  ((H2 a = some (exo a C none) ∧ ∀ dx, H2 dx = none → dx ≠ a → D.nx σ (upd (upd H2 dx (exd dx [(f, y)])) a (exo a C (some dx)))) ∨
    ∃ (dx : Addr) (fs : List (Str × V)), H2 a = some (exo a C (some dx)) ∧ H2 dx = some (exd dx fs) ∧ fs.length ≤ 900 ∧ D.nx σ (upd H2 dx (exd dx ((f, y) :: fs))))
section
variable {X : Cx} {o e : Expr} {to te : TE} {f : Str} {p' pos : Pos}
theorem ps_vst (ho : PE X o to) (he : PE X e te) (hs : swapsWith e (some (.Attribute o f p')) pos.line X.env = pure false := by rfl) : PS X (.Assign [.Attribute o f p'] e pos) (tVst X.K f to te) := by
  refine ⟨fun pins s σ H D I h => ?_⟩
  refine plainObj_wpAny_Assign_Attribute (thn (he.run pins s σ H _ I h) fun v s1 ⟨y, H1, I1, r1, q1⟩ => thn (ho.run pins s1 σ H1 _ I1 q1) fun u s2 ⟨x, H2, I2, r2, a, C, ex, T, hno, q⟩ => ?_) hs
  subst ex
  obtain rfl : u = Value.ref a := r2
  rcases q with ⟨ea, q⟩ | ⟨dx, fs, ea, ed, hl, q⟩
  · exact vst_new T I2 ea hno r1 fun dx s' n ne J => ⟨σ, _, J, q dx n ne⟩
  · exact vst_old T I2 ea ed hl hno r1 fun s' J => ⟨σ, _, J, q⟩
end
end Hk

namespace Hk
open PySem PySem.Spec PyProof.Rows L2
/-- an exception of the class C with these fields stands at a -/
def VeAt (H : Hp) (a C : Addr) (fs : List (Str × V)) : Prop := ∃ d, H a = some (exo a C (some d)) ∧ H d = some (exd d fs)
/-- one without fields -/
def VeBare (H : Hp) (a C : Addr) : Prop := H a = some (ExO (.ref C) a)
theorem VeAt.same {H H' : Hp} {a C : Addr} {fs : List (Str × V)} (v : VeAt H a C fs) (s : Same H H') : VeAt H' a C fs := by
  obtain ⟨d, h1, h2⟩ := v
  exact ⟨d, s _ _ h1, s _ _ h2⟩
section
variable {X : Cx} {k : Nat} {C fI : Addr} {fd : FuncData} {ps ks : List Str} {sp : Sp}
/-- the class called: a new object, then its __init__ -/
theorem run_ve {pins : List (Addr × Obj)} {σ : L2.St} {H : Hp} {s : Shared} {Q : VK} {us ws : List Value} {vl : Addr → List V} {al : Addr → List Value} (T : VeC X.K C) (iC : PySem.W.findIn X.K (.ref C) "__init__" = some (some (.ref fI))) (tI : PySem.W.typeIn X.K (.ref fI) = some (.type "function"))
    (F : FnOk X.prog X.w X.K X.mg X.base CX0 k fI fd ps sp) (hr : Room (k + 1) X.A) (I : Inv X pins σ H s) (hl : us.length ≤ sizeLine)
    (hb : ∀ (s' : Shared) (a : Addr), X.K.In s'.heap → BindsTo s' fd ⟨.ref a :: us, ks.zip ws⟩ (ps.zip (al a))) (hv : ∀ a, Vals (vl a) (al a))
    (h : ∀ a, H a = none → sp (vl a) (upd H a (exo a C none)) (fun v H2 => v = .non ∧ Q (.ref a) H2) E0) :
    wpAny (model X.prog X.w) X.A (call (.ref C) us (ks.zip ws)) (EP X pins σ Q) X.xe s := by
  obtain ⟨B, newId, initId, bmB, b, ei, _⟩ := T.b
  obtain ⟨nm, N, q, bs, bm, hdct, sn, sub, ab, col, dd, k0, k1, k2, k3, k5, hC, hT⟩ := PySem.W.excInit_of I.kIn ei
  obtain ⟨hp, g, dr, tk, os⟩ := s
  have hsz : hp.objs.size ≤ hp.objs.size + 1 := Nat.le_succ _
  have hn : H (hp.objs.size + 1) = none := I.hok.fresh hsz
  have hq := h (hp.objs.size + 1) hn
  have kk : ∀ b o, hp.get? b = some o → ((hp.push (PySem.W.kdv_tup us)).push (HandSPX.excO C hp.objs.size)).get? b = some o := fun b o e => Heap.get?_push_of_some _ (Heap.get?_push_of_some _ e)
  have hget : ((hp.push (PySem.W.kdv_tup us)).push (HandSPX.excO C hp.objs.size)).get? (hp.objs.size + 1) = some (HandSPX.excO C hp.objs.size) := by heap_get
  have I2 : Inv X pins σ (upd H (hp.objs.size + 1) (exo (hp.objs.size + 1) C none)) ⟨(hp.push (PySem.W.kdv_tup us)).push (HandSPX.excO C hp.objs.size), g, dr, tk, os⟩ :=
    I.laid (t' := tk) (a := hp.objs.size + 1) (o := exo (hp.objs.size + 1) C none) (h' := (hp.push (PySem.W.kdv_tup us)).push (HandSPX.excO C hp.objs.size)) kk hsz (exo_ok hget)
  refine wpAny_call (call_kw b.f hT hC (PySem.W.looks_findIn I.kIn iC) (fun self => PySem.W.bind_fn I.kIn self tI) hl
    (codeAny_mono (F.run _ X.stack _ _ ⟨Value.ref (hp.objs.size + 1) :: us, ks.zip ws⟩ (al (hp.objs.size + 1)) (vl (hp.objs.size + 1)) _ E0 (hr.make C us (ks.zip ws)) (I2.env0.make C us (ks.zip ws)) (hb _ _ I2.kIn) (hv _) hq) fun r s' hq' => ?_))
  cases r with
  | error er => exact (show False from hq').elim
  | ok fl =>
    cases fl with
    | ret u =>
      obtain ⟨v, H', I3, rv, ev, q3⟩ := I2.after hq'
      subst ev
      exact ⟨rv, V.ref (hp.objs.size + 1), H', I3, rfl, q3⟩
    | _ => exact (show False from hq').elim
/-- C(e, ..) -/
def tVe1 (C : Addr) (sp : Sp) (t : TA) : TE := fun σ H Q => t σ H fun vs H1 => vs.length ≤ 1000 ∧ ∀ a, H1 a = none → sp (.ref a :: vs) (upd H1 a (exo a C none)) (fun v H2 => v = .non ∧ Q (.ref a) H2) E0
theorem len_line {us : List Value} {vs : List V} (r : Vals vs us) (h : vs.length ≤ 1000) : us.length ≤ sizeLine := by
  rw [← r.length]
  exact Nat.le_trans h (by decide)
theorem pe_ve {x : Str} {e : Expr} {es : List Expr} {t : TA} {p pos : Pos} (T : VeC X.K C) (iC : PySem.W.findIn X.K (.ref C) "__init__" = some (some (.ref fI))) (tI : PySem.W.typeIn X.K (.ref fI) = some (.type "function"))
    (F : FnOk X.prog X.w X.K X.mg X.base CX0 k fI fd ps sp) (hr : Room (k + 1) X.A) (hm : X.mg x = some (.ref C)) (hb : Binds X.K fd ps []) (ha : PA X (e :: es) t) (hg : Gl X x := by rfl)
    (hdb : (x == ("__debug__" : Str)) = false := by decide) (he : starEach (e :: es) X.env = (false, eval e X.env) :: starEach es X.env := by rfl) (hpl : (backTo pos (starEach es X.env)).any (·.1) = false := by rfl) :
    PE X (.Call (.Name x p) (e :: es) [] pos) (tVe1 C sp t) := by
  refine ⟨fun pins s σ H Q I h => wpAny_Call_Name_kw (ld_glob I hg hm ?_ hdb)⟩
  refine PySem.W.callWith_K (h₀ := X.base) I.ok.mod.kin T.kC (thn (ha.run pos pins s σ H _ I h) fun us s1 hu => ?_) he hpl
  obtain ⟨vs, H1, J, r, hl, q⟩ := hu
  have fr : ∃ a, H1 a = none := ⟨_, J.hok.fresh (Nat.le_refl _)⟩
  obtain ⟨a0, n0⟩ := fr
  have ln : us.length + 1 = ps.length := by
    have e1 := F.len _ _ _ _ (q a0 n0)
    rw [List.length_cons, r.length] at e1
    exact e1
  refine ⟨J.kIn, run_ve (ks := []) (ws := []) (vl := fun a => .ref a :: vs) (al := fun a => .ref a :: us) T iC tI F hr J (len_line r hl) (fun s' a Y => ?_) (fun a => .cons rfl r) q⟩
  have := hb s' (.ref a :: us) Y (by rw [List.append_nil, List.length_cons]; exact ln)
  rwa [List.append_nil] at this
/-- C(k = e, ..): how the keywords come to the parameters -/
def tVeK (C : Addr) (sp : Sp) (gV : List V → List V) (tk : TA) : TE := fun σ H Q => tk σ H fun zs H1 => ∀ a, H1 a = none → sp (.ref a :: gV zs) (upd H1 a (exo a C none)) (fun v H2 => v = .non ∧ Q (.ref a) H2) E0
theorem pe_veK {x : Str} {kws : List Keyword} {tk : TA} {p pos : Pos} {g : List Value → List Value} {gV : List V → List V} (T : VeC X.K C) (iC : PySem.W.findIn X.K (.ref C) "__init__" = some (some (.ref fI))) (tI : PySem.W.typeIn X.K (.ref fI) = some (.type "function"))
    (F : FnOk X.prog X.w X.K X.mg X.base CX0 k fI fd ps sp) (hr : Room (k + 1) X.A) (hm : X.mg x = some (.ref C)) (hb : ∀ (s' : Shared) (a : Addr) (ws : List Value), X.K.In s'.heap → ws.length = ks.length → BindsTo s' fd ⟨[.ref a], ks.zip ws⟩ (ps.zip (.ref a :: g ws)))
    (hgv : ∀ {zs : List V} {ws : List Value}, Vals zs ws → Vals (gV zs) (g ws)) (hlk : ∀ (σ : L2.St) (H : Hp) (Q : List V → Hp → Prop), tk σ H Q → tk σ H fun zs H1 => zs.length = ks.length ∧ Q zs H1) (hk : PK X kws tk) (hg : Gl X x := by rfl)
    (hall : (backToKw pos (keywordEach kws X.env)).all (·.1.isSome) = true := by rfl) (hks : (backToKw pos (keywordEach kws X.env)).filterMap (·.1) = ks := by rfl) (hdb : (x == ("__debug__" : Str)) = false := by decide)
    (hpl : ((backTo pos (starEach [] X.env)).any (·.1) || (backToKw pos (keywordEach kws X.env)).any (·.1.isNone)) = false := by rfl) : PE X (.Call (.Name x p) [] kws pos) (tVeK C sp gV tk) := by
  refine ⟨fun pins s σ H Q I h => wpAny_Call_Name_kw (ld_glob I hg hm ?_ hdb)⟩
  refine PySem.W.callWith_KW0 (h₀ := X.base) I.ok.mod.kin T.kC hall (thn (hk.run pos pins s σ H _ I (hlk _ _ _ h)) fun ws s2 hu => ?_) hpl
  obtain ⟨zs, H2, J, rz, ln, q⟩ := hu
  refine ⟨J.kIn, ?_⟩
  rw [hks]
  exact run_ve (us := []) (vl := fun a => .ref a :: gV zs) (al := fun a => .ref a :: g ws) T iC tI F hr J (Nat.zero_le _) (fun s' a Y => hb s' a ws Y (rz.length.symm.trans ln)) (fun a => .cons rfl (hgv rz)) q
/-- C() of a class without an __init__ of its own -/
theorem pe_ve0 {bmB : List Value} {B newId initId : String} {x : Str} {p pos : Pos} (F : ExcBaseFacts B newId initId bmB) (q : PySem.W.excIn X.K C bmB newId = true) (gC : X.mg x = some (.ref C)) (kC : PySem.W.keepIn X.K (.ref C) = true) (hg : Gl X x := by rfl)
    (hdb : (x == ("__debug__" : Str)) = false := by decide) : PE X (.Call (.Name x p) [] [] pos) (fun σ H Q => ∀ a, H a = none → Q (.ref a) (upd H a (ExO (.ref C) a))) := by
  refine ⟨fun pins s σ H Q I h => wpAny_Call_Name_kw (ld_glob I hg gC ?_ hdb)⟩
  refine PySem.W.callWith_K0 I.kIn kC ?_
  obtain ⟨bm, N, nm, qn, bs, hdct, sn, sub, ab, col, dd, k0, k1, k2, k3, k5, mN, hC, hN, hni, T⟩ := exc_obj I.kIn q
  refine wpAny_call_exc_subT F T hC hN hni (fun h' a hm => ?_) (Nat.zero_le _)
  have hn : H a = none := I.hok.gone hm.new
  obtain ⟨t, ht, _, _⟩ := hm.there
  exact ⟨.ref a, upd H a (ExO (.ref C) a), I.laidN hm.keeps hm.new hn (exO_ok ht ⟨rfl, rfl⟩ rfl rfl rfl (show 4 < 6 by decide)), rfl, h a hn⟩
/-- e.n -/
def tVeF (K : Fr) (n : Str) (te : TE) : TE := fun σ H Q => te σ H fun x H1 => ∃ (a C : Addr) (fs : List (Str × V)) (v : V), x = .ref a ∧ VeAt H1 a C fs ∧ ExcC K C ∧ PySem.W.findIn K (.ref C) n = some none ∧ fs.lookup n = some v ∧ Q v H1
theorem pe_veF {e : Expr} {te : TE} {pos : Pos} {n : Str} (he : PE X e te) (hb : attributeBase e n X.env (eval e X.env) = eval e X.env := by rfl) : PE X (.Attribute e n pos) (tVeF X.K n te) := by
  refine ⟨fun pins s σ H Q I h => ?_⟩
  refine attr_of hb (thn (he.run pins s σ H _ I h) fun u s1 hh => ?_)
  obtain ⟨x, H1, I1, rx, a, C, fs, v, ex, ⟨d, ea, ed⟩, T, hno, l, q⟩ := hh
  subst ex
  obtain rfl : u = Value.ref a := rx
  obtain ⟨t1, ho⟩ := exo_at I1.hok ea
  obtain ⟨mz, ns, rel⟩ := exd_at I1.hok ed
  obtain ⟨od, hod, hl⟩ := lookIn_ns ns
  have rn := rel n
  rw [l] at rn
  obtain ⟨val, ev, rv⟩ := RelO.some_of rn
  have J : PySem.W.InstAt s1.heap a { cls := .ref C, dict := some d, data := .fields #[.ref t1, .none, .none, .none, .bool false, .none] } C (some od) := ⟨ho, rfl, rfl, hod⟩
  exact HandSPX.exc_get I1.kIn J T.hg T.hk T.hs (PySem.W.findObj_own T.hd hno rfl ((hl n).trans (congrArg some ev))) (handed_of rv) ⟨v, H1, I1.tok _, rv, q⟩
/-- isinstance(e, c) -/
def rIsV (K : Fr) : List V → Hp → VK → Prop := fun xs H Q => ∃ (a D : Addr) (c : V) (cv : Value) (b : Bool), xs = [.ref a, c] ∧ ((∃ fs, VeAt H a D fs) ∨ VeBare H a D) ∧ ExcC K D ∧ ClsV c cv ∧ PySem.W.kitOne K (.ref D) cv = some b ∧ Q (.bl b) H
theorem call_isV : CallR X (.builtin "isinstance") (rIsV X.K) := by
  intro pins s σ H xs us Q I r h
  obtain ⟨a, D, c, cv, b, rfl, hv, C, hcv, e, q⟩ := h
  obtain ⟨u1, u2, rfl, r1, r2⟩ := vals2 r
  have ec := hcv.eq r2
  subst ec
  cases (show u1 = Value.ref a from r1)
  obtain ⟨cdD, hcD, _⟩ := PySem.W.any_some C.hd
  have hcl : (PySem.W.clsIn X.K D).isSome = true := by rw [hcD]; rfl
  have fin : ∀ {ox : Obj} {od : Option Obj}, PySem.W.InstAt s.heap a ox D od → wpAny (model X.prog X.w) X.A (call (.builtin "isinstance") [.ref a, u2]) (EP X pins σ Q) X.xe s := fun {ox od} J =>
    PySem.W.kia_one (PySem.W.kitx_exc hcl C.hg C.hk C.hs C.ha C.hn C.ht C.hm) I.kIn J e (fun z => nomatch z) fun tk => ⟨.bl b, H, I.kept (t' := tk) fun _ _ z => z, rfl, q⟩
  rcases hv with ⟨fs, d, ea, ed⟩ | ea
  · obtain ⟨t1, ho⟩ := exo_at I.hok ea
    obtain ⟨mz, ns, rel⟩ := exd_at I.hok ed
    obtain ⟨od, hod, hl⟩ := lookIn_ns ns
    exact fin (ox := { cls := .ref D, dict := some d, data := .fields #[.ref t1, .none, .none, .none, .bool false, .none] }) (od := some od) ⟨ho, rfl, rfl, hod⟩
  · obtain ⟨⟨oe, vs, ho, hz, hd, _⟩, _, _⟩ := I.hok a _ ea
    refine fin (ox := oe) (od := none) ⟨ho, hz.1, ?_, by rw [hz.2]; trivial⟩
    unfold PySem.W.notCls
    rw [hd] <;> rfl
end
/-- an __init__ that stores its one argument -/
def spSet (C : Addr) (f : Str) : Sp := fun vs H Q _ => ∃ (a : Addr) (y : V), vs = [.ref a, y] ∧ H a = some (exo a C none) ∧ ∀ dx, H dx = none → dx ≠ a → Q .non (upd (upd H dx (exd dx [(f, y)])) a (exo a C (some dx)))
end Hk

namespace Hk
open PySem PySem.Spec PyProof.Rows L2
/-! ### of which classes an error is -/
def ownBs : List (Str × Nat) := [("InputError", 0), ("NetError", 1), ("StateError", 2), ("LimitError", 3)]
def pyBs : List (String × Nat) := [("ValueError", 0), ("LookupError", 1), ("RuntimeError", 2), ("ArithmeticError", 3)]
def kits (K : Fr) (C : Addr) (i : Nat) : Bool := (ownBs.all fun p => decide (PySem.W.kitOne K (.ref C) (.ref (He.ga K p.1)) = some (decide (p.2 = i)))) && (pyBs.all fun p => decide (PySem.W.kitOne K (.ref C) (.type p.1) = some (decide (p.2 = i))))
structure RowC (K : Fr) (D : Addr) (i : Nat) : Prop where
  x : ExcC K D
  o : ∀ p ∈ ownBs, PySem.W.kitOne K (.ref D) (.ref (He.ga K p.1)) = some (decide (p.2 = i))
  b : ∀ p ∈ pyBs, PySem.W.kitOne K (.ref D) (.type p.1) = some (decide (p.2 = i))
theorem kits_ok {K : Fr} {C : Addr} {i : Nat} (x : ExcC K C) (c : kits K C i = true) : RowC K C i := by
  obtain ⟨c1, c2⟩ := He.ba c
  exact ⟨x, fun p hp => of_decide_eq_true (List.all_eq_true.mp c1 p hp), fun p hp => of_decide_eq_true (List.all_eq_true.mp c2 p hp)⟩
/-- a class with fields over the base i: its facts; all its fields have no class attribute -/
def tEc (x : Str) (fs : List Str) (i : Nat) : Tst := fun K => tVe x K && (tInit x K && (kits K (He.ga K x) i && fs.all fun f => tNof x f K))
structure EcC (K : Fr) (C fI : Addr) (fs : List Str) (i : Nat) : Prop where
  v : VeC K C
  iC : PySem.W.findIn K (.ref C) "__init__" = some (some (.ref fI))
  tI : PySem.W.typeIn K (.ref fI) = some (.type "function")
  r : RowC K C i
  n : ∀ f ∈ fs, PySem.W.findIn K (.ref C) f = some none
theorem ec_ok {K : Fr} {x : Str} {fs : List Str} {i : Nat} (c : tEc x fs i K = true) : EcC K (He.ga K x) (mAd x "__init__" K) fs i := by
  obtain ⟨c1, c⟩ := He.ba c
  obtain ⟨c2, c⟩ := He.ba c
  obtain ⟨c3, c4⟩ := He.ba c
  obtain ⟨c5, c6⟩ := He.ba c2
  have v := veB_ok c1
  exact ⟨v, (own_ok c5).at_, of_decide_eq_true c6, kits_ok v.x c3, fun f hf => He.eqO_ok (List.all_eq_true.mp c4 f hf)⟩
/-- a class without a def of its own -/
def tEb (x : Str) (bm : List Value) (n : String) (i : Nat) : Tst := fun K => PySem.W.excIn K (He.ga K x) bm n && (PySem.W.keepIn K (.ref (He.ga K x)) && (excB K (He.ga K x) && kits K (He.ga K x) i))
structure EbC (K : Fr) (C : Addr) (i : Nat) : Prop where
  e : ∃ B newId initId bm, ExcBaseFacts B newId initId bm ∧ PySem.W.excIn K C bm newId = true
  kC : PySem.W.keepIn K (.ref C) = true
  r : RowC K C i
theorem eb_ok {K : Fr} {x : Str} {B n ii : String} {bm : List Value} {i : Nat} (b : Bas B n ii bm) (c : tEb x bm n i K = true) : EbC K (He.ga K x) i := by
  obtain ⟨c1, c⟩ := He.ba c
  obtain ⟨c2, c⟩ := He.ba c
  obtain ⟨c3, c4⟩ := He.ba c
  exact ⟨⟨B, n, ii, bm, b.f, c1⟩, c2, kits_ok (excB_ok c3) c4⟩
theorem kwN {K : Fr} {x qual : Str} {params : Arguments} {body : List Stmt} {scope : Scope} {kws : List (Str × V)} {f : Addr} {fd : FuncData} {ps ks : List Str} {g : List Value → List Value} (F : FunD K x qual params body scope [] kws f fd)
    (h : ∀ (kV doc pm : Value) (an : Option Addr) (cdv ct v : Value) (ws : List Value), ws.length = ks.length → bindArgs (PySem.W.fnOf x qual params body scope .none kV doc pm an cdv ct) ⟨[v], ks.zip ws⟩ = pure (ps.zip (v :: g ws))) :
    ∀ (s' : Shared) (a : Addr) (ws : List Value), K.In s'.heap → ws.length = ks.length → BindsTo s' fd ⟨[.ref a], ks.zip ws⟩ (ps.zip (.ref a :: g ws)) := by
  obtain ⟨oc, od, dV, kV, doc, pm, an, cdv, ct, osl, rfl, lk, hcd, hD, hK⟩ := F.ex
  rcases hD with ⟨_, rfl⟩ | ⟨e, _⟩
  · exact fun s' a ws _ hl => .of_eq (h kV doc pm an cdv ct (.ref a) ws hl)
  · exact absurd rfl e
/-- a class by its name: called with one value, or with it by its name -/
structure ErC (P : Program) (w : World) (K : Fr) (mg : Str → Option Value) (base : Heap) (x f : Str) (i : Nat) : Prop where
  c : EcC K (He.ga K x) (mAd x "__init__" K) [f] i
  m : mg x = some (.ref (He.ga K x))
  fn : ∃ fd, FnOk P w K mg base CX0 1 (mAd x "__init__" K) fd [("self" : Str), f] (spSet (He.ga K x) f) ∧ Binds K fd [("self" : Str), f] [] ∧
    ∀ (s' : Shared) (a : Addr) (ws : List Value), K.In s'.heap → ws.length = 1 → BindsTo s' fd ⟨[.ref a], List.zip [f] ws⟩ (List.zip [("self" : Str), f] (.ref a :: ws))
def tE1 (C : Addr) (f : Str) (t : TA) : TE := fun σ H Q => t σ H fun vs H1 => ∃ y, vs = [y] ∧ ∀ H' a, Same H1 H' → H1 a = none → VeAt H' a C [(f, y)] → Q (.ref a) H'
theorem set_same {H : Hp} {a dx C : Addr} {f : Str} {y : V} (na : H a = none) (nd : upd H a (exo a C none) dx = none) (ne : dx ≠ a) :
    Same H (upd (upd (upd H a (exo a C none)) dx (exd dx [(f, y)])) a (exo a C (some dx))) ∧ VeAt (upd (upd (upd H a (exo a C none)) dx (exd dx [(f, y)])) a (exo a C (some dx))) a C [(f, y)] := by
  rw [upd_ne ne] at nd
  refine ⟨fun b o e => ?_, dx, upd_same, ?_⟩
  · rw [upd_ne (ne_of_none e na), upd_ne (ne_of_none e nd), upd_ne (ne_of_none e na)]
    exact e
  · rw [upd_ne ne, upd_same]
theorem sp_set {H : Hp} {C a : Addr} {f : Str} {y : V} {Q : VK} (na : H a = none) (q : ∀ H' a, Same H H' → H a = none → VeAt H' a C [(f, y)] → Q (.ref a) H') :
    spSet C f [.ref a, y] (upd H a (exo a C none)) (fun v H2 => v = .non ∧ Q (.ref a) H2) E0 := by
  refine ⟨a, y, rfl, upd_same, fun dx nd ne => ⟨rfl, ?_⟩⟩
  obtain ⟨s, v⟩ := set_same (f := f) (y := y) na nd ne
  exact q _ a s na v
section
variable {X : Cx} {x f : Str} {i : Nat}
theorem pe_e1 {e : Expr} {t : TA} {p pos : Pos} (c : ErC X.prog X.w X.K X.mg X.base x f i) (hr : Room 2 X.A) (ha : PA X [e] t) (hg : Gl X x := by rfl)
    (hdb : (x == ("__debug__" : Str)) = false := by decide) (he : starEach [e] X.env = (false, eval e X.env) :: starEach [] X.env := by rfl) (hpl : (backTo pos (starEach [] X.env)).any (·.1) = false := by rfl) :
    PE X (.Call (.Name x p) [e] [] pos) (tE1 (He.ga X.K x) f t) := by
  obtain ⟨fd, F, b, _⟩ := c.fn
  refine ⟨fun pins s σ H Q I h => wpAny_Call_Name_kw (ld_glob I hg c.m ?_ hdb)⟩
  refine PySem.W.callWith_K (h₀ := X.base) I.ok.mod.kin c.c.v.kC (thn (ha.run pos pins s σ H _ I h) fun us s1 hu => ?_) he hpl
  obtain ⟨vs, H1, J, r, y, rfl, q⟩ := hu
  obtain ⟨u, rfl, ru⟩ := r.one
  refine ⟨J.kIn, run_ve (ks := []) (ws := []) (vl := fun a => [.ref a, y]) (al := fun a => [.ref a, u]) c.c.v c.c.iC c.c.tI F hr J (by show 1 ≤ sizeLine; decide) (fun s' a Y => ?_) (fun a => .cons rfl (.cons ru .nil)) fun a na => sp_set na q⟩
  exact b s' [.ref a, u] Y rfl
def tEK (C : Addr) (f : Str) (tk : TA) : TE := fun σ H Q => tk σ H fun zs H1 => ∃ y, zs = [y] ∧ ∀ H' a, Same H1 H' → H1 a = none → VeAt H' a C [(f, y)] → Q (.ref a) H'
theorem pe_eK {kws : List Keyword} {tk : TA} {p pos : Pos} (c : ErC X.prog X.w X.K X.mg X.base x f i) (hr : Room 2 X.A) (hk : PK X kws tk) (hg : Gl X x := by rfl)
    (hall : (backToKw pos (keywordEach kws X.env)).all (·.1.isSome) = true := by rfl) (hks : (backToKw pos (keywordEach kws X.env)).filterMap (·.1) = [f] := by rfl) (hdb : (x == ("__debug__" : Str)) = false := by decide)
    (hpl : ((backTo pos (starEach [] X.env)).any (·.1) || (backToKw pos (keywordEach kws X.env)).any (·.1.isNone)) = false := by rfl) : PE X (.Call (.Name x p) [] kws pos) (tEK (He.ga X.K x) f tk) := by
  obtain ⟨fd, F, _, b⟩ := c.fn
  refine ⟨fun pins s σ H Q I h => wpAny_Call_Name_kw (ld_glob I hg c.m ?_ hdb)⟩
  refine PySem.W.callWith_KW0 (h₀ := X.base) I.ok.mod.kin c.c.v.kC hall (thn (hk.run pos pins s σ H _ I h) fun ws s2 hu => ?_) hpl
  obtain ⟨zs, H2, J, rz, y, rfl, q⟩ := hu
  obtain ⟨u, rfl, ru⟩ := rz.one
  refine ⟨J.kIn, ?_⟩
  rw [hks]
  exact run_ve (us := []) (ws := [u]) (vl := fun a => [.ref a, y]) (al := fun a => [.ref a, u]) c.c.v c.c.iC c.c.tI F hr J (Nat.zero_le _) (fun s' a Y => b s' a [u] Y rfl) (fun a => .cons rfl (.cons ru .nil)) fun a na => sp_set na q
/-- C() -/
theorem pe_e0 {p pos : Pos} (c : EbC X.K (He.ga X.K x) i) (hm : X.mg x = some (.ref (He.ga X.K x))) (hg : Gl X x := by rfl) (hdb : (x == ("__debug__" : Str)) = false := by decide) :
    PE X (.Call (.Name x p) [] [] pos) (fun σ H Q => ∀ a, H a = none → Q (.ref a) (upd H a (ExO (.ref (He.ga X.K x)) a))) := by
  obtain ⟨B, n, ii, bm, F, q⟩ := c.e
  exact pe_ve0 F q hm c.kC hg hdb
end
/-! ### an error with two fields -/
def spSet2 (C : Addr) (f g : Str) : Sp := fun vs H Q _ => ∃ (a : Addr) (y z : V), vs = [.ref a, y, z] ∧ H a = some (exo a C none) ∧ ∀ dx, H dx = none → dx ≠ a → Q .non (upd (upd (upd H dx (exd dx [(f, y)])) a (exo a C (some dx))) dx (exd dx [(g, z), (f, y)]))
structure Er2C (P : Program) (w : World) (K : Fr) (mg : Str → Option Value) (base : Heap) (x f g : Str) (i : Nat) : Prop where
  c : EcC K (He.ga K x) (mAd x "__init__" K) [f, g] i
  m : mg x = some (.ref (He.ga K x))
  fn : ∃ fd, FnOk P w K mg base CX0 1 (mAd x "__init__" K) fd [("self" : Str), f, g] (spSet2 (He.ga K x) f g) ∧ Binds K fd [("self" : Str), f, g] [] ∧
    ∀ (s' : Shared) (a : Addr) (ws : List Value), K.In s'.heap → ws.length = 2 → BindsTo s' fd ⟨[.ref a], List.zip [g, f] ws⟩ (List.zip [("self" : Str), f, g] (.ref a :: ws.reverse))
theorem set2_same {H : Hp} {a dx C : Addr} {f g : Str} {y z : V} (na : H a = none) (nd : upd H a (exo a C none) dx = none) (ne : dx ≠ a) {G : Hp}
    (e : G = upd (upd (upd (upd H a (exo a C none)) dx (exd dx [(f, y)])) a (exo a C (some dx))) dx (exd dx [(g, z), (f, y)])) : Same H G ∧ VeAt G a C [(g, z), (f, y)] := by
  subst e
  rw [upd_ne ne] at nd
  refine ⟨fun b o e => ?_, dx, ?_, upd_same⟩
  · rw [upd_ne (ne_of_none e nd), upd_ne (ne_of_none e na), upd_ne (ne_of_none e nd), upd_ne (ne_of_none e na)]
    exact e
  · rw [upd_ne (Ne.symm ne), upd_same]
theorem sp_set2 {H : Hp} {C a : Addr} {f g : Str} {y z : V} {Q : VK} (na : H a = none) (q : ∀ H' a, Same H H' → H a = none → VeAt H' a C [(g, z), (f, y)] → Q (.ref a) H') :
    spSet2 C f g [.ref a, y, z] (upd H a (exo a C none)) (fun v H2 => v = .non ∧ Q (.ref a) H2) E0 := by
  refine ⟨a, y, z, rfl, upd_same, fun dx nd ne => ⟨rfl, ?_⟩⟩
  obtain ⟨s, v⟩ := set2_same (f := f) (g := g) (y := y) (z := z) na nd ne rfl
  exact q _ a s na v
section
variable {X : Cx} {x f g : Str} {i : Nat}
def tE2 (C : Addr) (f g : Str) (t : TA) : TE := fun σ H Q => t σ H fun vs H1 => ∃ y z, vs = [y, z] ∧ ∀ H' a, Same H1 H' → H1 a = none → VeAt H' a C [(g, z), (f, y)] → Q (.ref a) H'
theorem pe_e2 {e e2 : Expr} {t : TA} {p pos : Pos} (c : Er2C X.prog X.w X.K X.mg X.base x f g i) (hr : Room 2 X.A) (ha : PA X [e, e2] t) (hg : Gl X x := by rfl)
    (hdb : (x == ("__debug__" : Str)) = false := by decide) (he : starEach [e, e2] X.env = (false, eval e X.env) :: starEach [e2] X.env := by rfl) (hpl : (backTo pos (starEach [e2] X.env)).any (·.1) = false := by rfl) :
    PE X (.Call (.Name x p) [e, e2] [] pos) (tE2 (He.ga X.K x) f g t) := by
  obtain ⟨fd, F, b, _⟩ := c.fn
  refine ⟨fun pins s σ H Q I h => wpAny_Call_Name_kw (ld_glob I hg c.m ?_ hdb)⟩
  refine PySem.W.callWith_K (h₀ := X.base) I.ok.mod.kin c.c.v.kC (thn (ha.run pos pins s σ H _ I h) fun us s1 hu => ?_) he hpl
  obtain ⟨vs, H1, J, r, y, z, rfl, q⟩ := hu
  obtain ⟨u, u2, rfl, ru, ru2⟩ := vals2 r
  refine ⟨J.kIn, run_ve (ks := []) (ws := []) (vl := fun a => [.ref a, y, z]) (al := fun a => [.ref a, u, u2]) c.c.v c.c.iC c.c.tI F hr J (by show 2 ≤ sizeLine; decide) (fun s' a Y => ?_) (fun a => .cons rfl (.cons ru (.cons ru2 .nil))) fun a na => sp_set2 na q⟩
  exact b s' [.ref a, u, u2] Y rfl
def tE2K (C : Addr) (f g : Str) (tk : TA) : TE := fun σ H Q => tk σ H fun zs H1 => ∃ y z, zs = [z, y] ∧ ∀ H' a, Same H1 H' → H1 a = none → VeAt H' a C [(g, z), (f, y)] → Q (.ref a) H'
theorem pe_e2K {kws : List Keyword} {tk : TA} {p pos : Pos} (c : Er2C X.prog X.w X.K X.mg X.base x f g i) (hr : Room 2 X.A) (hk : PK X kws tk) (hg : Gl X x := by rfl)
    (hall : (backToKw pos (keywordEach kws X.env)).all (·.1.isSome) = true := by rfl) (hks : (backToKw pos (keywordEach kws X.env)).filterMap (·.1) = [g, f] := by rfl) (hdb : (x == ("__debug__" : Str)) = false := by decide)
    (hpl : ((backTo pos (starEach [] X.env)).any (·.1) || (backToKw pos (keywordEach kws X.env)).any (·.1.isNone)) = false := by rfl) : PE X (.Call (.Name x p) [] kws pos) (tE2K (He.ga X.K x) f g tk) := by
  obtain ⟨fd, F, _, b⟩ := c.fn
  refine ⟨fun pins s σ H Q I h => wpAny_Call_Name_kw (ld_glob I hg c.m ?_ hdb)⟩
  refine PySem.W.callWith_KW0 (h₀ := X.base) I.ok.mod.kin c.c.v.kC hall (thn (hk.run pos pins s σ H _ I h) fun ws s2 hu => ?_) hpl
  obtain ⟨zs, H2, J, rz, y, z, rfl, q⟩ := hu
  obtain ⟨u, u2, rfl, ru, ru2⟩ := vals2 rz
  refine ⟨J.kIn, ?_⟩
  rw [hks]
  exact run_ve (us := []) (ws := [u, u2]) (vl := fun a => [.ref a, y, z]) (al := fun a => [.ref a, u2, u]) c.c.v c.c.iC c.c.tI F hr J (Nat.zero_le _) (fun s' a Y => b s' a [u, u2] Y rfl) (fun a => .cons rfl (.cons ru2 (.cons ru .nil))) fun a na => sp_set2 na q
end
end Hk

/-! Fractions in lowest terms, over Int. -/
namespace NumM
def sg (b : Int) : Int := if b < 0 then -1 else 1
def gd (h b : Int) : Int := ((Nat.gcd h.natAbs b.natAbs : Nat) : Int)
def lowT (h b : Int) : Int := sg b * h / gd h b
def lowB (h b : Int) : Int := sg b * b / gd h b
theorem gd_pos {h b : Int} (hb : b ≠ 0) : 0 < gd h b := by
  have : 0 < Nat.gcd h.natAbs b.natAbs := Nat.gcd_pos_of_pos_right _ (by omega)
  unfold gd; omega
theorem gd_dvd_l (h b : Int) : gd h b ∣ h := by
  unfold gd
  exact Int.ofNat_dvd_left.mpr (Nat.gcd_dvd_left _ _)
theorem gd_dvd_r (h b : Int) : gd h b ∣ b := by
  unfold gd
  exact Int.ofNat_dvd_left.mpr (Nat.gcd_dvd_right _ _)
theorem gd_le {h b : Int} (hb : b ≠ 0) : (gd h b).natAbs ≤ b.natAbs := by
  have := Nat.gcd_le_right h.natAbs (show 0 < b.natAbs by omega)
  unfold gd; omega
theorem sg_sq (b : Int) : sg b * sg b = 1 := by unfold sg; split <;> rfl
theorem sg_mul {b : Int} (hb : b ≠ 0) : 0 < sg b * b := by unfold sg; split <;> omega
theorem natAbs_sg (b x : Int) : (sg b * x).natAbs = x.natAbs := by unfold sg; split <;> simp
theorem lowT_mul {h b : Int} : lowT h b * gd h b = sg b * h := by
  unfold lowT
  exact Int.ediv_mul_cancel (Int.dvd_mul_of_dvd_right (gd_dvd_l h b))
theorem lowB_mul {h b : Int} : lowB h b * gd h b = sg b * b := by
  unfold lowB
  exact Int.ediv_mul_cancel (Int.dvd_mul_of_dvd_right (gd_dvd_r h b))
theorem low_pos {h b : Int} (hb : b ≠ 0) : 0 < lowB h b := by
  have h1 := gd_pos (h := h) hb
  have h2 := sg_mul hb
  rw [← lowB_mul (h := h)] at h2
  exact Int.pos_of_mul_pos_left h2 (by omega)
theorem low_cop {h b : Int} (hb : b ≠ 0) : Nat.gcd (lowT h b).natAbs (lowB h b).natAbs = 1 := by
  have hp := gd_pos (h := h) hb
  have e1 : (lowT h b).natAbs * (gd h b).natAbs = h.natAbs := by rw [← Int.natAbs_mul, lowT_mul, natAbs_sg]
  have e2 : (lowB h b).natAbs * (gd h b).natAbs = b.natAbs := by rw [← Int.natAbs_mul, lowB_mul, natAbs_sg]
  have g : Nat.gcd ((lowT h b).natAbs * (gd h b).natAbs) ((lowB h b).natAbs * (gd h b).natAbs) = (gd h b).natAbs := by
    rw [e1, e2]; unfold gd; simp
  rw [Nat.gcd_mul_right] at g
  have hp' : 0 < (gd h b).natAbs := by omega
  exact Nat.eq_of_mul_eq_mul_right hp' (by rw [g, Nat.one_mul])
theorem low_eq {h b : Int} (hb : b ≠ 0) : lowT h b * b = h * lowB h b := by
  have hp := gd_pos (h := h) hb
  have e1 := lowT_mul (h := h) (b := b)
  have e2 := lowB_mul (h := h) (b := b)
  have : (lowT h b * b) * gd h b = (h * lowB h b) * gd h b := by
    calc (lowT h b * b) * gd h b = (lowT h b * gd h b) * b := by rw [Int.mul_right_comm]
      _ = (sg b * h) * b := by rw [e1]
      _ = h * (sg b * b) := by rw [Int.mul_comm (sg b) h, Int.mul_assoc]
      _ = h * (lowB h b * gd h b) := by rw [e2]
      _ = (h * lowB h b) * gd h b := by rw [Int.mul_assoc]
  exact Int.eq_of_mul_eq_mul_right (by omega) this
theorem uniq {t b u c : Int} (hb : 0 < b) (hc : 0 < c) (h1 : Nat.gcd t.natAbs b.natAbs = 1) (h2 : Nat.gcd u.natAbs c.natAbs = 1) (e : t * c = u * b) : t = u ∧ b = c := by
  have en : t.natAbs * c.natAbs = u.natAbs * b.natAbs := by rw [← Int.natAbs_mul, ← Int.natAbs_mul, e]
  have d1 : b.natAbs ∣ c.natAbs := by
    have : b.natAbs ∣ t.natAbs * c.natAbs := ⟨u.natAbs, by rw [en, Nat.mul_comm]⟩
    exact Nat.Coprime.dvd_of_dvd_mul_left (show Nat.Coprime b.natAbs t.natAbs by unfold Nat.Coprime; rw [Nat.gcd_comm]; exact h1) this
  have d2 : c.natAbs ∣ b.natAbs := by
    have : c.natAbs ∣ u.natAbs * b.natAbs := ⟨t.natAbs, by rw [← en, Nat.mul_comm]⟩
    exact Nat.Coprime.dvd_of_dvd_mul_left (show Nat.Coprime c.natAbs u.natAbs by unfold Nat.Coprime; rw [Nat.gcd_comm]; exact h2) this
  have ebc : b.natAbs = c.natAbs := Nat.dvd_antisymm d1 d2
  have bc : b = c := by omega
  subst bc
  exact ⟨Int.eq_of_mul_eq_mul_right (by omega) e, rfl⟩
theorem low_of {h b t c : Int} (hb : b ≠ 0) (hc : 0 < c) (h1 : Nat.gcd t.natAbs c.natAbs = 1) (e : t * b = h * c) : lowT h b = t ∧ lowB h b = c := by
  have l := low_eq (h := h) hb
  refine uniq (low_pos hb) hc (low_cop hb) h1 ?_
  have : (lowT h b * c) * b = (t * lowB h b) * b := by
    calc (lowT h b * c) * b = (lowT h b * b) * c := by rw [Int.mul_right_comm]
      _ = h * lowB h b * c := by rw [l]
      _ = (h * c) * lowB h b := by rw [Int.mul_right_comm]
      _ = (t * b) * lowB h b := by rw [e]
      _ = (t * lowB h b) * b := by rw [Int.mul_right_comm]
  exact Int.eq_of_mul_eq_mul_right hb this
theorem low_red {t b : Int} (hb : 0 < b) (h1 : Nat.gcd t.natAbs b.natAbs = 1) : lowT t b = t ∧ lowB t b = b := low_of (by omega) hb h1 rfl
theorem low_mul {h b m : Int} (hb : b ≠ 0) (hm : m ≠ 0) : lowT (h * m) (b * m) = lowT h b ∧ lowB (h * m) (b * m) = lowB h b := by
  refine low_of (Int.mul_ne_zero hb hm) (low_pos hb) (low_cop hb) ?_
  rw [← Int.mul_assoc, low_eq hb, Int.mul_right_comm]
theorem natAbs_le_of_mul {x g y : Int} (hg : 0 < g) (e : x * g = y) : x.natAbs ≤ y.natAbs := by
  rw [← e, Int.natAbs_mul]
  exact Nat.le_mul_of_pos_right _ (by omega)
theorem lowT_le {h b : Int} (hb : b ≠ 0) : (lowT h b).natAbs ≤ h.natAbs := by
  have := natAbs_le_of_mul (gd_pos (h := h) hb) (lowT_mul (h := h) (b := b))
  rwa [natAbs_sg] at this
theorem lowB_le {h b : Int} (hb : b ≠ 0) : (lowB h b).natAbs ≤ b.natAbs := by
  have := natAbs_le_of_mul (gd_pos (h := h) hb) (lowB_mul (h := h) (b := b))
  rwa [natAbs_sg] at this
/-- what __init__ divides by -/
def shr (h b : Int) : Int := if b < 0 then -(gd h b) else gd h b
theorem shr_eq (h b : Int) : shr h b = sg b * gd h b := by unfold shr sg; split <;> simp
theorem fdiv_of {x y z : Int} (hy : y ≠ 0) (e : x = z * y) : x.fdiv y = z := by
  rw [e]
  exact Int.mul_fdiv_cancel _ hy
theorem init_top {h b : Int} (hb : b ≠ 0) : h.fdiv (shr h b) = lowT h b := by
  have hp := gd_pos (h := h) hb
  refine fdiv_of (by rw [shr_eq]; unfold sg; split <;> omega) ?_
  rw [shr_eq, Int.mul_comm (sg b), ← Int.mul_assoc, lowT_mul, Int.mul_right_comm, sg_sq, Int.one_mul]
theorem init_bot {h b : Int} (hb : b ≠ 0) : b.fdiv (shr h b) = lowB h b := by
  have hp := gd_pos (h := h) hb
  refine fdiv_of (by rw [shr_eq]; unfold sg; split <;> omega) ?_
  rw [shr_eq, Int.mul_comm (sg b), ← Int.mul_assoc, lowB_mul, Int.mul_right_comm, sg_sq, Int.one_mul]
theorem shr_ne {h b : Int} (hb : b ≠ 0) : shr h b ≠ 0 := by
  have hp := gd_pos (h := h) hb
  rw [shr_eq]; unfold sg; split <;> omega
theorem shr_le {h b : Int} (hb : b ≠ 0) : (shr h b).natAbs ≤ b.natAbs := by
  rw [shr_eq, natAbs_sg]; exact gd_le hb
end NumM

/-! The texts of ints and fractions, as lists of codes. -/
namespace NumT
open PySem PySem.Spec PyProof.Rows L2 SX
open TL (numL)
def iL (z : Int) : List Nat := if z < 0 then 45 :: numL z.natAbs else numL z.natAbs
theorem toS (z : Int) : ((toString z : String) : Str) = S (iL z) := by
  unfold iL
  by_cases h : z < 0
  · rw [if_pos h]
    obtain ⟨n, rfl⟩ : ∃ n : Nat, z = -((n : Nat) : Int) := ⟨z.natAbs, by omega⟩
    have hn : 0 < n := by omega
    obtain ⟨m, rfl⟩ : ∃ m, n = m + 1 := ⟨n - 1, by omega⟩
    have e : (toString (-(((m + 1 : Nat)) : Int)) : String) = "-" ++ toString (((m + 1 : Nat) : Nat) : Int) := rfl
    have e2 : ((-(((m + 1 : Nat)) : Int)).natAbs) = m + 1 := by omega
    rw [e2]
    show Str.ofString (toString (-(((m + 1 : Nat)) : Int))) = _
    rw [e]
    have e3 := TL.tl_num (m + 1)
    refine TL.ext_tl ?_
    show (Str.ofString ("-" ++ toString (((m + 1 : Nat)) : Int))).cps.toList = _
    have e4 : (Str.ofString ("-" ++ toString (((m + 1 : Nat)) : Int))).cps.toList = 45 :: (Str.ofString (toString (((m + 1 : Nat)) : Int))).cps.toList := by
      simp [Str.ofString]
      rfl
    rw [e4]
    exact congrArg (45 :: ·) e3
  · rw [if_neg h]
    obtain ⟨n, rfl⟩ : ∃ n : Nat, z = ((n : Nat) : Int) := ⟨z.natAbs, by omega⟩
    exact num_S n
theorem iL_free {z : Int} : 47 ∉ iL z := by
  unfold iL
  split
  · intro h
    rcases List.mem_cons.mp h with h | h
    · cases h
    · exact TL.numL_free (by decide) h
  · exact TL.numL_free (by decide)
theorem numL_all (n : Nat) : NumText.AllDigits (numL n) := TL.numL_digits n
theorem pre_one {c d : Nat} {r : List Nat} : TL.pre [c] (d :: r) = decide (c = d) := by
  by_cases h : c = d
  · rw [decide_eq_true h]
    subst h
    simp [TL.pre]
  · rw [decide_eq_false h]
    have h2 : ¬ d = c := fun e => h e.symm
    simp [TL.pre, h, h2]
theorem par_none (c : Nat) : ∀ (a acc : List Nat), c ∉ a → TL.par [c] acc a = none
  | [], _, _ => rfl
  | d :: r, acc, h => by
    have hd : ¬ c = d := fun e => h (by rw [e]; exact List.mem_cons_self)
    show (if TL.pre [c] (d :: r) = true then _ else _) = _
    rw [pre_one, decide_eq_false hd, if_neg Bool.false_ne_true]
    exact par_none c r _ fun z => h (List.mem_cons_of_mem _ z)
theorem par_some (c : Nat) (q : List Nat) : ∀ (a acc : List Nat), c ∉ a → TL.par [c] acc (a ++ c :: q) = some (acc ++ a, q)
  | [], acc, _ => by
    show (if TL.pre [c] (c :: q) = true then _ else _) = _
    rw [pre_one, decide_eq_true rfl, if_pos rfl]
    simp
  | d :: r, acc, h => by
    have hd : ¬ c = d := fun e => h (by rw [e]; exact List.mem_cons_self)
    rw [List.cons_append]
    show (if TL.pre [c] (d :: (r ++ c :: q)) = true then _ else TL.par [c] (acc ++ [d]) (r ++ c :: q)) = _
    rw [pre_one, decide_eq_false hd, if_neg Bool.false_ne_true, par_some c q r _ fun z => h (List.mem_cons_of_mem _ z)]
    simp
theorem part_none {a : List Nat} (h : 47 ∉ a) : Txt.partition (S a) (S [47]) = (S a, S [], S []) := partition_none (by simp) (par_none 47 a [] h)
theorem part_some {a q : List Nat} (h : 47 ∉ a) : Txt.partition (S (a ++ 47 :: q)) (S [47]) = (S a, S [47], S q) := partition_some (by simp) (par_some 47 q a [] h)
theorem slash_S : ("/" : Str) = S [47] := by decide +kernel
theorem minus_S : ("-" : Str) = S [45] := by decide +kernel
/-- digits, and at least one -/
def dig (a : List Nat) : Bool := !a.isEmpty && a.all (fun c => decide (48 ≤ c) && decide (c ≤ 57))
theorem ascii_S (a : List Nat) : Txt.isascii (S a) = a.all (fun c => decide (c < 128)) := by
  show (S a).cps.all (· < 128) = _
  rw [← Array.all_toList]
theorem digit_S {a : List Nat} (h : a.all (fun c => decide (c < 128)) = true) : Txt.isdigit (S a) = dig a := by
  have e : Txt.isdigit (S a) = (decide ((S a).length > 0) && (S a).cps.all Unicode.isDigit) := rfl
  rw [e, ← Array.all_toList, S_len]
  show (decide (a.length > 0) && a.all Unicode.isDigit) = _
  unfold dig
  have e1 : decide (a.length > 0) = !a.isEmpty := by cases a <;> simp
  rw [e1]
  congr 1
  have hall : ∀ c ∈ a, c < 128 := fun c hc => of_decide_eq_true (List.all_eq_true.mp h c hc)
  clear h e e1
  induction a with
  | nil => rfl
  | cons c r ih =>
    have k : ∀ n : _root_.Fin 128, Unicode.isDigit n.val = (decide (48 ≤ n.val) && decide (n.val ≤ 57)) := by decide +kernel
    rw [List.all_cons, List.all_cons, ih fun d hd => hall d (List.mem_cons_of_mem _ hd), k ⟨c, hall c List.mem_cons_self⟩]
/-- isascii and isdigit together -/
theorem both_S (a : List Nat) : (Txt.isascii (S a) && Txt.isdigit (S a)) = dig a := by
  rw [ascii_S]
  cases h : a.all (fun c => decide (c < 128)) with
  | true => rw [Bool.true_and]; exact digit_S h
  | false =>
    rw [Bool.false_and]
    cases q : dig a with
    | false => rfl
    | true =>
      unfold dig at q
      have q2 := (Bool.and_eq_true_iff.mp q).2
      have : a.all (fun c => decide (c < 128)) = true := List.all_eq_true.mpr fun c hc => by
        have z := List.all_eq_true.mp q2 c hc
        rw [Bool.and_eq_true, decide_eq_true_eq, decide_eq_true_eq] at z
        exact decide_eq_true (by omega)
      rw [this] at h
      exact nomatch h
theorem dig_num (n : Nat) : dig (numL n) = true := by
  unfold dig
  have h1 := TL.numL_ne n
  have h2 := numL_all n
  rw [Bool.and_eq_true]
  refine ⟨by cases e : numL n with
    | nil => exact absurd e h1
    | cons => rfl, List.all_eq_true.mpr fun c hc => ?_⟩
  have := h2 c hc
  rw [Bool.and_eq_true, decide_eq_true_eq, decide_eq_true_eq]
  exact this
theorem dig_all {a : List Nat} (h : dig a = true) : NumText.AllDigits a ∧ a ≠ [] := by
  unfold dig at h
  obtain ⟨h1, h2⟩ := Bool.and_eq_true_iff.mp h
  refine ⟨fun c hc => ?_, by rintro rfl; exact nomatch h1⟩
  have z := List.all_eq_true.mp h2 c hc
  rw [Bool.and_eq_true, decide_eq_true_eq, decide_eq_true_eq] at z
  exact z
/-- removeprefix('-') -/
def unsig : List Nat → List Nat
  | 45 :: r => r
  | a => a
theorem rmp_S (a : List Nat) (ha : a ≠ [45]) : Txt.removeprefix (S a) (S [45]) = S (unsig a) := by
  rw [StrLaws.removeprefix_eq]
  have e : ∀ l : List Nat, Builtin.Str.subAt (S l) (S [45]) 0 = (match l with
    | c :: _ => decide (45 = c)
    | [] => false) := fun l => by
    rw [StrLaws.subAt_eq]
    cases l with
    | nil => decide +kernel
    | cons c r =>
      show (((c :: r).drop 0).take 1 == [45]) = _
      simp [eq_comm]
      try rfl
  cases a with
  | nil => decide +kernel
  | cons c r =>
    rw [e (c :: r)]
    have hl : decide (0 + (S [45]).length ≤ (S (c :: r)).length) = true := by
      rw [S_len, S_len]
      simp
    rw [hl, Bool.true_and]
    by_cases h : 45 = c
    · subst h
      show (if decide ((45 : Nat) = 45) = true then _ else _) = _
      rw [if_pos (by decide)]
      refine TL.ext_tl ?_
      show (((45 :: r).drop (S [45]).length).take ((S (45 :: r)).length - (S [45]).length)) = r
      rw [S_len, S_len]
      simp
    · have hu : unsig (c :: r) = c :: r := by
        unfold unsig
        split
        · rename_i z
          have := (List.cons.inj z).1
          exact absurd this.symm h
        · rfl
      show (if decide (45 = c) = true then _ else _) = _
      rw [decide_eq_false h, if_neg Bool.false_ne_true, hu]
theorem unsig_i (z : Int) : unsig (iL z) = numL z.natAbs := by
  unfold iL
  split
  · rfl
  · have h := numL_all z.natAbs
    cases e : numL z.natAbs with
    | nil => rfl
    | cons c r =>
      have := h c (by rw [e]; exact List.mem_cons_self)
      unfold unsig
      split
      · rename_i z
        have := (List.cons.inj z).1
        omega
      · rfl
theorem iL_ne45 (z : Int) : iL z ≠ [45] := fun h => by
  have e := unsig_i z
  rw [h] at e
  exact TL.numL_ne _ e.symm
theorem num_len {n : Nat} (h : n < 2 ^ 1000) : (numL n).length ≤ 302 := TL.numL_len (by decide) (Nat.lt_of_lt_of_le h (by decide +kernel))
theorem i_len {z : Int} (h : z.natAbs < 2 ^ 1000) : (iL z).length ≤ 303 := by
  unfold iL
  have := num_len h
  split
  · rw [List.length_cons]; omega
  · omega
theorem int_i {z : Int} (h : z.natAbs < 2 ^ 1000) : intText? (S (iL z)) = some z := by
  have hl := num_len h
  unfold iL
  split
  · rename_i hz
    have e := PySem.intText_neg (x := S (45 :: numL z.natAbs)) (cs := numL z.natAbs) rfl (numL_all _) (TL.numL_ne _) (by rw [S_len, List.length_cons]; omega)
    rw [TL.numL_val] at e
    rw [e]
    congr 1
    omega
  · rename_i hz
    have e := PySem.intText_digits (x := S (numL z.natAbs)) (numL_all _) (TL.numL_ne _) (by rw [S_len]; omega)
    have e2 : (S (numL z.natAbs)).cps.toList = numL z.natAbs := rfl
    rw [e2, TL.numL_val] at e
    rw [e]
    congr 1
    omega
/-- the text of a fraction -/
def fL (t b : Int) : List Nat := if b = 1 then iL t else iL t ++ 47 :: iL b
theorem iL_inj {x y : Int} (h : iL x = iL y) : x = y := by
  have hu := congrArg unsig h
  rw [unsig_i, unsig_i] at hu
  have e := TL.numL_inj hu
  by_cases hx : x < 0 <;> by_cases hy : y < 0
  · omega
  · exfalso
    unfold iL at h
    rw [if_pos hx, if_neg hy] at h
    have := numL_all y.natAbs 45 (by rw [← h]; exact List.mem_cons_self)
    omega
  · exfalso
    unfold iL at h
    rw [if_neg hx, if_pos hy] at h
    have := numL_all x.natAbs 45 (by rw [h]; exact List.mem_cons_self)
    omega
  · omega
theorem f_len {t b : Int} (h1 : t.natAbs < 2 ^ 1000) (h2 : b.natAbs < 2 ^ 1000) : (fL t b).length ≤ 610 := by
  have a := i_len h1
  have c := i_len h2
  unfold fL
  split
  · omega
  · rw [List.length_append, List.length_cons]; omega
theorem fL_inj {t b u c : Int} (h : fL t b = fL u c) : t = u ∧ b = c := by
  unfold fL at h
  by_cases hb : b = 1 <;> by_cases hc : c = 1
  · rw [if_pos hb, if_pos hc] at h
    exact ⟨iL_inj h, by omega⟩
  · rw [if_pos hb, if_neg hc] at h
    exact absurd (by rw [h]; simp) (iL_free (z := t))
  · rw [if_neg hb, if_pos hc] at h
    exact absurd (by rw [← h]; simp) (iL_free (z := u))
  · rw [if_neg hb, if_neg hc] at h
    have p1 := par_some 47 (iL b) (iL t) [] iL_free
    have p2 := par_some 47 (iL c) (iL u) [] iL_free
    rw [h, p2] at p1
    have := Prod.mk.inj (Option.some.inj p1)
    exact ⟨(iL_inj this.1).symm, (iL_inj this.2).symm⟩
end NumT

namespace Hk
open PySem PySem.Spec PyProof.Rows L2 NumM NumT SX
/-- codes below 128 -/
def Asc (x : Str) : Prop := ∀ c ∈ x.cps.toList, c < 128
theorem Asc.app {x y : Str} (h : Asc x) (g : Asc y) : Asc (x ++ y) := fun c hc => by
  rw [show (x ++ y).cps.toList = x.cps.toList ++ y.cps.toList from TL.tl_append x y] at hc
  rcases List.mem_append.mp hc with z | z
  · exact h c z
  · exact g c z
theorem Asc.ok {x : Str} (h : Asc x) : PyData.strOk x = true := by
  unfold PyData.strOk
  rw [← Array.all_toList, List.all_eq_true]
  intro c hc
  have := h c hc
  exact decide_eq_true (by omega)
theorem char_asc (q c : Nat) (hq : q = 39 ∨ q = 34) (hc : c < 128) : ∀ d ∈ Builtin.Str.reprChar q c, d < 128 := by
  have k : ∀ n : _root_.Fin 128, ((Builtin.Str.reprChar 39 n.val).all (fun d => decide (d < 128)) && (Builtin.Str.reprChar 34 n.val).all (fun d => decide (d < 128))) = true := by decide +kernel
  have h := k ⟨c, hc⟩
  obtain ⟨h1, h2⟩ := Bool.and_eq_true_iff.mp h
  intro d hd
  rcases hq with rfl | rfl
  · exact of_decide_eq_true (List.all_eq_true.mp h1 d hd)
  · exact of_decide_eq_true (List.all_eq_true.mp h2 d hd)
theorem fold_asc (q : Nat) (hq : q = 39 ∨ q = 34) : ∀ (l : List Nat) (acc : Array Nat), (∀ c ∈ l, c < 128) → (∀ c ∈ acc.toList, c < 128) → ∀ c ∈ (l.foldl (fun out c => out ++ (Builtin.Str.reprChar q c).toArray) acc).toList, c < 128
  | [], acc, _, h => h
  | x :: r, acc, hl, h => by
    rw [List.foldl_cons]
    refine fold_asc q hq r _ (fun c hc => hl c (List.mem_cons_of_mem _ hc)) fun c hc => ?_
    rw [Array.toList_append] at hc
    rcases List.mem_append.mp hc with z | z
    · exact h c z
    · exact char_asc q x hq (hl x List.mem_cons_self) c (by simpa using z)
theorem repr_asc {x : Str} (h : Asc x) : Asc (reprText x) := by
  have hq : reprQuote x = 39 ∨ reprQuote x = 34 := by
    unfold reprQuote
    split <;> simp
  intro c hc
  unfold reprText at hc
  rw [Array.toList_push] at hc
  rcases List.mem_append.mp hc with z | z
  · rw [← Array.foldl_toList] at z
    refine fold_asc _ hq x.cps.toList _ h (fun d hd => ?_) c z
    have : d = reprQuote x := by simpa using hd
    rw [this]
    rcases hq with e | e <;> rw [e] <;> decide
  · have : c = reprQuote x := by simpa using z
    rw [this]
    rcases hq with e | e <;> rw [e] <;> decide
theorem lit_asc {x : Str} (h : x.cps.toList.all (fun c => decide (c < 128)) = true) : Asc x := fun c hc => of_decide_eq_true (List.all_eq_true.mp h c hc)
theorem join_asc {s : Str} {ts : List Str} (hs : Asc s) (h : ∀ t ∈ ts, Asc t) : Asc (Str.join s ts) := fun c hc => by
  rcases (mem_join s c ts).mp hc with ⟨t, ht, z⟩ | ⟨_, z⟩
  · exact h t ht c z
  · exact hs c z
theorem S_asc {a : List Nat} (h : ∀ c ∈ a, c < 128) : Asc (S a) := h
theorem int_asc (i : Int) : Asc ((toString i : String) : Str) := by
  rw [toS]
  intro c hc
  have hc : c ∈ iL i := hc
  unfold iL at hc
  split at hc
  · rcases List.mem_cons.mp hc with h | h
    · omega
    · have := numL_all _ c h; omega
  · have := numL_all _ c hc; omega
mutual
/-- all texts in it have codes below 128 -/
def ascD : PyData → Prop
  | .str x => Asc x
  | .list xs => ascDs xs
  | .tuple xs => ascDs xs
  | .dict _ => False
  | _ => True
def ascDs : List PyData → Prop
  | [] => True
  | x :: xs => ascD x ∧ ascDs xs
end
mutual
theorem shown_asc : ∀ d : PyData, ascD d → Asc d.shown
  | .none, _ => lit_asc (by decide +kernel)
  | .bool b, _ => by cases b <;> exact lit_asc (by decide +kernel)
  | .int i, _ => by rw [PyData.shown_int]; exact int_asc i
  | .str x, h => by
    rw [PyData.shown_str]
    simp only [ascD] at h
    exact repr_asc h
  | .list xs, h => by
    simp only [ascD] at h
    rw [PyData.shown_list]
    exact ((lit_asc (by decide +kernel)).app (join_asc (lit_asc (by decide +kernel)) (shownAll_asc xs h))).app (lit_asc (by decide +kernel))
  | .tuple xs, h => by
    simp only [ascD] at h
    rw [PyData.shown_tuple]
    refine ((lit_asc (by decide +kernel)).app (join_asc (lit_asc (by decide +kernel)) (shownAll_asc xs h))).app ?_
    split <;> exact lit_asc (by decide +kernel)
  | .dict _, h => by simp only [ascD] at h
theorem shownAll_asc : ∀ xs : List PyData, ascDs xs → ∀ t ∈ PyData.shownAll xs, Asc t
  | [], _ => by
    rw [PyData.shownAll_nil]
    intro t ht
    exact absurd ht (List.not_mem_nil)
  | x :: xs, h => by
    simp only [ascDs] at h
    rw [PyData.shownAll_cons]
    intro t ht
    rcases List.mem_cons.mp ht with e | e
    · rw [e]; exact shown_asc x h.1
    · exact shownAll_asc xs h.2 t e
end
end Hk

/-! Numbers: what stands at an instance, promises, texts. -/
namespace Hk
open PySem PySem.Spec PyProof.Rows L2 NumM
/-! ### the class Number: data, promises -/
def numF (t b : Int) : List (Str × V) := [("_top", .int t), ("_bottom", .int b)]
theorem ktb : ¬ (("_top" : Str) = "_bottom") := by decide +kernel
theorem numF_eq (t b : Int) : putF "_bottom" (.int b) (putF "_top" (.int t) []) = numF t b := by
  show (if ("_top" : Str) = "_bottom" then [(("_top" : Str), V.int b)] else (("_top" : Str), V.int t) :: putF "_bottom" (V.int b) []) = numF t b
  rw [if_neg ktb]
  rfl
theorem numF_top (t b : Int) : (numF t b).lookup ("_top" : Str) = some (.int t) := by
  rw [← numF_eq, lookup_putF, if_neg ktb, lookup_putF, if_pos rfl]
theorem numF_bot (t b : Int) : (numF t b).lookup ("_bottom" : Str) = some (.int b) := by
  rw [← numF_eq, lookup_putF, if_pos rfl]
/-- a Number in lowest terms stands at p -/
structure NumAt (C : Addr) (H : Hp) (p : Addr) (t b : Int) : Prop where
  at_ : ∃ dx, H p = some (.ins C dx (numF t b))
  pos : 0 < b
  cop : Nat.gcd t.natAbs b.natAbs = 1
theorem NumAt.same {C : Addr} {H H' : Hp} {p : Addr} {t b : Int} (n : NumAt C H p t b) (s : Same H H') : NumAt C H' p t b := by
  obtain ⟨dx, h⟩ := n.at_
  exact ⟨⟨dx, s _ _ h⟩, n.pos, n.cop⟩
/-- sizes: numbers of this many bits -/
abbrev Sz (n : Int) : Prop := n.natAbs < 2 ^ 1000
def spInit (C : Addr) : Sp := fun vs H Q _ => ∃ (p dx : Addr) (h b : Int), vs = [.ref p, .int h, .int b] ∧ H p = some (.ins C dx []) ∧ b ≠ 0 ∧ Sz b ∧ Q .non (upd H p (.ins C dx (numF (lowT h b) (lowB h b))))
/-- a reader of a Number -/
def spGet (C : Addr) (g : Int → Int → V) : Sp := fun vs H Q _ => ∃ (p : Addr) (t b : Int), vs = [.ref p] ∧ NumAt C H p t b ∧ Sz t ∧ Sz b ∧ Q (g t b) H
def sgn (t : Int) : Int := if t = 0 then 0 else if 0 < t then 1 else -1
def txt (t b : Int) : Str := if b = 1 then ((toString t : String) : Str) else ((toString t : String) : Str) ++ ("/" : Str) ++ ((toString b : String) : Str)
/-- __eq__ -/
def spEq (C : Addr) (K : Fr) : Sp := fun vs H Q _ => ∃ (p : Addr) (t b : Int) (y : V), vs = [.ref p, y] ∧ NumAt C H p t b ∧
  ((∃ q u c, y = .ref q ∧ NumAt C H q u c ∧ Q (.bl (decide (t = u) && decide (b = c))) H) ∨ (∃ ty, TyX K H y ty ∧ PySem.W.kitOne K ty (.ref C) = some false ∧ Q (.bl false) H))
def spIsInt : Sp := fun vs H Q _ => ∃ i : Int, vs = [.int i] ∧ Q (.bl true) H
section
variable {X : Cx}
/-- // by any divisor below 2 ^ 9000 -/
def CDivG (_ j : Int) : Prop := j ≠ 0 ∧ j.natAbs.log2 < 9000
theorem op_fdivG : OpR X (binaryOp .FloorDiv) (rI CDivG fun i j => .int (i.fdiv j)) := opI fun _ _ _ _ _ _ _ hc q => floordiv_int hc.1 q (.inl (PyProof.noPylong_of_log2 hc.2))
end
theorem log2_sz {i : Int} (h : Sz i) : i.natAbs.log2 < 1000 := PySem.Flt.log2_lt_of (by decide) h
end Hk
namespace Hk
open PySem PySem.Spec PyProof.Rows L2 NumM NumT SX
theorem empty_S : Str.empty = S [] := by decide +kernel
theorem log2_small {i : Int} (h : Sz i) : i.natAbs.log2 < 1920 := Nat.lt_trans (log2_sz h) (by decide)
theorem line_ge {n : Nat} (h : n ≤ 100000) : n ≤ sizeLine := Nat.le_trans h (by decide)
end Hk
namespace Hk
open PySem PySem.Spec PyProof.Rows L2 NumM NumT SX
/-- a promise about one text -/
def spDigits : Sp := fun vs H Q _ => ∃ a : List Nat, vs = [.str (S a)] ∧ Q (.bl (dig a)) H
end Hk
namespace Hk
open PySem PySem.Spec PyProof.Rows L2 NumM NumT SX
/-- a new Number comes back -/
abbrev NewNum (C : Addr) (H : Hp) (Q : VK) (t b : Int) : Prop := ∀ (H' : Hp) (p : Addr), Same H H' → H p = none → NumAt C H' p t b → Q (.ref p) H'
/-- a text of a fraction in lowest terms is read -/
def spRead (C : Addr) : Sp := fun vs H Q _ => ∃ t b : Int, vs = [.str (S (fL t b))] ∧ 0 < b ∧ Nat.gcd t.natAbs b.natAbs = 1 ∧ Sz t ∧ Sz b ∧ NewNum C H Q t b
theorem truS {K : Fr} {H : Hp} {a : List Nat} (h : a.length ≤ 100000) : TruV K (.str (S a)) H (!a.isEmpty) := by
  refine ⟨by rw [S_len]; exact line_ge h, ?_⟩
  rw [S_len]
  cases a with
  | nil => rfl
  | cons c r => rfl
/-- an instance is laid: it and its dict are new -/
theorem laid_same {H : Hp} {x dx C : Addr} {fs : List (Str × V)} (nx : H x = none) (nd : H dx = none) : Same H (upd (upd (upd H dx (.own x)) x (.ins C dx [])) x (.ins C dx fs)) := by
  intro b o e
  rw [upd_upd, upd_ne (ne_of_none e nx), upd_ne (ne_of_none e nd)]
  exact e
theorem same_upd {H : Hp} {p : Addr} {o : HO} (h : H p = none) : Same H (upd H p o) := fun b u e => by
  rw [upd_ne (ne_of_none e h)]
  exact e
theorem same_upd' {H H1 : Hp} {p : Addr} {o : HO} (s : Same H H1) (h : H p = none) : Same H (upd H1 p o) := fun b u e => by
  rw [upd_ne (ne_of_none e h)]
  exact s b u e
/-- a call of the class with its two arguments: what __init__ promises of it -/
theorem mk_num {C : Addr} {H : Hp} {Q : VK} {h b : Int} (hb : b ≠ 0) (sb : Sz b) (k : NewNum C H Q (lowT h b) (lowB h b)) : ∀ x dx, H x = none → H dx = none → dx ≠ x →
    spInit C [.ref x, .int h, .int b] (upd (upd H dx (.own x)) x (.ins C dx [])) (fun v H2 => v = .non ∧ Q (.ref x) H2) E0 := by
  intro x dx nx nd ne
  refine ⟨x, dx, h, b, rfl, upd_same, hb, sb, rfl, ?_⟩
  exact k _ x (laid_same nx nd) nx ⟨⟨dx, upd_same⟩, low_pos hb, low_cop hb⟩
end Hk
namespace Hk
open PySem PySem.Spec PyProof.Rows L2 NumM NumT SX
theorem map_int_get {ns : List Int} {j : Nat} (h : j < ns.length) : ∃ n : Int, ns[j]? = some n ∧ atI (ns.map V.int) ((j : Nat) : Int) = some (V.int n) := by
  refine ⟨ns[j], by simp [h], ?_⟩
  refine atI_nat ?_
  rw [List.getElem?_map]
  simp [h]
end Hk
namespace Hk
open PySem PySem.Spec PyProof.Rows L2 NumM NumT SX
theorem iL_small (z : Int) : ∀ c ∈ iL z, c < 128 := fun c hc => by
  unfold iL at hc
  split at hc
  · rcases List.mem_cons.mp hc with h | h
    · omega
    · have := numL_all _ c h; omega
  · have := numL_all _ c hc; omega
theorem fL_small (t b : Int) : ∀ c ∈ fL t b, c < 128 := fun c hc => by
  unfold fL at hc
  split at hc
  · exact iL_small _ c hc
  · rcases List.mem_append.mp hc with h | h
    · exact iL_small _ c h
    · rcases List.mem_cons.mp h with h | h
      · omega
      · exact iL_small _ c h
/-- repr of a Number, by its codes -/
def rL (t b : Int) : List Nat := [78, 117, 109, 98, 101, 114, 40] ++ fL t b ++ [41]
theorem repr_S (t b : Int) : ("Number(" : Str) ++ S (fL t b) ++ (")" : Str) = S (rL t b) := by
  have e1 : ("Number(" : Str) = S [78, 117, 109, 98, 101, 114, 40] := by decide +kernel
  have e2 : (")" : Str) = S [41] := by decide +kernel
  rw [e1, e2, S_cat, S_cat]
  rfl
theorem rL_small (t b : Int) : ∀ c ∈ rL t b, c < 128 := fun c hc => by
  unfold rL at hc
  rcases List.mem_append.mp hc with h | h
  · rcases List.mem_append.mp h with h | h
    · exact (by decide : ∀ c ∈ [78, 117, 109, 98, 101, 114, 40], c < 128) c h
    · exact fL_small _ _ c h
  · rw [List.mem_singleton.mp h]; decide
/-- what is shown of a Number -/
def seenD (t b : Int) : PyData := .list [.int t, .int b, .int (sgn t), .str (S (fL t b)), .str (S (rL t b)), .bool true]
def seenT (t b : Int) : Str := (seenD t b).shown
theorem sgn_sz (t : Int) : Sz (sgn t) := by
  unfold sgn
  split
  · decide +kernel
  · split <;> decide +kernel
theorem show_int {i : Int} (h : Sz i) : (PyData.int i).showable = true := by
  simp only [PyData.showable, decide_eq_true_eq]
  exact log2_small h
theorem short_int {i : Int} (h : Sz i) : (PyData.int i).leavesShort 320 = true := by
  simp only [PyData.leavesShort, decide_eq_true_eq]
  rw [PyData.shown_int, toS, S_len]
  have := i_len h
  omega
theorem short_S {a : List Nat} (h : ∀ c ∈ a, c < 128) : (PyData.str (S a)).leavesShort 320 = true := by
  simp only [PyData.leavesShort, List.all_eq_true, decide_eq_true_eq]
  intro c hc
  exact Nat.lt_trans (h c hc) (by decide)
theorem seen_ok {t b : Int} (st : Sz t) (sb : Sz b) : (seenD t b).showable = true ∧ (seenD t b).depth ≤ 60 ∧ (seenD t b).shown.length ≤ sizeLine := by
  have l := f_len st sb
  refine ⟨?_, ?_, ?_⟩
  · unfold seenD
    have a := show_int st
    have c := show_int sb
    have d := show_int (sgn_sz t)
    simp only [PyData.showable, PyData.showableAll] at a c d ⊢
    simp [a, c, d]
  · unfold seenD
    simp [PyData.depth, PyData.depthAll]
  · have h := PyData.shown_le_bulk 320 (by decide) (seenD t b) (by
      have a := short_int st
      have c := short_int sb
      have d := short_int (sgn_sz t)
      have e := short_S (fL_small t b)
      have f := short_S (rL_small t b)
      have g : (PyData.bool true).leavesShort 320 = true := rfl
      unfold seenD
      simp only [PyData.leavesShort, PyData.leavesShortAll] at a c d e f g ⊢
      simp [a, c, d, e, f])
    have hb : (seenD t b).bulk ≤ 2000 := by
      unfold seenD
      simp only [PyData.bulk, PyData.bulkAll]
      have e1 : (S (fL t b)).cps.size = (fL t b).length := by simp
      have e2 : (S (rL t b)).cps.size = (fL t b).length + 8 := by simp [rL]
      rw [e1, e2]
      omega
    rw [sizeLine_eq]
    have : 322 * (seenD t b).bulk ≤ 322 * 2000 := Nat.mul_le_mul (Nat.le_refl _) hb
    omega
theorem dp_seen {K : Fr} {H : Hp} {p : Addr} {t b z : Int} (hz : z = sgn t) (h : H p = some (.lst [.int t, .int b, .int z, .str (S (fL t b)), .str (S (rL t b)), .bl true])) : Dp K H (.ref p) (seenD t b) := by
  subst hz
  exact .lst (.inl (.inl h)) (.cons (.int _) (.cons (.int _) (.cons (.int _) (.cons (.str _) (.cons (.str _) (.cons (.bl _) .nil))))))
theorem dp_due {K : Fr} {H : Hp} {p : Addr} {t b z : Int} (hz : z = sgn t) (h : H p = some (.lst [.int t, .int b, .int z, .str (S (fL t b)), .str (("Number(" : Str) ++ S (fL t b) ++ (")" : Str)), .bl true])) : Dp K H (.ref p) (seenD t b) := by
  rw [repr_S] at h
  exact dp_seen hz h
end Hk
namespace Hk
open PySem PySem.Spec PyProof.Rows L2 NumM NumT SX
/-- a promise of a def over a pair (a tuple of two ints at p) -/
def spPair (g : Int → Int → V) : Sp := fun vs H Q _ => ∃ (p : Addr) (t b : Int), vs = [.ref p] ∧ H p = some (.tup [.int t, .int b]) ∧ 0 < b ∧ Sz t ∧ Sz b ∧ ∀ H', Same H H' → Q (g t b) H'
def spSeen (C : Addr) : Sp := fun vs H Q _ => ∃ (p : Addr) (t b : Int), vs = [.ref p] ∧ NumAt C H p t b ∧ Sz t ∧ Sz b ∧ ∀ H', Same H H' → Q (.str (seenT t b)) H'
theorem add_SS (a b : List Nat) : S a ++ S b = S (a ++ b) := S_cat a b
end Hk
namespace Hk
open PySem PySem.Spec PyProof.Rows L2 NumM NumT SX
/-- all but what stands at a is as it was -/
def Old (a : Addr) (H H' : Hp) : Prop := ∀ x o, H x = some o → x ≠ a → H' x = some o
theorem Old.refl (a : Addr) (H : Hp) : Old a H H := fun _ _ h _ => h
theorem Old.trans {a : Addr} {H H1 H2 : Hp} (s : Old a H H1) (t : Old a H1 H2) : Old a H H2 := fun x o h n => t x o (s x o h n) n
theorem Old.same {a : Addr} {H H1 : Hp} (s : Same H H1) : Old a H H1 := fun x o h _ => s x o h
theorem Old.put {a : Addr} {H : Hp} {o : HO} : Old a H (upd H a o) := fun x u h n => by
  rw [upd_ne n]
  exact h
theorem Old.new {a p : Addr} {H : Hp} {o : HO} (np : H p = none) : Old a H (upd H p o) := Old.same (same_upd np)
end Hk
namespace Hk
open PySem PySem.Spec PyProof.Rows L2 NumM NumT SX
theorem dec_int (x y : Int) : decide (V.int x = V.int y) = decide (x = y) := by
  by_cases h : x = y
  · subst h; simp
  · rw [decide_eq_false h, decide_eq_false fun z => h (V.int.inj z)]
theorem sz200 {z : Int} (h : z.natAbs < 2 ^ 200) : Sz z := Nat.lt_of_lt_of_le h (by decide +kernel)
theorem sz_mul {x y : Int} (h : x.natAbs < 2 ^ 200) (h2 : y.natAbs < 2 ^ 4) : Sz (x * y) := Nat.lt_of_lt_of_le (wide_lt h h2) (by decide +kernel)
theorem sz_succ {x : Int} (h : x.natAbs < 2 ^ 200) : Sz (x + 1) := by
  have e : (2 : Nat) ^ 200 + 1 ≤ 2 ^ 1000 := by decide +kernel
  have : (x + 1).natAbs ≤ x.natAbs + 1 := by omega
  exact Nat.lt_of_lt_of_le (show (x + 1).natAbs < 2 ^ 200 + 1 by omega) e
/-- the fraction one greater is another one -/
theorem far_ne {t b : Int} (hb : 0 < b) : (decide (t = lowT (t + 1) b) && decide (b = lowB (t + 1) b)) = false := by
  cases h : (decide (t = lowT (t + 1) b) && decide (b = lowB (t + 1) b)) with
  | false => rfl
  | true =>
    obtain ⟨h1, h2⟩ := Bool.and_eq_true_iff.mp h
    have e1 := of_decide_eq_true h1
    have e2 := of_decide_eq_true h2
    have l := low_eq (h := t + 1) (b := b) (by omega)
    rw [← e1, ← e2, Int.add_mul, Int.one_mul] at l
    omega
theorem num_ne {C : Addr} {H : Hp} {a p : Addr} {xs : List V} {t b : Int} (N : NumAt C H p t b) (h : H a = some (.lst xs)) : p ≠ a := by
  obtain ⟨dx, e⟩ := N.at_
  exact ne_of e h (by intro z; exact nomatch z)
theorem NumAt.old {C : Addr} {H H' : Hp} {a p : Addr} {t b : Int} (N : NumAt C H p t b) (s : Old a H H') (ne : p ≠ a) : NumAt C H' p t b := by
  obtain ⟨dx, h⟩ := N.at_
  exact ⟨⟨dx, s _ _ h ne⟩, N.pos, N.cop⟩
theorem dp_strs {K : Fr} {H : Hp} {p : Addr} {xs : List Str} (h : H p = some (.lst (xs.map V.str))) : Dp K H (.ref p) (.list (xs.map PyData.str)) := by
  refine .lst (.inl (.inl h)) ?_
  clear h
  induction xs with
  | nil => exact .nil
  | cons x r ih => exact .cons (.str x) ih
theorem dp_bls {K : Fr} {H : Hp} {p : Addr} {xs : List Bool} (h : H p = some (.lst (xs.map V.bl))) : Dp K H (.ref p) (.list (xs.map PyData.bool)) := by
  refine .lst (.inl (.inl h)) ?_
  clear h
  induction xs with
  | nil => exact .nil
  | cons x r ih => exact .cons (.bl x) ih
theorem depth_strs : ∀ xs : List Str, PyData.depthAll (xs.map PyData.str) ≤ 1
  | [] => by simp [PyData.depthAll]
  | x :: r => by
    have := depth_strs r
    simp only [List.map_cons, PyData.depthAll, PyData.depth]
    omega
theorem depth_bls : ∀ xs : List Bool, PyData.depthAll (xs.map PyData.bool) ≤ 1
  | [] => by simp [PyData.depthAll]
  | x :: r => by
    have := depth_bls r
    simp only [List.map_cons, PyData.depthAll, PyData.depth]
    omega
theorem shaped_strs {xs : List Str} (h : ∀ x ∈ xs, Asc x) : SeqAt.shaped (.list (xs.map PyData.str)) = true := by
  unfold SeqAt.shaped
  rw [Bool.and_eq_true]
  refine ⟨?_, decide_eq_true ?_⟩
  · show PyData.canLayAll0 (xs.map PyData.str) = true
    rw [PyProof.Rows.canLayAll_strs', List.all_eq_true]
    exact fun x hx => (h x hx).ok
  · have := depth_strs xs
    simp only [PyData.depth]
    omega
theorem shaped_bls (xs : List Bool) : SeqAt.shaped (.list (xs.map PyData.bool)) = true := by
  unfold SeqAt.shaped
  rw [Bool.and_eq_true]
  refine ⟨?_, decide_eq_true ?_⟩
  · show PyData.canLayAll0 (xs.map PyData.bool) = true
    induction xs with
    | nil => rfl
    | cons x r ih => simpa [PyData.canLayAll0, PyData.canLay0] using ih
  · have := depth_bls xs
    simp only [PyData.depth]
    omega
theorem seen_asc (t b : Int) : Asc (seenT t b) := by
  refine shown_asc _ ?_
  unfold seenD
  simp only [ascD, ascDs, and_true, true_and]
  exact ⟨S_asc (fL_small t b), S_asc (rL_small t b)⟩
theorem eqv_strs (xs : List Str) : PyData.eqv (.list (xs.map PyData.str)) (.list (xs.map PyData.str)) = true := by
  simp only [PyData.eqv]
  induction xs with
  | nil => rfl
  | cons x r ih => simp [PyData.eqvAll, PyData.eqv, ih]
theorem eqv_bls (xs : List Bool) : PyData.eqv (.list (xs.map PyData.bool)) (.list (xs.map PyData.bool)) = true := by
  simp only [PyData.eqv]
  induction xs with
  | nil => rfl
  | cons x r ih => simp [PyData.eqvAll, PyData.eqv, ih]
/-- two keywords, given in the other order -/
def kwTurn {α : Type} (us ws : List α) : List α := match ws with
  | [b, t] => us ++ [t, b]
  | _ => us
/-- Number(e, ..): a new Number in lowest terms -/
def tNum (C : Addr) (dvs : List V) (t : TA) : TE := fun σ H Q => t σ H fun vs H1 => ∃ h b : Int, vs ++ dvs = [.int h, .int b] ∧ b ≠ 0 ∧ Sz b ∧ NewNum C H1 Q (lowT h b) (lowB h b)
def tNumK (C : Addr) (tk : TA) : TE := fun σ H Q => tk σ H fun zs H1 => ∃ h b : Int, zs = [.int b, .int h] ∧ b ≠ 0 ∧ Sz b ∧ NewNum C H1 Q (lowT h b) (lowB h b)
section
variable {X : Cx} {k : Nat} {f C : Addr} {fd : FuncData} {ps : List Str} {dvs : List V} {ds : List Value} {x : Str} {p pos : Pos} {e : Expr} {es : List Expr} {kws : List Keyword} {t tk : TA} {g : List Value → List Value → List Value}
theorem pe_num (M : Mk X.K C f) (F : FnOk X.prog X.w X.K X.mg X.base CX0 k f fd ps (spInit C)) (hr : Room (k + 1) X.A) (hm : X.mg x = some (.ref C)) (hb : Binds X.K fd ps ds) (hd : Vals dvs ds) (ha : PA X (e :: es) t) (hg : Gl X x := by rfl)
    (hdb : (x == ("__debug__" : Str)) = false := by decide) (he : starEach (e :: es) X.env = (false, eval e X.env) :: starEach es X.env := by rfl) (hpl : (backTo pos (starEach es X.env)).any (·.1) = false := by rfl) :
    PE X (.Call (.Name x p) (e :: es) [] pos) (tNum C dvs t) := by
  refine ⟨fun pins s σ H Q I h => wpAny_Call_Name_kw (ld_glob I hg hm ?_ hdb)⟩
  refine PySem.W.callWith_K (h₀ := X.base) I.ok.mod.kin M.kp (thn (ha.run pos pins s σ H _ I h) fun us s1 hu => ?_) he hpl
  obtain ⟨vs, H1, J, r, a, b, ev, hb0, sb, q⟩ := hu
  refine ⟨J.kIn, run_make (E := E0) M F hr hb hd pass0 J r ?_⟩
  rw [ev]
  exact mk_num hb0 sb q
theorem pe_numK (M : Mk X.K C f) (F : FnOk X.prog X.w X.K X.mg X.base CX0 k f fd ps (spInit C)) (hr : Room (k + 1) X.A) (hm : X.mg x = some (.ref C)) (hb : KBn X.K fd ps 1 ["bottom", "top"] g (fun vs zs => kwTurn vs zs)) (hkw : PK X kws tk) (hg : Gl X x := by rfl)
    (hall : (backToKw pos (keywordEach kws X.env)).all (·.1.isSome) = true := by rfl) (hks : (backToKw pos (keywordEach kws X.env)).filterMap (·.1) = [("bottom" : Str), ("top" : Str)] := by rfl) (hdb : (x == ("__debug__" : Str)) = false := by decide)
    (hpl : ((backTo pos (starEach [] X.env)).any (·.1) || (backToKw pos (keywordEach kws X.env)).any (·.1.isNone)) = false := by rfl) : PE X (.Call (.Name x p) [] kws pos) (tNumK C tk) := by
  refine ⟨fun pins s σ H Q I h => wpAny_Call_Name_kw (ld_glob I hg hm ?_ hdb)⟩
  refine PySem.W.callWith_KW0 (h₀ := X.base) I.ok.mod.kin M.kp hall (thn (hkw.run pos pins s σ H _ I h) fun ws s2 hu => ?_) hpl
  obtain ⟨zs, H2, J, rz, a, b, ev, hb0, sb, q⟩ := hu
  refine ⟨J.kIn, ?_⟩
  rw [hks]
  refine run_makeK (E := E0) (us := []) (vs := []) M F hr hb pass0 J .nil rz rfl (by rw [ev]; rfl) ?_
  rw [ev]
  exact mk_num hb0 sb q
end
end Hk

namespace Hk
open PySem PySem.Spec PyProof.Rows L2
theorem Same.seqT {K : Fr} {H H' : Hp} {a : Addr} {xs : List V} (e : Same H H') (h : SqT K H a xs) : SqT K H' a xs := by
  rcases h with (h | ⟨o, h⟩) | h
  · exact .inl (.inl (e _ _ h))
  · exact .inl (.inr ⟨o, e _ _ h⟩)
  · exact .inr h
mutual
theorem dp_same {K : Fr} {H H' : Hp} (s : Same H H') : ∀ (d : PyData) (v : V), Dp K H v d → Dp K H' v d
  | .none, _, h => by cases h; exact .non
  | .bool _, _, h => by cases h; exact .bl _
  | .int _, _, h => by cases h; exact .int _
  | .str _, _, h => by cases h; exact .str _
  | .list ds, _, h => by
    cases h with
    | lst h1 h2 => exact .lst (s.seq h1) (dp_sames s ds _ h2)
  | .tuple ds, _, h => by
    cases h with
    | tup h1 h2 => exact .tup (Same.seqT s h1) (dp_sames s ds _ h2)
  | .dict _, _, h => by cases h
theorem dp_sames {K : Fr} {H H' : Hp} (s : Same H H') : ∀ (ds : List PyData) (vs : List V), DpAll K H vs ds → DpAll K H' vs ds
  | [], _, h => by cases h; exact .nil
  | d :: ds, _, h => by
    cases h with
    | cons h1 h2 => exact .cons (dp_same s d _ h1) (dp_sames s ds _ h2)
end
/-- z is what repr shows of x: data, or an empty dict -/
def Sh (K : Fr) (H : Hp) (x : V) (z : Str) : Prop := (∃ d, Dp K H x d ∧ d.showable = true ∧ d.depth ≤ 60 ∧ d.shown.length ≤ sizeLine ∧ z = d.shown) ∨ ∃ a, x = .ref a ∧ H a = some (.dK []) ∧ z = (PyData.dict []).shown
theorem Sh.same {K : Fr} {H H' : Hp} {x : V} {z : Str} (h : Sh K H x z) (s : Same H H') : Sh K H' x z := by
  rcases h with ⟨d, h1, h2⟩ | ⟨a, h1, h2, h3⟩
  · exact .inl ⟨d, dp_same s d _ h1, h2⟩
  · exact .inr ⟨a, h1, s _ _ h2, h3⟩
def rShow (K : Fr) : List V → Hp → VK → Prop := fun xs H Q => ∃ x z, xs = [x] ∧ Sh K H x z ∧ Q (.str z) H
theorem call_reprS {X : Cx} {k : Nat} (hc : Calm X.A) (hr : Room k X.A) : CallR X (.builtin "repr") (rShow X.K) := by
  intro pins s σ H xs us Q I r h
  obtain ⟨x, z, rfl, hz, q⟩ := h
  rcases hz with ⟨d, hd, h1, h2, h3, rfl⟩ | ⟨a, rfl, ha, rfl⟩
  · exact call_reprD hc hr pins s σ H [x] us Q I r ⟨x, d, rfl, hd, h1, h2, h3, q⟩
  · obtain ⟨u, rfl, ru⟩ := r.one
    cases (show u = Value.ref a from ru)
    obtain ⟨_, hsm, vs, kv, o, es, ep, h1, h2, h3, h4, h5, h6⟩ := (show ObjOk X.prog X.w H s.heap a (.dK []) from I.hok a _ ha)
    cases kv
    have e0 : es.toList = [] := by
      cases e : es.toList with
      | nil => rfl
      | cons k r =>
        rw [e] at h5
        exact nomatch h5
    have hrd : Reads s.heap (.ref a) (.dict []) (a :: [] ++ []) := Reads.dict h1 h2.1 h3 (by rw [e0]; exact .nil) (by rw [e0]; exact .nil)
    refine PySem.repr_of_reads' hrd (by simp [PyData.showable, PyData.showableKv]) (fun _ => ?_) hc ?_ (fun b o z => z) (fun h' u tk kp => ⟨.str _, H, I.kept kp, ⟨_, rfl⟩, q⟩) ?_
    · intro hm
      have e : sysModules = a := by simpa using hm
      rw [← e] at hsm
      simp at hsm
    · have := hr.units
      have e : (PyData.dict []).depth ≤ 1 := by simp [PyData.depth, PyData.depthKv]
      omega
    · decide +kernel
end Hk

namespace K05
open PySem PySem.Spec PyProof.Rows L2 Hk
def top (i : Nat) : Stmt := PySem.Challenge.pw_delaynets_k05_errors_and_limits.main.body.getD i (.Pass ⟨0, 0, 0, 0⟩)
abbrev s_InvalidName_init : Stmt := inClass (top 2) 0
def d_InvalidName_init : Dx := ⟨mAd "InvalidName" "__init__", "__init__", "InvalidName.__init__", s_InvalidName_init, []⟩
theorem sc_InvalidName_init : FnScope ["self", "value"] ["self", "value"] (defScope s_InvalidName_init) := ⟨rfl, rfl, rfl, by decide +kernel, rfl, by decide +kernel, by decide +kernel⟩
abbrev s_InvalidText_init : Stmt := inClass (top 3) 0
def d_InvalidText_init : Dx := ⟨mAd "InvalidText" "__init__", "__init__", "InvalidText.__init__", s_InvalidText_init, []⟩
theorem sc_InvalidText_init : FnScope ["self", "value"] ["self", "value"] (defScope s_InvalidText_init) := ⟨rfl, rfl, rfl, by decide +kernel, rfl, by decide +kernel, by decide +kernel⟩
abbrev s_InvalidStep_init : Stmt := inClass (top 4) 0
def d_InvalidStep_init : Dx := ⟨mAd "InvalidStep" "__init__", "__init__", "InvalidStep.__init__", s_InvalidStep_init, []⟩
theorem sc_InvalidStep_init : FnScope ["self", "value"] ["self", "value"] (defScope s_InvalidStep_init) := ⟨rfl, rfl, rfl, by decide +kernel, rfl, by decide +kernel, by decide +kernel⟩
abbrev s_InvalidGain_init : Stmt := inClass (top 5) 0
def d_InvalidGain_init : Dx := ⟨mAd "InvalidGain" "__init__", "__init__", "InvalidGain.__init__", s_InvalidGain_init, []⟩
theorem sc_InvalidGain_init : FnScope ["self", "value"] ["self", "value"] (defScope s_InvalidGain_init) := ⟨rfl, rfl, rfl, by decide +kernel, rfl, by decide +kernel, by decide +kernel⟩
abbrev s_InvalidCount_init : Stmt := inClass (top 6) 0
def d_InvalidCount_init : Dx := ⟨mAd "InvalidCount" "__init__", "__init__", "InvalidCount.__init__", s_InvalidCount_init, []⟩
theorem sc_InvalidCount_init : FnScope ["self", "value"] ["self", "value"] (defScope s_InvalidCount_init) := ⟨rfl, rfl, rfl, by decide +kernel, rfl, by decide +kernel, by decide +kernel⟩
abbrev s_InvalidTime_init : Stmt := inClass (top 7) 0
def d_InvalidTime_init : Dx := ⟨mAd "InvalidTime" "__init__", "__init__", "InvalidTime.__init__", s_InvalidTime_init, []⟩
theorem sc_InvalidTime_init : FnScope ["self", "value"] ["self", "value"] (defScope s_InvalidTime_init) := ⟨rfl, rfl, rfl, by decide +kernel, rfl, by decide +kernel, by decide +kernel⟩
abbrev s_InvalidRates_init : Stmt := inClass (top 8) 0
def d_InvalidRates_init : Dx := ⟨mAd "InvalidRates" "__init__", "__init__", "InvalidRates.__init__", s_InvalidRates_init, []⟩
theorem sc_InvalidRates_init : FnScope ["self", "value"] ["self", "value"] (defScope s_InvalidRates_init) := ⟨rfl, rfl, rfl, by decide +kernel, rfl, by decide +kernel, by decide +kernel⟩
abbrev s_NotANumber_init : Stmt := inClass (top 9) 0
def d_NotANumber_init : Dx := ⟨mAd "NotANumber" "__init__", "__init__", "NotANumber.__init__", s_NotANumber_init, []⟩
theorem sc_NotANumber_init : FnScope ["self", "value"] ["self", "value"] (defScope s_NotANumber_init) := ⟨rfl, rfl, rfl, by decide +kernel, rfl, by decide +kernel, by decide +kernel⟩
abbrev s_NotASignal_init : Stmt := inClass (top 10) 0
def d_NotASignal_init : Dx := ⟨mAd "NotASignal" "__init__", "__init__", "NotASignal.__init__", s_NotASignal_init, []⟩
theorem sc_NotASignal_init : FnScope ["self", "value"] ["self", "value"] (defScope s_NotASignal_init) := ⟨rfl, rfl, rfl, by decide +kernel, rfl, by decide +kernel, by decide +kernel⟩
abbrev s_NotANet_init : Stmt := inClass (top 11) 0
def d_NotANet_init : Dx := ⟨mAd "NotANet" "__init__", "__init__", "NotANet.__init__", s_NotANet_init, []⟩
theorem sc_NotANet_init : FnScope ["self", "value"] ["self", "value"] (defScope s_NotANet_init) := ⟨rfl, rfl, rfl, by decide +kernel, rfl, by decide +kernel, by decide +kernel⟩
abbrev s_NotAPlayer_init : Stmt := inClass (top 12) 0
def d_NotAPlayer_init : Dx := ⟨mAd "NotAPlayer" "__init__", "__init__", "NotAPlayer.__init__", s_NotAPlayer_init, []⟩
theorem sc_NotAPlayer_init : FnScope ["self", "value"] ["self", "value"] (defScope s_NotAPlayer_init) := ⟨rfl, rfl, rfl, by decide +kernel, rfl, by decide +kernel, by decide +kernel⟩
abbrev s_InvalidTerms_init : Stmt := inClass (top 13) 0
def d_InvalidTerms_init : Dx := ⟨mAd "InvalidTerms" "__init__", "__init__", "InvalidTerms.__init__", s_InvalidTerms_init, []⟩
theorem sc_InvalidTerms_init : FnScope ["self", "index"] ["self", "index"] (defScope s_InvalidTerms_init) := ⟨rfl, rfl, rfl, by decide +kernel, rfl, by decide +kernel, by decide +kernel⟩
abbrev s_InvalidInputs_init : Stmt := inClass (top 14) 0
def d_InvalidInputs_init : Dx := ⟨mAd "InvalidInputs" "__init__", "__init__", "InvalidInputs.__init__", s_InvalidInputs_init, []⟩
theorem sc_InvalidInputs_init : FnScope ["self", "index"] ["self", "index"] (defScope s_InvalidInputs_init) := ⟨rfl, rfl, rfl, by decide +kernel, rfl, by decide +kernel, by decide +kernel⟩
abbrev s_InvalidOutputs_init : Stmt := inClass (top 15) 0
def d_InvalidOutputs_init : Dx := ⟨mAd "InvalidOutputs" "__init__", "__init__", "InvalidOutputs.__init__", s_InvalidOutputs_init, []⟩
theorem sc_InvalidOutputs_init : FnScope ["self", "index"] ["self", "index"] (defScope s_InvalidOutputs_init) := ⟨rfl, rfl, rfl, by decide +kernel, rfl, by decide +kernel, by decide +kernel⟩
abbrev s_InvalidSamples_init : Stmt := inClass (top 16) 0
def d_InvalidSamples_init : Dx := ⟨mAd "InvalidSamples" "__init__", "__init__", "InvalidSamples.__init__", s_InvalidSamples_init, []⟩
theorem sc_InvalidSamples_init : FnScope ["self", "index"] ["self", "index"] (defScope s_InvalidSamples_init) := ⟨rfl, rfl, rfl, by decide +kernel, rfl, by decide +kernel, by decide +kernel⟩
abbrev s_InvalidSteps_init : Stmt := inClass (top 17) 0
def d_InvalidSteps_init : Dx := ⟨mAd "InvalidSteps" "__init__", "__init__", "InvalidSteps.__init__", s_InvalidSteps_init, []⟩
theorem sc_InvalidSteps_init : FnScope ["self", "index"] ["self", "index"] (defScope s_InvalidSteps_init) := ⟨rfl, rfl, rfl, by decide +kernel, rfl, by decide +kernel, by decide +kernel⟩
abbrev s_InvalidEdit_init : Stmt := inClass (top 18) 0
def d_InvalidEdit_init : Dx := ⟨mAd "InvalidEdit" "__init__", "__init__", "InvalidEdit.__init__", s_InvalidEdit_init, []⟩
theorem sc_InvalidEdit_init : FnScope ["self", "index"] ["self", "index"] (defScope s_InvalidEdit_init) := ⟨rfl, rfl, rfl, by decide +kernel, rfl, by decide +kernel, by decide +kernel⟩
abbrev s_UnknownName_init : Stmt := inClass (top 21) 0
def d_UnknownName_init : Dx := ⟨mAd "UnknownName" "__init__", "__init__", "UnknownName.__init__", s_UnknownName_init, []⟩
theorem sc_UnknownName_init : FnScope ["self", "name"] ["self", "name"] (defScope s_UnknownName_init) := ⟨rfl, rfl, rfl, by decide +kernel, rfl, by decide +kernel, by decide +kernel⟩
abbrev s_NameTaken_init : Stmt := inClass (top 22) 0
def d_NameTaken_init : Dx := ⟨mAd "NameTaken" "__init__", "__init__", "NameTaken.__init__", s_NameTaken_init, []⟩
theorem sc_NameTaken_init : FnScope ["self", "name"] ["self", "name"] (defScope s_NameTaken_init) := ⟨rfl, rfl, rfl, by decide +kernel, rfl, by decide +kernel, by decide +kernel⟩
abbrev s_TwoRates_init : Stmt := inClass (top 23) 0
def d_TwoRates_init : Dx := ⟨mAd "TwoRates" "__init__", "__init__", "TwoRates.__init__", s_TwoRates_init, []⟩
theorem sc_TwoRates_init : FnScope ["self", "name"] ["self", "name"] (defScope s_TwoRates_init) := ⟨rfl, rfl, rfl, by decide +kernel, rfl, by decide +kernel, by decide +kernel⟩
abbrev s_NoRate_init : Stmt := inClass (top 24) 0
def d_NoRate_init : Dx := ⟨mAd "NoRate" "__init__", "__init__", "NoRate.__init__", s_NoRate_init, []⟩
theorem sc_NoRate_init : FnScope ["self", "name"] ["self", "name"] (defScope s_NoRate_init) := ⟨rfl, rfl, rfl, by decide +kernel, rfl, by decide +kernel, by decide +kernel⟩
abbrev s_RingWithoutDelay_init : Stmt := inClass (top 25) 0
def d_RingWithoutDelay_init : Dx := ⟨mAd "RingWithoutDelay" "__init__", "__init__", "RingWithoutDelay.__init__", s_RingWithoutDelay_init, []⟩
theorem sc_RingWithoutDelay_init : FnScope ["self", "ring"] ["self", "ring"] (defScope s_RingWithoutDelay_init) := ⟨rfl, rfl, rfl, by decide +kernel, rfl, by decide +kernel, by decide +kernel⟩
abbrev s_BrokenDemand_init : Stmt := inClass (top 30) 0
def d_BrokenDemand_init : Dx := ⟨mAd "BrokenDemand" "__init__", "__init__", "BrokenDemand.__init__", s_BrokenDemand_init, []⟩
theorem sc_BrokenDemand_init : FnScope ["self", "name", "demand"] ["self", "name", "demand"] (defScope s_BrokenDemand_init) := ⟨rfl, rfl, rfl, by decide +kernel, rfl, by decide +kernel, by decide +kernel⟩
abbrev s_TooMany_init : Stmt := inClass (top 33) 0
def d_TooMany_init : Dx := ⟨mAd "TooMany" "__init__", "__init__", "TooMany.__init__", s_TooMany_init, []⟩
theorem sc_TooMany_init : FnScope ["self", "limit"] ["self", "limit"] (defScope s_TooMany_init) := ⟨rfl, rfl, rfl, by decide +kernel, rfl, by decide +kernel, by decide +kernel⟩
abbrev s_TooLarge_init : Stmt := inClass (top 34) 0
def d_TooLarge_init : Dx := ⟨mAd "TooLarge" "__init__", "__init__", "TooLarge.__init__", s_TooLarge_init, []⟩
theorem sc_TooLarge_init : FnScope ["self", "limit"] ["self", "limit"] (defScope s_TooLarge_init) := ⟨rfl, rfl, rfl, by decide +kernel, rfl, by decide +kernel, by decide +kernel⟩
abbrev s_l_spring : Stmt := top 46
def d_l_spring : Dx := ⟨gAd "_law_spring", "_law_spring", "_law_spring", s_l_spring, []⟩
theorem sc_l_spring : FnScope ["_law_script", "_law_spot", "_law_mixed", "_law_at", "_law_own", "_law_digits"] ["_law_script", "_law_spot"] (defScope s_l_spring) := ⟨rfl, rfl, rfl, by decide +kernel, rfl, by decide +kernel, by decide +kernel⟩
abbrev s_l_next : Stmt := top 47
def d_l_next : Dx := ⟨gAd "_law_next", "_law_next", "_law_next", s_l_next, []⟩
theorem sc_l_next : FnScope ["_law_spring_here", "_law_many", "_law_digit", "_law_state"] ["_law_spring_here", "_law_many"] (defScope s_l_next) := ⟨rfl, rfl, rfl, by decide +kernel, rfl, by decide +kernel, by decide +kernel⟩
abbrev s_l_one : Stmt := top 48
def d_l_one : Dx := ⟨gAd "_law_one", "_law_one", "_law_one", s_l_one, []⟩
theorem sc_l_one : FnScope ["_law_spring_here", "_law_things"] ["_law_spring_here", "_law_things"] (defScope s_l_one) := ⟨rfl, rfl, rfl, by decide +kernel, rfl, by decide +kernel, by decide +kernel⟩
abbrev s_l_same : Stmt := top 49
def d_l_same : Dx := ⟨gAd "_law_same", "_law_same", "_law_same", s_l_same, []⟩
theorem sc_l_same : FnScope ["_law_one_here", "_law_other"] ["_law_one_here", "_law_other"] (defScope s_l_same) := ⟨rfl, rfl, rfl, by decide +kernel, rfl, by decide +kernel, by decide +kernel⟩
abbrev s_l_rows : Stmt := top 50
def d_l_rows : Dx := ⟨gAd "_law_rows", "_law_rows", "_law_rows", s_l_rows, []⟩
theorem sc_l_rows : FnScope ["_law_e", "_law_own", "_law_more"] ["_law_e"] (defScope s_l_rows) := ⟨rfl, rfl, rfl, by decide +kernel, rfl, by decide +kernel, by decide +kernel⟩
abbrev s_l_of : Stmt := top 51
def d_l_of : Dx := ⟨gAd "_law_of", "_law_of", "_law_of", s_l_of, []⟩
theorem sc_l_of : FnScope ["_law_spot", "_law_at"] ["_law_spot"] (defScope s_l_of) := ⟨rfl, rfl, rfl, by decide +kernel, rfl, by decide +kernel, by decide +kernel⟩
abbrev s_l_values_right : Stmt := top 52
def d_l_values_right : Dx := ⟨gAd "_law_values_right", "_law_values_right", "_law_values_right", s_l_values_right, []⟩
theorem sc_l_values_right : FnScope ["_law_thing", "_law_found", "_law_e", "_law_more"] ["_law_thing"] (defScope s_l_values_right) := ⟨rfl, rfl, rfl, by decide +kernel, rfl, by decide +kernel, by decide +kernel⟩
abbrev s_l_others_right : Stmt := top 53
def d_l_others_right : Dx := ⟨gAd "_law_others_right", "_law_others_right", "_law_others_right", s_l_others_right, []⟩
theorem sc_l_others_right : FnScope ["_law_thing", "_law_other", "_law_e"] ["_law_thing", "_law_other"] (defScope s_l_others_right) := ⟨rfl, rfl, rfl, by decide +kernel, rfl, by decide +kernel, by decide +kernel⟩
abbrev s_law : Stmt := top 54
def d_law : Dx := ⟨gAd "law", "law", "law", s_law, []⟩
theorem sc_law : FnScope ["_law_script", "_law_told", "_law_spot", "_law_spring_here", "_law_number", "_law_things", "_law_thing"] ["_law_script"] (defScope s_law) := ⟨rfl, rfl, rfl, by decide +kernel, rfl, by decide +kernel, by decide +kernel⟩
def FN : List Dx := [d_InvalidName_init, d_InvalidText_init, d_InvalidStep_init, d_InvalidGain_init, d_InvalidCount_init, d_InvalidTime_init, d_InvalidRates_init, d_NotANumber_init, d_NotASignal_init, d_NotANet_init, d_NotAPlayer_init, d_InvalidTerms_init, d_InvalidInputs_init, d_InvalidOutputs_init, d_InvalidSamples_init, d_InvalidSteps_init, d_InvalidEdit_init, d_UnknownName_init, d_NameTaken_init, d_TwoRates_init, d_NoRate_init, d_RingWithoutDelay_init, d_BrokenDemand_init, d_TooMany_init, d_TooLarge_init, d_l_spring, d_l_next, d_l_one, d_l_same, d_l_rows, d_l_of, d_l_values_right, d_l_others_right, d_law]
def FA : List Tst := [tGlo "_law_spring",
  tGlo "_law_next",
  tGlo "_law_one",
  tGlo "_law_same",
  tGlo "_law_rows",
  tGlo "_law_of",
  tGlo "_law_values_right",
  tGlo "_law_others_right",
  tGlo "law",
  tInt "MAX_PARTS" 12,
  tInt "MAX_DEPTH" 5,
  tInt "MAX_TERMS" 5,
  tInt "MAX_GAIN" 99,
  tInt "MAX_STEP" 6,
  tInt "MAX_DEFINITIONS" 12,
  tInt "MAX_KEPT" 8,
  tInt "MAX_PERIOD" 6,
  tInt "MAX_RATE" 12,
  tInt "MAX_JOINT" 12,
  tFree "ArithmeticError",
  tFree "LookupError",
  tFree "RuntimeError",
  tFree "ValueError",
  tFree "abs",
  tFree "all",
  tFree "int",
  tFree "isinstance",
  tFree "len",
  tFree "max",
  tFree "min",
  tFree "range",
  tFree "repr",
  tFree "str",
  tGlo "InputError",
  tGlo "InvalidName",
  tGlo "InvalidText",
  tGlo "InvalidStep",
  tGlo "InvalidGain",
  tGlo "InvalidCount",
  tGlo "InvalidTime",
  tGlo "InvalidRates",
  tGlo "NotANumber",
  tGlo "NotASignal",
  tGlo "NotANet",
  tGlo "NotAPlayer",
  tGlo "InvalidTerms",
  tGlo "InvalidInputs",
  tGlo "InvalidOutputs",
  tGlo "InvalidSamples",
  tGlo "InvalidSteps",
  tGlo "InvalidEdit",
  tGlo "NetError",
  tGlo "NoOutput",
  tGlo "UnknownName",
  tGlo "NameTaken",
  tGlo "TwoRates",
  tGlo "NoRate",
  tGlo "RingWithoutDelay",
  tGlo "StateError",
  tGlo "NotComparable",
  tGlo "NothingToUndo",
  tGlo "Busy",
  tGlo "BrokenDemand",
  tGlo "DividedByZero",
  tGlo "LimitError",
  tGlo "TooMany",
  tGlo "TooLarge",
  tEc "InvalidName" ["value"] 0,
  tEc "InvalidText" ["value"] 0,
  tEc "InvalidStep" ["value"] 0,
  tEc "InvalidGain" ["value"] 0,
  tEc "InvalidCount" ["value"] 0,
  tEc "InvalidTime" ["value"] 0,
  tEc "InvalidRates" ["value"] 0,
  tEc "NotANumber" ["value"] 0,
  tEc "NotASignal" ["value"] 0,
  tEc "NotANet" ["value"] 0,
  tEc "NotAPlayer" ["value"] 0,
  tEc "InvalidTerms" ["index"] 0,
  tEc "InvalidInputs" ["index"] 0,
  tEc "InvalidOutputs" ["index"] 0,
  tEc "InvalidSamples" ["index"] 0,
  tEc "InvalidSteps" ["index"] 0,
  tEc "InvalidEdit" ["index"] 0,
  tEb "NoOutput" tlL "LookupError.__new__" 1,
  tEc "UnknownName" ["name"] 1,
  tEc "NameTaken" ["name"] 1,
  tEc "TwoRates" ["name"] 1,
  tEc "NoRate" ["name"] 1,
  tEc "RingWithoutDelay" ["ring"] 1,
  tEb "NotComparable" tlR "RuntimeError.__new__" 2,
  tEb "NothingToUndo" tlR "RuntimeError.__new__" 2,
  tEb "Busy" tlR "RuntimeError.__new__" 2,
  tEc "BrokenDemand" ["name", "demand"] 2,
  tEb "DividedByZero" tlR "RuntimeError.__new__" 2,
  tEc "TooMany" ["limit"] 3,
  tEc "TooLarge" ["limit"] 3,
  tKitO "NoOutput" "NoOutput" true]
abbrev Sy (K : Fr) : Prop := Says FA FN K
theorem f_glo_l_spring {K : Fr} (c : Sy K) : (tGlo "_law_spring") K = true := c.tst 0
theorem f_glo_l_next {K : Fr} (c : Sy K) : (tGlo "_law_next") K = true := c.tst 1
theorem f_glo_l_one {K : Fr} (c : Sy K) : (tGlo "_law_one") K = true := c.tst 2
theorem f_glo_l_same {K : Fr} (c : Sy K) : (tGlo "_law_same") K = true := c.tst 3
theorem f_glo_l_rows {K : Fr} (c : Sy K) : (tGlo "_law_rows") K = true := c.tst 4
theorem f_glo_l_of {K : Fr} (c : Sy K) : (tGlo "_law_of") K = true := c.tst 5
theorem f_glo_l_values_right {K : Fr} (c : Sy K) : (tGlo "_law_values_right") K = true := c.tst 6
theorem f_glo_l_others_right {K : Fr} (c : Sy K) : (tGlo "_law_others_right") K = true := c.tst 7
theorem f_glo_law {K : Fr} (c : Sy K) : (tGlo "law") K = true := c.tst 8
theorem f_int_MAX_PARTS {K : Fr} (c : Sy K) : (tInt "MAX_PARTS" 12) K = true := c.tst 9
theorem f_int_MAX_DEPTH {K : Fr} (c : Sy K) : (tInt "MAX_DEPTH" 5) K = true := c.tst 10
theorem f_int_MAX_TERMS {K : Fr} (c : Sy K) : (tInt "MAX_TERMS" 5) K = true := c.tst 11
theorem f_int_MAX_GAIN {K : Fr} (c : Sy K) : (tInt "MAX_GAIN" 99) K = true := c.tst 12
theorem f_int_MAX_STEP {K : Fr} (c : Sy K) : (tInt "MAX_STEP" 6) K = true := c.tst 13
theorem f_int_MAX_DEFINITIONS {K : Fr} (c : Sy K) : (tInt "MAX_DEFINITIONS" 12) K = true := c.tst 14
theorem f_int_MAX_KEPT {K : Fr} (c : Sy K) : (tInt "MAX_KEPT" 8) K = true := c.tst 15
theorem f_int_MAX_PERIOD {K : Fr} (c : Sy K) : (tInt "MAX_PERIOD" 6) K = true := c.tst 16
theorem f_int_MAX_RATE {K : Fr} (c : Sy K) : (tInt "MAX_RATE" 12) K = true := c.tst 17
theorem f_int_MAX_JOINT {K : Fr} (c : Sy K) : (tInt "MAX_JOINT" 12) K = true := c.tst 18
theorem f_free_ArithmeticError {K : Fr} (c : Sy K) : (tFree "ArithmeticError") K = true := c.tst 19
theorem f_free_LookupError {K : Fr} (c : Sy K) : (tFree "LookupError") K = true := c.tst 20
theorem f_free_RuntimeError {K : Fr} (c : Sy K) : (tFree "RuntimeError") K = true := c.tst 21
theorem f_free_ValueError {K : Fr} (c : Sy K) : (tFree "ValueError") K = true := c.tst 22
theorem f_free_abs {K : Fr} (c : Sy K) : (tFree "abs") K = true := c.tst 23
theorem f_free_all {K : Fr} (c : Sy K) : (tFree "all") K = true := c.tst 24
theorem f_free_int {K : Fr} (c : Sy K) : (tFree "int") K = true := c.tst 25
theorem f_free_isinstance {K : Fr} (c : Sy K) : (tFree "isinstance") K = true := c.tst 26
theorem f_free_len {K : Fr} (c : Sy K) : (tFree "len") K = true := c.tst 27
theorem f_free_max {K : Fr} (c : Sy K) : (tFree "max") K = true := c.tst 28
theorem f_free_min {K : Fr} (c : Sy K) : (tFree "min") K = true := c.tst 29
theorem f_free_range {K : Fr} (c : Sy K) : (tFree "range") K = true := c.tst 30
theorem f_free_repr {K : Fr} (c : Sy K) : (tFree "repr") K = true := c.tst 31
theorem f_free_str {K : Fr} (c : Sy K) : (tFree "str") K = true := c.tst 32
theorem f_glo_InputError {K : Fr} (c : Sy K) : (tGlo "InputError") K = true := c.tst 33
theorem f_glo_InvalidName {K : Fr} (c : Sy K) : (tGlo "InvalidName") K = true := c.tst 34
theorem f_glo_InvalidText {K : Fr} (c : Sy K) : (tGlo "InvalidText") K = true := c.tst 35
theorem f_glo_InvalidStep {K : Fr} (c : Sy K) : (tGlo "InvalidStep") K = true := c.tst 36
theorem f_glo_InvalidGain {K : Fr} (c : Sy K) : (tGlo "InvalidGain") K = true := c.tst 37
theorem f_glo_InvalidCount {K : Fr} (c : Sy K) : (tGlo "InvalidCount") K = true := c.tst 38
theorem f_glo_InvalidTime {K : Fr} (c : Sy K) : (tGlo "InvalidTime") K = true := c.tst 39
theorem f_glo_InvalidRates {K : Fr} (c : Sy K) : (tGlo "InvalidRates") K = true := c.tst 40
theorem f_glo_NotANumber {K : Fr} (c : Sy K) : (tGlo "NotANumber") K = true := c.tst 41
theorem f_glo_NotASignal {K : Fr} (c : Sy K) : (tGlo "NotASignal") K = true := c.tst 42
theorem f_glo_NotANet {K : Fr} (c : Sy K) : (tGlo "NotANet") K = true := c.tst 43
theorem f_glo_NotAPlayer {K : Fr} (c : Sy K) : (tGlo "NotAPlayer") K = true := c.tst 44
theorem f_glo_InvalidTerms {K : Fr} (c : Sy K) : (tGlo "InvalidTerms") K = true := c.tst 45
theorem f_glo_InvalidInputs {K : Fr} (c : Sy K) : (tGlo "InvalidInputs") K = true := c.tst 46
theorem f_glo_InvalidOutputs {K : Fr} (c : Sy K) : (tGlo "InvalidOutputs") K = true := c.tst 47
theorem f_glo_InvalidSamples {K : Fr} (c : Sy K) : (tGlo "InvalidSamples") K = true := c.tst 48
theorem f_glo_InvalidSteps {K : Fr} (c : Sy K) : (tGlo "InvalidSteps") K = true := c.tst 49
theorem f_glo_InvalidEdit {K : Fr} (c : Sy K) : (tGlo "InvalidEdit") K = true := c.tst 50
theorem f_glo_NetError {K : Fr} (c : Sy K) : (tGlo "NetError") K = true := c.tst 51
theorem f_glo_NoOutput {K : Fr} (c : Sy K) : (tGlo "NoOutput") K = true := c.tst 52
theorem f_glo_UnknownName {K : Fr} (c : Sy K) : (tGlo "UnknownName") K = true := c.tst 53
theorem f_glo_NameTaken {K : Fr} (c : Sy K) : (tGlo "NameTaken") K = true := c.tst 54
theorem f_glo_TwoRates {K : Fr} (c : Sy K) : (tGlo "TwoRates") K = true := c.tst 55
theorem f_glo_NoRate {K : Fr} (c : Sy K) : (tGlo "NoRate") K = true := c.tst 56
theorem f_glo_RingWithoutDelay {K : Fr} (c : Sy K) : (tGlo "RingWithoutDelay") K = true := c.tst 57
theorem f_glo_StateError {K : Fr} (c : Sy K) : (tGlo "StateError") K = true := c.tst 58
theorem f_glo_NotComparable {K : Fr} (c : Sy K) : (tGlo "NotComparable") K = true := c.tst 59
theorem f_glo_NothingToUndo {K : Fr} (c : Sy K) : (tGlo "NothingToUndo") K = true := c.tst 60
theorem f_glo_Busy {K : Fr} (c : Sy K) : (tGlo "Busy") K = true := c.tst 61
theorem f_glo_BrokenDemand {K : Fr} (c : Sy K) : (tGlo "BrokenDemand") K = true := c.tst 62
theorem f_glo_DividedByZero {K : Fr} (c : Sy K) : (tGlo "DividedByZero") K = true := c.tst 63
theorem f_glo_LimitError {K : Fr} (c : Sy K) : (tGlo "LimitError") K = true := c.tst 64
theorem f_glo_TooMany {K : Fr} (c : Sy K) : (tGlo "TooMany") K = true := c.tst 65
theorem f_glo_TooLarge {K : Fr} (c : Sy K) : (tGlo "TooLarge") K = true := c.tst 66
theorem f_ec_InvalidName {K : Fr} (c : Sy K) : (tEc "InvalidName" ["value"] 0) K = true := c.tst 67
theorem f_ec_InvalidText {K : Fr} (c : Sy K) : (tEc "InvalidText" ["value"] 0) K = true := c.tst 68
theorem f_ec_InvalidStep {K : Fr} (c : Sy K) : (tEc "InvalidStep" ["value"] 0) K = true := c.tst 69
theorem f_ec_InvalidGain {K : Fr} (c : Sy K) : (tEc "InvalidGain" ["value"] 0) K = true := c.tst 70
theorem f_ec_InvalidCount {K : Fr} (c : Sy K) : (tEc "InvalidCount" ["value"] 0) K = true := c.tst 71
theorem f_ec_InvalidTime {K : Fr} (c : Sy K) : (tEc "InvalidTime" ["value"] 0) K = true := c.tst 72
theorem f_ec_InvalidRates {K : Fr} (c : Sy K) : (tEc "InvalidRates" ["value"] 0) K = true := c.tst 73
theorem f_ec_NotANumber {K : Fr} (c : Sy K) : (tEc "NotANumber" ["value"] 0) K = true := c.tst 74
theorem f_ec_NotASignal {K : Fr} (c : Sy K) : (tEc "NotASignal" ["value"] 0) K = true := c.tst 75
theorem f_ec_NotANet {K : Fr} (c : Sy K) : (tEc "NotANet" ["value"] 0) K = true := c.tst 76
theorem f_ec_NotAPlayer {K : Fr} (c : Sy K) : (tEc "NotAPlayer" ["value"] 0) K = true := c.tst 77
theorem f_ec_InvalidTerms {K : Fr} (c : Sy K) : (tEc "InvalidTerms" ["index"] 0) K = true := c.tst 78
theorem f_ec_InvalidInputs {K : Fr} (c : Sy K) : (tEc "InvalidInputs" ["index"] 0) K = true := c.tst 79
theorem f_ec_InvalidOutputs {K : Fr} (c : Sy K) : (tEc "InvalidOutputs" ["index"] 0) K = true := c.tst 80
theorem f_ec_InvalidSamples {K : Fr} (c : Sy K) : (tEc "InvalidSamples" ["index"] 0) K = true := c.tst 81
theorem f_ec_InvalidSteps {K : Fr} (c : Sy K) : (tEc "InvalidSteps" ["index"] 0) K = true := c.tst 82
theorem f_ec_InvalidEdit {K : Fr} (c : Sy K) : (tEc "InvalidEdit" ["index"] 0) K = true := c.tst 83
theorem f_eb_NoOutput {K : Fr} (c : Sy K) : (tEb "NoOutput" tlL "LookupError.__new__" 1) K = true := c.tst 84
theorem f_ec_UnknownName {K : Fr} (c : Sy K) : (tEc "UnknownName" ["name"] 1) K = true := c.tst 85
theorem f_ec_NameTaken {K : Fr} (c : Sy K) : (tEc "NameTaken" ["name"] 1) K = true := c.tst 86
theorem f_ec_TwoRates {K : Fr} (c : Sy K) : (tEc "TwoRates" ["name"] 1) K = true := c.tst 87
theorem f_ec_NoRate {K : Fr} (c : Sy K) : (tEc "NoRate" ["name"] 1) K = true := c.tst 88
theorem f_ec_RingWithoutDelay {K : Fr} (c : Sy K) : (tEc "RingWithoutDelay" ["ring"] 1) K = true := c.tst 89
theorem f_eb_NotComparable {K : Fr} (c : Sy K) : (tEb "NotComparable" tlR "RuntimeError.__new__" 2) K = true := c.tst 90
theorem f_eb_NothingToUndo {K : Fr} (c : Sy K) : (tEb "NothingToUndo" tlR "RuntimeError.__new__" 2) K = true := c.tst 91
theorem f_eb_Busy {K : Fr} (c : Sy K) : (tEb "Busy" tlR "RuntimeError.__new__" 2) K = true := c.tst 92
theorem f_ec_BrokenDemand {K : Fr} (c : Sy K) : (tEc "BrokenDemand" ["name", "demand"] 2) K = true := c.tst 93
theorem f_eb_DividedByZero {K : Fr} (c : Sy K) : (tEb "DividedByZero" tlR "RuntimeError.__new__" 2) K = true := c.tst 94
theorem f_ec_TooMany {K : Fr} (c : Sy K) : (tEc "TooMany" ["limit"] 3) K = true := c.tst 95
theorem f_ec_TooLarge {K : Fr} (c : Sy K) : (tEc "TooLarge" ["limit"] 3) K = true := c.tst 96
theorem f_kit_NoOutput {K : Fr} (c : Sy K) : (tKitO "NoOutput" "NoOutput" true) K = true := c.tst 97
structure Tx (K : Fr) (mg : Str → Option Value) : Prop where
  c : Sy K
  g : ∃ h, K.In h ∧ h.Ns mainGlobals mg
theorem g_l_spring {K : Fr} {mg : Str → Option Value} (T : Tx K mg) : mg "_law_spring" = some (.ref (gAd "_law_spring" K)) := by
  obtain ⟨h, X, G⟩ := T.g
  exact He.glo_ok X G (f_glo_l_spring T.c)
theorem g_l_next {K : Fr} {mg : Str → Option Value} (T : Tx K mg) : mg "_law_next" = some (.ref (gAd "_law_next" K)) := by
  obtain ⟨h, X, G⟩ := T.g
  exact He.glo_ok X G (f_glo_l_next T.c)
theorem g_l_one {K : Fr} {mg : Str → Option Value} (T : Tx K mg) : mg "_law_one" = some (.ref (gAd "_law_one" K)) := by
  obtain ⟨h, X, G⟩ := T.g
  exact He.glo_ok X G (f_glo_l_one T.c)
theorem g_l_same {K : Fr} {mg : Str → Option Value} (T : Tx K mg) : mg "_law_same" = some (.ref (gAd "_law_same" K)) := by
  obtain ⟨h, X, G⟩ := T.g
  exact He.glo_ok X G (f_glo_l_same T.c)
theorem g_l_rows {K : Fr} {mg : Str → Option Value} (T : Tx K mg) : mg "_law_rows" = some (.ref (gAd "_law_rows" K)) := by
  obtain ⟨h, X, G⟩ := T.g
  exact He.glo_ok X G (f_glo_l_rows T.c)
theorem g_l_of {K : Fr} {mg : Str → Option Value} (T : Tx K mg) : mg "_law_of" = some (.ref (gAd "_law_of" K)) := by
  obtain ⟨h, X, G⟩ := T.g
  exact He.glo_ok X G (f_glo_l_of T.c)
theorem g_l_values_right {K : Fr} {mg : Str → Option Value} (T : Tx K mg) : mg "_law_values_right" = some (.ref (gAd "_law_values_right" K)) := by
  obtain ⟨h, X, G⟩ := T.g
  exact He.glo_ok X G (f_glo_l_values_right T.c)
theorem g_l_others_right {K : Fr} {mg : Str → Option Value} (T : Tx K mg) : mg "_law_others_right" = some (.ref (gAd "_law_others_right" K)) := by
  obtain ⟨h, X, G⟩ := T.g
  exact He.glo_ok X G (f_glo_l_others_right T.c)
theorem g_law {K : Fr} {mg : Str → Option Value} (T : Tx K mg) : mg "law" = some (.ref (gAd "law" K)) := by
  obtain ⟨h, X, G⟩ := T.g
  exact He.glo_ok X G (f_glo_law T.c)
theorem i_MAX_PARTS {K : Fr} {mg : Str → Option Value} (T : Tx K mg) : ∃ t, mg "MAX_PARTS" = some (.int 12 t) := by
  obtain ⟨h, X, G⟩ := T.g
  exact He.int_ok X G (f_int_MAX_PARTS T.c)
theorem i_MAX_DEPTH {K : Fr} {mg : Str → Option Value} (T : Tx K mg) : ∃ t, mg "MAX_DEPTH" = some (.int 5 t) := by
  obtain ⟨h, X, G⟩ := T.g
  exact He.int_ok X G (f_int_MAX_DEPTH T.c)
theorem i_MAX_TERMS {K : Fr} {mg : Str → Option Value} (T : Tx K mg) : ∃ t, mg "MAX_TERMS" = some (.int 5 t) := by
  obtain ⟨h, X, G⟩ := T.g
  exact He.int_ok X G (f_int_MAX_TERMS T.c)
theorem i_MAX_GAIN {K : Fr} {mg : Str → Option Value} (T : Tx K mg) : ∃ t, mg "MAX_GAIN" = some (.int 99 t) := by
  obtain ⟨h, X, G⟩ := T.g
  exact He.int_ok X G (f_int_MAX_GAIN T.c)
theorem i_MAX_STEP {K : Fr} {mg : Str → Option Value} (T : Tx K mg) : ∃ t, mg "MAX_STEP" = some (.int 6 t) := by
  obtain ⟨h, X, G⟩ := T.g
  exact He.int_ok X G (f_int_MAX_STEP T.c)
theorem i_MAX_DEFINITIONS {K : Fr} {mg : Str → Option Value} (T : Tx K mg) : ∃ t, mg "MAX_DEFINITIONS" = some (.int 12 t) := by
  obtain ⟨h, X, G⟩ := T.g
  exact He.int_ok X G (f_int_MAX_DEFINITIONS T.c)
theorem i_MAX_KEPT {K : Fr} {mg : Str → Option Value} (T : Tx K mg) : ∃ t, mg "MAX_KEPT" = some (.int 8 t) := by
  obtain ⟨h, X, G⟩ := T.g
  exact He.int_ok X G (f_int_MAX_KEPT T.c)
theorem i_MAX_PERIOD {K : Fr} {mg : Str → Option Value} (T : Tx K mg) : ∃ t, mg "MAX_PERIOD" = some (.int 6 t) := by
  obtain ⟨h, X, G⟩ := T.g
  exact He.int_ok X G (f_int_MAX_PERIOD T.c)
theorem i_MAX_RATE {K : Fr} {mg : Str → Option Value} (T : Tx K mg) : ∃ t, mg "MAX_RATE" = some (.int 12 t) := by
  obtain ⟨h, X, G⟩ := T.g
  exact He.int_ok X G (f_int_MAX_RATE T.c)
theorem i_MAX_JOINT {K : Fr} {mg : Str → Option Value} (T : Tx K mg) : ∃ t, mg "MAX_JOINT" = some (.int 12 t) := by
  obtain ⟨h, X, G⟩ := T.g
  exact He.int_ok X G (f_int_MAX_JOINT T.c)
theorem n_ArithmeticError {K : Fr} {mg : Str → Option Value} (T : Tx K mg) : mg "ArithmeticError" = none := by
  obtain ⟨h, X, G⟩ := T.g
  exact He.free_ok X G (f_free_ArithmeticError T.c)
theorem n_LookupError {K : Fr} {mg : Str → Option Value} (T : Tx K mg) : mg "LookupError" = none := by
  obtain ⟨h, X, G⟩ := T.g
  exact He.free_ok X G (f_free_LookupError T.c)
theorem n_RuntimeError {K : Fr} {mg : Str → Option Value} (T : Tx K mg) : mg "RuntimeError" = none := by
  obtain ⟨h, X, G⟩ := T.g
  exact He.free_ok X G (f_free_RuntimeError T.c)
theorem n_ValueError {K : Fr} {mg : Str → Option Value} (T : Tx K mg) : mg "ValueError" = none := by
  obtain ⟨h, X, G⟩ := T.g
  exact He.free_ok X G (f_free_ValueError T.c)
theorem n_abs {K : Fr} {mg : Str → Option Value} (T : Tx K mg) : mg "abs" = none := by
  obtain ⟨h, X, G⟩ := T.g
  exact He.free_ok X G (f_free_abs T.c)
theorem n_all {K : Fr} {mg : Str → Option Value} (T : Tx K mg) : mg "all" = none := by
  obtain ⟨h, X, G⟩ := T.g
  exact He.free_ok X G (f_free_all T.c)
theorem n_int {K : Fr} {mg : Str → Option Value} (T : Tx K mg) : mg "int" = none := by
  obtain ⟨h, X, G⟩ := T.g
  exact He.free_ok X G (f_free_int T.c)
theorem n_isinstance {K : Fr} {mg : Str → Option Value} (T : Tx K mg) : mg "isinstance" = none := by
  obtain ⟨h, X, G⟩ := T.g
  exact He.free_ok X G (f_free_isinstance T.c)
theorem n_len {K : Fr} {mg : Str → Option Value} (T : Tx K mg) : mg "len" = none := by
  obtain ⟨h, X, G⟩ := T.g
  exact He.free_ok X G (f_free_len T.c)
theorem n_max {K : Fr} {mg : Str → Option Value} (T : Tx K mg) : mg "max" = none := by
  obtain ⟨h, X, G⟩ := T.g
  exact He.free_ok X G (f_free_max T.c)
theorem n_min {K : Fr} {mg : Str → Option Value} (T : Tx K mg) : mg "min" = none := by
  obtain ⟨h, X, G⟩ := T.g
  exact He.free_ok X G (f_free_min T.c)
theorem n_range {K : Fr} {mg : Str → Option Value} (T : Tx K mg) : mg "range" = none := by
  obtain ⟨h, X, G⟩ := T.g
  exact He.free_ok X G (f_free_range T.c)
theorem n_repr {K : Fr} {mg : Str → Option Value} (T : Tx K mg) : mg "repr" = none := by
  obtain ⟨h, X, G⟩ := T.g
  exact He.free_ok X G (f_free_repr T.c)
theorem n_str {K : Fr} {mg : Str → Option Value} (T : Tx K mg) : mg "str" = none := by
  obtain ⟨h, X, G⟩ := T.g
  exact He.free_ok X G (f_free_str T.c)
theorem g_InputError {K : Fr} {mg : Str → Option Value} (T : Tx K mg) : mg "InputError" = some (.ref (gAd "InputError" K)) := by
  obtain ⟨h, X, G⟩ := T.g
  exact He.glo_ok X G (f_glo_InputError T.c)
theorem g_InvalidName {K : Fr} {mg : Str → Option Value} (T : Tx K mg) : mg "InvalidName" = some (.ref (gAd "InvalidName" K)) := by
  obtain ⟨h, X, G⟩ := T.g
  exact He.glo_ok X G (f_glo_InvalidName T.c)
theorem g_InvalidText {K : Fr} {mg : Str → Option Value} (T : Tx K mg) : mg "InvalidText" = some (.ref (gAd "InvalidText" K)) := by
  obtain ⟨h, X, G⟩ := T.g
  exact He.glo_ok X G (f_glo_InvalidText T.c)
theorem g_InvalidStep {K : Fr} {mg : Str → Option Value} (T : Tx K mg) : mg "InvalidStep" = some (.ref (gAd "InvalidStep" K)) := by
  obtain ⟨h, X, G⟩ := T.g
  exact He.glo_ok X G (f_glo_InvalidStep T.c)
theorem g_InvalidGain {K : Fr} {mg : Str → Option Value} (T : Tx K mg) : mg "InvalidGain" = some (.ref (gAd "InvalidGain" K)) := by
  obtain ⟨h, X, G⟩ := T.g
  exact He.glo_ok X G (f_glo_InvalidGain T.c)
theorem g_InvalidCount {K : Fr} {mg : Str → Option Value} (T : Tx K mg) : mg "InvalidCount" = some (.ref (gAd "InvalidCount" K)) := by
  obtain ⟨h, X, G⟩ := T.g
  exact He.glo_ok X G (f_glo_InvalidCount T.c)
theorem g_InvalidTime {K : Fr} {mg : Str → Option Value} (T : Tx K mg) : mg "InvalidTime" = some (.ref (gAd "InvalidTime" K)) := by
  obtain ⟨h, X, G⟩ := T.g
  exact He.glo_ok X G (f_glo_InvalidTime T.c)
theorem g_InvalidRates {K : Fr} {mg : Str → Option Value} (T : Tx K mg) : mg "InvalidRates" = some (.ref (gAd "InvalidRates" K)) := by
  obtain ⟨h, X, G⟩ := T.g
  exact He.glo_ok X G (f_glo_InvalidRates T.c)
theorem g_NotANumber {K : Fr} {mg : Str → Option Value} (T : Tx K mg) : mg "NotANumber" = some (.ref (gAd "NotANumber" K)) := by
  obtain ⟨h, X, G⟩ := T.g
  exact He.glo_ok X G (f_glo_NotANumber T.c)
theorem g_NotASignal {K : Fr} {mg : Str → Option Value} (T : Tx K mg) : mg "NotASignal" = some (.ref (gAd "NotASignal" K)) := by
  obtain ⟨h, X, G⟩ := T.g
  exact He.glo_ok X G (f_glo_NotASignal T.c)
theorem g_NotANet {K : Fr} {mg : Str → Option Value} (T : Tx K mg) : mg "NotANet" = some (.ref (gAd "NotANet" K)) := by
  obtain ⟨h, X, G⟩ := T.g
  exact He.glo_ok X G (f_glo_NotANet T.c)
theorem g_NotAPlayer {K : Fr} {mg : Str → Option Value} (T : Tx K mg) : mg "NotAPlayer" = some (.ref (gAd "NotAPlayer" K)) := by
  obtain ⟨h, X, G⟩ := T.g
  exact He.glo_ok X G (f_glo_NotAPlayer T.c)
theorem g_InvalidTerms {K : Fr} {mg : Str → Option Value} (T : Tx K mg) : mg "InvalidTerms" = some (.ref (gAd "InvalidTerms" K)) := by
  obtain ⟨h, X, G⟩ := T.g
  exact He.glo_ok X G (f_glo_InvalidTerms T.c)
theorem g_InvalidInputs {K : Fr} {mg : Str → Option Value} (T : Tx K mg) : mg "InvalidInputs" = some (.ref (gAd "InvalidInputs" K)) := by
  obtain ⟨h, X, G⟩ := T.g
  exact He.glo_ok X G (f_glo_InvalidInputs T.c)
theorem g_InvalidOutputs {K : Fr} {mg : Str → Option Value} (T : Tx K mg) : mg "InvalidOutputs" = some (.ref (gAd "InvalidOutputs" K)) := by
  obtain ⟨h, X, G⟩ := T.g
  exact He.glo_ok X G (f_glo_InvalidOutputs T.c)
theorem g_InvalidSamples {K : Fr} {mg : Str → Option Value} (T : Tx K mg) : mg "InvalidSamples" = some (.ref (gAd "InvalidSamples" K)) := by
  obtain ⟨h, X, G⟩ := T.g
  exact He.glo_ok X G (f_glo_InvalidSamples T.c)
theorem g_InvalidSteps {K : Fr} {mg : Str → Option Value} (T : Tx K mg) : mg "InvalidSteps" = some (.ref (gAd "InvalidSteps" K)) := by
  obtain ⟨h, X, G⟩ := T.g
  exact He.glo_ok X G (f_glo_InvalidSteps T.c)
theorem g_InvalidEdit {K : Fr} {mg : Str → Option Value} (T : Tx K mg) : mg "InvalidEdit" = some (.ref (gAd "InvalidEdit" K)) := by
  obtain ⟨h, X, G⟩ := T.g
  exact He.glo_ok X G (f_glo_InvalidEdit T.c)
theorem g_NetError {K : Fr} {mg : Str → Option Value} (T : Tx K mg) : mg "NetError" = some (.ref (gAd "NetError" K)) := by
  obtain ⟨h, X, G⟩ := T.g
  exact He.glo_ok X G (f_glo_NetError T.c)
theorem g_NoOutput {K : Fr} {mg : Str → Option Value} (T : Tx K mg) : mg "NoOutput" = some (.ref (gAd "NoOutput" K)) := by
  obtain ⟨h, X, G⟩ := T.g
  exact He.glo_ok X G (f_glo_NoOutput T.c)
theorem g_UnknownName {K : Fr} {mg : Str → Option Value} (T : Tx K mg) : mg "UnknownName" = some (.ref (gAd "UnknownName" K)) := by
  obtain ⟨h, X, G⟩ := T.g
  exact He.glo_ok X G (f_glo_UnknownName T.c)
theorem g_NameTaken {K : Fr} {mg : Str → Option Value} (T : Tx K mg) : mg "NameTaken" = some (.ref (gAd "NameTaken" K)) := by
  obtain ⟨h, X, G⟩ := T.g
  exact He.glo_ok X G (f_glo_NameTaken T.c)
theorem g_TwoRates {K : Fr} {mg : Str → Option Value} (T : Tx K mg) : mg "TwoRates" = some (.ref (gAd "TwoRates" K)) := by
  obtain ⟨h, X, G⟩ := T.g
  exact He.glo_ok X G (f_glo_TwoRates T.c)
theorem g_NoRate {K : Fr} {mg : Str → Option Value} (T : Tx K mg) : mg "NoRate" = some (.ref (gAd "NoRate" K)) := by
  obtain ⟨h, X, G⟩ := T.g
  exact He.glo_ok X G (f_glo_NoRate T.c)
theorem g_RingWithoutDelay {K : Fr} {mg : Str → Option Value} (T : Tx K mg) : mg "RingWithoutDelay" = some (.ref (gAd "RingWithoutDelay" K)) := by
  obtain ⟨h, X, G⟩ := T.g
  exact He.glo_ok X G (f_glo_RingWithoutDelay T.c)
theorem g_StateError {K : Fr} {mg : Str → Option Value} (T : Tx K mg) : mg "StateError" = some (.ref (gAd "StateError" K)) := by
  obtain ⟨h, X, G⟩ := T.g
  exact He.glo_ok X G (f_glo_StateError T.c)
theorem g_NotComparable {K : Fr} {mg : Str → Option Value} (T : Tx K mg) : mg "NotComparable" = some (.ref (gAd "NotComparable" K)) := by
  obtain ⟨h, X, G⟩ := T.g
  exact He.glo_ok X G (f_glo_NotComparable T.c)
theorem g_NothingToUndo {K : Fr} {mg : Str → Option Value} (T : Tx K mg) : mg "NothingToUndo" = some (.ref (gAd "NothingToUndo" K)) := by
  obtain ⟨h, X, G⟩ := T.g
  exact He.glo_ok X G (f_glo_NothingToUndo T.c)
theorem g_Busy {K : Fr} {mg : Str → Option Value} (T : Tx K mg) : mg "Busy" = some (.ref (gAd "Busy" K)) := by
  obtain ⟨h, X, G⟩ := T.g
  exact He.glo_ok X G (f_glo_Busy T.c)
theorem g_BrokenDemand {K : Fr} {mg : Str → Option Value} (T : Tx K mg) : mg "BrokenDemand" = some (.ref (gAd "BrokenDemand" K)) := by
  obtain ⟨h, X, G⟩ := T.g
  exact He.glo_ok X G (f_glo_BrokenDemand T.c)
theorem g_DividedByZero {K : Fr} {mg : Str → Option Value} (T : Tx K mg) : mg "DividedByZero" = some (.ref (gAd "DividedByZero" K)) := by
  obtain ⟨h, X, G⟩ := T.g
  exact He.glo_ok X G (f_glo_DividedByZero T.c)
theorem g_LimitError {K : Fr} {mg : Str → Option Value} (T : Tx K mg) : mg "LimitError" = some (.ref (gAd "LimitError" K)) := by
  obtain ⟨h, X, G⟩ := T.g
  exact He.glo_ok X G (f_glo_LimitError T.c)
theorem g_TooMany {K : Fr} {mg : Str → Option Value} (T : Tx K mg) : mg "TooMany" = some (.ref (gAd "TooMany" K)) := by
  obtain ⟨h, X, G⟩ := T.g
  exact He.glo_ok X G (f_glo_TooMany T.c)
theorem g_TooLarge {K : Fr} {mg : Str → Option Value} (T : Tx K mg) : mg "TooLarge" = some (.ref (gAd "TooLarge" K)) := by
  obtain ⟨h, X, G⟩ := T.g
  exact He.glo_ok X G (f_glo_TooLarge T.c)
theorem a_InvalidName_init {K : Fr} (c : Sy K) : ∃ fd, DAt K d_InvalidName_init fd := c.dat 0
theorem a_InvalidText_init {K : Fr} (c : Sy K) : ∃ fd, DAt K d_InvalidText_init fd := c.dat 1
theorem a_InvalidStep_init {K : Fr} (c : Sy K) : ∃ fd, DAt K d_InvalidStep_init fd := c.dat 2
theorem a_InvalidGain_init {K : Fr} (c : Sy K) : ∃ fd, DAt K d_InvalidGain_init fd := c.dat 3
theorem a_InvalidCount_init {K : Fr} (c : Sy K) : ∃ fd, DAt K d_InvalidCount_init fd := c.dat 4
theorem a_InvalidTime_init {K : Fr} (c : Sy K) : ∃ fd, DAt K d_InvalidTime_init fd := c.dat 5
theorem a_InvalidRates_init {K : Fr} (c : Sy K) : ∃ fd, DAt K d_InvalidRates_init fd := c.dat 6
theorem a_NotANumber_init {K : Fr} (c : Sy K) : ∃ fd, DAt K d_NotANumber_init fd := c.dat 7
theorem a_NotASignal_init {K : Fr} (c : Sy K) : ∃ fd, DAt K d_NotASignal_init fd := c.dat 8
theorem a_NotANet_init {K : Fr} (c : Sy K) : ∃ fd, DAt K d_NotANet_init fd := c.dat 9
theorem a_NotAPlayer_init {K : Fr} (c : Sy K) : ∃ fd, DAt K d_NotAPlayer_init fd := c.dat 10
theorem a_InvalidTerms_init {K : Fr} (c : Sy K) : ∃ fd, DAt K d_InvalidTerms_init fd := c.dat 11
theorem a_InvalidInputs_init {K : Fr} (c : Sy K) : ∃ fd, DAt K d_InvalidInputs_init fd := c.dat 12
theorem a_InvalidOutputs_init {K : Fr} (c : Sy K) : ∃ fd, DAt K d_InvalidOutputs_init fd := c.dat 13
theorem a_InvalidSamples_init {K : Fr} (c : Sy K) : ∃ fd, DAt K d_InvalidSamples_init fd := c.dat 14
theorem a_InvalidSteps_init {K : Fr} (c : Sy K) : ∃ fd, DAt K d_InvalidSteps_init fd := c.dat 15
theorem a_InvalidEdit_init {K : Fr} (c : Sy K) : ∃ fd, DAt K d_InvalidEdit_init fd := c.dat 16
theorem a_UnknownName_init {K : Fr} (c : Sy K) : ∃ fd, DAt K d_UnknownName_init fd := c.dat 17
theorem a_NameTaken_init {K : Fr} (c : Sy K) : ∃ fd, DAt K d_NameTaken_init fd := c.dat 18
theorem a_TwoRates_init {K : Fr} (c : Sy K) : ∃ fd, DAt K d_TwoRates_init fd := c.dat 19
theorem a_NoRate_init {K : Fr} (c : Sy K) : ∃ fd, DAt K d_NoRate_init fd := c.dat 20
theorem a_RingWithoutDelay_init {K : Fr} (c : Sy K) : ∃ fd, DAt K d_RingWithoutDelay_init fd := c.dat 21
theorem a_BrokenDemand_init {K : Fr} (c : Sy K) : ∃ fd, DAt K d_BrokenDemand_init fd := c.dat 22
theorem a_TooMany_init {K : Fr} (c : Sy K) : ∃ fd, DAt K d_TooMany_init fd := c.dat 23
theorem a_TooLarge_init {K : Fr} (c : Sy K) : ∃ fd, DAt K d_TooLarge_init fd := c.dat 24
theorem a_l_spring {K : Fr} (c : Sy K) : ∃ fd, DAt K d_l_spring fd := c.dat 25
theorem a_l_next {K : Fr} (c : Sy K) : ∃ fd, DAt K d_l_next fd := c.dat 26
theorem a_l_one {K : Fr} (c : Sy K) : ∃ fd, DAt K d_l_one fd := c.dat 27
theorem a_l_same {K : Fr} (c : Sy K) : ∃ fd, DAt K d_l_same fd := c.dat 28
theorem a_l_rows {K : Fr} (c : Sy K) : ∃ fd, DAt K d_l_rows fd := c.dat 29
theorem a_l_of {K : Fr} (c : Sy K) : ∃ fd, DAt K d_l_of fd := c.dat 30
theorem a_l_values_right {K : Fr} (c : Sy K) : ∃ fd, DAt K d_l_values_right fd := c.dat 31
theorem a_l_others_right {K : Fr} (c : Sy K) : ∃ fd, DAt K d_l_others_right fd := c.dat 32
theorem a_law {K : Fr} (c : Sy K) : ∃ fd, DAt K d_law fd := c.dat 33
abbrev R : PySem.W.OpenRow := PySem.W.OpenLaw.row PySem.Challenge.rw_delaynets_k05_errors_and_limits
abbrev hk : PySem.W.Hook := hook 5 FA FN
def ob (s : PySem.W.SharedT) : Al2 := lookG 5 FA FN (HandSHeadRun.getT s)
theorem ob_eq (s : PySem.W.SharedT) : ob s = hk.obs s.abs := lookG_eq (HandSHeadRun.getT_eq s)
def loose0 : List Str := ["InputError", "InvalidName", "InvalidText", "InvalidStep", "InvalidGain", "InvalidCount", "InvalidTime", "InvalidRates", "NotANumber", "NotASignal", "NotANet", "NotAPlayer", "InvalidTerms", "InvalidInputs", "InvalidOutputs", "InvalidSamples", "InvalidSteps", "InvalidEdit", "NetError", "NoOutput", "UnknownName", "NameTaken", "TwoRates", "NoRate", "RingWithoutDelay", "StateError", "NotComparable", "NothingToUndo", "Busy", "BrokenDemand"]
def loose1 : List Str := ["DividedByZero", "LimitError", "TooMany", "TooLarge", "MAX_PARTS", "MAX_DEPTH", "MAX_TERMS", "MAX_GAIN", "MAX_STEP", "MAX_DEFINITIONS", "MAX_KEPT", "MAX_PERIOD", "MAX_RATE", "MAX_JOINT", "_law_spring", "_law_next", "_law_one", "_law_same", "_law_rows", "_law_of", "_law_values_right", "_law_others_right"]
abbrev loose : List Str := loose0 ++ loose1
abbrev qv : Program := PySem.W.view R.prog [54]
abbrev lawAt : Nat := 54
end K05

namespace K05
open PySem PySem.Spec PyProof.Rows L2 Hk
section
variable {P : Program} {w : World} {K : Fr} {mg : Str → Option Value} {base : Heap}
theorem er_InvalidName (T : Tx K mg) : ErC P w K mg base "InvalidName" "value" 0 := by
  obtain ⟨fd, D⟩ := a_InvalidName_init T.c
  have c := ec_ok (f_ec_InvalidName T.c)
  refine ⟨c, g_InvalidName T, fd, ok_of (N := ["self", "value"]) D sc_InvalidName_init (fun vs H Q E h => ?_) (fun cdv A outer s H vs Q E hr h => ?_), FunD.bindsN D (fun _ _ _ _ _ _ us hl => match us, hl with | [_, _], _ => rfl), kwN (ks := ["value"]) (ps := ["self", "value"]) (g := fun ws => ws) D (fun _ _ _ _ _ _ v ws hl => match ws, hl with | [_], _ => rfl)⟩
  · obtain ⟨a, y, rfl, _⟩ := h
    rfl
  · obtain ⟨a, y, rfl, ha, k⟩ := h
    refine ⟨_, pss_one (ps_vst (pv 0) (pv 1)), ?_⟩
    exact ⟨_, rfl, _, rfl, a, _, rfl, c.v, c.n _ List.mem_cons_self, .inl ⟨ha, k⟩⟩
theorem er_InvalidText (T : Tx K mg) : ErC P w K mg base "InvalidText" "value" 0 := by
  obtain ⟨fd, D⟩ := a_InvalidText_init T.c
  have c := ec_ok (f_ec_InvalidText T.c)
  refine ⟨c, g_InvalidText T, fd, ok_of (N := ["self", "value"]) D sc_InvalidText_init (fun vs H Q E h => ?_) (fun cdv A outer s H vs Q E hr h => ?_), FunD.bindsN D (fun _ _ _ _ _ _ us hl => match us, hl with | [_, _], _ => rfl), kwN (ks := ["value"]) (ps := ["self", "value"]) (g := fun ws => ws) D (fun _ _ _ _ _ _ v ws hl => match ws, hl with | [_], _ => rfl)⟩
  · obtain ⟨a, y, rfl, _⟩ := h
    rfl
  · obtain ⟨a, y, rfl, ha, k⟩ := h
    refine ⟨_, pss_one (ps_vst (pv 0) (pv 1)), ?_⟩
    exact ⟨_, rfl, _, rfl, a, _, rfl, c.v, c.n _ List.mem_cons_self, .inl ⟨ha, k⟩⟩
theorem er_InvalidStep (T : Tx K mg) : ErC P w K mg base "InvalidStep" "value" 0 := by
  obtain ⟨fd, D⟩ := a_InvalidStep_init T.c
  have c := ec_ok (f_ec_InvalidStep T.c)
  refine ⟨c, g_InvalidStep T, fd, ok_of (N := ["self", "value"]) D sc_InvalidStep_init (fun vs H Q E h => ?_) (fun cdv A outer s H vs Q E hr h => ?_), FunD.bindsN D (fun _ _ _ _ _ _ us hl => match us, hl with | [_, _], _ => rfl), kwN (ks := ["value"]) (ps := ["self", "value"]) (g := fun ws => ws) D (fun _ _ _ _ _ _ v ws hl => match ws, hl with | [_], _ => rfl)⟩
  · obtain ⟨a, y, rfl, _⟩ := h
    rfl
  · obtain ⟨a, y, rfl, ha, k⟩ := h
    refine ⟨_, pss_one (ps_vst (pv 0) (pv 1)), ?_⟩
    exact ⟨_, rfl, _, rfl, a, _, rfl, c.v, c.n _ List.mem_cons_self, .inl ⟨ha, k⟩⟩
theorem er_InvalidGain (T : Tx K mg) : ErC P w K mg base "InvalidGain" "value" 0 := by
  obtain ⟨fd, D⟩ := a_InvalidGain_init T.c
  have c := ec_ok (f_ec_InvalidGain T.c)
  refine ⟨c, g_InvalidGain T, fd, ok_of (N := ["self", "value"]) D sc_InvalidGain_init (fun vs H Q E h => ?_) (fun cdv A outer s H vs Q E hr h => ?_), FunD.bindsN D (fun _ _ _ _ _ _ us hl => match us, hl with | [_, _], _ => rfl), kwN (ks := ["value"]) (ps := ["self", "value"]) (g := fun ws => ws) D (fun _ _ _ _ _ _ v ws hl => match ws, hl with | [_], _ => rfl)⟩
  · obtain ⟨a, y, rfl, _⟩ := h
    rfl
  · obtain ⟨a, y, rfl, ha, k⟩ := h
    refine ⟨_, pss_one (ps_vst (pv 0) (pv 1)), ?_⟩
    exact ⟨_, rfl, _, rfl, a, _, rfl, c.v, c.n _ List.mem_cons_self, .inl ⟨ha, k⟩⟩
theorem er_InvalidCount (T : Tx K mg) : ErC P w K mg base "InvalidCount" "value" 0 := by
  obtain ⟨fd, D⟩ := a_InvalidCount_init T.c
  have c := ec_ok (f_ec_InvalidCount T.c)
  refine ⟨c, g_InvalidCount T, fd, ok_of (N := ["self", "value"]) D sc_InvalidCount_init (fun vs H Q E h => ?_) (fun cdv A outer s H vs Q E hr h => ?_), FunD.bindsN D (fun _ _ _ _ _ _ us hl => match us, hl with | [_, _], _ => rfl), kwN (ks := ["value"]) (ps := ["self", "value"]) (g := fun ws => ws) D (fun _ _ _ _ _ _ v ws hl => match ws, hl with | [_], _ => rfl)⟩
  · obtain ⟨a, y, rfl, _⟩ := h
    rfl
  · obtain ⟨a, y, rfl, ha, k⟩ := h
    refine ⟨_, pss_one (ps_vst (pv 0) (pv 1)), ?_⟩
    exact ⟨_, rfl, _, rfl, a, _, rfl, c.v, c.n _ List.mem_cons_self, .inl ⟨ha, k⟩⟩
theorem er_InvalidTime (T : Tx K mg) : ErC P w K mg base "InvalidTime" "value" 0 := by
  obtain ⟨fd, D⟩ := a_InvalidTime_init T.c
  have c := ec_ok (f_ec_InvalidTime T.c)
  refine ⟨c, g_InvalidTime T, fd, ok_of (N := ["self", "value"]) D sc_InvalidTime_init (fun vs H Q E h => ?_) (fun cdv A outer s H vs Q E hr h => ?_), FunD.bindsN D (fun _ _ _ _ _ _ us hl => match us, hl with | [_, _], _ => rfl), kwN (ks := ["value"]) (ps := ["self", "value"]) (g := fun ws => ws) D (fun _ _ _ _ _ _ v ws hl => match ws, hl with | [_], _ => rfl)⟩
  · obtain ⟨a, y, rfl, _⟩ := h
    rfl
  · obtain ⟨a, y, rfl, ha, k⟩ := h
    refine ⟨_, pss_one (ps_vst (pv 0) (pv 1)), ?_⟩
    exact ⟨_, rfl, _, rfl, a, _, rfl, c.v, c.n _ List.mem_cons_self, .inl ⟨ha, k⟩⟩
theorem er_InvalidRates (T : Tx K mg) : ErC P w K mg base "InvalidRates" "value" 0 := by
  obtain ⟨fd, D⟩ := a_InvalidRates_init T.c
  have c := ec_ok (f_ec_InvalidRates T.c)
  refine ⟨c, g_InvalidRates T, fd, ok_of (N := ["self", "value"]) D sc_InvalidRates_init (fun vs H Q E h => ?_) (fun cdv A outer s H vs Q E hr h => ?_), FunD.bindsN D (fun _ _ _ _ _ _ us hl => match us, hl with | [_, _], _ => rfl), kwN (ks := ["value"]) (ps := ["self", "value"]) (g := fun ws => ws) D (fun _ _ _ _ _ _ v ws hl => match ws, hl with | [_], _ => rfl)⟩
  · obtain ⟨a, y, rfl, _⟩ := h
    rfl
  · obtain ⟨a, y, rfl, ha, k⟩ := h
    refine ⟨_, pss_one (ps_vst (pv 0) (pv 1)), ?_⟩
    exact ⟨_, rfl, _, rfl, a, _, rfl, c.v, c.n _ List.mem_cons_self, .inl ⟨ha, k⟩⟩
theorem er_NotANumber (T : Tx K mg) : ErC P w K mg base "NotANumber" "value" 0 := by
  obtain ⟨fd, D⟩ := a_NotANumber_init T.c
  have c := ec_ok (f_ec_NotANumber T.c)
  refine ⟨c, g_NotANumber T, fd, ok_of (N := ["self", "value"]) D sc_NotANumber_init (fun vs H Q E h => ?_) (fun cdv A outer s H vs Q E hr h => ?_), FunD.bindsN D (fun _ _ _ _ _ _ us hl => match us, hl with | [_, _], _ => rfl), kwN (ks := ["value"]) (ps := ["self", "value"]) (g := fun ws => ws) D (fun _ _ _ _ _ _ v ws hl => match ws, hl with | [_], _ => rfl)⟩
  · obtain ⟨a, y, rfl, _⟩ := h
    rfl
  · obtain ⟨a, y, rfl, ha, k⟩ := h
    refine ⟨_, pss_one (ps_vst (pv 0) (pv 1)), ?_⟩
    exact ⟨_, rfl, _, rfl, a, _, rfl, c.v, c.n _ List.mem_cons_self, .inl ⟨ha, k⟩⟩
theorem er_NotASignal (T : Tx K mg) : ErC P w K mg base "NotASignal" "value" 0 := by
  obtain ⟨fd, D⟩ := a_NotASignal_init T.c
  have c := ec_ok (f_ec_NotASignal T.c)
  refine ⟨c, g_NotASignal T, fd, ok_of (N := ["self", "value"]) D sc_NotASignal_init (fun vs H Q E h => ?_) (fun cdv A outer s H vs Q E hr h => ?_), FunD.bindsN D (fun _ _ _ _ _ _ us hl => match us, hl with | [_, _], _ => rfl), kwN (ks := ["value"]) (ps := ["self", "value"]) (g := fun ws => ws) D (fun _ _ _ _ _ _ v ws hl => match ws, hl with | [_], _ => rfl)⟩
  · obtain ⟨a, y, rfl, _⟩ := h
    rfl
  · obtain ⟨a, y, rfl, ha, k⟩ := h
    refine ⟨_, pss_one (ps_vst (pv 0) (pv 1)), ?_⟩
    exact ⟨_, rfl, _, rfl, a, _, rfl, c.v, c.n _ List.mem_cons_self, .inl ⟨ha, k⟩⟩
theorem er_NotANet (T : Tx K mg) : ErC P w K mg base "NotANet" "value" 0 := by
  obtain ⟨fd, D⟩ := a_NotANet_init T.c
  have c := ec_ok (f_ec_NotANet T.c)
  refine ⟨c, g_NotANet T, fd, ok_of (N := ["self", "value"]) D sc_NotANet_init (fun vs H Q E h => ?_) (fun cdv A outer s H vs Q E hr h => ?_), FunD.bindsN D (fun _ _ _ _ _ _ us hl => match us, hl with | [_, _], _ => rfl), kwN (ks := ["value"]) (ps := ["self", "value"]) (g := fun ws => ws) D (fun _ _ _ _ _ _ v ws hl => match ws, hl with | [_], _ => rfl)⟩
  · obtain ⟨a, y, rfl, _⟩ := h
    rfl
  · obtain ⟨a, y, rfl, ha, k⟩ := h
    refine ⟨_, pss_one (ps_vst (pv 0) (pv 1)), ?_⟩
    exact ⟨_, rfl, _, rfl, a, _, rfl, c.v, c.n _ List.mem_cons_self, .inl ⟨ha, k⟩⟩
theorem er_NotAPlayer (T : Tx K mg) : ErC P w K mg base "NotAPlayer" "value" 0 := by
  obtain ⟨fd, D⟩ := a_NotAPlayer_init T.c
  have c := ec_ok (f_ec_NotAPlayer T.c)
  refine ⟨c, g_NotAPlayer T, fd, ok_of (N := ["self", "value"]) D sc_NotAPlayer_init (fun vs H Q E h => ?_) (fun cdv A outer s H vs Q E hr h => ?_), FunD.bindsN D (fun _ _ _ _ _ _ us hl => match us, hl with | [_, _], _ => rfl), kwN (ks := ["value"]) (ps := ["self", "value"]) (g := fun ws => ws) D (fun _ _ _ _ _ _ v ws hl => match ws, hl with | [_], _ => rfl)⟩
  · obtain ⟨a, y, rfl, _⟩ := h
    rfl
  · obtain ⟨a, y, rfl, ha, k⟩ := h
    refine ⟨_, pss_one (ps_vst (pv 0) (pv 1)), ?_⟩
    exact ⟨_, rfl, _, rfl, a, _, rfl, c.v, c.n _ List.mem_cons_self, .inl ⟨ha, k⟩⟩
theorem er_InvalidTerms (T : Tx K mg) : ErC P w K mg base "InvalidTerms" "index" 0 := by
  obtain ⟨fd, D⟩ := a_InvalidTerms_init T.c
  have c := ec_ok (f_ec_InvalidTerms T.c)
  refine ⟨c, g_InvalidTerms T, fd, ok_of (N := ["self", "index"]) D sc_InvalidTerms_init (fun vs H Q E h => ?_) (fun cdv A outer s H vs Q E hr h => ?_), FunD.bindsN D (fun _ _ _ _ _ _ us hl => match us, hl with | [_, _], _ => rfl), kwN (ks := ["index"]) (ps := ["self", "index"]) (g := fun ws => ws) D (fun _ _ _ _ _ _ v ws hl => match ws, hl with | [_], _ => rfl)⟩
  · obtain ⟨a, y, rfl, _⟩ := h
    rfl
  · obtain ⟨a, y, rfl, ha, k⟩ := h
    refine ⟨_, pss_one (ps_vst (pv 0) (pv 1)), ?_⟩
    exact ⟨_, rfl, _, rfl, a, _, rfl, c.v, c.n _ List.mem_cons_self, .inl ⟨ha, k⟩⟩
theorem er_InvalidInputs (T : Tx K mg) : ErC P w K mg base "InvalidInputs" "index" 0 := by
  obtain ⟨fd, D⟩ := a_InvalidInputs_init T.c
  have c := ec_ok (f_ec_InvalidInputs T.c)
  refine ⟨c, g_InvalidInputs T, fd, ok_of (N := ["self", "index"]) D sc_InvalidInputs_init (fun vs H Q E h => ?_) (fun cdv A outer s H vs Q E hr h => ?_), FunD.bindsN D (fun _ _ _ _ _ _ us hl => match us, hl with | [_, _], _ => rfl), kwN (ks := ["index"]) (ps := ["self", "index"]) (g := fun ws => ws) D (fun _ _ _ _ _ _ v ws hl => match ws, hl with | [_], _ => rfl)⟩
  · obtain ⟨a, y, rfl, _⟩ := h
    rfl
  · obtain ⟨a, y, rfl, ha, k⟩ := h
    refine ⟨_, pss_one (ps_vst (pv 0) (pv 1)), ?_⟩
    exact ⟨_, rfl, _, rfl, a, _, rfl, c.v, c.n _ List.mem_cons_self, .inl ⟨ha, k⟩⟩
theorem er_InvalidOutputs (T : Tx K mg) : ErC P w K mg base "InvalidOutputs" "index" 0 := by
  obtain ⟨fd, D⟩ := a_InvalidOutputs_init T.c
  have c := ec_ok (f_ec_InvalidOutputs T.c)
  refine ⟨c, g_InvalidOutputs T, fd, ok_of (N := ["self", "index"]) D sc_InvalidOutputs_init (fun vs H Q E h => ?_) (fun cdv A outer s H vs Q E hr h => ?_), FunD.bindsN D (fun _ _ _ _ _ _ us hl => match us, hl with | [_, _], _ => rfl), kwN (ks := ["index"]) (ps := ["self", "index"]) (g := fun ws => ws) D (fun _ _ _ _ _ _ v ws hl => match ws, hl with | [_], _ => rfl)⟩
  · obtain ⟨a, y, rfl, _⟩ := h
    rfl
  · obtain ⟨a, y, rfl, ha, k⟩ := h
    refine ⟨_, pss_one (ps_vst (pv 0) (pv 1)), ?_⟩
    exact ⟨_, rfl, _, rfl, a, _, rfl, c.v, c.n _ List.mem_cons_self, .inl ⟨ha, k⟩⟩
theorem er_InvalidSamples (T : Tx K mg) : ErC P w K mg base "InvalidSamples" "index" 0 := by
  obtain ⟨fd, D⟩ := a_InvalidSamples_init T.c
  have c := ec_ok (f_ec_InvalidSamples T.c)
  refine ⟨c, g_InvalidSamples T, fd, ok_of (N := ["self", "index"]) D sc_InvalidSamples_init (fun vs H Q E h => ?_) (fun cdv A outer s H vs Q E hr h => ?_), FunD.bindsN D (fun _ _ _ _ _ _ us hl => match us, hl with | [_, _], _ => rfl), kwN (ks := ["index"]) (ps := ["self", "index"]) (g := fun ws => ws) D (fun _ _ _ _ _ _ v ws hl => match ws, hl with | [_], _ => rfl)⟩
  · obtain ⟨a, y, rfl, _⟩ := h
    rfl
  · obtain ⟨a, y, rfl, ha, k⟩ := h
    refine ⟨_, pss_one (ps_vst (pv 0) (pv 1)), ?_⟩
    exact ⟨_, rfl, _, rfl, a, _, rfl, c.v, c.n _ List.mem_cons_self, .inl ⟨ha, k⟩⟩
theorem er_InvalidSteps (T : Tx K mg) : ErC P w K mg base "InvalidSteps" "index" 0 := by
  obtain ⟨fd, D⟩ := a_InvalidSteps_init T.c
  have c := ec_ok (f_ec_InvalidSteps T.c)
  refine ⟨c, g_InvalidSteps T, fd, ok_of (N := ["self", "index"]) D sc_InvalidSteps_init (fun vs H Q E h => ?_) (fun cdv A outer s H vs Q E hr h => ?_), FunD.bindsN D (fun _ _ _ _ _ _ us hl => match us, hl with | [_, _], _ => rfl), kwN (ks := ["index"]) (ps := ["self", "index"]) (g := fun ws => ws) D (fun _ _ _ _ _ _ v ws hl => match ws, hl with | [_], _ => rfl)⟩
  · obtain ⟨a, y, rfl, _⟩ := h
    rfl
  · obtain ⟨a, y, rfl, ha, k⟩ := h
    refine ⟨_, pss_one (ps_vst (pv 0) (pv 1)), ?_⟩
    exact ⟨_, rfl, _, rfl, a, _, rfl, c.v, c.n _ List.mem_cons_self, .inl ⟨ha, k⟩⟩
theorem er_InvalidEdit (T : Tx K mg) : ErC P w K mg base "InvalidEdit" "index" 0 := by
  obtain ⟨fd, D⟩ := a_InvalidEdit_init T.c
  have c := ec_ok (f_ec_InvalidEdit T.c)
  refine ⟨c, g_InvalidEdit T, fd, ok_of (N := ["self", "index"]) D sc_InvalidEdit_init (fun vs H Q E h => ?_) (fun cdv A outer s H vs Q E hr h => ?_), FunD.bindsN D (fun _ _ _ _ _ _ us hl => match us, hl with | [_, _], _ => rfl), kwN (ks := ["index"]) (ps := ["self", "index"]) (g := fun ws => ws) D (fun _ _ _ _ _ _ v ws hl => match ws, hl with | [_], _ => rfl)⟩
  · obtain ⟨a, y, rfl, _⟩ := h
    rfl
  · obtain ⟨a, y, rfl, ha, k⟩ := h
    refine ⟨_, pss_one (ps_vst (pv 0) (pv 1)), ?_⟩
    exact ⟨_, rfl, _, rfl, a, _, rfl, c.v, c.n _ List.mem_cons_self, .inl ⟨ha, k⟩⟩
theorem er_UnknownName (T : Tx K mg) : ErC P w K mg base "UnknownName" "name" 1 := by
  obtain ⟨fd, D⟩ := a_UnknownName_init T.c
  have c := ec_ok (f_ec_UnknownName T.c)
  refine ⟨c, g_UnknownName T, fd, ok_of (N := ["self", "name"]) D sc_UnknownName_init (fun vs H Q E h => ?_) (fun cdv A outer s H vs Q E hr h => ?_), FunD.bindsN D (fun _ _ _ _ _ _ us hl => match us, hl with | [_, _], _ => rfl), kwN (ks := ["name"]) (ps := ["self", "name"]) (g := fun ws => ws) D (fun _ _ _ _ _ _ v ws hl => match ws, hl with | [_], _ => rfl)⟩
  · obtain ⟨a, y, rfl, _⟩ := h
    rfl
  · obtain ⟨a, y, rfl, ha, k⟩ := h
    refine ⟨_, pss_one (ps_vst (pv 0) (pv 1)), ?_⟩
    exact ⟨_, rfl, _, rfl, a, _, rfl, c.v, c.n _ List.mem_cons_self, .inl ⟨ha, k⟩⟩
theorem er_NameTaken (T : Tx K mg) : ErC P w K mg base "NameTaken" "name" 1 := by
  obtain ⟨fd, D⟩ := a_NameTaken_init T.c
  have c := ec_ok (f_ec_NameTaken T.c)
  refine ⟨c, g_NameTaken T, fd, ok_of (N := ["self", "name"]) D sc_NameTaken_init (fun vs H Q E h => ?_) (fun cdv A outer s H vs Q E hr h => ?_), FunD.bindsN D (fun _ _ _ _ _ _ us hl => match us, hl with | [_, _], _ => rfl), kwN (ks := ["name"]) (ps := ["self", "name"]) (g := fun ws => ws) D (fun _ _ _ _ _ _ v ws hl => match ws, hl with | [_], _ => rfl)⟩
  · obtain ⟨a, y, rfl, _⟩ := h
    rfl
  · obtain ⟨a, y, rfl, ha, k⟩ := h
    refine ⟨_, pss_one (ps_vst (pv 0) (pv 1)), ?_⟩
    exact ⟨_, rfl, _, rfl, a, _, rfl, c.v, c.n _ List.mem_cons_self, .inl ⟨ha, k⟩⟩
theorem er_TwoRates (T : Tx K mg) : ErC P w K mg base "TwoRates" "name" 1 := by
  obtain ⟨fd, D⟩ := a_TwoRates_init T.c
  have c := ec_ok (f_ec_TwoRates T.c)
  refine ⟨c, g_TwoRates T, fd, ok_of (N := ["self", "name"]) D sc_TwoRates_init (fun vs H Q E h => ?_) (fun cdv A outer s H vs Q E hr h => ?_), FunD.bindsN D (fun _ _ _ _ _ _ us hl => match us, hl with | [_, _], _ => rfl), kwN (ks := ["name"]) (ps := ["self", "name"]) (g := fun ws => ws) D (fun _ _ _ _ _ _ v ws hl => match ws, hl with | [_], _ => rfl)⟩
  · obtain ⟨a, y, rfl, _⟩ := h
    rfl
  · obtain ⟨a, y, rfl, ha, k⟩ := h
    refine ⟨_, pss_one (ps_vst (pv 0) (pv 1)), ?_⟩
    exact ⟨_, rfl, _, rfl, a, _, rfl, c.v, c.n _ List.mem_cons_self, .inl ⟨ha, k⟩⟩
theorem er_NoRate (T : Tx K mg) : ErC P w K mg base "NoRate" "name" 1 := by
  obtain ⟨fd, D⟩ := a_NoRate_init T.c
  have c := ec_ok (f_ec_NoRate T.c)
  refine ⟨c, g_NoRate T, fd, ok_of (N := ["self", "name"]) D sc_NoRate_init (fun vs H Q E h => ?_) (fun cdv A outer s H vs Q E hr h => ?_), FunD.bindsN D (fun _ _ _ _ _ _ us hl => match us, hl with | [_, _], _ => rfl), kwN (ks := ["name"]) (ps := ["self", "name"]) (g := fun ws => ws) D (fun _ _ _ _ _ _ v ws hl => match ws, hl with | [_], _ => rfl)⟩
  · obtain ⟨a, y, rfl, _⟩ := h
    rfl
  · obtain ⟨a, y, rfl, ha, k⟩ := h
    refine ⟨_, pss_one (ps_vst (pv 0) (pv 1)), ?_⟩
    exact ⟨_, rfl, _, rfl, a, _, rfl, c.v, c.n _ List.mem_cons_self, .inl ⟨ha, k⟩⟩
theorem er_RingWithoutDelay (T : Tx K mg) : ErC P w K mg base "RingWithoutDelay" "ring" 1 := by
  obtain ⟨fd, D⟩ := a_RingWithoutDelay_init T.c
  have c := ec_ok (f_ec_RingWithoutDelay T.c)
  refine ⟨c, g_RingWithoutDelay T, fd, ok_of (N := ["self", "ring"]) D sc_RingWithoutDelay_init (fun vs H Q E h => ?_) (fun cdv A outer s H vs Q E hr h => ?_), FunD.bindsN D (fun _ _ _ _ _ _ us hl => match us, hl with | [_, _], _ => rfl), kwN (ks := ["ring"]) (ps := ["self", "ring"]) (g := fun ws => ws) D (fun _ _ _ _ _ _ v ws hl => match ws, hl with | [_], _ => rfl)⟩
  · obtain ⟨a, y, rfl, _⟩ := h
    rfl
  · obtain ⟨a, y, rfl, ha, k⟩ := h
    refine ⟨_, pss_one (ps_vst (pv 0) (pv 1)), ?_⟩
    exact ⟨_, rfl, _, rfl, a, _, rfl, c.v, c.n _ List.mem_cons_self, .inl ⟨ha, k⟩⟩
theorem er_TooMany (T : Tx K mg) : ErC P w K mg base "TooMany" "limit" 3 := by
  obtain ⟨fd, D⟩ := a_TooMany_init T.c
  have c := ec_ok (f_ec_TooMany T.c)
  refine ⟨c, g_TooMany T, fd, ok_of (N := ["self", "limit"]) D sc_TooMany_init (fun vs H Q E h => ?_) (fun cdv A outer s H vs Q E hr h => ?_), FunD.bindsN D (fun _ _ _ _ _ _ us hl => match us, hl with | [_, _], _ => rfl), kwN (ks := ["limit"]) (ps := ["self", "limit"]) (g := fun ws => ws) D (fun _ _ _ _ _ _ v ws hl => match ws, hl with | [_], _ => rfl)⟩
  · obtain ⟨a, y, rfl, _⟩ := h
    rfl
  · obtain ⟨a, y, rfl, ha, k⟩ := h
    refine ⟨_, pss_one (ps_vst (pv 0) (pv 1)), ?_⟩
    exact ⟨_, rfl, _, rfl, a, _, rfl, c.v, c.n _ List.mem_cons_self, .inl ⟨ha, k⟩⟩
theorem er_TooLarge (T : Tx K mg) : ErC P w K mg base "TooLarge" "limit" 3 := by
  obtain ⟨fd, D⟩ := a_TooLarge_init T.c
  have c := ec_ok (f_ec_TooLarge T.c)
  refine ⟨c, g_TooLarge T, fd, ok_of (N := ["self", "limit"]) D sc_TooLarge_init (fun vs H Q E h => ?_) (fun cdv A outer s H vs Q E hr h => ?_), FunD.bindsN D (fun _ _ _ _ _ _ us hl => match us, hl with | [_, _], _ => rfl), kwN (ks := ["limit"]) (ps := ["self", "limit"]) (g := fun ws => ws) D (fun _ _ _ _ _ _ v ws hl => match ws, hl with | [_], _ => rfl)⟩
  · obtain ⟨a, y, rfl, _⟩ := h
    rfl
  · obtain ⟨a, y, rfl, ha, k⟩ := h
    refine ⟨_, pss_one (ps_vst (pv 0) (pv 1)), ?_⟩
    exact ⟨_, rfl, _, rfl, a, _, rfl, c.v, c.n _ List.mem_cons_self, .inl ⟨ha, k⟩⟩
theorem er_BrokenDemand (T : Tx K mg) : Er2C P w K mg base "BrokenDemand" "name" "demand" 2 := by
  obtain ⟨fd, D⟩ := a_BrokenDemand_init T.c
  have c := ec_ok (f_ec_BrokenDemand T.c)
  refine ⟨c, g_BrokenDemand T, fd, ok_of (N := ["self", "name", "demand"]) D sc_BrokenDemand_init (fun vs H Q E h => ?_) (fun cdv A outer s H vs Q E hr h => ?_), FunD.bindsN D (fun _ _ _ _ _ _ us hl => match us, hl with | [_, _, _], _ => rfl), kwN (ks := ["demand", "name"]) (ps := ["self", "name", "demand"]) (g := fun ws => ws.reverse) D (fun _ _ _ _ _ _ v ws hl => match ws, hl with | [_, _], _ => rfl)⟩
  · obtain ⟨a, y, z, rfl, _⟩ := h
    rfl
  · obtain ⟨a, y, z, rfl, ha, k⟩ := h
    refine ⟨_, pss_cons (ps_vst (pv 0) (pv 1)) (pss_one (ps_vst (pv 0) (pv 2))), ?_⟩
    refine ⟨_, rfl, _, rfl, a, _, rfl, c.v, c.n _ List.mem_cons_self, .inl ⟨ha, fun dx nd ne => ?_⟩⟩
    exact ⟨_, rfl, _, rfl, a, _, rfl, c.v, c.n _ (List.mem_cons_of_mem _ List.mem_cons_self), .inr ⟨dx, _, upd_same, by rw [upd_ne ne]; exact upd_same, (by show 1 ≤ 900; omega), k dx nd ne⟩⟩
theorem eb_NoOutput (T : Tx K mg) : EbC K (gAd "NoOutput" K) 1 := eb_ok basL (f_eb_NoOutput T.c)
theorem eb_NotComparable (T : Tx K mg) : EbC K (gAd "NotComparable" K) 2 := eb_ok basR (f_eb_NotComparable T.c)
theorem eb_NothingToUndo (T : Tx K mg) : EbC K (gAd "NothingToUndo" K) 2 := eb_ok basR (f_eb_NothingToUndo T.c)
theorem eb_Busy (T : Tx K mg) : EbC K (gAd "Busy" K) 2 := eb_ok basR (f_eb_Busy T.c)
theorem eb_DividedByZero (T : Tx K mg) : EbC K (gAd "DividedByZero" K) 2 := eb_ok basR (f_eb_DividedByZero T.c)
end
end K05

namespace K05
open PySem PySem.Spec PyProof.Rows L2 Hk NumM NumT SX
section
variable {P : Program} {w : World} {K : Fr} {mg : Str → Option Value} {base : Heap}
/-- a spring's list: the digits left, the state, the count -/
structure Spr (d e c : Int) : Prop where
  d0 : 0 ≤ d
  e0 : 0 ≤ e
  e1 : e < 1000000007
  c0 : 0 ≤ c
def sprL (d e c : Int) : List V := [.int d, .int e, .int c]
/-- draws a number below many, turns the spring's list alone -/
def spNext : Sp := fun vs H Q _ => ∃ (a : Addr) (m d e c : Int), vs = [.ref a, .int m] ∧ H a = some (.lst (sprL d e c)) ∧ Spr d e c ∧ 0 < m ∧ m.natAbs < 2 ^ 200 ∧
  ∀ (v d' e' c' : Int), 0 ≤ v → v < m → Spr d' e' c' → Q (.int v) (upd H a (.lst (sprL d' e' c')))
theorem c_next (T : Tx K mg) : Cal P w K mg base 1 "_law_next" (gAd "_law_next" K) ["_law_spring_here", "_law_many"] spNext := by
  refine cal_of (d := d_l_next) (N := ["_law_spring_here", "_law_many", "_law_digit", "_law_state"]) (a_l_next T.c) rfl sc_l_next (g_l_next T) (fun _ _ _ _ _ _ us hl => match us, hl with | [_, _], _ => rfl) (fun vs H Q E h => ?_) (fun cdv A outer s H vs Q E hr h => ?_)
  · obtain ⟨a, m, d, e, c, rfl, _⟩ := h
    rfl
  · obtain ⟨a, m, d, e, c, rfl, hH, hs, hm, hm2, k⟩ := h
    refine ⟨_, pss_cons (ps_asg (pe_op op_add (pe_ix ix_list (pv 0) pe_int (fun _ _ => rfl)) pe_int) (pg_sub (pv 0) pe_int set_list))
      (pss_cons (ps_if (pt_cmpR op_gt (pe_ix ix_list (pv 0) pe_int (fun _ _ => rfl)) pe_int (nomark _))
        (pss_cons (ps_set (i := 2) sc_l_next.nd rfl (.inl rfl) (pe_op op_modN (pe_callTy call_int1 (by rfl) (n_int T) bo_int (pa_cons (pe_ix ix_list (pv 0) pe_int (fun _ _ => rfl)) pa_nil)) (pv 1)))
        (pss_cons (ps_asg (pe_op op_fdivW (pe_ix ix_list (pv 0) pe_int (fun _ _ => rfl)) (pv 1)) (pg_sub (pv 0) pe_int set_list))
        (pss_one (ps_ret (pv 2))))) pss_nil)
      (pss_cons (ps_set (i := 3) sc_l_next.nd rfl (.inl rfl) (pe_callTy call_int1 (by rfl) (n_int T) bo_int (pa_cons (pe_ix ix_list (pv 0) pe_int (fun _ _ => rfl)) pa_nil)))
      (pss_cons (ps_asg (pe_op op_mod (pe_callTy call_int1 (by rfl) (n_int T) bo_int (pa_cons
          (pe_op op_add (pe_op op_add (pe_op op_mul (pv 3) (pe_op op_add (pe_op op_mod (pv 3) pe_int) pe_int)) (pe_op op_mul pe_int (pe_ix ix_list (pv 0) pe_int (fun _ _ => rfl)))) pe_int) pa_nil)) pe_int) (pg_sub (pv 0) pe_int set_list))
      (pss_one (ps_ret (pe_op op_modN (pe_callTy call_int1 (by rfl) (n_int T) bo_int (pa_cons (pe_op op_fdiv (pe_ix ix_list (pv 0) pe_int (fun _ _ => rfl)) pe_int) pa_nil)) (pv 1))))))), ?_⟩
    refine ⟨_, rfl, a, _, 2, _, rfl, rfl, .inl (.inl hH), rfl, c, 1, rfl, rfl, _, rfl, a, _, 2, 2, rfl, rfl, hH, rfl, ?_⟩
    -- h[0] > 0
    refine ⟨_, rfl, a, _, 0, _, rfl, rfl, .inl (.inl upd_same), rfl, _, _, rfl, rfl, _, rfl, ?_⟩
    refine ite2 (fun hd => ?_) (fun hd => ?_)
    · have hd : 0 < d := of_decide_eq_true hd
      refine ⟨_, rfl, a, _, 0, _, rfl, rfl, .inl (.inl upd_same), rfl, .inl ⟨_, rfl, _, rfl, _, _, rfl, rfl, (by omega), ?_⟩⟩
      refine ⟨_, rfl, a, _, 0, _, rfl, rfl, .inl (.inl upd_same), rfl, _, rfl, _, _, rfl, rfl, wide_div hm hm2 (by decide) (by decide), _, rfl, a, _, 0, 0, rfl, rfl, upd_same, rfl, ?_⟩
      refine ⟨_, rfl, ?_⟩
      show Q _ _
      rw [upd_upd]
      refine k _ (d / m) e (c + 1) (Int.fmod_nonneg_of_pos _ hm) (Int.fmod_lt_of_pos _ hm) ⟨Int.ediv_nonneg hs.d0 (by omega), hs.e0, hs.e1, by have := hs.c0; omega⟩
    · refine ⟨_, rfl, a, _, 1, _, rfl, rfl, .inl (.inl upd_same), rfl, .inl ⟨_, rfl, ?_⟩⟩
      refine ⟨_, rfl, _, rfl, _, _, rfl, rfl, (by show (0 : Int) < 65521; decide), _, _, rfl, rfl, _, _, rfl, rfl, .inl ⟨by have := hs.e0; omega, by have := hs.e1; omega⟩, ?_⟩
      refine ⟨_, rfl, a, _, 2, _, rfl, rfl, .inl (.inl upd_same), rfl, _, _, rfl, rfl, .inl ⟨by decide, by decide⟩, _, _, rfl, rfl, _, _, rfl, rfl, .inl ⟨_, rfl, _, _, rfl, rfl, (by show (0 : Int) < 1000000007; decide), _, rfl, a, _, 1, 1, rfl, rfl, upd_same, rfl, ?_⟩⟩
      refine ⟨_, rfl, a, _, 1, _, rfl, rfl, .inl (.inl upd_same), rfl, _, _, rfl, rfl, ⟨by decide, by decide⟩, .inl ⟨_, rfl, _, rfl, _, _, rfl, rfl, (by omega), ?_⟩⟩
      show Q _ _
      rw [upd_upd]
      exact k _ d _ (c + 1) (Int.fmod_nonneg_of_pos _ hm) (Int.fmod_lt_of_pos _ hm) ⟨hs.d0, Int.emod_nonneg _ (by decide), Int.emod_lt_of_pos _ (by decide), by have := hs.c0; omega⟩
/-- a new spring from the script -/
def spSpring (K : Fr) : Sp := fun vs H Q _ => ∃ (a : Addr) (ns : List Int) (j : Nat), vs = [.ref a, .int j] ∧ SqL K H a (ns.map V.int) ∧ ns.length ≤ 63 ∧ j ≤ 63 ∧
  ∀ (p : Addr) (d e c : Int), H p = none → Spr d e c → Q (.ref p) (upd H p (.lst (sprL d e c)))
theorem c_spring (T : Tx K mg) : Cal P w K mg base 1 "_law_spring" (gAd "_law_spring" K) ["_law_script", "_law_spot"] (spSpring K) := by
  refine cal_of (d := d_l_spring) (N := ["_law_script", "_law_spot", "_law_mixed", "_law_at", "_law_own", "_law_digits"]) (a_l_spring T.c) rfl sc_l_spring (g_l_spring T) (fun _ _ _ _ _ _ us hl => match us, hl with | [_, _], _ => rfl) (fun vs H Q E h => ?_) (fun cdv A outer s H vs Q E hr h => ?_)
  · obtain ⟨a, ns, j, rfl, _⟩ := h
    rfl
  · obtain ⟨a, ns, j, rfl, hS, hn, hj, k⟩ := h
    refine ⟨_, (pss_cons (ps_set (i := 2) sc_l_spring.nd rfl (.inl rfl) pe_int)
 (pss_cons (ps_for PassesOwn.never rfl (pi_range1 (by rfl) (n_range T) (pa_cons (pe_callB (call_min2 rfl) (by rfl) (n_min T) bo_min (pa_cons (pe_callB call_len_seq (by rfl) (n_len T) bo_len (pa_cons (pv 0) pa_nil)) (pa_cons pe_int pa_nil))) pa_nil)) (pg_name (i := 3) sc_l_spring.nd rfl (.inl rfl))
 (pss_one (ps_set (i := 2) sc_l_spring.nd rfl (.inl rfl) (pe_op op_mod (pe_callTy call_int1 (by rfl) (n_int T) bo_int (pa_cons (pe_op op_add (pe_op op_add (pe_op op_mul (pv 2) pe_int) (pe_op op_mul (pe_ix ix_list (pv 0) (pv 3) (fun _ _ => rfl)) (pe_op op_add (pv 3) pe_int))) pe_int) pa_nil)) pe_int))))
 (pss_cons (ps_set (i := 4) sc_l_spring.nd rfl (.inl rfl) (pe_ifExp (pt_cmpR op_lt (pv 1) (pe_callB call_len_seq (by rfl) (n_len T) bo_len (pa_cons (pv 0) pa_nil)) (nomark _)) (pe_ix ix_list (pv 0) (pv 1) (fun _ _ => rfl)) (pe_op op_add (pe_op op_mul (pv 2) pe_int) (pe_op op_mul (pv 1) pe_int))))
 (pss_cons (ps_set (i := 5) sc_l_spring.nd rfl (.inl rfl) (pe_ifExp (PW.pt (pw_or (pt_cmpR op_lt (pv 4) pe_int (nomark _)) (pw_or1 (pt_cmpR op_ge (pv 4) (pe_op op_pow pe_int pe_int) (nomark _))))) (pe_callB call_abs (by rfl) (n_abs T) bo_abs (pa_cons (pv 4) pa_nil)) pe_int))
 (pss_one (ps_ret (pe_lst (pa_cons (pv 5) (pa_cons (pe_op op_mod (pe_callTy call_int1 (by rfl) (n_int T) bo_int (pa_cons (pe_op op_add (pe_op op_add (pe_op op_mul (pv 4) pe_int) (pv 2)) pe_int) pa_nil)) pe_int) (pa_cons pe_int pa_nil)))))))))), ?_⟩
    -- mixed = 23; for at in range(min(len(script), 5))
    have hlen : ((ns.map V.int).length : Int) = (ns.length : Int) := by rw [List.length_map]
    refine ⟨_, rfl, a, _, rfl, .inl hS, _, _, rfl, _, rfl, ?_, ?_, ?_⟩
    · rw [hlen]; split <;> omega
    · rw [hlen]; split <;> omega
    rw [hlen]
    generalize hm : (if (5 : Int) < (ns.length : Int) then (5 : Int) else (ns.length : Int)) = m
    have hm2 : m ≤ ns.length := by rw [← hm]; split <;> omega
    refine for_range (lo := 0) (n := m.toNat) (fun i σ H' => H' = H ∧ ∃ (x : Int) (y : Option V), σ = [some (.ref a), some (.int j), some (.int x), y, none, none]) ⟨rfl, 23, none, rfl⟩ ?_ ?_
    · rintro i σ H' hi ⟨rfl, x, y, rfl⟩
      have hi2 : i < ns.length := by omega
      obtain ⟨n, h1, h2⟩ := map_int_get hi2
      have e0 : (0 : Int) + (i : Int) = ((i : Nat) : Int) := by omega
      rw [e0]
      refine ⟨_, rfl, _, _, rfl, rfl, .inr ⟨by decide, by decide⟩, _, rfl, _, rfl, a, _, _, _, rfl, rfl, hS, h2, _, rfl, _, _, rfl, rfl, _, _, rfl, rfl, .inr ⟨by omega, by omega⟩, ?_⟩
      refine ⟨_, _, rfl, rfl, _, _, rfl, rfl, .inl ⟨_, rfl, _, _, rfl, rfl, (by show (0 : Int) < 1000000007; decide), rfl, _, _, rfl⟩⟩
    · rintro σ H' ⟨rfl, x, y, rfl⟩
      -- own
      refine ⟨_, rfl, _, rfl, a, _, rfl, .inl hS, _, _, rfl, rfl, _, rfl, ?_⟩
      have fin : ∀ o : Int, (fun (σ : L2.St) (H : Hp) => L2.tSeq (tAsg (tIf (tOr (tTest (tOp (rI0 fun i j => V.bl (decide (i < j))) (tVar 4) (tC (.int 0)))) (tTest (tOp (rI0 fun i j => V.bl (decide (j ≤ i))) (tVar 4) (tOp (rI CPow fun i j => V.int (i ^ j.toNat)) (tC (.int 10)) (tC (.int 18)))))) (tCB (fun xs H Q => ∃ i, xs = [.int i] ∧ Q (.int (if i < 0 then -i else i)) H) (tCons (tVar 4) tNil)) (tC (.int 0))) (gName 5))
          (tRet (tLst (tCons (tVar 5) (tCons (tOp (rI (fun _ j => 0 < j) fun i j => V.int (i % j)) (tCB (fun xs H Q => (∃ i, xs = [V.int i] ∧ Q (V.int i) H) ∨ ∃ k, xs = [V.bl k] ∧ Q (V.int (if k then 1 else 0)) H) (tCons (tOp (rI0 fun i j => V.int (i + j)) (tOp (rI0 fun i j => V.int (i + j)) (tOp (rI CMul fun i j => V.int (i * j)) (tVar 4) (tC (.int 2654435))) (tVar 2)) (tC (.int 12345))) tNil)) (tC (.int 1000000007))) (tCons (tC (.int 0)) tNil))))) { nx := fun _ H' => Q .non H', rt := Q } σ H) [some (.ref a), some (.int j), some (.int x), y, some (.int o), none] H' := by
        intro o
        refine ⟨_, rfl, _, _, rfl, rfl, _, rfl, ?_⟩
        have last : ∀ d : Int, 0 ≤ d → (fun (σ : L2.St) (H : Hp) => tRet (tLst (tCons (tVar 5) (tCons (tOp (rI (fun _ j => 0 < j) fun i j => V.int (i % j)) (tCB (fun xs H Q => (∃ i, xs = [V.int i] ∧ Q (V.int i) H) ∨ ∃ k, xs = [V.bl k] ∧ Q (V.int (if k then 1 else 0)) H) (tCons (tOp (rI0 fun i j => V.int (i + j)) (tOp (rI0 fun i j => V.int (i + j)) (tOp (rI CMul fun i j => V.int (i * j)) (tVar 4) (tC (.int 2654435))) (tVar 2)) (tC (.int 12345))) tNil)) (tC (.int 1000000007))) (tCons (tC (.int 0)) tNil)))) { nx := fun _ H' => Q .non H', rt := Q } σ H) [some (.ref a), some (.int j), some (.int x), y, some (.int o), some (.int d)] H' := by
          intro d hd
          refine ⟨_, rfl, _, rfl, _, _, rfl, rfl, .inr ⟨by decide, by decide⟩, _, rfl, _, _, rfl, rfl, _, _, rfl, rfl, .inl ⟨_, rfl, _, _, rfl, rfl, (by show (0 : Int) < 1000000007; decide), (by show 3 ≤ sizeLine; decide), fun p np => ?_⟩⟩
          exact k p _ _ 0 np ⟨hd, Int.emod_nonneg _ (by decide), Int.emod_lt_of_pos _ (by decide), by decide⟩
        refine ite2 (fun z => ?_) (fun z => ?_)
        · refine iteT ⟨_, rfl, _, rfl, ?_⟩
          exact last _ (by have := of_decide_eq_true z; split <;> omega)
        · refine ⟨_, rfl, _, _, rfl, rfl, ⟨by decide, by decide, by decide⟩, _, _, rfl, rfl, _, rfl, ?_⟩
          refine ite2 (fun z2 => ⟨_, rfl, _, rfl, ?_⟩) (fun z2 => ?_)
          · exact last _ (by split <;> omega)
          · exact last 0 (by omega)
      refine ite2 (fun z => ?_) (fun z => ?_)
      · have hj2 : j < ns.length := by
          have := of_decide_eq_true z
          rw [hlen] at this
          omega
        obtain ⟨n, h1, h2⟩ := map_int_get hj2
        exact ⟨_, rfl, _, rfl, a, _, _, _, rfl, rfl, hS, h2, fin n⟩
      · exact ⟨_, rfl, _, _, rfl, rfl, .inr ⟨by decide, by decide⟩, _, rfl, _, _, rfl, rfl, .inr ⟨by decide, by decide⟩, _, _, rfl, rfl, fin _⟩
def SprAt (a : Addr) (H : Hp) : Prop := ∃ d e c, H a = some (.lst (sprL d e c)) ∧ Spr d e c
theorem SprAt.same {a : Addr} {H H' : Hp} (s : SprAt a H) (h : Same H H') : SprAt a H' := by
  obtain ⟨d, e, c, h1, h2⟩ := s
  exact ⟨d, e, c, h _ _ h1, h2⟩
theorem SprAt.ne {a p : Addr} {H : Hp} (s : SprAt a H) (np : H p = none) : a ≠ p := by
  obtain ⟨d, e, c, h1, h2⟩ := s
  exact ne_of_none h1 np
def spNextO : Sp := fun vs H Q _ => ∃ (a : Addr) (m : Int), vs = [.ref a, .int m] ∧ SprAt a H ∧ 0 < m ∧ m.natAbs < 2 ^ 200 ∧ ∀ (v : Int) (H' : Hp), 0 ≤ v → v < m → Old a H H' → SprAt a H' → Q (.int v) H'
theorem c_nextO (T : Tx K mg) : Cal P w K mg base 1 "_law_next" (gAd "_law_next" K) ["_law_spring_here", "_law_many"] spNextO :=
  (c_next T).imp fun vs H Q E ⟨a, m, e, ⟨d, x, c, h1, h2⟩, hm, hm2, k⟩ => ⟨a, m, d, x, c, e, h1, h2, hm, hm2, fun v d' e' c' v0 v1 s => k v _ v0 v1 Old.put ⟨d', e', c', upd_same, s⟩⟩
/-- an item of a list is drawn -/
def spOne : Sp := fun vs H Q _ => ∃ (a q : Addr) (d e c : Int) (xs : List V), vs = [.ref a, .ref q] ∧ H a = some (.lst (sprL d e c)) ∧ Spr d e c ∧ H q = some (.lst xs) ∧ a ≠ q ∧ xs ≠ [] ∧ xs.length ≤ 1000 ∧
  ∀ (x : V) (d' e' c' : Int), x ∈ xs → Spr d' e' c' → Q x (upd H a (.lst (sprL d' e' c')))
theorem c_one (T : Tx K mg) : Cal P w K mg base 2 "_law_one" (gAd "_law_one" K) ["_law_spring_here", "_law_things"] spOne := by
  have C_l_next := c_next (P := P) (w := w) (base := base) T
  refine cal_of (d := d_l_one) (N := ["_law_spring_here", "_law_things"]) (a_l_one T.c) rfl sc_l_one (g_l_one T) (fun _ _ _ _ _ _ us hl => match us, hl with | [_, _], _ => rfl) (fun vs H Q E h => ?_) (fun cdv A outer s H vs Q E hr h => ?_)
  · obtain ⟨a, q, d, e, c, xs, rfl, _⟩ := h
    rfl
  · obtain ⟨a, q, d, e, c, xs, rfl, ha, hs, hq, ne, nx, hl, k⟩ := h
    have lp : 0 < xs.length := List.length_pos_iff.mpr nx
    refine ⟨_, (pss_one (ps_ret (pe_ix ix_list (pv 1) (pe_c C_l_next hr (pa_cons (pv 0) (pa_cons (pe_callB call_len_seq (by rfl) (n_len T) bo_len (pa_cons (pv 1) pa_nil)) pa_nil))) (fun _ _ => rfl)))), ?_⟩
    refine ⟨_, rfl, _, rfl, _, rfl, q, xs, rfl, .inl (.inl (.inl hq)), a, _, d, e, c, rfl, ha, hs, by omega, ?_, fun v d' e' c' h0 h1 hs' => ?_⟩
    · have : ((xs.length : Nat) : Int).natAbs = xs.length := by omega
      rw [this]
      exact Nat.lt_of_le_of_lt hl (by decide +kernel)
    · obtain ⟨j, rfl⟩ := Int.eq_ofNat_of_zero_le h0
      have hj : j < xs.length := by omega
      have hx : xs[j]? = some xs[j] := by simp [hj]
      exact ⟨q, xs, _, xs[j], rfl, rfl, .inl (.inl (by rw [upd_ne (Ne.symm ne)]; exact hq)), atI_nat hx, k _ d' e' c' (List.getElem_mem hj) hs'⟩

/-! ### the rows of an error -/
def ofL (i : Nat) : List Bool := [decide (0 = i), decide (1 = i), decide (2 = i), decide (3 = i), decide (0 = i), decide (1 = i), decide (2 = i), decide (3 = i)]
def spRows (K : Fr) : Sp := fun vs H Q _ => ∃ (a D : Addr) (i : Nat), vs = [.ref a] ∧ ((∃ fs, VeAt H a D fs) ∨ VeBare H a D) ∧ RowC K D i ∧ ∀ (p : Addr) (H' : Hp), Same H H' → H p = none → H' p = some (.lst ((ofL i).map V.bl)) → Q (.ref p) H'
theorem ve_same {H H' : Hp} {a D : Addr} (s : Same H H') (v : (∃ fs, VeAt H a D fs) ∨ VeBare H a D) : (∃ fs, VeAt H' a D fs) ∨ VeBare H' a D := by
  rcases v with ⟨fs, v⟩ | v
  · exact .inl ⟨fs, v.same s⟩
  · exact .inr (s _ _ v)
theorem c_rows (T : Tx K mg) : Cal P w K mg base 1 "_law_rows" (gAd "_law_rows" K) ["_law_e"] (spRows K) := by
  refine cal_of (d := d_l_rows) (N := ["_law_e", "_law_own", "_law_more"]) (a_l_rows T.c) rfl sc_l_rows (g_l_rows T) (fun _ _ _ _ _ _ us hl => match us, hl with | [_], _ => rfl) (fun vs H Q E h => ?_) (fun cdv A outer s H vs Q E hr h => ?_)
  · obtain ⟨a, D, i, rfl, _⟩ := h
    rfl
  · obtain ⟨a, D, i, rfl, v, R, k⟩ := h
    refine ⟨_, (pss_cons (ps_set (i := 1) sc_l_rows.nd rfl (.inl rfl) (pe_lst (pa_cons (pe_callB call_isV (by rfl) (n_isinstance T) bo_isinstance (pa_cons (pv 0) (pa_cons (pe_glob (v := .ref (gAd "InputError" K)) rfl (g_InputError T) rfl) pa_nil))) (pa_cons (pe_callB call_isV (by rfl) (n_isinstance T) bo_isinstance (pa_cons (pv 0) (pa_cons (pe_glob (v := .ref (gAd "NetError" K)) rfl (g_NetError T) rfl) pa_nil))) (pa_cons (pe_callB call_isV (by rfl) (n_isinstance T) bo_isinstance (pa_cons (pv 0) (pa_cons (pe_glob (v := .ref (gAd "StateError" K)) rfl (g_StateError T) rfl) pa_nil))) (pa_cons (pe_callB call_isV (by rfl) (n_isinstance T) bo_isinstance (pa_cons (pv 0) (pa_cons (pe_glob (v := .ref (gAd "LimitError" K)) rfl (g_LimitError T) rfl) pa_nil))) pa_nil))))))
 (pss_cons (ps_set (i := 2) sc_l_rows.nd rfl (.inl rfl) (pe_lst (pa_cons (pe_callB call_isV (by rfl) (n_isinstance T) bo_isinstance (pa_cons (pv 0) (pa_cons (pe_bltn (v := .ty "ValueError") (by rfl) (n_ValueError T) (by decide +kernel) rfl) pa_nil))) (pa_cons (pe_callB call_isV (by rfl) (n_isinstance T) bo_isinstance (pa_cons (pv 0) (pa_cons (pe_bltn (v := .ty "LookupError") (by rfl) (n_LookupError T) (by decide +kernel) rfl) pa_nil))) (pa_cons (pe_callB call_isV (by rfl) (n_isinstance T) bo_isinstance (pa_cons (pv 0) (pa_cons (pe_bltn (v := .ty "RuntimeError") (by rfl) (n_RuntimeError T) (by decide +kernel) rfl) pa_nil))) pa_nil)))))
 (pss_one (ps_ret (pe_op op_cat (pe_op op_cat (pv 1) (pv 2)) (pe_lst (pa_cons (pe_callB call_isV (by rfl) (n_isinstance T) bo_isinstance (pa_cons (pv 0) (pa_cons (pe_bltn (v := .ty "ArithmeticError") (by rfl) (n_ArithmeticError T) (by decide +kernel) rfl) pa_nil))) pa_nil))))))), ?_⟩
    have o0 := R.o ("InputError", 0) (by simp [ownBs])
    have o1 := R.o ("NetError", 1) (by simp [ownBs])
    have o2 := R.o ("StateError", 2) (by simp [ownBs])
    have o3 := R.o ("LimitError", 3) (by simp [ownBs])
    have b0 := R.b ("ValueError", 0) (by simp [pyBs])
    have b1 := R.b ("LookupError", 1) (by simp [pyBs])
    have b2 := R.b ("RuntimeError", 2) (by simp [pyBs])
    have b3 := R.b ("ArithmeticError", 3) (by simp [pyBs])
    refine ⟨_, rfl, a, D, _, _, _, rfl, v, R.x, .own _, o0, _, rfl, a, D, _, _, _, rfl, v, R.x, .own _, o1, _, rfl, a, D, _, _, _, rfl, v, R.x, .own _, o2, _, rfl, a, D, _, _, _, rfl, v, R.x, .own _, o3, (by show 4 ≤ sizeLine; decide), fun p np => ?_⟩
    have s1 := same_upd (o := .lst [.bl (decide (0 = i)), .bl (decide (1 = i)), .bl (decide (2 = i)), .bl (decide (3 = i))]) np
    have v1 := ve_same s1 v
    refine ⟨_, rfl, a, D, _, _, _, rfl, v1, R.x, .ty _, b0, _, rfl, a, D, _, _, _, rfl, v1, R.x, .ty _, b1, _, rfl, a, D, _, _, _, rfl, v1, R.x, .ty _, b2, (by show 3 ≤ sizeLine; decide), fun q nq => ?_⟩
    have s2 := same_upd (o := .lst [.bl (decide (0 = i)), .bl (decide (1 = i)), .bl (decide (2 = i))]) nq
    have v2 := ve_same s2 v1
    have hp2 : upd (upd H p (.lst [.bl (decide (0 = i)), .bl (decide (1 = i)), .bl (decide (2 = i)), .bl (decide (3 = i))])) q (.lst [.bl (decide (0 = i)), .bl (decide (1 = i)), .bl (decide (2 = i))]) p = some (.lst [.bl (decide (0 = i)), .bl (decide (1 = i)), .bl (decide (2 = i)), .bl (decide (3 = i))]) := s2 _ _ upd_same
    refine ⟨_, rfl, _, rfl, p, q, _, _, rfl, rfl, hp2, upd_same, (by show 4 + 3 ≤ sizeLine; decide), fun r nr => ?_⟩
    have s3 := same_upd (o := .lst ([.bl (decide (0 = i)), .bl (decide (1 = i)), .bl (decide (2 = i)), .bl (decide (3 = i))] ++ [.bl (decide (0 = i)), .bl (decide (1 = i)), .bl (decide (2 = i))])) nr
    have v3 := ve_same s3 v2
    refine ⟨_, rfl, a, D, _, _, _, rfl, v3, R.x, .ty _, b3, (by show 1 ≤ sizeLine; decide), fun t nt => ?_⟩
    have s4 := same_upd (o := .lst [.bl (decide (3 = i))]) nt
    refine ⟨r, t, _, _, rfl, rfl, s4 _ _ upd_same, upd_same, (by show 7 + 1 ≤ sizeLine; decide), fun u nu => ?_⟩
    have s5 := ((s1.trans s2).trans s3).trans s4
    exact k u _ (s5.trans (same_upd nu)) (s5.free nu) upd_same
def spOf : Sp := fun vs H Q _ => ∃ i : Nat, vs = [.int i] ∧ ∀ (p : Addr) (H' : Hp), Same H H' → H p = none → H' p = some (.lst ((ofL i).map V.bl)) → Q (.ref p) H'
def preL (i j : Nat) : List Bool := (List.range j).map fun k => decide (k = i)
theorem c_of (T : Tx K mg) : Cal P w K mg base 1 "_law_of" (gAd "_law_of" K) ["_law_spot"] spOf := by
  refine cal_of (d := d_l_of) (N := ["_law_spot", "_law_at"]) (a_l_of T.c) rfl sc_l_of (g_l_of T) (fun _ _ _ _ _ _ us hl => match us, hl with | [_], _ => rfl) (fun vs H Q E h => ?_) (fun cdv A outer s H vs Q E hr h => ?_)
  · obtain ⟨i, rfl, _⟩ := h
    rfl
  · obtain ⟨i, rfl, k⟩ := h
    refine ⟨_, (pss_one (ps_ret (pe_op op_rep (pe_lc (own := [("_law_at", 1)]) (g := gName 1) (tt := tYes) rfl sc_l_of.nd (pi_range1 (by rfl) (n_range T) (pa_cons pe_int pa_nil)) (blkOk_by (N := ["_law_spot", "_law_at"]) (sc := defScope s_l_of) (by decide +kernel)) (fun _ _ _ _ _ => pg_name (i := 1) sc_l_of.nd rfl (.inl rfl)) (fun _ _ _ _ _ => pts_nil) (fun _ _ _ _ _ => (pe_cmpR op_eq (pv 1) (pv 0) (nomark _)))) pe_int))), ?_⟩
    refine ⟨4, rfl, by decide, by decide, fun D nD => ?_⟩
    refine lc_range (lo := 0) (n := 4) (fun j H3 => Same H H3 ∧ H3 D = some (.lst ((preL i j).map V.bl))) ⟨same_upd nD, upd_same⟩ ?_ ?_
    · rintro j H3 hj ⟨s3, hD⟩
      refine ⟨rfl, ?_⟩
      unfold tYes
      dsimp only
      rw [if_pos rfl]
      refine ⟨_, rfl, _, rfl, rfl, ?_⟩
      refine ⟨_, hD, ?_, ?_, ?_⟩
      · rw [List.length_map]
        unfold preL
        rw [List.length_map, List.length_range]
        exact Nat.lt_of_lt_of_le (show j < 1000 by omega) (by decide)
      · exact same_upd' s3 nD
      · rw [upd_same]
        have e : preL i (j + 1) = preL i j ++ [decide (j = i)] := by
          unfold preL
          rw [List.range_succ, List.map_append]
          rfl
        rw [e, List.map_append, Hk.dec_int]
        have e2 : decide ((0 : Int) + (j : Int) = (i : Int)) = decide (j = i) := by
          by_cases z : j = i
          · subst z; simp
          · rw [decide_eq_false z, decide_eq_false (by omega)]
        rw [e2]
        rfl
    · rintro H3 ⟨s3, hD⟩
      refine ⟨D, 2, _, rfl, rfl, hD, by decide, by decide, (by show _ * 2 ≤ sizeLine; rw [List.length_map]; unfold preL; rw [List.length_map, List.length_range]; decide), fun p np => ?_⟩
      refine k p _ (s3.trans (same_upd np)) (s3.free np) ?_
      rw [upd_same]
      rfl
/-- what two show is the same -/
def spSame (K : Fr) : Sp := fun vs H Q _ => ∃ (x y : V) (z : Str), vs = [x, y] ∧ Sh K H x z ∧ Sh K H y z ∧ Q (.bl true) H
theorem c_same (T : Tx K mg) : CalG P w K mg base 1 "_law_same" (gAd "_law_same" K) ["_law_one_here", "_law_other"] (spSame K) := by
  refine calg_of (d := d_l_same) (N := ["_law_one_here", "_law_other"]) (a_l_same T.c) rfl sc_l_same (g_l_same T) (fun _ _ _ _ _ _ us hl => match us, hl with | [_, _], _ => rfl) (fun vs H Q E h => ?_) (fun cdv A outer s H vs Q E hr hc h => ?_)
  · obtain ⟨x, y, z, rfl, _⟩ := h
    rfl
  · obtain ⟨x, y, z, rfl, h1, h2, k⟩ := h
    refine ⟨_, (pss_one (ps_ret (pe_cmpR op_eq (pe_callB (call_reprS hc hr) (by rfl) (n_repr T) bo_repr (pa_cons (pv 0) pa_nil)) (pe_callB (call_reprS hc hr) (by rfl) (n_repr T) bo_repr (pa_cons (pv 1) pa_nil)) (nomark _)))), ?_⟩
    refine ⟨_, rfl, x, z, rfl, h1, _, rfl, y, z, rfl, h2, rfl, ?_⟩
    rw [decide_eq_true rfl]
    exact k
end
end K05

namespace Hk
open PySem PySem.Spec PyProof.Rows L2
/-- a list of errors with these fields, of the base i -/
def Errs (K : Fr) (H : Hp) (fs : List (Str × V)) (i : Nat) (xs : List V) : Prop := ∀ x ∈ xs, ∃ a C, x = .ref a ∧ VeAt H a C fs ∧ RowC K C i ∧ ∀ p ∈ fs, PySem.W.findIn K (.ref C) p.1 = some none
theorem Errs.same {K : Fr} {H H' : Hp} {fs : List (Str × V)} {i : Nat} {xs : List V} (e : Errs K H fs i xs) (s : Same H H') : Errs K H' fs i xs := fun x hx => by
  obtain ⟨a, C, h1, h2, h3⟩ := e x hx
  exact ⟨a, C, h1, h2.same s, h3⟩
theorem Errs.nil {K : Fr} {H : Hp} {fs : List (Str × V)} {i : Nat} : Errs K H fs i [] := fun x hx => absurd hx (by simp)
theorem Errs.app {K : Fr} {H : Hp} {fs : List (Str × V)} {i : Nat} {xs zs : List V} (e : Errs K H fs i xs) (g : Errs K H fs i zs) : Errs K H fs i (xs ++ zs) := fun x hx => by
  rcases List.mem_append.mp hx with h | h
  · exact e x h
  · exact g x h
theorem Errs.one {K : Fr} {H : Hp} {fs : List (Str × V)} {i : Nat} {a C : Addr} (v : VeAt H a C fs) (r : RowC K C i) (n : ∀ p ∈ fs, PySem.W.findIn K (.ref C) p.1 = some none) : Errs K H fs i [.ref a] := fun x hx => by
  rw [List.mem_singleton] at hx
  exact ⟨a, C, hx, v, r, n⟩
/-- a reading that makes such an error -/
def Makes (K : Fr) (fs : List (Str × V)) (i : Nat) (σ : L2.St) (te : TE) : Prop := ∀ (H : Hp) (Q : VK), (∀ H' a, Same H H' → H a = none → Errs K H' fs i [.ref a] → Q (.ref a) H') → te σ H Q
inductive AllMk (K : Fr) (fs : List (Str × V)) (i : Nat) (σ : L2.St) : Nat → TA → Prop
  | nil : AllMk K fs i σ 0 tNil
  | cons {n : Nat} {te : TE} {ta : TA} : Makes K fs i σ te → AllMk K fs i σ n ta → AllMk K fs i σ (n + 1) (tCons te ta)
theorem AllMk.run {K : Fr} {fs : List (Str × V)} {i : Nat} {σ : L2.St} {n : Nat} {ta : TA} (a : AllMk K fs i σ n ta) : ∀ (H : Hp) (Q : List V → Hp → Prop), (∀ H' xs, Same H H' → Errs K H' fs i xs → xs.length = n → Q xs H') → ta σ H Q := by
  induction a with
  | nil => exact fun H Q h => h H [] (Same.refl H) Errs.nil rfl
  | cons m _ ih => exact fun H Q h => m H _ fun H1 a s1 _ e1 => ih H1 _ fun H2 xs s2 e2 l2 => h H2 (.ref a :: xs) (s1.trans s2) (Errs.app (e1.same s2) e2) (by rw [List.length_cons, l2])
theorem AllMk.lst {K : Fr} {fs : List (Str × V)} {i : Nat} {σ : L2.St} {n : Nat} {ta : TA} (a : AllMk K fs i σ n ta) (hn : n ≤ 1000) (H : Hp) (Q : VK) (h : ∀ H' p xs, Same H H' → H p = none → H' p = some (.lst xs) → Errs K H' fs i xs → xs.length = n → Q (.ref p) H') : tLst ta σ H Q := by
  refine a.run H _ fun H1 xs s1 e1 l1 => ⟨by rw [l1]; exact Nat.le_trans hn (by decide), fun p np => ?_⟩
  exact h _ p xs (s1.trans (same_upd np)) (s1.free np) upd_same (e1.same (same_upd np)) l1
theorem mk_e1 {K : Fr} {x f : Str} {i j : Nat} {σ : L2.St} {y : V} (c : EcC K (He.ga K x) (mAd x "__init__" K) [f] i) (h : σ[j]? = some (some y)) : Makes K [(f, y)] i σ (tE1 (He.ga K x) f (tCons (tVar j) tNil)) := fun H Q q =>
  ⟨y, h, y, rfl, fun H' a s na v => q H' a s na (Errs.one v c.r fun p hp => by rw [List.mem_singleton.mp hp]; exact c.n _ List.mem_cons_self)⟩
theorem mk_eK {K : Fr} {x f : Str} {i j : Nat} {σ : L2.St} {y : V} (c : EcC K (He.ga K x) (mAd x "__init__" K) [f] i) (h : σ[j]? = some (some y)) : Makes K [(f, y)] i σ (tEK (He.ga K x) f (tCons (tVar j) tNil)) := fun H Q q =>
  ⟨y, h, y, rfl, fun H' a s na v => q H' a s na (Errs.one v c.r fun p hp => by rw [List.mem_singleton.mp hp]; exact c.n _ List.mem_cons_self)⟩
theorem mk_e2 {K : Fr} {x f g : Str} {i j l : Nat} {σ : L2.St} {y z : V} (c : EcC K (He.ga K x) (mAd x "__init__" K) [f, g] i) (h : σ[j]? = some (some y)) (h2 : σ[l]? = some (some z)) : Makes K [(g, z), (f, y)] i σ (tE2 (He.ga K x) f g (tCons (tVar j) (tCons (tVar l) tNil))) := fun H Q q =>
  ⟨y, h, z, h2, y, z, rfl, fun H' a s na v => q H' a s na (Errs.one v c.r fun p hp => by
    rcases List.mem_cons.mp hp with e | e
    · rw [e]; exact c.n _ (List.mem_cons_of_mem _ List.mem_cons_self)
    · rw [List.mem_singleton.mp e]; exact c.n _ List.mem_cons_self)⟩
theorem mk_e2K {K : Fr} {x f g : Str} {i j l : Nat} {σ : L2.St} {y z : V} (c : EcC K (He.ga K x) (mAd x "__init__" K) [f, g] i) (h : σ[j]? = some (some y)) (h2 : σ[l]? = some (some z)) : Makes K [(g, z), (f, y)] i σ (tE2K (He.ga K x) f g (tCons (tVar l) (tCons (tVar j) tNil))) := fun H Q q =>
  ⟨z, h2, y, h, y, z, rfl, fun H' a s na v => q H' a s na (Errs.one v c.r fun p hp => by
    rcases List.mem_cons.mp hp with e | e
    · rw [e]; exact c.n _ (List.mem_cons_of_mem _ List.mem_cons_self)
    · rw [List.mem_singleton.mp e]; exact c.n _ List.mem_cons_self)⟩
theorem seq_lst {ta : TA} {i : Nat} {u : TS} {D : Ends} {σ : L2.St} {H : Hp} (h : tLst ta σ H fun v H1 => u D (σ.set i (some v)) H1) : tSeq (tAsg (tLst ta) (gName i)) u D σ H := h
theorem look1 {f : Str} {y : V} {r : List (Str × V)} : List.lookup f ((f, y) :: r) = some y := by simp [List.lookup]
end Hk
namespace K05
open PySem PySem.Spec PyProof.Rows L2 Hk NumM NumT SX
section
variable {P : Program} {w : World} {K : Fr} {mg : Str → Option Value} {base : Heap}
theorem ofL_eq {K : Fr} {H : Hp} {p q : Addr} {i : Nat} (h1 : H p = some (.lst ((ofL i).map V.bl))) (h2 : H q = some (.lst ((ofL i).map V.bl))) : ∃ d e, Dp K H (.ref p) d ∧ Dp K H (.ref q) e ∧ SeqAt.shaped d = true ∧ SeqAt.shaped e = true ∧ PyData.eqv d e = true :=
  ⟨_, _, dp_bls h1, dp_bls h2, shaped_bls _, shaped_bls _, eqv_bls _⟩
abbrev N_v : List Str := ["_law_thing", "_law_found", "_law_e", "_law_more"]
def spThing (K : Fr) : Sp := fun vs H Q _ => ∃ (y : V) (z : Str), vs = [y] ∧ Sh K H y z ∧ ∀ H', Same H H' → Q (.bl true) H'

theorem c_values (T : Tx K mg) : CalG P w K mg base 3 "_law_values_right" (gAd "_law_values_right" K) ["_law_thing"] (spThing K) := by
  have C_same := c_same (P := P) (w := w) (base := base) T
  have C_rows := c_rows (P := P) (w := w) (base := base) T
  have C_of := c_of (P := P) (w := w) (base := base) T
  refine calg_of (d := d_l_values_right) (N := N_v) (a_l_values_right T.c) rfl sc_l_values_right (g_l_values_right T) (fun _ _ _ _ _ _ us hl => match us, hl with | [_], _ => rfl) (fun vs H Q E h => ?_) (fun cdv A outer s H vs Q E hr hc h => ?_)
  · obtain ⟨y, z, rfl, _⟩ := h
    rfl
  · obtain ⟨y, z, rfl, sh, k⟩ := h
    have r1 : Room 1 _ := hr.mono (by decide)
    have r2 : Room 2 _ := hr
    refine ⟨_, (pss_cons (ps_set (i := 1) sc_l_values_right.nd rfl (.inl rfl) (pe_lst (pa_cons (pe_e1 (er_InvalidName T) r2 (pa_cons (pv 0) pa_nil)) (pa_cons (pe_e1 (er_InvalidText T) r2 (pa_cons (pv 0) pa_nil)) (pa_cons (pe_e1 (er_InvalidStep T) r2 (pa_cons (pv 0) pa_nil)) (pa_cons (pe_e1 (er_InvalidGain T) r2 (pa_cons (pv 0) pa_nil)) (pa_cons (pe_e1 (er_InvalidCount T) r2 (pa_cons (pv 0) pa_nil)) pa_nil)))))))
 (pss_cons (ps_set (i := 1) sc_l_values_right.nd rfl (.inl rfl) (pe_op op_cat (pv 1) (pe_lst (pa_cons (pe_e1 (er_InvalidTime T) r2 (pa_cons (pv 0) pa_nil)) (pa_cons (pe_e1 (er_InvalidRates T) r2 (pa_cons (pv 0) pa_nil)) (pa_cons (pe_e1 (er_NotANumber T) r2 (pa_cons (pv 0) pa_nil)) (pa_cons (pe_e1 (er_NotASignal T) r2 (pa_cons (pv 0) pa_nil)) (pa_cons (pe_e1 (er_NotANet T) r2 (pa_cons (pv 0) pa_nil)) pa_nil))))))))
 (pss_cons (ps_set (i := 1) sc_l_values_right.nd rfl (.inl rfl) (pe_op op_cat (pv 1) (pe_lst (pa_cons (pe_e1 (er_NotAPlayer T) r2 (pa_cons (pv 0) pa_nil)) (pa_cons (pe_eK (er_InvalidName T) r2 (pk_cons (pv 0) pk_nil)) (pa_cons (pe_eK (er_NotANet T) r2 (pk_cons (pv 0) pk_nil)) pa_nil))))))
 (pss_cons (ps_for PassesOwn.never rfl (pi_list (pv 1)) (pg_name (i := 2) sc_l_values_right.nd rfl (.inl rfl))
 (pss_one (ps_if (PW.pt (pw_or (pt_not (pt_val (pe_g C_same r1 hc (pa_cons (pe_veF (pv 2)) (pa_cons (pv 0) pa_nil))))) (pw_or1 (pt_cmpR (op_neD hr.units) (pe_c C_rows r1 (pa_cons (pv 2) pa_nil)) (pe_c C_of r1 (pa_cons pe_int pa_nil)) (nomark _)))))
 (pss_one (ps_ret pe_bl))
 pss_nil)))
 (pss_cons (ps_set (i := 3) sc_l_values_right.nd rfl (.inl rfl) (pe_lst (pa_cons (pe_e1 (er_InvalidTerms T) r2 (pa_cons (pv 0) pa_nil)) (pa_cons (pe_e1 (er_InvalidInputs T) r2 (pa_cons (pv 0) pa_nil)) (pa_cons (pe_e1 (er_InvalidOutputs T) r2 (pa_cons (pv 0) pa_nil)) (pa_cons (pe_e1 (er_InvalidSamples T) r2 (pa_cons (pv 0) pa_nil)) pa_nil))))))
 (pss_cons (ps_set (i := 3) sc_l_values_right.nd rfl (.inl rfl) (pe_op op_cat (pv 3) (pe_lst (pa_cons (pe_e1 (er_InvalidSteps T) r2 (pa_cons (pv 0) pa_nil)) (pa_cons (pe_e1 (er_InvalidEdit T) r2 (pa_cons (pv 0) pa_nil)) (pa_cons (pe_eK (er_InvalidTerms T) r2 (pk_cons (pv 0) pk_nil)) pa_nil))))))
 (pss_one (ps_ret (pe_callB (cr_all rfl) (by rfl) (n_all T) bo_all (pa_cons (pe_lc (own := [("_law_e", 2)]) (g := gName 2) (tt := tYes) rfl sc_l_values_right.nd (pi_list (pv 3)) (blkOk_by (N := N_v) (sc := defScope s_l_values_right) (by decide +kernel)) (fun _ _ _ _ _ => pg_name (i := 2) sc_l_values_right.nd rfl (.inl rfl)) (fun _ _ _ _ _ => pts_nil) (fun _ _ _ _ _ => (pe_and (pe_g C_same r1 hc (pa_cons (pe_veF (pv 2) : PE _ _ (tVeF K "index" (tVar 2))) (pa_cons (pv 0) pa_nil))) (pe_one (pe_cmpR (op_eqD (by exact hr.units) : OpR _ _ (rEqD K)) (pe_c C_rows r1 (pa_cons (pv 2) pa_nil)) (pe_c C_of r1 (pa_cons pe_int pa_nil)) (nomark _)))))) pa_nil)))))))))), ?_⟩
    refine seq_lst (AllMk.lst (K := K) (σ := [some y, none, none, none]) (fs := [("value", y)]) (i := 0) (n := 5) (.cons (mk_e1 (j := 0) (er_InvalidName (P := P) (w := w) (base := base) T).c rfl) (.cons (mk_e1 (j := 0) (er_InvalidText (P := P) (w := w) (base := base) T).c rfl) (.cons (mk_e1 (j := 0) (er_InvalidStep (P := P) (w := w) (base := base) T).c rfl) (.cons (mk_e1 (j := 0) (er_InvalidGain (P := P) (w := w) (base := base) T).c rfl) (.cons (mk_e1 (j := 0) (er_InvalidCount (P := P) (w := w) (base := base) T).c rfl) .nil))))) (by decide) _ _ fun H1 p1 X1 s1 n1 hp1 E1 l1 => ?_)
    refine ⟨_, rfl, ?_⟩
    refine AllMk.lst (K := K) (σ := [some y, some (.ref p1), none, none]) (fs := [("value", y)]) (i := 0) (n := 5) (.cons (mk_e1 (j := 0) (er_InvalidTime (P := P) (w := w) (base := base) T).c rfl) (.cons (mk_e1 (j := 0) (er_InvalidRates (P := P) (w := w) (base := base) T).c rfl) (.cons (mk_e1 (j := 0) (er_NotANumber (P := P) (w := w) (base := base) T).c rfl) (.cons (mk_e1 (j := 0) (er_NotASignal (P := P) (w := w) (base := base) T).c rfl) (.cons (mk_e1 (j := 0) (er_NotANet (P := P) (w := w) (base := base) T).c rfl) .nil))))) (by decide) _ _ fun H2 p2 X2 s2 n2 hp2 E2 l2 => ?_
    refine ⟨p1, p2, X1, X2, rfl, rfl, s2 _ _ hp1, hp2, (by rw [l1, l2]; decide), fun p3 n3 => ?_⟩
    have s3 := same_upd (o := .lst (X1 ++ X2)) n3
    have E3 : Errs K (upd H2 p3 (.lst (X1 ++ X2))) [("value", y)] 0 (X1 ++ X2) := ((E1.same s2).app E2).same s3
    have hp3 : upd H2 p3 (.lst (X1 ++ X2)) p3 = some (.lst (X1 ++ X2)) := upd_same
    have S3 := (s1.trans s2).trans s3
    have l3 : (X1 ++ X2).length = 10 := by rw [List.length_append, l1, l2]
    generalize X1 ++ X2 = X3 at *
    generalize upd H2 p3 (.lst X3) = H3 at *
    refine ⟨_, rfl, ?_⟩
    refine AllMk.lst (K := K) (σ := [some y, some (.ref p3), none, none]) (fs := [("value", y)]) (i := 0) (n := 3) (.cons (mk_e1 (j := 0) (er_NotAPlayer (P := P) (w := w) (base := base) T).c rfl) (.cons (mk_eK (j := 0) (er_InvalidName (P := P) (w := w) (base := base) T).c rfl) (.cons (mk_eK (j := 0) (er_NotANet (P := P) (w := w) (base := base) T).c rfl) .nil))) (by decide) _ _ fun H4 p4 X4 s4 n4 hp4 E4 l4 => ?_
    refine ⟨p3, p4, X3, X4, rfl, rfl, s4 _ _ hp3, hp4, (by rw [l3, l4]; decide), fun p5 n5 => ?_⟩
    have s5 := same_upd (o := .lst (X3 ++ X4)) n5
    have E5 : Errs K (upd H4 p5 (.lst (X3 ++ X4))) [("value", y)] 0 (X3 ++ X4) := ((E3.same s4).app E4).same s5
    have hp5 : upd H4 p5 (.lst (X3 ++ X4)) p5 = some (.lst (X3 ++ X4)) := upd_same
    have S5 := (S3.trans s4).trans s5
    generalize X3 ++ X4 = X5 at *
    generalize upd H4 p5 (.lst X5) = H5 at *
    refine ⟨_, rfl, p5, rfl, ⟨_, .inl (.inl hp5)⟩, ?_⟩
    refine for_list (xs := X5) (fun j σ H' => Same H5 H' ∧ ∃ x m : Option V, σ = [some y, some (.ref p5), x, m]) ⟨Same.refl _, none, none, rfl⟩ (fun j σ H' hj h => .inl (.inl (h.1 _ _ hp5))) ?_ ?_
    · rintro j x σ H' hx ⟨t1, x0, m0, rfl⟩
      obtain ⟨a, C, rfl, v, R, no⟩ := E5 x (List.mem_of_getElem? hx)
      have v1 := v.same t1
      have sh1 := sh.same (S5.trans t1)
      refine ⟨_, rfl, a, C, _, _, rfl, v1, R.x, no _ List.mem_cons_self, look1, _, rfl, _, _, z, rfl, sh1, sh1, true, rfl, iteF ?_⟩
      refine ⟨_, rfl, a, C, 0, rfl, .inl ⟨_, v1⟩, R, fun q1 G1 u1 m1 g1 => ?_⟩
      refine ⟨0, rfl, fun q2 G2 u2 m2 g2 => ?_⟩
      obtain ⟨d, e, h1, h2, h3, h4, h5⟩ := ofL_eq (K := K) (u2 _ _ g1) g2
      refine ⟨d, e, h1, h2, h3, h4, ?_⟩
      rw [h5]
      refine ⟨_, rfl, iteF ?_⟩
      exact ⟨(t1.trans u1).trans u2, _, _, rfl⟩
    · rintro σ H' ⟨t1, x0, m0, rfl⟩
      have S6 := S5.trans t1
      refine seq_lst (AllMk.lst (K := K) (σ := [some y, some (.ref p5), x0, m0]) (fs := [("index", y)]) (i := 0) (n := 4) (.cons (mk_e1 (j := 0) (er_InvalidTerms (P := P) (w := w) (base := base) T).c rfl) (.cons (mk_e1 (j := 0) (er_InvalidInputs (P := P) (w := w) (base := base) T).c rfl) (.cons (mk_e1 (j := 0) (er_InvalidOutputs (P := P) (w := w) (base := base) T).c rfl) (.cons (mk_e1 (j := 0) (er_InvalidSamples (P := P) (w := w) (base := base) T).c rfl) .nil)))) (by decide) _ _ fun H6 p6 X6 s6 n6 hp6 E6 l6 => ?_)
      refine ⟨_, rfl, ?_⟩
      refine AllMk.lst (K := K) (σ := [some y, some (.ref p5), x0, some (.ref p6)]) (fs := [("index", y)]) (i := 0) (n := 3) (.cons (mk_e1 (j := 0) (er_InvalidSteps (P := P) (w := w) (base := base) T).c rfl) (.cons (mk_e1 (j := 0) (er_InvalidEdit (P := P) (w := w) (base := base) T).c rfl) (.cons (mk_eK (j := 0) (er_InvalidTerms (P := P) (w := w) (base := base) T).c rfl) .nil))) (by decide) _ _ fun H7 p7 X7 s7 n7 hp7 E7 l7 => ?_
      refine ⟨p6, p7, X6, X7, rfl, rfl, s7 _ _ hp6, hp7, (by rw [l6, l7]; decide), fun p8 n8 => ?_⟩
      have s8 := same_upd (o := .lst (X6 ++ X7)) n8
      have E8 : Errs K (upd H7 p8 (.lst (X6 ++ X7))) [("index", y)] 0 (X6 ++ X7) := ((E6.same s7).app E7).same s8
      have hp8 : upd H7 p8 (.lst (X6 ++ X7)) p8 = some (.lst (X6 ++ X7)) := upd_same
      have S8 := ((S6.trans s6).trans s7).trans s8
      have l8 : (X6 ++ X7).length = 7 := by rw [List.length_append, l6, l7]
      generalize X6 ++ X7 = X8 at *
      generalize upd H7 p8 (.lst X8) = H8 at *
      refine ⟨_, rfl, p8, rfl, ⟨_, .inl (.inl hp8)⟩, fun D nD => ?_⟩
      refine lc_list (xs := X8) (fun j H3 => Same H8 H3 ∧ H3 D = some (.lst ((List.replicate j true).map V.bl))) ⟨same_upd nD, upd_same⟩ (fun j H3 hj h => .inl (.inl (h.1 _ _ hp8))) ?_ ?_
      · rintro j x H3 hx ⟨t2, hD⟩
        obtain ⟨a, C, rfl, v, R, no⟩ := E8 x (List.mem_of_getElem? hx)
        have v1 := v.same t2
        have sh1 := sh.same (S8.trans t2)
        have hj : j < 7 := by
          rw [← l8]
          exact (List.getElem?_eq_some_iff.mp hx).1
        refine ⟨rfl, ?_⟩
        unfold tYes
        dsimp only
        rw [if_pos rfl]
        refine ⟨_, rfl, a, C, _, _, rfl, v1, R.x, no _ List.mem_cons_self, look1, _, rfl, _, _, z, rfl, sh1, sh1, true, rfl, iteT ?_⟩
        refine ⟨_, rfl, a, C, 0, rfl, .inl ⟨_, v1⟩, R, fun q1 G1 u1 m1 g1 => ?_⟩
        refine ⟨0, rfl, fun q2 G2 u2 m2 g2 => ?_⟩
        obtain ⟨d, e, h1, h2, h3, h4, h5⟩ := ofL_eq (K := K) (u2 _ _ g1) g2
        refine ⟨d, e, h1, h2, h3, h4, ?_⟩
        rw [h5]
        have t3 := (t2.trans u1).trans u2
        refine ⟨_, (u1.trans u2) _ _ hD, ?_, ?_, ?_⟩
        · rw [List.length_map, List.length_replicate]
          exact Nat.lt_of_lt_of_le (show j < 1000 by omega) (by decide)
        · intro b u hb
          rw [upd_ne (ne_of_none hb nD)]
          exact t3 _ _ hb
        · rw [upd_same, List.replicate_succ', List.map_append]
          rfl
      · rintro H3 ⟨t2, hD⟩
        refine ⟨D, List.replicate X8.length true, rfl, .inl (.inl hD), ?_⟩
        rw [l8]
        exact k _ (S8.trans t2)
end
end K05

namespace Hk
open PySem PySem.Spec PyProof.Rows L2
theorem seq_for {K : Fr} {ta : TA} {g : TG} {tb u : TS} {D : Ends} {σ : L2.St} {H : Hp} (D' : Ends) (hD : D' = { D with nx := u D }) (h : tLst ta σ H fun x H1 => ∃ a, x = .ref a ∧ (∃ xs, SqL K H1 a xs) ∧ ∃ W : Nat → Nat → L2.St → Hp → Prop, (∃ m, W 0 m σ H1) ∧ ∀ i m σ H, W i m σ H →
    ((Itl K a).stop i H ∧ D'.nx σ H) ∨ ((Itl K a).go i H ∧ ∃ N : L2.St → Hp → Prop, (∀ σ' H', N σ' H' → ∃ m', m' < m ∧ W (i + 1) m' σ' H') ∧ ∀ x H', (Itl K a).yld i H x H' → g x σ H' fun σ2 H2 => tb { D' with nx := N, ct := N, bk := D'.nx } σ2 H2)) :
    tSeq (tFor (iList K (tLst ta)) g tb) u D σ H := by
  subst hD
  exact h
theorem look2 {f g : Str} {y z : V} (n : ¬ (f = g)) : List.lookup f [(g, z), (f, y)] = some y := by
  have e : (f == g) = false := by simpa using n
  simp [List.lookup, e]
end Hk
namespace K05
open PySem PySem.Spec PyProof.Rows L2 Hk NumM NumT SX
section
variable {P : Program} {w : World} {K : Fr} {mg : Str → Option Value} {base : Heap}
abbrev N_o : List Str := ["_law_thing", "_law_other", "_law_e"]
def spTwo (K : Fr) : Sp := fun vs H Q _ => ∃ (y y2 : V) (z z2 : Str), vs = [y, y2] ∧ Sh K H y z ∧ Sh K H y2 z2 ∧ ∀ H', Same H H' → Q (.bl true) H'
theorem kit_no (T : Tx K mg) : PySem.W.kitOne K (.ref (He.ga K "NoOutput")) (.ref (He.ga K "NoOutput")) = some true := of_decide_eq_true (f_kit_NoOutput T.c)

theorem c_others (T : Tx K mg) : CalG P w K mg base 3 "_law_others_right" (gAd "_law_others_right" K) ["_law_thing", "_law_other"] (spTwo K) := by
  have C_same := c_same (P := P) (w := w) (base := base) T
  have C_rows := c_rows (P := P) (w := w) (base := base) T
  have C_of := c_of (P := P) (w := w) (base := base) T
  refine calg_of (d := d_l_others_right) (N := N_o) (a_l_others_right T.c) rfl sc_l_others_right (g_l_others_right T) (fun _ _ _ _ _ _ us hl => match us, hl with | [_, _], _ => rfl) (fun vs H Q E h => ?_) (fun cdv A outer s H vs Q E hr hc h => ?_)
  · obtain ⟨y, y2, z, z2, rfl, _⟩ := h
    rfl
  · obtain ⟨y, y2, z, z2, rfl, sh, sh2, k⟩ := h
    have r1 : Room 1 _ := hr.mono (by decide)
    have r2 : Room 2 _ := hr
    refine ⟨_, (pss_cons (ps_for PassesOwn.never rfl (pi_list (pe_lst (pa_cons (pe_e1 (er_UnknownName T) r2 (pa_cons (pv 0) pa_nil)) (pa_cons (pe_e1 (er_NameTaken T) r2 (pa_cons (pv 0) pa_nil)) (pa_cons (pe_e1 (er_TwoRates T) r2 (pa_cons (pv 0) pa_nil)) (pa_cons (pe_eK (er_NoRate T) r2 (pk_cons (pv 0) pk_nil)) pa_nil)))))) (pg_name (i := 2) sc_l_others_right.nd rfl (.inl rfl))
 (pss_one (ps_if (PW.pt (pw_or (pt_not (pt_val (pe_g C_same r1 hc (pa_cons (pe_veF (pv 2)) (pa_cons (pv 0) pa_nil))))) (pw_or1 (pt_cmpR (op_neD hr.units) (pe_c C_rows r1 (pa_cons (pv 2) pa_nil)) (pe_c C_of r1 (pa_cons pe_int pa_nil)) (nomark _)))))
 (pss_one (ps_ret pe_bl))
 pss_nil)))
 (pss_cons (ps_for PassesOwn.never rfl (pi_list (pe_lst (pa_cons (pe_e1 (er_RingWithoutDelay T) r2 (pa_cons (pv 0) pa_nil)) (pa_cons (pe_eK (er_RingWithoutDelay T) r2 (pk_cons (pv 0) pk_nil)) pa_nil)))) (pg_name (i := 2) sc_l_others_right.nd rfl (.inl rfl))
 (pss_one (ps_if (PW.pt (pw_or (pt_not (pt_val (pe_g C_same r1 hc (pa_cons (pe_veF (pv 2)) (pa_cons (pv 0) pa_nil))))) (pw_or1 (pt_cmpR (op_neD hr.units) (pe_c C_rows r1 (pa_cons (pv 2) pa_nil)) (pe_c C_of r1 (pa_cons pe_int pa_nil)) (nomark _)))))
 (pss_one (ps_ret pe_bl))
 pss_nil)))
 (pss_cons (ps_for PassesOwn.never rfl (pi_list (pe_lst (pa_cons (pe_e2 (er_BrokenDemand T) r2 (pa_cons (pv 0) (pa_cons (pv 1) pa_nil))) (pa_cons (pe_e2K (er_BrokenDemand T) r2 (pk_cons (pv 1) (pk_cons (pv 0) pk_nil))) pa_nil)))) (pg_name (i := 2) sc_l_others_right.nd rfl (.inl rfl))
 (pss_one (ps_if (PW.pt (pw_or (pt_not (pt_val (pe_g C_same r1 hc (pa_cons (pe_veF (pv 2)) (pa_cons (pv 0) pa_nil))))) (pw_or (pt_not (pt_val (pe_g C_same r1 hc (pa_cons (pe_veF (pv 2)) (pa_cons (pv 1) pa_nil))))) (pw_or1 (pt_cmpR (op_neD hr.units) (pe_c C_rows r1 (pa_cons (pv 2) pa_nil)) (pe_c C_of r1 (pa_cons pe_int pa_nil)) (nomark _))))))
 (pss_one (ps_ret pe_bl))
 pss_nil)))
 (pss_cons (ps_for PassesOwn.never rfl (pi_list (pe_lst (pa_cons (pe_e1 (er_TooMany T) r2 (pa_cons (pv 0) pa_nil)) (pa_cons (pe_e1 (er_TooLarge T) r2 (pa_cons (pv 0) pa_nil)) (pa_cons (pe_eK (er_TooLarge T) r2 (pk_cons (pv 0) pk_nil)) pa_nil))))) (pg_name (i := 2) sc_l_others_right.nd rfl (.inl rfl))
 (pss_one (ps_if (PW.pt (pw_or (pt_not (pt_val (pe_g C_same r1 hc (pa_cons (pe_veF (pv 2)) (pa_cons (pv 0) pa_nil))))) (pw_or1 (pt_cmpR (op_neD hr.units) (pe_c C_rows r1 (pa_cons (pv 2) pa_nil)) (pe_c C_of r1 (pa_cons pe_int pa_nil)) (nomark _)))))
 (pss_one (ps_ret pe_bl))
 pss_nil)))
 (pss_cons (ps_if (PW.pt (pw_or (pt_cmpR (op_neD hr.units) (pe_c C_rows r1 (pa_cons (pe_e0 (eb_NoOutput T) (g_NoOutput T)) pa_nil)) (pe_c C_of r1 (pa_cons pe_int pa_nil)) (nomark _)) (pw_or1 (pt_not (pt_val (pe_callB call_isV (by rfl) (n_isinstance T) bo_isinstance (pa_cons (pe_e0 (eb_NoOutput T) (g_NoOutput T)) (pa_cons (pe_glob (v := .ref (gAd "NoOutput" K)) rfl (g_NoOutput T) rfl) pa_nil))))))))
 (pss_one (ps_ret pe_bl))
 pss_nil)
 (pss_one (ps_ret (pe_cmpR (op_eqD hr.units) (pe_lc (own := [("_law_e", 2)]) (g := gName 2) (tt := tYes) rfl sc_l_others_right.nd (pi_list (pe_lst (pa_cons (pe_e0 (eb_NotComparable T) (g_NotComparable T)) (pa_cons (pe_e0 (eb_NothingToUndo T) (g_NothingToUndo T)) (pa_cons (pe_e0 (eb_Busy T) (g_Busy T)) (pa_cons (pe_e0 (eb_DividedByZero T) (g_DividedByZero T)) pa_nil)))))) (blkOk_by (N := N_o) (sc := defScope s_l_others_right) (by decide +kernel)) (fun _ _ _ _ _ => pg_name (i := 2) sc_l_others_right.nd rfl (.inl rfl)) (fun _ _ _ _ _ => pts_nil) (fun _ _ _ _ _ => (pe_c C_rows r1 (pa_cons (pv 2) pa_nil)))) (pe_op op_rep (pe_lst (pa_cons (pe_c C_of r1 (pa_cons pe_int pa_nil)) pa_nil)) pe_int) (nomark _))))))))), ?_⟩
    refine seq_for _ rfl (AllMk.lst (K := K) (σ := [some y, some y2, none]) (fs := [("name", y)]) (i := 1) (n := 4) (.cons (mk_e1 (j := 0) (er_UnknownName (P := P) (w := w) (base := base) T).c rfl) (.cons (mk_e1 (j := 0) (er_NameTaken (P := P) (w := w) (base := base) T).c rfl) (.cons (mk_e1 (j := 0) (er_TwoRates (P := P) (w := w) (base := base) T).c rfl) (.cons (mk_eK (j := 0) (er_NoRate (P := P) (w := w) (base := base) T).c rfl) .nil)))) (by decide) _ _ fun H0 p0 X0 s0 n0 hp0 E0 l0 => ?_)
    refine ⟨p0, rfl, ⟨_, .inl (.inl hp0)⟩, ?_⟩
    have S0 := (Same.refl H).trans s0
    refine for_list (xs := X0) (fun j σ H' => Same H0 H' ∧ ∃ x : Option V, σ = [some y, some y2, x]) ⟨Same.refl _, _, rfl⟩ (fun j σ H' hj h => .inl (.inl (h.1 _ _ hp0))) ?_ ?_
    · rintro j x σ H' hx ⟨t1, x0, rfl⟩
      obtain ⟨a, C, rfl, v, R, no⟩ := E0 x (List.mem_of_getElem? hx)
      have v1 := v.same t1
      have sh1 := sh.same (S0.trans t1)
      have sh3 := sh2.same (S0.trans t1)
      refine ⟨_, rfl, a, C, _, _, rfl, v1, R.x, no _ List.mem_cons_self, look1, _, rfl, _, _, z, rfl, sh1, sh1, true, rfl, iteF ?_⟩
      refine ⟨_, rfl, a, C, 1, rfl, .inl ⟨_, v1⟩, R, fun q1 G1 u1 m1 g1 => ?_⟩
      refine ⟨1, rfl, fun q2 G2 u2 m2 g2 => ?_⟩
      obtain ⟨d, e, h1, h2, h3, h4, h5⟩ := ofL_eq (K := K) (u2 _ _ g1) g2
      refine ⟨d, e, h1, h2, h3, h4, ?_⟩
      rw [h5]
      refine ⟨_, rfl, iteF ?_⟩
      exact ⟨(t1.trans u1).trans u2, _, rfl⟩
    rintro σ H0' ⟨t0, x0, rfl⟩
    have S0' := S0.trans t0
    refine seq_for _ rfl (AllMk.lst (K := K) (σ := [some y, some y2, x0]) (fs := [("ring", y)]) (i := 1) (n := 2) (.cons (mk_e1 (j := 0) (er_RingWithoutDelay (P := P) (w := w) (base := base) T).c rfl) (.cons (mk_eK (j := 0) (er_RingWithoutDelay (P := P) (w := w) (base := base) T).c rfl) .nil)) (by decide) _ _ fun H1 p1 X1 s1 n1 hp1 E1 l1 => ?_)
    refine ⟨p1, rfl, ⟨_, .inl (.inl hp1)⟩, ?_⟩
    have S1 := S0'.trans s1
    refine for_list (xs := X1) (fun j σ H' => Same H1 H' ∧ ∃ x : Option V, σ = [some y, some y2, x]) ⟨Same.refl _, _, rfl⟩ (fun j σ H' hj h => .inl (.inl (h.1 _ _ hp1))) ?_ ?_
    · rintro j x σ H' hx ⟨t1, x0, rfl⟩
      obtain ⟨a, C, rfl, v, R, no⟩ := E1 x (List.mem_of_getElem? hx)
      have v1 := v.same t1
      have sh1 := sh.same (S1.trans t1)
      have sh3 := sh2.same (S1.trans t1)
      refine ⟨_, rfl, a, C, _, _, rfl, v1, R.x, no _ List.mem_cons_self, look1, _, rfl, _, _, z, rfl, sh1, sh1, true, rfl, iteF ?_⟩
      refine ⟨_, rfl, a, C, 1, rfl, .inl ⟨_, v1⟩, R, fun q1 G1 u1 m1 g1 => ?_⟩
      refine ⟨1, rfl, fun q2 G2 u2 m2 g2 => ?_⟩
      obtain ⟨d, e, h1, h2, h3, h4, h5⟩ := ofL_eq (K := K) (u2 _ _ g1) g2
      refine ⟨d, e, h1, h2, h3, h4, ?_⟩
      rw [h5]
      refine ⟨_, rfl, iteF ?_⟩
      exact ⟨(t1.trans u1).trans u2, _, rfl⟩
    rintro σ H1' ⟨t1, x1, rfl⟩
    have S1' := S1.trans t1
    refine seq_for _ rfl (AllMk.lst (K := K) (σ := [some y, some y2, x1]) (fs := [("demand", y2), ("name", y)]) (i := 2) (n := 2) (.cons (mk_e2 (j := 0) (l := 1) (er_BrokenDemand (P := P) (w := w) (base := base) T).c rfl rfl) (.cons (mk_e2K (j := 0) (l := 1) (er_BrokenDemand (P := P) (w := w) (base := base) T).c rfl rfl) .nil)) (by decide) _ _ fun H2 p2 X2 s2 n2 hp2 E2 l2 => ?_)
    refine ⟨p2, rfl, ⟨_, .inl (.inl hp2)⟩, ?_⟩
    have S2 := S1'.trans s2
    refine for_list (xs := X2) (fun j σ H' => Same H2 H' ∧ ∃ x : Option V, σ = [some y, some y2, x]) ⟨Same.refl _, _, rfl⟩ (fun j σ H' hj h => .inl (.inl (h.1 _ _ hp2))) ?_ ?_
    · rintro j x σ H' hx ⟨t1, x0, rfl⟩
      obtain ⟨a, C, rfl, v, R, no⟩ := E2 x (List.mem_of_getElem? hx)
      have v1 := v.same t1
      have sh1 := sh.same (S2.trans t1)
      have sh3 := sh2.same (S2.trans t1)
      refine ⟨_, rfl, a, C, _, _, rfl, v1, R.x, no ("name", y) (List.mem_cons_of_mem _ List.mem_cons_self), look2 (by decide +kernel), _, rfl, _, _, z, rfl, sh1, sh1, true, rfl, iteF ?_⟩
      refine ⟨_, rfl, a, C, _, _, rfl, v1, R.x, no ("demand", y2) List.mem_cons_self, look1, _, rfl, _, _, z2, rfl, sh3, sh3, true, rfl, iteF ?_⟩
      refine ⟨_, rfl, a, C, 2, rfl, .inl ⟨_, v1⟩, R, fun q1 G1 u1 m1 g1 => ?_⟩
      refine ⟨2, rfl, fun q2 G2 u2 m2 g2 => ?_⟩
      obtain ⟨d, e, h1, h2, h3, h4, h5⟩ := ofL_eq (K := K) (u2 _ _ g1) g2
      refine ⟨d, e, h1, h2, h3, h4, ?_⟩
      rw [h5]
      refine ⟨_, rfl, iteF ?_⟩
      exact ⟨(t1.trans u1).trans u2, _, rfl⟩
    rintro σ H2' ⟨t2, x2, rfl⟩
    have S2' := S2.trans t2
    refine seq_for _ rfl (AllMk.lst (K := K) (σ := [some y, some y2, x2]) (fs := [("limit", y)]) (i := 3) (n := 3) (.cons (mk_e1 (j := 0) (er_TooMany (P := P) (w := w) (base := base) T).c rfl) (.cons (mk_e1 (j := 0) (er_TooLarge (P := P) (w := w) (base := base) T).c rfl) (.cons (mk_eK (j := 0) (er_TooLarge (P := P) (w := w) (base := base) T).c rfl) .nil))) (by decide) _ _ fun H3 p3 X3 s3 n3 hp3 E3 l3 => ?_)
    refine ⟨p3, rfl, ⟨_, .inl (.inl hp3)⟩, ?_⟩
    have S3 := S2'.trans s3
    refine for_list (xs := X3) (fun j σ H' => Same H3 H' ∧ ∃ x : Option V, σ = [some y, some y2, x]) ⟨Same.refl _, _, rfl⟩ (fun j σ H' hj h => .inl (.inl (h.1 _ _ hp3))) ?_ ?_
    · rintro j x σ H' hx ⟨t1, x0, rfl⟩
      obtain ⟨a, C, rfl, v, R, no⟩ := E3 x (List.mem_of_getElem? hx)
      have v1 := v.same t1
      have sh1 := sh.same (S3.trans t1)
      have sh3 := sh2.same (S3.trans t1)
      refine ⟨_, rfl, a, C, _, _, rfl, v1, R.x, no _ List.mem_cons_self, look1, _, rfl, _, _, z, rfl, sh1, sh1, true, rfl, iteF ?_⟩
      refine ⟨_, rfl, a, C, 3, rfl, .inl ⟨_, v1⟩, R, fun q1 G1 u1 m1 g1 => ?_⟩
      refine ⟨3, rfl, fun q2 G2 u2 m2 g2 => ?_⟩
      obtain ⟨d, e, h1, h2, h3, h4, h5⟩ := ofL_eq (K := K) (u2 _ _ g1) g2
      refine ⟨d, e, h1, h2, h3, h4, ?_⟩
      rw [h5]
      refine ⟨_, rfl, iteF ?_⟩
      exact ⟨(t1.trans u1).trans u2, _, rfl⟩
    rintro σ H3' ⟨t3, x3, rfl⟩
    have S3' := S3.trans t3
    refine fun e0 ne0 => ⟨e0, _, 1, rfl, .inr upd_same, (eb_NoOutput T).r, fun q1 G1 u1 m1 g1 => ?_⟩
    have V1 := S3'.trans ((same_upd ne0).trans u1)
    refine ⟨1, rfl, fun q2 G2 u2 m2 g2 => ?_⟩
    obtain ⟨d, e, h1, h2, h3, h4, h5⟩ := ofL_eq (K := K) (u2 _ _ g1) g2
    refine ⟨d, e, h1, h2, h3, h4, ?_⟩
    rw [h5]
    have V2 := V1.trans u2
    clear h1 h2 h5 g1 u1 m1 V1
    refine ⟨_, rfl, iteF ?_⟩
    refine fun e1 ne1 => ⟨e1, _, _, _, true, rfl, .inr upd_same, (eb_NoOutput T).r.x, .own _, kit_no T, true, rfl, iteF ?_⟩
    have V3 := V2.trans (same_upd (o := ExO (.ref (He.ga K "NoOutput")) e1) ne1)
    refine fun b0 nb0 b1 nb1 b2 nb2 b3 nb3 => ⟨(by show 4 ≤ sizeLine; decide), fun p4 n4 => ?_⟩
    have w0 := same_upd (o := ExO (.ref (He.ga K "NotComparable")) b0) nb0
    have w1 := same_upd (o := ExO (.ref (He.ga K "NothingToUndo")) b1) nb1
    have w2 := same_upd (o := ExO (.ref (He.ga K "Busy")) b2) nb2
    have w3 := same_upd (o := ExO (.ref (He.ga K "DividedByZero")) b3) nb3
    have w4 := same_upd (o := .lst [.ref b0, .ref b1, .ref b2, .ref b3]) n4
    have V4 := V3.trans ((((w0.trans w1).trans w2).trans w3).trans w4)
    have hb0 := (((w1.trans w2).trans w3).trans w4) _ _ (upd_same (a := b0) (o := ExO (.ref (He.ga K "NotComparable")) b0))
    have hb1 := ((w2.trans w3).trans w4) _ _ (upd_same (a := b1) (o := ExO (.ref (He.ga K "NothingToUndo")) b1))
    have hb2 := (w3.trans w4) _ _ (upd_same (a := b2) (o := ExO (.ref (He.ga K "Busy")) b2))
    have hb3 := w4 _ _ (upd_same (a := b3) (o := ExO (.ref (He.ga K "DividedByZero")) b3))
    refine ⟨p4, rfl, ⟨_, .inl (.inl upd_same)⟩, fun D nD => ?_⟩
    refine lc_list (xs := [.ref b0, .ref b1, .ref b2, .ref b3]) (fun j H3 => Same _ H3 ∧ ∃ rs : List Addr, rs.length = j ∧ H3 D = some (.lst (rs.map V.ref)) ∧ ∀ r ∈ rs, H3 r = some (.lst ((ofL 2).map V.bl))) ⟨same_upd nD, [], rfl, upd_same, fun r hr => absurd hr (by simp)⟩ (fun j H3 hj h => .inl (.inl (h.1 _ _ upd_same))) ?_ ?_
    · rintro j x H3 hx ⟨t2, rs, lr, hD, hrs⟩
      refine ⟨rfl, ?_⟩
      unfold tYes
      dsimp only
      rw [if_pos rfl]
      have bare : ∃ a C, x = .ref a ∧ VeBare H3 a C ∧ RowC K C 2 := by
        have hm := List.mem_of_getElem? hx
        simp only [List.mem_cons, List.not_mem_nil, or_false] at hm
        rcases hm with rfl | rfl | rfl | rfl
        · exact ⟨b0, _, rfl, t2 _ _ hb0, (eb_NotComparable T).r⟩
        · exact ⟨b1, _, rfl, t2 _ _ hb1, (eb_NothingToUndo T).r⟩
        · exact ⟨b2, _, rfl, t2 _ _ hb2, (eb_Busy T).r⟩
        · exact ⟨b3, _, rfl, t2 _ _ hb3, (eb_DividedByZero T).r⟩
      obtain ⟨a, C, rfl, vb, R⟩ := bare
      refine ⟨_, rfl, a, C, 2, rfl, .inr vb, R, fun q1 F1 u1 m1 g1 => ?_⟩
      have hj : j < 4 := (List.getElem?_eq_some_iff.mp hx).1
      refine ⟨_, u1 _ _ hD, ?_, ?_, rs ++ [q1], ?_, ?_, ?_⟩
      · rw [List.length_map, lr]
        exact Nat.lt_of_lt_of_le (show j < 1000 by omega) (by decide)
      · intro b u hb
        rw [upd_ne (ne_of_none hb nD)]
        exact (t2.trans u1) _ _ hb
      · rw [List.length_append, lr]
        rfl
      · rw [upd_same, List.map_append]
        rfl
      · intro r hr
        have hF : F1 r = some (.lst ((ofL 2).map V.bl)) := by
          rcases List.mem_append.mp hr with h | h
          · exact u1 _ _ (hrs r h)
          · rw [List.mem_singleton.mp h]
            exact g1
        have ne : r ≠ D := by
          rintro rfl
          rcases List.mem_append.mp hr with h | h
          · have z1 := hrs r h
            rw [hD] at z1
            have z2 := HO.lst.inj (Option.some.inj z1)
            have z3 := congrArg (fun l => l[0]?) z2
            simp [ofL] at z3
          · have z1 := List.mem_singleton.mp h
            rw [z1] at hD
            exact nomatch hD.symm.trans m1
        rw [upd_ne ne]
        exact hF
    · rintro H3 ⟨t2, rs, lr, hD, hrs⟩
      refine ⟨2, rfl, fun q2 F2 u2 m2 g2 => ⟨(by show 1 ≤ sizeLine; decide), fun p5 n5 => ?_⟩⟩
      refine ⟨p5, 4, _, rfl, rfl, upd_same, by decide, by decide, (by show 1 * 4 ≤ sizeLine; decide), fun p6 n6 => ?_⟩
      have x1 := same_upd (o := .lst [.ref q2]) n5
      have x2 := same_upd (o := .lst (List.replicate (4 : Int).toNat [V.ref q2]).flatten) n6
      have x3 := x1.trans x2
      have rsd : ∀ {H' : Hp} (l : List Addr), (∀ r ∈ l, H' r = some (.lst ((ofL 2).map V.bl))) → DpAll K H' (l.map V.ref) (List.replicate l.length (.list ((ofL 2).map PyData.bool))) := by
        intro H' l
        induction l with
        | nil => exact fun _ => .nil
        | cons c cs ih => exact fun hh => .cons (dp_bls (hh c List.mem_cons_self)) (ih fun r hr => hh r (List.mem_cons_of_mem _ hr))
      have d1 : Dp K (upd (upd F2 p5 (.lst [.ref q2])) p6 (.lst (List.replicate (4 : Int).toNat [V.ref q2]).flatten)) (.ref D) (.list (List.replicate 4 (.list ((ofL 2).map PyData.bool)))) := by
        refine .lst (.inl (.inl ((u2.trans x3) _ _ hD))) ?_
        have := rsd rs fun r hr => (u2.trans x3) _ _ (hrs r hr)
        rw [lr] at this
        exact this
      have d2 : Dp K (upd (upd F2 p5 (.lst [.ref q2])) p6 (.lst (List.replicate (4 : Int).toNat [V.ref q2]).flatten)) (.ref p6) (.list (List.replicate 4 (.list ((ofL 2).map PyData.bool)))) := by
        refine .lst (xs := [.ref q2, .ref q2, .ref q2, .ref q2]) (.inl (.inl upd_same)) ?_
        exact rsd [q2, q2, q2, q2] fun r hr => by
          have e : r = q2 := by simpa using hr
          rw [e]
          exact x3 _ _ g2
      refine ⟨_, _, d1, d2, by decide +kernel, by decide +kernel, ?_⟩
      have ee : PyData.eqv (.list (List.replicate 4 (.list ((ofL 2).map PyData.bool)))) (.list (List.replicate 4 (.list ((ofL 2).map PyData.bool)))) = true := by decide +kernel
      rw [ee]
      exact k _ (((V4.trans t2).trans u2).trans x3)
end
end K05

namespace Hk
open PySem PySem.Spec PyProof.Rows L2 NumM NumT SX
theorem sh_of {K : Fr} {H : Hp} {x : V} {d : PyData} (h : Dp K H x d) (a : d.showable = true) (b : d.depth ≤ 60) (c : d.leavesShort 320 = true) (e : d.bulk ≤ 2000) : Sh K H x d.shown := by
  refine .inl ⟨d, h, a, b, ?_, rfl⟩
  have l := PyData.shown_le_bulk 320 (by decide) d c
  rw [sizeLine_eq]
  have : 322 * d.bulk ≤ 322 * 2000 := Nat.mul_le_mul (Nat.le_refl _) e
  omega
theorem sh_int {K : Fr} {H : Hp} {i : Int} (h : Sz i) : ∃ z, Sh K H (.int i) z := ⟨_, sh_of (.int i) (show_int h) (by simp [PyData.depth]) (short_int h) (by simp [PyData.bulk])⟩
theorem sh_non {K : Fr} {H : Hp} : ∃ z, Sh K H .non z := ⟨_, sh_of .non rfl (by simp [PyData.depth]) rfl (by simp [PyData.bulk])⟩
theorem sh_bl {K : Fr} {H : Hp} {b : Bool} : ∃ z, Sh K H (.bl b) z := ⟨_, sh_of (.bl b) rfl (by simp [PyData.depth]) rfl (by simp [PyData.bulk])⟩
theorem sh_str {K : Fr} {H : Hp} {a : List Nat} (h : ∀ c ∈ a, c < 128) (l : a.length ≤ 1000) : ∃ z, Sh K H (.str (S a)) z := ⟨_, sh_of (.str _) rfl (by simp [PyData.depth]) (short_S h) (by
  simp only [PyData.bulk]
  have e1 : (S a).cps.size = a.length := by simp
  rw [e1]
  omega)⟩
theorem sh_tup {K : Fr} {H : Hp} {p : Addr} {i j : Int} (h : H p = some (.tup [.int i, .int j])) (si : Sz i) (sj : Sz j) : ∃ z, Sh K H (.ref p) z := by
  refine ⟨_, sh_of (.tup (ds := [.int i, .int j]) (.inl (.inl h)) (.cons (.int _) (.cons (.int _) .nil))) ?_ (by simp [PyData.depth, PyData.depthAll]) ?_ (by simp [PyData.bulk, PyData.bulkAll])⟩
  · have a := show_int si
    have c := show_int sj
    simp only [PyData.showable, PyData.showableAll] at a c ⊢
    simp [a, c]
  · have a := short_int si
    have c := short_int sj
    simp only [PyData.leavesShort, PyData.leavesShortAll] at a c ⊢
    simp [a, c]
theorem sh_lst {K : Fr} {H : Hp} {p : Addr} {i : Int} (h : H p = some (.lst [.int i])) (si : Sz i) : ∃ z, Sh K H (.ref p) z := by
  refine ⟨_, sh_of (.lst (ds := [.int i]) (.inl (.inl h)) (.cons (.int _) .nil)) ?_ (by simp [PyData.depth, PyData.depthAll]) ?_ (by simp [PyData.bulk, PyData.bulkAll])⟩
  · have a := show_int si
    simp only [PyData.showable, PyData.showableAll] at a ⊢
    simp [a]
  · have a := short_int si
    simp only [PyData.leavesShort, PyData.leavesShortAll] at a ⊢
    simp [a]
end Hk
namespace K05
open PySem PySem.Spec PyProof.Rows L2 Hk NumM NumT SX
section
variable {P : Program} {w : World} {K : Fr} {mg : Str → Option Value} {base : Heap}
def spOneO : Sp := fun vs H Q _ => ∃ (a q : Addr) (xs : List V), vs = [.ref a, .ref q] ∧ SprAt a H ∧ H q = some (.lst xs) ∧ a ≠ q ∧ xs ≠ [] ∧ xs.length ≤ 1000 ∧ ∀ (x : V) (H' : Hp), x ∈ xs → Old a H H' → SprAt a H' → Q x H'
theorem c_oneO (T : Tx K mg) : Cal P w K mg base 2 "_law_one" (gAd "_law_one" K) ["_law_spring_here", "_law_things"] spOneO :=
  (c_one (P := P) (w := w) (base := base) T).imp fun vs H Q E h => by
    obtain ⟨a, q, xs, rfl, ⟨d, e, c, h1, h2⟩, h3, h4, h5, h6, k⟩ := h
    exact ⟨a, q, d, e, c, xs, rfl, h1, h2, h3, h4, h5, h6, fun x d' e' c' hx hs => k x _ hx Old.put ⟨d', e', c', upd_same, hs⟩⟩
def thL (n : Int) (t : List Nat) (tp lp dp : Addr) : List V := [.int n, .str (S t), .non, .bl true, .bl false, .ref tp, .ref lp, .ref dp, .int 1, .int 0]
structure Th (H : Hp) (n : Int) (tp lp dp : Addr) : Prop where
  t : H tp = some (.tup [.int 1, .int n])
  l : H lp = some (.lst [.int 2])
  d : H dp = some (.dK [])
theorem Th.old {H H' : Hp} {n : Int} {tp lp dp p : Addr} (h : Th H n tp lp dp) (o : Old p H H') (n1 : tp ≠ p) (n2 : lp ≠ p) (n3 : dp ≠ p) : Th H' n tp lp dp := ⟨o _ _ h.t n1, o _ _ h.l n2, o _ _ h.d n3⟩
theorem Th.sh {K : Fr} {H : Hp} {n : Int} {t : List Nat} {tp lp dp : Addr} (h : Th H n tp lp dp) (sn : Sz n) (st : ∀ c ∈ t, c < 128) (sl : t.length ≤ 1000) : ∀ x ∈ thL n t tp lp dp, ∃ z, Sh K H x z := fun x hx => by
  unfold thL at hx
  simp only [List.mem_cons, List.not_mem_nil, or_false] at hx
  rcases hx with rfl | rfl | rfl | rfl | rfl | rfl | rfl | rfl | rfl | rfl
  · exact sh_int sn
  · exact sh_str st sl
  · exact sh_non
  · exact sh_bl
  · exact sh_bl
  · exact sh_tup h.t (by decide +kernel) sn
  · exact sh_lst h.l (by decide +kernel)
  · exact ⟨_, .inr ⟨dp, rfl, h.d, rfl⟩⟩
  · exact sh_int (by decide +kernel)
  · exact sh_int (by decide +kernel)
abbrev N_law : List Str := ["_law_script", "_law_told", "_law_spot", "_law_spring_here", "_law_number", "_law_things", "_law_thing"]
def spLaw (K : Fr) : Sp := fun vs H Q _ => ∃ (a : Addr) (ns : List Int), vs = [.ref a] ∧ SqL K H a (ns.map V.int) ∧ ns.length ≤ 63 ∧ ∀ H' : Hp, Q (.bl true) H'
theorem p40 : ((10 : Int) ^ (40 : Int).toNat) = 10000000000000000000000000000000000000000 := by decide +kernel
def c10 : List Int := [12, 5, 5, 99, 6, 12, 8, 6, 12, 12]
theorem g_law_ok (T : Tx K mg) {fd : FuncData} (D : DAt K d_law fd) : FnG P w K mg base 4 (d_law.ad K) fd ["_law_script"] (spLaw K) := by
  have C_l_spring := c_spring (P := P) (w := w) (base := base) T
  have C_next := c_nextO (P := P) (w := w) (base := base) T
  have C_one := c_oneO (P := P) (w := w) (base := base) T
  have C_values := c_values (P := P) (w := w) (base := base) T
  have C_others := c_others (P := P) (w := w) (base := base) T
  obtain ⟨t0, i0⟩ := i_MAX_PARTS T
  obtain ⟨t1, i1⟩ := i_MAX_DEPTH T
  obtain ⟨t2, i2⟩ := i_MAX_TERMS T
  obtain ⟨t3, i3⟩ := i_MAX_GAIN T
  obtain ⟨t4, i4⟩ := i_MAX_STEP T
  obtain ⟨t5, i5⟩ := i_MAX_DEFINITIONS T
  obtain ⟨t6, i6⟩ := i_MAX_KEPT T
  obtain ⟨t7, i7⟩ := i_MAX_PERIOD T
  obtain ⟨t8, i8⟩ := i_MAX_RATE T
  obtain ⟨t9, i9⟩ := i_MAX_JOINT T
  refine okg_of (N := N_law) D sc_law (fun vs H Q E h => ?_) (fun cdv A outer s H vs Q E hr hc h => ?_)
  · obtain ⟨a, ns, rfl, _⟩ := h
    rfl
  · obtain ⟨a, ns, rfl, hS, hn, k⟩ := h
    have r1 : Room 1 _ := hr.mono (by decide)
    have r2 : Room 2 _ := hr.mono (by decide)
    refine ⟨_, (pss_cons (ps_set (i := 1) sc_law.nd rfl (.inl rfl) (pe_lst (pa_cons (pe_glob (v := .int 12) rfl i0 ⟨_, rfl⟩) (pa_cons (pe_glob (v := .int 5) rfl i1 ⟨_, rfl⟩) (pa_cons (pe_glob (v := .int 5) rfl i2 ⟨_, rfl⟩) (pa_cons (pe_glob (v := .int 99) rfl i3 ⟨_, rfl⟩) (pa_cons (pe_glob (v := .int 6) rfl i4 ⟨_, rfl⟩) (pa_cons (pe_glob (v := .int 12) rfl i5 ⟨_, rfl⟩) (pa_cons (pe_glob (v := .int 8) rfl i6 ⟨_, rfl⟩) (pa_cons (pe_glob (v := .int 6) rfl i7 ⟨_, rfl⟩) (pa_cons (pe_glob (v := .int 12) rfl i8 ⟨_, rfl⟩) pa_nil)))))))))))
 (pss_cons (ps_if (pt_cmpR (op_neD hr.units) (pe_op op_cat (pv 1) (pe_lst (pa_cons (pe_glob (v := .int 12) rfl i9 ⟨_, rfl⟩) pa_nil))) (pe_lst (pa_cons pe_int (pa_cons pe_int (pa_cons pe_int (pa_cons pe_int (pa_cons pe_int (pa_cons pe_int (pa_cons pe_int (pa_cons pe_int (pa_cons pe_int (pa_cons pe_int pa_nil))))))))))) (nomark _))
 (pss_one (ps_ret pe_bl))
 pss_nil)
 (pss_cons (ps_for PassesOwn.never rfl (pi_range1 (by rfl) (n_range T) (pa_cons (pe_callB (call_max2 rfl) (by rfl) (n_max T) bo_max (pa_cons pe_int (pa_cons (pe_callB (call_min2 rfl) (by rfl) (n_min T) bo_min (pa_cons (pe_callB call_len_seq (by rfl) (n_len T) bo_len (pa_cons (pv 0) pa_nil)) (pa_cons pe_int pa_nil))) pa_nil))) pa_nil)) (pg_name (i := 2) sc_law.nd rfl (.inl rfl))
 (pss_cons (ps_set (i := 3) sc_law.nd rfl (.inl rfl) (pe_c C_l_spring r1 (pa_cons (pv 0) (pa_cons (pv 2) pa_nil))))
 (pss_cons (ps_set (i := 4) sc_law.nd rfl (.inl rfl) (pe_op op_mulW (pe_c C_next r1 (pa_cons (pv 3) (pa_cons (pe_op op_pow pe_int pe_int) pa_nil))) (pe_c C_one r2 (pa_cons (pv 3) (pa_cons (pe_lst (pa_cons pe_int (pa_cons (pe_un un_neg pe_int) pa_nil))) pa_nil)))))
 (pss_cons (ps_set (i := 5) sc_law.nd rfl (.inl rfl) (pe_lst (pa_cons (pv 4) (pa_cons (pe_op op_add_str pe_str (pe_callTy call_str_int (by rfl) (n_str T) bo_str (pa_cons (pe_c C_next r1 (pa_cons (pv 3) (pa_cons pe_int pa_nil))) pa_nil))) (pa_cons pe_non (pa_cons pe_bl (pa_cons pe_bl (pa_cons (pe_tup (pa_cons pe_int (pa_cons (pv 4) pa_nil))) (pa_cons (pe_lst (pa_cons pe_int pa_nil)) (pa_cons pe_dnewK (pa_cons pe_int (pa_cons pe_int pa_nil))))))))))))
 (pss_one (ps_for PassesOwn.never rfl (pi_list (pv 5)) (pg_name (i := 6) sc_law.nd rfl (.inl rfl))
 (pss_one (ps_if (PW.pt (pw_or (pt_not (pt_val (pe_g C_values hr hc (pa_cons (pv 6) pa_nil)))) (pw_or1 (pt_not (pt_val (pe_g C_others hr hc (pa_cons (pv 6) (pa_cons (pe_c C_one r2 (pa_cons (pv 3) (pa_cons (pv 5) pa_nil))) pa_nil))))))))
 (pss_one (ps_ret pe_bl))
 pss_nil))))))))
 (pss_one (ps_ret pe_bl))))), ?_⟩
    refine ⟨(by show 9 ≤ sizeLine; decide), fun p1 n1 => ?_⟩
    refine ⟨_, rfl, (by show 1 ≤ sizeLine; decide), fun p2 n2 => ⟨p1, p2, _, _, rfl, rfl, by rw [upd_ne (ne_of_none upd_same n2)]; exact upd_same, upd_same, (by show 9 + 1 ≤ sizeLine; decide), fun p3 n3 => ?_⟩⟩
    refine ⟨(by show 10 ≤ sizeLine; decide), fun p4 n4 => ?_⟩
    have w1 := same_upd (o := .lst [.int 12, .int 5, .int 5, .int 99, .int 6, .int 12, .int 8, .int 6, .int 12]) n1
    have w2 := same_upd (o := .lst [.int 12]) n2
    have w3 := same_upd (o := .lst ([.int 12, .int 5, .int 5, .int 99, .int 6, .int 12, .int 8, .int 6, .int 12] ++ [.int 12])) n3
    have w4 := same_upd (o := .lst [.int 12, .int 5, .int 5, .int 99, .int 6, .int 12, .int 8, .int 6, .int 12, .int 12]) n4
    have W := ((w1.trans w2).trans w3).trans w4
    have d3 : ∀ {G : Hp} {p : Addr}, G p = some (.lst (c10.map V.int)) → Dp K G (.ref p) (.list (c10.map PyData.int)) := fun hp => .lst (.inl (.inl hp)) (.cons (.int _) (.cons (.int _) (.cons (.int _) (.cons (.int _) (.cons (.int _) (.cons (.int _) (.cons (.int _) (.cons (.int _) (.cons (.int _) (.cons (.int _) .nil))))))))))
    refine ⟨_, _, d3 (w4 _ _ upd_same), d3 upd_same, by decide +kernel, by decide +kernel, ?_⟩
    have ee : PyData.eqv (.list (c10.map PyData.int)) (.list (c10.map PyData.int)) = true := by decide +kernel
    rw [ee]
    refine ⟨_, rfl, iteF ?_⟩
    have hlen : ((ns.map V.int).length : Int) = (ns.length : Int) := by rw [List.length_map]
    refine ⟨_, rfl, a, _, rfl, .inl (W.seq hS), _, _, rfl, _, _, rfl, _, rfl, ?_⟩
    rw [hlen]
    generalize hm : (if (if (3 : Int) < (ns.length : Int) then (3 : Int) else (ns.length : Int)) > 2 then (if (3 : Int) < (ns.length : Int) then (3 : Int) else (ns.length : Int)) else (2 : Int)) = m
    have hm2 : m ≤ 3 ∧ 0 ≤ m := by rw [← hm]; split <;> (try split) <;> omega
    refine ⟨by omega, by omega, ?_⟩
    refine for_range (lo := 0) (n := m.toNat) (fun i σ H' => Same H H' ∧ ∃ b x y z u v : Option V, σ = [some (.ref a), b, x, y, z, u, v]) ⟨W, _, none, none, none, none, none, rfl⟩ ?_ ?_
    · rintro i σ H' hi ⟨s1, b, x, y, z, u, v, rfl⟩
      have e0 : (0 : Int) + (i : Int) = ((i : Nat) : Int) := by omega
      rw [e0]
      refine ⟨_, rfl, _, rfl, a, ns, i, rfl, s1.seq hS, hn, by omega, fun p d e c np sp => ?_⟩
      have sp0 : SprAt p (upd H' p (.lst (sprL d e c))) := ⟨d, e, c, upd_same, sp⟩
      have so : Same H' (upd H' p (.lst (sprL d e c))) := same_upd np
      generalize upd H' p (HO.lst (sprL d e c)) = G0 at *
      refine ⟨_, rfl, _, _, rfl, rfl, ⟨by decide, by decide, by decide⟩, ?_⟩
      refine ⟨p, _, rfl, sp0, (by rw [p40]; decide), (by rw [p40]; decide +kernel), fun v1 G1 g0 g1 o1 sp1 => ?_⟩
      rw [p40] at g1
      refine ⟨_, rfl, _, rfl, (by show 2 ≤ sizeLine; decide), fun q nq => ?_⟩
      have sq := same_upd (o := .lst [.int 1, .int (-1)]) nq
      refine ⟨p, q, _, rfl, sp1.same sq, upd_same, sp1.ne nq, by simp, by decide, fun x1 G2 hx o2 sp2 => ?_⟩
      have hx2 : ∃ s : Int, x1 = .int s ∧ (s = 1 ∨ s = -1) := by
        simp only [List.mem_cons, List.not_mem_nil, or_false] at hx
        rcases hx with rfl | rfl
        · exact ⟨1, rfl, .inl rfl⟩
        · exact ⟨-1, rfl, .inr rfl⟩
      obtain ⟨sg, rfl, hsg⟩ := hx2
      have vb : v1.natAbs < 2 ^ 200 := Nat.lt_of_lt_of_le (show v1.natAbs < 10000000000000000000000000000000000000000 by omega) (by decide +kernel)
      have sb : sg.natAbs < 2 ^ 4 := by rcases hsg with rfl | rfl <;> decide
      have sn : Sz (v1 * sg) := sz_mul vb sb
      refine ⟨_, _, rfl, rfl, wide_mul vb sb (by decide) (by decide) (by decide), ?_⟩
      -- the things
      refine ⟨_, rfl, _, rfl, p, _, rfl, sp2, by decide, by decide, fun v2 G3 h0 h1 o3 sp3 => ?_⟩
      have sv2 : Sz v2 := sz200 (Nat.lt_of_lt_of_le (show v2.natAbs < 97 by omega) (by decide +kernel))
      refine ⟨_, rfl, log2_small sv2, _, _, rfl, rfl, ?_⟩
      have l1 : ("a" : Str).length = 1 := by decide +kernel
      have il := i_len sv2
      have aS : ("a" : Str) = S [97] := by decide +kernel
      have hT : ("a" : Str) ++ ((toString v2 : String) : Str) = S ([97] ++ iL v2) := by rw [toS, aS, S_cat]
      have tsm : ∀ c ∈ [97] ++ iL v2, c < 128 := fun c hc => by
        rcases List.mem_append.mp hc with h | h
        · rw [List.mem_singleton.mp h]; decide
        · exact iL_small _ c h
      have tl : ([97] ++ iL v2).length ≤ 1000 := by rw [List.length_append, List.length_singleton]; omega
      refine ⟨(by rw [l1, toS, S_len]; exact line_ge (by omega)), ?_⟩
      refine ⟨_, rfl, (by show 2 ≤ sizeLine; decide), fun tp ntp => ⟨(by show 1 ≤ sizeLine; decide), fun lp nlp dp ndp => ⟨(by show 10 ≤ sizeLine; decide), fun q5 nq5 => ?_⟩⟩⟩
      have y1 := same_upd (o := .tup [.int 1, .int (v1 * sg)]) ntp
      have y2 := same_upd (o := .lst [.int 2]) nlp
      have y3 := same_upd (o := .dK []) ndp
      have y4 := same_upd (o := .lst [.int (v1 * sg), .str (("a" : Str) ++ ((toString v2 : String) : Str)), .non, .bl true, .bl false, .ref tp, .ref lp, .ref dp, .int 1, .int 0]) nq5
      have p1 : tp ≠ p := Ne.symm (sp3.ne ntp)
      have p2 : lp ≠ p := Ne.symm ((sp3.same y1).ne nlp)
      have p3 : dp ≠ p := Ne.symm (((sp3.same y1).same y2).ne ndp)
      have p5 : q5 ≠ p := Ne.symm ((((sp3.same y1).same y2).same y3).ne nq5)
      have sp5 := (((sp3.same y1).same y2).same y3).same y4
      have hL : [V.int (v1 * sg), .str (("a" : Str) ++ ((toString v2 : String) : Str)), .non, .bl true, .bl false, .ref tp, .ref lp, .ref dp, .int 1, .int 0] = thL (v1 * sg) ([97] ++ iL v2) tp lp dp := by
        unfold thL
        rw [hT]
      have hq5 : upd (upd (upd (upd G3 tp (.tup [.int 1, .int (v1 * sg)])) lp (.lst [.int 2])) dp (.dK [])) q5 (.lst [.int (v1 * sg), .str (("a" : Str) ++ ((toString v2 : String) : Str)), .non, .bl true, .bl false, .ref tp, .ref lp, .ref dp, .int 1, .int 0]) q5 = some (.lst (thL (v1 * sg) ([97] ++ iL v2) tp lp dp)) := by
        rw [← hL]
        exact upd_same
      have th : Th (upd (upd (upd (upd G3 tp (.tup [.int 1, .int (v1 * sg)])) lp (.lst [.int 2])) dp (.dK [])) q5 (.lst [.int (v1 * sg), .str (("a" : Str) ++ ((toString v2 : String) : Str)), .non, .bl true, .bl false, .ref tp, .ref lp, .ref dp, .int 1, .int 0])) (v1 * sg) tp lp dp :=
        ⟨((y2.trans y3).trans y4) _ _ upd_same, (y3.trans y4) _ _ upd_same, y4 _ _ upd_same⟩
      have oo : Old p G0 (upd (upd (upd (upd G3 tp (.tup [.int 1, .int (v1 * sg)])) lp (.lst [.int 2])) dp (.dK [])) q5 (.lst [.int (v1 * sg), .str (("a" : Str) ++ ((toString v2 : String) : Str)), .non, .bl true, .bl false, .ref tp, .ref lp, .ref dp, .int 1, .int 0])) :=
        (((o1.trans (Old.same sq)).trans o2).trans o3).trans (Old.same (((y1.trans y2).trans y3).trans y4))
      generalize upd (upd (upd (upd G3 tp (.tup [.int 1, .int (v1 * sg)])) lp (.lst [.int 2])) dp (.dK [])) q5 (.lst [.int (v1 * sg), .str (("a" : Str) ++ ((toString v2 : String) : Str)), .non, .bl true, .bl false, .ref tp, .ref lp, .ref dp, .int 1, .int 0]) = G5 at *
      refine ⟨_, rfl, q5, rfl, ⟨_, .inl (.inl hq5)⟩, ?_⟩
      refine for_list (xs := thL (v1 * sg) ([97] ++ iL v2) tp lp dp) (fun j σ H2 => Old p G5 H2 ∧ SprAt p H2 ∧ ∃ x : Option V, σ = [some (.ref a), b, some (.int ((i : Nat) : Int)), some (.ref p), some (.int (v1 * sg)), some (.ref q5), x]) ⟨Old.refl _ _, sp5, _, rfl⟩ (fun j σ H2 hj h => .inl (.inl (h.1 _ _ hq5 p5))) ?_ ?_
      · rintro j x2 σ H2 hx ⟨o6, sp6, x3, rfl⟩
        obtain ⟨z1, sh1⟩ := (th.old o6 p1 p2 p3).sh (K := K) sn tsm tl x2 (List.mem_of_getElem? hx)
        refine ⟨_, rfl, x2, z1, rfl, sh1, fun H3 s3 => ⟨true, rfl, iteF ?_⟩⟩
        refine ⟨_, rfl, _, rfl, _, rfl, p, q5, _, rfl, sp6.same s3, s3 _ _ (o6 _ _ hq5 p5), Ne.symm p5, by simp [thL], by simp [thL], fun x4 H4 hx4 o7 sp7 => ?_⟩
        have o8 := (o6.trans (Old.same s3)).trans o7
        obtain ⟨z2, sh2⟩ := (th.old o8 p1 p2 p3).sh (K := K) sn tsm tl x4 hx4
        obtain ⟨z3, sh3⟩ := (th.old o8 p1 p2 p3).sh (K := K) sn tsm tl x2 (List.mem_of_getElem? hx)
        refine ⟨x2, x4, z3, z2, rfl, sh3, sh2, fun H5 s5 => ⟨true, rfl, iteF ?_⟩⟩
        exact ⟨o8.trans (Old.same s5), sp7.same s5, _, rfl⟩
      · rintro σ H2 ⟨o6, sp6, x3, rfl⟩
        refine ⟨fun b u hb => ?_, _, _, _, _, _, _, rfl⟩
        have hb2 := s1 _ _ hb
        exact (oo.trans o6) _ _ (so _ _ hb2) (ne_of_none hb2 np)
    · rintro σ H' ⟨s1, b, x, y, z, u, v, rfl⟩
      exact k H'
end
theorem facts {P : Program} {w : World} {K : Fr} {h : Heap} {mg : Str → Option Value} {f : Addr} (X : K.In h) (G : h.Ns mainGlobals mg) (hfa : mg ("law" : Str) = some (.ref f)) (c : Sy K) :
    ∃ fd : FuncData, (∀ (s : Shared) (u : Value), BindsTo s fd ⟨[u], []⟩ [("_law_script", u)]) ∧ ∀ base : Heap, K.In base → base.Ns mainGlobals mg → FnG P w K mg base 4 f fd ["_law_script"] (spLaw K) := by
  have T : Tx K mg := ⟨c, h, X, G⟩
  obtain ⟨fd, D⟩ := a_law c
  have e := hfa.symm.trans (g_law T)
  cases e
  have b := FunD.bindsA (ps := ["_law_script"]) D fun _ _ _ _ _ _ us hl => match us, hl with | [_], _ => rfl
  exact ⟨fd, fun s u => b s [u] rfl, fun base _ _ => g_law_ok T D⟩
end K05

namespace K05
open PySem PySem.Spec PyProof.Rows L2 Hk
theorem run (w : World) : HandSHeadRun.RunEq R qv hk ob 20000 loose w := by
  intro os
  kernel_rfl
end K05

open PySem PySem.W PySem.Calls PyProof.Rows
theorem PySem.Challenge.cw_delaynets_k05_errors_and_limits_holds : PySem.Challenge.rw_delaynets_k05_errors_and_limits.Holds := by
  w_on; o_law
  refine HandSHeadRun.head_any (r := OpenLaw.row PySem.Challenge.rw_delaynets_k05_errors_and_limits) (q := K05.qv) (H := K05.hk) (ob := K05.ob) (M := 20000) (loose := K05.loose) (d := HandSHeadRun.topDef (OpenLaw.row PySem.Challenge.rw_delaynets_k05_errors_and_limits).prog K05.lawAt) (kwd := []) K05.ob_eq
    (by kernel_rfl) (fun s => by kernel_rfl) K05.run (by kernel_rfl) (by kernel_rfl) (by kernel_rfl) (by rfl) (by first | assumption | decide +kernel) (by decide +kernel) ⟨rfl, rfl, rfl, rfl, rfl, by decide +kernel⟩ ?hw ?hc
  case hw => w_witness2
  case hc =>
    refine Hk.end_g (l := PySem.Challenge.rw_delaynets_k05_errors_and_limits) (k := 4) (x := "_law_script") rfl (by kernel_rfl) ⟨rfl, by decide, by decide⟩ ?F
    intro w mg fa h Y G hmg0
    obtain ⟨K, KX, c⟩ := Y
    have hmg : mg ("law" : PySem.Str) = some (.ref fa) := by
      have e : (HandSHeadRun.topDef (OpenLaw.row PySem.Challenge.rw_delaynets_k05_errors_and_limits).prog K05.lawAt).name = ("law" : PySem.Str) := by kernel_rfl
      rw [← e]
      exact hmg0
    obtain ⟨fd, hb, hF⟩ := K05.facts (P := (PySem.Challenge.rw_delaynets_k05_errors_and_limits).prog) (w := w) KX G hmg c
    exact ⟨K, fd, K05.spLaw K, KX, hb, fun H a ns hl _ hS => ⟨a, ns, rfl, hS, hl, fun _ => rfl⟩, hF⟩
#print axioms PySem.Challenge.cw_delaynets_k05_errors_and_limits_holds

