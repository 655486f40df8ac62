import PyProof.Rows.All
import Wide.All
import OpenK.AllK
import Wide.FinOn
import KE.KStateDown
import HandS.ForExc
import HandS.More
import HandS.Defaults
import HandS.Head0
import KE.HD3
import HandS.Head1
import HandS.Head2
import HandS.HeadEnd
import HandS.HeadHook1
import HandS.HeadHook2
import HandS.HeadWalk
import HandS.HeadNt
import HandS.Property
import HandS.Gcd
import HandS.Wide
import HandS.MakeKw
import HandS.Comp
import HandS.Text
import HandS.FStr
import HandS.StrMore
import HandS.Flow
import HandS.IsInst
import HandS.EndBits
import HandS.RaiseMore
import HandS.SlotsOwn
import HandS.OwnEq
import HandS.ClsMeth
import HandS.CallRecv
import HandS.MakeKwOnly
import HandS.TupLe
import KE.KCallOwn
import KE.KOpsOwn
import HandS.Codes
import KE.IntTextLaws
import PyProof.Rows.ReprOcc
import PyProof.Rows.SortStrRead
import HandS.NoneIn
import HandS.Style
import PySem.Challenge.RW_delaynets_k02_arithmetic
set_option Elab.async false
set_option linter.all false
set_option maxRecDepth 100000
set_option maxHeartbeats 0
/-! A head's facts by names: every fact a test of the written part, every def by its own path. -/
namespace Hk
open PySem PySem.Spec PyProof.Rows L2
abbrev Fr := PySem.W.Frag
abbrev Tst := Fr → Bool
/-- a def of the text: the path to its function object, its text, its defaults -/
structure Dx where
  ad : Fr → Addr
  nm : Str
  ql : Str
  st : Stmt
  df : List He.Dv := []
abbrev Seen : Type := Option (Str × Str × Arguments × FuncBody × Scope × Addr × List (Str × Addr) × Addr)
def seenAt (K : Fr) (a : Addr) : Seen :=
  match K.lookup a with
  | some ⟨_, _, .func g, _⟩ => some (g.name, g.qualname, g.params, g.body, g.scope, g.globals, g.closure, g.builtins)
  | _ => none
def Dx.due (d : Dx) : Seen := some (d.nm, d.ql, defArgs d.st, .stmts (defBody d.st), defScope d.st, mainGlobals, [], builtinsNs)
def Dx.vs (K : Fr) (d : Dx) : List V := d.df.map (He.Dv.v K)
def Dx.okb (K : Fr) (d : Dx) : Bool :=
  PySem.W.keepIn K (.ref (d.ad K)) &&
    (match K.lookup (d.ad K) with
    | some ⟨_, _, .func g, _⟩ => PySem.W.codeIn K g.code d.ql && He.dflB K g.defaults (d.vs K)
    | _ => false)
/-- the def d stands at its address as fd -/
abbrev DAt (K : Fr) (d : Dx) (fd : FuncData) : Prop := FunD K d.nm d.ql (defArgs d.st) (defBody d.st) (defScope d.st) (d.vs K) [] (d.ad K) fd
theorem Dx.at_of {K : Fr} {d : Dx} (e : seenAt K (d.ad K) = d.due) (c : d.okb K = true) : ∃ fd, DAt K d fd := by
  obtain ⟨kp, c2⟩ := He.ba c
  unfold seenAt at e
  cases q : K.lookup (d.ad K) with
  | none =>
    rw [q] at c2
    exact nomatch c2
  | some ob =>
    obtain ⟨oc, od, dt, osl⟩ := ob
    rw [q] at c2 e
    cases dt with
    | func g =>
      obtain ⟨m1, m2, m3, m4, m5, m6, m7, m8, m9, m10, m11, m12, m13, m14, m15⟩ := g
      have e2 : (some (m1, m2, m3, m4, m5, m6, m7, m15) : Seen) = some (d.nm, d.ql, defArgs d.st, .stmts (defBody d.st), defScope d.st, mainGlobals, [], builtinsNs) := e
      simp only [Option.some.injEq, Prod.mk.injEq] at e2
      obtain ⟨u1, u2, u3, u4, u5, u6, u7, u8⟩ := e2
      subst u1 u2 u3 u4 u5 u6 u7 u8
      obtain ⟨v1, v2⟩ := He.ba (show (PySem.W.codeIn K m13 d.ql && He.dflB K m8 (d.vs K)) = true from c2)
      exact ⟨_, ⟨oc, od, m8, m9, m10, m11, m12, m13, m14, osl, rfl, q, v1, He.dflB_ok v2, .inl rfl⟩, kp⟩
    | _ => exact nomatch c2
abbrev Al2 : Type := Bool × List Seen
def look (fa : List Tst) (fn : List Dx) (K : Fr) : Al2 := ((fa.all fun f => f K) && fn.all fun d => d.okb K, fn.map fun d => seenAt K (d.ad K))
def due (fn : List Dx) : Al2 := (true, fn.map Dx.due)
def Says (fa : List Tst) (fn : List Dx) (K : Fr) : Prop := look fa fn K = due fn
def lookG (n : Nat) (fa : List Tst) (fn : List Dx) (g : Addr → Option Obj) : Al2 := look fa fn (He.frG g (cStatics :: He.asD g n))
def hook (n : Nat) (fa : List Tst) (fn : List Dx) : PySem.W.Hook where
  α := Al2
  obs := fun s => lookG n fa fn s.heap.get?
  val := fun _ => due fn
  says := fun _ h => ∃ K : Fr, K.In h ∧ Says fa fn K
  of := fun _ _ e => ⟨_, He.frG_in, e⟩
  keeps := fun _ _ _ ⟨K, hK, c⟩ k => ⟨K, PySem.W.Frag.In.keeps hK k, c⟩
theorem lookG_eq {n : Nat} {fa : List Tst} {fn : List Dx} {g : Addr → Option Obj} {s : Shared} (h : ∀ a, g a = s.heap.get? a) : lookG n fa fn g = (hook n fa fn).obs s := by
  have e : g = s.heap.get? := funext h
  subst e
  rfl
section
variable {fa : List Tst} {fn : List Dx} {K : Fr}
theorem Says.tst (c : Says fa fn K) (i : Nat) {f : Tst} (h : fa[i]? = some f := by rfl) : f K = true := by
  have c0 := congrArg Prod.fst c
  have c1 := (He.ba (show ((fa.all fun f => f K) && fn.all fun d => d.okb K) = true from c0)).1
  exact List.all_eq_true.mp c1 f (List.mem_of_getElem? h)
theorem Says.dat (c : Says fa fn K) (i : Nat) {d : Dx} (h : fn[i]? = some d := by rfl) : ∃ fd, DAt K d fd := by
  have c0 := congrArg Prod.fst c
  have c2 := (He.ba (show ((fa.all fun f => f K) && fn.all fun d => d.okb K) = true from c0)).2
  have e : (fn.map fun d => seenAt K (d.ad K)) = fn.map Dx.due := congrArg Prod.snd c
  have e2 : (fn.map fun d => seenAt K (d.ad K))[i]? = (fn.map Dx.due)[i]? := by rw [e]
  rw [List.getElem?_map, List.getElem?_map, h] at e2
  exact Dx.at_of (Option.some.inj e2) (List.all_eq_true.mp c2 d (List.mem_of_getElem? h))
end
/-! ### tests -/
def tGlo (x : Str) : Tst := (He.Fa.glo x).ok
def tFree (x : Str) : Tst := (He.Fa.free x).ok
def tInt (x : Str) (i : Int) : Tst := (He.Fa.int x i).ok
def tStr (x z : Str) : Tst := (He.Fa.str x z).ok
def tCls (x : Str) : Tst := (He.Fa.cls x).ok
def tNoat (x f : Str) : Tst := (He.Fa.noat x f).ok
def tMeth (x m : Str) : Tst := (He.Fa.meth x m).ok
def tMkr (x : Str) : Tst := (He.Fa.mkr x).ok
/-- the name is a built-in function (brought in from a module) -/
def tBlt (x : Str) (id : String) : Tst := fun K => He.eqO (PySem.W.nsIn K mainGlobals x) (some (some (.builtin id)))
/-- the getter of the property f of the class x -/
def getAd (x f : Str) (K : Fr) : Addr := match PySem.W.recIn K (He.ma K (He.ga K x) f) "property" with
  | some (.ref g :: _) => g
  | _ => 0
def tProp (x f : Str) : Tst := fun K =>
  He.eqO (PySem.W.findIn K (.ref (He.ga K x)) f) (some (some (.ref (He.ma K (He.ga K x) f)))) &&
  (He.eqO (PySem.W.specialIn K (.ref (He.ma K (He.ga K x) f)) "__get__") (some (some (.builtin "property.__get__"))) &&
  (decide (PySem.W.takesIn K (.ref (He.ma K (He.ga K x) f)) = some true) &&
  (match PySem.W.recIn K (He.ma K (He.ga K x) f) "property" with
  | some (.ref _ :: _) => true
  | _ => false)))
theorem prop_ok {K : Fr} {x f : Str} (c : tProp x f K = true) : PropOf K (He.ga K x) f (He.ma K (He.ga K x) f) (getAd x f K) := by
  obtain ⟨c1, c⟩ := He.ba c
  obtain ⟨c2, c⟩ := He.ba c
  obtain ⟨c3, c4⟩ := He.ba c
  refine ⟨He.eqO_ok c1, He.eqO_ok c2, of_decide_eq_true c3, ?_⟩
  unfold getAd
  cases e : PySem.W.recIn K (He.ma K (He.ga K x) f) "property" with
  | none =>
    rw [e] at c4
    exact nomatch c4
  | some l =>
    rw [e] at c4
    cases l with
    | nil => exact nomatch c4
    | cons v r =>
      cases v with
      | ref g => exact ⟨r, rfl⟩
      | _ => exact nomatch c4
theorem blt_ok {K : Fr} {h : Heap} {mg : Str → Option Value} (X : K.In h) (G : h.Ns mainGlobals mg) {x : Str} {id : String} (c : tBlt x id K = true) : mg x = some (.builtin id) := PySem.W.mg_of X G (He.eqO_ok c)
/-- where a global def stands; a class's method -/
def gAd (x : Str) (K : Fr) : Addr := He.ga K x
def mAd (x m : Str) (K : Fr) : Addr := He.ma K (He.ga K x) m
end Hk
namespace Hk
open PySem PySem.Spec PyProof.Rows L2
/-- the function inside the static method m of the class x -/
def statAd (x m : Str) (K : Fr) : Addr := He5.wf K (He.ga K x) "staticmethod" m
def tStat (x m : Str) : Tst := fun K => He5.wrapB K (He.ga K x) "staticmethod" "staticmethod.__get__" m &&
  (PySem.W.readsIn K (He.ga K x) (.type "type") && (He.eqO (PySem.W.specialIn K (.ref (He.ga K x)) "__getattribute__") (some (some (.builtin "type.__getattribute__"))) && PySem.W.keepIn K (.ref (statAd x m K))))
/-- == is the class's own, != object's -/
def tNe (x : Str) : Tst := fun K => He.eqO (PySem.W.findIn K (.ref (He.ga K x)) "__ne__") (some (some (.builtin "object.__ne__"))) && decide (PySem.W.subIn K (.ref (He.ga K x)) (.type "object") = some true)
/-- what isinstance asks of an instance of the class x -/
def tIns (x : Str) : Tst := fun K => He.eqO (PySem.W.findIn K (.ref (He.ga K x)) "__class__") (some (some (.builtin "object.__class__"))) &&
  (He.eqO (PySem.W.specialIn K (.builtin "object.__class__") "__get__") (some (some (.builtin "getset_descriptor.__get__"))) && (decide (PySem.W.takesIn K (.builtin "object.__class__") = some true) && decide (PySem.W.mroIn K (He.ga K x) (.type "object") = some true)))
/-- isinstance of the built-in type t against the class x; of the class y against x -/
def tKit (t : String) (x : Str) (b : Bool) : Tst := fun K => decide (PySem.W.kitOne K (.type t) (.ref (He.ga K x)) = some b)
def tKitO (y x : Str) (b : Bool) : Tst := fun K => decide (PySem.W.kitOne K (.ref (He.ga K y)) (.ref (He.ga K x)) = some b)
def tKitB (y : Str) (t : String) (b : Bool) : Tst := fun K => decide (PySem.W.kitOne K (.ref (He.ga K y)) (.type t) = some b)
/-- a comparison of an instance of x with a value of the type t begins with the instance -/
def tFst (x : Str) (t : String) : Tst := fun K => PySem.W.notFirst K (He.ga K x) (.type t)
def tFstO (x : Str) : Tst := fun K => PySem.W.notFirst K (He.ga K x) (.ref (He.ga K x))
theorem ins_ok {K : Fr} {x : Str} (c : tIns x K = true) {H : Hp} {a dx : Addr} {fs : List (Str × V)} (e : H a = some (.ins (He.ga K x) dx fs)) (cl : Cls K (He.ga K x)) : TyOf K H (.ref a) (.ref (He.ga K x)) := by
  obtain ⟨c1, c⟩ := He.ba c
  obtain ⟨c2, c⟩ := He.ba c
  obtain ⟨c3, c4⟩ := He.ba c
  exact .ins e cl (He.eqO_ok c1) (He.eqO_ok c2) (of_decide_eq_true c3) (of_decide_eq_true c4)
def clsMk (x : Str) : Tst := fun K => tCls x K && tMkr x K
end Hk
namespace Hk
open PySem PySem.Spec PyProof.Rows L2
section
variable {P : Program} {w : World} {K : Fr} {mg : Str → Option Value} {base : Heap}
/-- the global name x stands for a def at ad that keeps the promise sp (nothing is raised), at level k -/
def Cal (P : Program) (w : World) (K : Fr) (mg : Str → Option Value) (base : Heap) (k : Nat) (x : Str) (ad : Addr) (ps : List Str) (sp : Sp) : Prop :=
  ∃ fd : FuncData, FnOk P w K mg base CX0 k ad fd ps sp ∧ Binds K fd ps [] ∧ PySem.W.keepIn K (.ref ad) = true ∧ mg x = some (.ref ad)
theorem Cal.mono {j k : Nat} {x : Str} {ad : Addr} {ps : List Str} {sp : Sp} (c : Cal P w K mg base j x ad ps sp) (h : j ≤ k) : Cal P w K mg base k x ad ps sp := by
  obtain ⟨fd, F, r⟩ := c
  exact ⟨fd, F.mono h, r⟩
theorem Cal.imp {k : Nat} {x : Str} {ad : Addr} {ps : List Str} {sp sp' : Sp} (c : Cal P w K mg base k x ad ps sp) (h : ∀ vs H Q E, sp' vs H Q E → sp vs H Q E) : Cal P w K mg base k x ad ps sp' := by
  obtain ⟨fd, F, r⟩ := c
  exact ⟨fd, F.imp h, r⟩
theorem pe_c {X : Cx} {k : Nat} {x : Str} {ad : Addr} {ps : List Str} {sp : Sp} {e : Expr} {es : List Expr} {t : TA} {p pos : Pos} (c : Cal X.prog X.w X.K X.mg X.base k x ad ps sp) (hr : Room k X.A) (ha : PA X (e :: es) t) (hg : Gl X x := by rfl)
    (hdb : (x == ("__debug__" : Str)) = false := by decide) (he : starEach (e :: es) X.env = (false, eval e X.env) :: starEach es X.env := by rfl) (hpl : (backTo pos (starEach es X.env)).any (·.1) = false := by rfl) :
    PE X (.Call (.Name x p) (e :: es) [] pos) (tCall sp [] E0 t) := by
  obtain ⟨fd, F, b, kp, m⟩ := c
  exact pe_call F hr hg m kp b .nil pass0 ha hdb he hpl
/-- the body of a def: its reading -/
abbrev Body (P : Program) (w : World) (K : Fr) (mg : Str → Option Value) (base : Heap) (k : Nat) (d : Dx) (N ps : List Str) (sp : Sp) : Prop :=
  ∀ (cdv : Value) (A : Around) (outer : List Env) (s : Shared) (H : Hp) (vs : List V) (Q : VK) (E : XK), Room k (A.deeper (envOfC d.ql (defScope d.st) s.heap.objs.size (d.ad K) cdv)) → sp vs H Q E →
      ∃ t, PSs (cxOf CX0 P w K mg base N d.ql (defScope d.st) (d.ad K) cdv A outer s H E).nox (defBody d.st) t ∧ t { nx := fun _ H' => Q .non H', rt := Q } (start N vs) H
theorem ok_of {k : Nat} {d : Dx} {N ps : List Str} {sp : Sp} {fd : FuncData} (D : DAt K d fd) (S : FnScope N ps (defScope d.st)) (len : ∀ vs H Q E, sp vs H Q E → vs.length = ps.length) (hb : Body P w K mg base k d N ps sp) :
    FnOk P w K mg base CX0 (k + 1) (d.ad K) fd ps sp := by
  refine FunD.ok D S len fun cdv A outer s H vs Q E hr h => ?_
  obtain ⟨t, h1, h2⟩ := hb cdv A outer s H vs Q E hr h
  exact ⟨t, h1.nox, h2⟩
theorem cal_of {k : Nat} {d : Dx} {N ps : List Str} {sp : Sp} {x : Str} (D : ∃ fd, DAt K d fd) (hv : d.df = []) (S : FnScope N ps (defScope d.st)) (hm : mg x = some (.ref (d.ad K)))
    (hbi : ∀ (kV doc pm : Value) (an : Option Addr) (cdv ct : Value) (us : List Value), us.length = ps.length → bindArgs (PySem.W.fnOf d.nm d.ql (defArgs d.st) (defBody d.st) (defScope d.st) .none kV doc pm an cdv ct) ⟨us, []⟩ = pure (ps.zip us))
    (len : ∀ vs H Q E, sp vs H Q E → vs.length = ps.length) (hb : Body P w K mg base k d N ps sp) : Cal P w K mg base (k + 1) x (d.ad K) ps sp := by
  obtain ⟨fd, D⟩ := D
  have e : d.vs K = [] := by
    unfold Dx.vs
    rw [hv]
    rfl
  have D' : FunD K d.nm d.ql (defArgs d.st) (defBody d.st) (defScope d.st) [] [] (d.ad K) fd := by
    rw [← e]
    exact D
  exact ⟨fd, ok_of D S len hb, FunD.bindsN D' hbi, D.kp, hm⟩
end
end Hk
namespace Hk
open PySem PySem.Spec PyProof.Rows L2
theorem bo_int : bootBuiltins "int" = some (.type "int") := by decide +kernel
theorem bo_str : bootBuiltins "str" = some (.type "str") := by decide +kernel
theorem bo_len : bootBuiltins "len" = some (.builtin "len") := by decide +kernel
theorem bo_min : bootBuiltins "min" = some (.builtin "min") := by decide +kernel
theorem bo_max : bootBuiltins "max" = some (.builtin "max") := by decide +kernel
theorem bo_abs : bootBuiltins "abs" = some (.builtin "abs") := by decide +kernel
theorem bo_repr : bootBuiltins "repr" = some (.builtin "repr") := by decide +kernel
theorem bo_isinstance : bootBuiltins "isinstance" = some (.builtin "isinstance") := by decide +kernel
theorem bo_all : bootBuiltins "all" = some (.builtin "all") := by decide +kernel
theorem bo_any : bootBuiltins "any" = some (.builtin "any") := by decide +kernel
theorem bo_range : bootBuiltins "range" = some (.type "range") := by decide +kernel
theorem bo_bool : bootBuiltins "bool" = some (.type "bool") := by decide +kernel
end Hk

/-! Defs below which nothing is being shown (no repr runs around them): so repr of made data has its rule. -/
namespace Hk
open PySem PySem.Spec PyProof.Rows L2
abbrev Calm (A : Around) : Prop := A.guards = some []
/-- a def's promise where no repr runs around the call; nothing is raised -/
structure FnG (P : Program) (w : World) (K : Fr) (mg : Str → Option Value) (base : Heap) (k : Nat) (f : Addr) (fd : FuncData) (ps : List Str) (sp : Sp) : Prop where
  len : ∀ vs H Q E, sp vs H Q E → vs.length = ps.length
  run : ∀ (A : Around) (out : List Env) (s : Shared) (H : Hp) (args : Args) (us : List Value) (vs : List V) (Q : VK), Room k A → Calm A → Env0 P w K mg base A out s H → BindsTo s fd args (ps.zip us) → Vals vs us → sp vs H Q E0 →
    codeAny (model P w) A (.call (.ref f) args) (CR CX0 out P w H s Q E0) s
section
variable {P : Program} {w : World} {K : Fr} {mg : Str → Option Value} {base : Heap}
theorem FnG.mono {j k : Nat} {f : Addr} {fd : FuncData} {ps : List Str} {sp : Sp} (F : FnG P w K mg base j f fd ps sp) (h : j ≤ k) : FnG P w K mg base k f fd ps sp :=
  ⟨F.len, fun A out s H args us vs Q r => F.run A out s H args us vs Q (r.mono h)⟩
theorem FnG.of {k : Nat} {f : Addr} {fd : FuncData} {ps : List Str} {sp : Sp} (F : FnOk P w K mg base CX0 k f fd ps sp) : FnG P w K mg base k f fd ps sp :=
  ⟨F.len, fun A out s H args us vs Q r _ e b v h => F.run A out s H args us vs Q E0 r e b v h⟩
theorem FnG.imp {k : Nat} {f : Addr} {fd : FuncData} {ps : List Str} {sp sp' : Sp} (F : FnG P w K mg base k f fd ps sp) (h : ∀ vs H Q E, sp' vs H Q E → sp vs H Q E) : FnG P w K mg base k f fd ps sp' :=
  ⟨fun vs H Q E q => F.len vs H Q E (h _ _ _ _ q), fun A out s H args us vs Q r g e b v q => F.run A out s H args us vs Q r g e b v (h _ _ _ _ q)⟩
/-- such a def is called from a body -/
theorem call_g {X : Cx} {pins : List (Addr × Obj)} {σ : L2.St} {H : Hp} {s : Shared} {Q : VK} {us : List Value} {vs : List V} {k : Nat} {f : Addr} {fd : FuncData} {ps : List Str} {sp : Sp} (F : FnG X.prog X.w X.K X.mg X.base k f fd ps sp)
    (hr : Room k X.A) (hc : Calm X.A) (hb : Binds X.K fd ps []) (I : Inv X pins σ H s) (r : Vals vs us) (h : sp vs H Q E0) : wpAny (model X.prog X.w) X.A (call (.ref f) us) (EP X pins σ Q) X.xe s := by
  have ln : us.length = ps.length := r.length.symm.trans (F.len _ _ _ _ h)
  have bd : BindsTo s fd ⟨us, []⟩ (ps.zip us) := by
    have := hb s us I.kIn (by rw [List.append_nil]; exact ln)
    rwa [List.append_nil] at this
  refine wpAny_call (codeAny_mono (F.run X.A X.stack s H ⟨us, []⟩ us vs Q hr hc I.env0 bd r h) fun z s' hq => ?_)
  rcases z with e | fl
  · exact (show False from hq).elim
  · cases fl with
    | ret u => exact I.after hq
    | _ => exact (show False from hq).elim
/-- the global name x: a def at ad that keeps sp -/
def CalG (P : Program) (w : World) (K : Fr) (mg : Str → Option Value) (base : Heap) (k : Nat) (x : Str) (ad : Addr) (ps : List Str) (sp : Sp) : Prop :=
  ∃ fd : FuncData, FnG P w K mg base k ad fd ps sp ∧ Binds K fd ps [] ∧ PySem.W.keepIn K (.ref ad) = true ∧ mg x = some (.ref ad)
theorem Cal.g {k : Nat} {x : Str} {ad : Addr} {ps : List Str} {sp : Sp} (c : Cal P w K mg base k x ad ps sp) : CalG P w K mg base k x ad ps sp := by
  obtain ⟨fd, F, r⟩ := c
  exact ⟨fd, .of F, r⟩
theorem CalG.mono {j k : Nat} {x : Str} {ad : Addr} {ps : List Str} {sp : Sp} (c : CalG P w K mg base j x ad ps sp) (h : j ≤ k) : CalG P w K mg base k x ad ps sp := by
  obtain ⟨fd, F, r⟩ := c
  exact ⟨fd, F.mono h, r⟩
/-- its reading -/
def tG (sp : Sp) (t : TA) : TE := fun σ H Q => t σ H fun vs H1 => sp vs H1 Q E0
theorem pe_g {X : Cx} {k : Nat} {x : Str} {ad : Addr} {ps : List Str} {sp : Sp} {e : Expr} {es : List Expr} {t : TA} {p pos : Pos} (c : CalG X.prog X.w X.K X.mg X.base k x ad ps sp) (hr : Room k X.A) (hc : Calm X.A) (ha : PA X (e :: es) t) (hg : Gl X x := by rfl)
    (hdb : (x == ("__debug__" : Str)) = false := by decide) (he : starEach (e :: es) X.env = (false, eval e X.env) :: starEach es X.env := by rfl) (hpl : (backTo pos (starEach es X.env)).any (·.1) = false := by rfl) :
    PE X (.Call (.Name x p) (e :: es) [] pos) (tG sp t) := by
  obtain ⟨fd, F, b, kp, m⟩ := c
  refine ⟨fun pins s σ H Q I h => wpAny_Call_Name_kw (ld_glob I hg m ?_ hdb)⟩
  refine PySem.W.callWith_K (h₀ := X.base) I.ok.mod.kin kp (thn (ha.run pos pins s σ H _ I h) fun us s1 ⟨vs, H1, J, r, q⟩ => ⟨J.kIn, ?_⟩) he hpl
  exact call_g F hr hc b J r q
abbrev BodyG (P : Program) (w : World) (K : Fr) (mg : Str → Option Value) (base : Heap) (k : Nat) (d : Dx) (N ps : List Str) (sp : Sp) : Prop :=
  ∀ (cdv : Value) (A : Around) (outer : List Env) (s : Shared) (H : Hp) (vs : List V) (Q : VK) (E : XK), Room k (A.deeper (envOfC d.ql (defScope d.st) s.heap.objs.size (d.ad K) cdv)) → Calm A → sp vs H Q E →
      ∃ t, PSs (cxOf CX0 P w K mg base N d.ql (defScope d.st) (d.ad K) cdv A outer s H E).nox (defBody d.st) t ∧ t { nx := fun _ H' => Q .non H', rt := Q } (start N vs) H
/-- such a def, by its body -/
theorem okg_of {k : Nat} {d : Dx} {N ps : List Str} {sp : Sp} {fd : FuncData} (D : DAt K d fd) (S : FnScope N ps (defScope d.st)) (len : ∀ vs H Q E, sp vs H Q E → vs.length = ps.length) (hb : BodyG P w K mg base k d N ps sp) :
    FnG P w K mg base (k + 1) (d.ad K) fd ps sp := by
  obtain ⟨oc, od, dV, kV, doc, pm, an, cdv, ct, osl, rfl, lk, hcd, _, _⟩ := D.ex
  refine ⟨len, fun A out s H args us vs Q hr hc e0 hbd r hsp => ?_⟩
  have old : ∀ b o, base.get? b = some o → s.heap.get? b = some o := fun b o z => (e0.bs b o z).1
  have KX : K.In s.heap := e0.mod.kin.keeps old
  have kd : ∀ y ∈ ps.zip us, (defScope d.st).names.lookup y.1 = some .local ∨ ((defScope d.st).names.lookup y.1 = some .cell ∧ ((cellsFrom (s.heap.objs.size + 1) (defScope d.st).names []).lookup y.1).isSome = true) := by
    rintro ⟨n, v⟩ hy
    have q := S.par n (List.of_mem_zip hy).1
    exact q.imp id fun q => ⟨q, PySem.W.cellsFrom_some _ _ _ (.inl q)⟩
  refine codeAny_call_function hr.depth (KX _ _ lk) rfl S.co S.gen rfl (PySem.W.codeRec_of KX hcd) (hbd _ _ _ _ ?_)
  refine wpAny_newFunctionEnv_cells S.kind kd fun env he s1 x => ?_
  subst he
  refine ⟨(e0.mod.nolimit.keeps old).keeps x.toInCall.keep, codeAny_func ?_⟩
  obtain ⟨t, ht, hq⟩ := hb cdv A out s H vs Q E0 (hr.deeper _) hc hsp
  have I : Inv (cxOf CX0 P w K mg base N d.ql (defScope d.st) (d.ad K) cdv A out s H E0) [] (start N vs) H s1 := inv_start S hr.hd e0 (len _ _ _ _ hsp) r x
  refine wpAny_mono (ht.nox.run [] s1 (start N vs) H _ I hq) (fun fl s' hs => ?_) fun e s' hs => hs
  cases fl with
  | next =>
    obtain ⟨σ', H', J, q⟩ := hs
    exact ⟨V.non, H', J.os, J.bare, J.base, J.hok, rfl, q⟩
  | ret u =>
    obtain ⟨v, σ', H', J, rv, q⟩ := hs
    exact ⟨v, H', J.os, J.bare, J.base, J.hok, rv, q⟩
  | brk =>
    obtain ⟨σ', H', J, q⟩ := hs
    exact False.elim q
  | cont =>
    obtain ⟨σ', H', J, q⟩ := hs
    exact False.elim q
theorem calg_of {k : Nat} {d : Dx} {N ps : List Str} {sp : Sp} {x : Str} (D : ∃ fd, DAt K d fd) (hv : d.df = []) (S : FnScope N ps (defScope d.st)) (hm : mg x = some (.ref (d.ad K)))
    (hbi : ∀ (kV doc pm : Value) (an : Option Addr) (cdv ct : Value) (us : List Value), us.length = ps.length → bindArgs (PySem.W.fnOf d.nm d.ql (defArgs d.st) (defBody d.st) (defScope d.st) .none kV doc pm an cdv ct) ⟨us, []⟩ = pure (ps.zip us))
    (len : ∀ vs H Q E, sp vs H Q E → vs.length = ps.length) (hb : BodyG P w K mg base k d N ps sp) : CalG P w K mg base (k + 1) x (d.ad K) ps sp := by
  obtain ⟨fd, D⟩ := D
  have e : d.vs K = [] := by
    unfold Dx.vs
    rw [hv]
    rfl
  have D' : FunD K d.nm d.ql (defArgs d.st) (defBody d.st) (defScope d.st) [] [] (d.ad K) fd := by
    rw [← e]
    exact D
  exact ⟨fd, okg_of D S len hb, FunD.bindsN D' hbi, D.kp, hm⟩
/-- the law's own end: such a def is called with the script -/
theorem end_g {l : PySem.W.OpenLaw} {q : Program} {loose : List Str} {XP : (Str → Option Value) → Heap → Prop} {YP : World → Heap → Prop} {d : DefRec} {k : Nat} {x : Str} (hn : l.most = some 63) (hdf : d.params.defaults = []) (hr : Room k callerA)
    (F : ∀ (w : World) (mg : Str → Option Value) (fa : Addr) (h : Heap), YP w h → h.Ns mainGlobals mg → mg d.name = some (.ref fa) →
      ∃ (K : Fr) (fd : FuncData) (sp : Sp), K.In h ∧ (∀ (s : Shared) (u : Value), BindsTo s fd ⟨[u], []⟩ [(x, u)]) ∧
        (∀ (H : Hp) (a : Addr) (ns : List Int), ns.length ≤ 63 → (∀ n ∈ ns, Builtin.Int.intBits n ≤ 1048576) → SqL K H a (ns.map V.int) → sp [.ref a] H (fun v _ => v = .bl true) E0) ∧
        ∀ base : Heap, K.In base → base.Ns mainGlobals mg → FnG l.prog w K mg base k fa fd [x] sp) :
    PySem.W.WalkO q loose XP YP l.row.toRowW d [] (fun f vs => PySem.call f vs) := by
  refine Att.attach_callB hn hdf fun w s₀ s₁ mg mb fa o pm cd doc a vs ns G Y ho hd hcd hmg hobj hints hlen hbits hg => ?_
  obtain ⟨K, fd, sp, KX, hbi, hsp, hF⟩ := F w mg fa _ Y G.T.g hmg
  have rv := vals_ints hints
  have sz : vs.length ≤ sizeLine := by
    have := hints.length
    have e : 63 ≤ sizeLine := by decide
    omega
  have szn : (ns.map V.int).length ≤ sizeLine := by
    rw [rv.length]
    exact sz
  -- an abstract heap in which the script alone may be tracked
  obtain ⟨H, hO, hS, hok, hA, hK⟩ : ∃ H : Hp, Only H ∧ SqL K H a (ns.map V.int) ∧ HOk l.prog w H s₁.heap ∧ (∀ b, H b ≠ none → b = a) ∧ (H a ≠ none → K.lookup a = none) := by
    cases hk : K.lookup a with
    | some ob =>
      have e := KX a ob hk
      rw [hobj] at e
      cases e
      refine ⟨fun _ => none, fun _ => .inl rfl, .inr ⟨_, vs.toArray, _, hk, rfl, rfl, rfl, ?_, ?_⟩, fun b u z => (nomatch z), fun b z => absurd rfl z, fun z => absurd rfl z⟩
      · rw [List.size_toArray]
        exact sz
      · simpa using rv
    | none =>
      have at_ : ∀ {b : Addr} {u : HO}, (if b = a then some (HO.frz { cls := .type "list", data := .seq vs.toArray } (.lst (ns.map V.int))) else none) = some u → b = a ∧ u = HO.frz { cls := .type "list", data := .seq vs.toArray } (.lst (ns.map V.int)) := fun {b u} z => by
        by_cases hb : b = a
        · rw [if_pos hb] at z
          exact ⟨hb, (Option.some.inj z).symm⟩
        · rw [if_neg hb] at z
          exact nomatch z
      refine ⟨fun b => if b = a then some (.frz { cls := .type "list", data := .seq vs.toArray } (.lst (ns.map V.int))) else none, fun b => ?_, .inl (.inr ⟨_, if_pos rfl⟩), fun b u z => ?_, fun b z => ?_, fun _ => rfl⟩
      · by_cases hb : b = a
        · exact .inr ⟨_, _, if_pos hb⟩
        · exact .inl (if_neg hb)
      · obtain ⟨e1, e2⟩ := at_ z
        subst e1 e2
        exact ⟨hobj, szn, vs, _, rv, hobj⟩
      · by_cases hb : b = a
        · exact hb
        · exact absurd (if_neg hb) z
  have old : ∀ {b : Addr} {ob : Obj}, s₁.heap.get? b = some ob → H b = none → (hidT s₁.heap H).get? b = some ob := fun e n => hidT_get e n
  have only_a : ∀ b, b ≠ a → H b = none := fun b hb => by
    cases z : H b with
    | none => rfl
    | some u => exact absurd (hA b (by rw [z]; exact fun y => nomatch y)) hb
  have dict_out : ∀ {b : Addr} {ob : Obj} {es : Array DictEntry} {ep : Nat}, s₁.heap.get? b = some ob → ob.data = .dict es ep → H b = none := fun {b ob es ep} e dd => only_a b fun z => by
    subst z
    rw [hobj] at e
    cases e
    exact nomatch dd
  have ns_ : ∀ {b : Addr} {m : Str → Option Value}, s₁.heap.Ns b m → (hidT s₁.heap H).Ns b m := fun {b m} ⟨ob, es, ep, e, dd, r⟩ => ⟨ob, es, ep, old e (dict_out e dd), dd, r⟩
  have K_ : K.In (hidT s₁.heap H) := fun b ob e => old (KX b ob e) (by
    cases z : H b with
    | none => rfl
    | some u =>
      have eb := hA b (by rw [z]; exact fun y => nomatch y)
      subst eb
      have := hK (by rw [z]; exact fun y => nomatch y)
      rw [this] at e
      exact nomatch e)
  obtain ⟨mc, l1, l2⟩ := G.T.nolimit
  have e0 : Env0 l.prog w K mg (hidT s₁.heap H) callerA [] s₁ H :=
    { frames := rfl, mod := ⟨K_, ns_ G.T.g, ⟨mb, ns_ G.T.b, G.T.builtins⟩, ⟨mc, ns_ l1, l2⟩⟩, bs := fun b ob e => of_hidT e, bsz := Nat.le_of_eq (hidT_size _ _), funs := trivial, frf := fun b hb => absurd hb (List.not_mem_nil), hok := hok, bare := .of_eq hg }
  refine codeAny_mono ((hF _ K_ (ns_ G.T.g)).run callerA [] s₁ H ⟨[.ref a], []⟩ [.ref a] [.ref a] (fun v _ => v = .bl true) hr rfl e0 (hbi s₁ (.ref a)) (.cons rfl .nil) (hsp H a ns hlen hbits hS)) fun r s' h => ?_
  cases r with
  | error e => exact (show False from h).elim
  | ok fl =>
    cases fl with
    | ret u =>
      obtain ⟨v, H', os, bare, un, hok', r', ev⟩ := h
      have ev' : v = .bl true := ev
      subst ev'
      cases r'
      refine ⟨rfl, OldK.of_keep fun b ob e => ?_, os, bare⟩
      rcases hO b with z | ⟨o1, xs, z⟩
      · exact un.keep b ob e z (List.not_mem_nil) (List.not_mem_nil)
      · obtain ⟨e1, _⟩ := hok b _ z
        obtain ⟨e2, _⟩ := hok' b _ (un.frzs b o1 _ z)
        rw [e] at e1
        cases e1
        exact e2
    | _ => exact (show False from h).elim
end
end Hk

/-! repr of data; str, repr, == of own instances by their own methods; static methods. -/
namespace Hk
open PySem PySem.Spec PyProof.Rows L2
mutual
theorem Dp.noDict {K : Fr} {H : Hp} : ∀ (d : PyData) (v : V), Dp K H v d → d.hasDict = false
  | .none, _, _ => by simp [PyData.hasDict]
  | .bool _, _, _ => by simp [PyData.hasDict]
  | .int _, _, _ => by simp [PyData.hasDict]
  | .str _, _, _ => by simp [PyData.hasDict]
  | .list ds, _, h => by
    cases h with
    | lst _ ha =>
      simp only [PyData.hasDict]
      exact Dp.noDictAll ds _ ha
  | .tuple ds, _, h => by
    cases h with
    | tup _ ha =>
      simp only [PyData.hasDict]
      exact Dp.noDictAll ds _ ha
  | .dict _, _, h => by cases h
theorem Dp.noDictAll {K : Fr} {H : Hp} : ∀ (ds : List PyData) (vs : List V), DpAll K H vs ds → PyData.hasDictAll ds = false
  | [], _, _ => by simp [PyData.hasDictAll]
  | d :: ds, _, h => by
    cases h with
    | cons h1 h2 =>
      simp only [PyData.hasDictAll, Bool.or_eq_false_iff]
      exact ⟨Dp.noDict d _ h1, Dp.noDictAll ds _ h2⟩
end
/-- repr(x), x data: none, a truth, an int, a text, lists and tuples of such -/
def rRepr (K : Fr) : List V → Hp → VK → Prop := fun xs H Q => ∃ x d, xs = [x] ∧ Dp K H x d ∧ d.showable = true ∧ d.depth ≤ 60 ∧ d.shown.length ≤ sizeLine ∧ Q (.str d.shown) H
section
variable {X : Cx}
theorem call_reprD {k : Nat} (hc : Calm X.A) (hr : Room k X.A) : CallR X (.builtin "repr") (rRepr X.K) := by
  intro pins s σ H xs us Q I r h
  obtain ⟨x, d, rfl, hd, hs, hdp, hz, q⟩ := h
  obtain ⟨u, rfl, ru⟩ := r.one
  cases hd with
  | non =>
    cases ru
    rw [PyData.shown_none] at q
    exact PySem.P.repr_of_none ⟨.str _, H, I.tok _, ⟨_, rfl⟩, q⟩
  | bl b =>
    cases ru
    rw [PyData.shown_bool] at q
    refine PySem.P.repr_of_bool ⟨.str _, H, I.tok _, ⟨_, rfl⟩, ?_⟩
    cases b <;> exact q
  | int i =>
    obtain ⟨t, rfl⟩ := ru
    rw [PyData.shown_int] at q
    refine PySem.P.repr_of_int ?_ ⟨.str _, H, I.tok _, ⟨_, rfl⟩, q⟩
    simpa [PyData.showable] using hs
  | str y =>
    obtain ⟨t, rfl⟩ := ru
    rw [PyData.shown_str] at q hz
    exact PySem.P.repr_of_str ⟨.str _, H, I.tok _, ⟨_, rfl⟩, q⟩ hz
  | @lst a ys ds h1 h2 =>
    have e : u = Value.ref a := ru
    subst e
    have nd := Dp.noDict _ _ (Dp.lst h1 h2)
    obtain ⟨as, hr'⟩ := Dp.reads I (.list ds) _ _ (Dp.lst h1 h2) rfl
    refine PySem.repr_of_reads' hr' hs (fun z => by rw [nd] at z; exact nomatch z) hc ?_ (fun b o z => z) (fun h' u tk kp => ⟨.str _, H, I.kept kp, ⟨_, rfl⟩, q⟩) hz
    have := hr.units
    omega
  | @tup a ys ds h1 h2 =>
    have e : u = Value.ref a := ru
    subst e
    have nd := Dp.noDict _ _ (Dp.tup h1 h2)
    obtain ⟨as, hr'⟩ := Dp.reads I (.tuple ds) _ _ (Dp.tup h1 h2) rfl
    refine PySem.repr_of_reads' hr' hs (fun z => by rw [nd] at z; exact nomatch z) hc ?_ (fun b o z => z) (fun h' u tk kp => ⟨.str _, H, I.kept kp, ⟨_, rfl⟩, q⟩) hz
    have := hr.units
    omega
/-! ### own methods that the interpreter calls -/
theorem own_run {A' : Around} {pins : List (Addr × Obj)} {σ : L2.St} {H : Hp} {s : Shared} {Q : VK} {E' : Value → Shared → Prop} {us : List Value} {vs : List V} {k : Nat} {f : Addr} {fd : FuncData} {ps : List Str} {sp : Sp} (F : FnOk X.prog X.w X.K X.mg X.base CX0 k f fd ps sp)
    (hr : Room k A') (e0 : Env0 X.prog X.w X.K X.mg X.base A' X.stack s H) (hb : Binds X.K fd ps []) (I : Inv X pins σ H s) (r : Vals vs us) (h : sp vs H Q E0) : wpAny (model X.prog X.w) A' (call (.ref f) us) (EP X pins σ Q) E' s := by
  have ln : us.length = ps.length := r.length.symm.trans (F.len _ _ _ _ h)
  have bd : BindsTo s fd ⟨us, []⟩ (ps.zip us) := by
    have := hb s us I.kIn (by rw [List.append_nil]; exact ln)
    rwa [List.append_nil] at this
  refine wpAny_call (codeAny_mono (F.run A' X.stack s H ⟨us, []⟩ us vs Q E0 hr e0 bd r h) fun z s' hq => ?_)
  rcases z with e | fl
  · exact (show False from hq).elim
  · cases fl with
    | ret u => exact I.after hq
    | _ => exact (show False from hq).elim
/-- the class at C has its own def at f for the name m -/
structure Own (K : Fr) (C : Addr) (m : Str) (f : Addr) : Prop where
  at_ : PySem.W.findIn K (.ref C) m = some (some (.ref f))
  fn : PySem.W.isFn K (.ref f) = true
def rText (C : Addr) (sp : Sp) : List V → Hp → VK → Prop := fun xs H Q => ∃ a dx fs, xs = [.ref a] ∧ H a = some (.ins C dx fs) ∧ sp [.ref a] H (fun z H' => ∃ y, z = .str y ∧ Q z H') E0
section
variable {k : Nat} {C f : Addr} {fd : FuncData} {ps : List Str} {sp : Sp}
theorem call_strO (O : Own X.K C "__str__" f) (F : FnOk X.prog X.w X.K X.mg X.base CX0 k f fd ps sp) (hb : Binds X.K fd ps []) (hr : Room (k + 2) X.A) : CallR X (.type "str") (rText C sp) := by
  intro pins s σ H xs us Q I r h
  obtain ⟨a, dx, fs, rfl, ha, q⟩ := h
  obtain ⟨u, rfl, ru⟩ := r.one
  cases (show u = Value.ref a from ru)
  obtain ⟨mA, M, _⟩ := ins_get I.hok ha
  obtain ⟨od, J, _⟩ := M.look
  have r2 : Room k X.A.in1.in1 := (show Room (k + 1) X.A.in1 from Room.in1 hr).in1
  refine PySem.W.kso_call r2.units0 I.kIn J O.at_ O.fn (wpAny_mono (own_run (vs := [.ref a]) F r2 I.env0.in1.in1 hb I (.cons rfl .nil) q) (fun v s' z => ?_) fun _ _ z => z)
  obtain ⟨z', H', I', rz, y, ey, qz⟩ := z
  subst ey
  obtain ⟨t, e⟩ := (show ∃ t, v = Value.str y t from rz)
  cases e
  exact ⟨.str y, H', I', ⟨t, rfl⟩, qz⟩
theorem call_reprO (O : Own X.K C "__repr__" f) (F : FnOk X.prog X.w X.K X.mg X.base CX0 k f fd ps sp) (hb : Binds X.K fd ps []) (hr : Room (k + 1) X.A) : CallR X (.builtin "repr") (rText C sp) := by
  intro pins s σ H xs us Q I r h
  obtain ⟨a, dx, fs, rfl, ha, q⟩ := h
  obtain ⟨u, rfl, ru⟩ := r.one
  cases (show u = Value.ref a from ru)
  obtain ⟨mA, M, _⟩ := ins_get I.hok ha
  obtain ⟨od, J, _⟩ := M.look
  have r2 : Room k X.A.in1 := Room.in1 hr
  obtain ⟨m, hF⟩ := I.fr
  refine PySem.W.repr_K r2.units0 hF I.ok.mod.kin J O.at_ O.fn (wpAny_mono (own_run (vs := [.ref a]) F r2 I.env0.in1 hb I (.cons rfl .nil) q) (fun v s' z => ?_) fun _ _ z => z)
  obtain ⟨z', H', I', rz, y, ey, qz⟩ := z
  subst ey
  obtain ⟨t, e⟩ := (show ∃ t, v = Value.str y t from rz)
  cases e
  exact ⟨.str y, H', I', ⟨t, rfl⟩, qz⟩
/-- the type of what is compared -/
inductive TyL (K : Fr) (H : Hp) : V → Value → Prop where
  | non : TyL K H .non (.type "NoneType")
  | bl (b : Bool) : TyL K H (.bl b) (.type "bool")
  | int (i : Int) : TyL K H (.int i) (.type "int")
  | str (y : Str) : TyL K H (.str y) (.type "str")
  | lst {a : Addr} {xs : List V} (h : H a = some (.lst xs)) : TyL K H (.ref a) (.type "list")
  | tup {a : Addr} {xs : List V} (h : H a = some (.tup xs)) : TyL K H (.ref a) (.type "tuple")
  | ins {a C dx : Addr} {fs : List (Str × V)} (h : H a = some (.ins C dx fs)) : TyL K H (.ref a) (.ref C)
theorem typeOf_obj {M : Model} {h : Heap} {a : Addr} {o : Obj} {t : Value} (e : h.get? a = some o) (c : o.cls = t) : PySem.W.Looks M h (typeOf (.ref a)) t := by
  intro A Q E s kp q
  refine wpAny_typeOf_ref (kp _ _ e) ?_
  rw [c]
  exact q
theorem TyL.looks {pins : List (Addr × Obj)} {σ : L2.St} {H : Hp} {s : Shared} {y : V} {u t : Value} {M : Model} (I : Inv X pins σ H s) (ry : RelV y u) (ty : TyL X.K H y t) : PySem.W.Looks M s.heap (typeOf u) t := by
  cases ty with
  | non => cases ry; exact PySem.W.Looks.of_pure rfl
  | bl b => cases ry; exact PySem.W.Looks.of_pure rfl
  | int i =>
    obtain ⟨t, rfl⟩ := ry
    exact PySem.W.Looks.of_pure rfl
  | str z =>
    obtain ⟨t, rfl⟩ := ry
    exact PySem.W.Looks.of_pure rfl
  | @lst a xs h =>
    cases (show u = Value.ref a from ry)
    obtain ⟨_, its, n, _, e⟩ := (show ObjOk X.prog X.w H s.heap a (.lst xs) from I.hok a _ h)
    exact typeOf_obj e rfl
  | @tup a xs h =>
    cases (show u = Value.ref a from ry)
    obtain ⟨_, its, _, o, e, c, _⟩ := (show ObjOk X.prog X.w H s.heap a (.tup xs) from I.hok a _ h)
    exact typeOf_obj e c
  | @ins a C dx fs h =>
    cases (show u = Value.ref a from ry)
    obtain ⟨mA, M, _⟩ := ins_get I.hok h
    obtain ⟨od, J, _⟩ := M.look
    exact J.type
def rEqO (K : Fr) (C : Addr) (sp : Sp) : R2 := fun x y H Q => ∃ a dx fs t, x = .ref a ∧ H a = some (.ins C dx fs) ∧ TyL K H y t ∧ PySem.W.notFirst K C t = true ∧ sp [x, y] H (fun z H' => ∃ b, z = .bl b ∧ Q z H') E0
theorem op_eqO (O : Own X.K C "__eq__" f) (F : FnOk X.prog X.w X.K X.mg X.base CX0 k f fd ps sp) (hb : Binds X.K fd ps []) (hr : Room k X.A) : OpR X (compareOp .Eq) (rEqO X.K C sp) := by
  intro pins s σ H x y v u Q I rx ry h
  obtain ⟨a, dx, fs, t, rfl, ha, ty, hn, q⟩ := h
  cases (show v = Value.ref a from rx)
  obtain ⟨mA, M, _⟩ := ins_get I.hok ha
  obtain ⟨od, J, _⟩ := M.look
  obtain ⟨m, hF⟩ := I.fr
  show wpAny _ _ (richCompare .Eq (.ref a) u) _ _ _
  refine PySem.W.cmp_K (op := .Eq) hr.units0 hF I.ok.mod.kin J (ty.looks I ry) hn O.at_ O.fn (wpAny_mono (own_run (vs := [.ref a, y]) F hr I.env0 hb I (.cons rfl (.cons ry .nil)) q) (fun w s' z => ?_) fun _ _ z => z)
  obtain ⟨z', H', I', rz, b, eb, qz⟩ := z
  subst eb
  cases rz
  exact ⟨.bl b, H', I', rfl, qz⟩
end
end
end Hk
namespace Hk
open PySem PySem.Spec PyProof.Rows L2
/-! ### != where the class has == alone -/
section
variable {prog : Program} {w : World} {A : Around} {E : Value → Shared → Prop} {s : Shared} {K : Fr} {x C f : Addr} {ox : Obj} {od : Option Obj}
theorem ne_dflt {b tb : Value} {Q : Value → Shared → Prop} (hu : A.units + 2 < cLine) (Y : K.In s.heap) (I : PySem.W.InstAt s.heap x ox C od) (hb : PySem.W.Looks (model prog w) s.heap (typeOf b) tb) (hn : PySem.W.notFirst K C tb = true)
    (hne : PySem.W.findIn K (.ref C) "__ne__" = some (some (.builtin "object.__ne__"))) (he : PySem.W.findIn K (.ref C) "__eq__" = some (some (.ref f))) (hf : PySem.W.isFn K (.ref f) = true) (hob : PySem.W.subIn K (.ref C) (.type "object") = some true)
    (h : wpAny (model prog w) A.in1 (call (.ref f) [.ref x, b]) (fun v s' => ∃ r, v = .bool r ∧ Q (.bool (!r)) s') E s) : wpAny (model prog w) A (richCompare .NotEq (.ref x) b) Q E s := by
  have slot := PySem.F.slot_object_ne
  have body : wpAny (model prog w) A.in1 (Builtin.«object.__ne__» ⟨[.ref x, b], []⟩) (fun fin s' => ∃ v, fin = .done (.ret v) ∧ v ≠ .notImplemented ∧ Q v s') E s := by
    unfold Builtin.«object.__ne__»
    repeat (first
      | with_reducible refine wpAny_cRoomFor (show A.units + 1 < cLine by omega) ?_
      | (refine wpAny_bind (m := callSpecialIfBound? (.ref x) (Str.ofString "__eq__") [b]) (PySem.W.ifBound_K Y I he hf (wpAny_mono h (fun r s' hr => ?_) fun _ _ e => e))
         obtain ⟨b, rfl, hq⟩ := hr)
      | exact ⟨_, rfl, (fun z => nomatch z), hq⟩
      | (refine wpAny_bind (m := truthy (.bool _)) (wpAny_truthy_bool ?_))
      | wp_step)
  have called : wpAny (model prog w) A (call (.builtin "object.__ne__") [.ref x, b]) (fun v s' => v ≠ .notImplemented ∧ Q v s') E s := by
    refine wpAny_call (codeAny_call_builtin slot.plain PySem.F.cmpEntry_ne (PySem.W.check_slot PySem.F.cmpKind_ne PySem.F.cmpSplit_ne (I.type.andThen (PySem.W.looks_subIn Y hob)) (PySem.F.cmpArgs_ne _ _) ?_))
    exact wpAny_mono body (fun fin s' hv => by obtain ⟨v, rfl, q⟩ := hv; exact q) fun _ _ z => z
  have one : wpAny (model prog w) A (tryCompare (.ref x) (cmpInfo .NotEq).2.1 b) (fun r s' => ∃ v, r = some v ∧ Q v s') E s := by
    unfold tryCompare
    refine wpAny_bind ?_
    simp only [callSpecialIfBound?, bindSpecialIfBound?]
    refine wpAny_holding (wpAny_bind (wpAny_bind (wpAny_bind (I.type.here ((PySem.W.looks_findIn Y hne).here ?_)))))
    simp only [slot.bind]
    refine wpAny_bind (wpAny_askSetting (wpAny_ite ?_))
    split
    · refine wpAny_bind (wpAny_pure (wpAny_pure ?_))
      refine wpAny_bind (wpAny_mono called (fun v s' hv => wpAny_pure ?_) fun _ _ z => z)
      obtain ⟨h1, h2⟩ := hv
      cases v <;> first | exact absurd rfl h1 | exact wpAny_pure ⟨_, rfl, h2⟩
    · refine wpAny_tryCatch (wpAny_bind (wpAny_pure (wpAny_pure ?_)))
      refine wpAny_bind (wpAny_mono called (fun v s' hv => wpAny_pure ?_) fun _ _ z => z)
      obtain ⟨h1, h2⟩ := hv
      cases v <;> first | exact absurd rfl h1 | exact wpAny_pure ⟨_, rfl, h2⟩
  unfold richCompare
  simp only [oneThing_ref]
  refine wpAny_holding (wpAny_bind (wpAny_cRoomFor (by omega) ?_))
  refine wpAny_bind (I.type.here (wpAny_bind (hb.here ?_)))
  have nosub : ((Value.ref C != tb) = true) → PySem.W.subIn K tb (.ref C) = some false := fun q => by
    rcases Bool.or_eq_true_iff.mp hn with e | e
    · rw [beq_iff_eq.mp e] at q
      simp at q
    · exact beq_iff_eq.mp e
  split
  · rename_i q
    refine wpAny_bind ((PySem.W.looks_subIn Y (nosub q)).here ?_)
    simp only [Bool.false_eq_true, if_false]
    refine wpAny_bind (wpAny_mono one (fun r s' z => ?_) fun _ _ e => e)
    obtain ⟨v, rfl, hv⟩ := z
    exact wpAny_pure hv
  · refine wpAny_bind (wpAny_pure ?_)
    simp only [Bool.false_eq_true, if_false]
    refine wpAny_bind (wpAny_mono one (fun r s' z => ?_) fun _ _ e => e)
    obtain ⟨v, rfl, hv⟩ := z
    exact wpAny_pure hv
end
section
variable {X : Cx} {k : Nat} {C f : Addr} {fd : FuncData} {ps : List Str} {sp : Sp}
/-- the class has its own ==, and != of object -/
structure NeOf (K : Fr) (C : Addr) : Prop where
  ne : PySem.W.findIn K (.ref C) "__ne__" = some (some (.builtin "object.__ne__"))
  ob : PySem.W.subIn K (.ref C) (.type "object") = some true
def rNeO (K : Fr) (C : Addr) (sp : Sp) : R2 := fun x y H Q => ∃ a dx fs t, x = .ref a ∧ H a = some (.ins C dx fs) ∧ TyL K H y t ∧ PySem.W.notFirst K C t = true ∧ sp [x, y] H (fun z H' => ∃ b, z = .bl b ∧ Q (.bl (!b)) H') E0
theorem op_neO (O : Own X.K C "__eq__" f) (N : NeOf X.K C) (F : FnOk X.prog X.w X.K X.mg X.base CX0 k f fd ps sp) (hb : Binds X.K fd ps []) (hr : Room (k + 1) X.A) : OpR X (compareOp .NotEq) (rNeO X.K C sp) := by
  intro pins s σ H x y v u Q I rx ry h
  obtain ⟨a, dx, fs, t, rfl, ha, ty, hn, q⟩ := h
  cases (show v = Value.ref a from rx)
  obtain ⟨mA, M, _⟩ := ins_get I.hok ha
  obtain ⟨od, J, _⟩ := M.look
  have r2 : Room k X.A.in1 := Room.in1 hr
  show wpAny _ _ (richCompare .NotEq (.ref a) u) _ _ _
  refine ne_dflt (by have := hr.units; omega) I.kIn J (ty.looks I ry) hn N.ne O.at_ O.fn N.ob (wpAny_mono (own_run (vs := [.ref a, y]) F r2 I.env0.in1 hb I (.cons rfl (.cons ry .nil)) q) (fun w s' z => ?_) fun _ _ z => z)
  obtain ⟨z', H', I', rz, b, eb, qz⟩ := z
  subst eb
  cases rz
  exact ⟨b, rfl, .bl (!b), H', I', rfl, qz⟩
end
/-! ### a static method, called off its class by one keyword or more -/
structure Stat (K : Fr) (C : Addr) (mc : Value) (m : Str) (p g : Addr) : Prop where
  rd : ClX.CRead K C mc
  at_ : PySem.W.findCls K (.ref C) mc m = some (.get (.builtin "staticmethod.__get__") (.ref p) .none (.ref C))
  rc : ∃ rest, PySem.W.recIn K p "staticmethod" = some (.ref g :: rest)
  kp : PySem.W.keepIn K (.ref g) = true
def tStatK (C : Addr) (sp : Sp) (ta : TE) (tk : TA) : TE := fun σ H Q => ta σ H fun x H1 => x = .ref C ∧ tk σ H1 fun vs H2 => sp vs H2 Q E0
section
variable {X : Cx} {k : Nat} {C p g : Addr} {mc : Value} {m : Str} {fd : FuncData} {ps : List Str} {sp : Sp} {o : Expr} {kws : List Keyword} {ta : TE} {tk : TA} {pos apos : Pos} {pl : Sem Bool}
theorem pe_statK (he : PE X o ta) (S : Stat X.K C mc m p g) (F : FnOk X.prog X.w X.K X.mg X.base CX0 k g fd ps sp) (hr : Room k X.A)
    (hbk : ∀ (s : Shared) (ws : List Value), X.K.In s.heap → ws.length = ps.length → BindsTo s fd ⟨[], ps.zip ws⟩ (ps.zip ws)) (hk : PK X kws tk)
    (hall : (backToKw pos (keywordEach kws X.env)).all (·.1.isSome) = true := by rfl) (hks : (backToKw pos (keywordEach kws X.env)).filterMap (·.1) = ps := by rfl)
    (hpl : ((backTo pos (starEach [] X.env)).any (·.1) || (backToKw pos (keywordEach kws X.env)).any (·.1.isNone)) = false := by rfl)
    (ht : eval (.Call (.Attribute o m apos) [] kws pos) X.env = (do
      let ov ← eval o X.env
      standAt apos.atName
      let (f, first) ← holding [ov] (getMethod ov m pl)
      callWith pos f first (backTo pos (starEach [] X.env)) (backToKw pos (keywordEach kws X.env))) := by rfl) :
    PE X (.Call (.Attribute o m apos) [] kws pos) (tStatK C sp ta tk) := by
  refine ⟨fun pins s σ H Q I h => PySem.W.methodCall_KW (pl := pl) (thn (he.run pins s σ H _ I h) fun u s1 hu => ?_) ht⟩
  obtain ⟨x, H1, I1, rx, ex, q⟩ := hu
  subst ex
  obtain rfl : u = Value.ref C := rx
  obtain ⟨rest, hp⟩ := S.rc
  refine PySem.W.method_cls I1.kIn S.rd.ga (PySem.W.cls_bind I1.kIn S.rd.rd S.at_ (wpAny_call (PySem.W.sm_get (s := { s1 with toks := s1.toks + 1 }) I1.kIn hp (PySem.W.handed_on rfl ?_))))
  refine PySem.W.callWith_KW0 (h₀ := X.base) I1.ok.mod.kin S.kp hall (thn (hk.run pos pins _ σ H1 _ (I1.tok _) q) fun ws s2 hw => ?_) hpl
  obtain ⟨vs, H2, I2, rv, q2⟩ := hw
  have ln : ws.length = ps.length := rv.length.symm.trans (F.len _ _ _ _ q2)
  refine ⟨I2.kIn, ?_⟩
  rw [hks]
  refine wpAny_call (codeAny_mono (F.run X.A X.stack s2 H2 ⟨[], ps.zip ws⟩ ws vs Q E0 hr I2.env0 (hbk s2 ws I2.kIn ln) rv q2) fun z s' hq => ?_)
  rcases z with e | fl
  · exact (show False from hq).elim
  · cases fl with
    | ret u => exact I2.after hq
    | _ => exact (show False from hq).elim
end
end Hk
namespace Hk
open PySem PySem.Spec PyProof.Rows L2
theorem ne_ok {K : Fr} {x : Str} (c : tNe x K = true) : NeOf K (He.ga K x) := by
  obtain ⟨c1, c2⟩ := He.ba c
  exact ⟨He.eqO_ok c1, of_decide_eq_true c2⟩
theorem own_ok {K : Fr} {x m : Str} (c : tMeth x m K = true) : Own K (He.ga K x) m (mAd x m K) := by
  have h := He.meth_ok c
  exact ⟨h.at_, h.fn⟩
theorem stat_ok {K : Fr} {x m : Str} (c : tStat x m K = true) : Stat K (He.ga K x) (.type "type") m (He.ma K (He.ga K x) m) (statAd x m K) := by
  obtain ⟨c1, c⟩ := He.ba c
  obtain ⟨c2, c⟩ := He.ba c
  obtain ⟨c3, c4⟩ := He.ba c
  obtain ⟨h1, h2⟩ := He5.wrapB_ok c1
  exact ⟨⟨c2, He.eqO_ok c3⟩, h1, h2, c4⟩
end Hk

/-! Operators of an own class: with its own, with an int on either side; neg, abs; += without an own one. -/
namespace Hk
open PySem PySem.Spec PyProof.Rows L2
section
variable {prog : Program} {w : World} {A : Around} {E : Value → Shared → Prop} {s : Shared} {K : Fr} {x C f g : Addr} {ox : Obj} {od : Option Obj}
/-- an int's own operator declines an instance -/
def Declines (id : String) : Prop := ∀ (prog : Program) (w : World) (A : Around) (E : Value → Shared → Prop) (s : Shared) (i : Int) (t : Tok) (x C dx : Addr) (Q : Value → Shared → Prop), s.heap.get? x = some (PySem.W.instObj C dx) → Q .notImplemented s →
  wpAny (model prog w) A (call (.builtin id) [.int i t, .ref x]) Q E s
theorem decl_add : Declines "int.__add__" := by
  intro prog w A E s i t x C dx Q ho q
  refine wpAny_call (codeAny_call_builtin F.slot_int_add.plain F.entry_int_add (F.slot_int_add.check _ _ _ _ _ _ _ _ (typeIs_int s i t) (F.args_int_add_2 _ _) ?_))
  unfold Builtin.«int.__add__» Builtin.Int.intBinary
  refine wpAny_bind (m := slotArgs "__add__" 1 _) (wpAny_pure ?_)
  refine wpAny_bind (m := Builtin.Int.intOfSelf _) (wpAny_pure ?_)
  refine wpAny_bind (m := asInt? _) (wpAny_bind (wpAny_load ho (wpAny_pure ?_)))
  refine wpAny_bind (wpAny_rule (wpAny_pure ?_))
  exact q
theorem decl_sub : Declines "int.__sub__" := by
  intro prog w A E s i t x C dx Q ho q
  refine wpAny_call (codeAny_call_builtin F.slot_int_sub.plain F.entry_int_sub (F.slot_int_sub.check _ _ _ _ _ _ _ _ (typeIs_int s i t) (F.args_int_sub_2 _ _) ?_))
  unfold Builtin.«int.__sub__» Builtin.Int.intBinary
  refine wpAny_bind (m := slotArgs "__sub__" 1 _) (wpAny_pure ?_)
  refine wpAny_bind (m := Builtin.Int.intOfSelf _) (wpAny_pure ?_)
  refine wpAny_bind (m := asInt? _) (wpAny_bind (wpAny_load ho (wpAny_pure ?_)))
  refine wpAny_bind (wpAny_rule (wpAny_pure ?_))
  exact q
theorem decl_mul : Declines "int.__mul__" := by
  intro prog w A E s i t x C dx Q ho q
  refine wpAny_call (codeAny_call_builtin F.slot_int_mul.plain F.entry_int_mul (F.slot_int_mul.check _ _ _ _ _ _ _ _ (typeIs_int s i t) (F.args_int_mul_2 _ _) ?_))
  unfold Builtin.«int.__mul__» Builtin.Int.intBinary
  refine wpAny_bind (m := slotArgs "__mul__" 1 _) (wpAny_pure ?_)
  refine wpAny_bind (m := Builtin.Int.intOfSelf _) (wpAny_pure ?_)
  refine wpAny_bind (m := asInt? _) (wpAny_bind (wpAny_load ho (wpAny_pure ?_)))
  refine wpAny_bind (wpAny_rule (wpAny_pure ?_))
  exact q
/-- int op instance: the class's reflected operator -/
theorem rbin_own {op : Operator} {id : String} {i : Int} {t : Tok} {dx : Addr} {Q : Value → Shared → Prop} (Y : K.In s.heap) (I : PySem.W.InstAt s.heap x (PySem.W.instObj C dx) C od) (hc : PySem.W.selfFirst K C = true)
    (fT : fillsNumberSlot (.type "int") op.info.2 = pure true) (slot : Slot "int" (PySem.dunder op.info.2) id) (dec : Declines id) (hs : PySem.W.findIn K (.ref C) (PySem.dunder op.info.2) = some (some (.ref f)))
    (hsub : PySem.W.subIn K (.ref C) (.type "int") = some false) (hr : PySem.W.findIn K (.ref C) (dunderR op.info.2) = some (some (.ref g))) (hg : PySem.W.isFn K (.ref g) = true)
    (h : wpAny (model prog w) A (call (.ref g) [.ref x, .int i t]) (PySem.W.CmpBack Q) E s) : wpAny (model prog w) A (binaryOp op (.int i t) (.ref x)) Q E s := by
  obtain ⟨cd, rest, hcd, hm⟩ := PySem.W.ksp_first hc
  rcases hi : op.info with ⟨sym, nm⟩
  rw [hi] at fT slot hs hr
  dsimp only at fT slot hs hr
  simp only [binaryOp, hi]
  refine wpAny_holding ?_
  simp only [binaryOp1]
  refine wpAny_bind (wpAny_bind (wpAny_typeOf (typeIs_int s i t) ?_))
  refine wpAny_bind (I.type.here (wpAny_bind (wpAny_of_eq fT ?_)))
  have hne : (Value.type "int" == Value.ref C) = false := Bool.eq_false_iff.mpr fun q => nomatch beq_iff_eq.mp q
  simp only [hne, Bool.false_eq_true, if_false]
  refine wpAny_bind ((PySem.W.fills_K Y hcd hm hs).here ?_)
  simp only [Bool.and_self, if_true]
  refine wpAny_bind ((PySem.W.looks_subIn Y hsub).here ?_)
  have hpy : numberSlotInPython (.type "int") nm = pure false := rfl
  simp only [Bool.false_eq_true, if_false, pure_bind, Bool.not_false, Bool.and_self, if_true, hpy]
  refine wpAny_bind (wpAny_tryMethod_declines (typeIs_int s i t) slot (dec _ _ _ _ _ _ _ _ _ _ _ I.at_ ⟨rfl, ?_⟩))
  refine wpAny_bind ?_
  unfold tryMethod
  refine wpAny_bind (PySem.W.special_fn Y I hr (beq_iff_eq.mp hg) (wpAny_mono h (fun v s' hv => ?_) fun _ _ e => e))
  cases v <;> first | exact hv.elim | exact wpAny_pure (wpAny_bind (wpAny_rule (wpAny_pure (wpAny_pure hv))))
/-- the class names no operator in place -/
theorem noInplace {M : Model} {h : Heap} {nm : String} {cd : ClassData} {add : Bool} (Y : K.In h) (hc : PySem.W.clsIn K C = some cd) (hm : cd.mro = [.ref C, .type "object"]) (h1 : PySem.W.findIn K (.ref C) (dunderI nm) = some none)
    (h2 : PySem.W.findIn K (.type "object") (dunderI nm) = some none) : PySem.W.Looks M h (fillsInplaceSlot (.ref C) nm add) false := by
  intro A' Q E' s' k q
  have Lm := ((PySem.W.looks_clsIn (M := M) Y hc).andThen (f := fun cd => pure cd.mro) .now).keeps k
  obtain ⟨hh, gg, d, tt, os⟩ := s'
  have Y' : K.In hh := Y.keeps k
  have L1 : PySem.W.Looks M hh (typeLookup (.ref C) (dunderI nm)) none := PySem.W.looks_findIn Y' h1
  have L2 : PySem.W.Looks M hh (typeLookup (.type "object") (dunderI nm)) none := PySem.W.looks_findIn Y' h2
  unfold fillsInplaceSlot
  refine wpAny_bind (Lm.at ?_)
  rw [hm, List.anyM_cons, List.anyM_cons, List.anyM_nil]
  refine wpAny_bind (wpAny_bind (L1.at (wpAny_pure ?_)))
  refine wpAny_bind (wpAny_bind (L2.at (wpAny_pure ?_)))
  exact wpAny_pure q
/-- what the class must have for an operator, with its own and with ints -/
structure BinF (K : Fr) (C : Addr) (nm : String) (f : Addr) : Prop where
  self : PySem.W.selfFirst K C = true
  at_ : PySem.W.findIn K (.ref C) (PySem.dunder nm) = some (some (.ref f))
  fn : PySem.W.isFn K (.ref f) = true
  rr : ∃ rc, PySem.W.findIn K (.ref C) (dunderR nm) = some rc ∧ (rc = none ∨ ∃ g : Addr, rc = some (.ref g))
  i1 : ∃ fo, PySem.W.findIn K (.type "int") (PySem.dunder nm) = some fo
  i2 : ∃ ro, PySem.W.findIn K (.type "int") (dunderR nm) = some ro
  sub : PySem.W.subIn K (.type "int") (.ref C) = some false
/-- the operator's first part: with its own, with an int -/
theorem bin1_own {nm : String} {b : Value} {Q : Value → Shared → Prop} (Y : K.In s.heap) (I : PySem.W.InstAt s.heap x ox C od) (B : BinF K C nm f) (hb : PySem.W.Looks (model prog w) s.heap (typeOf b) (.ref C))
    (h : wpAny (model prog w) A (call (.ref f) [.ref x, b]) (PySem.W.CmpBack Q) E s) : wpAny (model prog w) A (binaryOp1 nm (.ref x) b) (fun r s' => ∃ v, r = some v ∧ Q v s') E s := by
  obtain ⟨cd, rest, hcd, hm⟩ := PySem.W.ksp_first B.self
  unfold binaryOp1
  refine wpAny_bind (I.type.here (wpAny_bind (hb.here (wpAny_bind ((PySem.W.fills_K Y hcd hm B.at_).here ?_)))))
  simp only [beq_self_eq_true, if_true]
  refine wpAny_bind (wpAny_pure ?_)
  simp only [Bool.and_false, Bool.false_eq_true, if_false, Bool.false_and]
  refine wpAny_bind (wpAny_pure ?_)
  simp only [Bool.false_eq_true, if_false]
  refine wpAny_bind (wpAny_mono (PySem.W.ksp_try Y I B.at_ B.fn h) (fun r s' hr => ?_) fun _ _ e => e)
  obtain ⟨v, rfl, hq⟩ := hr
  exact wpAny_pure ⟨v, rfl, hq⟩
theorem bin1_int {nm : String} {i : Int} {t : Tok} {Q : Value → Shared → Prop} (Y : K.In s.heap) (I : PySem.W.InstAt s.heap x ox C od) (B : BinF K C nm f)
    (h : wpAny (model prog w) A (call (.ref f) [.ref x, .int i t]) (PySem.W.CmpBack Q) E s) : wpAny (model prog w) A (binaryOp1 nm (.ref x) (.int i t)) (fun r s' => ∃ v, r = some v ∧ Q v s') E s := by
  obtain ⟨cd, rest, hcd, hm⟩ := PySem.W.ksp_first B.self
  have one := PySem.W.ksp_try Y I B.at_ B.fn h
  obtain ⟨rc, hr, hp⟩ := B.rr
  obtain ⟨fo, h1⟩ := B.i1
  obtain ⟨ro, h2⟩ := B.i2
  obtain ⟨hh, gg, d, tt, os⟩ := s
  have L1 : PySem.W.Looks (model prog w) hh (typeOf (.ref x)) (.ref C) := I.type
  have L2 : PySem.W.Looks (model prog w) hh (typeOf (.int i t)) (.type "int") := PySem.W.Looks.of_pure rfl
  have L3 : PySem.W.Looks (model prog w) hh (fillsNumberSlot (.ref C) nm) true := PySem.W.fills_K Y hcd hm B.at_
  have L4 : PySem.W.Looks (model prog w) hh (fillsNumberSlot (.type "int") nm) ((fo.isSome && !isSeqSlot fo) || (ro.isSome && !isSeqSlot ro)) := PySem.W.ksp_fillsT Y h1 h2
  have L5 : PySem.W.Looks (model prog w) hh (isSubtype (.type "int") (.ref C)) false := PySem.W.looks_subIn Y B.sub
  have L6 : PySem.W.Looks (model prog w) hh (numberSlotInPython (.ref C) nm) true := PySem.W.ksp_inPy Y B.at_ hr hp
  have L7 : PySem.W.Looks (model prog w) hh (numberSlotInPython (.type "int") nm) false := PySem.W.Looks.of_pure rfl
  have L8 : PySem.W.Looks (model prog w) hh (typeLookup (.type "int") (dunderR nm)) ro := PySem.W.looks_findIn Y h2
  generalize ((fo.isSome && !isSeqSlot fo) || (ro.isSome && !isSeqSlot ro)) = right at L4
  have hne : (Value.ref C == Value.type "int") = false := Bool.eq_false_iff.mpr fun q => nomatch beq_iff_eq.mp q
  unfold binaryOp1
  refine wpAny_bind (L1.at (wpAny_bind (L2.at (wpAny_bind (L3.at ?_)))))
  simp only [hne, Bool.false_eq_true, if_false]
  cases right with
  | false =>
    ksp_lk
    refine wpAny_mono one (fun r s' hr' => ?_) fun _ _ e => e
    obtain ⟨v, rfl, hq⟩ := hr'
    ksp_lk
    exact ⟨v, rfl, hq⟩
  | true =>
    ksp_lk
    refine wpAny_mono one (fun r s' hr' => ?_) fun _ _ e => e
    obtain ⟨v, rfl, hq⟩ := hr'
    ksp_lk
    exact ⟨v, rfl, hq⟩
theorem bin_of1 {op : Operator} {a b : Value} {Q : Value → Shared → Prop} (h : wpAny (model prog w) A (binaryOp1 op.info.2 a b) (fun r s' => ∃ v, r = some v ∧ Q v s') E s) : wpAny (model prog w) A (binaryOp op a b) Q E s := by
  rcases hi : op.info with ⟨sym, nm⟩
  rw [hi] at h
  simp only [binaryOp, hi]
  refine wpAny_holding (wpAny_bind (wpAny_mono h (fun r s' hr => ?_) fun _ _ e => e))
  obtain ⟨v, rfl, hq⟩ := hr
  exact wpAny_pure hq
/-- op= by the plain operator -/
theorem ip_of1 {op : Operator} {cd : ClassData} {b : Value} {Q : Value → Shared → Prop} (Y : K.In s.heap) (I : PySem.W.InstAt s.heap x ox C od) (hc : PySem.W.clsIn K C = some cd) (hm : cd.mro = [.ref C, .type "object"])
    (h1 : PySem.W.findIn K (.ref C) (dunderI op.info.2) = some none) (h2 : PySem.W.findIn K (.type "object") (dunderI op.info.2) = some none)
    (h : wpAny (model prog w) A (binaryOp1 op.info.2 (.ref x) b) (fun r s' => ∃ v, r = some v ∧ Q v s') E s) : wpAny (model prog w) A (inplaceOp op (.ref x) b) Q E s := by
  unfold inplaceOp
  refine wpAny_holding (wpAny_bind (I.type.here (wpAny_bind ((noInplace Y hc hm h1 h2).here ?_))))
  simp only [Bool.false_eq_true, if_false]
  refine wpAny_bind (wpAny_mono h (fun r s' hr => ?_) fun _ _ e => e)
  obtain ⟨v, rfl, hq⟩ := hr
  exact wpAny_pure hq
end
end Hk
namespace Hk
open PySem PySem.Spec PyProof.Rows L2
theorem backC {Q : Value → Shared → Prop} {z : V} {u : Value} {s' : Shared} (r : RelV z u) (h : Q u s') : PySem.W.CmpBack Q u s' := by
  cases z with
  | non => cases r; exact h
  | bl b => cases r; exact h
  | int i => obtain ⟨t, rfl⟩ := r; exact h
  | str y => obtain ⟨t, rfl⟩ := r; exact h
  | byt y => obtain ⟨t, rfl⟩ := r; exact h
  | flt y => obtain ⟨t, rfl⟩ := r; exact h
  | ref a => cases r; exact h
  | ty n => cases r; exact h
/-- x op y: x of the class at C, y another or an int: the def's promise -/
def rBinO (C : Addr) (sp : Sp) : R2 := fun x y H Q => ∃ a dx fs, x = .ref a ∧ H a = some (.ins C dx fs) ∧ ((∃ i, y = .int i) ∨ ∃ b dy gs, y = .ref b ∧ H b = some (.ins C dy gs)) ∧ sp [x, y] H Q E0
/-- i op y, i an int -/
def rRbinO (C : Addr) (sp : Sp) : R2 := fun x y H Q => ∃ i b dy gs, x = .int i ∧ y = .ref b ∧ H b = some (.ins C dy gs) ∧ sp [y, x] H Q E0
def rUnO (C : Addr) (sp : Sp) : V → Hp → VK → Prop := fun x H Q => ∃ a dx fs, x = .ref a ∧ H a = some (.ins C dx fs) ∧ sp [x] H Q E0
/-- the class's mro is itself and object, it names no op= -/
structure NoIp (K : Fr) (C : Addr) (nm : String) : Prop where
  mro : ∃ cd, PySem.W.clsIn K C = some cd ∧ cd.mro = [.ref C, .type "object"]
  no : PySem.W.findIn K (.ref C) (dunderI nm) = some none
  noO : PySem.W.findIn K (.type "object") (dunderI nm) = some none
/-- the reflected one -/
structure RbinF (K : Fr) (C : Addr) (nm : String) (g : Addr) : Prop where
  at_ : PySem.W.findIn K (.ref C) (dunderR nm) = some (some (.ref g))
  fn : PySem.W.isFn K (.ref g) = true
  sub : PySem.W.subIn K (.ref C) (.type "int") = some false
section
variable {X : Cx} {k : Nat} {C f g : Addr} {fd : FuncData} {ps : List Str} {sp : Sp} {op : Operator}
theorem bin1_run {pins : List (Addr × Obj)} {s : Shared} {σ : L2.St} {H : Hp} {x y : V} {v u : Value} {Q : VK} (B : BinF X.K C op.info.2 f) (F : FnOk X.prog X.w X.K X.mg X.base CX0 k f fd ps sp) (hb : Binds X.K fd ps []) (hr : Room k X.A)
    (I : Inv X pins σ H s) (rx : RelV x v) (ry : RelV y u) (h : rBinO C sp x y H Q) :
    wpAny (model X.prog X.w) X.A (binaryOp1 op.info.2 v u) (fun r s' => ∃ w, r = some w ∧ EP X pins σ Q w s') X.xe s := by
  obtain ⟨a, dx, fs, rfl, ha, hy, q⟩ := h
  cases (show v = Value.ref a from rx)
  obtain ⟨mA, M, _⟩ := ins_get I.hok ha
  obtain ⟨od, J, _⟩ := M.look
  have run : wpAny (model X.prog X.w) X.A (call (.ref f) [.ref a, u]) (PySem.W.CmpBack (EP X pins σ Q)) X.xe s :=
    wpAny_mono (own_run (vs := [.ref a, y]) F hr I.env0 hb I (.cons rfl (.cons ry .nil)) q) (fun w s' z => by
      obtain ⟨z', H', I', rz, qz⟩ := id z
      exact backC rz z) fun _ _ z => z
  rcases hy with ⟨i, rfl⟩ | ⟨b, dy, gs, rfl, hb2⟩
  · obtain ⟨t, rfl⟩ := (show ∃ t, u = Value.int i t from ry)
    exact bin1_int I.kIn J B run
  · exact bin1_own I.kIn J B (TyL.looks I ry (.ins hb2)) run
theorem op_binO (B : BinF X.K C op.info.2 f) (F : FnOk X.prog X.w X.K X.mg X.base CX0 k f fd ps sp) (hb : Binds X.K fd ps []) (hr : Room k X.A) : OpR X (binaryOp op) (rBinO C sp) :=
  fun pins s σ H x y v u Q I rx ry h => bin_of1 (bin1_run B F hb hr I rx ry h)
theorem ip_binO (B : BinF X.K C op.info.2 f) (N : NoIp X.K C op.info.2) (F : FnOk X.prog X.w X.K X.mg X.base CX0 k f fd ps sp) (hb : Binds X.K fd ps []) (hr : Room k X.A) : PIp X op (rBinO C sp) := by
  intro pins s σ H x y v u Q I rx ry h
  obtain ⟨a, dx, fs, ex, ha, _⟩ := id h
  subst ex
  obtain ⟨mA, M, _⟩ := ins_get I.hok ha
  obtain ⟨od, J, _⟩ := M.look
  obtain ⟨cd, m1, m2⟩ := N.mro
  have e : v = Value.ref a := rx
  subst e
  exact ip_of1 I.kIn J m1 m2 N.no N.noO (bin1_run B F hb hr I rx ry h)
theorem op_rbinO {bi : String} (B : BinF X.K C op.info.2 f) (R : RbinF X.K C op.info.2 g) (fT : fillsNumberSlot (.type "int") op.info.2 = pure true) (slot : Slot "int" (PySem.dunder op.info.2) bi) (dec : Declines bi)
    (F : FnOk X.prog X.w X.K X.mg X.base CX0 k g fd ps sp) (hb : Binds X.K fd ps []) (hr : Room k X.A) : OpR X (binaryOp op) (rRbinO C sp) := by
  intro pins s σ H x y v u Q I rx ry h
  obtain ⟨i, b, dy, gs, rfl, rfl, ha, q⟩ := h
  obtain ⟨t, rfl⟩ := (show ∃ t, v = Value.int i t from rx)
  cases (show u = Value.ref b from ry)
  obtain ⟨mA, M, _⟩ := ins_get I.hok ha
  obtain ⟨od, J, _⟩ := M.look
  exact rbin_own I.kIn J B.self fT slot dec B.at_ R.sub R.at_ R.fn (wpAny_mono (own_run (vs := [.ref b, .int i]) F hr I.env0 hb I (.cons rfl (.cons rx .nil)) q) (fun w s' z => by
      obtain ⟨z', H', I', rz, qz⟩ := id z
      exact backC rz z) fun _ _ z => z)
theorem op_negO (O : Own X.K C "__neg__" f) (F : FnOk X.prog X.w X.K X.mg X.base CX0 k f fd ps sp) (hb : Binds X.K fd ps []) (hr : Room k X.A) : UnR X (unaryOp .USub) (rUnO C sp) := by
  intro pins s σ H x v Q I rx h
  obtain ⟨a, dx, fs, rfl, ha, q⟩ := h
  cases (show v = Value.ref a from rx)
  obtain ⟨mA, M, _⟩ := ins_get I.hok ha
  obtain ⟨od, J, _⟩ := M.look
  obtain ⟨m, hF⟩ := I.fr
  exact PySem.W.ksp_neg hF I.ok.mod.kin J O.at_ O.fn (own_run (vs := [.ref a]) F hr I.env0 hb I (.cons rfl .nil) q)
theorem call_absO (O : Own X.K C "__abs__" f) (F : FnOk X.prog X.w X.K X.mg X.base CX0 k f fd ps sp) (hb : Binds X.K fd ps []) (hr : Room (k + 1) X.A) : CallR X (.builtin "abs") (fun xs H Q => ∃ x, xs = [x] ∧ rUnO C sp x H Q) := by
  intro pins s σ H xs us Q I r h
  obtain ⟨x, rfl, a, dx, fs, rfl, ha, q⟩ := h
  obtain ⟨u, rfl, ru⟩ := r.one
  cases (show u = Value.ref a from ru)
  obtain ⟨mA, M, _⟩ := ins_get I.hok ha
  obtain ⟨od, J, _⟩ := M.look
  have r2 : Room k X.A.in1 := Room.in1 hr
  refine Calls.call_function_entry kind_abs plain_abs entry_abs (args_abs _) ?_
  unfold Builtin.«abs»
  refine wpAny_bind (m := oneArg "abs" _) (wpAny_pure ?_)
  refine wpAny_bind (m := callSpecial? (.ref a) (Str.ofString "__abs__")) (PySem.W.special_fn I.kIn J O.at_ (beq_iff_eq.mp O.fn) (wpAny_mono (own_run (vs := [.ref a]) F r2 I.env0.in1 hb I (.cons rfl .nil) q) (fun v s' z => ?_) fun _ _ z => z))
  exact wpAny_pure ⟨_, rfl, z⟩
end
/-! ### their facts -/
def tBin (x : Str) (nm : String) : Tst := fun K => PySem.W.selfFirst K (He.ga K x) && (tMeth x (PySem.dunder nm) K && ((match PySem.W.findIn K (.ref (He.ga K x)) (dunderR nm) with
    | some none => true
    | some (some (.ref _)) => true
    | _ => false) && ((PySem.W.findIn K (.type "int") (PySem.dunder nm)).isSome && ((PySem.W.findIn K (.type "int") (dunderR nm)).isSome && decide (PySem.W.subIn K (.type "int") (.ref (He.ga K x)) = some false)))))
def tRbin (x : Str) (nm : String) : Tst := fun K => tMeth x (dunderR nm) K && decide (PySem.W.subIn K (.ref (He.ga K x)) (.type "int") = some false)
def tNoIp (x : Str) (nm : String) : Tst := fun K => (match PySem.W.clsIn K (He.ga K x) with
    | some cd => decide (cd.mro = [.ref (He.ga K x), .type "object"])
    | none => false) && (He.eqO (PySem.W.findIn K (.ref (He.ga K x)) (dunderI nm)) (some none) && He.eqO (PySem.W.findIn K (.type "object") (dunderI nm)) (some none))
theorem bin_ok {K : Fr} {x : Str} {nm : String} (c : tBin x nm K = true) : BinF K (He.ga K x) nm (mAd x (PySem.dunder nm) K) := by
  obtain ⟨c1, c⟩ := He.ba c
  obtain ⟨c2, c⟩ := He.ba c
  obtain ⟨c3, c⟩ := He.ba c
  obtain ⟨c4, c⟩ := He.ba c
  obtain ⟨c5, c6⟩ := He.ba c
  have m := He.meth_ok c2
  refine ⟨c1, m.at_, m.fn, ?_, Option.isSome_iff_exists.mp c4, Option.isSome_iff_exists.mp c5, of_decide_eq_true c6⟩
  cases e : PySem.W.findIn K (.ref (He.ga K x)) (dunderR nm) with
  | none =>
    rw [e] at c3
    exact nomatch c3
  | some o =>
    rw [e] at c3
    cases o with
    | none => exact ⟨none, rfl, .inl rfl⟩
    | some v =>
      cases v with
      | ref g => exact ⟨_, rfl, .inr ⟨g, rfl⟩⟩
      | _ => exact nomatch c3
theorem rbin_ok {K : Fr} {x : Str} {nm : String} (c : tRbin x nm K = true) : RbinF K (He.ga K x) nm (mAd x (dunderR nm) K) := by
  obtain ⟨c1, c2⟩ := He.ba c
  have m := He.meth_ok c1
  exact ⟨m.at_, m.fn, of_decide_eq_true c2⟩
theorem noip_ok {K : Fr} {x : Str} {nm : String} (c : tNoIp x nm K = true) : NoIp K (He.ga K x) nm := by
  obtain ⟨c1, c⟩ := He.ba c
  obtain ⟨c2, c3⟩ := He.ba c
  refine ⟨?_, He.eqO_ok c2, He.eqO_ok c3⟩
  cases e : PySem.W.clsIn K (He.ga K x) with
  | none =>
    rw [e] at c1
    exact nomatch c1
  | some cd =>
    rw [e] at c1
    exact ⟨cd, rfl, of_decide_eq_true c1⟩
end Hk

/-! A method called by one keyword or more. -/
namespace Hk
open PySem PySem.Spec PyProof.Rows L2
def tMethK (C : Addr) (m : Str) (sp : Sp) (ta : TE) (tk : TA) : TE := fun σ H Q => ta σ H fun x H1 => ∃ a dx fs, x = .ref a ∧ H1 a = some (.ins C dx fs) ∧ fs.lookup m = none ∧ tk σ H1 fun vs H2 => sp (x :: vs) H2 Q E0
section
variable {X : Cx} {k : Nat} {C p f : Addr} {m : Str} {fd : FuncData} {p1 : Str} {ps : List Str} {sp : Sp} {o : Expr} {kws : List Keyword} {ta : TE} {tk : TA} {pos apos : Pos} {pl : Sem Bool}
theorem pe_methK (he : PE X o ta) (c : Cls X.K C) (hm : Meth X.K C m f) (F : FnOk X.prog X.w X.K X.mg X.base CX0 k f fd (p1 :: ps) sp) (hr : Room k X.A)
    (hbk : ∀ (s : Shared) (v : Value) (ws : List Value), X.K.In s.heap → ws.length = ps.length → BindsTo s fd ⟨[v], ps.zip ws⟩ ((p1 :: ps).zip (v :: ws))) (hk : PK X kws tk)
    (hall : (backToKw pos (keywordEach kws X.env)).all (·.1.isSome) = true := by rfl) (hks : (backToKw pos (keywordEach kws X.env)).filterMap (·.1) = ps := by rfl)
    (hpl : ((backTo pos (starEach [] X.env)).any (·.1) || (backToKw pos (keywordEach kws X.env)).any (·.1.isNone)) = false := by rfl)
    (ht : eval (.Call (.Attribute o m apos) [] kws pos) X.env = (do
      let ov ← eval o X.env
      standAt apos.atName
      let (f, first) ← holding [ov] (getMethod ov m pl)
      callWith pos f first (backTo pos (starEach [] X.env)) (backToKw pos (keywordEach kws X.env))) := by rfl) :
    PE X (.Call (.Attribute o m apos) [] kws pos) (tMethK C m sp ta tk) := by
  refine ⟨fun pins s σ H Q I h => PySem.W.methodCall_KW (pl := pl) (thn (he.run pins s σ H _ I h) fun u s1 hu => ?_) ht⟩
  obtain ⟨x, H1, I1, rx, a, dx, fs, ex, ea, l, q⟩ := hu
  subst ex
  obtain rfl : u = Value.ref a := rx
  refine getmeth_ok I1 ea c hm l ?_
  refine PySem.W.callWith_KW0 (first := [.ref a]) (h₀ := X.base) I.ok.mod.kin hm.kp hall (thn (hk.run pos pins s1 σ H1 _ I1 q) fun ws s2 hw => ?_) hpl
  obtain ⟨vs, H2, I2, rv, q2⟩ := hw
  have rv2 : Vals (.ref a :: vs) (.ref a :: ws) := .cons rfl rv
  have ln : ws.length = ps.length := by
    have h1 := rv2.length
    have h2 := F.len _ _ _ _ q2
    simp only [List.length_cons] at h1 h2
    omega
  refine ⟨I2.kIn, ?_⟩
  rw [hks]
  refine wpAny_call (codeAny_mono (F.run X.A X.stack s2 H2 ⟨[.ref a], ps.zip ws⟩ (.ref a :: ws) (.ref a :: vs) Q E0 hr I2.env0 (hbk s2 _ ws I2.kIn ln) rv2 q2) fun z s' hq => ?_)
  rcases z with e | fl
  · exact (show False from hq).elim
  · cases fl with
    | ret u => exact I2.after hq
    | _ => exact (show False from hq).elim
end
end Hk

/-! Fractions in lowest terms, over Int. -/
namespace NumM
def sg (b : Int) : Int := if b < 0 then -1 else 1
def gd (h b : Int) : Int := ((Nat.gcd h.natAbs b.natAbs : Nat) : Int)
def lowT (h b : Int) : Int := sg b * h / gd h b
def lowB (h b : Int) : Int := sg b * b / gd h b
theorem gd_pos {h b : Int} (hb : b ≠ 0) : 0 < gd h b := by
  have : 0 < Nat.gcd h.natAbs b.natAbs := Nat.gcd_pos_of_pos_right _ (by omega)
  unfold gd; omega
theorem gd_dvd_l (h b : Int) : gd h b ∣ h := by
  unfold gd
  exact Int.ofNat_dvd_left.mpr (Nat.gcd_dvd_left _ _)
theorem gd_dvd_r (h b : Int) : gd h b ∣ b := by
  unfold gd
  exact Int.ofNat_dvd_left.mpr (Nat.gcd_dvd_right _ _)
theorem gd_le {h b : Int} (hb : b ≠ 0) : (gd h b).natAbs ≤ b.natAbs := by
  have := Nat.gcd_le_right h.natAbs (show 0 < b.natAbs by omega)
  unfold gd; omega
theorem sg_sq (b : Int) : sg b * sg b = 1 := by unfold sg; split <;> rfl
theorem sg_mul {b : Int} (hb : b ≠ 0) : 0 < sg b * b := by unfold sg; split <;> omega
theorem natAbs_sg (b x : Int) : (sg b * x).natAbs = x.natAbs := by unfold sg; split <;> simp
theorem lowT_mul {h b : Int} : lowT h b * gd h b = sg b * h := by
  unfold lowT
  exact Int.ediv_mul_cancel (Int.dvd_mul_of_dvd_right (gd_dvd_l h b))
theorem lowB_mul {h b : Int} : lowB h b * gd h b = sg b * b := by
  unfold lowB
  exact Int.ediv_mul_cancel (Int.dvd_mul_of_dvd_right (gd_dvd_r h b))
theorem low_pos {h b : Int} (hb : b ≠ 0) : 0 < lowB h b := by
  have h1 := gd_pos (h := h) hb
  have h2 := sg_mul hb
  rw [← lowB_mul (h := h)] at h2
  exact Int.pos_of_mul_pos_left h2 (by omega)
theorem low_cop {h b : Int} (hb : b ≠ 0) : Nat.gcd (lowT h b).natAbs (lowB h b).natAbs = 1 := by
  have hp := gd_pos (h := h) hb
  have e1 : (lowT h b).natAbs * (gd h b).natAbs = h.natAbs := by rw [← Int.natAbs_mul, lowT_mul, natAbs_sg]
  have e2 : (lowB h b).natAbs * (gd h b).natAbs = b.natAbs := by rw [← Int.natAbs_mul, lowB_mul, natAbs_sg]
  have g : Nat.gcd ((lowT h b).natAbs * (gd h b).natAbs) ((lowB h b).natAbs * (gd h b).natAbs) = (gd h b).natAbs := by
    rw [e1, e2]; unfold gd; simp
  rw [Nat.gcd_mul_right] at g
  have hp' : 0 < (gd h b).natAbs := by omega
  exact Nat.eq_of_mul_eq_mul_right hp' (by rw [g, Nat.one_mul])
theorem low_eq {h b : Int} (hb : b ≠ 0) : lowT h b * b = h * lowB h b := by
  have hp := gd_pos (h := h) hb
  have e1 := lowT_mul (h := h) (b := b)
  have e2 := lowB_mul (h := h) (b := b)
  have : (lowT h b * b) * gd h b = (h * lowB h b) * gd h b := by
    calc (lowT h b * b) * gd h b = (lowT h b * gd h b) * b := by rw [Int.mul_right_comm]
      _ = (sg b * h) * b := by rw [e1]
      _ = h * (sg b * b) := by rw [Int.mul_comm (sg b) h, Int.mul_assoc]
      _ = h * (lowB h b * gd h b) := by rw [e2]
      _ = (h * lowB h b) * gd h b := by rw [Int.mul_assoc]
  exact Int.eq_of_mul_eq_mul_right (by omega) this
theorem uniq {t b u c : Int} (hb : 0 < b) (hc : 0 < c) (h1 : Nat.gcd t.natAbs b.natAbs = 1) (h2 : Nat.gcd u.natAbs c.natAbs = 1) (e : t * c = u * b) : t = u ∧ b = c := by
  have en : t.natAbs * c.natAbs = u.natAbs * b.natAbs := by rw [← Int.natAbs_mul, ← Int.natAbs_mul, e]
  have d1 : b.natAbs ∣ c.natAbs := by
    have : b.natAbs ∣ t.natAbs * c.natAbs := ⟨u.natAbs, by rw [en, Nat.mul_comm]⟩
    exact Nat.Coprime.dvd_of_dvd_mul_left (show Nat.Coprime b.natAbs t.natAbs by unfold Nat.Coprime; rw [Nat.gcd_comm]; exact h1) this
  have d2 : c.natAbs ∣ b.natAbs := by
    have : c.natAbs ∣ u.natAbs * b.natAbs := ⟨t.natAbs, by rw [← en, Nat.mul_comm]⟩
    exact Nat.Coprime.dvd_of_dvd_mul_left (show Nat.Coprime c.natAbs u.natAbs by unfold Nat.Coprime; rw [Nat.gcd_comm]; exact h2) this
  have ebc : b.natAbs = c.natAbs := Nat.dvd_antisymm d1 d2
  have bc : b = c := by omega
  subst bc
  exact ⟨Int.eq_of_mul_eq_mul_right (by omega) e, rfl⟩
theorem low_of {h b t c : Int} (hb : b ≠ 0) (hc : 0 < c) (h1 : Nat.gcd t.natAbs c.natAbs = 1) (e : t * b = h * c) : lowT h b = t ∧ lowB h b = c := by
  have l := low_eq (h := h) hb
  refine uniq (low_pos hb) hc (low_cop hb) h1 ?_
  have : (lowT h b * c) * b = (t * lowB h b) * b := by
    calc (lowT h b * c) * b = (lowT h b * b) * c := by rw [Int.mul_right_comm]
      _ = h * lowB h b * c := by rw [l]
      _ = (h * c) * lowB h b := by rw [Int.mul_right_comm]
      _ = (t * b) * lowB h b := by rw [e]
      _ = (t * lowB h b) * b := by rw [Int.mul_right_comm]
  exact Int.eq_of_mul_eq_mul_right hb this
theorem low_red {t b : Int} (hb : 0 < b) (h1 : Nat.gcd t.natAbs b.natAbs = 1) : lowT t b = t ∧ lowB t b = b := low_of (by omega) hb h1 rfl
theorem low_mul {h b m : Int} (hb : b ≠ 0) (hm : m ≠ 0) : lowT (h * m) (b * m) = lowT h b ∧ lowB (h * m) (b * m) = lowB h b := by
  refine low_of (Int.mul_ne_zero hb hm) (low_pos hb) (low_cop hb) ?_
  rw [← Int.mul_assoc, low_eq hb, Int.mul_right_comm]
theorem natAbs_le_of_mul {x g y : Int} (hg : 0 < g) (e : x * g = y) : x.natAbs ≤ y.natAbs := by
  rw [← e, Int.natAbs_mul]
  exact Nat.le_mul_of_pos_right _ (by omega)
theorem lowT_le {h b : Int} (hb : b ≠ 0) : (lowT h b).natAbs ≤ h.natAbs := by
  have := natAbs_le_of_mul (gd_pos (h := h) hb) (lowT_mul (h := h) (b := b))
  rwa [natAbs_sg] at this
theorem lowB_le {h b : Int} (hb : b ≠ 0) : (lowB h b).natAbs ≤ b.natAbs := by
  have := natAbs_le_of_mul (gd_pos (h := h) hb) (lowB_mul (h := h) (b := b))
  rwa [natAbs_sg] at this
/-- what __init__ divides by -/
def shr (h b : Int) : Int := if b < 0 then -(gd h b) else gd h b
theorem shr_eq (h b : Int) : shr h b = sg b * gd h b := by unfold shr sg; split <;> simp
theorem fdiv_of {x y z : Int} (hy : y ≠ 0) (e : x = z * y) : x.fdiv y = z := by
  rw [e]
  exact Int.mul_fdiv_cancel _ hy
theorem init_top {h b : Int} (hb : b ≠ 0) : h.fdiv (shr h b) = lowT h b := by
  have hp := gd_pos (h := h) hb
  refine fdiv_of (by rw [shr_eq]; unfold sg; split <;> omega) ?_
  rw [shr_eq, Int.mul_comm (sg b), ← Int.mul_assoc, lowT_mul, Int.mul_right_comm, sg_sq, Int.one_mul]
theorem init_bot {h b : Int} (hb : b ≠ 0) : b.fdiv (shr h b) = lowB h b := by
  have hp := gd_pos (h := h) hb
  refine fdiv_of (by rw [shr_eq]; unfold sg; split <;> omega) ?_
  rw [shr_eq, Int.mul_comm (sg b), ← Int.mul_assoc, lowB_mul, Int.mul_right_comm, sg_sq, Int.one_mul]
theorem shr_ne {h b : Int} (hb : b ≠ 0) : shr h b ≠ 0 := by
  have hp := gd_pos (h := h) hb
  rw [shr_eq]; unfold sg; split <;> omega
theorem shr_le {h b : Int} (hb : b ≠ 0) : (shr h b).natAbs ≤ b.natAbs := by
  rw [shr_eq, natAbs_sg]; exact gd_le hb
end NumM

/-! The texts of ints and fractions, as lists of codes. -/
namespace NumT
open PySem PySem.Spec PyProof.Rows L2 SX
open TL (numL)
def iL (z : Int) : List Nat := if z < 0 then 45 :: numL z.natAbs else numL z.natAbs
theorem toS (z : Int) : ((toString z : String) : Str) = S (iL z) := by
  unfold iL
  by_cases h : z < 0
  · rw [if_pos h]
    obtain ⟨n, rfl⟩ : ∃ n : Nat, z = -((n : Nat) : Int) := ⟨z.natAbs, by omega⟩
    have hn : 0 < n := by omega
    obtain ⟨m, rfl⟩ : ∃ m, n = m + 1 := ⟨n - 1, by omega⟩
    have e : (toString (-(((m + 1 : Nat)) : Int)) : String) = "-" ++ toString (((m + 1 : Nat) : Nat) : Int) := rfl
    have e2 : ((-(((m + 1 : Nat)) : Int)).natAbs) = m + 1 := by omega
    rw [e2]
    show Str.ofString (toString (-(((m + 1 : Nat)) : Int))) = _
    rw [e]
    have e3 := TL.tl_num (m + 1)
    refine TL.ext_tl ?_
    show (Str.ofString ("-" ++ toString (((m + 1 : Nat)) : Int))).cps.toList = _
    have e4 : (Str.ofString ("-" ++ toString (((m + 1 : Nat)) : Int))).cps.toList = 45 :: (Str.ofString (toString (((m + 1 : Nat)) : Int))).cps.toList := by
      simp [Str.ofString]
      rfl
    rw [e4]
    exact congrArg (45 :: ·) e3
  · rw [if_neg h]
    obtain ⟨n, rfl⟩ : ∃ n : Nat, z = ((n : Nat) : Int) := ⟨z.natAbs, by omega⟩
    exact num_S n
theorem iL_free {z : Int} : 47 ∉ iL z := by
  unfold iL
  split
  · intro h
    rcases List.mem_cons.mp h with h | h
    · cases h
    · exact TL.numL_free (by decide) h
  · exact TL.numL_free (by decide)
theorem numL_all (n : Nat) : NumText.AllDigits (numL n) := TL.numL_digits n
theorem pre_one {c d : Nat} {r : List Nat} : TL.pre [c] (d :: r) = decide (c = d) := by
  by_cases h : c = d
  · rw [decide_eq_true h]
    subst h
    simp [TL.pre]
  · rw [decide_eq_false h]
    have h2 : ¬ d = c := fun e => h e.symm
    simp [TL.pre, h, h2]
theorem par_none (c : Nat) : ∀ (a acc : List Nat), c ∉ a → TL.par [c] acc a = none
  | [], _, _ => rfl
  | d :: r, acc, h => by
    have hd : ¬ c = d := fun e => h (by rw [e]; exact List.mem_cons_self)
    show (if TL.pre [c] (d :: r) = true then _ else _) = _
    rw [pre_one, decide_eq_false hd, if_neg Bool.false_ne_true]
    exact par_none c r _ fun z => h (List.mem_cons_of_mem _ z)
theorem par_some (c : Nat) (q : List Nat) : ∀ (a acc : List Nat), c ∉ a → TL.par [c] acc (a ++ c :: q) = some (acc ++ a, q)
  | [], acc, _ => by
    show (if TL.pre [c] (c :: q) = true then _ else _) = _
    rw [pre_one, decide_eq_true rfl, if_pos rfl]
    simp
  | d :: r, acc, h => by
    have hd : ¬ c = d := fun e => h (by rw [e]; exact List.mem_cons_self)
    rw [List.cons_append]
    show (if TL.pre [c] (d :: (r ++ c :: q)) = true then _ else TL.par [c] (acc ++ [d]) (r ++ c :: q)) = _
    rw [pre_one, decide_eq_false hd, if_neg Bool.false_ne_true, par_some c q r _ fun z => h (List.mem_cons_of_mem _ z)]
    simp
theorem part_none {a : List Nat} (h : 47 ∉ a) : Txt.partition (S a) (S [47]) = (S a, S [], S []) := partition_none (by simp) (par_none 47 a [] h)
theorem part_some {a q : List Nat} (h : 47 ∉ a) : Txt.partition (S (a ++ 47 :: q)) (S [47]) = (S a, S [47], S q) := partition_some (by simp) (par_some 47 q a [] h)
theorem slash_S : ("/" : Str) = S [47] := by decide +kernel
theorem minus_S : ("-" : Str) = S [45] := by decide +kernel
/-- digits, and at least one -/
def dig (a : List Nat) : Bool := !a.isEmpty && a.all (fun c => decide (48 ≤ c) && decide (c ≤ 57))
theorem ascii_S (a : List Nat) : Txt.isascii (S a) = a.all (fun c => decide (c < 128)) := by
  show (S a).cps.all (· < 128) = _
  rw [← Array.all_toList]
theorem digit_S {a : List Nat} (h : a.all (fun c => decide (c < 128)) = true) : Txt.isdigit (S a) = dig a := by
  have e : Txt.isdigit (S a) = (decide ((S a).length > 0) && (S a).cps.all Unicode.isDigit) := rfl
  rw [e, ← Array.all_toList, S_len]
  show (decide (a.length > 0) && a.all Unicode.isDigit) = _
  unfold dig
  have e1 : decide (a.length > 0) = !a.isEmpty := by cases a <;> simp
  rw [e1]
  congr 1
  have hall : ∀ c ∈ a, c < 128 := fun c hc => of_decide_eq_true (List.all_eq_true.mp h c hc)
  clear h e e1
  induction a with
  | nil => rfl
  | cons c r ih =>
    have k : ∀ n : _root_.Fin 128, Unicode.isDigit n.val = (decide (48 ≤ n.val) && decide (n.val ≤ 57)) := by decide +kernel
    rw [List.all_cons, List.all_cons, ih fun d hd => hall d (List.mem_cons_of_mem _ hd), k ⟨c, hall c List.mem_cons_self⟩]
/-- isascii and isdigit together -/
theorem both_S (a : List Nat) : (Txt.isascii (S a) && Txt.isdigit (S a)) = dig a := by
  rw [ascii_S]
  cases h : a.all (fun c => decide (c < 128)) with
  | true => rw [Bool.true_and]; exact digit_S h
  | false =>
    rw [Bool.false_and]
    cases q : dig a with
    | false => rfl
    | true =>
      unfold dig at q
      have q2 := (Bool.and_eq_true_iff.mp q).2
      have : a.all (fun c => decide (c < 128)) = true := List.all_eq_true.mpr fun c hc => by
        have z := List.all_eq_true.mp q2 c hc
        rw [Bool.and_eq_true, decide_eq_true_eq, decide_eq_true_eq] at z
        exact decide_eq_true (by omega)
      rw [this] at h
      exact nomatch h
theorem dig_num (n : Nat) : dig (numL n) = true := by
  unfold dig
  have h1 := TL.numL_ne n
  have h2 := numL_all n
  rw [Bool.and_eq_true]
  refine ⟨by cases e : numL n with
    | nil => exact absurd e h1
    | cons => rfl, List.all_eq_true.mpr fun c hc => ?_⟩
  have := h2 c hc
  rw [Bool.and_eq_true, decide_eq_true_eq, decide_eq_true_eq]
  exact this
theorem dig_all {a : List Nat} (h : dig a = true) : NumText.AllDigits a ∧ a ≠ [] := by
  unfold dig at h
  obtain ⟨h1, h2⟩ := Bool.and_eq_true_iff.mp h
  refine ⟨fun c hc => ?_, by rintro rfl; exact nomatch h1⟩
  have z := List.all_eq_true.mp h2 c hc
  rw [Bool.and_eq_true, decide_eq_true_eq, decide_eq_true_eq] at z
  exact z
/-- removeprefix('-') -/
def unsig : List Nat → List Nat
  | 45 :: r => r
  | a => a
theorem rmp_S (a : List Nat) (ha : a ≠ [45]) : Txt.removeprefix (S a) (S [45]) = S (unsig a) := by
  rw [StrLaws.removeprefix_eq]
  have e : ∀ l : List Nat, Builtin.Str.subAt (S l) (S [45]) 0 = (match l with
    | c :: _ => decide (45 = c)
    | [] => false) := fun l => by
    rw [StrLaws.subAt_eq]
    cases l with
    | nil => decide +kernel
    | cons c r =>
      show (((c :: r).drop 0).take 1 == [45]) = _
      simp [eq_comm]
      try rfl
  cases a with
  | nil => decide +kernel
  | cons c r =>
    rw [e (c :: r)]
    have hl : decide (0 + (S [45]).length ≤ (S (c :: r)).length) = true := by
      rw [S_len, S_len]
      simp
    rw [hl, Bool.true_and]
    by_cases h : 45 = c
    · subst h
      show (if decide ((45 : Nat) = 45) = true then _ else _) = _
      rw [if_pos (by decide)]
      refine TL.ext_tl ?_
      show (((45 :: r).drop (S [45]).length).take ((S (45 :: r)).length - (S [45]).length)) = r
      rw [S_len, S_len]
      simp
    · have hu : unsig (c :: r) = c :: r := by
        unfold unsig
        split
        · rename_i z
          have := (List.cons.inj z).1
          exact absurd this.symm h
        · rfl
      show (if decide (45 = c) = true then _ else _) = _
      rw [decide_eq_false h, if_neg Bool.false_ne_true, hu]
theorem unsig_i (z : Int) : unsig (iL z) = numL z.natAbs := by
  unfold iL
  split
  · rfl
  · have h := numL_all z.natAbs
    cases e : numL z.natAbs with
    | nil => rfl
    | cons c r =>
      have := h c (by rw [e]; exact List.mem_cons_self)
      unfold unsig
      split
      · rename_i z
        have := (List.cons.inj z).1
        omega
      · rfl
theorem iL_ne45 (z : Int) : iL z ≠ [45] := fun h => by
  have e := unsig_i z
  rw [h] at e
  exact TL.numL_ne _ e.symm
theorem num_len {n : Nat} (h : n < 2 ^ 1000) : (numL n).length ≤ 302 := TL.numL_len (by decide) (Nat.lt_of_lt_of_le h (by decide +kernel))
theorem i_len {z : Int} (h : z.natAbs < 2 ^ 1000) : (iL z).length ≤ 303 := by
  unfold iL
  have := num_len h
  split
  · rw [List.length_cons]; omega
  · omega
theorem int_i {z : Int} (h : z.natAbs < 2 ^ 1000) : intText? (S (iL z)) = some z := by
  have hl := num_len h
  unfold iL
  split
  · rename_i hz
    have e := PySem.intText_neg (x := S (45 :: numL z.natAbs)) (cs := numL z.natAbs) rfl (numL_all _) (TL.numL_ne _) (by rw [S_len, List.length_cons]; omega)
    rw [TL.numL_val] at e
    rw [e]
    congr 1
    omega
  · rename_i hz
    have e := PySem.intText_digits (x := S (numL z.natAbs)) (numL_all _) (TL.numL_ne _) (by rw [S_len]; omega)
    have e2 : (S (numL z.natAbs)).cps.toList = numL z.natAbs := rfl
    rw [e2, TL.numL_val] at e
    rw [e]
    congr 1
    omega
/-- the text of a fraction -/
def fL (t b : Int) : List Nat := if b = 1 then iL t else iL t ++ 47 :: iL b
theorem iL_inj {x y : Int} (h : iL x = iL y) : x = y := by
  have hu := congrArg unsig h
  rw [unsig_i, unsig_i] at hu
  have e := TL.numL_inj hu
  by_cases hx : x < 0 <;> by_cases hy : y < 0
  · omega
  · exfalso
    unfold iL at h
    rw [if_pos hx, if_neg hy] at h
    have := numL_all y.natAbs 45 (by rw [← h]; exact List.mem_cons_self)
    omega
  · exfalso
    unfold iL at h
    rw [if_neg hx, if_pos hy] at h
    have := numL_all x.natAbs 45 (by rw [h]; exact List.mem_cons_self)
    omega
  · omega
theorem f_len {t b : Int} (h1 : t.natAbs < 2 ^ 1000) (h2 : b.natAbs < 2 ^ 1000) : (fL t b).length ≤ 610 := by
  have a := i_len h1
  have c := i_len h2
  unfold fL
  split
  · omega
  · rw [List.length_append, List.length_cons]; omega
theorem fL_inj {t b u c : Int} (h : fL t b = fL u c) : t = u ∧ b = c := by
  unfold fL at h
  by_cases hb : b = 1 <;> by_cases hc : c = 1
  · rw [if_pos hb, if_pos hc] at h
    exact ⟨iL_inj h, by omega⟩
  · rw [if_pos hb, if_neg hc] at h
    exact absurd (by rw [h]; simp) (iL_free (z := t))
  · rw [if_neg hb, if_pos hc] at h
    exact absurd (by rw [← h]; simp) (iL_free (z := u))
  · rw [if_neg hb, if_neg hc] at h
    have p1 := par_some 47 (iL b) (iL t) [] iL_free
    have p2 := par_some 47 (iL c) (iL u) [] iL_free
    rw [h, p2] at p1
    have := Prod.mk.inj (Option.some.inj p1)
    exact ⟨(iL_inj this.1).symm, (iL_inj this.2).symm⟩
end NumT

namespace Hk
open PySem PySem.Spec PyProof.Rows L2 NumM NumT SX
/-- codes below 128 -/
def Asc (x : Str) : Prop := ∀ c ∈ x.cps.toList, c < 128
theorem Asc.app {x y : Str} (h : Asc x) (g : Asc y) : Asc (x ++ y) := fun c hc => by
  rw [show (x ++ y).cps.toList = x.cps.toList ++ y.cps.toList from TL.tl_append x y] at hc
  rcases List.mem_append.mp hc with z | z
  · exact h c z
  · exact g c z
theorem Asc.ok {x : Str} (h : Asc x) : PyData.strOk x = true := by
  unfold PyData.strOk
  rw [← Array.all_toList, List.all_eq_true]
  intro c hc
  have := h c hc
  exact decide_eq_true (by omega)
theorem char_asc (q c : Nat) (hq : q = 39 ∨ q = 34) (hc : c < 128) : ∀ d ∈ Builtin.Str.reprChar q c, d < 128 := by
  have k : ∀ n : _root_.Fin 128, ((Builtin.Str.reprChar 39 n.val).all (fun d => decide (d < 128)) && (Builtin.Str.reprChar 34 n.val).all (fun d => decide (d < 128))) = true := by decide +kernel
  have h := k ⟨c, hc⟩
  obtain ⟨h1, h2⟩ := Bool.and_eq_true_iff.mp h
  intro d hd
  rcases hq with rfl | rfl
  · exact of_decide_eq_true (List.all_eq_true.mp h1 d hd)
  · exact of_decide_eq_true (List.all_eq_true.mp h2 d hd)
theorem fold_asc (q : Nat) (hq : q = 39 ∨ q = 34) : ∀ (l : List Nat) (acc : Array Nat), (∀ c ∈ l, c < 128) → (∀ c ∈ acc.toList, c < 128) → ∀ c ∈ (l.foldl (fun out c => out ++ (Builtin.Str.reprChar q c).toArray) acc).toList, c < 128
  | [], acc, _, h => h
  | x :: r, acc, hl, h => by
    rw [List.foldl_cons]
    refine fold_asc q hq r _ (fun c hc => hl c (List.mem_cons_of_mem _ hc)) fun c hc => ?_
    rw [Array.toList_append] at hc
    rcases List.mem_append.mp hc with z | z
    · exact h c z
    · exact char_asc q x hq (hl x List.mem_cons_self) c (by simpa using z)
theorem repr_asc {x : Str} (h : Asc x) : Asc (reprText x) := by
  have hq : reprQuote x = 39 ∨ reprQuote x = 34 := by
    unfold reprQuote
    split <;> simp
  intro c hc
  unfold reprText at hc
  rw [Array.toList_push] at hc
  rcases List.mem_append.mp hc with z | z
  · rw [← Array.foldl_toList] at z
    refine fold_asc _ hq x.cps.toList _ h (fun d hd => ?_) c z
    have : d = reprQuote x := by simpa using hd
    rw [this]
    rcases hq with e | e <;> rw [e] <;> decide
  · have : c = reprQuote x := by simpa using z
    rw [this]
    rcases hq with e | e <;> rw [e] <;> decide
theorem lit_asc {x : Str} (h : x.cps.toList.all (fun c => decide (c < 128)) = true) : Asc x := fun c hc => of_decide_eq_true (List.all_eq_true.mp h c hc)
theorem join_asc {s : Str} {ts : List Str} (hs : Asc s) (h : ∀ t ∈ ts, Asc t) : Asc (Str.join s ts) := fun c hc => by
  rcases (mem_join s c ts).mp hc with ⟨t, ht, z⟩ | ⟨_, z⟩
  · exact h t ht c z
  · exact hs c z
theorem S_asc {a : List Nat} (h : ∀ c ∈ a, c < 128) : Asc (S a) := h
theorem int_asc (i : Int) : Asc ((toString i : String) : Str) := by
  rw [toS]
  intro c hc
  have hc : c ∈ iL i := hc
  unfold iL at hc
  split at hc
  · rcases List.mem_cons.mp hc with h | h
    · omega
    · have := numL_all _ c h; omega
  · have := numL_all _ c hc; omega
mutual
/-- all texts in it have codes below 128 -/
def ascD : PyData → Prop
  | .str x => Asc x
  | .list xs => ascDs xs
  | .tuple xs => ascDs xs
  | .dict _ => False
  | _ => True
def ascDs : List PyData → Prop
  | [] => True
  | x :: xs => ascD x ∧ ascDs xs
end
mutual
theorem shown_asc : ∀ d : PyData, ascD d → Asc d.shown
  | .none, _ => lit_asc (by decide +kernel)
  | .bool b, _ => by cases b <;> exact lit_asc (by decide +kernel)
  | .int i, _ => by rw [PyData.shown_int]; exact int_asc i
  | .str x, h => by
    rw [PyData.shown_str]
    simp only [ascD] at h
    exact repr_asc h
  | .list xs, h => by
    simp only [ascD] at h
    rw [PyData.shown_list]
    exact ((lit_asc (by decide +kernel)).app (join_asc (lit_asc (by decide +kernel)) (shownAll_asc xs h))).app (lit_asc (by decide +kernel))
  | .tuple xs, h => by
    simp only [ascD] at h
    rw [PyData.shown_tuple]
    refine ((lit_asc (by decide +kernel)).app (join_asc (lit_asc (by decide +kernel)) (shownAll_asc xs h))).app ?_
    split <;> exact lit_asc (by decide +kernel)
  | .dict _, h => by simp only [ascD] at h
theorem shownAll_asc : ∀ xs : List PyData, ascDs xs → ∀ t ∈ PyData.shownAll xs, Asc t
  | [], _ => by
    rw [PyData.shownAll_nil]
    intro t ht
    exact absurd ht (List.not_mem_nil)
  | x :: xs, h => by
    simp only [ascDs] at h
    rw [PyData.shownAll_cons]
    intro t ht
    rcases List.mem_cons.mp ht with e | e
    · rw [e]; exact shown_asc x h.1
    · exact shownAll_asc xs h.2 t e
end
end Hk

/-! Numbers: what stands at an instance, promises, texts. -/
namespace Hk
open PySem PySem.Spec PyProof.Rows L2 NumM
/-! ### the class Number: data, promises -/
def numF (t b : Int) : List (Str × V) := [("_top", .int t), ("_bottom", .int b)]
theorem ktb : ¬ (("_top" : Str) = "_bottom") := by decide +kernel
theorem numF_eq (t b : Int) : putF "_bottom" (.int b) (putF "_top" (.int t) []) = numF t b := by
  show (if ("_top" : Str) = "_bottom" then [(("_top" : Str), V.int b)] else (("_top" : Str), V.int t) :: putF "_bottom" (V.int b) []) = numF t b
  rw [if_neg ktb]
  rfl
theorem numF_top (t b : Int) : (numF t b).lookup ("_top" : Str) = some (.int t) := by
  rw [← numF_eq, lookup_putF, if_neg ktb, lookup_putF, if_pos rfl]
theorem numF_bot (t b : Int) : (numF t b).lookup ("_bottom" : Str) = some (.int b) := by
  rw [← numF_eq, lookup_putF, if_pos rfl]
/-- a Number in lowest terms stands at p -/
structure NumAt (C : Addr) (H : Hp) (p : Addr) (t b : Int) : Prop where
  at_ : ∃ dx, H p = some (.ins C dx (numF t b))
  pos : 0 < b
  cop : Nat.gcd t.natAbs b.natAbs = 1
theorem NumAt.same {C : Addr} {H H' : Hp} {p : Addr} {t b : Int} (n : NumAt C H p t b) (s : Same H H') : NumAt C H' p t b := by
  obtain ⟨dx, h⟩ := n.at_
  exact ⟨⟨dx, s _ _ h⟩, n.pos, n.cop⟩
/-- sizes: numbers of this many bits -/
abbrev Sz (n : Int) : Prop := n.natAbs < 2 ^ 1000
def spInit (C : Addr) : Sp := fun vs H Q _ => ∃ (p dx : Addr) (h b : Int), vs = [.ref p, .int h, .int b] ∧ H p = some (.ins C dx []) ∧ b ≠ 0 ∧ Sz b ∧ Q .non (upd H p (.ins C dx (numF (lowT h b) (lowB h b))))
/-- a reader of a Number -/
def spGet (C : Addr) (g : Int → Int → V) : Sp := fun vs H Q _ => ∃ (p : Addr) (t b : Int), vs = [.ref p] ∧ NumAt C H p t b ∧ Sz t ∧ Sz b ∧ Q (g t b) H
def sgn (t : Int) : Int := if t = 0 then 0 else if 0 < t then 1 else -1
def txt (t b : Int) : Str := if b = 1 then ((toString t : String) : Str) else ((toString t : String) : Str) ++ ("/" : Str) ++ ((toString b : String) : Str)
/-- __eq__ -/
def spEq (C : Addr) (K : Fr) : Sp := fun vs H Q _ => ∃ (p : Addr) (t b : Int) (y : V), vs = [.ref p, y] ∧ NumAt C H p t b ∧
  ((∃ q u c, y = .ref q ∧ NumAt C H q u c ∧ Q (.bl (decide (t = u) && decide (b = c))) H) ∨ (∃ ty, TyX K H y ty ∧ PySem.W.kitOne K ty (.ref C) = some false ∧ Q (.bl false) H))
def spIsInt : Sp := fun vs H Q _ => ∃ i : Int, vs = [.int i] ∧ Q (.bl true) H
section
variable {X : Cx}
/-- // by any divisor below 2 ^ 9000 -/
def CDivG (_ j : Int) : Prop := j ≠ 0 ∧ j.natAbs.log2 < 9000
theorem op_fdivG : OpR X (binaryOp .FloorDiv) (rI CDivG fun i j => .int (i.fdiv j)) := opI fun _ _ _ _ _ _ _ hc q => floordiv_int hc.1 q (.inl (PyProof.noPylong_of_log2 hc.2))
end
theorem log2_sz {i : Int} (h : Sz i) : i.natAbs.log2 < 1000 := PySem.Flt.log2_lt_of (by decide) h
end Hk
namespace Hk
open PySem PySem.Spec PyProof.Rows L2 NumM NumT SX
theorem empty_S : Str.empty = S [] := by decide +kernel
theorem log2_small {i : Int} (h : Sz i) : i.natAbs.log2 < 1920 := Nat.lt_trans (log2_sz h) (by decide)
theorem line_ge {n : Nat} (h : n ≤ 100000) : n ≤ sizeLine := Nat.le_trans h (by decide)
end Hk
namespace Hk
open PySem PySem.Spec PyProof.Rows L2 NumM NumT SX
/-- a promise about one text -/
def spDigits : Sp := fun vs H Q _ => ∃ a : List Nat, vs = [.str (S a)] ∧ Q (.bl (dig a)) H
end Hk
namespace Hk
open PySem PySem.Spec PyProof.Rows L2 NumM NumT SX
/-- a new Number comes back -/
abbrev NewNum (C : Addr) (H : Hp) (Q : VK) (t b : Int) : Prop := ∀ (H' : Hp) (p : Addr), Same H H' → H p = none → NumAt C H' p t b → Q (.ref p) H'
/-- a text of a fraction in lowest terms is read -/
def spRead (C : Addr) : Sp := fun vs H Q _ => ∃ t b : Int, vs = [.str (S (fL t b))] ∧ 0 < b ∧ Nat.gcd t.natAbs b.natAbs = 1 ∧ Sz t ∧ Sz b ∧ NewNum C H Q t b
theorem truS {K : Fr} {H : Hp} {a : List Nat} (h : a.length ≤ 100000) : TruV K (.str (S a)) H (!a.isEmpty) := by
  refine ⟨by rw [S_len]; exact line_ge h, ?_⟩
  rw [S_len]
  cases a with
  | nil => rfl
  | cons c r => rfl
/-- an instance is laid: it and its dict are new -/
theorem laid_same {H : Hp} {x dx C : Addr} {fs : List (Str × V)} (nx : H x = none) (nd : H dx = none) : Same H (upd (upd (upd H dx (.own x)) x (.ins C dx [])) x (.ins C dx fs)) := by
  intro b o e
  rw [upd_upd, upd_ne (ne_of_none e nx), upd_ne (ne_of_none e nd)]
  exact e
theorem same_upd {H : Hp} {p : Addr} {o : HO} (h : H p = none) : Same H (upd H p o) := fun b u e => by
  rw [upd_ne (ne_of_none e h)]
  exact e
theorem same_upd' {H H1 : Hp} {p : Addr} {o : HO} (s : Same H H1) (h : H p = none) : Same H (upd H1 p o) := fun b u e => by
  rw [upd_ne (ne_of_none e h)]
  exact s b u e
/-- a call of the class with its two arguments: what __init__ promises of it -/
theorem mk_num {C : Addr} {H : Hp} {Q : VK} {h b : Int} (hb : b ≠ 0) (sb : Sz b) (k : NewNum C H Q (lowT h b) (lowB h b)) : ∀ x dx, H x = none → H dx = none → dx ≠ x →
    spInit C [.ref x, .int h, .int b] (upd (upd H dx (.own x)) x (.ins C dx [])) (fun v H2 => v = .non ∧ Q (.ref x) H2) E0 := by
  intro x dx nx nd ne
  refine ⟨x, dx, h, b, rfl, upd_same, hb, sb, rfl, ?_⟩
  exact k _ x (laid_same nx nd) nx ⟨⟨dx, upd_same⟩, low_pos hb, low_cop hb⟩
end Hk
namespace Hk
open PySem PySem.Spec PyProof.Rows L2 NumM NumT SX
theorem map_int_get {ns : List Int} {j : Nat} (h : j < ns.length) : ∃ n : Int, ns[j]? = some n ∧ atI (ns.map V.int) ((j : Nat) : Int) = some (V.int n) := by
  refine ⟨ns[j], by simp [h], ?_⟩
  refine atI_nat ?_
  rw [List.getElem?_map]
  simp [h]
end Hk
namespace Hk
open PySem PySem.Spec PyProof.Rows L2 NumM NumT SX
theorem iL_small (z : Int) : ∀ c ∈ iL z, c < 128 := fun c hc => by
  unfold iL at hc
  split at hc
  · rcases List.mem_cons.mp hc with h | h
    · omega
    · have := numL_all _ c h; omega
  · have := numL_all _ c hc; omega
theorem fL_small (t b : Int) : ∀ c ∈ fL t b, c < 128 := fun c hc => by
  unfold fL at hc
  split at hc
  · exact iL_small _ c hc
  · rcases List.mem_append.mp hc with h | h
    · exact iL_small _ c h
    · rcases List.mem_cons.mp h with h | h
      · omega
      · exact iL_small _ c h
/-- repr of a Number, by its codes -/
def rL (t b : Int) : List Nat := [78, 117, 109, 98, 101, 114, 40] ++ fL t b ++ [41]
theorem repr_S (t b : Int) : ("Number(" : Str) ++ S (fL t b) ++ (")" : Str) = S (rL t b) := by
  have e1 : ("Number(" : Str) = S [78, 117, 109, 98, 101, 114, 40] := by decide +kernel
  have e2 : (")" : Str) = S [41] := by decide +kernel
  rw [e1, e2, S_cat, S_cat]
  rfl
theorem rL_small (t b : Int) : ∀ c ∈ rL t b, c < 128 := fun c hc => by
  unfold rL at hc
  rcases List.mem_append.mp hc with h | h
  · rcases List.mem_append.mp h with h | h
    · exact (by decide : ∀ c ∈ [78, 117, 109, 98, 101, 114, 40], c < 128) c h
    · exact fL_small _ _ c h
  · rw [List.mem_singleton.mp h]; decide
/-- what is shown of a Number -/
def seenD (t b : Int) : PyData := .list [.int t, .int b, .int (sgn t), .str (S (fL t b)), .str (S (rL t b)), .bool true]
def seenT (t b : Int) : Str := (seenD t b).shown
theorem sgn_sz (t : Int) : Sz (sgn t) := by
  unfold sgn
  split
  · decide +kernel
  · split <;> decide +kernel
theorem show_int {i : Int} (h : Sz i) : (PyData.int i).showable = true := by
  simp only [PyData.showable, decide_eq_true_eq]
  exact log2_small h
theorem short_int {i : Int} (h : Sz i) : (PyData.int i).leavesShort 320 = true := by
  simp only [PyData.leavesShort, decide_eq_true_eq]
  rw [PyData.shown_int, toS, S_len]
  have := i_len h
  omega
theorem short_S {a : List Nat} (h : ∀ c ∈ a, c < 128) : (PyData.str (S a)).leavesShort 320 = true := by
  simp only [PyData.leavesShort, List.all_eq_true, decide_eq_true_eq]
  intro c hc
  exact Nat.lt_trans (h c hc) (by decide)
theorem seen_ok {t b : Int} (st : Sz t) (sb : Sz b) : (seenD t b).showable = true ∧ (seenD t b).depth ≤ 60 ∧ (seenD t b).shown.length ≤ sizeLine := by
  have l := f_len st sb
  refine ⟨?_, ?_, ?_⟩
  · unfold seenD
    have a := show_int st
    have c := show_int sb
    have d := show_int (sgn_sz t)
    simp only [PyData.showable, PyData.showableAll] at a c d ⊢
    simp [a, c, d]
  · unfold seenD
    simp [PyData.depth, PyData.depthAll]
  · have h := PyData.shown_le_bulk 320 (by decide) (seenD t b) (by
      have a := short_int st
      have c := short_int sb
      have d := short_int (sgn_sz t)
      have e := short_S (fL_small t b)
      have f := short_S (rL_small t b)
      have g : (PyData.bool true).leavesShort 320 = true := rfl
      unfold seenD
      simp only [PyData.leavesShort, PyData.leavesShortAll] at a c d e f g ⊢
      simp [a, c, d, e, f])
    have hb : (seenD t b).bulk ≤ 2000 := by
      unfold seenD
      simp only [PyData.bulk, PyData.bulkAll]
      have e1 : (S (fL t b)).cps.size = (fL t b).length := by simp
      have e2 : (S (rL t b)).cps.size = (fL t b).length + 8 := by simp [rL]
      rw [e1, e2]
      omega
    rw [sizeLine_eq]
    have : 322 * (seenD t b).bulk ≤ 322 * 2000 := Nat.mul_le_mul (Nat.le_refl _) hb
    omega
theorem dp_seen {K : Fr} {H : Hp} {p : Addr} {t b z : Int} (hz : z = sgn t) (h : H p = some (.lst [.int t, .int b, .int z, .str (S (fL t b)), .str (S (rL t b)), .bl true])) : Dp K H (.ref p) (seenD t b) := by
  subst hz
  exact .lst (.inl (.inl h)) (.cons (.int _) (.cons (.int _) (.cons (.int _) (.cons (.str _) (.cons (.str _) (.cons (.bl _) .nil))))))
theorem dp_due {K : Fr} {H : Hp} {p : Addr} {t b z : Int} (hz : z = sgn t) (h : H p = some (.lst [.int t, .int b, .int z, .str (S (fL t b)), .str (("Number(" : Str) ++ S (fL t b) ++ (")" : Str)), .bl true])) : Dp K H (.ref p) (seenD t b) := by
  rw [repr_S] at h
  exact dp_seen hz h
end Hk
namespace Hk
open PySem PySem.Spec PyProof.Rows L2 NumM NumT SX
/-- a promise of a def over a pair (a tuple of two ints at p) -/
def spPair (g : Int → Int → V) : Sp := fun vs H Q _ => ∃ (p : Addr) (t b : Int), vs = [.ref p] ∧ H p = some (.tup [.int t, .int b]) ∧ 0 < b ∧ Sz t ∧ Sz b ∧ ∀ H', Same H H' → Q (g t b) H'
def spSeen (C : Addr) : Sp := fun vs H Q _ => ∃ (p : Addr) (t b : Int), vs = [.ref p] ∧ NumAt C H p t b ∧ Sz t ∧ Sz b ∧ ∀ H', Same H H' → Q (.str (seenT t b)) H'
theorem add_SS (a b : List Nat) : S a ++ S b = S (a ++ b) := S_cat a b
end Hk
namespace Hk
open PySem PySem.Spec PyProof.Rows L2 NumM NumT SX
/-- all but what stands at a is as it was -/
def Old (a : Addr) (H H' : Hp) : Prop := ∀ x o, H x = some o → x ≠ a → H' x = some o
theorem Old.refl (a : Addr) (H : Hp) : Old a H H := fun _ _ h _ => h
theorem Old.trans {a : Addr} {H H1 H2 : Hp} (s : Old a H H1) (t : Old a H1 H2) : Old a H H2 := fun x o h n => t x o (s x o h n) n
theorem Old.same {a : Addr} {H H1 : Hp} (s : Same H H1) : Old a H H1 := fun x o h _ => s x o h
theorem Old.put {a : Addr} {H : Hp} {o : HO} : Old a H (upd H a o) := fun x u h n => by
  rw [upd_ne n]
  exact h
theorem Old.new {a p : Addr} {H : Hp} {o : HO} (np : H p = none) : Old a H (upd H p o) := Old.same (same_upd np)
end Hk
namespace Hk
open PySem PySem.Spec PyProof.Rows L2 NumM NumT SX
theorem dec_int (x y : Int) : decide (V.int x = V.int y) = decide (x = y) := by
  by_cases h : x = y
  · subst h; simp
  · rw [decide_eq_false h, decide_eq_false fun z => h (V.int.inj z)]
theorem sz200 {z : Int} (h : z.natAbs < 2 ^ 200) : Sz z := Nat.lt_of_lt_of_le h (by decide +kernel)
theorem sz_mul {x y : Int} (h : x.natAbs < 2 ^ 200) (h2 : y.natAbs < 2 ^ 4) : Sz (x * y) := Nat.lt_of_lt_of_le (wide_lt h h2) (by decide +kernel)
theorem sz_succ {x : Int} (h : x.natAbs < 2 ^ 200) : Sz (x + 1) := by
  have e : (2 : Nat) ^ 200 + 1 ≤ 2 ^ 1000 := by decide +kernel
  have : (x + 1).natAbs ≤ x.natAbs + 1 := by omega
  exact Nat.lt_of_lt_of_le (show (x + 1).natAbs < 2 ^ 200 + 1 by omega) e
/-- the fraction one greater is another one -/
theorem far_ne {t b : Int} (hb : 0 < b) : (decide (t = lowT (t + 1) b) && decide (b = lowB (t + 1) b)) = false := by
  cases h : (decide (t = lowT (t + 1) b) && decide (b = lowB (t + 1) b)) with
  | false => rfl
  | true =>
    obtain ⟨h1, h2⟩ := Bool.and_eq_true_iff.mp h
    have e1 := of_decide_eq_true h1
    have e2 := of_decide_eq_true h2
    have l := low_eq (h := t + 1) (b := b) (by omega)
    rw [← e1, ← e2, Int.add_mul, Int.one_mul] at l
    omega
theorem num_ne {C : Addr} {H : Hp} {a p : Addr} {xs : List V} {t b : Int} (N : NumAt C H p t b) (h : H a = some (.lst xs)) : p ≠ a := by
  obtain ⟨dx, e⟩ := N.at_
  exact ne_of e h (by intro z; exact nomatch z)
theorem NumAt.old {C : Addr} {H H' : Hp} {a p : Addr} {t b : Int} (N : NumAt C H p t b) (s : Old a H H') (ne : p ≠ a) : NumAt C H' p t b := by
  obtain ⟨dx, h⟩ := N.at_
  exact ⟨⟨dx, s _ _ h ne⟩, N.pos, N.cop⟩
theorem dp_strs {K : Fr} {H : Hp} {p : Addr} {xs : List Str} (h : H p = some (.lst (xs.map V.str))) : Dp K H (.ref p) (.list (xs.map PyData.str)) := by
  refine .lst (.inl (.inl h)) ?_
  clear h
  induction xs with
  | nil => exact .nil
  | cons x r ih => exact .cons (.str x) ih
theorem dp_bls {K : Fr} {H : Hp} {p : Addr} {xs : List Bool} (h : H p = some (.lst (xs.map V.bl))) : Dp K H (.ref p) (.list (xs.map PyData.bool)) := by
  refine .lst (.inl (.inl h)) ?_
  clear h
  induction xs with
  | nil => exact .nil
  | cons x r ih => exact .cons (.bl x) ih
theorem depth_strs : ∀ xs : List Str, PyData.depthAll (xs.map PyData.str) ≤ 1
  | [] => by simp [PyData.depthAll]
  | x :: r => by
    have := depth_strs r
    simp only [List.map_cons, PyData.depthAll, PyData.depth]
    omega
theorem depth_bls : ∀ xs : List Bool, PyData.depthAll (xs.map PyData.bool) ≤ 1
  | [] => by simp [PyData.depthAll]
  | x :: r => by
    have := depth_bls r
    simp only [List.map_cons, PyData.depthAll, PyData.depth]
    omega
theorem shaped_strs {xs : List Str} (h : ∀ x ∈ xs, Asc x) : SeqAt.shaped (.list (xs.map PyData.str)) = true := by
  unfold SeqAt.shaped
  rw [Bool.and_eq_true]
  refine ⟨?_, decide_eq_true ?_⟩
  · show PyData.canLayAll0 (xs.map PyData.str) = true
    rw [PyProof.Rows.canLayAll_strs', List.all_eq_true]
    exact fun x hx => (h x hx).ok
  · have := depth_strs xs
    simp only [PyData.depth]
    omega
theorem shaped_bls (xs : List Bool) : SeqAt.shaped (.list (xs.map PyData.bool)) = true := by
  unfold SeqAt.shaped
  rw [Bool.and_eq_true]
  refine ⟨?_, decide_eq_true ?_⟩
  · show PyData.canLayAll0 (xs.map PyData.bool) = true
    induction xs with
    | nil => rfl
    | cons x r ih => simpa [PyData.canLayAll0, PyData.canLay0] using ih
  · have := depth_bls xs
    simp only [PyData.depth]
    omega
theorem seen_asc (t b : Int) : Asc (seenT t b) := by
  refine shown_asc _ ?_
  unfold seenD
  simp only [ascD, ascDs, and_true, true_and]
  exact ⟨S_asc (fL_small t b), S_asc (rL_small t b)⟩
theorem eqv_strs (xs : List Str) : PyData.eqv (.list (xs.map PyData.str)) (.list (xs.map PyData.str)) = true := by
  simp only [PyData.eqv]
  induction xs with
  | nil => rfl
  | cons x r ih => simp [PyData.eqvAll, PyData.eqv, ih]
theorem eqv_bls (xs : List Bool) : PyData.eqv (.list (xs.map PyData.bool)) (.list (xs.map PyData.bool)) = true := by
  simp only [PyData.eqv]
  induction xs with
  | nil => rfl
  | cons x r ih => simp [PyData.eqvAll, PyData.eqv, ih]
/-- two keywords, given in the other order -/
def kwTurn {α : Type} (us ws : List α) : List α := match ws with
  | [b, t] => us ++ [t, b]
  | _ => us
/-- Number(e, ..): a new Number in lowest terms -/
def tNum (C : Addr) (dvs : List V) (t : TA) : TE := fun σ H Q => t σ H fun vs H1 => ∃ h b : Int, vs ++ dvs = [.int h, .int b] ∧ b ≠ 0 ∧ Sz b ∧ NewNum C H1 Q (lowT h b) (lowB h b)
def tNumK (C : Addr) (tk : TA) : TE := fun σ H Q => tk σ H fun zs H1 => ∃ h b : Int, zs = [.int b, .int h] ∧ b ≠ 0 ∧ Sz b ∧ NewNum C H1 Q (lowT h b) (lowB h b)
section
variable {X : Cx} {k : Nat} {f C : Addr} {fd : FuncData} {ps : List Str} {dvs : List V} {ds : List Value} {x : Str} {p pos : Pos} {e : Expr} {es : List Expr} {kws : List Keyword} {t tk : TA} {g : List Value → List Value → List Value}
theorem pe_num (M : Mk X.K C f) (F : FnOk X.prog X.w X.K X.mg X.base CX0 k f fd ps (spInit C)) (hr : Room (k + 1) X.A) (hm : X.mg x = some (.ref C)) (hb : Binds X.K fd ps ds) (hd : Vals dvs ds) (ha : PA X (e :: es) t) (hg : Gl X x := by rfl)
    (hdb : (x == ("__debug__" : Str)) = false := by decide) (he : starEach (e :: es) X.env = (false, eval e X.env) :: starEach es X.env := by rfl) (hpl : (backTo pos (starEach es X.env)).any (·.1) = false := by rfl) :
    PE X (.Call (.Name x p) (e :: es) [] pos) (tNum C dvs t) := by
  refine ⟨fun pins s σ H Q I h => wpAny_Call_Name_kw (ld_glob I hg hm ?_ hdb)⟩
  refine PySem.W.callWith_K (h₀ := X.base) I.ok.mod.kin M.kp (thn (ha.run pos pins s σ H _ I h) fun us s1 hu => ?_) he hpl
  obtain ⟨vs, H1, J, r, a, b, ev, hb0, sb, q⟩ := hu
  refine ⟨J.kIn, run_make (E := E0) M F hr hb hd pass0 J r ?_⟩
  rw [ev]
  exact mk_num hb0 sb q
theorem pe_numK (M : Mk X.K C f) (F : FnOk X.prog X.w X.K X.mg X.base CX0 k f fd ps (spInit C)) (hr : Room (k + 1) X.A) (hm : X.mg x = some (.ref C)) (hb : KBn X.K fd ps 1 ["bottom", "top"] g (fun vs zs => kwTurn vs zs)) (hkw : PK X kws tk) (hg : Gl X x := by rfl)
    (hall : (backToKw pos (keywordEach kws X.env)).all (·.1.isSome) = true := by rfl) (hks : (backToKw pos (keywordEach kws X.env)).filterMap (·.1) = [("bottom" : Str), ("top" : Str)] := by rfl) (hdb : (x == ("__debug__" : Str)) = false := by decide)
    (hpl : ((backTo pos (starEach [] X.env)).any (·.1) || (backToKw pos (keywordEach kws X.env)).any (·.1.isNone)) = false := by rfl) : PE X (.Call (.Name x p) [] kws pos) (tNumK C tk) := by
  refine ⟨fun pins s σ H Q I h => wpAny_Call_Name_kw (ld_glob I hg hm ?_ hdb)⟩
  refine PySem.W.callWith_KW0 (h₀ := X.base) I.ok.mod.kin M.kp hall (thn (hkw.run pos pins s σ H _ I h) fun ws s2 hu => ?_) hpl
  obtain ⟨zs, H2, J, rz, a, b, ev, hb0, sb, q⟩ := hu
  refine ⟨J.kIn, ?_⟩
  rw [hks]
  refine run_makeK (E := E0) (us := []) (vs := []) M F hr hb pass0 J .nil rz rfl (by rw [ev]; rfl) ?_
  rw [ev]
  exact mk_num hb0 sb q
end
end Hk

/-! Operands of a Number's operators, their promises. -/
namespace Hk
open PySem PySem.Spec PyProof.Rows L2 NumM NumT SX
/-- a Number u/c, or the int u (c = 1) -/
def Opd (C : Addr) (H : Hp) (y : V) (u c : Int) : Prop := (∃ q, y = .ref q ∧ NumAt C H q u c) ∨ (y = .int u ∧ c = 1)
theorem Opd.same {C : Addr} {H H' : Hp} {y : V} {u c : Int} (o : Opd C H y u c) (s : Same H H') : Opd C H' y u c := by
  rcases o with ⟨q, rfl, N⟩ | ⟨rfl, rfl⟩
  · exact .inl ⟨q, rfl, N.same s⟩
  · exact .inr ⟨rfl, rfl⟩
theorem Opd.pos {C : Addr} {H : Hp} {y : V} {u c : Int} (o : Opd C H y u c) : 0 < c := by
  rcases o with ⟨q, rfl, N⟩ | ⟨rfl, rfl⟩
  · exact N.pos
  · decide
/-- small enough to be multiplied -/
abbrev Sm (n : Int) : Prop := n.natAbs < 2 ^ 450
theorem sm_mul {x y : Int} (h : Sm x) (g : Sm y) : (x * y).natAbs < 2 ^ 900 := wide_lt h g
theorem sm_sz {x : Int} (h : Sm x) : Sz x := Nat.lt_of_lt_of_le h (by decide +kernel)
theorem p900 : (2 : Nat) ^ 900 + 2 ^ 900 ≤ 2 ^ 1000 := by decide +kernel
theorem sz_mulS {x y : Int} (h : Sm x) (g : Sm y) : Sz (x * y) := by
  have := sm_mul h g
  have := p900
  exact Nat.lt_of_lt_of_le (sm_mul h g) (by omega)
theorem sz_add {x y z u : Int} (h : Sm x) (g : Sm y) (h' : Sm z) (g' : Sm u) : Sz (x * y + z * u) := by
  have a := sm_mul h g
  have b := sm_mul h' g'
  have e := p900
  have t : (x * y + z * u).natAbs ≤ (x * y).natAbs + (z * u).natAbs := Int.natAbs_add_le _ _
  exact Nat.lt_of_lt_of_le (show (x * y + z * u).natAbs < 2 ^ 900 + 2 ^ 900 by omega) e
theorem sz_sub {x y z u : Int} (h : Sm x) (g : Sm y) (h' : Sm z) (g' : Sm u) : Sz (x * y - z * u) := by
  have a := sm_mul h g
  have b := sm_mul h' g'
  have e := p900
  have t : (x * y - z * u).natAbs ≤ (x * y).natAbs + (z * u).natAbs := Int.natAbs_sub_le _ _
  exact Nat.lt_of_lt_of_le (show (x * y - z * u).natAbs < 2 ^ 900 + 2 ^ 900 by omega) e
theorem cm {x y : Int} (h : Sm x) (g : Sm y) : CMulW x y := wide_mul h g (by decide) (by decide) (by decide)
/-- as_number -/
def spAsN (C : Addr) : Sp := fun vs H Q _ => ∃ (y : V) (u c : Int), vs = [y] ∧ Opd C H y u c ∧ Sz u ∧ ∀ (H' : Hp) (q : Addr), Same H H' → NumAt C H' q u c → Q (.ref q) H'
/-- a two-place method: num and den of the new fraction -/
def spBin (C : Addr) (num : Int → Int → Int → Int → Int) (den : Int → Int → Int → Int → Int) (ok : Int → Int → Int → Int → Prop) : Sp := fun vs H Q _ => ∃ (p : Addr) (y : V) (t b u c : Int), vs = [.ref p, y] ∧ NumAt C H p t b ∧ Opd C H y u c ∧ Sm t ∧ Sm b ∧ Sm u ∧ Sm c ∧ ok t b u c ∧
  ∀ (H' : Hp) (q : Addr), Same H H' → NumAt C H' q (lowT (num t b u c) (den t b u c)) (lowB (num t b u c) (den t b u c)) → Q (.ref q) H'
/-- the reflected one: an int first -/
def spRbin (C : Addr) (num : Int → Int → Int → Int) : Sp := fun vs H Q _ => ∃ (p : Addr) (i t b : Int), vs = [.ref p, .int i] ∧ NumAt C H p t b ∧ Sm t ∧ Sm b ∧ Sm i ∧
  ∀ (H' : Hp) (q : Addr), Same H H' → NumAt C H' q (lowT (num i t b) (1 * b)) (lowB (num i t b) (1 * b)) → Q (.ref q) H'
def spUn (C : Addr) (g : Int → Int) : Sp := fun vs H Q _ => ∃ (p : Addr) (t b : Int), vs = [.ref p] ∧ NumAt C H p t b ∧ Sm t ∧ Sm b ∧ ∀ (H' : Hp) (q : Addr), Same H H' → NumAt C H' q (g t) b → Q (.ref q) H'
end Hk

/-! Lists of Numbers, of pairs. -/
namespace Hk
open PySem PySem.Spec PyProof.Rows L2 NumM NumT SX
abbrev Ok2 (w : Int × Int) : Prop := 0 < w.2 ∧ Sz w.1 ∧ Sz w.2
theorem ok_low {h d : Int} (hd : d ≠ 0) (sh : Sz h) (sd : Sz d) : Ok2 (lowT h d, lowB h d) := ⟨low_pos hd, Nat.lt_of_le_of_lt (lowT_le hd) sh, Nat.lt_of_le_of_lt (lowB_le hd) sd⟩
/-- the text of a pair -/
abbrev tx (w : Int × Int) : Str := S (fL w.1 w.2)
def Nums (C : Addr) (H : Hp) : List V → List (Int × Int) → Prop
  | [], [] => True
  | v :: r, w :: s => (∃ p, v = .ref p ∧ NumAt C H p w.1 w.2) ∧ Nums C H r s
  | _, _ => False
theorem Nums.get {C : Addr} {H : Hp} : ∀ {rs : List V} {W : List (Int × Int)}, Nums C H rs W → ∀ {i : Nat} {x : V}, rs[i]? = some x → ∃ w p, W[i]? = some w ∧ x = .ref p ∧ NumAt C H p w.1 w.2
  | [], [], _, i, x, h => by simp at h
  | v :: r, w :: s, h, 0, x, e => by
    obtain ⟨⟨p, e1, N⟩, _⟩ := h
    simp only [List.getElem?_cons_zero, Option.some.injEq] at e
    subst e
    exact ⟨w, p, rfl, e1, N⟩
  | v :: r, w :: s, h, i + 1, x, e => by
    simp only [List.getElem?_cons_succ] at e ⊢
    exact Nums.get h.2 e
  | [], _ :: _, h, _, _, _ => h.elim
  | _ :: _, [], h, _, _, _ => h.elim
theorem Nums.len {C : Addr} {H : Hp} : ∀ {rs : List V} {W : List (Int × Int)}, Nums C H rs W → rs.length = W.length
  | [], [], _ => rfl
  | v :: r, w :: s, h => by
    simp only [List.length_cons]
    rw [Nums.len h.2]
  | [], _ :: _, h => h.elim
  | _ :: _, [], h => h.elim
theorem Nums.same {C : Addr} {H H' : Hp} (sm : Same H H') : ∀ {rs : List V} {W : List (Int × Int)}, Nums C H rs W → Nums C H' rs W
  | [], [], _ => trivial
  | v :: r, w :: s, h => by
    obtain ⟨⟨p, e1, N⟩, h2⟩ := h
    exact ⟨⟨p, e1, N.same sm⟩, Nums.same sm h2⟩
  | [], _ :: _, h => h.elim
  | _ :: _, [], h => h.elim
def Prs (H : Hp) : List V → List (Int × Int) → Prop
  | [], [] => True
  | v :: r, w :: s => (∃ p, v = .ref p ∧ H p = some (.tup [.int w.1, .int w.2])) ∧ Prs H r s
  | _, _ => False
theorem Prs.get {H : Hp} : ∀ {rs : List V} {W : List (Int × Int)}, Prs H rs W → ∀ {i : Nat} {x : V}, rs[i]? = some x → ∃ w p, W[i]? = some w ∧ x = .ref p ∧ H p = some (.tup [.int w.1, .int w.2])
  | [], [], _, i, x, h => by simp at h
  | v :: r, w :: s, h, 0, x, e => by
    obtain ⟨⟨p, e1, N⟩, _⟩ := h
    simp only [List.getElem?_cons_zero, Option.some.injEq] at e
    subst e
    exact ⟨w, p, rfl, e1, N⟩
  | v :: r, w :: s, h, i + 1, x, e => by
    simp only [List.getElem?_cons_succ] at e ⊢
    exact Prs.get h.2 e
  | [], _ :: _, h, _, _, _ => h.elim
  | _ :: _, [], h, _, _, _ => h.elim
theorem Prs.len {H : Hp} : ∀ {rs : List V} {W : List (Int × Int)}, Prs H rs W → rs.length = W.length
  | [], [], _ => rfl
  | v :: r, w :: s, h => by
    simp only [List.length_cons]
    rw [Prs.len h.2]
  | [], _ :: _, h => h.elim
  | _ :: _, [], h => h.elim
theorem Prs.same {H H' : Hp} (sm : Same H H') : ∀ {rs : List V} {W : List (Int × Int)}, Prs H rs W → Prs H' rs W
  | [], [], _ => trivial
  | v :: r, w :: s, h => by
    obtain ⟨⟨p, e1, N⟩, h2⟩ := h
    exact ⟨⟨p, e1, sm _ _ N⟩, Prs.same sm h2⟩
  | [], _ :: _, h => h.elim
  | _ :: _, [], h => h.elim
theorem take_snoc {α : Type} {W : List α} {i : Nat} {w : α} (h : W[i]? = some w) : W.take (i + 1) = W.take i ++ [w] := by
  rw [List.take_add_one, h]
  rfl
theorem tx_asc (W : List (Int × Int)) : ∀ x ∈ W.map tx, Asc x := fun x hx => by
  obtain ⟨w, _, rfl⟩ := List.mem_map.mp hx
  exact S_asc (fL_small _ _)
end Hk
namespace Hk
open PySem PySem.Spec PyProof.Rows L2 NumM NumT SX
theorem Nums.app {C : Addr} {H : Hp} : ∀ {a : List V} {A : List (Int × Int)} {b : List V} {B : List (Int × Int)}, Nums C H a A → Nums C H b B → Nums C H (a ++ b) (A ++ B)
  | [], [], _, _, _, h => h
  | v :: r, w :: s, _, _, h, g => ⟨h.1, Nums.app h.2 g⟩
  | [], _ :: _, _, _, h, _ => h.elim
  | _ :: _, [], _, _, h, _ => h.elim
theorem Prs.app {H : Hp} : ∀ {a : List V} {A : List (Int × Int)} {b : List V} {B : List (Int × Int)}, Prs H a A → Prs H b B → Prs H (a ++ b) (A ++ B)
  | [], [], _, _, _, h => h
  | v :: r, w :: s, _, _, h, g => ⟨h.1, Prs.app h.2 g⟩
  | [], _ :: _, _, _, h, _ => h.elim
  | _ :: _, [], _, _, h, _ => h.elim
theorem take_tx {W : List (Int × Int)} {i : Nat} {w : Int × Int} (h : W[i]? = some w) : ((W.take i).map tx).map V.str ++ [V.str (tx w)] = ((W.take (i + 1)).map tx).map V.str := by
  rw [take_snoc h, List.map_append, List.map_append]
  rfl
end Hk
namespace Hk
open PySem PySem.Spec PyProof.Rows L2 NumM NumT SX
theorem low_cross {h b h' b' : Int} (hb : b ≠ 0) (hb' : b' ≠ 0) (e : h * b' = h' * b) : lowT h b = lowT h' b' ∧ lowB h b = lowB h' b' := by
  refine low_of hb (low_pos hb') (low_cop hb') ?_
  have l := low_eq (h := h') (b := b') hb'
  refine Int.eq_of_mul_eq_mul_right hb' ?_
  grind
theorem Prs.old {a : Addr} {xs : List V} {H H' : Hp} (ha : H a = some (.lst xs)) (o : Old a H H') : ∀ {rs : List V} {W : List (Int × Int)}, Prs H rs W → Prs H' rs W
  | [], [], _ => trivial
  | v :: r, w :: s, h => by
    obtain ⟨⟨p, e1, N⟩, h2⟩ := h
    exact ⟨⟨p, e1, o _ _ N (ne_of N ha (by intro z; exact nomatch z))⟩, Prs.old ha o h2⟩
  | [], _ :: _, h => h.elim
  | _ :: _, [], h => h.elim
theorem Prs.three {H : Hp} {rs : List V} {W : List (Int × Int)} (h : Prs H rs W) (l : rs.length = 3) : ∃ p0 p1 p2 w0 w1 w2, rs = [.ref p0, .ref p1, .ref p2] ∧ W = [w0, w1, w2] ∧ H p0 = some (.tup [.int w0.1, .int w0.2]) ∧ H p1 = some (.tup [.int w1.1, .int w1.2]) ∧ H p2 = some (.tup [.int w2.1, .int w2.2]) := by
  match rs, W, h, l with
  | [_, _, _], [w0, w1, w2], h, _ =>
    obtain ⟨⟨p0, rfl, h0⟩, ⟨p1, rfl, h1⟩, ⟨p2, rfl, h2⟩, _⟩ := h
    exact ⟨p0, p1, p2, w0, w1, w2, rfl, rfl, h0, h1, h2⟩
  | [_, _, _], [], h, _ => exact h.elim
  | [_, _, _], [_], h, _ => exact h.2.elim
  | [_, _, _], [_, _], h, _ => exact h.2.2.elim
  | [_, _, _], _ :: _ :: _ :: _ :: _, h, _ => exact h.2.2.2.elim
theorem join_if {t : TS} {D : Ends} {σ : L2.St} {H : Hp} {b : Bool} (R : L2.St → Hp → Prop) (rest : ∀ σ' H', R σ' H' → D.nx σ' H') (h1 : b = true → (∀ σ' H', R σ' H' → D.nx σ' H') → t D σ H) (h2 : b = false → R σ H) : if b = true then t D σ H else tNext D σ H := by
  cases b with
  | true => exact iteT (h1 rfl rest)
  | false => exact iteF (rest _ _ (h2 rfl))
theorem if_cv {b : Bool} {y z : V} {i : Nat} {σ : L2.St} {H : Hp} {Q : VK} (hz : σ[i]? = some (some z)) (h : ∀ v, v = (if b = true then y else z) → Q v H) : if b = true then tC y σ H Q else tVar i σ H Q := by
  cases b with
  | true => exact iteT (h _ rfl)
  | false => exact iteF ⟨_, hz, h _ rfl⟩
theorem numF_no {m : Str} (h1 : ¬ (m = ("_top" : Str))) (h2 : ¬ (m = ("_bottom" : Str))) (t b : Int) : (numF t b).lookup m = none := by
  rw [← numF_eq, lookup_putF, if_neg h2, lookup_putF, if_neg h1]
  rfl
end Hk
namespace Hk
open PySem PySem.Spec PyProof.Rows L2 NumM NumT SX
theorem atI_end {α : Type} {xs : List α} {i : Nat} {v : α} (h : xs[i]? = some v) (hl : xs.length = i + 1) : atI xs (-1) = some v := by
  have e : xs = xs.take i ++ [v] := by
    rw [← take_snoc h, ← hl, List.take_length]
  rw [e]
  exact atI_last _ _
def pows (t b : Int) (i : Nat) : List (Int × Int) := (List.range (i + 1)).map fun k => (t ^ k, b ^ k)
theorem pows_zero (t b : Int) : pows t b 0 = [(1, 1)] := by simp [pows]
theorem pows_len (t b : Int) (i : Nat) : (pows t b i).length = i + 1 := by simp [pows]
theorem pows_get {t b : Int} {i k : Nat} (h : k ≤ i) : (pows t b i)[k]? = some (t ^ k, b ^ k) := by
  unfold pows
  rw [List.getElem?_map, List.getElem?_range (by omega)]
  rfl
theorem pows_succ (t b : Int) (i : Nat) : pows t b (i + 1) = pows t b i ++ [(t ^ (i + 1), b ^ (i + 1))] := by
  unfold pows
  rw [List.range_succ, List.map_append]
  rfl
theorem low_zero {b : Int} (hb : b ≠ 0) : lowT (0 * b) b = 0 ∧ lowB (0 * b) b = 1 := low_of hb (by decide) (by simp) (by simp)
theorem low_zero' {t b : Int} (hb : b ≠ 0) : lowT (0 * t) b = 0 ∧ lowB (0 * t) b = 1 := low_of hb (by decide) (by simp) (by simp)
/-- a sum of n + 1 equal fractions from one of n -/
theorem low_next {n t b : Int} (hb : 0 < b) : lowT (lowT (n * t) b * b + t * lowB (n * t) b) (lowB (n * t) b * b) = lowT ((n + 1) * t) b ∧ lowB (lowT (n * t) b * b + t * lowB (n * t) b) (lowB (n * t) b * b) = lowB ((n + 1) * t) b := by
  have l := low_eq (h := n * t) (b := b) (by omega)
  have p := low_pos (h := n * t) (b := b) (by omega)
  refine low_cross (Int.mul_ne_zero (by omega) (by omega)) (by omega) ?_
  generalize lowT (n * t) b = x at *
  generalize lowB (n * t) b = y at *
  grind
theorem Prs.at {H : Hp} {rs : List V} {W : List (Int × Int)} (h : Prs H rs W) {k : Nat} {w : Int × Int} (hw : W[k]? = some w) : ∃ p, rs[k]? = some (.ref p) ∧ H p = some (.tup [.int w.1, .int w.2]) := by
  have hk : k < rs.length := by rw [h.len]; exact (List.getElem?_eq_some_iff.mp hw).1
  obtain ⟨w', p, h1, h2, h3⟩ := h.get (i := k) (x := rs[k]) (by simp [hk])
  rw [hw] at h1
  cases h1
  exact ⟨p, by rw [← h2]; simp [hk], h3⟩
end Hk

namespace K02
open PySem PySem.Spec PyProof.Rows L2 Hk
def top (i : Nat) : Stmt := PySem.Challenge.pw_delaynets_k02_arithmetic.main.body.getD i (.Pass ⟨0, 0, 0, 0⟩)
abbrev s_InvalidText_init : Stmt := inClass (top 3) 0
def d_InvalidText_init : Dx := ⟨mAd "InvalidText" "__init__", "__init__", "InvalidText.__init__", s_InvalidText_init, []⟩
theorem sc_InvalidText_init : FnScope ["self", "value"] ["self", "value"] (defScope s_InvalidText_init) := ⟨rfl, rfl, rfl, by decide +kernel, rfl, by decide +kernel, by decide +kernel⟩
abbrev s_InvalidCount_init : Stmt := inClass (top 4) 0
def d_InvalidCount_init : Dx := ⟨mAd "InvalidCount" "__init__", "__init__", "InvalidCount.__init__", s_InvalidCount_init, []⟩
theorem sc_InvalidCount_init : FnScope ["self", "value"] ["self", "value"] (defScope s_InvalidCount_init) := ⟨rfl, rfl, rfl, by decide +kernel, rfl, by decide +kernel, by decide +kernel⟩
abbrev s_NotANumber_init : Stmt := inClass (top 5) 0
def d_NotANumber_init : Dx := ⟨mAd "NotANumber" "__init__", "__init__", "NotANumber.__init__", s_NotANumber_init, []⟩
theorem sc_NotANumber_init : FnScope ["self", "value"] ["self", "value"] (defScope s_NotANumber_init) := ⟨rfl, rfl, rfl, by decide +kernel, rfl, by decide +kernel, by decide +kernel⟩
abbrev s_is_integer : Stmt := top 10
def d_is_integer : Dx := ⟨gAd "is_integer", "is_integer", "is_integer", s_is_integer, []⟩
theorem sc_is_integer : FnScope ["value"] ["value"] (defScope s_is_integer) := ⟨rfl, rfl, rfl, by decide +kernel, rfl, by decide +kernel, by decide +kernel⟩
abbrev s_as_number : Stmt := top 11
def d_as_number : Dx := ⟨gAd "as_number", "as_number", "as_number", s_as_number, []⟩
theorem sc_as_number : FnScope ["value"] ["value"] (defScope s_as_number) := ⟨rfl, rfl, rfl, by decide +kernel, rfl, by decide +kernel, by decide +kernel⟩
abbrev s_Number_init : Stmt := inClass (top 12) 0
def d_Number_init : Dx := ⟨mAd "Number" "__init__", "__init__", "Number.__init__", s_Number_init, [.int 1]⟩
theorem sc_Number_init : FnScope ["self", "top", "bottom", "shared"] ["self", "top", "bottom"] (defScope s_Number_init) := ⟨rfl, rfl, rfl, by decide +kernel, rfl, by decide +kernel, by decide +kernel⟩
abbrev s_Number_read : Stmt := inClass (top 12) 1
def d_Number_read : Dx := ⟨statAd "Number" "read", "read", "Number.read", s_Number_read, []⟩
theorem sc_Number_read : FnScope ["text", "number"] ["text"] (defScope s_Number_read) := ⟨rfl, rfl, rfl, by decide +kernel, rfl, by decide +kernel, by decide +kernel⟩
abbrev s_Number_top : Stmt := inClass (top 12) 2
def d_Number_top : Dx := ⟨getAd "Number" "top", "top", "Number.top", s_Number_top, []⟩
theorem sc_Number_top : FnScope ["self"] ["self"] (defScope s_Number_top) := ⟨rfl, rfl, rfl, by decide +kernel, rfl, by decide +kernel, by decide +kernel⟩
abbrev s_Number_bottom : Stmt := inClass (top 12) 3
def d_Number_bottom : Dx := ⟨getAd "Number" "bottom", "bottom", "Number.bottom", s_Number_bottom, []⟩
theorem sc_Number_bottom : FnScope ["self"] ["self"] (defScope s_Number_bottom) := ⟨rfl, rfl, rfl, by decide +kernel, rfl, by decide +kernel, by decide +kernel⟩
abbrev s_Number_sign : Stmt := inClass (top 12) 4
def d_Number_sign : Dx := ⟨getAd "Number" "sign", "sign", "Number.sign", s_Number_sign, []⟩
theorem sc_Number_sign : FnScope ["self"] ["self"] (defScope s_Number_sign) := ⟨rfl, rfl, rfl, by decide +kernel, rfl, by decide +kernel, by decide +kernel⟩
abbrev s_Number_over : Stmt := inClass (top 12) 5
def d_Number_over : Dx := ⟨mAd "Number" "over", "over", "Number.over", s_Number_over, []⟩
theorem sc_Number_over : FnScope ["self", "other", "divisor"] ["self", "other"] (defScope s_Number_over) := ⟨rfl, rfl, rfl, by decide +kernel, rfl, by decide +kernel, by decide +kernel⟩
abbrev s_Number_add : Stmt := inClass (top 12) 6
def d_Number_add : Dx := ⟨mAd "Number" "__add__", "__add__", "Number.__add__", s_Number_add, []⟩
theorem sc_Number_add : FnScope ["self", "other", "right"] ["self", "other"] (defScope s_Number_add) := ⟨rfl, rfl, rfl, by decide +kernel, rfl, by decide +kernel, by decide +kernel⟩
abbrev s_Number_radd : Stmt := inClass (top 12) 7
def d_Number_radd : Dx := ⟨mAd "Number" "__radd__", "__radd__", "Number.__radd__", s_Number_radd, []⟩
theorem sc_Number_radd : FnScope ["self", "other"] ["self", "other"] (defScope s_Number_radd) := ⟨rfl, rfl, rfl, by decide +kernel, rfl, by decide +kernel, by decide +kernel⟩
abbrev s_Number_sub : Stmt := inClass (top 12) 8
def d_Number_sub : Dx := ⟨mAd "Number" "__sub__", "__sub__", "Number.__sub__", s_Number_sub, []⟩
theorem sc_Number_sub : FnScope ["self", "other", "right"] ["self", "other"] (defScope s_Number_sub) := ⟨rfl, rfl, rfl, by decide +kernel, rfl, by decide +kernel, by decide +kernel⟩
abbrev s_Number_rsub : Stmt := inClass (top 12) 9
def d_Number_rsub : Dx := ⟨mAd "Number" "__rsub__", "__rsub__", "Number.__rsub__", s_Number_rsub, []⟩
theorem sc_Number_rsub : FnScope ["self", "other"] ["self", "other"] (defScope s_Number_rsub) := ⟨rfl, rfl, rfl, by decide +kernel, rfl, by decide +kernel, by decide +kernel⟩
abbrev s_Number_mul : Stmt := inClass (top 12) 10
def d_Number_mul : Dx := ⟨mAd "Number" "__mul__", "__mul__", "Number.__mul__", s_Number_mul, []⟩
theorem sc_Number_mul : FnScope ["self", "other", "right"] ["self", "other"] (defScope s_Number_mul) := ⟨rfl, rfl, rfl, by decide +kernel, rfl, by decide +kernel, by decide +kernel⟩
abbrev s_Number_rmul : Stmt := inClass (top 12) 11
def d_Number_rmul : Dx := ⟨mAd "Number" "__rmul__", "__rmul__", "Number.__rmul__", s_Number_rmul, []⟩
theorem sc_Number_rmul : FnScope ["self", "other"] ["self", "other"] (defScope s_Number_rmul) := ⟨rfl, rfl, rfl, by decide +kernel, rfl, by decide +kernel, by decide +kernel⟩
abbrev s_Number_neg : Stmt := inClass (top 12) 12
def d_Number_neg : Dx := ⟨mAd "Number" "__neg__", "__neg__", "Number.__neg__", s_Number_neg, []⟩
theorem sc_Number_neg : FnScope ["self"] ["self"] (defScope s_Number_neg) := ⟨rfl, rfl, rfl, by decide +kernel, rfl, by decide +kernel, by decide +kernel⟩
abbrev s_Number_abs : Stmt := inClass (top 12) 13
def d_Number_abs : Dx := ⟨mAd "Number" "__abs__", "__abs__", "Number.__abs__", s_Number_abs, []⟩
theorem sc_Number_abs : FnScope ["self"] ["self"] (defScope s_Number_abs) := ⟨rfl, rfl, rfl, by decide +kernel, rfl, by decide +kernel, by decide +kernel⟩
abbrev s_Number_pow : Stmt := inClass (top 12) 14
def d_Number_pow : Dx := ⟨mAd "Number" "__pow__", "__pow__", "Number.__pow__", s_Number_pow, []⟩
theorem sc_Number_pow : FnScope ["self", "other", "power", "_"] ["self", "other"] (defScope s_Number_pow) := ⟨rfl, rfl, rfl, by decide +kernel, rfl, by decide +kernel, by decide +kernel⟩
abbrev s_Number_eq : Stmt := inClass (top 12) 15
def d_Number_eq : Dx := ⟨mAd "Number" "__eq__", "__eq__", "Number.__eq__", s_Number_eq, []⟩
theorem sc_Number_eq : FnScope ["self", "other"] ["self", "other"] (defScope s_Number_eq) := ⟨rfl, rfl, rfl, by decide +kernel, rfl, by decide +kernel, by decide +kernel⟩
abbrev s_Number_str : Stmt := inClass (top 12) 16
def d_Number_str : Dx := ⟨mAd "Number" "__str__", "__str__", "Number.__str__", s_Number_str, []⟩
theorem sc_Number_str : FnScope ["self"] ["self"] (defScope s_Number_str) := ⟨rfl, rfl, rfl, by decide +kernel, rfl, by decide +kernel, by decide +kernel⟩
abbrev s_Number_repr : Stmt := inClass (top 12) 17
def d_Number_repr : Dx := ⟨mAd "Number" "__repr__", "__repr__", "Number.__repr__", s_Number_repr, []⟩
theorem sc_Number_repr : FnScope ["self"] ["self"] (defScope s_Number_repr) := ⟨rfl, rfl, rfl, by decide +kernel, rfl, by decide +kernel, by decide +kernel⟩
abbrev s_number_in : Stmt := top 13
def d_number_in : Dx := ⟨gAd "_number_in", "_number_in", "_number_in", s_number_in, []⟩
theorem sc_number_in : FnScope ["text", "top", "slash", "bottom"] ["text"] (defScope s_number_in) := ⟨rfl, rfl, rfl, by decide +kernel, rfl, by decide +kernel, by decide +kernel⟩
abbrev s_is_digits : Stmt := top 14
def d_is_digits : Dx := ⟨gAd "_is_digits", "_is_digits", "_is_digits", s_is_digits, []⟩
theorem sc_is_digits : FnScope ["text"] ["text"] (defScope s_is_digits) := ⟨rfl, rfl, rfl, by decide +kernel, rfl, by decide +kernel, by decide +kernel⟩
abbrev s_l_spring : Stmt := top 16
def d_l_spring : Dx := ⟨gAd "_law_spring", "_law_spring", "_law_spring", s_l_spring, []⟩
theorem sc_l_spring : FnScope ["_law_script", "_law_spot", "_law_mixed", "_law_at", "_law_own", "_law_digits"] ["_law_script", "_law_spot"] (defScope s_l_spring) := ⟨rfl, rfl, rfl, by decide +kernel, rfl, by decide +kernel, by decide +kernel⟩
abbrev s_l_next : Stmt := top 17
def d_l_next : Dx := ⟨gAd "_law_next", "_law_next", "_law_next", s_l_next, []⟩
theorem sc_l_next : FnScope ["_law_spring_here", "_law_many", "_law_digit", "_law_state"] ["_law_spring_here", "_law_many"] (defScope s_l_next) := ⟨rfl, rfl, rfl, by decide +kernel, rfl, by decide +kernel, by decide +kernel⟩
abbrev s_l_low : Stmt := top 18
def d_l_low : Dx := ⟨gAd "_law_low", "_law_low", "_law_low", s_l_low, []⟩
theorem sc_l_low : FnScope ["_law_top", "_law_bottom", "_law_one", "_law_two", "_law_sign"] ["_law_top", "_law_bottom"] (defScope s_l_low) := ⟨rfl, rfl, rfl, by decide +kernel, rfl, by decide +kernel, by decide +kernel⟩
abbrev s_l_written : Stmt := top 19
def d_l_written : Dx := ⟨gAd "_law_written", "_law_written", "_law_written", s_l_written, []⟩
theorem sc_l_written : FnScope ["_law_pair_here"] ["_law_pair_here"] (defScope s_l_written) := ⟨rfl, rfl, rfl, by decide +kernel, rfl, by decide +kernel, by decide +kernel⟩
abbrev s_l_plus : Stmt := top 20
def d_l_plus : Dx := ⟨gAd "_law_plus", "_law_plus", "_law_plus", s_l_plus, []⟩
theorem sc_l_plus : FnScope ["_law_one", "_law_two"] ["_law_one", "_law_two"] (defScope s_l_plus) := ⟨rfl, rfl, rfl, by decide +kernel, rfl, by decide +kernel, by decide +kernel⟩
abbrev s_l_by : Stmt := top 21
def d_l_by : Dx := ⟨gAd "_law_by", "_law_by", "_law_by", s_l_by, []⟩
theorem sc_l_by : FnScope ["_law_one", "_law_two"] ["_law_one", "_law_two"] (defScope s_l_by) := ⟨rfl, rfl, rfl, by decide +kernel, rfl, by decide +kernel, by decide +kernel⟩
abbrev s_l_pair : Stmt := top 22
def d_l_pair : Dx := ⟨gAd "_law_pair", "_law_pair", "_law_pair", s_l_pair, []⟩
theorem sc_l_pair : FnScope ["_law_spring_here"] ["_law_spring_here"] (defScope s_l_pair) := ⟨rfl, rfl, rfl, by decide +kernel, rfl, by decide +kernel, by decide +kernel⟩
abbrev s_l_minus : Stmt := top 23
def d_l_minus : Dx := ⟨gAd "_law_minus", "_law_minus", "_law_minus", s_l_minus, []⟩
theorem sc_l_minus : FnScope ["_law_pair_here"] ["_law_pair_here"] (defScope s_l_minus) := ⟨rfl, rfl, rfl, by decide +kernel, rfl, by decide +kernel, by decide +kernel⟩
abbrev s_l_sums_right : Stmt := top 24
def d_l_sums_right : Dx := ⟨gAd "_law_sums_right", "_law_sums_right", "_law_sums_right", s_l_sums_right, []⟩
theorem sc_l_sums_right : FnScope ["_law_one", "_law_two", "_law_many", "_law_left", "_law_right_here", "_law_whole", "_law_told", "_law_due", "_law_each", "_law_pair_here"] ["_law_one", "_law_two", "_law_many"] (defScope s_l_sums_right) := ⟨rfl, rfl, rfl, by decide +kernel, rfl, by decide +kernel, by decide +kernel⟩
abbrev s_l_right : Stmt := top 25
def d_l_right : Dx := ⟨gAd "_law_right", "_law_right", "_law_right", s_l_right, []⟩
theorem sc_l_right : FnScope ["_law_spring_here", "_law_pairs", "_law_turn", "_law_many", "_law_power", "_law_one", "_law_two", "_law_told", "_law_flipped", "_law_due", "_law_small", "_law_powers", "_law_total", "_law_whole", "_law_first", "_law_base", "_law_each", "_law_pair_here"] ["_law_spring_here"] (defScope s_l_right) := ⟨rfl, rfl, rfl, by decide +kernel, rfl, by decide +kernel, by decide +kernel⟩
abbrev s_law : Stmt := top 26
def d_law : Dx := ⟨gAd "law", "law", "law", s_law, []⟩
theorem sc_law : FnScope ["_law_script", "_law_spot", "_law_spring_here", "_law_turn"] ["_law_script"] (defScope s_law) := ⟨rfl, rfl, rfl, by decide +kernel, rfl, by decide +kernel, by decide +kernel⟩
def FN : List Dx := [d_InvalidText_init, d_InvalidCount_init, d_NotANumber_init, d_is_integer, d_as_number, d_Number_init, d_Number_read, d_Number_top, d_Number_bottom, d_Number_sign, d_Number_over, d_Number_add, d_Number_radd, d_Number_sub, d_Number_rsub, d_Number_mul, d_Number_rmul, d_Number_neg, d_Number_abs, d_Number_pow, d_Number_eq, d_Number_str, d_Number_repr, d_number_in, d_is_digits, d_l_spring, d_l_next, d_l_low, d_l_written, d_l_plus, d_l_by, d_l_pair, d_l_minus, d_l_sums_right, d_l_right, d_law]
def FA : List Tst := [tGlo "is_integer",
  tGlo "as_number",
  tGlo "_number_in",
  tGlo "_is_digits",
  tGlo "_law_spring",
  tGlo "_law_next",
  tGlo "_law_low",
  tGlo "_law_written",
  tGlo "_law_plus",
  tGlo "_law_by",
  tGlo "_law_pair",
  tGlo "_law_minus",
  tGlo "_law_sums_right",
  tGlo "_law_right",
  tGlo "law",
  tBlt "gcd" "math.gcd",
  tInt "MAX_POWER" 20,
  tFree "RuntimeError",
  tFree "ValueError",
  tFree "abs",
  tFree "all",
  tFree "bool",
  tFree "int",
  tFree "isinstance",
  tFree "len",
  tFree "max",
  tFree "min",
  tFree "property",
  tFree "range",
  tFree "staticmethod",
  tFree "str",
  tGlo "InputError",
  tGlo "InvalidText",
  tGlo "InvalidCount",
  tGlo "NotANumber",
  tGlo "StateError",
  tGlo "DividedByZero",
  tGlo "Number",
  tCls "Number",
  tMkr "Number",
  tNoat "Number" "_top",
  tNoat "Number" "_bottom",
  tProp "Number" "top",
  tProp "Number" "bottom",
  tProp "Number" "sign",
  tMeth "Number" "__init__",
  tMeth "Number" "__str__",
  tIns "Number",
  tKitO "Number" "Number" true,
  tBin "Number" "add",
  tBin "Number" "sub",
  tBin "Number" "mul",
  tBin "Number" "pow",
  tRbin "Number" "add",
  tRbin "Number" "sub",
  tRbin "Number" "mul",
  tNoIp "Number" "add",
  tMeth "Number" "__neg__",
  tMeth "Number" "__abs__",
  tMeth "Number" "over",
  tKit "int" "Number" false,
  tKitB "Number" "int" false]
abbrev Sy (K : Fr) : Prop := Says FA FN K
theorem f_glo_is_integer {K : Fr} (c : Sy K) : (tGlo "is_integer") K = true := c.tst 0
theorem f_glo_as_number {K : Fr} (c : Sy K) : (tGlo "as_number") K = true := c.tst 1
theorem f_glo_number_in {K : Fr} (c : Sy K) : (tGlo "_number_in") K = true := c.tst 2
theorem f_glo_is_digits {K : Fr} (c : Sy K) : (tGlo "_is_digits") K = true := c.tst 3
theorem f_glo_l_spring {K : Fr} (c : Sy K) : (tGlo "_law_spring") K = true := c.tst 4
theorem f_glo_l_next {K : Fr} (c : Sy K) : (tGlo "_law_next") K = true := c.tst 5
theorem f_glo_l_low {K : Fr} (c : Sy K) : (tGlo "_law_low") K = true := c.tst 6
theorem f_glo_l_written {K : Fr} (c : Sy K) : (tGlo "_law_written") K = true := c.tst 7
theorem f_glo_l_plus {K : Fr} (c : Sy K) : (tGlo "_law_plus") K = true := c.tst 8
theorem f_glo_l_by {K : Fr} (c : Sy K) : (tGlo "_law_by") K = true := c.tst 9
theorem f_glo_l_pair {K : Fr} (c : Sy K) : (tGlo "_law_pair") K = true := c.tst 10
theorem f_glo_l_minus {K : Fr} (c : Sy K) : (tGlo "_law_minus") K = true := c.tst 11
theorem f_glo_l_sums_right {K : Fr} (c : Sy K) : (tGlo "_law_sums_right") K = true := c.tst 12
theorem f_glo_l_right {K : Fr} (c : Sy K) : (tGlo "_law_right") K = true := c.tst 13
theorem f_glo_law {K : Fr} (c : Sy K) : (tGlo "law") K = true := c.tst 14
theorem f_blt_gcd {K : Fr} (c : Sy K) : (tBlt "gcd" "math.gcd") K = true := c.tst 15
theorem f_int_MAX_POWER {K : Fr} (c : Sy K) : (tInt "MAX_POWER" 20) K = true := c.tst 16
theorem f_free_RuntimeError {K : Fr} (c : Sy K) : (tFree "RuntimeError") K = true := c.tst 17
theorem f_free_ValueError {K : Fr} (c : Sy K) : (tFree "ValueError") K = true := c.tst 18
theorem f_free_abs {K : Fr} (c : Sy K) : (tFree "abs") K = true := c.tst 19
theorem f_free_all {K : Fr} (c : Sy K) : (tFree "all") K = true := c.tst 20
theorem f_free_bool {K : Fr} (c : Sy K) : (tFree "bool") K = true := c.tst 21
theorem f_free_int {K : Fr} (c : Sy K) : (tFree "int") K = true := c.tst 22
theorem f_free_isinstance {K : Fr} (c : Sy K) : (tFree "isinstance") K = true := c.tst 23
theorem f_free_len {K : Fr} (c : Sy K) : (tFree "len") K = true := c.tst 24
theorem f_free_max {K : Fr} (c : Sy K) : (tFree "max") K = true := c.tst 25
theorem f_free_min {K : Fr} (c : Sy K) : (tFree "min") K = true := c.tst 26
theorem f_free_property {K : Fr} (c : Sy K) : (tFree "property") K = true := c.tst 27
theorem f_free_range {K : Fr} (c : Sy K) : (tFree "range") K = true := c.tst 28
theorem f_free_staticmethod {K : Fr} (c : Sy K) : (tFree "staticmethod") K = true := c.tst 29
theorem f_free_str {K : Fr} (c : Sy K) : (tFree "str") K = true := c.tst 30
theorem f_glo_InputError {K : Fr} (c : Sy K) : (tGlo "InputError") K = true := c.tst 31
theorem f_glo_InvalidText {K : Fr} (c : Sy K) : (tGlo "InvalidText") K = true := c.tst 32
theorem f_glo_InvalidCount {K : Fr} (c : Sy K) : (tGlo "InvalidCount") K = true := c.tst 33
theorem f_glo_NotANumber {K : Fr} (c : Sy K) : (tGlo "NotANumber") K = true := c.tst 34
theorem f_glo_StateError {K : Fr} (c : Sy K) : (tGlo "StateError") K = true := c.tst 35
theorem f_glo_DividedByZero {K : Fr} (c : Sy K) : (tGlo "DividedByZero") K = true := c.tst 36
theorem f_glo_Number {K : Fr} (c : Sy K) : (tGlo "Number") K = true := c.tst 37
theorem f_cls_Number {K : Fr} (c : Sy K) : (tCls "Number") K = true := c.tst 38
theorem f_mkr_Number {K : Fr} (c : Sy K) : (tMkr "Number") K = true := c.tst 39
theorem f_noat_top {K : Fr} (c : Sy K) : (tNoat "Number" "_top") K = true := c.tst 40
theorem f_noat_bot {K : Fr} (c : Sy K) : (tNoat "Number" "_bottom") K = true := c.tst 41
theorem f_prop_top {K : Fr} (c : Sy K) : (tProp "Number" "top") K = true := c.tst 42
theorem f_prop_bottom {K : Fr} (c : Sy K) : (tProp "Number" "bottom") K = true := c.tst 43
theorem f_prop_sign {K : Fr} (c : Sy K) : (tProp "Number" "sign") K = true := c.tst 44
theorem f_meth_init {K : Fr} (c : Sy K) : (tMeth "Number" "__init__") K = true := c.tst 45
theorem f_meth_str {K : Fr} (c : Sy K) : (tMeth "Number" "__str__") K = true := c.tst 46
theorem f_ins {K : Fr} (c : Sy K) : (tIns "Number") K = true := c.tst 47
theorem f_kitO {K : Fr} (c : Sy K) : (tKitO "Number" "Number" true) K = true := c.tst 48
theorem f_bin_add {K : Fr} (c : Sy K) : (tBin "Number" "add") K = true := c.tst 49
theorem f_bin_sub {K : Fr} (c : Sy K) : (tBin "Number" "sub") K = true := c.tst 50
theorem f_bin_mul {K : Fr} (c : Sy K) : (tBin "Number" "mul") K = true := c.tst 51
theorem f_bin_pow {K : Fr} (c : Sy K) : (tBin "Number" "pow") K = true := c.tst 52
theorem f_rbin_add {K : Fr} (c : Sy K) : (tRbin "Number" "add") K = true := c.tst 53
theorem f_rbin_sub {K : Fr} (c : Sy K) : (tRbin "Number" "sub") K = true := c.tst 54
theorem f_rbin_mul {K : Fr} (c : Sy K) : (tRbin "Number" "mul") K = true := c.tst 55
theorem f_noip_add {K : Fr} (c : Sy K) : (tNoIp "Number" "add") K = true := c.tst 56
theorem f_meth_neg {K : Fr} (c : Sy K) : (tMeth "Number" "__neg__") K = true := c.tst 57
theorem f_meth_abs {K : Fr} (c : Sy K) : (tMeth "Number" "__abs__") K = true := c.tst 58
theorem f_meth_over {K : Fr} (c : Sy K) : (tMeth "Number" "over") K = true := c.tst 59
theorem f_kit_int {K : Fr} (c : Sy K) : (tKit "int" "Number" false) K = true := c.tst 60
theorem f_kitB_int {K : Fr} (c : Sy K) : (tKitB "Number" "int" false) K = true := c.tst 61
structure Tx (K : Fr) (mg : Str → Option Value) : Prop where
  c : Sy K
  g : ∃ h, K.In h ∧ h.Ns mainGlobals mg
theorem g_is_integer {K : Fr} {mg : Str → Option Value} (T : Tx K mg) : mg "is_integer" = some (.ref (gAd "is_integer" K)) := by
  obtain ⟨h, X, G⟩ := T.g
  exact He.glo_ok X G (f_glo_is_integer T.c)
theorem g_as_number {K : Fr} {mg : Str → Option Value} (T : Tx K mg) : mg "as_number" = some (.ref (gAd "as_number" K)) := by
  obtain ⟨h, X, G⟩ := T.g
  exact He.glo_ok X G (f_glo_as_number T.c)
theorem g_number_in {K : Fr} {mg : Str → Option Value} (T : Tx K mg) : mg "_number_in" = some (.ref (gAd "_number_in" K)) := by
  obtain ⟨h, X, G⟩ := T.g
  exact He.glo_ok X G (f_glo_number_in T.c)
theorem g_is_digits {K : Fr} {mg : Str → Option Value} (T : Tx K mg) : mg "_is_digits" = some (.ref (gAd "_is_digits" K)) := by
  obtain ⟨h, X, G⟩ := T.g
  exact He.glo_ok X G (f_glo_is_digits T.c)
theorem g_l_spring {K : Fr} {mg : Str → Option Value} (T : Tx K mg) : mg "_law_spring" = some (.ref (gAd "_law_spring" K)) := by
  obtain ⟨h, X, G⟩ := T.g
  exact He.glo_ok X G (f_glo_l_spring T.c)
theorem g_l_next {K : Fr} {mg : Str → Option Value} (T : Tx K mg) : mg "_law_next" = some (.ref (gAd "_law_next" K)) := by
  obtain ⟨h, X, G⟩ := T.g
  exact He.glo_ok X G (f_glo_l_next T.c)
theorem g_l_low {K : Fr} {mg : Str → Option Value} (T : Tx K mg) : mg "_law_low" = some (.ref (gAd "_law_low" K)) := by
  obtain ⟨h, X, G⟩ := T.g
  exact He.glo_ok X G (f_glo_l_low T.c)
theorem g_l_written {K : Fr} {mg : Str → Option Value} (T : Tx K mg) : mg "_law_written" = some (.ref (gAd "_law_written" K)) := by
  obtain ⟨h, X, G⟩ := T.g
  exact He.glo_ok X G (f_glo_l_written T.c)
theorem g_l_plus {K : Fr} {mg : Str → Option Value} (T : Tx K mg) : mg "_law_plus" = some (.ref (gAd "_law_plus" K)) := by
  obtain ⟨h, X, G⟩ := T.g
  exact He.glo_ok X G (f_glo_l_plus T.c)
theorem g_l_by {K : Fr} {mg : Str → Option Value} (T : Tx K mg) : mg "_law_by" = some (.ref (gAd "_law_by" K)) := by
  obtain ⟨h, X, G⟩ := T.g
  exact He.glo_ok X G (f_glo_l_by T.c)
theorem g_l_pair {K : Fr} {mg : Str → Option Value} (T : Tx K mg) : mg "_law_pair" = some (.ref (gAd "_law_pair" K)) := by
  obtain ⟨h, X, G⟩ := T.g
  exact He.glo_ok X G (f_glo_l_pair T.c)
theorem g_l_minus {K : Fr} {mg : Str → Option Value} (T : Tx K mg) : mg "_law_minus" = some (.ref (gAd "_law_minus" K)) := by
  obtain ⟨h, X, G⟩ := T.g
  exact He.glo_ok X G (f_glo_l_minus T.c)
theorem g_l_sums_right {K : Fr} {mg : Str → Option Value} (T : Tx K mg) : mg "_law_sums_right" = some (.ref (gAd "_law_sums_right" K)) := by
  obtain ⟨h, X, G⟩ := T.g
  exact He.glo_ok X G (f_glo_l_sums_right T.c)
theorem g_l_right {K : Fr} {mg : Str → Option Value} (T : Tx K mg) : mg "_law_right" = some (.ref (gAd "_law_right" K)) := by
  obtain ⟨h, X, G⟩ := T.g
  exact He.glo_ok X G (f_glo_l_right T.c)
theorem g_law {K : Fr} {mg : Str → Option Value} (T : Tx K mg) : mg "law" = some (.ref (gAd "law" K)) := by
  obtain ⟨h, X, G⟩ := T.g
  exact He.glo_ok X G (f_glo_law T.c)
theorem m_gcd {K : Fr} {mg : Str → Option Value} (T : Tx K mg) : mg "gcd" = some (.builtin "math.gcd") := by
  obtain ⟨h, X, G⟩ := T.g
  exact blt_ok X G (f_blt_gcd T.c)
theorem i_MAX_POWER {K : Fr} {mg : Str → Option Value} (T : Tx K mg) : ∃ t, mg "MAX_POWER" = some (.int 20 t) := by
  obtain ⟨h, X, G⟩ := T.g
  exact He.int_ok X G (f_int_MAX_POWER T.c)
theorem n_RuntimeError {K : Fr} {mg : Str → Option Value} (T : Tx K mg) : mg "RuntimeError" = none := by
  obtain ⟨h, X, G⟩ := T.g
  exact He.free_ok X G (f_free_RuntimeError T.c)
theorem n_ValueError {K : Fr} {mg : Str → Option Value} (T : Tx K mg) : mg "ValueError" = none := by
  obtain ⟨h, X, G⟩ := T.g
  exact He.free_ok X G (f_free_ValueError T.c)
theorem n_abs {K : Fr} {mg : Str → Option Value} (T : Tx K mg) : mg "abs" = none := by
  obtain ⟨h, X, G⟩ := T.g
  exact He.free_ok X G (f_free_abs T.c)
theorem n_all {K : Fr} {mg : Str → Option Value} (T : Tx K mg) : mg "all" = none := by
  obtain ⟨h, X, G⟩ := T.g
  exact He.free_ok X G (f_free_all T.c)
theorem n_bool {K : Fr} {mg : Str → Option Value} (T : Tx K mg) : mg "bool" = none := by
  obtain ⟨h, X, G⟩ := T.g
  exact He.free_ok X G (f_free_bool T.c)
theorem n_int {K : Fr} {mg : Str → Option Value} (T : Tx K mg) : mg "int" = none := by
  obtain ⟨h, X, G⟩ := T.g
  exact He.free_ok X G (f_free_int T.c)
theorem n_isinstance {K : Fr} {mg : Str → Option Value} (T : Tx K mg) : mg "isinstance" = none := by
  obtain ⟨h, X, G⟩ := T.g
  exact He.free_ok X G (f_free_isinstance T.c)
theorem n_len {K : Fr} {mg : Str → Option Value} (T : Tx K mg) : mg "len" = none := by
  obtain ⟨h, X, G⟩ := T.g
  exact He.free_ok X G (f_free_len T.c)
theorem n_max {K : Fr} {mg : Str → Option Value} (T : Tx K mg) : mg "max" = none := by
  obtain ⟨h, X, G⟩ := T.g
  exact He.free_ok X G (f_free_max T.c)
theorem n_min {K : Fr} {mg : Str → Option Value} (T : Tx K mg) : mg "min" = none := by
  obtain ⟨h, X, G⟩ := T.g
  exact He.free_ok X G (f_free_min T.c)
theorem n_property {K : Fr} {mg : Str → Option Value} (T : Tx K mg) : mg "property" = none := by
  obtain ⟨h, X, G⟩ := T.g
  exact He.free_ok X G (f_free_property T.c)
theorem n_range {K : Fr} {mg : Str → Option Value} (T : Tx K mg) : mg "range" = none := by
  obtain ⟨h, X, G⟩ := T.g
  exact He.free_ok X G (f_free_range T.c)
theorem n_staticmethod {K : Fr} {mg : Str → Option Value} (T : Tx K mg) : mg "staticmethod" = none := by
  obtain ⟨h, X, G⟩ := T.g
  exact He.free_ok X G (f_free_staticmethod T.c)
theorem n_str {K : Fr} {mg : Str → Option Value} (T : Tx K mg) : mg "str" = none := by
  obtain ⟨h, X, G⟩ := T.g
  exact He.free_ok X G (f_free_str T.c)
theorem g_InputError {K : Fr} {mg : Str → Option Value} (T : Tx K mg) : mg "InputError" = some (.ref (gAd "InputError" K)) := by
  obtain ⟨h, X, G⟩ := T.g
  exact He.glo_ok X G (f_glo_InputError T.c)
theorem g_InvalidText {K : Fr} {mg : Str → Option Value} (T : Tx K mg) : mg "InvalidText" = some (.ref (gAd "InvalidText" K)) := by
  obtain ⟨h, X, G⟩ := T.g
  exact He.glo_ok X G (f_glo_InvalidText T.c)
theorem g_InvalidCount {K : Fr} {mg : Str → Option Value} (T : Tx K mg) : mg "InvalidCount" = some (.ref (gAd "InvalidCount" K)) := by
  obtain ⟨h, X, G⟩ := T.g
  exact He.glo_ok X G (f_glo_InvalidCount T.c)
theorem g_NotANumber {K : Fr} {mg : Str → Option Value} (T : Tx K mg) : mg "NotANumber" = some (.ref (gAd "NotANumber" K)) := by
  obtain ⟨h, X, G⟩ := T.g
  exact He.glo_ok X G (f_glo_NotANumber T.c)
theorem g_StateError {K : Fr} {mg : Str → Option Value} (T : Tx K mg) : mg "StateError" = some (.ref (gAd "StateError" K)) := by
  obtain ⟨h, X, G⟩ := T.g
  exact He.glo_ok X G (f_glo_StateError T.c)
theorem g_DividedByZero {K : Fr} {mg : Str → Option Value} (T : Tx K mg) : mg "DividedByZero" = some (.ref (gAd "DividedByZero" K)) := by
  obtain ⟨h, X, G⟩ := T.g
  exact He.glo_ok X G (f_glo_DividedByZero T.c)
theorem g_Number {K : Fr} {mg : Str → Option Value} (T : Tx K mg) : mg "Number" = some (.ref (gAd "Number" K)) := by
  obtain ⟨h, X, G⟩ := T.g
  exact He.glo_ok X G (f_glo_Number T.c)
theorem a_InvalidText_init {K : Fr} (c : Sy K) : ∃ fd, DAt K d_InvalidText_init fd := c.dat 0
theorem a_InvalidCount_init {K : Fr} (c : Sy K) : ∃ fd, DAt K d_InvalidCount_init fd := c.dat 1
theorem a_NotANumber_init {K : Fr} (c : Sy K) : ∃ fd, DAt K d_NotANumber_init fd := c.dat 2
theorem a_is_integer {K : Fr} (c : Sy K) : ∃ fd, DAt K d_is_integer fd := c.dat 3
theorem a_as_number {K : Fr} (c : Sy K) : ∃ fd, DAt K d_as_number fd := c.dat 4
theorem a_Number_init {K : Fr} (c : Sy K) : ∃ fd, DAt K d_Number_init fd := c.dat 5
theorem a_Number_read {K : Fr} (c : Sy K) : ∃ fd, DAt K d_Number_read fd := c.dat 6
theorem a_Number_top {K : Fr} (c : Sy K) : ∃ fd, DAt K d_Number_top fd := c.dat 7
theorem a_Number_bottom {K : Fr} (c : Sy K) : ∃ fd, DAt K d_Number_bottom fd := c.dat 8
theorem a_Number_sign {K : Fr} (c : Sy K) : ∃ fd, DAt K d_Number_sign fd := c.dat 9
theorem a_Number_over {K : Fr} (c : Sy K) : ∃ fd, DAt K d_Number_over fd := c.dat 10
theorem a_Number_add {K : Fr} (c : Sy K) : ∃ fd, DAt K d_Number_add fd := c.dat 11
theorem a_Number_radd {K : Fr} (c : Sy K) : ∃ fd, DAt K d_Number_radd fd := c.dat 12
theorem a_Number_sub {K : Fr} (c : Sy K) : ∃ fd, DAt K d_Number_sub fd := c.dat 13
theorem a_Number_rsub {K : Fr} (c : Sy K) : ∃ fd, DAt K d_Number_rsub fd := c.dat 14
theorem a_Number_mul {K : Fr} (c : Sy K) : ∃ fd, DAt K d_Number_mul fd := c.dat 15
theorem a_Number_rmul {K : Fr} (c : Sy K) : ∃ fd, DAt K d_Number_rmul fd := c.dat 16
theorem a_Number_neg {K : Fr} (c : Sy K) : ∃ fd, DAt K d_Number_neg fd := c.dat 17
theorem a_Number_abs {K : Fr} (c : Sy K) : ∃ fd, DAt K d_Number_abs fd := c.dat 18
theorem a_Number_pow {K : Fr} (c : Sy K) : ∃ fd, DAt K d_Number_pow fd := c.dat 19
theorem a_Number_eq {K : Fr} (c : Sy K) : ∃ fd, DAt K d_Number_eq fd := c.dat 20
theorem a_Number_str {K : Fr} (c : Sy K) : ∃ fd, DAt K d_Number_str fd := c.dat 21
theorem a_Number_repr {K : Fr} (c : Sy K) : ∃ fd, DAt K d_Number_repr fd := c.dat 22
theorem a_number_in {K : Fr} (c : Sy K) : ∃ fd, DAt K d_number_in fd := c.dat 23
theorem a_is_digits {K : Fr} (c : Sy K) : ∃ fd, DAt K d_is_digits fd := c.dat 24
theorem a_l_spring {K : Fr} (c : Sy K) : ∃ fd, DAt K d_l_spring fd := c.dat 25
theorem a_l_next {K : Fr} (c : Sy K) : ∃ fd, DAt K d_l_next fd := c.dat 26
theorem a_l_low {K : Fr} (c : Sy K) : ∃ fd, DAt K d_l_low fd := c.dat 27
theorem a_l_written {K : Fr} (c : Sy K) : ∃ fd, DAt K d_l_written fd := c.dat 28
theorem a_l_plus {K : Fr} (c : Sy K) : ∃ fd, DAt K d_l_plus fd := c.dat 29
theorem a_l_by {K : Fr} (c : Sy K) : ∃ fd, DAt K d_l_by fd := c.dat 30
theorem a_l_pair {K : Fr} (c : Sy K) : ∃ fd, DAt K d_l_pair fd := c.dat 31
theorem a_l_minus {K : Fr} (c : Sy K) : ∃ fd, DAt K d_l_minus fd := c.dat 32
theorem a_l_sums_right {K : Fr} (c : Sy K) : ∃ fd, DAt K d_l_sums_right fd := c.dat 33
theorem a_l_right {K : Fr} (c : Sy K) : ∃ fd, DAt K d_l_right fd := c.dat 34
theorem a_law {K : Fr} (c : Sy K) : ∃ fd, DAt K d_law fd := c.dat 35
abbrev R : PySem.W.OpenRow := PySem.W.OpenLaw.row PySem.Challenge.rw_delaynets_k02_arithmetic
abbrev hk : PySem.W.Hook := hook 5 FA FN
def ob (s : PySem.W.SharedT) : Al2 := lookG 5 FA FN (HeadRun.getT s)
theorem ob_eq (s : PySem.W.SharedT) : ob s = hk.obs s.abs := lookG_eq (HeadRun.getT_eq s)
def loose0 : List Str := ["InputError", "InvalidText", "InvalidCount", "NotANumber", "StateError", "DividedByZero", "MAX_POWER", "is_integer", "as_number", "Number", "_number_in", "_is_digits", "_law_spring", "_law_next", "_law_low", "_law_written", "_law_plus", "_law_by", "_law_pair", "_law_minus", "_law_sums_right", "_law_right"]
abbrev loose : List Str := loose0
abbrev qv : Program := PySem.W.view R.prog [0, 26]
abbrev lawAt : Nat := 26
end K02

namespace K02
open PySem PySem.Spec PyProof.Rows L2 Hk NumM NumT SX
open TL (numL)
section
variable {P : Program} {w : World} {K : Fr} {mg : Str → Option Value} {base : Heap}
/-- a spring's list: the digits left, the state, the count -/
structure Spr (d e c : Int) : Prop where
  d0 : 0 ≤ d
  e0 : 0 ≤ e
  e1 : e < 1000000007
  c0 : 0 ≤ c
def sprL (d e c : Int) : List V := [.int d, .int e, .int c]
/-- draws a number below many, turns the spring's list alone -/
def spNext : Sp := fun vs H Q _ => ∃ (a : Addr) (m d e c : Int), vs = [.ref a, .int m] ∧ H a = some (.lst (sprL d e c)) ∧ Spr d e c ∧ 0 < m ∧ m.natAbs < 2 ^ 200 ∧
  ∀ (v d' e' c' : Int), 0 ≤ v → v < m → Spr d' e' c' → Q (.int v) (upd H a (.lst (sprL d' e' c')))
theorem c_next (T : Tx K mg) : Cal P w K mg base 1 "_law_next" (gAd "_law_next" K) ["_law_spring_here", "_law_many"] spNext := by
  refine cal_of (d := d_l_next) (N := ["_law_spring_here", "_law_many", "_law_digit", "_law_state"]) (a_l_next T.c) rfl sc_l_next (g_l_next T) (fun _ _ _ _ _ _ us hl => match us, hl with | [_, _], _ => rfl) (fun vs H Q E h => ?_) (fun cdv A outer s H vs Q E hr h => ?_)
  · obtain ⟨a, m, d, e, c, rfl, _⟩ := h
    rfl
  · obtain ⟨a, m, d, e, c, rfl, hH, hs, hm, hm2, k⟩ := h
    refine ⟨_, pss_cons (ps_asg (pe_op op_add (pe_ix ix_list (pv 0) pe_int (fun _ _ => rfl)) pe_int) (pg_sub (pv 0) pe_int set_list))
      (pss_cons (ps_if (pt_cmpR op_gt (pe_ix ix_list (pv 0) pe_int (fun _ _ => rfl)) pe_int (nomark _))
        (pss_cons (ps_set (i := 2) sc_l_next.nd rfl (.inl rfl) (pe_op op_modN (pe_callTy call_int1 (by rfl) (n_int T) bo_int (pa_cons (pe_ix ix_list (pv 0) pe_int (fun _ _ => rfl)) pa_nil)) (pv 1)))
        (pss_cons (ps_asg (pe_op op_fdivW (pe_ix ix_list (pv 0) pe_int (fun _ _ => rfl)) (pv 1)) (pg_sub (pv 0) pe_int set_list))
        (pss_one (ps_ret (pv 2))))) pss_nil)
      (pss_cons (ps_set (i := 3) sc_l_next.nd rfl (.inl rfl) (pe_callTy call_int1 (by rfl) (n_int T) bo_int (pa_cons (pe_ix ix_list (pv 0) pe_int (fun _ _ => rfl)) pa_nil)))
      (pss_cons (ps_asg (pe_op op_mod (pe_callTy call_int1 (by rfl) (n_int T) bo_int (pa_cons
          (pe_op op_add (pe_op op_add (pe_op op_mul (pv 3) (pe_op op_add (pe_op op_mod (pv 3) pe_int) pe_int)) (pe_op op_mul pe_int (pe_ix ix_list (pv 0) pe_int (fun _ _ => rfl)))) pe_int) pa_nil)) pe_int) (pg_sub (pv 0) pe_int set_list))
      (pss_one (ps_ret (pe_op op_modN (pe_callTy call_int1 (by rfl) (n_int T) bo_int (pa_cons (pe_op op_fdiv (pe_ix ix_list (pv 0) pe_int (fun _ _ => rfl)) pe_int) pa_nil)) (pv 1))))))), ?_⟩
    refine ⟨_, rfl, a, _, 2, _, rfl, rfl, .inl (.inl hH), rfl, c, 1, rfl, rfl, _, rfl, a, _, 2, 2, rfl, rfl, hH, rfl, ?_⟩
    -- h[0] > 0
    refine ⟨_, rfl, a, _, 0, _, rfl, rfl, .inl (.inl upd_same), rfl, _, _, rfl, rfl, _, rfl, ?_⟩
    refine ite2 (fun hd => ?_) (fun hd => ?_)
    · have hd : 0 < d := of_decide_eq_true hd
      refine ⟨_, rfl, a, _, 0, _, rfl, rfl, .inl (.inl upd_same), rfl, .inl ⟨_, rfl, _, rfl, _, _, rfl, rfl, (by omega), ?_⟩⟩
      refine ⟨_, rfl, a, _, 0, _, rfl, rfl, .inl (.inl upd_same), rfl, _, rfl, _, _, rfl, rfl, wide_div hm hm2 (by decide) (by decide), _, rfl, a, _, 0, 0, rfl, rfl, upd_same, rfl, ?_⟩
      refine ⟨_, rfl, ?_⟩
      show Q _ _
      rw [upd_upd]
      refine k _ (d / m) e (c + 1) (Int.fmod_nonneg_of_pos _ hm) (Int.fmod_lt_of_pos _ hm) ⟨Int.ediv_nonneg hs.d0 (by omega), hs.e0, hs.e1, by have := hs.c0; omega⟩
    · refine ⟨_, rfl, a, _, 1, _, rfl, rfl, .inl (.inl upd_same), rfl, .inl ⟨_, rfl, ?_⟩⟩
      refine ⟨_, rfl, _, rfl, _, _, rfl, rfl, (by show (0 : Int) < 65521; decide), _, _, rfl, rfl, _, _, rfl, rfl, .inl ⟨by have := hs.e0; omega, by have := hs.e1; omega⟩, ?_⟩
      refine ⟨_, rfl, a, _, 2, _, rfl, rfl, .inl (.inl upd_same), rfl, _, _, rfl, rfl, .inl ⟨by decide, by decide⟩, _, _, rfl, rfl, _, _, rfl, rfl, .inl ⟨_, rfl, _, _, rfl, rfl, (by show (0 : Int) < 1000000007; decide), _, rfl, a, _, 1, 1, rfl, rfl, upd_same, rfl, ?_⟩⟩
      refine ⟨_, rfl, a, _, 1, _, rfl, rfl, .inl (.inl upd_same), rfl, _, _, rfl, rfl, ⟨by decide, by decide⟩, .inl ⟨_, rfl, _, rfl, _, _, rfl, rfl, (by omega), ?_⟩⟩
      show Q _ _
      rw [upd_upd]
      exact k _ d _ (c + 1) (Int.fmod_nonneg_of_pos _ hm) (Int.fmod_lt_of_pos _ hm) ⟨hs.d0, Int.emod_nonneg _ (by decide), Int.emod_lt_of_pos _ (by decide), by have := hs.c0; omega⟩
abbrev CN (K : Fr) : Addr := He.ga K "Number"
theorem c_isint (T : Tx K mg) : Cal P w K mg base 1 "is_integer" (gAd "is_integer" K) ["value"] spIsInt := by
  refine cal_of (d := d_is_integer) (N := ["value"]) (a_is_integer T.c) rfl sc_is_integer (g_is_integer T) (fun _ _ _ _ _ _ us hl => match us, hl with | [_], _ => rfl) (fun vs H Q E h => ?_) (fun cdv A outer s H vs Q E hr h => ?_)
  · obtain ⟨i, rfl, _⟩ := h
    rfl
  · obtain ⟨i, rfl, k⟩ := h
    refine ⟨_, (pss_one (ps_ret (pe_and (pe_callB call_isi (by rfl) (n_isinstance T) bo_isinstance (pa_cons (pv 0) (pa_cons (pe_bltn (v := .ty "int") (by rfl) (n_int T) (by decide +kernel) rfl) pa_nil)))
      (pe_one (pe_not (pe_callB call_isi (by rfl) (n_isinstance T) bo_isinstance (pa_cons (pv 0) (pa_cons (pe_bltn (v := .ty "bool") (by rfl) (n_bool T) (by decide +kernel) rfl) pa_nil)))))))), ?_⟩
    refine ⟨_, rfl, _, _, .type "int", .type "int", true, rfl, .ty _, .base (.int i), kit_ty (by decide +kernel), true, rfl, iteT ?_⟩
    exact ⟨_, rfl, _, _, .type "int", .type "bool", false, rfl, .ty _, .base (.int i), kit_ty (by decide +kernel), false, rfl, k⟩
theorem f_init (T : Tx K mg) : ∃ fd, DAt K d_Number_init fd ∧ FnOk P w K mg base CX0 2 (d_Number_init.ad K) fd ["self", "top", "bottom"] (spInit (CN K)) := by
  obtain ⟨fd, D⟩ := a_Number_init T.c
  have C_is_integer := c_isint (P := P) (w := w) (base := base) T
  refine ⟨fd, D, ok_of (N := ["self", "top", "bottom", "shared"]) D sc_Number_init (fun vs H Q E h => ?_) (fun cdv A outer s H vs Q E hr h => ?_)⟩
  · obtain ⟨p, dx, h, b, rfl, _⟩ := h
    rfl
  · obtain ⟨p, dx, h, b, rfl, hp, hb, sb, k⟩ := h
    refine ⟨_, (pss_cons (ps_if (pt_not (pt_val (pe_c C_is_integer hr (pa_cons (pv 1) pa_nil)))) (pss_one ps_never) pss_nil)
      (pss_cons (ps_if (pt_not (pt_val (pe_c C_is_integer hr (pa_cons (pv 2) pa_nil)))) (pss_one ps_never) pss_nil)
      (pss_cons (ps_if (pt_cmpR op_eq (pv 2) pe_int (nomark _)) (pss_one ps_never) pss_nil)
      (pss_cons (ps_set (i := 3) sc_Number_init.nd rfl (.inl rfl) (pe_callBfun cr_gcd rfl (m_gcd T) (pa_cons (pv 1) (pa_cons (pv 2) pa_nil))))
      (pss_cons (ps_if (pt_cmpR op_lt (pv 2) pe_int (nomark _)) (pss_one (ps_set (i := 3) sc_Number_init.nd rfl (.inl rfl) (pe_un un_neg (pv 3)))) pss_nil)
      (pss_cons (ps_fld (pv 0) (pe_op op_fdivG (pv 1) (pv 3)) rfl)
      (pss_one (ps_fld (pv 0) (pe_op op_fdivG (pv 2) (pv 3)) rfl)))))))), ?_⟩
    refine ⟨_, rfl, h, rfl, _, rfl, iteF ?_⟩
    refine ⟨_, rfl, b, rfl, _, rfl, iteF ?_⟩
    refine ⟨_, rfl, rfl, _, rfl, ?_⟩
    refine ite2 (fun z => absurd (V.int.inj (of_decide_eq_true z)) hb) (fun _ => ?_)
    refine ⟨_, rfl, _, rfl, h, b, rfl, ?_⟩
    have cl := He.cls_ok (f_cls_Number T.c)
    have sz : CDivG h (shr h b) := ⟨shr_ne hb, by
      have := log2_sz (i := shr h b) (Nat.lt_of_le_of_lt (shr_le (h := h) hb) sb)
      omega⟩
    have szb : CDivG b (shr h b) := sz
    refine ⟨_, rfl, _, _, rfl, rfl, _, rfl, ?_⟩
    have fin : ∀ x : Int, x = shr h b → (fun (σ : L2.St) (H : Hp) => L2.tSeq (sFld K (tVar 0) (tOp (rI CDivG fun i j => .int (i.fdiv j)) (tVar 1) (tVar 3)) "_top") (sFld K (tVar 0) (tOp (rI CDivG fun i j => .int (i.fdiv j)) (tVar 2) (tVar 3)) "_bottom") { nx := fun _ H' => Q .non H', rt := Q } σ H) [some (.ref p), some (.int h), some (.int b), some (.int x)] H := by
      rintro x rfl
      refine ⟨_, rfl, _, rfl, h, _, rfl, rfl, sz, _, rfl, p, CN K, dx, _, rfl, hp, cl, He.noat_ok (f_noat_top T.c), (by show 0 < 1000; decide), ?_⟩
      refine ⟨_, rfl, _, rfl, b, _, rfl, rfl, szb, _, rfl, p, CN K, dx, _, rfl, upd_same, cl, He.noat_ok (f_noat_bot T.c), (by show 1 < 1000; decide), ?_⟩
      show Q .non _
      rw [upd_upd]
      rw [numF_eq, init_top hb, init_bot hb]
      exact k
    refine ite2 (fun z => ?_) (fun z => ?_)
    · refine ⟨_, rfl, _, rfl, ?_⟩
      exact fin _ (by unfold shr; rw [if_pos (of_decide_eq_true z)]; rfl)
    · exact fin _ (by unfold shr; rw [if_neg (fun q => z (decide_eq_true q))]; rfl)
theorem cl (T : Tx K mg) : Cls K (CN K) := He.cls_ok (f_cls_Number T.c)
theorem nT (T : Tx K mg) : NoAttr K (CN K) "_top" := He.noat_ok (f_noat_top T.c)
theorem nB (T : Tx K mg) : NoAttr K (CN K) "_bottom" := He.noat_ok (f_noat_bot T.c)
theorem f_top (T : Tx K mg) : ∃ fd, DAt K d_Number_top fd ∧ FnOk P w K mg base CX0 1 (d_Number_top.ad K) fd ["self"] (spGet (CN K) fun t _ => .int t) := by
  obtain ⟨fd, D⟩ := a_Number_top T.c
  refine ⟨fd, D, ok_of (N := ["self"]) D sc_Number_top (fun vs H Q E h => ?_) (fun cdv A outer s H vs Q E hr h => ?_)⟩
  · obtain ⟨p, t, b, rfl, _⟩ := h
    rfl
  · obtain ⟨p, t, b, rfl, ⟨⟨dx, hp⟩, _, _⟩, _, _, k⟩ := h
    exact ⟨_, pss_one (ps_ret (pe_fld (pv 0) rfl)), _, rfl, p, CN K, dx, _, _, rfl, hp, cl T, nT T, numF_top _ _, k⟩
theorem f_bottom (T : Tx K mg) : ∃ fd, DAt K d_Number_bottom fd ∧ FnOk P w K mg base CX0 1 (d_Number_bottom.ad K) fd ["self"] (spGet (CN K) fun _ b => .int b) := by
  obtain ⟨fd, D⟩ := a_Number_bottom T.c
  refine ⟨fd, D, ok_of (N := ["self"]) D sc_Number_bottom (fun vs H Q E h => ?_) (fun cdv A outer s H vs Q E hr h => ?_)⟩
  · obtain ⟨p, t, b, rfl, _⟩ := h
    rfl
  · obtain ⟨p, t, b, rfl, ⟨⟨dx, hp⟩, _, _⟩, _, _, k⟩ := h
    exact ⟨_, pss_one (ps_ret (pe_fld (pv 0) rfl)), _, rfl, p, CN K, dx, _, _, rfl, hp, cl T, nB T, numF_bot _ _, k⟩
theorem f_str (T : Tx K mg) : ∃ fd, DAt K d_Number_str fd ∧ FnOk P w K mg base CX0 1 (d_Number_str.ad K) fd ["self"] (spGet (CN K) fun t b => .str (S (fL t b))) := by
  obtain ⟨fd, D⟩ := a_Number_str T.c
  refine ⟨fd, D, ok_of (N := ["self"]) D sc_Number_str (fun vs H Q E h => ?_) (fun cdv A outer s H vs Q E hr h => ?_)⟩
  · obtain ⟨p, t, b, rfl, _⟩ := h
    rfl
  · obtain ⟨p, t, b, rfl, ⟨⟨dx, hp⟩, _, _⟩, st, sb, k⟩ := h
    refine ⟨_, (pss_cons (ps_if (pt_cmpR op_eq (pe_fld (pv 0) rfl) pe_int (nomark _)) (pss_one (ps_ret (pe_callTy call_str_int (by rfl) (n_str T) bo_str (pa_cons (pe_fld (pv 0) rfl) pa_nil)))) pss_nil)
      (pss_one (ps_ret (pe_joined (.cons (pe_fmt (pe_fld (pv 0) rfl)) (.cons pe_str (.cons (pe_fmt (pe_fld (pv 0) rfl)) .nil))))))), ?_⟩
    refine ⟨_, rfl, p, CN K, dx, _, _, rfl, hp, cl T, nB T, numF_bot _ _, rfl, _, rfl, ?_⟩
    have l1 := i_len st
    have l2 := i_len sb
    refine ite2 (fun z => ?_) (fun z => ?_)
    · have e : b = 1 := V.int.inj (of_decide_eq_true z)
      refine ⟨_, rfl, p, CN K, dx, _, _, rfl, hp, cl T, nT T, numF_top _ _, _, rfl, log2_small st, ?_⟩
      show Q (.str _) H
      rw [toS]
      have k' : Q (.str (S (fL t b))) H := k
      unfold fL at k'
      rw [if_pos e] at k'
      exact k'
    · have e : ¬ b = 1 := fun q => z (decide_eq_true (by rw [q]))
      refine ⟨_, rfl, p, CN K, dx, _, _, rfl, hp, cl T, nT T, numF_top _ _, .inr ⟨_, rfl, log2_small st, _, rfl, ?_, _, rfl, ?_, ?_⟩⟩
      · rw [toS, empty_S, S_cat, S_len]
        exact line_ge (by rw [List.nil_append]; omega)
      · rw [toS, empty_S, slash_S, S_cat, S_cat, S_len]
        exact line_ge (by rw [List.nil_append, List.length_append]; simp; omega)
      · refine ⟨_, rfl, p, CN K, dx, _, _, rfl, hp, cl T, nB T, numF_bot _ _, .inr ⟨_, rfl, log2_small sb, _, rfl, ?_, ?_⟩⟩
        · rw [toS, toS, empty_S, slash_S, S_cat, S_cat, S_cat, S_len]
          exact line_ge (by rw [List.nil_append, List.length_append, List.length_append]; simp; omega)
        · show Q (.str _) H
          rw [toS, toS, empty_S, slash_S, S_cat, S_cat, S_cat, List.nil_append, List.append_assoc]
          have k' : Q (.str (S (fL t b))) H := k
          unfold fL at k'
          rw [if_neg e] at k'
          exact k'
theorem mkN (T : Tx K mg) : Mk K (CN K) (d_Number_init.ad K) := He.mkr_ok (f_mkr_Number T.c)
theorem b_init2 {fd : FuncData} (D : DAt K d_Number_init fd) : Binds K fd ["self", "top", "bottom"] [] := by
  obtain ⟨ds, r, b⟩ := FunD.binds1 (ps := ["self", "top", "bottom"]) D 3 1 (by intro z; exact nomatch z) rfl (fun T kV doc pm an cdv ct us its hu hi => match us, its, hu, hi with | [_, _, _], [_], _, _ => ⟨_, rfl, rfl⟩)
  cases r
  exact b
theorem b_init1 {fd : FuncData} (D : DAt K d_Number_init fd) : ∃ ds, Vals [.int 1] ds ∧ Binds K fd ["self", "top", "bottom"] ds :=
  FunD.binds1 (ps := ["self", "top", "bottom"]) D 2 0 (by intro z; exact nomatch z) rfl (fun T kV doc pm an cdv ct us its hu hi => match us, its, hu, hi with | [_, _], [_], _, _ => ⟨_, rfl, rfl⟩)
/-- a new spring from the script -/
def spSpring (K : Fr) : Sp := fun vs H Q _ => ∃ (a : Addr) (ns : List Int) (j : Nat), vs = [.ref a, .int j] ∧ SqL K H a (ns.map V.int) ∧ ns.length ≤ 63 ∧ j ≤ 63 ∧
  ∀ (p : Addr) (d e c : Int), H p = none → Spr d e c → Q (.ref p) (upd H p (.lst (sprL d e c)))
theorem c_spring (T : Tx K mg) : Cal P w K mg base 1 "_law_spring" (gAd "_law_spring" K) ["_law_script", "_law_spot"] (spSpring K) := by
  refine cal_of (d := d_l_spring) (N := ["_law_script", "_law_spot", "_law_mixed", "_law_at", "_law_own", "_law_digits"]) (a_l_spring T.c) rfl sc_l_spring (g_l_spring T) (fun _ _ _ _ _ _ us hl => match us, hl with | [_, _], _ => rfl) (fun vs H Q E h => ?_) (fun cdv A outer s H vs Q E hr h => ?_)
  · obtain ⟨a, ns, j, rfl, _⟩ := h
    rfl
  · obtain ⟨a, ns, j, rfl, hS, hn, hj, k⟩ := h
    refine ⟨_, (pss_cons (ps_set (i := 2) sc_l_spring.nd rfl (.inl rfl) pe_int)
 (pss_cons (ps_for PassesOwn.never rfl (pi_range1 (by rfl) (n_range T) (pa_cons (pe_callB (call_min2 rfl) (by rfl) (n_min T) bo_min (pa_cons (pe_callB call_len_seq (by rfl) (n_len T) bo_len (pa_cons (pv 0) pa_nil)) (pa_cons pe_int pa_nil))) pa_nil)) (pg_name (i := 3) sc_l_spring.nd rfl (.inl rfl))
 (pss_one (ps_set (i := 2) sc_l_spring.nd rfl (.inl rfl) (pe_op op_mod (pe_callTy call_int1 (by rfl) (n_int T) bo_int (pa_cons (pe_op op_add (pe_op op_add (pe_op op_mul (pv 2) pe_int) (pe_op op_mul (pe_ix ix_list (pv 0) (pv 3) (fun _ _ => rfl)) (pe_op op_add (pv 3) pe_int))) pe_int) pa_nil)) pe_int))))
 (pss_cons (ps_set (i := 4) sc_l_spring.nd rfl (.inl rfl) (pe_ifExp (pt_cmpR op_lt (pv 1) (pe_callB call_len_seq (by rfl) (n_len T) bo_len (pa_cons (pv 0) pa_nil)) (nomark _)) (pe_ix ix_list (pv 0) (pv 1) (fun _ _ => rfl)) (pe_op op_add (pe_op op_mul (pv 2) pe_int) (pe_op op_mul (pv 1) pe_int))))
 (pss_cons (ps_set (i := 5) sc_l_spring.nd rfl (.inl rfl) (pe_ifExp (PW.pt (pw_or (pt_cmpR op_lt (pv 4) pe_int (nomark _)) (pw_or1 (pt_cmpR op_ge (pv 4) (pe_op op_pow pe_int pe_int) (nomark _))))) (pe_callB call_abs (by rfl) (n_abs T) bo_abs (pa_cons (pv 4) pa_nil)) pe_int))
 (pss_one (ps_ret (pe_lst (pa_cons (pv 5) (pa_cons (pe_op op_mod (pe_callTy call_int1 (by rfl) (n_int T) bo_int (pa_cons (pe_op op_add (pe_op op_add (pe_op op_mul (pv 4) pe_int) (pv 2)) pe_int) pa_nil)) pe_int) (pa_cons pe_int pa_nil)))))))))), ?_⟩
    -- mixed = 23; for at in range(min(len(script), 5))
    have hlen : ((ns.map V.int).length : Int) = (ns.length : Int) := by rw [List.length_map]
    refine ⟨_, rfl, a, _, rfl, .inl hS, _, _, rfl, _, rfl, ?_, ?_, ?_⟩
    · rw [hlen]; split <;> omega
    · rw [hlen]; split <;> omega
    rw [hlen]
    generalize hm : (if (5 : Int) < (ns.length : Int) then (5 : Int) else (ns.length : Int)) = m
    have hm2 : m ≤ ns.length := by rw [← hm]; split <;> omega
    refine for_range (lo := 0) (n := m.toNat) (fun i σ H' => H' = H ∧ ∃ (x : Int) (y : Option V), σ = [some (.ref a), some (.int j), some (.int x), y, none, none]) ⟨rfl, 23, none, rfl⟩ ?_ ?_
    · rintro i σ H' hi ⟨rfl, x, y, rfl⟩
      have hi2 : i < ns.length := by omega
      obtain ⟨n, h1, h2⟩ := map_int_get hi2
      have e0 : (0 : Int) + (i : Int) = ((i : Nat) : Int) := by omega
      rw [e0]
      refine ⟨_, rfl, _, _, rfl, rfl, .inr ⟨by decide, by decide⟩, _, rfl, _, rfl, a, _, _, _, rfl, rfl, hS, h2, _, rfl, _, _, rfl, rfl, _, _, rfl, rfl, .inr ⟨by omega, by omega⟩, ?_⟩
      refine ⟨_, _, rfl, rfl, _, _, rfl, rfl, .inl ⟨_, rfl, _, _, rfl, rfl, (by show (0 : Int) < 1000000007; decide), rfl, _, _, rfl⟩⟩
    · rintro σ H' ⟨rfl, x, y, rfl⟩
      -- own
      refine ⟨_, rfl, _, rfl, a, _, rfl, .inl hS, _, _, rfl, rfl, _, rfl, ?_⟩
      have fin : ∀ o : Int, (fun (σ : L2.St) (H : Hp) => L2.tSeq (tAsg (tIf (tOr (tTest (tOp (rI0 fun i j => V.bl (decide (i < j))) (tVar 4) (tC (.int 0)))) (tTest (tOp (rI0 fun i j => V.bl (decide (j ≤ i))) (tVar 4) (tOp (rI CPow fun i j => V.int (i ^ j.toNat)) (tC (.int 10)) (tC (.int 18)))))) (tCB (fun xs H Q => ∃ i, xs = [.int i] ∧ Q (.int (if i < 0 then -i else i)) H) (tCons (tVar 4) tNil)) (tC (.int 0))) (gName 5))
          (tRet (tLst (tCons (tVar 5) (tCons (tOp (rI (fun _ j => 0 < j) fun i j => V.int (i % j)) (tCB (fun xs H Q => (∃ i, xs = [V.int i] ∧ Q (V.int i) H) ∨ ∃ k, xs = [V.bl k] ∧ Q (V.int (if k then 1 else 0)) H) (tCons (tOp (rI0 fun i j => V.int (i + j)) (tOp (rI0 fun i j => V.int (i + j)) (tOp (rI CMul fun i j => V.int (i * j)) (tVar 4) (tC (.int 2654435))) (tVar 2)) (tC (.int 12345))) tNil)) (tC (.int 1000000007))) (tCons (tC (.int 0)) tNil))))) { nx := fun _ H' => Q .non H', rt := Q } σ H) [some (.ref a), some (.int j), some (.int x), y, some (.int o), none] H' := by
        intro o
        refine ⟨_, rfl, _, _, rfl, rfl, _, rfl, ?_⟩
        have last : ∀ d : Int, 0 ≤ d → (fun (σ : L2.St) (H : Hp) => tRet (tLst (tCons (tVar 5) (tCons (tOp (rI (fun _ j => 0 < j) fun i j => V.int (i % j)) (tCB (fun xs H Q => (∃ i, xs = [V.int i] ∧ Q (V.int i) H) ∨ ∃ k, xs = [V.bl k] ∧ Q (V.int (if k then 1 else 0)) H) (tCons (tOp (rI0 fun i j => V.int (i + j)) (tOp (rI0 fun i j => V.int (i + j)) (tOp (rI CMul fun i j => V.int (i * j)) (tVar 4) (tC (.int 2654435))) (tVar 2)) (tC (.int 12345))) tNil)) (tC (.int 1000000007))) (tCons (tC (.int 0)) tNil)))) { nx := fun _ H' => Q .non H', rt := Q } σ H) [some (.ref a), some (.int j), some (.int x), y, some (.int o), some (.int d)] H' := by
          intro d hd
          refine ⟨_, rfl, _, rfl, _, _, rfl, rfl, .inr ⟨by decide, by decide⟩, _, rfl, _, _, rfl, rfl, _, _, rfl, rfl, .inl ⟨_, rfl, _, _, rfl, rfl, (by show (0 : Int) < 1000000007; decide), (by show 3 ≤ sizeLine; decide), fun p np => ?_⟩⟩
          exact k p _ _ 0 np ⟨hd, Int.emod_nonneg _ (by decide), Int.emod_lt_of_pos _ (by decide), by decide⟩
        refine ite2 (fun z => ?_) (fun z => ?_)
        · refine iteT ⟨_, rfl, _, rfl, ?_⟩
          exact last _ (by have := of_decide_eq_true z; split <;> omega)
        · refine ⟨_, rfl, _, _, rfl, rfl, ⟨by decide, by decide, by decide⟩, _, _, rfl, rfl, _, rfl, ?_⟩
          refine ite2 (fun z2 => ⟨_, rfl, _, rfl, ?_⟩) (fun z2 => ?_)
          · exact last _ (by split <;> omega)
          · exact last 0 (by omega)
      refine ite2 (fun z => ?_) (fun z => ?_)
      · have hj2 : j < ns.length := by
          have := of_decide_eq_true z
          rw [hlen] at this
          omega
        obtain ⟨n, h1, h2⟩ := map_int_get hj2
        exact ⟨_, rfl, _, rfl, a, _, _, _, rfl, rfl, hS, h2, fin n⟩
      · exact ⟨_, rfl, _, _, rfl, rfl, .inr ⟨by decide, by decide⟩, _, rfl, _, _, rfl, rfl, .inr ⟨by decide, by decide⟩, _, _, rfl, rfl, fin _⟩
/-- the law's own lowest terms -/
def spLow : Sp := fun vs H Q _ => ∃ h b : Int, vs = [.int h, .int b] ∧ b ≠ 0 ∧ Sz h ∧ Sz b ∧ ∀ p : Addr, H p = none → Q (.ref p) (upd H p (.tup [.int (lowT h b), .int (lowB h b)]))
theorem c_low (T : Tx K mg) : Cal P w K mg base 1 "_law_low" (gAd "_law_low" K) ["_law_top", "_law_bottom"] spLow := by
  refine cal_of (d := d_l_low) (N := ["_law_top", "_law_bottom", "_law_one", "_law_two", "_law_sign"]) (a_l_low T.c) rfl sc_l_low (g_l_low T) (fun _ _ _ _ _ _ us hl => match us, hl with | [_, _], _ => rfl) (fun vs H Q E h => ?_) (fun cdv A outer s H vs Q E hr h => ?_)
  · obtain ⟨h, b, rfl, _⟩ := h
    rfl
  · obtain ⟨h, b, rfl, hb, sh, sb, k⟩ := h
    refine ⟨_, (pss_cons (ps_par (i := 2) (j := 3) (by rfl) sc_l_low.nd rfl rfl (by decide) rfl rfl (pa_cons (pe_callB call_abs (by rfl) (n_abs T) bo_abs (pa_cons (pv 0) pa_nil)) (pa_cons (pe_callB call_abs (by rfl) (n_abs T) bo_abs (pa_cons (pv 1) pa_nil)) pa_nil)) (by rfl))
 (pss_cons (ps_while PassesOwn.never (pt_cmpR op_ne (pv 3) pe_int (nomark _))
 (pss_one (ps_par (i := 2) (j := 3) (by rfl) sc_l_low.nd rfl rfl (by decide) rfl rfl (pa_cons (pv 3) (pa_cons (pe_op op_modN (pv 2) (pv 3)) pa_nil)) (by rfl))))
 (pss_cons (ps_set (i := 4) sc_l_low.nd rfl (.inl rfl) (pe_ifExp (pt_cmpR op_lt (pv 1) pe_int (nomark _)) (pe_un un_neg pe_int) pe_int))
 (pss_one (ps_ret (pe_tup (pa_cons (pe_op op_fdivW (pe_op op_mul (pv 4) (pv 0)) (pv 2)) (pa_cons (pe_op op_fdivW (pe_op op_mul (pv 4) (pv 1)) (pv 2)) pa_nil)))))))), ?_⟩
    have abse : ∀ z : Int, (if z < 0 then -z else z) = ((z.natAbs : Nat) : Int) := fun z => by split <;> omega
    refine ⟨_, rfl, _, rfl, _, rfl, _, rfl, _, _, rfl, ?_⟩
    rw [abse, abse]
    refine while_by (fun σ H' => H' = H ∧ ∃ x y : Nat, σ = [some (.int h), some (.int b), some (.int x), some (.int y), none] ∧ Nat.gcd x y = Nat.gcd h.natAbs b.natAbs)
      (fun σ _ => match σ with | [_, _, _, some (.int y), _] => y.natAbs | _ => 0) ⟨rfl, h.natAbs, b.natAbs, rfl, rfl⟩ ?_ ?_
    · rintro σ H' ⟨rfl, x, y, rfl, hg⟩
      refine ⟨_, rfl, rfl, _, rfl, ?_⟩
      by_cases hy : y = 0
      · subst hy
        rw [show (V.int ((0 : Nat) : Int)) = V.int 0 from rfl]
        refine iteNS rfl ?_
        -- behind the loop
        rw [Nat.gcd_zero_right] at hg
        have hgd : ((x : Nat) : Int) = gd h b := by rw [hg]; rfl
        have hp := gd_pos (h := h) hb
        refine ⟨_, rfl, _, _, rfl, rfl, _, rfl, ?_⟩
        have fin : ∀ sg' : Int, sg' = sg b → (fun (σ : L2.St) (H : Hp) => tRet (tTup (tCons (tOp (rI CDivW fun i j => .int (i / j)) (tOp (rI CMul fun i j => .int (i * j)) (tVar 4) (tVar 0)) (tVar 2)) (tCons (tOp (rI CDivW fun i j => .int (i / j)) (tOp (rI CMul fun i j => .int (i * j)) (tVar 4) (tVar 1)) (tVar 2)) tNil))) { nx := fun _ H' => Q .non H', rt := Q } σ H) [some (.int h), some (.int b), some (.int x), some (.int ((0 : Nat) : Int)), some (.int sg')] H' := by
          rintro s' rfl
          rw [hgd]
          have sgs : CMul (sg b) h ∧ CMul (sg b) b := by unfold sg CMul; split <;> exact ⟨.inl ⟨by decide, by decide⟩, .inl ⟨by decide, by decide⟩⟩
          have dv : ∀ z : Int, CDivW z (gd h b) := fun z => wide_div hp (Nat.lt_of_le_of_lt (gd_le hb) sb) (by decide) (by decide)
          refine ⟨_, rfl, _, rfl, _, _, rfl, rfl, sgs.1, _, rfl, _, _, rfl, rfl, dv _, _, rfl, _, rfl, _, _, rfl, rfl, sgs.2, _, rfl, _, _, rfl, rfl, dv _, (by show 2 ≤ sizeLine; decide), fun p np => ?_⟩
          exact k p np
        refine ite2 (fun z => ?_) (fun z => ?_)
        · exact ⟨_, rfl, fin _ (by unfold sg; rw [if_pos (of_decide_eq_true z)])⟩
        · exact fin _ (by unfold sg; rw [if_neg (fun q => z (decide_eq_true q))])
      · have hd : (!decide (V.int ((y : Nat) : Int) = V.int 0)) = true := by
          rw [Bool.not_eq_true', decide_eq_false]
          intro q
          have := V.int.inj q
          omega
        rw [hd]
        refine iteT ?_
        refine ⟨_, rfl, _, rfl, _, rfl, _, _, rfl, rfl, (by show ((y : Nat) : Int) ≠ 0; omega), _, _, rfl, ⟨rfl, y, x % y, ?_, ?_⟩, ?_⟩
        · show [_, _, _, some (V.int ((x : Int).fmod (y : Int))), _] = _
          rw [show ((x : Nat) : Int).fmod ((y : Nat) : Int) = ((x % y : Nat) : Int) from by rw [Int.fmod_eq_emod_of_nonneg _ (by omega)]; rfl]
        · rw [Nat.gcd_comm, ← Nat.gcd_rec, Nat.gcd_comm, hg]
        · show ((x : Int).fmod (y : Int)).natAbs < (((y : Nat) : Int)).natAbs
          rw [show ((x : Nat) : Int).fmod ((y : Nat) : Int) = ((x % y : Nat) : Int) from by rw [Int.fmod_eq_emod_of_nonneg _ (by omega)]; rfl]
          have := Nat.mod_lt x (show 0 < y by omega)
          omega
    · rintro σ H' Q1 Q2 hm ⟨v, e, hsc, kk, ek, q⟩
      exact ⟨v, e, hsc, kk, ek, hm _ _ q⟩
theorem c_written (T : Tx K mg) : Cal P w K mg base 1 "_law_written" (gAd "_law_written" K) ["_law_pair_here"] (spPair fun t b => .str (S (fL t b))) := by
  refine cal_of (d := d_l_written) (N := ["_law_pair_here"]) (a_l_written T.c) rfl sc_l_written (g_l_written T) (fun _ _ _ _ _ _ us hl => match us, hl with | [_], _ => rfl) (fun vs H Q E h => ?_) (fun cdv A outer s H vs Q E hr h => ?_)
  · obtain ⟨p, t, b, rfl, _⟩ := h
    rfl
  · obtain ⟨p, t, b, rfl, hp, hb, st, sb, k⟩ := h
    refine ⟨_, (pss_one (ps_ret (pe_ifExp (pt_cmpR op_eq (pe_ix ix_tup (pv 0) pe_int (fun _ _ => rfl)) pe_int (nomark _)) (pe_callTy call_str_int (by rfl) (n_str T) bo_str (pa_cons (pe_ix ix_tup (pv 0) pe_int (fun _ _ => rfl)) pa_nil)) (pe_op op_add_str (pe_op op_add_str (pe_callTy call_str_int (by rfl) (n_str T) bo_str (pa_cons (pe_ix ix_tup (pv 0) pe_int (fun _ _ => rfl)) pa_nil)) pe_str) (pe_callTy call_str_int (by rfl) (n_str T) bo_str (pa_cons (pe_ix ix_tup (pv 0) pe_int (fun _ _ => rfl)) pa_nil)))))), ?_⟩
    have l1 := i_len st
    have l2 := i_len sb
    have k := k H (Same.refl H)
    refine ⟨_, rfl, p, _, _, _, rfl, rfl, .inl (.inl hp), rfl, rfl, _, rfl, ?_⟩
    refine ite2 (fun z => ?_) (fun z => ?_)
    · have e : b = 1 := V.int.inj (of_decide_eq_true z)
      refine ⟨_, rfl, p, _, _, _, rfl, rfl, .inl (.inl hp), rfl, _, rfl, log2_small st, ?_⟩
      have k' : Q (.str (S (fL t b))) H := k
      unfold fL at k'
      rw [if_pos e] at k'
      show Q (.str _) H
      rw [toS]
      exact k'
    · have e : ¬ b = 1 := fun q => z (decide_eq_true (by rw [q]))
      refine ⟨_, rfl, p, _, _, _, rfl, rfl, .inl (.inl hp), rfl, _, rfl, log2_small st, _, _, rfl, rfl, ?_, ?_⟩
      · rw [toS, slash_S, S_len, S_len]
        exact line_ge (by simp; omega)
      refine ⟨_, rfl, p, _, _, _, rfl, rfl, .inl (.inl hp), rfl, _, rfl, log2_small sb, _, _, rfl, rfl, ?_, ?_⟩
      · rw [toS, toS, slash_S, S_cat, S_len, S_len]
        exact line_ge (by simp; omega)
      have k' : Q (.str (S (fL t b))) H := k
      unfold fL at k'
      rw [if_neg e] at k'
      show Q (.str _) H
      rw [toS, toS, slash_S, S_cat, S_cat, List.append_assoc]
      exact k'
def SprAt (a : Addr) (H : Hp) : Prop := ∃ d e c, H a = some (.lst (sprL d e c)) ∧ Spr d e c
theorem SprAt.same {a : Addr} {H H' : Hp} (s : SprAt a H) (h : Same H H') : SprAt a H' := by
  obtain ⟨d, e, c, h1, h2⟩ := s
  exact ⟨d, e, c, h _ _ h1, h2⟩
theorem SprAt.ne {a p : Addr} {H : Hp} (s : SprAt a H) (np : H p = none) : a ≠ p := by
  obtain ⟨d, e, c, h1, h2⟩ := s
  exact ne_of_none h1 np
def spNextO : Sp := fun vs H Q _ => ∃ (a : Addr) (m : Int), vs = [.ref a, .int m] ∧ SprAt a H ∧ 0 < m ∧ m.natAbs < 2 ^ 200 ∧ ∀ (v : Int) (H' : Hp), 0 ≤ v → v < m → Old a H H' → SprAt a H' → Q (.int v) H'
theorem c_nextO (T : Tx K mg) : Cal P w K mg base 1 "_law_next" (gAd "_law_next" K) ["_law_spring_here", "_law_many"] spNextO :=
  (c_next T).imp fun vs H Q E ⟨a, m, e, ⟨d, x, c, h1, h2⟩, hm, hm2, k⟩ => ⟨a, m, d, x, c, e, h1, h2, hm, hm2, fun v d' e' c' v0 v1 s => k v _ v0 v1 Old.put ⟨d', e', c', upd_same, s⟩⟩
theorem p20 : ((10 : Int) ^ (20 : Int).toNat) = 100000000000000000000 := by decide +kernel
theorem sz_of {z : Int} (h : -(2 ^ 200) < z) (h2 : z < 2 ^ 200) : Sz z := by
  have e : (2 : Nat) ^ 200 ≤ 2 ^ 1000 := by decide +kernel
  have : z.natAbs < 2 ^ 200 := by omega
  exact Nat.lt_of_lt_of_le this e
end
end K02

namespace K02
open PySem PySem.Spec PyProof.Rows L2 Hk NumM NumT SX
open TL (numL)
section
variable {P : Program} {w : World} {K : Fr} {mg : Str → Option Value} {base : Heap}
theorem sz1 : Sz 1 := by decide +kernel
theorem low_one (u : Int) : lowT u 1 = u ∧ lowB u 1 = 1 := low_red (t := u) (b := 1) (by decide) (by simp)
theorem NumAt.lo {C : Addr} {H : Hp} {p : Addr} {t b : Int} (n : NumAt C H p t b) : lowT t b = t ∧ lowB t b = b := low_red n.pos n.cop
theorem c_asnum (T : Tx K mg) : Cal P w K mg base 4 "as_number" (gAd "as_number" K) ["value"] (spAsN (CN K)) := by
  have C_is_integer := c_isint (P := P) (w := w) (base := base) T
  obtain ⟨f0, D0, F0⟩ := f_init (P := P) (w := w) (base := base) T
  refine cal_of (d := d_as_number) (N := ["value"]) (a_as_number T.c) rfl sc_as_number (g_as_number T) (fun _ _ _ _ _ _ us hl => match us, hl with | [_], _ => rfl) (fun vs H Q E h => ?_) (fun cdv A outer s H vs Q E hr h => ?_)
  · obtain ⟨y, u, c, rfl, _⟩ := h
    rfl
  · obtain ⟨y, u, c, rfl, o, su, k⟩ := h
    obtain ⟨ds, Vd, B0⟩ := b_init1 D0
    refine ⟨_, (pss_cons (ps_if (pt_val (pe_callB call_isi (by rfl) (n_isinstance T) bo_isinstance (pa_cons (pv 0) (pa_cons (pe_glob (v := .ref (gAd "Number" K)) rfl (g_Number T) rfl) pa_nil))))
      (pss_one (ps_ret (pv 0))) pss_nil)
      (pss_cons (ps_if (pt_val (pe_c C_is_integer (hr.mono (by decide)) (pa_cons (pv 0) pa_nil)))
      (pss_one (ps_ret (pe_num (He.mkr_ok (f_mkr_Number T.c)) F0 hr (g_Number T) B0 Vd (pa_cons (pv 0) pa_nil)))) pss_nil)
      (pss_one ps_never))), ?_⟩
    rcases o with ⟨q, rfl, N⟩ | ⟨rfl, rfl⟩
    · obtain ⟨dx, hp⟩ := id N.at_
      refine ⟨_, rfl, _, _, _, _, true, rfl, .own _, .base (ins_ok (f_ins T.c) hp (cl T)), of_decide_eq_true (f_kitO T.c), true, rfl, iteT ?_⟩
      exact ⟨_, rfl, k _ _ (Same.refl H) N⟩
    · refine ⟨_, rfl, _, _, _, _, false, rfl, .own _, .base (.int _), of_decide_eq_true (f_kit_int T.c), false, rfl, iteF ?_⟩
      refine ⟨_, rfl, u, rfl, true, rfl, iteT ?_⟩
      refine ⟨_, rfl, u, 1, rfl, by decide, sz1, fun H' p s np N => ?_⟩
      rw [(low_one u).1, (low_one u).2] at N
      exact k _ _ s N
end
end K02

namespace K02
open PySem PySem.Spec PyProof.Rows L2 Hk NumM NumT SX
open TL (numL)
section
variable {P : Program} {w : World} {K : Fr} {mg : Str → Option Value} {base : Heap}
theorem f_add (T : Tx K mg) : ∃ fd, DAt K d_Number_add fd ∧ FnOk P w K mg base CX0 5 (d_Number_add.ad K) fd ["self", "other"] (spBin (CN K) (fun t b u c => t * c + u * b) (fun t b u c => b * c) (fun _ _ _ _ => True)) := by
  obtain ⟨fd, D⟩ := a_Number_add T.c
  have C_as_number := c_asnum (P := P) (w := w) (base := base) T
  obtain ⟨f0, D0, F0⟩ := f_init (P := P) (w := w) (base := base) T
  obtain ⟨f1, D1, F1⟩ := f_top (P := P) (w := w) (base := base) T
  obtain ⟨f2, D2, F2⟩ := f_bottom (P := P) (w := w) (base := base) T
  have b1 : Binds K f1 ["self"] [] := FunD.bindsN D1 fun _ _ _ _ _ _ us hl => match us, hl with | [_], _ => rfl
  have b2 : Binds K f2 ["self"] [] := FunD.bindsN D2 fun _ _ _ _ _ _ us hl => match us, hl with | [_], _ => rfl
  refine ⟨fd, D, ok_of (N := ["self", "other", "right"]) D sc_Number_add (fun vs H Q E h => ?_) (fun cdv A outer s H vs Q E hr h => ?_)⟩
  · obtain ⟨p, y, t, b, u, c, rfl, _⟩ := h
    rfl
  · obtain ⟨p, y, t, b, u, c, rfl, N, o, zt, zb, zu, zc, _, k⟩ := h
    refine ⟨_, (pss_cons (ps_set (i := 2) sc_Number_add.nd rfl (.inl rfl) (pe_c C_as_number hr (pa_cons (pv 1) pa_nil)))
      (pss_one (ps_ret (pe_num (mkN T) F0 (hr.mono (by decide)) (g_Number T) (b_init2 D0) .nil (pa_cons (pe_op op_add (pe_op op_mulW (pe_fld (pv 0) rfl) (pe_prop (pv 2) (cl T) (prop_ok (f_prop_bottom T.c)) F2 (hr.mono (by decide)) b2 .nil pass0 rfl)) (pe_op op_mulW (pe_prop (pv 2) (cl T) (prop_ok (f_prop_top T.c)) F1 (hr.mono (by decide)) b1 .nil pass0 rfl) (pe_fld (pv 0) rfl))) (pa_cons (pe_op op_mulW (pe_fld (pv 0) rfl) (pe_prop (pv 2) (cl T) (prop_ok (f_prop_bottom T.c)) F2 (hr.mono (by decide)) b2 .nil pass0 rfl)) pa_nil)))))), ?_⟩
    refine ⟨_, rfl, y, u, c, rfl, o, sm_sz zu, fun H1 q s1 M => ?_⟩
    have N1 := N.same s1
    obtain ⟨dp, hp⟩ := id N1.at_
    obtain ⟨dq, hq⟩ := id M.at_
    refine ⟨_, rfl, p, CN K, dp, _, _, rfl, hp, cl T, nT T, numF_top _ _, _, rfl, q, dq, _, rfl, hq, q, u, c, rfl, M, sm_sz zu, sm_sz zc, _, _, rfl, rfl, cm zt zc, _, rfl, q, dq, _, rfl, hq, q, u, c, rfl, M, sm_sz zu, sm_sz zc, _, rfl, p, CN K, dp, _, _, rfl, hp, cl T, nB T, numF_bot _ _, _, _, rfl, rfl, cm zu zb, _, _, rfl, rfl, _, rfl, p, CN K, dp, _, _, rfl, hp, cl T, nB T, numF_bot _ _, _, rfl, q, dq, _, rfl, hq, q, u, c, rfl, M, sm_sz zu, sm_sz zc, _, _, rfl, rfl, cm zb zc, ?_⟩
    exact ⟨_, _, rfl, (Int.mul_ne_zero (by have := N.pos; omega) (by have := M.pos; omega)), sz_mulS zb zc, fun H2 r s2 nr R => k H2 r (s1.trans s2) R⟩
theorem f_sub (T : Tx K mg) : ∃ fd, DAt K d_Number_sub fd ∧ FnOk P w K mg base CX0 5 (d_Number_sub.ad K) fd ["self", "other"] (spBin (CN K) (fun t b u c => t * c - u * b) (fun t b u c => b * c) (fun _ _ _ _ => True)) := by
  obtain ⟨fd, D⟩ := a_Number_sub T.c
  have C_as_number := c_asnum (P := P) (w := w) (base := base) T
  obtain ⟨f0, D0, F0⟩ := f_init (P := P) (w := w) (base := base) T
  obtain ⟨f1, D1, F1⟩ := f_top (P := P) (w := w) (base := base) T
  obtain ⟨f2, D2, F2⟩ := f_bottom (P := P) (w := w) (base := base) T
  have b1 : Binds K f1 ["self"] [] := FunD.bindsN D1 fun _ _ _ _ _ _ us hl => match us, hl with | [_], _ => rfl
  have b2 : Binds K f2 ["self"] [] := FunD.bindsN D2 fun _ _ _ _ _ _ us hl => match us, hl with | [_], _ => rfl
  refine ⟨fd, D, ok_of (N := ["self", "other", "right"]) D sc_Number_sub (fun vs H Q E h => ?_) (fun cdv A outer s H vs Q E hr h => ?_)⟩
  · obtain ⟨p, y, t, b, u, c, rfl, _⟩ := h
    rfl
  · obtain ⟨p, y, t, b, u, c, rfl, N, o, zt, zb, zu, zc, _, k⟩ := h
    refine ⟨_, (pss_cons (ps_set (i := 2) sc_Number_sub.nd rfl (.inl rfl) (pe_c C_as_number hr (pa_cons (pv 1) pa_nil)))
      (pss_one (ps_ret (pe_num (mkN T) F0 (hr.mono (by decide)) (g_Number T) (b_init2 D0) .nil (pa_cons (pe_op op_sub (pe_op op_mulW (pe_fld (pv 0) rfl) (pe_prop (pv 2) (cl T) (prop_ok (f_prop_bottom T.c)) F2 (hr.mono (by decide)) b2 .nil pass0 rfl)) (pe_op op_mulW (pe_prop (pv 2) (cl T) (prop_ok (f_prop_top T.c)) F1 (hr.mono (by decide)) b1 .nil pass0 rfl) (pe_fld (pv 0) rfl))) (pa_cons (pe_op op_mulW (pe_fld (pv 0) rfl) (pe_prop (pv 2) (cl T) (prop_ok (f_prop_bottom T.c)) F2 (hr.mono (by decide)) b2 .nil pass0 rfl)) pa_nil)))))), ?_⟩
    refine ⟨_, rfl, y, u, c, rfl, o, sm_sz zu, fun H1 q s1 M => ?_⟩
    have N1 := N.same s1
    obtain ⟨dp, hp⟩ := id N1.at_
    obtain ⟨dq, hq⟩ := id M.at_
    refine ⟨_, rfl, p, CN K, dp, _, _, rfl, hp, cl T, nT T, numF_top _ _, _, rfl, q, dq, _, rfl, hq, q, u, c, rfl, M, sm_sz zu, sm_sz zc, _, _, rfl, rfl, cm zt zc, _, rfl, q, dq, _, rfl, hq, q, u, c, rfl, M, sm_sz zu, sm_sz zc, _, rfl, p, CN K, dp, _, _, rfl, hp, cl T, nB T, numF_bot _ _, _, _, rfl, rfl, cm zu zb, _, _, rfl, rfl, _, rfl, p, CN K, dp, _, _, rfl, hp, cl T, nB T, numF_bot _ _, _, rfl, q, dq, _, rfl, hq, q, u, c, rfl, M, sm_sz zu, sm_sz zc, _, _, rfl, rfl, cm zb zc, ?_⟩
    exact ⟨_, _, rfl, (Int.mul_ne_zero (by have := N.pos; omega) (by have := M.pos; omega)), sz_mulS zb zc, fun H2 r s2 nr R => k H2 r (s1.trans s2) R⟩
theorem f_mul (T : Tx K mg) : ∃ fd, DAt K d_Number_mul fd ∧ FnOk P w K mg base CX0 5 (d_Number_mul.ad K) fd ["self", "other"] (spBin (CN K) (fun t b u c => t * u) (fun t b u c => b * c) (fun _ _ _ _ => True)) := by
  obtain ⟨fd, D⟩ := a_Number_mul T.c
  have C_as_number := c_asnum (P := P) (w := w) (base := base) T
  obtain ⟨f0, D0, F0⟩ := f_init (P := P) (w := w) (base := base) T
  obtain ⟨f1, D1, F1⟩ := f_top (P := P) (w := w) (base := base) T
  obtain ⟨f2, D2, F2⟩ := f_bottom (P := P) (w := w) (base := base) T
  have b1 : Binds K f1 ["self"] [] := FunD.bindsN D1 fun _ _ _ _ _ _ us hl => match us, hl with | [_], _ => rfl
  have b2 : Binds K f2 ["self"] [] := FunD.bindsN D2 fun _ _ _ _ _ _ us hl => match us, hl with | [_], _ => rfl
  refine ⟨fd, D, ok_of (N := ["self", "other", "right"]) D sc_Number_mul (fun vs H Q E h => ?_) (fun cdv A outer s H vs Q E hr h => ?_)⟩
  · obtain ⟨p, y, t, b, u, c, rfl, _⟩ := h
    rfl
  · obtain ⟨p, y, t, b, u, c, rfl, N, o, zt, zb, zu, zc, _, k⟩ := h
    refine ⟨_, (pss_cons (ps_set (i := 2) sc_Number_mul.nd rfl (.inl rfl) (pe_c C_as_number hr (pa_cons (pv 1) pa_nil)))
      (pss_one (ps_ret (pe_num (mkN T) F0 (hr.mono (by decide)) (g_Number T) (b_init2 D0) .nil (pa_cons (pe_op op_mulW (pe_fld (pv 0) rfl) (pe_prop (pv 2) (cl T) (prop_ok (f_prop_top T.c)) F1 (hr.mono (by decide)) b1 .nil pass0 rfl)) (pa_cons (pe_op op_mulW (pe_fld (pv 0) rfl) (pe_prop (pv 2) (cl T) (prop_ok (f_prop_bottom T.c)) F2 (hr.mono (by decide)) b2 .nil pass0 rfl)) pa_nil)))))), ?_⟩
    refine ⟨_, rfl, y, u, c, rfl, o, sm_sz zu, fun H1 q s1 M => ?_⟩
    have N1 := N.same s1
    obtain ⟨dp, hp⟩ := id N1.at_
    obtain ⟨dq, hq⟩ := id M.at_
    refine ⟨_, rfl, p, CN K, dp, _, _, rfl, hp, cl T, nT T, numF_top _ _, _, rfl, q, dq, _, rfl, hq, q, u, c, rfl, M, sm_sz zu, sm_sz zc, _, _, rfl, rfl, cm zt zu, _, rfl, p, CN K, dp, _, _, rfl, hp, cl T, nB T, numF_bot _ _, _, rfl, q, dq, _, rfl, hq, q, u, c, rfl, M, sm_sz zu, sm_sz zc, _, _, rfl, rfl, cm zb zc, ?_⟩
    exact ⟨_, _, rfl, (Int.mul_ne_zero (by have := N.pos; omega) (by have := M.pos; omega)), sz_mulS zb zc, fun H2 r s2 nr R => k H2 r (s1.trans s2) R⟩
end
end K02

namespace K02
open PySem PySem.Spec PyProof.Rows L2 Hk NumM NumT SX
open TL (numL)
section
variable {P : Program} {w : World} {K : Fr} {mg : Str → Option Value} {base : Heap}
theorem f_sign (T : Tx K mg) : ∃ fd, DAt K d_Number_sign fd ∧ FnOk P w K mg base CX0 1 (d_Number_sign.ad K) fd ["self"] (spGet (CN K) fun t _ => .int (sgn t)) := by
  obtain ⟨fd, D⟩ := a_Number_sign T.c
  refine ⟨fd, D, ok_of (N := ["self"]) D sc_Number_sign (fun vs H Q E h => ?_) (fun cdv A outer s H vs Q E hr h => ?_)⟩
  · obtain ⟨p, t, b, rfl, _⟩ := h
    rfl
  · obtain ⟨p, t, b, rfl, ⟨⟨dx, hp⟩, _, _⟩, _, _, k⟩ := h
    refine ⟨_, (pss_cons (ps_if (pt_cmpR op_eq (pe_fld (pv 0) rfl) pe_int (nomark _)) (pss_one (ps_ret pe_int)) pss_nil)
      (pss_one (ps_ret (pe_ifExp (pt_cmpR op_gt (pe_fld (pv 0) rfl) pe_int (nomark _)) pe_int (pe_un un_neg pe_int))))), ?_⟩
    refine ⟨_, rfl, p, CN K, dx, _, _, rfl, hp, cl T, nT T, numF_top _ _, rfl, _, rfl, ?_⟩
    refine ite2 (fun z => ?_) (fun z => ?_)
    · have e : t = 0 := V.int.inj (of_decide_eq_true z)
      subst e
      exact k
    · have e : ¬ t = 0 := fun q => z (decide_eq_true (by rw [q]))
      refine ⟨_, rfl, p, CN K, dx, _, _, rfl, hp, cl T, nT T, numF_top _ _, _, _, rfl, rfl, _, rfl, ?_⟩
      refine ite2 (fun q => ?_) (fun q => ?_)
      · have q' : 0 < t := of_decide_eq_true q
        have es : sgn t = 1 := by unfold sgn; rw [if_neg e, if_pos q']
        have k' : Q (.int (sgn t)) H := k
        rw [es] at k'
        exact k'
      · have q' : ¬ 0 < t := fun q2 => q (decide_eq_true q2)
        have es : sgn t = -1 := by unfold sgn; rw [if_neg e, if_neg q']
        have k' : Q (.int (sgn t)) H := k
        rw [es] at k'
        exact ⟨_, rfl, k'⟩
theorem sm1 : Sm 1 := by decide +kernel
theorem f_radd (T : Tx K mg) : ∃ fd, DAt K d_Number_radd fd ∧ FnOk P w K mg base CX0 6 (d_Number_radd.ad K) fd ["self", "other"] (spRbin (CN K) (fun i t b => i * b + t * 1)) := by
  obtain ⟨fd, D⟩ := a_Number_radd T.c
  have C_as_number := c_asnum (P := P) (w := w) (base := base) T
  obtain ⟨f0, D0, F0⟩ := f_add (P := P) (w := w) (base := base) T
  have b0 : Binds K f0 ["self", "other"] [] := FunD.bindsN D0 fun _ _ _ _ _ _ us hl => match us, hl with | [_, _], _ => rfl
  refine ⟨fd, D, ok_of (N := ["self", "other"]) D sc_Number_radd (fun vs H Q E h => ?_) (fun cdv A outer s H vs Q E hr h => ?_)⟩
  · obtain ⟨p, i, t, b, rfl, _⟩ := h
    rfl
  · obtain ⟨p, i, t, b, rfl, N, zt, zb, zi, k⟩ := h
    refine ⟨_, (pss_one (ps_ret (pe_op (op_binO (bin_ok (f_bin_add T.c)) F0 b0 hr) (pe_c C_as_number (hr.mono (by decide)) (pa_cons (pv 1) pa_nil)) (pv 0)))), ?_⟩
    refine ⟨_, rfl, _, i, 1, rfl, .inr ⟨rfl, rfl⟩, sm_sz zi, fun H1 q s1 M => ?_⟩
    have N1 := N.same s1
    obtain ⟨dp, hp⟩ := id N1.at_
    obtain ⟨dq, hq⟩ := id M.at_
    refine ⟨_, rfl, q, dq, _, rfl, hq, .inr ⟨p, dp, _, rfl, hp⟩, q, _, i, 1, t, b, rfl, M, .inl ⟨p, rfl, N1⟩, zi, sm1, zt, zb, trivial, fun H2 r s2 R => ?_⟩
    exact k H2 r (s1.trans s2) R
theorem f_rsub (T : Tx K mg) : ∃ fd, DAt K d_Number_rsub fd ∧ FnOk P w K mg base CX0 6 (d_Number_rsub.ad K) fd ["self", "other"] (spRbin (CN K) (fun i t b => i * b - t * 1)) := by
  obtain ⟨fd, D⟩ := a_Number_rsub T.c
  have C_as_number := c_asnum (P := P) (w := w) (base := base) T
  obtain ⟨f0, D0, F0⟩ := f_sub (P := P) (w := w) (base := base) T
  have b0 : Binds K f0 ["self", "other"] [] := FunD.bindsN D0 fun _ _ _ _ _ _ us hl => match us, hl with | [_, _], _ => rfl
  refine ⟨fd, D, ok_of (N := ["self", "other"]) D sc_Number_rsub (fun vs H Q E h => ?_) (fun cdv A outer s H vs Q E hr h => ?_)⟩
  · obtain ⟨p, i, t, b, rfl, _⟩ := h
    rfl
  · obtain ⟨p, i, t, b, rfl, N, zt, zb, zi, k⟩ := h
    refine ⟨_, (pss_one (ps_ret (pe_op (op_binO (bin_ok (f_bin_sub T.c)) F0 b0 hr) (pe_c C_as_number (hr.mono (by decide)) (pa_cons (pv 1) pa_nil)) (pv 0)))), ?_⟩
    refine ⟨_, rfl, _, i, 1, rfl, .inr ⟨rfl, rfl⟩, sm_sz zi, fun H1 q s1 M => ?_⟩
    have N1 := N.same s1
    obtain ⟨dp, hp⟩ := id N1.at_
    obtain ⟨dq, hq⟩ := id M.at_
    refine ⟨_, rfl, q, dq, _, rfl, hq, .inr ⟨p, dp, _, rfl, hp⟩, q, _, i, 1, t, b, rfl, M, .inl ⟨p, rfl, N1⟩, zi, sm1, zt, zb, trivial, fun H2 r s2 R => ?_⟩
    exact k H2 r (s1.trans s2) R
theorem f_rmul (T : Tx K mg) : ∃ fd, DAt K d_Number_rmul fd ∧ FnOk P w K mg base CX0 6 (d_Number_rmul.ad K) fd ["self", "other"] (spRbin (CN K) (fun i t b => i * t)) := by
  obtain ⟨fd, D⟩ := a_Number_rmul T.c
  have C_as_number := c_asnum (P := P) (w := w) (base := base) T
  obtain ⟨f0, D0, F0⟩ := f_mul (P := P) (w := w) (base := base) T
  have b0 : Binds K f0 ["self", "other"] [] := FunD.bindsN D0 fun _ _ _ _ _ _ us hl => match us, hl with | [_, _], _ => rfl
  refine ⟨fd, D, ok_of (N := ["self", "other"]) D sc_Number_rmul (fun vs H Q E h => ?_) (fun cdv A outer s H vs Q E hr h => ?_)⟩
  · obtain ⟨p, i, t, b, rfl, _⟩ := h
    rfl
  · obtain ⟨p, i, t, b, rfl, N, zt, zb, zi, k⟩ := h
    refine ⟨_, (pss_one (ps_ret (pe_op (op_binO (bin_ok (f_bin_mul T.c)) F0 b0 hr) (pe_c C_as_number (hr.mono (by decide)) (pa_cons (pv 1) pa_nil)) (pv 0)))), ?_⟩
    refine ⟨_, rfl, _, i, 1, rfl, .inr ⟨rfl, rfl⟩, sm_sz zi, fun H1 q s1 M => ?_⟩
    have N1 := N.same s1
    obtain ⟨dp, hp⟩ := id N1.at_
    obtain ⟨dq, hq⟩ := id M.at_
    refine ⟨_, rfl, q, dq, _, rfl, hq, .inr ⟨p, dp, _, rfl, hp⟩, q, _, i, 1, t, b, rfl, M, .inl ⟨p, rfl, N1⟩, zi, sm1, zt, zb, trivial, fun H2 r s2 R => ?_⟩
    exact k H2 r (s1.trans s2) R
theorem f_neg (T : Tx K mg) : ∃ fd, DAt K d_Number_neg fd ∧ FnOk P w K mg base CX0 4 (d_Number_neg.ad K) fd ["self"] (spUn (CN K) (fun t => -t)) := by
  obtain ⟨fd, D⟩ := a_Number_neg T.c
  obtain ⟨f0, D0, F0⟩ := f_init (P := P) (w := w) (base := base) T
  refine ⟨fd, D, ok_of (N := ["self"]) D sc_Number_neg (fun vs H Q E h => ?_) (fun cdv A outer s H vs Q E hr h => ?_)⟩
  · obtain ⟨p, t, b, rfl, _⟩ := h
    rfl
  · obtain ⟨p, t, b, rfl, N, zt, zb, k⟩ := h
    refine ⟨_, (pss_one (ps_ret (pe_num (mkN T) F0 (hr.mono (by decide)) (g_Number T) (b_init2 D0) .nil (pa_cons (pe_un un_neg (pe_fld (pv 0) rfl)) (pa_cons (pe_fld (pv 0) rfl) pa_nil))))), ?_⟩
    obtain ⟨dp, hp⟩ := id N.at_
    have e : ∀ z : Int, z = -t → lowT z b = -t ∧ lowB z b = b := by
      rintro z rfl
      exact low_red N.pos (by have := N.cop; simpa using this)
    refine ⟨_, rfl, p, CN K, dp, _, _, rfl, hp, cl T, nT T, numF_top _ _, _, rfl, _, rfl, p, CN K, dp, _, _, rfl, hp, cl T, nB T, numF_bot _ _, ?_⟩
    refine ⟨_, _, rfl, by have := N.pos; omega, sm_sz zb, fun H2 r s2 nr R => ?_⟩
    obtain ⟨e1, e2⟩ := e _ rfl
    rw [e1, e2] at R
    exact k H2 r s2 R
theorem f_abs (T : Tx K mg) : ∃ fd, DAt K d_Number_abs fd ∧ FnOk P w K mg base CX0 4 (d_Number_abs.ad K) fd ["self"] (spUn (CN K) (fun t => ((t.natAbs : Nat) : Int))) := by
  obtain ⟨fd, D⟩ := a_Number_abs T.c
  obtain ⟨f0, D0, F0⟩ := f_init (P := P) (w := w) (base := base) T
  refine ⟨fd, D, ok_of (N := ["self"]) D sc_Number_abs (fun vs H Q E h => ?_) (fun cdv A outer s H vs Q E hr h => ?_)⟩
  · obtain ⟨p, t, b, rfl, _⟩ := h
    rfl
  · obtain ⟨p, t, b, rfl, N, zt, zb, k⟩ := h
    refine ⟨_, (pss_one (ps_ret (pe_num (mkN T) F0 (hr.mono (by decide)) (g_Number T) (b_init2 D0) .nil (pa_cons (pe_callB call_abs (by rfl) (n_abs T) bo_abs (pa_cons (pe_fld (pv 0) rfl) pa_nil)) (pa_cons (pe_fld (pv 0) rfl) pa_nil))))), ?_⟩
    obtain ⟨dp, hp⟩ := id N.at_
    have e : ∀ z : Int, z = ((t.natAbs : Nat) : Int) → lowT z b = ((t.natAbs : Nat) : Int) ∧ lowB z b = b := by
      rintro z rfl
      exact low_red N.pos (by have := N.cop; simpa using this)
    refine ⟨_, rfl, p, CN K, dp, _, _, rfl, hp, cl T, nT T, numF_top _ _, _, rfl, _, rfl, p, CN K, dp, _, _, rfl, hp, cl T, nB T, numF_bot _ _, ?_⟩
    have ea : (if t < 0 then -t else t) = ((t.natAbs : Nat) : Int) := by split <;> omega
    refine ⟨_, _, rfl, by have := N.pos; omega, sm_sz zb, fun H2 r s2 nr R => ?_⟩
    obtain ⟨e1, e2⟩ := e _ ea
    rw [e1, e2] at R
    exact k H2 r s2 R
theorem sm_pow {t : Int} (h : t.natAbs < 2 ^ 20) {i : Nat} (hi : i ≤ 20) : Sm (t ^ i) := by
  have e : (2 : Nat) ^ 400 < 2 ^ 450 := by decide +kernel
  show (t ^ i).natAbs < 2 ^ 450
  rw [Int.natAbs_pow]
  have a : t.natAbs ^ i ≤ (2 ^ 20) ^ i := Nat.pow_le_pow_left (Nat.le_of_lt h) i
  have b : (2 ^ 20) ^ i ≤ (2 ^ 20) ^ 20 := Nat.pow_le_pow_right (by decide) hi
  have c : ((2 : Nat) ^ 20) ^ 20 = 2 ^ 400 := by decide +kernel
  rw [c] at b
  exact Nat.lt_of_le_of_lt (Nat.le_trans a b) e
theorem cop_pow {t b : Int} (h : Nat.gcd t.natAbs b.natAbs = 1) (i : Nat) : Nat.gcd (t ^ i).natAbs (b ^ i).natAbs = 1 := by
  rw [Int.natAbs_pow, Int.natAbs_pow]
  exact Nat.Coprime.pow i i h
def spPow (C : Addr) : Sp := fun vs H Q _ => ∃ (p : Addr) (t b : Int) (n : Nat), vs = [.ref p, .int (n : Int)] ∧ NumAt C H p t b ∧ t.natAbs < 2 ^ 20 ∧ b.natAbs < 2 ^ 20 ∧ n ≤ 20 ∧
  ∀ (H' : Hp) (q : Addr), Same H H' → NumAt C H' q (t ^ n) (b ^ n) → Q (.ref q) H'
theorem f_pow (T : Tx K mg) : ∃ fd, DAt K d_Number_pow fd ∧ FnOk P w K mg base CX0 6 (d_Number_pow.ad K) fd ["self", "other"] (spPow (CN K)) := by
  obtain ⟨fd, D⟩ := a_Number_pow T.c
  have C_is_integer := c_isint (P := P) (w := w) (base := base) T
  obtain ⟨f0, D0, F0⟩ := f_init (P := P) (w := w) (base := base) T
  obtain ⟨f1, D1, F1⟩ := f_mul (P := P) (w := w) (base := base) T
  obtain ⟨ds, Vd, B0⟩ := b_init1 D0
  have b1 : Binds K f1 ["self", "other"] [] := FunD.bindsN D1 fun _ _ _ _ _ _ us hl => match us, hl with | [_, _], _ => rfl
  obtain ⟨tm, im⟩ := i_MAX_POWER T
  refine ⟨fd, D, ok_of (N := ["self", "other", "power", "_"]) D sc_Number_pow (fun vs H Q E h => ?_) (fun cdv A outer s H vs Q E hr h => ?_)⟩
  · obtain ⟨p, t, b, n, rfl, _⟩ := h
    rfl
  · obtain ⟨p, t, b, n, rfl, N, zt, zb, hn, k⟩ := h
    refine ⟨_, (pss_cons (ps_if (PW.pt (pw_or (pt_not (pt_val (pe_c C_is_integer (hr.mono (by decide)) (pa_cons (pv 1) pa_nil)))) (pw_or1 (pt_not (pt_chain op_le op_le pe_int (pv 1) (pe_glob (v := .int 20) rfl im ⟨_, rfl⟩))))))
 (pss_one ps_never)
 pss_nil)
 (pss_cons (ps_set (i := 2) sc_Number_pow.nd rfl (.inl rfl) (pe_num (mkN T) F0 (hr.mono (by decide)) (g_Number T) B0 Vd (pa_cons pe_int pa_nil)))
 (pss_cons (ps_for PassesOwn.never rfl (pi_range1 (by rfl) (n_range T) (pa_cons (pv 1) pa_nil)) (pg_name (i := 3) sc_Number_pow.nd rfl (.inl rfl))
 (pss_one (ps_set (i := 2) sc_Number_pow.nd rfl (.inl rfl) (pe_op (op_binO (bin_ok (f_bin_mul T.c)) F1 b1 hr) (pv 2) (pv 0)))))
 (pss_one (ps_ret (pv 2)))))), ?_⟩
    have h0 : decide ((0 : Int) ≤ (n : Int)) = true := decide_eq_true (by omega)
    have h20 : decide ((n : Int) ≤ 20) = true := decide_eq_true (by omega)
    refine ⟨_, rfl, (n : Int), rfl, true, rfl, iteF ?_⟩
    refine ⟨_, rfl, _, _, rfl, rfl, true, congrArg V.bl h0, iteT ?_⟩
    refine ⟨_, _, rfl, rfl, true, congrArg V.bl h20, iteF ?_⟩
    refine ⟨1, 1, rfl, by decide, sz1, fun H1 q s1 nq M => ?_⟩
    rw [(low_one 1).1, (low_one 1).2] at M
    refine ⟨_, rfl, _, rfl, by omega, by omega, ?_⟩
    have M' : NumAt (CN K) H1 q (t ^ 0) (b ^ 0) := by rw [Int.pow_zero, Int.pow_zero]; exact M
    refine for_range (lo := 0) (n := (n : Int).toNat) (fun i σ H' => Same H H' ∧ ∃ (r : Addr) (y : Option V), NumAt (CN K) H' r (t ^ i) (b ^ i) ∧ σ = [some (.ref p), some (.int n), some (.ref r), y]) ⟨s1, q, none, M', rfl⟩ ?_ ?_
    · rintro i σ H' hi ⟨s2, r, y, R, rfl⟩
      have N2 := N.same s2
      obtain ⟨dp, hp⟩ := id N2.at_
      obtain ⟨dr, hr2⟩ := id R.at_
      have hi' : i ≤ 20 := by omega
      have e20 : (2 : Nat) ^ 20 < 2 ^ 450 := by decide +kernel
      refine ⟨_, rfl, _, rfl, r, dr, _, rfl, hr2, .inr ⟨p, dp, _, rfl, hp⟩, r, _, t ^ i, b ^ i, t, b, rfl, R, .inl ⟨p, rfl, N2⟩, sm_pow zt hi', sm_pow zb hi', Nat.lt_trans zt e20, Nat.lt_trans zb e20, trivial, fun H3 r3 s3 R3 => ?_⟩
      have pb : 0 < b ^ (i + 1) := Int.pow_pos N.pos
      have lo := low_red (t := t ^ (i + 1)) (b := b ^ (i + 1)) pb (cop_pow N.cop _)
      have e1 : t ^ i * t = t ^ (i + 1) := (Int.pow_succ t i).symm
      have e2 : b ^ i * b = b ^ (i + 1) := (Int.pow_succ b i).symm
      simp only [e1, e2] at R3
      rw [lo.1, lo.2] at R3
      exact ⟨s2.trans s3, r3, _, R3, rfl⟩
    · rintro σ H' ⟨s2, r, y, R, rfl⟩
      refine ⟨_, rfl, ?_⟩
      rw [show ((n : Int).toNat) = n from by omega] at R
      exact k _ _ s2 R
theorem f_over (T : Tx K mg) : ∃ fd, DAt K d_Number_over fd ∧ FnOk P w K mg base CX0 5 (d_Number_over.ad K) fd ["self", "other"] (spBin (CN K) (fun t b u c => t * c) (fun t b u c => b * u) (fun _ _ u _ => u ≠ 0)) := by
  obtain ⟨fd, D⟩ := a_Number_over T.c
  have C_as_number := c_asnum (P := P) (w := w) (base := base) T
  obtain ⟨f0, D0, F0⟩ := f_init (P := P) (w := w) (base := base) T
  obtain ⟨f1, D1, F1⟩ := f_top (P := P) (w := w) (base := base) T
  obtain ⟨f2, D2, F2⟩ := f_bottom (P := P) (w := w) (base := base) T
  obtain ⟨f3, D3, F3⟩ := f_sign (P := P) (w := w) (base := base) T
  have b1 : Binds K f1 ["self"] [] := FunD.bindsN D1 fun _ _ _ _ _ _ us hl => match us, hl with | [_], _ => rfl
  have b2 : Binds K f2 ["self"] [] := FunD.bindsN D2 fun _ _ _ _ _ _ us hl => match us, hl with | [_], _ => rfl
  have b3 : Binds K f3 ["self"] [] := FunD.bindsN D3 fun _ _ _ _ _ _ us hl => match us, hl with | [_], _ => rfl
  refine ⟨fd, D, ok_of (N := ["self", "other", "divisor"]) D sc_Number_over (fun vs H Q E h => ?_) (fun cdv A outer s H vs Q E hr h => ?_)⟩
  · obtain ⟨p, y, t, b, u, c, rfl, _⟩ := h
    rfl
  · obtain ⟨p, y, t, b, u, c, rfl, N, o, zt, zb, zu, zc, hu, k⟩ := h
    refine ⟨_, (pss_cons (ps_set (i := 2) sc_Number_over.nd rfl (.inl rfl) (pe_c C_as_number hr (pa_cons (pv 1) pa_nil)))
      (pss_cons (ps_if (pt_cmpR op_eq (pe_prop (pv 2) (cl T) (prop_ok (f_prop_sign T.c)) F3 (hr.mono (by decide)) b3 .nil pass0 rfl) pe_int (nomark _)) (pss_one ps_never) pss_nil)
      (pss_one (ps_ret (pe_num (mkN T) F0 (hr.mono (by decide)) (g_Number T) (b_init2 D0) .nil (pa_cons (pe_op op_mulW (pe_fld (pv 0) rfl) (pe_prop (pv 2) (cl T) (prop_ok (f_prop_bottom T.c)) F2 (hr.mono (by decide)) b2 .nil pass0 rfl)) (pa_cons (pe_op op_mulW (pe_fld (pv 0) rfl) (pe_prop (pv 2) (cl T) (prop_ok (f_prop_top T.c)) F1 (hr.mono (by decide)) b1 .nil pass0 rfl)) pa_nil))))))), ?_⟩
    refine ⟨_, rfl, y, u, c, rfl, o, sm_sz zu, fun H1 q s1 M => ?_⟩
    have N1 := N.same s1
    obtain ⟨dp, hp⟩ := id N1.at_
    obtain ⟨dq, hq⟩ := id M.at_
    have hs : sgn u ≠ 0 := by unfold sgn; rw [if_neg hu]; split <;> decide
    refine ⟨_, rfl, q, dq, _, rfl, hq, q, u, c, rfl, M, sm_sz zu, sm_sz zc, rfl, _, rfl, ?_⟩
    refine ite2 (fun z => absurd (V.int.inj (of_decide_eq_true z)) hs) (fun _ => ?_)
    refine ⟨_, rfl, p, CN K, dp, _, _, rfl, hp, cl T, nT T, numF_top _ _, _, rfl, q, dq, _, rfl, hq, q, u, c, rfl, M, sm_sz zu, sm_sz zc, _, _, rfl, rfl, cm zt zc, ?_⟩
    refine ⟨_, rfl, p, CN K, dp, _, _, rfl, hp, cl T, nB T, numF_bot _ _, _, rfl, q, dq, _, rfl, hq, q, u, c, rfl, M, sm_sz zu, sm_sz zc, _, _, rfl, rfl, cm zb zu, ?_⟩
    exact ⟨_, _, rfl, (Int.mul_ne_zero (by have := N.pos; omega) hu), sz_mulS zb zu, fun H2 r s2 nr R => k H2 r (s1.trans s2) R⟩
end
end K02

namespace K02
open PySem PySem.Spec PyProof.Rows L2 Hk NumM NumT SX
open TL (numL)
section
variable {P : Program} {w : World} {K : Fr} {mg : Str → Option Value} {base : Heap}
/-- two pairs to a new one -/
def spTwo (num den : Int → Int → Int → Int → Int) : Sp := fun vs H Q _ => ∃ (p q : Addr) (t b u c : Int), vs = [.ref p, .ref q] ∧ H p = some (.tup [.int t, .int b]) ∧ H q = some (.tup [.int u, .int c]) ∧ Sm t ∧ Sm b ∧ Sm u ∧ Sm c ∧ den t b u c ≠ 0 ∧
  ∀ r : Addr, H r = none → Q (.ref r) (upd H r (.tup [.int (lowT (num t b u c) (den t b u c)), .int (lowB (num t b u c) (den t b u c))]))
theorem c_plus (T : Tx K mg) : Cal P w K mg base 2 "_law_plus" (gAd "_law_plus" K) ["_law_one", "_law_two"] (spTwo (fun t b u c => t * c + u * b) (fun t b u c => b * c)) := by
  have C_l_low := c_low (P := P) (w := w) (base := base) T
  refine cal_of (d := d_l_plus) (N := ["_law_one", "_law_two"]) (a_l_plus T.c) rfl sc_l_plus (g_l_plus T) (fun _ _ _ _ _ _ us hl => match us, hl with | [_, _], _ => rfl) (fun vs H Q E h => ?_) (fun cdv A outer s H vs Q E hr h => ?_)
  · obtain ⟨p, q, t, b, u, c, rfl, _⟩ := h
    rfl
  · obtain ⟨p, q, t, b, u, c, rfl, hp, hq, zt, zb, zu, zc, hd, k⟩ := h
    refine ⟨_, (pss_one (ps_ret (pe_c C_l_low hr (pa_cons (pe_op op_add (pe_op op_mulW (pe_ix ix_tup (pv 0) pe_int (fun _ _ => rfl)) (pe_ix ix_tup (pv 1) pe_int (fun _ _ => rfl))) (pe_op op_mulW (pe_ix ix_tup (pv 1) pe_int (fun _ _ => rfl)) (pe_ix ix_tup (pv 0) pe_int (fun _ _ => rfl)))) (pa_cons (pe_op op_mulW (pe_ix ix_tup (pv 0) pe_int (fun _ _ => rfl)) (pe_ix ix_tup (pv 1) pe_int (fun _ _ => rfl))) pa_nil))))), ?_⟩
    refine ⟨_, rfl, p, _, _, _, rfl, rfl, .inl (.inl hp), rfl, _, rfl, q, _, _, _, rfl, rfl, .inl (.inl hq), rfl, _, _, rfl, rfl, cm zt zc, _, rfl, q, _, _, _, rfl, rfl, .inl (.inl hq), rfl, _, rfl, p, _, _, _, rfl, rfl, .inl (.inl hp), rfl, _, _, rfl, rfl, cm zu zb, _, _, rfl, rfl, ?_⟩
    refine ⟨_, rfl, p, _, _, _, rfl, rfl, .inl (.inl hp), rfl, _, rfl, q, _, _, _, rfl, rfl, .inl (.inl hq), rfl, _, _, rfl, rfl, cm zb zc, ?_⟩
    exact ⟨_, _, rfl, hd, sz_add zt zc zu zb, sz_mulS zb zc, k⟩
theorem c_by (T : Tx K mg) : Cal P w K mg base 2 "_law_by" (gAd "_law_by" K) ["_law_one", "_law_two"] (spTwo (fun t b u c => t * u) (fun t b u c => b * c)) := by
  have C_l_low := c_low (P := P) (w := w) (base := base) T
  refine cal_of (d := d_l_by) (N := ["_law_one", "_law_two"]) (a_l_by T.c) rfl sc_l_by (g_l_by T) (fun _ _ _ _ _ _ us hl => match us, hl with | [_, _], _ => rfl) (fun vs H Q E h => ?_) (fun cdv A outer s H vs Q E hr h => ?_)
  · obtain ⟨p, q, t, b, u, c, rfl, _⟩ := h
    rfl
  · obtain ⟨p, q, t, b, u, c, rfl, hp, hq, zt, zb, zu, zc, hd, k⟩ := h
    refine ⟨_, (pss_one (ps_ret (pe_c C_l_low hr (pa_cons (pe_op op_mulW (pe_ix ix_tup (pv 0) pe_int (fun _ _ => rfl)) (pe_ix ix_tup (pv 1) pe_int (fun _ _ => rfl))) (pa_cons (pe_op op_mulW (pe_ix ix_tup (pv 0) pe_int (fun _ _ => rfl)) (pe_ix ix_tup (pv 1) pe_int (fun _ _ => rfl))) pa_nil))))), ?_⟩
    refine ⟨_, rfl, p, _, _, _, rfl, rfl, .inl (.inl hp), rfl, _, rfl, q, _, _, _, rfl, rfl, .inl (.inl hq), rfl, _, _, rfl, rfl, cm zt zu, ?_⟩
    refine ⟨_, rfl, p, _, _, _, rfl, rfl, .inl (.inl hp), rfl, _, rfl, q, _, _, _, rfl, rfl, .inl (.inl hq), rfl, _, _, rfl, rfl, cm zb zc, ?_⟩
    exact ⟨_, _, rfl, hd, sz_mulS zt zu, sz_mulS zb zc, k⟩
def spMinus : Sp := fun vs H Q _ => ∃ (p : Addr) (t b : Int), vs = [.ref p] ∧ H p = some (.tup [.int t, .int b]) ∧ ∀ r : Addr, H r = none → Q (.ref r) (upd H r (.tup [.int (0 - t), .int b]))
theorem c_minus (T : Tx K mg) : Cal P w K mg base 1 "_law_minus" (gAd "_law_minus" K) ["_law_pair_here"] spMinus := by
  refine cal_of (d := d_l_minus) (N := ["_law_pair_here"]) (a_l_minus T.c) rfl sc_l_minus (g_l_minus T) (fun _ _ _ _ _ _ us hl => match us, hl with | [_], _ => rfl) (fun vs H Q E h => ?_) (fun cdv A outer s H vs Q E hr h => ?_)
  · obtain ⟨p, t, b, rfl, _⟩ := h
    rfl
  · obtain ⟨p, t, b, rfl, hp, k⟩ := h
    refine ⟨_, (pss_one (ps_ret (pe_tup (pa_cons (pe_op op_sub pe_int (pe_ix ix_tup (pv 0) pe_int (fun _ _ => rfl))) (pa_cons (pe_ix ix_tup (pv 0) pe_int (fun _ _ => rfl)) pa_nil))))), ?_⟩
    refine ⟨_, rfl, p, _, _, _, rfl, rfl, .inl (.inl hp), rfl, _, _, rfl, rfl, _, rfl, p, _, _, _, rfl, rfl, .inl (.inl hp), rfl, (by show 2 ≤ sizeLine; decide), k⟩
/-- a pair in lowest terms, of a size -/
abbrev Md (n : Int) : Prop := n.natAbs < 2 ^ 110
structure Pr (H : Hp) (p : Addr) (t b : Int) : Prop where
  at_ : H p = some (.tup [.int t, .int b])
  pos : 0 < b
  cop : Nat.gcd t.natAbs b.natAbs = 1
  mt : Md t
  mb : Md b
theorem Pr.same {H H' : Hp} {p : Addr} {t b : Int} (n : Pr H p t b) (s : Same H H') : Pr H' p t b := ⟨s _ _ n.at_, n.pos, n.cop, n.mt, n.mb⟩
theorem Pr.ne {H : Hp} {a p : Addr} {t b : Int} (n : Pr H p t b) (s : SprAt a H) : p ≠ a := by
  obtain ⟨d, e, c, h, _⟩ := s
  exact ne_of n.at_ h (by intro z; exact nomatch z)
theorem Pr.old {H H' : Hp} {a p : Addr} {t b : Int} (n : Pr H p t b) (s : SprAt a H) (o : Old a H H') : Pr H' p t b := ⟨o _ _ n.at_ (n.ne s), n.pos, n.cop, n.mt, n.mb⟩
theorem md_sm {n : Int} (h : Md n) : Sm n := Nat.lt_of_lt_of_le h (by decide +kernel)
theorem md_sz {n : Int} (h : Md n) : Sz n := Nat.lt_of_lt_of_le h (by decide +kernel)
theorem md_low {h b : Int} (hb : b ≠ 0) (mh : Md h) (mb : Md b) : Md (lowT h b) ∧ Md (lowB h b) := ⟨Nat.lt_of_le_of_lt (lowT_le hb) mh, Nat.lt_of_le_of_lt (lowB_le hb) mb⟩
def spPairNew : Sp := fun vs H Q _ => ∃ a : Addr, vs = [.ref a] ∧ SprAt a H ∧ ∀ (H' : Hp) (p : Addr) (t b : Int), Old a H H' → SprAt a H' → Pr H' p t b → Q (.ref p) H'
theorem p30 : ((10 : Int) ^ (30 : Int).toNat) = 1000000000000000000000000000000 := by decide +kernel
theorem p29 : ((10 : Int) ^ (29 : Int).toNat) = 100000000000000000000000000000 := by decide +kernel
theorem c_pair (T : Tx K mg) : Cal P w K mg base 2 "_law_pair" (gAd "_law_pair" K) ["_law_spring_here"] spPairNew := by
  have C_l_low := c_low (P := P) (w := w) (base := base) T
  have C_l_next := c_nextO (P := P) (w := w) (base := base) T
  refine cal_of (d := d_l_pair) (N := ["_law_spring_here"]) (a_l_pair T.c) rfl sc_l_pair (g_l_pair T) (fun _ _ _ _ _ _ us hl => match us, hl with | [_], _ => rfl) (fun vs H Q E h => ?_) (fun cdv A outer s H vs Q E hr h => ?_)
  · obtain ⟨a, rfl, _⟩ := h
    rfl
  · obtain ⟨a, rfl, hs, k⟩ := h
    refine ⟨_, (pss_cons (ps_if (pt_cmpR op_eq (pe_c C_l_next hr (pa_cons (pv 0) (pa_cons pe_int pa_nil))) pe_int (nomark _))
 (pss_one (ps_ret (pe_c C_l_low hr (pa_cons (pe_op op_sub (pe_c C_l_next hr (pa_cons (pv 0) (pa_cons (pe_op op_pow pe_int pe_int) pa_nil))) (pe_op op_pow pe_int pe_int)) (pa_cons (pe_op op_add pe_int (pe_c C_l_next hr (pa_cons (pv 0) (pa_cons (pe_op op_pow pe_int pe_int) pa_nil)))) pa_nil)))))
 pss_nil)
 (pss_one (ps_ret (pe_c C_l_low hr (pa_cons (pe_op op_sub (pe_c C_l_next hr (pa_cons (pv 0) (pa_cons pe_int pa_nil))) pe_int) (pa_cons (pe_op op_add pe_int (pe_c C_l_next hr (pa_cons (pv 0) (pa_cons pe_int pa_nil)))) pa_nil)))))), ?_⟩
    refine ⟨_, rfl, a, _, rfl, hs, by decide, by decide, fun v H1 v0 v1 o1 s1 => ?_⟩
    have e110 : (2 : Nat) ^ 110 = 1298074214633706907132624082305024 := by decide +kernel
    have fin : ∀ (H2 : Hp) (h b : Int), Old a H H2 → SprAt a H2 → 0 < b → Md h → Md b → spLow [.int h, .int b] H2 Q E0 := by
      intro H2 h b o2 s2 hb mh mb
      have m := md_low (h := h) (b := b) (by omega) mh mb
      refine ⟨h, b, rfl, by omega, md_sz mh, md_sz mb, fun p np => ?_⟩
      exact k _ p _ _ (o2.trans (Old.new np)) (s2.same (same_upd np)) ⟨upd_same, low_pos (by omega), low_cop (by omega), m.1, m.2⟩
    refine ⟨rfl, _, rfl, ?_⟩
    refine ite2 (fun z => ?_) (fun z => ?_)
    · refine ⟨_, rfl, _, _, rfl, rfl, ⟨by decide, by decide, by decide⟩, a, _, rfl, s1, by rw [p30]; decide, by rw [p30]; decide, fun v2 H2 x0 x1 o2 s2 => ?_⟩
      refine ⟨_, _, rfl, rfl, ⟨by decide, by decide, by decide⟩, _, _, rfl, rfl, ?_⟩
      refine ⟨_, rfl, _, _, rfl, rfl, ⟨by decide, by decide, by decide⟩, a, _, rfl, s2, by rw [p20]; decide, by rw [p20]; decide, fun v3 H3 y0 y1 o3 s3 => ?_⟩
      refine ⟨_, _, rfl, rfl, ?_⟩
      rw [p30] at x1
      rw [p20] at y1
      rw [p29]
      refine fin H3 _ _ ((o1.trans o2).trans o3) s3 ?_ ?_ ?_
      · show 0 < 1 + v3; omega
      · show (v2 - 100000000000000000000000000000).natAbs < 2 ^ 110; omega
      · show (1 + v3).natAbs < 2 ^ 110; omega
    · refine ⟨_, rfl, a, _, rfl, s1, by decide, by decide, fun v2 H2 x0 x1 o2 s2 => ?_⟩
      refine ⟨_, _, rfl, rfl, ?_⟩
      refine ⟨_, rfl, a, _, rfl, s2, by decide, by decide, fun v3 H3 y0 y1 o3 s3 => ?_⟩
      refine ⟨_, _, rfl, rfl, ?_⟩
      refine fin H3 _ _ ((o1.trans o2).trans o3) s3 ?_ ?_ ?_
      · show 0 < 1 + v3; omega
      · show (v2 - 12).natAbs < 2 ^ 110; omega
      · show (1 + v3).natAbs < 2 ^ 110; omega
end
end K02

namespace K02
open PySem PySem.Spec PyProof.Rows L2 Hk NumM NumT SX
open TL (numL)
abbrev N_l_sums_right : List Str := ["_law_one", "_law_two", "_law_many", "_law_left", "_law_right_here", "_law_whole", "_law_told", "_law_due", "_law_each", "_law_pair_here"]
section
variable {P : Program} {w : World} {K : Fr} {mg : Str → Option Value} {base : Heap}
def spTwoO (num den : Int → Int → Int → Int → Int) : Sp := fun vs H Q _ => ∃ (p q : Addr) (t b u c : Int), vs = [.ref p, .ref q] ∧ H p = some (.tup [.int t, .int b]) ∧ H q = some (.tup [.int u, .int c]) ∧ Sm t ∧ Sm b ∧ Sm u ∧ Sm c ∧ den t b u c ≠ 0 ∧
  ∀ (H' : Hp) (r : Addr), Same H H' → H' r = some (.tup [.int (lowT (num t b u c) (den t b u c)), .int (lowB (num t b u c) (den t b u c))]) → Q (.ref r) H'
theorem cal_two {k : Nat} {x : Str} {ad : Addr} {ps : List Str} {num den : Int → Int → Int → Int → Int} (c : Cal P w K mg base k x ad ps (spTwo num den)) : Cal P w K mg base k x ad ps (spTwoO num den) :=
  c.imp fun vs H Q E ⟨p, q, t, b, u, c, e, h1, h2, z1, z2, z3, z4, d, k⟩ => ⟨p, q, t, b, u, c, e, h1, h2, z1, z2, z3, z4, d, fun r nr => k _ r (same_upd nr) upd_same⟩
def spMinusO : Sp := fun vs H Q _ => ∃ (p : Addr) (t b : Int), vs = [.ref p] ∧ H p = some (.tup [.int t, .int b]) ∧ ∀ (H' : Hp) (r : Addr), Same H H' → H' r = some (.tup [.int (0 - t), .int b]) → Q (.ref r) H'
theorem cal_minus {k : Nat} {x : Str} {ad : Addr} {ps : List Str} (c : Cal P w K mg base k x ad ps spMinus) : Cal P w K mg base k x ad ps spMinusO :=
  c.imp fun vs H Q E ⟨p, t, b, e, h1, k⟩ => ⟨p, t, b, e, h1, fun r nr => k _ r (same_upd nr) upd_same⟩
/-- what all the sums should be -/
def sumsW (t b u c m : Int) : List (Int × Int) := [(lowT (t * c + u * b) (b * c), lowB (t * c + u * b) (b * c)), (lowT (t * c + (0 - u) * b) (b * c), lowB (t * c + (0 - u) * b) (b * c)), (lowT (t * u) (b * c), lowB (t * u) (b * c)), (0 - t, b),
  (if t < 0 then -t else t, b), (lowT (t * 1 + m * b) (b * 1), lowB (t * 1 + m * b) (b * 1)), (lowT (t * 1 + m * b) (b * 1), lowB (t * 1 + m * b) (b * 1)), (lowT (t * 1 + (0 - m) * b) (b * 1), lowB (t * 1 + (0 - m) * b) (b * 1)),
  (lowT (m * b + (0 - t) * 1) (1 * b), lowB (m * b + (0 - t) * 1) (1 * b)), (lowT (t * m) (b * 1), lowB (t * m) (b * 1)), (lowT (t * m) (b * 1), lowB (t * m) (b * 1))]
theorem sm_sub0 {x : Int} (h : Sm x) : Sm (0 - x) := by
  show (0 - x).natAbs < 2 ^ 450
  rw [Int.zero_sub, Int.natAbs_neg]
  exact h
theorem sumsW_ok {t b u c m : Int} (hb : 0 < b) (hc : 0 < c) (zt : Sm t) (zb : Sm b) (zu : Sm u) (zc : Sm c) (zm : Sm m) : ∀ w ∈ sumsW t b u c m, Ok2 w := by
  have nz : b * c ≠ 0 := Int.mul_ne_zero (by omega) (by omega)
  have n1 : b * 1 ≠ 0 := by omega
  have n2 : 1 * b ≠ 0 := by omega
  intro w hw
  unfold sumsW at hw
  simp only [List.mem_cons, List.not_mem_nil, or_false] at hw
  rcases hw with rfl | rfl | rfl | rfl | rfl | rfl | rfl | rfl | rfl | rfl | rfl
  · exact ok_low nz (sz_add zt zc zu zb) (sz_mulS zb zc)
  · exact ok_low nz (sz_add zt zc (sm_sub0 zu) zb) (sz_mulS zb zc)
  · exact ok_low nz (sz_mulS zt zu) (sz_mulS zb zc)
  · exact ⟨hb, sm_sz (sm_sub0 zt), sm_sz zb⟩
  · refine ⟨hb, ?_, sm_sz zb⟩
    show Sz (if t < 0 then -t else t)
    split
    · rw [← Int.zero_sub]; exact sm_sz (sm_sub0 zt)
    · exact sm_sz zt
  · exact ok_low n1 (sz_add zt sm1 zm zb) (sz_mulS zb sm1)
  · exact ok_low n1 (sz_add zt sm1 zm zb) (sz_mulS zb sm1)
  · exact ok_low n1 (sz_add zt sm1 (sm_sub0 zm) zb) (sz_mulS zb sm1)
  · exact ok_low n2 (sz_add zm zb (sm_sub0 zt) sm1) (sz_mulS sm1 zb)
  · exact ok_low n1 (sz_mulS zt zm) (sz_mulS zb sm1)
  · exact ok_low n1 (sz_mulS zt zm) (sz_mulS zb sm1)
def spSums : Sp := fun vs H Q _ => ∃ (p q : Addr) (t b u c m : Int), vs = [.ref p, .ref q, .int m] ∧ Pr H p t b ∧ Pr H q u c ∧ Md m ∧ ∀ H' : Hp, Same H H' → Q (.bl true) H'
theorem c_sums (T : Tx K mg) : Cal P w K mg base 7 "_law_sums_right" (gAd "_law_sums_right" K) ["_law_one", "_law_two", "_law_many"] spSums := by
  have C_l_plus := cal_two (c_plus (P := P) (w := w) (base := base) T)
  have C_l_by := cal_two (c_by (P := P) (w := w) (base := base) T)
  have C_l_minus := cal_minus (c_minus (P := P) (w := w) (base := base) T)
  have C_l_written := c_written (P := P) (w := w) (base := base) T
  obtain ⟨fi, Di, Fi⟩ := f_init (P := P) (w := w) (base := base) T
  obtain ⟨fs, Ds, Fs⟩ := f_str (P := P) (w := w) (base := base) T
  obtain ⟨fadd, Dadd, Fadd⟩ := f_add (P := P) (w := w) (base := base) T
  have badd : Binds K fadd ["self", "other"] [] := FunD.bindsN Dadd fun _ _ _ _ _ _ us hl => match us, hl with | [_, _], _ => rfl
  obtain ⟨fsub, Dsub, Fsub⟩ := f_sub (P := P) (w := w) (base := base) T
  have bsub : Binds K fsub ["self", "other"] [] := FunD.bindsN Dsub fun _ _ _ _ _ _ us hl => match us, hl with | [_, _], _ => rfl
  obtain ⟨fmul, Dmul, Fmul⟩ := f_mul (P := P) (w := w) (base := base) T
  have bmul : Binds K fmul ["self", "other"] [] := FunD.bindsN Dmul fun _ _ _ _ _ _ us hl => match us, hl with | [_, _], _ => rfl
  obtain ⟨fradd, Dradd, Fradd⟩ := f_radd (P := P) (w := w) (base := base) T
  have bradd : Binds K fradd ["self", "other"] [] := FunD.bindsN Dradd fun _ _ _ _ _ _ us hl => match us, hl with | [_, _], _ => rfl
  obtain ⟨frsub, Drsub, Frsub⟩ := f_rsub (P := P) (w := w) (base := base) T
  have brsub : Binds K frsub ["self", "other"] [] := FunD.bindsN Drsub fun _ _ _ _ _ _ us hl => match us, hl with | [_, _], _ => rfl
  obtain ⟨frmul, Drmul, Frmul⟩ := f_rmul (P := P) (w := w) (base := base) T
  have brmul : Binds K frmul ["self", "other"] [] := FunD.bindsN Drmul fun _ _ _ _ _ _ us hl => match us, hl with | [_, _], _ => rfl
  obtain ⟨fneg, Dneg, Fneg⟩ := f_neg (P := P) (w := w) (base := base) T
  have bneg : Binds K fneg ["self"] [] := FunD.bindsN Dneg fun _ _ _ _ _ _ us hl => match us, hl with | [_], _ => rfl
  obtain ⟨fabs, Dabs, Fabs⟩ := f_abs (P := P) (w := w) (base := base) T
  have babs : Binds K fabs ["self"] [] := FunD.bindsN Dabs fun _ _ _ _ _ _ us hl => match us, hl with | [_], _ => rfl
  have bs : Binds K fs ["self"] [] := FunD.bindsN Ds fun _ _ _ _ _ _ us hl => match us, hl with | [_], _ => rfl
  refine cal_of (d := d_l_sums_right) (N := N_l_sums_right) (a_l_sums_right T.c) rfl sc_l_sums_right (g_l_sums_right T) (fun _ _ _ _ _ _ us hl => match us, hl with | [_, _, _], _ => rfl) (fun vs H Q E h => ?_) (fun cdv A outer s H vs Q E hr h => ?_)
  · obtain ⟨p, q, t, b, u, c, m, rfl, _⟩ := h
    rfl
  · obtain ⟨p, q, t, b, u, c, m, rfl, PO, PT, mm, k⟩ := h
    have r1 : Room 1 _ := hr.mono (by decide)
    have r2 : Room 2 _ := hr.mono (by decide)
    have r3 : Room 3 _ := hr.mono (by decide)
    have r4 : Room 4 _ := hr.mono (by decide)
    have r5 : Room 5 _ := hr.mono (by decide)
    have r6 : Room 6 _ := hr
    have zt := md_sm PO.mt
    have zb := md_sm PO.mb
    have zu := md_sm PT.mt
    have zc := md_sm PT.mb
    have zm := md_sm mm
    have pb := PO.pos
    have pc := PT.pos
    have nz : b * c ≠ 0 := Int.mul_ne_zero (by omega) (by omega)
    have n1' : b * 1 ≠ 0 := by omega
    have n2' : 1 * b ≠ 0 := by omega
    refine ⟨_, (pss_cons (ps_par3 (i := 3) (j := 4) (l := 5) rfl sc_l_sums_right.nd rfl rfl rfl (by decide) (by decide) (by decide) rfl rfl rfl (pa_cons (pe_num (mkN T) Fi r3 (g_Number T) (b_init2 Di) .nil (pa_cons (pe_ix ix_tup (pv 0) pe_int (fun _ _ => rfl)) (pa_cons (pe_ix ix_tup (pv 0) pe_int (fun _ _ => rfl)) pa_nil))) (pa_cons (pe_num (mkN T) Fi r3 (g_Number T) (b_init2 Di) .nil (pa_cons (pe_ix ix_tup (pv 1) pe_int (fun _ _ => rfl)) (pa_cons (pe_ix ix_tup (pv 1) pe_int (fun _ _ => rfl)) pa_nil))) (pa_cons (pe_tup (pa_cons (pv 2) (pa_cons pe_int pa_nil))) pa_nil))) (by rfl))
 (pss_cons (ps_set (i := 6) sc_l_sums_right.nd rfl (.inl rfl) (pe_lst (pa_cons (pe_op (op_binO (bin_ok (f_bin_add T.c)) Fadd badd r5) (pv 3) (pv 4)) (pa_cons (pe_op (op_binO (bin_ok (f_bin_sub T.c)) Fsub bsub r5) (pv 3) (pv 4)) (pa_cons (pe_op (op_binO (bin_ok (f_bin_mul T.c)) Fmul bmul r5) (pv 3) (pv 4)) (pa_cons (pe_un (op_negO (own_ok (f_meth_neg T.c)) Fneg bneg r4) (pv 3)) (pa_cons (pe_callB (call_absO (own_ok (f_meth_abs T.c)) Fabs babs r5) (by rfl) (n_abs T) bo_abs (pa_cons (pv 3) pa_nil)) (pa_cons (pe_op (op_binO (bin_ok (f_bin_add T.c)) Fadd badd r5) (pv 3) (pv 2)) (pa_cons (pe_op (op_rbinO (bin_ok (f_bin_add T.c)) (rbin_ok (f_rbin_add T.c)) rfl PySem.F.slot_int_add decl_add Fradd bradd r6) (pv 2) (pv 3)) (pa_cons (pe_op (op_binO (bin_ok (f_bin_sub T.c)) Fsub bsub r5) (pv 3) (pv 2)) pa_nil))))))))))
 (pss_cons (ps_set (i := 6) sc_l_sums_right.nd rfl (.inl rfl) (pe_op op_cat (pv 6) (pe_lst (pa_cons (pe_op (op_rbinO (bin_ok (f_bin_sub T.c)) (rbin_ok (f_rbin_sub T.c)) rfl PySem.F.slot_int_sub decl_sub Frsub brsub r6) (pv 2) (pv 3)) (pa_cons (pe_op (op_binO (bin_ok (f_bin_mul T.c)) Fmul bmul r5) (pv 3) (pv 2)) (pa_cons (pe_op (op_rbinO (bin_ok (f_bin_mul T.c)) (rbin_ok (f_rbin_mul T.c)) rfl PySem.F.slot_int_mul decl_mul Frmul brmul r6) (pv 2) (pv 3)) pa_nil))))))
 (pss_cons (ps_set (i := 7) sc_l_sums_right.nd rfl (.inl rfl) (pe_lst (pa_cons (pe_c C_l_plus r2 (pa_cons (pv 0) (pa_cons (pv 1) pa_nil))) (pa_cons (pe_c C_l_plus r2 (pa_cons (pv 0) (pa_cons (pe_c C_l_minus r1 (pa_cons (pv 1) pa_nil)) pa_nil))) (pa_cons (pe_c C_l_by r2 (pa_cons (pv 0) (pa_cons (pv 1) pa_nil))) (pa_cons (pe_c C_l_minus r1 (pa_cons (pv 0) pa_nil)) pa_nil))))))
 (pss_cons (ps_set (i := 7) sc_l_sums_right.nd rfl (.inl rfl) (pe_op op_cat (pv 7) (pe_lst (pa_cons (pe_tup (pa_cons (pe_callB call_abs (by rfl) (n_abs T) bo_abs (pa_cons (pe_ix ix_tup (pv 0) pe_int (fun _ _ => rfl)) pa_nil)) (pa_cons (pe_ix ix_tup (pv 0) pe_int (fun _ _ => rfl)) pa_nil))) (pa_cons (pe_c C_l_plus r2 (pa_cons (pv 0) (pa_cons (pv 5) pa_nil))) (pa_cons (pe_c C_l_plus r2 (pa_cons (pv 0) (pa_cons (pv 5) pa_nil))) pa_nil))))))
 (pss_cons (ps_set (i := 7) sc_l_sums_right.nd rfl (.inl rfl) (pe_op op_cat (pv 7) (pe_lst (pa_cons (pe_c C_l_plus r2 (pa_cons (pv 0) (pa_cons (pe_tup (pa_cons (pe_op op_sub pe_int (pv 2)) (pa_cons pe_int pa_nil))) pa_nil))) (pa_cons (pe_c C_l_plus r2 (pa_cons (pv 5) (pa_cons (pe_c C_l_minus r1 (pa_cons (pv 0) pa_nil)) pa_nil))) (pa_cons (pe_c C_l_by r2 (pa_cons (pv 0) (pa_cons (pv 5) pa_nil))) pa_nil))))))
 (pss_cons (ps_expr (pe_bm PySem.F.plainAttrs_list PySem.F.slot_list_append PySem.F.type_list_append mt_append (pv 7) (pa_cons (pe_c C_l_by r2 (pa_cons (pv 0) (pa_cons (pv 5) pa_nil))) pa_nil)))
 (pss_cons (ps_if (pt_not (pt_val (pe_callB (cr_all rfl) (by rfl) (n_all T) bo_all (pa_cons (pe_lc (own := [("_law_each", 8)]) (g := gName 8) (tt := tYes) rfl sc_l_sums_right.nd (pi_list (pv 6)) (blkOk_by (N := N_l_sums_right) (sc := defScope s_l_sums_right) (by decide +kernel)) (fun _ _ _ _ _ => pg_name (i := 8) sc_l_sums_right.nd rfl (.inl rfl)) (fun _ _ _ _ _ => pts_nil) (fun _ _ _ _ _ => (pe_callB (call_isi : CallR _ _ (rIsi K)) (by rfl) (n_isinstance T) bo_isinstance (pa_cons (pv 8) (pa_cons (pe_glob (v := .ref (gAd "Number" K)) rfl (g_Number T) rfl) pa_nil))))) pa_nil)))) (pss_one (ps_ret pe_bl)) pss_nil)
 (pss_one (ps_ret (pe_cmpR (op_eqD hr.units) (pe_lc (own := [("_law_each", 8)]) (g := gName 8) (tt := tYes) rfl sc_l_sums_right.nd (pi_list (pe_op op_cat (pv 6) (pe_lst (pa_cons (pv 3) (pa_cons (pv 4) pa_nil))))) (blkOk_by (N := N_l_sums_right) (sc := defScope s_l_sums_right) (by decide +kernel)) (fun _ _ _ _ _ => pg_name (i := 8) sc_l_sums_right.nd rfl (.inl rfl)) (fun _ _ _ _ _ => pts_nil) (fun _ _ _ _ _ => (pe_callTy (call_strO (own_ok (f_meth_str T.c)) Fs bs r3) (by rfl) (n_str T) bo_str (pa_cons (pv 8) pa_nil)))) (pe_lc (own := [("_law_pair_here", 9)]) (g := gName 9) (tt := tYes) rfl sc_l_sums_right.nd (pi_list (pe_op op_cat (pv 7) (pe_lst (pa_cons (pv 0) (pa_cons (pv 1) pa_nil))))) (blkOk_by (N := N_l_sums_right) (sc := defScope s_l_sums_right) (by decide +kernel)) (fun _ _ _ _ _ => pg_name (i := 9) sc_l_sums_right.nd rfl (.inl rfl)) (fun _ _ _ _ _ => pts_nil) (fun _ _ _ _ _ => (pe_c C_l_written r1 (pa_cons (pv 9) pa_nil)))) (nomark _)))))))))))), ?_⟩
    have hp := PO.at_
    have hq := PT.at_
    have cu : Same H H := Same.refl H
    refine ⟨_, rfl, p, _, _, _, rfl, rfl, .inl (.inl hp), rfl, _, rfl, p, _, _, _, rfl, rfl, .inl (.inl hp), rfl, t, b, rfl, by omega, md_sz PO.mb, fun H1 n1 s1 nn1 N1 => ?_⟩
    have hp : H1 p = some (.tup [.int (t), .int (b)]) := s1 _ _ hp
    have hq : H1 q = some (.tup [.int (u), .int (c)]) := s1 _ _ hq
    have cu : Same H H1 := cu.trans s1
    rw [(low_red PO.pos PO.cop).1, (low_red PO.pos PO.cop).2] at N1
    have N1 : NumAt (CN K) H1 n1 t b := N1
    refine ⟨_, rfl, q, _, _, _, rfl, rfl, .inl (.inl hq), rfl, _, rfl, q, _, _, _, rfl, rfl, .inl (.inl hq), rfl, u, c, rfl, by omega, md_sz PT.mb, fun H2 n2 s2 nn2 N2 => ?_⟩
    have hp : H2 p = some (.tup [.int (t), .int (b)]) := s2 _ _ hp
    have hq : H2 q = some (.tup [.int (u), .int (c)]) := s2 _ _ hq
    have cu : Same H H2 := cu.trans s2
    have N1 : NumAt (CN K) H2 n1 (t) (b) := N1.same s2
    rw [(low_red PT.pos PT.cop).1, (low_red PT.pos PT.cop).2] at N2
    have N2 : NumAt (CN K) H2 n2 u c := N2
    refine ⟨_, rfl, ?_⟩
    refine ⟨(by show 2 ≤ sizeLine; decide), fun pw npw => ?_⟩
    have z1 : Same H2 (upd H2 pw (.tup [.int m, .int 1])) := same_upd npw
    have apw : (upd H2 pw (.tup [.int m, .int 1])) pw = some (.tup [.int m, .int 1]) := upd_same
    generalize upd H2 pw (.tup [.int m, .int 1]) = G1 at z1 apw ⊢
    have hp : G1 p = some (.tup [.int (t), .int (b)]) := z1 _ _ hp
    have hq : G1 q = some (.tup [.int (u), .int (c)]) := z1 _ _ hq
    have cu : Same H G1 := cu.trans z1
    have N1 : NumAt (CN K) G1 n1 (t) (b) := N1.same z1
    have N2 : NumAt (CN K) G1 n2 (u) (c) := N2.same z1
    refine ⟨_, _, _, rfl, ?_⟩
    obtain ⟨dx1, g1⟩ := id N1.at_
    obtain ⟨dx2, g2⟩ := id N2.at_
    refine ⟨_, rfl, _, rfl, n1, dx1, _, rfl, g1, .inr ⟨n2, dx2, _, rfl, g2⟩, n1, _, t, b, u, c, rfl, N1, .inl ⟨n2, rfl, N2⟩, zt, zb, zu, zc, trivial, fun L1 x1 y1 R1 => ?_⟩
    have hp : L1 p = some (.tup [.int (t), .int (b)]) := y1 _ _ hp
    have hq : L1 q = some (.tup [.int (u), .int (c)]) := y1 _ _ hq
    have cu : Same H L1 := cu.trans y1
    have N1 : NumAt (CN K) L1 n1 (t) (b) := N1.same y1
    have N2 : NumAt (CN K) L1 n2 (u) (c) := N2.same y1
    have apw : L1 pw = some (.tup [.int (m), .int (1)]) := y1 _ _ apw
    obtain ⟨dx1, g1⟩ := id N1.at_
    obtain ⟨dx2, g2⟩ := id N2.at_
    refine ⟨_, rfl, _, rfl, n1, dx1, _, rfl, g1, .inr ⟨n2, dx2, _, rfl, g2⟩, n1, _, t, b, u, c, rfl, N1, .inl ⟨n2, rfl, N2⟩, zt, zb, zu, zc, trivial, fun L2 x2 y2 R2 => ?_⟩
    have hp : L2 p = some (.tup [.int (t), .int (b)]) := y2 _ _ hp
    have hq : L2 q = some (.tup [.int (u), .int (c)]) := y2 _ _ hq
    have cu : Same H L2 := cu.trans y2
    have N1 : NumAt (CN K) L2 n1 (t) (b) := N1.same y2
    have N2 : NumAt (CN K) L2 n2 (u) (c) := N2.same y2
    have apw : L2 pw = some (.tup [.int (m), .int (1)]) := y2 _ _ apw
    obtain ⟨dx1, g1⟩ := id N1.at_
    obtain ⟨dx2, g2⟩ := id N2.at_
    refine ⟨_, rfl, _, rfl, n1, dx1, _, rfl, g1, .inr ⟨n2, dx2, _, rfl, g2⟩, n1, _, t, b, u, c, rfl, N1, .inl ⟨n2, rfl, N2⟩, zt, zb, zu, zc, trivial, fun L3 x3 y3 R3 => ?_⟩
    have hp : L3 p = some (.tup [.int (t), .int (b)]) := y3 _ _ hp
    have hq : L3 q = some (.tup [.int (u), .int (c)]) := y3 _ _ hq
    have cu : Same H L3 := cu.trans y3
    have N1 : NumAt (CN K) L3 n1 (t) (b) := N1.same y3
    have N2 : NumAt (CN K) L3 n2 (u) (c) := N2.same y3
    have apw : L3 pw = some (.tup [.int (m), .int (1)]) := y3 _ _ apw
    obtain ⟨dx1, g1⟩ := id N1.at_
    obtain ⟨dx2, g2⟩ := id N2.at_
    refine ⟨_, rfl, n1, dx1, _, rfl, g1, n1, t, b, rfl, N1, zt, zb, fun L4 x4 y4 R4 => ?_⟩
    have hp : L4 p = some (.tup [.int (t), .int (b)]) := y4 _ _ hp
    have hq : L4 q = some (.tup [.int (u), .int (c)]) := y4 _ _ hq
    have cu : Same H L4 := cu.trans y4
    have N1 : NumAt (CN K) L4 n1 (t) (b) := N1.same y4
    have N2 : NumAt (CN K) L4 n2 (u) (c) := N2.same y4
    have apw : L4 pw = some (.tup [.int (m), .int (1)]) := y4 _ _ apw
    obtain ⟨dx1, g1⟩ := id N1.at_
    obtain ⟨dx2, g2⟩ := id N2.at_
    refine ⟨_, rfl, _, rfl, n1, dx1, _, rfl, g1, n1, t, b, rfl, N1, zt, zb, fun L5 x5 y5 R5 => ?_⟩
    have hp : L5 p = some (.tup [.int (t), .int (b)]) := y5 _ _ hp
    have hq : L5 q = some (.tup [.int (u), .int (c)]) := y5 _ _ hq
    have cu : Same H L5 := cu.trans y5
    have N1 : NumAt (CN K) L5 n1 (t) (b) := N1.same y5
    have N2 : NumAt (CN K) L5 n2 (u) (c) := N2.same y5
    have apw : L5 pw = some (.tup [.int (m), .int (1)]) := y5 _ _ apw
    obtain ⟨dx1, g1⟩ := id N1.at_
    obtain ⟨dx2, g2⟩ := id N2.at_
    refine ⟨_, rfl, _, rfl, n1, dx1, _, rfl, g1, .inl ⟨m, rfl⟩, n1, _, t, b, m, 1, rfl, N1, .inr ⟨rfl, rfl⟩, zt, zb, zm, sm1, trivial, fun L6 x6 y6 R6 => ?_⟩
    have hp : L6 p = some (.tup [.int (t), .int (b)]) := y6 _ _ hp
    have hq : L6 q = some (.tup [.int (u), .int (c)]) := y6 _ _ hq
    have cu : Same H L6 := cu.trans y6
    have N1 : NumAt (CN K) L6 n1 (t) (b) := N1.same y6
    have N2 : NumAt (CN K) L6 n2 (u) (c) := N2.same y6
    have apw : L6 pw = some (.tup [.int (m), .int (1)]) := y6 _ _ apw
    obtain ⟨dx1, g1⟩ := id N1.at_
    obtain ⟨dx2, g2⟩ := id N2.at_
    refine ⟨_, rfl, _, rfl, m, n1, dx1, _, rfl, rfl, g1, n1, m, t, b, rfl, N1, zt, zb, zm, fun L7 x7 y7 R7 => ?_⟩
    have hp : L7 p = some (.tup [.int (t), .int (b)]) := y7 _ _ hp
    have hq : L7 q = some (.tup [.int (u), .int (c)]) := y7 _ _ hq
    have cu : Same H L7 := cu.trans y7
    have N1 : NumAt (CN K) L7 n1 (t) (b) := N1.same y7
    have N2 : NumAt (CN K) L7 n2 (u) (c) := N2.same y7
    have apw : L7 pw = some (.tup [.int (m), .int (1)]) := y7 _ _ apw
    obtain ⟨dx1, g1⟩ := id N1.at_
    obtain ⟨dx2, g2⟩ := id N2.at_
    refine ⟨_, rfl, _, rfl, n1, dx1, _, rfl, g1, .inl ⟨m, rfl⟩, n1, _, t, b, m, 1, rfl, N1, .inr ⟨rfl, rfl⟩, zt, zb, zm, sm1, trivial, fun L8 x8 y8 R8 => ?_⟩
    have hp : L8 p = some (.tup [.int (t), .int (b)]) := y8 _ _ hp
    have hq : L8 q = some (.tup [.int (u), .int (c)]) := y8 _ _ hq
    have cu : Same H L8 := cu.trans y8
    have N1 : NumAt (CN K) L8 n1 (t) (b) := N1.same y8
    have N2 : NumAt (CN K) L8 n2 (u) (c) := N2.same y8
    have apw : L8 pw = some (.tup [.int (m), .int (1)]) := y8 _ _ apw
    refine ⟨(by show 8 ≤ sizeLine; decide), fun l1 nl1 => ?_⟩
    have z2 : Same L8 (upd L8 l1 (.lst [.ref x1, .ref x2, .ref x3, .ref x4, .ref x5, .ref x6, .ref x7, .ref x8])) := same_upd nl1
    have al1 : (upd L8 l1 (.lst [.ref x1, .ref x2, .ref x3, .ref x4, .ref x5, .ref x6, .ref x7, .ref x8])) l1 = some (.lst [.ref x1, .ref x2, .ref x3, .ref x4, .ref x5, .ref x6, .ref x7, .ref x8]) := upd_same
    generalize upd L8 l1 (.lst [.ref x1, .ref x2, .ref x3, .ref x4, .ref x5, .ref x6, .ref x7, .ref x8]) = G2 at z2 al1 ⊢
    have hp : G2 p = some (.tup [.int (t), .int (b)]) := z2 _ _ hp
    have hq : G2 q = some (.tup [.int (u), .int (c)]) := z2 _ _ hq
    have cu : Same H G2 := cu.trans z2
    have N1 : NumAt (CN K) G2 n1 (t) (b) := N1.same z2
    have N2 : NumAt (CN K) G2 n2 (u) (c) := N2.same z2
    have apw : G2 pw = some (.tup [.int (m), .int (1)]) := z2 _ _ apw
    refine ⟨_, rfl, ?_⟩
    obtain ⟨dx1, g1⟩ := id N1.at_
    obtain ⟨dx2, g2⟩ := id N2.at_
    refine ⟨_, rfl, _, rfl, m, n1, dx1, _, rfl, rfl, g1, n1, m, t, b, rfl, N1, zt, zb, zm, fun L9 x9 y9 R9 => ?_⟩
    have hp : L9 p = some (.tup [.int (t), .int (b)]) := y9 _ _ hp
    have hq : L9 q = some (.tup [.int (u), .int (c)]) := y9 _ _ hq
    have cu : Same H L9 := cu.trans y9
    have N1 : NumAt (CN K) L9 n1 (t) (b) := N1.same y9
    have N2 : NumAt (CN K) L9 n2 (u) (c) := N2.same y9
    have apw : L9 pw = some (.tup [.int (m), .int (1)]) := y9 _ _ apw
    have al1 : L9 l1 = some (.lst [.ref x1, .ref x2, .ref x3, .ref x4, .ref x5, .ref x6, .ref x7, .ref x8]) := y9 _ _ al1
    obtain ⟨dx1, g1⟩ := id N1.at_
    obtain ⟨dx2, g2⟩ := id N2.at_
    refine ⟨_, rfl, _, rfl, n1, dx1, _, rfl, g1, .inl ⟨m, rfl⟩, n1, _, t, b, m, 1, rfl, N1, .inr ⟨rfl, rfl⟩, zt, zb, zm, sm1, trivial, fun L10 x10 y10 R10 => ?_⟩
    have hp : L10 p = some (.tup [.int (t), .int (b)]) := y10 _ _ hp
    have hq : L10 q = some (.tup [.int (u), .int (c)]) := y10 _ _ hq
    have cu : Same H L10 := cu.trans y10
    have N1 : NumAt (CN K) L10 n1 (t) (b) := N1.same y10
    have N2 : NumAt (CN K) L10 n2 (u) (c) := N2.same y10
    have apw : L10 pw = some (.tup [.int (m), .int (1)]) := y10 _ _ apw
    have al1 : L10 l1 = some (.lst [.ref x1, .ref x2, .ref x3, .ref x4, .ref x5, .ref x6, .ref x7, .ref x8]) := y10 _ _ al1
    obtain ⟨dx1, g1⟩ := id N1.at_
    obtain ⟨dx2, g2⟩ := id N2.at_
    refine ⟨_, rfl, _, rfl, m, n1, dx1, _, rfl, rfl, g1, n1, m, t, b, rfl, N1, zt, zb, zm, fun L11 x11 y11 R11 => ?_⟩
    have hp : L11 p = some (.tup [.int (t), .int (b)]) := y11 _ _ hp
    have hq : L11 q = some (.tup [.int (u), .int (c)]) := y11 _ _ hq
    have cu : Same H L11 := cu.trans y11
    have N1 : NumAt (CN K) L11 n1 (t) (b) := N1.same y11
    have N2 : NumAt (CN K) L11 n2 (u) (c) := N2.same y11
    have apw : L11 pw = some (.tup [.int (m), .int (1)]) := y11 _ _ apw
    have al1 : L11 l1 = some (.lst [.ref x1, .ref x2, .ref x3, .ref x4, .ref x5, .ref x6, .ref x7, .ref x8]) := y11 _ _ al1
    refine ⟨(by show 3 ≤ sizeLine; decide), fun l2 nl2 => ?_⟩
    have z3 : Same L11 (upd L11 l2 (.lst [.ref x9, .ref x10, .ref x11])) := same_upd nl2
    have al2 : (upd L11 l2 (.lst [.ref x9, .ref x10, .ref x11])) l2 = some (.lst [.ref x9, .ref x10, .ref x11]) := upd_same
    generalize upd L11 l2 (.lst [.ref x9, .ref x10, .ref x11]) = G3 at z3 al2 ⊢
    have hp : G3 p = some (.tup [.int (t), .int (b)]) := z3 _ _ hp
    have hq : G3 q = some (.tup [.int (u), .int (c)]) := z3 _ _ hq
    have cu : Same H G3 := cu.trans z3
    have N1 : NumAt (CN K) G3 n1 (t) (b) := N1.same z3
    have N2 : NumAt (CN K) G3 n2 (u) (c) := N2.same z3
    have apw : G3 pw = some (.tup [.int (m), .int (1)]) := z3 _ _ apw
    have al1 : G3 l1 = some (.lst [.ref x1, .ref x2, .ref x3, .ref x4, .ref x5, .ref x6, .ref x7, .ref x8]) := z3 _ _ al1
    refine ⟨l1, l2, _, _, rfl, rfl, al1, al2, (by show 11 ≤ sizeLine; decide), fun l3 nl3 => ?_⟩
    have z4 : Same G3 (upd G3 l3 (.lst [.ref x1, .ref x2, .ref x3, .ref x4, .ref x5, .ref x6, .ref x7, .ref x8, .ref x9, .ref x10, .ref x11])) := same_upd nl3
    have al3 : (upd G3 l3 (.lst [.ref x1, .ref x2, .ref x3, .ref x4, .ref x5, .ref x6, .ref x7, .ref x8, .ref x9, .ref x10, .ref x11])) l3 = some (.lst [.ref x1, .ref x2, .ref x3, .ref x4, .ref x5, .ref x6, .ref x7, .ref x8, .ref x9, .ref x10, .ref x11]) := upd_same
    simp only [List.cons_append, List.nil_append]
    generalize upd G3 l3 (.lst [.ref x1, .ref x2, .ref x3, .ref x4, .ref x5, .ref x6, .ref x7, .ref x8, .ref x9, .ref x10, .ref x11]) = G4 at z4 al3 ⊢
    have hp : G4 p = some (.tup [.int (t), .int (b)]) := z4 _ _ hp
    have hq : G4 q = some (.tup [.int (u), .int (c)]) := z4 _ _ hq
    have cu : Same H G4 := cu.trans z4
    have N1 : NumAt (CN K) G4 n1 (t) (b) := N1.same z4
    have N2 : NumAt (CN K) G4 n2 (u) (c) := N2.same z4
    have apw : G4 pw = some (.tup [.int (m), .int (1)]) := z4 _ _ apw
    have al1 : G4 l1 = some (.lst [.ref x1, .ref x2, .ref x3, .ref x4, .ref x5, .ref x6, .ref x7, .ref x8]) := z4 _ _ al1
    have e13 : Same G4 G4 := Same.refl _
    have e12 : Same G3 G4 := z4.trans e13
    have e11 : Same L11 G4 := z3.trans e12
    have e10 : Same L10 G4 := y11.trans e11
    have e9 : Same L9 G4 := y10.trans e10
    have e8 : Same G2 G4 := y9.trans e9
    have e7 : Same L8 G4 := z2.trans e8
    have e6 : Same L7 G4 := y8.trans e7
    have e5 : Same L6 G4 := y7.trans e6
    have e4 : Same L5 G4 := y6.trans e5
    have e3 : Same L4 G4 := y5.trans e4
    have e2 : Same L3 G4 := y4.trans e3
    have e1 : Same L2 G4 := y3.trans e2
    have e0 : Same L1 G4 := y2.trans e1
    have q20 : t * c - u * b = t * c + (0 - u) * b := by rw [Int.zero_sub, Int.neg_mul]; omega
    simp only [q20] at R2
    have q40 : -t = 0 - t := by omega
    simp only [q40] at R4
    have q50 : ((t.natAbs : Nat) : Int) = if t < 0 then -t else t := by split <;> omega
    simp only [q50] at R5
    have q70 : m * b + t * 1 = t * 1 + m * b := by omega
    simp only [q70] at R7
    have q71 : 1 * b = b * 1 := by omega
    simp only [q71] at R7
    have q80 : t * 1 - m * b = t * 1 + (0 - m) * b := by rw [Int.zero_sub, Int.neg_mul]; omega
    simp only [q80] at R8
    have q90 : m * b - t * 1 = m * b + (0 - t) * 1 := by rw [Int.zero_sub, Int.neg_mul]; omega
    simp only [q90] at R9
    have q110 : m * t = t * m := by exact Int.mul_comm _ _
    simp only [q110] at R11
    have q111 : 1 * b = b * 1 := by omega
    simp only [q111] at R11
    have NS : Nums (CN K) G4 [.ref x1, .ref x2, .ref x3, .ref x4, .ref x5, .ref x6, .ref x7, .ref x8, .ref x9, .ref x10, .ref x11] (sumsW t b u c m) := ⟨⟨_, rfl, R1.same e0⟩, ⟨_, rfl, R2.same e1⟩, ⟨_, rfl, R3.same e2⟩, ⟨_, rfl, R4.same e3⟩, ⟨_, rfl, R5.same e4⟩, ⟨_, rfl, R6.same e5⟩, ⟨_, rfl, R7.same e6⟩, ⟨_, rfl, R8.same e7⟩, ⟨_, rfl, R9.same e9⟩, ⟨_, rfl, R10.same e10⟩, ⟨_, rfl, R11.same e11⟩, trivial⟩
    refine ⟨_, rfl, _, rfl, p, q, t, b, u, c, rfl, hp, hq, zt, zb, zu, zc, nz, fun M1 d1 v1 ad1 => ?_⟩
    have hp : M1 p = some (.tup [.int (t), .int (b)]) := v1 _ _ hp
    have hq : M1 q = some (.tup [.int (u), .int (c)]) := v1 _ _ hq
    have cu : Same H M1 := cu.trans v1
    have N1 : NumAt (CN K) M1 n1 (t) (b) := N1.same v1
    have N2 : NumAt (CN K) M1 n2 (u) (c) := N2.same v1
    have apw : M1 pw = some (.tup [.int (m), .int (1)]) := v1 _ _ apw
    have al1 : M1 l1 = some (.lst [.ref x1, .ref x2, .ref x3, .ref x4, .ref x5, .ref x6, .ref x7, .ref x8]) := v1 _ _ al1
    have al3 : M1 l3 = some (.lst [.ref x1, .ref x2, .ref x3, .ref x4, .ref x5, .ref x6, .ref x7, .ref x8, .ref x9, .ref x10, .ref x11]) := v1 _ _ al3
    have NS : Nums (CN K) M1 [.ref x1, .ref x2, .ref x3, .ref x4, .ref x5, .ref x6, .ref x7, .ref x8, .ref x9, .ref x10, .ref x11] (sumsW t b u c m) := NS.same v1
    refine ⟨_, rfl, _, rfl, q, u, c, rfl, hq, fun M0 dm v0 adm => ?_⟩
    have hp : M0 p = some (.tup [.int (t), .int (b)]) := v0 _ _ hp
    have hq : M0 q = some (.tup [.int (u), .int (c)]) := v0 _ _ hq
    have cu : Same H M0 := cu.trans v0
    have N1 : NumAt (CN K) M0 n1 (t) (b) := N1.same v0
    have N2 : NumAt (CN K) M0 n2 (u) (c) := N2.same v0
    have apw : M0 pw = some (.tup [.int (m), .int (1)]) := v0 _ _ apw
    have al1 : M0 l1 = some (.lst [.ref x1, .ref x2, .ref x3, .ref x4, .ref x5, .ref x6, .ref x7, .ref x8]) := v0 _ _ al1
    have al3 : M0 l3 = some (.lst [.ref x1, .ref x2, .ref x3, .ref x4, .ref x5, .ref x6, .ref x7, .ref x8, .ref x9, .ref x10, .ref x11]) := v0 _ _ al3
    have NS : Nums (CN K) M0 [.ref x1, .ref x2, .ref x3, .ref x4, .ref x5, .ref x6, .ref x7, .ref x8, .ref x9, .ref x10, .ref x11] (sumsW t b u c m) := NS.same v0
    have ad1 : M0 d1 = some (.tup [.int (lowT (t * c + u * b) (b * c)), .int (lowB (t * c + u * b) (b * c))]) := v0 _ _ ad1
    refine ⟨p, dm, t, b, (0 - u), c, rfl, hp, adm, zt, zb, (sm_sub0 zu), zc, nz, fun M2 d2 v2 ad2 => ?_⟩
    have hp : M2 p = some (.tup [.int (t), .int (b)]) := v2 _ _ hp
    have hq : M2 q = some (.tup [.int (u), .int (c)]) := v2 _ _ hq
    have cu : Same H M2 := cu.trans v2
    have N1 : NumAt (CN K) M2 n1 (t) (b) := N1.same v2
    have N2 : NumAt (CN K) M2 n2 (u) (c) := N2.same v2
    have apw : M2 pw = some (.tup [.int (m), .int (1)]) := v2 _ _ apw
    have al1 : M2 l1 = some (.lst [.ref x1, .ref x2, .ref x3, .ref x4, .ref x5, .ref x6, .ref x7, .ref x8]) := v2 _ _ al1
    have al3 : M2 l3 = some (.lst [.ref x1, .ref x2, .ref x3, .ref x4, .ref x5, .ref x6, .ref x7, .ref x8, .ref x9, .ref x10, .ref x11]) := v2 _ _ al3
    have NS : Nums (CN K) M2 [.ref x1, .ref x2, .ref x3, .ref x4, .ref x5, .ref x6, .ref x7, .ref x8, .ref x9, .ref x10, .ref x11] (sumsW t b u c m) := NS.same v2
    have ad1 : M2 d1 = some (.tup [.int (lowT (t * c + u * b) (b * c)), .int (lowB (t * c + u * b) (b * c))]) := v2 _ _ ad1
    refine ⟨_, rfl, _, rfl, p, q, t, b, u, c, rfl, hp, hq, zt, zb, zu, zc, nz, fun M3 d3 v3 ad3 => ?_⟩
    have hp : M3 p = some (.tup [.int (t), .int (b)]) := v3 _ _ hp
    have hq : M3 q = some (.tup [.int (u), .int (c)]) := v3 _ _ hq
    have cu : Same H M3 := cu.trans v3
    have N1 : NumAt (CN K) M3 n1 (t) (b) := N1.same v3
    have N2 : NumAt (CN K) M3 n2 (u) (c) := N2.same v3
    have apw : M3 pw = some (.tup [.int (m), .int (1)]) := v3 _ _ apw
    have al1 : M3 l1 = some (.lst [.ref x1, .ref x2, .ref x3, .ref x4, .ref x5, .ref x6, .ref x7, .ref x8]) := v3 _ _ al1
    have al3 : M3 l3 = some (.lst [.ref x1, .ref x2, .ref x3, .ref x4, .ref x5, .ref x6, .ref x7, .ref x8, .ref x9, .ref x10, .ref x11]) := v3 _ _ al3
    have NS : Nums (CN K) M3 [.ref x1, .ref x2, .ref x3, .ref x4, .ref x5, .ref x6, .ref x7, .ref x8, .ref x9, .ref x10, .ref x11] (sumsW t b u c m) := NS.same v3
    have ad1 : M3 d1 = some (.tup [.int (lowT (t * c + u * b) (b * c)), .int (lowB (t * c + u * b) (b * c))]) := v3 _ _ ad1
    have ad2 : M3 d2 = some (.tup [.int (lowT (t * c + (0 - u) * b) (b * c)), .int (lowB (t * c + (0 - u) * b) (b * c))]) := v3 _ _ ad2
    refine ⟨_, rfl, p, t, b, rfl, hp, fun M4 d4 v4 ad4 => ?_⟩
    have hp : M4 p = some (.tup [.int (t), .int (b)]) := v4 _ _ hp
    have hq : M4 q = some (.tup [.int (u), .int (c)]) := v4 _ _ hq
    have cu : Same H M4 := cu.trans v4
    have N1 : NumAt (CN K) M4 n1 (t) (b) := N1.same v4
    have N2 : NumAt (CN K) M4 n2 (u) (c) := N2.same v4
    have apw : M4 pw = some (.tup [.int (m), .int (1)]) := v4 _ _ apw
    have al1 : M4 l1 = some (.lst [.ref x1, .ref x2, .ref x3, .ref x4, .ref x5, .ref x6, .ref x7, .ref x8]) := v4 _ _ al1
    have al3 : M4 l3 = some (.lst [.ref x1, .ref x2, .ref x3, .ref x4, .ref x5, .ref x6, .ref x7, .ref x8, .ref x9, .ref x10, .ref x11]) := v4 _ _ al3
    have NS : Nums (CN K) M4 [.ref x1, .ref x2, .ref x3, .ref x4, .ref x5, .ref x6, .ref x7, .ref x8, .ref x9, .ref x10, .ref x11] (sumsW t b u c m) := NS.same v4
    have ad1 : M4 d1 = some (.tup [.int (lowT (t * c + u * b) (b * c)), .int (lowB (t * c + u * b) (b * c))]) := v4 _ _ ad1
    have ad2 : M4 d2 = some (.tup [.int (lowT (t * c + (0 - u) * b) (b * c)), .int (lowB (t * c + (0 - u) * b) (b * c))]) := v4 _ _ ad2
    have ad3 : M4 d3 = some (.tup [.int (lowT (t * u) (b * c)), .int (lowB (t * u) (b * c))]) := v4 _ _ ad3
    refine ⟨(by show 4 ≤ sizeLine; decide), fun k1 nk1 => ?_⟩
    have z5 : Same M4 (upd M4 k1 (.lst [.ref d1, .ref d2, .ref d3, .ref d4])) := same_upd nk1
    have ak1 : (upd M4 k1 (.lst [.ref d1, .ref d2, .ref d3, .ref d4])) k1 = some (.lst [.ref d1, .ref d2, .ref d3, .ref d4]) := upd_same
    generalize upd M4 k1 (.lst [.ref d1, .ref d2, .ref d3, .ref d4]) = G5 at z5 ak1 ⊢
    have hp : G5 p = some (.tup [.int (t), .int (b)]) := z5 _ _ hp
    have hq : G5 q = some (.tup [.int (u), .int (c)]) := z5 _ _ hq
    have cu : Same H G5 := cu.trans z5
    have N1 : NumAt (CN K) G5 n1 (t) (b) := N1.same z5
    have N2 : NumAt (CN K) G5 n2 (u) (c) := N2.same z5
    have apw : G5 pw = some (.tup [.int (m), .int (1)]) := z5 _ _ apw
    have al1 : G5 l1 = some (.lst [.ref x1, .ref x2, .ref x3, .ref x4, .ref x5, .ref x6, .ref x7, .ref x8]) := z5 _ _ al1
    have al3 : G5 l3 = some (.lst [.ref x1, .ref x2, .ref x3, .ref x4, .ref x5, .ref x6, .ref x7, .ref x8, .ref x9, .ref x10, .ref x11]) := z5 _ _ al3
    have NS : Nums (CN K) G5 [.ref x1, .ref x2, .ref x3, .ref x4, .ref x5, .ref x6, .ref x7, .ref x8, .ref x9, .ref x10, .ref x11] (sumsW t b u c m) := NS.same z5
    have ad1 : G5 d1 = some (.tup [.int (lowT (t * c + u * b) (b * c)), .int (lowB (t * c + u * b) (b * c))]) := z5 _ _ ad1
    have ad2 : G5 d2 = some (.tup [.int (lowT (t * c + (0 - u) * b) (b * c)), .int (lowB (t * c + (0 - u) * b) (b * c))]) := z5 _ _ ad2
    have ad3 : G5 d3 = some (.tup [.int (lowT (t * u) (b * c)), .int (lowB (t * u) (b * c))]) := z5 _ _ ad3
    have ad4 : G5 d4 = some (.tup [.int (0 - t), .int (b)]) := z5 _ _ ad4
    refine ⟨_, rfl, ?_⟩
    refine ⟨_, rfl, p, _, _, _, rfl, rfl, .inl (.inl hp), rfl, _, rfl, _, rfl, p, _, _, _, rfl, rfl, .inl (.inl hp), rfl, ?_⟩
    refine ⟨(by show 2 ≤ sizeLine; decide), fun d5 nd5 => ?_⟩
    have z6 : Same G5 (upd G5 d5 (.tup [.int (if t < 0 then -t else t), .int b])) := same_upd nd5
    have ad5 : (upd G5 d5 (.tup [.int (if t < 0 then -t else t), .int b])) d5 = some (.tup [.int (if t < 0 then -t else t), .int b]) := upd_same
    generalize upd G5 d5 (.tup [.int (if t < 0 then -t else t), .int b]) = G6 at z6 ad5 ⊢
    have hp : G6 p = some (.tup [.int (t), .int (b)]) := z6 _ _ hp
    have hq : G6 q = some (.tup [.int (u), .int (c)]) := z6 _ _ hq
    have cu : Same H G6 := cu.trans z6
    have N1 : NumAt (CN K) G6 n1 (t) (b) := N1.same z6
    have N2 : NumAt (CN K) G6 n2 (u) (c) := N2.same z6
    have apw : G6 pw = some (.tup [.int (m), .int (1)]) := z6 _ _ apw
    have al1 : G6 l1 = some (.lst [.ref x1, .ref x2, .ref x3, .ref x4, .ref x5, .ref x6, .ref x7, .ref x8]) := z6 _ _ al1
    have al3 : G6 l3 = some (.lst [.ref x1, .ref x2, .ref x3, .ref x4, .ref x5, .ref x6, .ref x7, .ref x8, .ref x9, .ref x10, .ref x11]) := z6 _ _ al3
    have NS : Nums (CN K) G6 [.ref x1, .ref x2, .ref x3, .ref x4, .ref x5, .ref x6, .ref x7, .ref x8, .ref x9, .ref x10, .ref x11] (sumsW t b u c m) := NS.same z6
    have ad1 : G6 d1 = some (.tup [.int (lowT (t * c + u * b) (b * c)), .int (lowB (t * c + u * b) (b * c))]) := z6 _ _ ad1
    have ad2 : G6 d2 = some (.tup [.int (lowT (t * c + (0 - u) * b) (b * c)), .int (lowB (t * c + (0 - u) * b) (b * c))]) := z6 _ _ ad2
    have ad3 : G6 d3 = some (.tup [.int (lowT (t * u) (b * c)), .int (lowB (t * u) (b * c))]) := z6 _ _ ad3
    have ad4 : G6 d4 = some (.tup [.int (0 - t), .int (b)]) := z6 _ _ ad4
    have ak1 : G6 k1 = some (.lst [.ref d1, .ref d2, .ref d3, .ref d4]) := z6 _ _ ak1
    refine ⟨_, rfl, _, rfl, p, pw, t, b, m, 1, rfl, hp, apw, zt, zb, zm, sm1, n1', fun M6 d6 v6 ad6 => ?_⟩
    have hp : M6 p = some (.tup [.int (t), .int (b)]) := v6 _ _ hp
    have hq : M6 q = some (.tup [.int (u), .int (c)]) := v6 _ _ hq
    have cu : Same H M6 := cu.trans v6
    have N1 : NumAt (CN K) M6 n1 (t) (b) := N1.same v6
    have N2 : NumAt (CN K) M6 n2 (u) (c) := N2.same v6
    have apw : M6 pw = some (.tup [.int (m), .int (1)]) := v6 _ _ apw
    have al1 : M6 l1 = some (.lst [.ref x1, .ref x2, .ref x3, .ref x4, .ref x5, .ref x6, .ref x7, .ref x8]) := v6 _ _ al1
    have al3 : M6 l3 = some (.lst [.ref x1, .ref x2, .ref x3, .ref x4, .ref x5, .ref x6, .ref x7, .ref x8, .ref x9, .ref x10, .ref x11]) := v6 _ _ al3
    have NS : Nums (CN K) M6 [.ref x1, .ref x2, .ref x3, .ref x4, .ref x5, .ref x6, .ref x7, .ref x8, .ref x9, .ref x10, .ref x11] (sumsW t b u c m) := NS.same v6
    have ad1 : M6 d1 = some (.tup [.int (lowT (t * c + u * b) (b * c)), .int (lowB (t * c + u * b) (b * c))]) := v6 _ _ ad1
    have ad2 : M6 d2 = some (.tup [.int (lowT (t * c + (0 - u) * b) (b * c)), .int (lowB (t * c + (0 - u) * b) (b * c))]) := v6 _ _ ad2
    have ad3 : M6 d3 = some (.tup [.int (lowT (t * u) (b * c)), .int (lowB (t * u) (b * c))]) := v6 _ _ ad3
    have ad4 : M6 d4 = some (.tup [.int (0 - t), .int (b)]) := v6 _ _ ad4
    have ak1 : M6 k1 = some (.lst [.ref d1, .ref d2, .ref d3, .ref d4]) := v6 _ _ ak1
    have ad5 : M6 d5 = some (.tup [.int (if t < 0 then -t else t), .int (b)]) := v6 _ _ ad5
    refine ⟨_, rfl, _, rfl, p, pw, t, b, m, 1, rfl, hp, apw, zt, zb, zm, sm1, n1', fun M7 d7 v7 ad7 => ?_⟩
    have hp : M7 p = some (.tup [.int (t), .int (b)]) := v7 _ _ hp
    have hq : M7 q = some (.tup [.int (u), .int (c)]) := v7 _ _ hq
    have cu : Same H M7 := cu.trans v7
    have N1 : NumAt (CN K) M7 n1 (t) (b) := N1.same v7
    have N2 : NumAt (CN K) M7 n2 (u) (c) := N2.same v7
    have apw : M7 pw = some (.tup [.int (m), .int (1)]) := v7 _ _ apw
    have al1 : M7 l1 = some (.lst [.ref x1, .ref x2, .ref x3, .ref x4, .ref x5, .ref x6, .ref x7, .ref x8]) := v7 _ _ al1
    have al3 : M7 l3 = some (.lst [.ref x1, .ref x2, .ref x3, .ref x4, .ref x5, .ref x6, .ref x7, .ref x8, .ref x9, .ref x10, .ref x11]) := v7 _ _ al3
    have NS : Nums (CN K) M7 [.ref x1, .ref x2, .ref x3, .ref x4, .ref x5, .ref x6, .ref x7, .ref x8, .ref x9, .ref x10, .ref x11] (sumsW t b u c m) := NS.same v7
    have ad1 : M7 d1 = some (.tup [.int (lowT (t * c + u * b) (b * c)), .int (lowB (t * c + u * b) (b * c))]) := v7 _ _ ad1
    have ad2 : M7 d2 = some (.tup [.int (lowT (t * c + (0 - u) * b) (b * c)), .int (lowB (t * c + (0 - u) * b) (b * c))]) := v7 _ _ ad2
    have ad3 : M7 d3 = some (.tup [.int (lowT (t * u) (b * c)), .int (lowB (t * u) (b * c))]) := v7 _ _ ad3
    have ad4 : M7 d4 = some (.tup [.int (0 - t), .int (b)]) := v7 _ _ ad4
    have ak1 : M7 k1 = some (.lst [.ref d1, .ref d2, .ref d3, .ref d4]) := v7 _ _ ak1
    have ad5 : M7 d5 = some (.tup [.int (if t < 0 then -t else t), .int (b)]) := v7 _ _ ad5
    have ad6 : M7 d6 = some (.tup [.int (lowT (t * 1 + m * b) (b * 1)), .int (lowB (t * 1 + m * b) (b * 1))]) := v7 _ _ ad6
    refine ⟨(by show 3 ≤ sizeLine; decide), fun k2 nk2 => ?_⟩
    have z7 : Same M7 (upd M7 k2 (.lst [.ref d5, .ref d6, .ref d7])) := same_upd nk2
    have ak2 : (upd M7 k2 (.lst [.ref d5, .ref d6, .ref d7])) k2 = some (.lst [.ref d5, .ref d6, .ref d7]) := upd_same
    generalize upd M7 k2 (.lst [.ref d5, .ref d6, .ref d7]) = G7 at z7 ak2 ⊢
    have hp : G7 p = some (.tup [.int (t), .int (b)]) := z7 _ _ hp
    have hq : G7 q = some (.tup [.int (u), .int (c)]) := z7 _ _ hq
    have cu : Same H G7 := cu.trans z7
    have N1 : NumAt (CN K) G7 n1 (t) (b) := N1.same z7
    have N2 : NumAt (CN K) G7 n2 (u) (c) := N2.same z7
    have apw : G7 pw = some (.tup [.int (m), .int (1)]) := z7 _ _ apw
    have al1 : G7 l1 = some (.lst [.ref x1, .ref x2, .ref x3, .ref x4, .ref x5, .ref x6, .ref x7, .ref x8]) := z7 _ _ al1
    have al3 : G7 l3 = some (.lst [.ref x1, .ref x2, .ref x3, .ref x4, .ref x5, .ref x6, .ref x7, .ref x8, .ref x9, .ref x10, .ref x11]) := z7 _ _ al3
    have NS : Nums (CN K) G7 [.ref x1, .ref x2, .ref x3, .ref x4, .ref x5, .ref x6, .ref x7, .ref x8, .ref x9, .ref x10, .ref x11] (sumsW t b u c m) := NS.same z7
    have ad1 : G7 d1 = some (.tup [.int (lowT (t * c + u * b) (b * c)), .int (lowB (t * c + u * b) (b * c))]) := z7 _ _ ad1
    have ad2 : G7 d2 = some (.tup [.int (lowT (t * c + (0 - u) * b) (b * c)), .int (lowB (t * c + (0 - u) * b) (b * c))]) := z7 _ _ ad2
    have ad3 : G7 d3 = some (.tup [.int (lowT (t * u) (b * c)), .int (lowB (t * u) (b * c))]) := z7 _ _ ad3
    have ad4 : G7 d4 = some (.tup [.int (0 - t), .int (b)]) := z7 _ _ ad4
    have ak1 : G7 k1 = some (.lst [.ref d1, .ref d2, .ref d3, .ref d4]) := z7 _ _ ak1
    have ad5 : G7 d5 = some (.tup [.int (if t < 0 then -t else t), .int (b)]) := z7 _ _ ad5
    have ad6 : G7 d6 = some (.tup [.int (lowT (t * 1 + m * b) (b * 1)), .int (lowB (t * 1 + m * b) (b * 1))]) := z7 _ _ ad6
    have ad7 : G7 d7 = some (.tup [.int (lowT (t * 1 + m * b) (b * 1)), .int (lowB (t * 1 + m * b) (b * 1))]) := z7 _ _ ad7
    refine ⟨k1, k2, _, _, rfl, rfl, ak1, ak2, (by show 7 ≤ sizeLine; decide), fun k3 nk3 => ?_⟩
    have z8 : Same G7 (upd G7 k3 (.lst [.ref d1, .ref d2, .ref d3, .ref d4, .ref d5, .ref d6, .ref d7])) := same_upd nk3
    have ak3 : (upd G7 k3 (.lst [.ref d1, .ref d2, .ref d3, .ref d4, .ref d5, .ref d6, .ref d7])) k3 = some (.lst [.ref d1, .ref d2, .ref d3, .ref d4, .ref d5, .ref d6, .ref d7]) := upd_same
    simp only [List.cons_append, List.nil_append]
    generalize upd G7 k3 (.lst [.ref d1, .ref d2, .ref d3, .ref d4, .ref d5, .ref d6, .ref d7]) = G8 at z8 ak3 ⊢
    have hp : G8 p = some (.tup [.int (t), .int (b)]) := z8 _ _ hp
    have hq : G8 q = some (.tup [.int (u), .int (c)]) := z8 _ _ hq
    have cu : Same H G8 := cu.trans z8
    have N1 : NumAt (CN K) G8 n1 (t) (b) := N1.same z8
    have N2 : NumAt (CN K) G8 n2 (u) (c) := N2.same z8
    have apw : G8 pw = some (.tup [.int (m), .int (1)]) := z8 _ _ apw
    have al1 : G8 l1 = some (.lst [.ref x1, .ref x2, .ref x3, .ref x4, .ref x5, .ref x6, .ref x7, .ref x8]) := z8 _ _ al1
    have al3 : G8 l3 = some (.lst [.ref x1, .ref x2, .ref x3, .ref x4, .ref x5, .ref x6, .ref x7, .ref x8, .ref x9, .ref x10, .ref x11]) := z8 _ _ al3
    have NS : Nums (CN K) G8 [.ref x1, .ref x2, .ref x3, .ref x4, .ref x5, .ref x6, .ref x7, .ref x8, .ref x9, .ref x10, .ref x11] (sumsW t b u c m) := NS.same z8
    have ad1 : G8 d1 = some (.tup [.int (lowT (t * c + u * b) (b * c)), .int (lowB (t * c + u * b) (b * c))]) := z8 _ _ ad1
    have ad2 : G8 d2 = some (.tup [.int (lowT (t * c + (0 - u) * b) (b * c)), .int (lowB (t * c + (0 - u) * b) (b * c))]) := z8 _ _ ad2
    have ad3 : G8 d3 = some (.tup [.int (lowT (t * u) (b * c)), .int (lowB (t * u) (b * c))]) := z8 _ _ ad3
    have ad4 : G8 d4 = some (.tup [.int (0 - t), .int (b)]) := z8 _ _ ad4
    have ak1 : G8 k1 = some (.lst [.ref d1, .ref d2, .ref d3, .ref d4]) := z8 _ _ ak1
    have ad5 : G8 d5 = some (.tup [.int (if t < 0 then -t else t), .int (b)]) := z8 _ _ ad5
    have ad6 : G8 d6 = some (.tup [.int (lowT (t * 1 + m * b) (b * 1)), .int (lowB (t * 1 + m * b) (b * 1))]) := z8 _ _ ad6
    have ad7 : G8 d7 = some (.tup [.int (lowT (t * 1 + m * b) (b * 1)), .int (lowB (t * 1 + m * b) (b * 1))]) := z8 _ _ ad7
    refine ⟨_, rfl, ?_⟩
    refine ⟨_, rfl, _, rfl, _, _, rfl, rfl, ?_⟩
    refine ⟨(by show 2 ≤ sizeLine; decide), fun pm npm => ?_⟩
    have z9 : Same G8 (upd G8 pm (.tup [.int (0 - m), .int 1])) := same_upd npm
    have apm : (upd G8 pm (.tup [.int (0 - m), .int 1])) pm = some (.tup [.int (0 - m), .int 1]) := upd_same
    generalize upd G8 pm (.tup [.int (0 - m), .int 1]) = G9 at z9 apm ⊢
    have hp : G9 p = some (.tup [.int (t), .int (b)]) := z9 _ _ hp
    have hq : G9 q = some (.tup [.int (u), .int (c)]) := z9 _ _ hq
    have cu : Same H G9 := cu.trans z9
    have N1 : NumAt (CN K) G9 n1 (t) (b) := N1.same z9
    have N2 : NumAt (CN K) G9 n2 (u) (c) := N2.same z9
    have apw : G9 pw = some (.tup [.int (m), .int (1)]) := z9 _ _ apw
    have al1 : G9 l1 = some (.lst [.ref x1, .ref x2, .ref x3, .ref x4, .ref x5, .ref x6, .ref x7, .ref x8]) := z9 _ _ al1
    have al3 : G9 l3 = some (.lst [.ref x1, .ref x2, .ref x3, .ref x4, .ref x5, .ref x6, .ref x7, .ref x8, .ref x9, .ref x10, .ref x11]) := z9 _ _ al3
    have NS : Nums (CN K) G9 [.ref x1, .ref x2, .ref x3, .ref x4, .ref x5, .ref x6, .ref x7, .ref x8, .ref x9, .ref x10, .ref x11] (sumsW t b u c m) := NS.same z9
    have ad1 : G9 d1 = some (.tup [.int (lowT (t * c + u * b) (b * c)), .int (lowB (t * c + u * b) (b * c))]) := z9 _ _ ad1
    have ad2 : G9 d2 = some (.tup [.int (lowT (t * c + (0 - u) * b) (b * c)), .int (lowB (t * c + (0 - u) * b) (b * c))]) := z9 _ _ ad2
    have ad3 : G9 d3 = some (.tup [.int (lowT (t * u) (b * c)), .int (lowB (t * u) (b * c))]) := z9 _ _ ad3
    have ad4 : G9 d4 = some (.tup [.int (0 - t), .int (b)]) := z9 _ _ ad4
    have ak1 : G9 k1 = some (.lst [.ref d1, .ref d2, .ref d3, .ref d4]) := z9 _ _ ak1
    have ad5 : G9 d5 = some (.tup [.int (if t < 0 then -t else t), .int (b)]) := z9 _ _ ad5
    have ad6 : G9 d6 = some (.tup [.int (lowT (t * 1 + m * b) (b * 1)), .int (lowB (t * 1 + m * b) (b * 1))]) := z9 _ _ ad6
    have ad7 : G9 d7 = some (.tup [.int (lowT (t * 1 + m * b) (b * 1)), .int (lowB (t * 1 + m * b) (b * 1))]) := z9 _ _ ad7
    have ak3 : G9 k3 = some (.lst [.ref d1, .ref d2, .ref d3, .ref d4, .ref d5, .ref d6, .ref d7]) := z9 _ _ ak3
    refine ⟨p, pm, t, b, (0 - m), 1, rfl, hp, apm, zt, zb, (sm_sub0 zm), sm1, n1', fun M8 d8 v8 ad8 => ?_⟩
    have hp : M8 p = some (.tup [.int (t), .int (b)]) := v8 _ _ hp
    have hq : M8 q = some (.tup [.int (u), .int (c)]) := v8 _ _ hq
    have cu : Same H M8 := cu.trans v8
    have N1 : NumAt (CN K) M8 n1 (t) (b) := N1.same v8
    have N2 : NumAt (CN K) M8 n2 (u) (c) := N2.same v8
    have apw : M8 pw = some (.tup [.int (m), .int (1)]) := v8 _ _ apw
    have al1 : M8 l1 = some (.lst [.ref x1, .ref x2, .ref x3, .ref x4, .ref x5, .ref x6, .ref x7, .ref x8]) := v8 _ _ al1
    have al3 : M8 l3 = some (.lst [.ref x1, .ref x2, .ref x3, .ref x4, .ref x5, .ref x6, .ref x7, .ref x8, .ref x9, .ref x10, .ref x11]) := v8 _ _ al3
    have NS : Nums (CN K) M8 [.ref x1, .ref x2, .ref x3, .ref x4, .ref x5, .ref x6, .ref x7, .ref x8, .ref x9, .ref x10, .ref x11] (sumsW t b u c m) := NS.same v8
    have ad1 : M8 d1 = some (.tup [.int (lowT (t * c + u * b) (b * c)), .int (lowB (t * c + u * b) (b * c))]) := v8 _ _ ad1
    have ad2 : M8 d2 = some (.tup [.int (lowT (t * c + (0 - u) * b) (b * c)), .int (lowB (t * c + (0 - u) * b) (b * c))]) := v8 _ _ ad2
    have ad3 : M8 d3 = some (.tup [.int (lowT (t * u) (b * c)), .int (lowB (t * u) (b * c))]) := v8 _ _ ad3
    have ad4 : M8 d4 = some (.tup [.int (0 - t), .int (b)]) := v8 _ _ ad4
    have ak1 : M8 k1 = some (.lst [.ref d1, .ref d2, .ref d3, .ref d4]) := v8 _ _ ak1
    have ad5 : M8 d5 = some (.tup [.int (if t < 0 then -t else t), .int (b)]) := v8 _ _ ad5
    have ad6 : M8 d6 = some (.tup [.int (lowT (t * 1 + m * b) (b * 1)), .int (lowB (t * 1 + m * b) (b * 1))]) := v8 _ _ ad6
    have ad7 : M8 d7 = some (.tup [.int (lowT (t * 1 + m * b) (b * 1)), .int (lowB (t * 1 + m * b) (b * 1))]) := v8 _ _ ad7
    have ak3 : M8 k3 = some (.lst [.ref d1, .ref d2, .ref d3, .ref d4, .ref d5, .ref d6, .ref d7]) := v8 _ _ ak3
    refine ⟨_, rfl, _, rfl, p, t, b, rfl, hp, fun M00 dm2 v00 adm2 => ?_⟩
    have hp : M00 p = some (.tup [.int (t), .int (b)]) := v00 _ _ hp
    have hq : M00 q = some (.tup [.int (u), .int (c)]) := v00 _ _ hq
    have cu : Same H M00 := cu.trans v00
    have N1 : NumAt (CN K) M00 n1 (t) (b) := N1.same v00
    have N2 : NumAt (CN K) M00 n2 (u) (c) := N2.same v00
    have apw : M00 pw = some (.tup [.int (m), .int (1)]) := v00 _ _ apw
    have al1 : M00 l1 = some (.lst [.ref x1, .ref x2, .ref x3, .ref x4, .ref x5, .ref x6, .ref x7, .ref x8]) := v00 _ _ al1
    have al3 : M00 l3 = some (.lst [.ref x1, .ref x2, .ref x3, .ref x4, .ref x5, .ref x6, .ref x7, .ref x8, .ref x9, .ref x10, .ref x11]) := v00 _ _ al3
    have NS : Nums (CN K) M00 [.ref x1, .ref x2, .ref x3, .ref x4, .ref x5, .ref x6, .ref x7, .ref x8, .ref x9, .ref x10, .ref x11] (sumsW t b u c m) := NS.same v00
    have ad1 : M00 d1 = some (.tup [.int (lowT (t * c + u * b) (b * c)), .int (lowB (t * c + u * b) (b * c))]) := v00 _ _ ad1
    have ad2 : M00 d2 = some (.tup [.int (lowT (t * c + (0 - u) * b) (b * c)), .int (lowB (t * c + (0 - u) * b) (b * c))]) := v00 _ _ ad2
    have ad3 : M00 d3 = some (.tup [.int (lowT (t * u) (b * c)), .int (lowB (t * u) (b * c))]) := v00 _ _ ad3
    have ad4 : M00 d4 = some (.tup [.int (0 - t), .int (b)]) := v00 _ _ ad4
    have ak1 : M00 k1 = some (.lst [.ref d1, .ref d2, .ref d3, .ref d4]) := v00 _ _ ak1
    have ad5 : M00 d5 = some (.tup [.int (if t < 0 then -t else t), .int (b)]) := v00 _ _ ad5
    have ad6 : M00 d6 = some (.tup [.int (lowT (t * 1 + m * b) (b * 1)), .int (lowB (t * 1 + m * b) (b * 1))]) := v00 _ _ ad6
    have ad7 : M00 d7 = some (.tup [.int (lowT (t * 1 + m * b) (b * 1)), .int (lowB (t * 1 + m * b) (b * 1))]) := v00 _ _ ad7
    have ak3 : M00 k3 = some (.lst [.ref d1, .ref d2, .ref d3, .ref d4, .ref d5, .ref d6, .ref d7]) := v00 _ _ ak3
    have ad8 : M00 d8 = some (.tup [.int (lowT (t * 1 + (0 - m) * b) (b * 1)), .int (lowB (t * 1 + (0 - m) * b) (b * 1))]) := v00 _ _ ad8
    refine ⟨pw, dm2, m, 1, (0 - t), b, rfl, apw, adm2, zm, sm1, (sm_sub0 zt), zb, n2', fun M9 d9 v9 ad9 => ?_⟩
    have hp : M9 p = some (.tup [.int (t), .int (b)]) := v9 _ _ hp
    have hq : M9 q = some (.tup [.int (u), .int (c)]) := v9 _ _ hq
    have cu : Same H M9 := cu.trans v9
    have N1 : NumAt (CN K) M9 n1 (t) (b) := N1.same v9
    have N2 : NumAt (CN K) M9 n2 (u) (c) := N2.same v9
    have apw : M9 pw = some (.tup [.int (m), .int (1)]) := v9 _ _ apw
    have al1 : M9 l1 = some (.lst [.ref x1, .ref x2, .ref x3, .ref x4, .ref x5, .ref x6, .ref x7, .ref x8]) := v9 _ _ al1
    have al3 : M9 l3 = some (.lst [.ref x1, .ref x2, .ref x3, .ref x4, .ref x5, .ref x6, .ref x7, .ref x8, .ref x9, .ref x10, .ref x11]) := v9 _ _ al3
    have NS : Nums (CN K) M9 [.ref x1, .ref x2, .ref x3, .ref x4, .ref x5, .ref x6, .ref x7, .ref x8, .ref x9, .ref x10, .ref x11] (sumsW t b u c m) := NS.same v9
    have ad1 : M9 d1 = some (.tup [.int (lowT (t * c + u * b) (b * c)), .int (lowB (t * c + u * b) (b * c))]) := v9 _ _ ad1
    have ad2 : M9 d2 = some (.tup [.int (lowT (t * c + (0 - u) * b) (b * c)), .int (lowB (t * c + (0 - u) * b) (b * c))]) := v9 _ _ ad2
    have ad3 : M9 d3 = some (.tup [.int (lowT (t * u) (b * c)), .int (lowB (t * u) (b * c))]) := v9 _ _ ad3
    have ad4 : M9 d4 = some (.tup [.int (0 - t), .int (b)]) := v9 _ _ ad4
    have ak1 : M9 k1 = some (.lst [.ref d1, .ref d2, .ref d3, .ref d4]) := v9 _ _ ak1
    have ad5 : M9 d5 = some (.tup [.int (if t < 0 then -t else t), .int (b)]) := v9 _ _ ad5
    have ad6 : M9 d6 = some (.tup [.int (lowT (t * 1 + m * b) (b * 1)), .int (lowB (t * 1 + m * b) (b * 1))]) := v9 _ _ ad6
    have ad7 : M9 d7 = some (.tup [.int (lowT (t * 1 + m * b) (b * 1)), .int (lowB (t * 1 + m * b) (b * 1))]) := v9 _ _ ad7
    have ak3 : M9 k3 = some (.lst [.ref d1, .ref d2, .ref d3, .ref d4, .ref d5, .ref d6, .ref d7]) := v9 _ _ ak3
    have ad8 : M9 d8 = some (.tup [.int (lowT (t * 1 + (0 - m) * b) (b * 1)), .int (lowB (t * 1 + (0 - m) * b) (b * 1))]) := v9 _ _ ad8
    refine ⟨_, rfl, _, rfl, p, pw, t, b, m, 1, rfl, hp, apw, zt, zb, zm, sm1, n1', fun M10 d10 v10 ad10 => ?_⟩
    have hp : M10 p = some (.tup [.int (t), .int (b)]) := v10 _ _ hp
    have hq : M10 q = some (.tup [.int (u), .int (c)]) := v10 _ _ hq
    have cu : Same H M10 := cu.trans v10
    have N1 : NumAt (CN K) M10 n1 (t) (b) := N1.same v10
    have N2 : NumAt (CN K) M10 n2 (u) (c) := N2.same v10
    have apw : M10 pw = some (.tup [.int (m), .int (1)]) := v10 _ _ apw
    have al1 : M10 l1 = some (.lst [.ref x1, .ref x2, .ref x3, .ref x4, .ref x5, .ref x6, .ref x7, .ref x8]) := v10 _ _ al1
    have al3 : M10 l3 = some (.lst [.ref x1, .ref x2, .ref x3, .ref x4, .ref x5, .ref x6, .ref x7, .ref x8, .ref x9, .ref x10, .ref x11]) := v10 _ _ al3
    have NS : Nums (CN K) M10 [.ref x1, .ref x2, .ref x3, .ref x4, .ref x5, .ref x6, .ref x7, .ref x8, .ref x9, .ref x10, .ref x11] (sumsW t b u c m) := NS.same v10
    have ad1 : M10 d1 = some (.tup [.int (lowT (t * c + u * b) (b * c)), .int (lowB (t * c + u * b) (b * c))]) := v10 _ _ ad1
    have ad2 : M10 d2 = some (.tup [.int (lowT (t * c + (0 - u) * b) (b * c)), .int (lowB (t * c + (0 - u) * b) (b * c))]) := v10 _ _ ad2
    have ad3 : M10 d3 = some (.tup [.int (lowT (t * u) (b * c)), .int (lowB (t * u) (b * c))]) := v10 _ _ ad3
    have ad4 : M10 d4 = some (.tup [.int (0 - t), .int (b)]) := v10 _ _ ad4
    have ak1 : M10 k1 = some (.lst [.ref d1, .ref d2, .ref d3, .ref d4]) := v10 _ _ ak1
    have ad5 : M10 d5 = some (.tup [.int (if t < 0 then -t else t), .int (b)]) := v10 _ _ ad5
    have ad6 : M10 d6 = some (.tup [.int (lowT (t * 1 + m * b) (b * 1)), .int (lowB (t * 1 + m * b) (b * 1))]) := v10 _ _ ad6
    have ad7 : M10 d7 = some (.tup [.int (lowT (t * 1 + m * b) (b * 1)), .int (lowB (t * 1 + m * b) (b * 1))]) := v10 _ _ ad7
    have ak3 : M10 k3 = some (.lst [.ref d1, .ref d2, .ref d3, .ref d4, .ref d5, .ref d6, .ref d7]) := v10 _ _ ak3
    have ad8 : M10 d8 = some (.tup [.int (lowT (t * 1 + (0 - m) * b) (b * 1)), .int (lowB (t * 1 + (0 - m) * b) (b * 1))]) := v10 _ _ ad8
    have ad9 : M10 d9 = some (.tup [.int (lowT (m * b + (0 - t) * 1) (1 * b)), .int (lowB (m * b + (0 - t) * 1) (1 * b))]) := v10 _ _ ad9
    refine ⟨(by show 3 ≤ sizeLine; decide), fun k4 nk4 => ?_⟩
    have z10 : Same M10 (upd M10 k4 (.lst [.ref d8, .ref d9, .ref d10])) := same_upd nk4
    have ak4 : (upd M10 k4 (.lst [.ref d8, .ref d9, .ref d10])) k4 = some (.lst [.ref d8, .ref d9, .ref d10]) := upd_same
    generalize upd M10 k4 (.lst [.ref d8, .ref d9, .ref d10]) = G10 at z10 ak4 ⊢
    have hp : G10 p = some (.tup [.int (t), .int (b)]) := z10 _ _ hp
    have hq : G10 q = some (.tup [.int (u), .int (c)]) := z10 _ _ hq
    have cu : Same H G10 := cu.trans z10
    have N1 : NumAt (CN K) G10 n1 (t) (b) := N1.same z10
    have N2 : NumAt (CN K) G10 n2 (u) (c) := N2.same z10
    have apw : G10 pw = some (.tup [.int (m), .int (1)]) := z10 _ _ apw
    have al1 : G10 l1 = some (.lst [.ref x1, .ref x2, .ref x3, .ref x4, .ref x5, .ref x6, .ref x7, .ref x8]) := z10 _ _ al1
    have al3 : G10 l3 = some (.lst [.ref x1, .ref x2, .ref x3, .ref x4, .ref x5, .ref x6, .ref x7, .ref x8, .ref x9, .ref x10, .ref x11]) := z10 _ _ al3
    have NS : Nums (CN K) G10 [.ref x1, .ref x2, .ref x3, .ref x4, .ref x5, .ref x6, .ref x7, .ref x8, .ref x9, .ref x10, .ref x11] (sumsW t b u c m) := NS.same z10
    have ad1 : G10 d1 = some (.tup [.int (lowT (t * c + u * b) (b * c)), .int (lowB (t * c + u * b) (b * c))]) := z10 _ _ ad1
    have ad2 : G10 d2 = some (.tup [.int (lowT (t * c + (0 - u) * b) (b * c)), .int (lowB (t * c + (0 - u) * b) (b * c))]) := z10 _ _ ad2
    have ad3 : G10 d3 = some (.tup [.int (lowT (t * u) (b * c)), .int (lowB (t * u) (b * c))]) := z10 _ _ ad3
    have ad4 : G10 d4 = some (.tup [.int (0 - t), .int (b)]) := z10 _ _ ad4
    have ak1 : G10 k1 = some (.lst [.ref d1, .ref d2, .ref d3, .ref d4]) := z10 _ _ ak1
    have ad5 : G10 d5 = some (.tup [.int (if t < 0 then -t else t), .int (b)]) := z10 _ _ ad5
    have ad6 : G10 d6 = some (.tup [.int (lowT (t * 1 + m * b) (b * 1)), .int (lowB (t * 1 + m * b) (b * 1))]) := z10 _ _ ad6
    have ad7 : G10 d7 = some (.tup [.int (lowT (t * 1 + m * b) (b * 1)), .int (lowB (t * 1 + m * b) (b * 1))]) := z10 _ _ ad7
    have ak3 : G10 k3 = some (.lst [.ref d1, .ref d2, .ref d3, .ref d4, .ref d5, .ref d6, .ref d7]) := z10 _ _ ak3
    have ad8 : G10 d8 = some (.tup [.int (lowT (t * 1 + (0 - m) * b) (b * 1)), .int (lowB (t * 1 + (0 - m) * b) (b * 1))]) := z10 _ _ ad8
    have ad9 : G10 d9 = some (.tup [.int (lowT (m * b + (0 - t) * 1) (1 * b)), .int (lowB (m * b + (0 - t) * 1) (1 * b))]) := z10 _ _ ad9
    have ad10 : G10 d10 = some (.tup [.int (lowT (t * m) (b * 1)), .int (lowB (t * m) (b * 1))]) := z10 _ _ ad10
    have cB : Same G10 G10 := Same.refl _
    have hpB := hp
    have hqB := hq
    have cuB := cu
    have N1B := N1
    have N2B := N2
    have apwB := apw
    have al1B := al1
    have al3B := al3
    have NSB := NS
    have ad1B := ad1
    have ad2B := ad2
    have ad3B := ad3
    have ad4B := ad4
    have ak1B := ak1
    have ad5B := ad5
    have ad6B := ad6
    have ad7B := ad7
    have ak3B := ak3
    have ad8B := ad8
    have ad9B := ad9
    have ad10B := ad10
    refine ⟨k3, k4, _, _, rfl, rfl, ak3, ak4, (by show 10 ≤ sizeLine; decide), fun k5 nk5 => ?_⟩
    have z11 : Same G10 (upd G10 k5 (.lst [.ref d1, .ref d2, .ref d3, .ref d4, .ref d5, .ref d6, .ref d7, .ref d8, .ref d9, .ref d10])) := same_upd nk5
    have ak5 : (upd G10 k5 (.lst [.ref d1, .ref d2, .ref d3, .ref d4, .ref d5, .ref d6, .ref d7, .ref d8, .ref d9, .ref d10])) k5 = some (.lst [.ref d1, .ref d2, .ref d3, .ref d4, .ref d5, .ref d6, .ref d7, .ref d8, .ref d9, .ref d10]) := upd_same
    simp only [List.cons_append, List.nil_append]
    generalize upd G10 k5 (.lst [.ref d1, .ref d2, .ref d3, .ref d4, .ref d5, .ref d6, .ref d7, .ref d8, .ref d9, .ref d10]) = G11 at z11 ak5 ⊢
    have hp : G11 p = some (.tup [.int (t), .int (b)]) := z11 _ _ hp
    have hq : G11 q = some (.tup [.int (u), .int (c)]) := z11 _ _ hq
    have cu : Same H G11 := cu.trans z11
    have N1 : NumAt (CN K) G11 n1 (t) (b) := N1.same z11
    have N2 : NumAt (CN K) G11 n2 (u) (c) := N2.same z11
    have apw : G11 pw = some (.tup [.int (m), .int (1)]) := z11 _ _ apw
    have al1 : G11 l1 = some (.lst [.ref x1, .ref x2, .ref x3, .ref x4, .ref x5, .ref x6, .ref x7, .ref x8]) := z11 _ _ al1
    have al3 : G11 l3 = some (.lst [.ref x1, .ref x2, .ref x3, .ref x4, .ref x5, .ref x6, .ref x7, .ref x8, .ref x9, .ref x10, .ref x11]) := z11 _ _ al3
    have NS : Nums (CN K) G11 [.ref x1, .ref x2, .ref x3, .ref x4, .ref x5, .ref x6, .ref x7, .ref x8, .ref x9, .ref x10, .ref x11] (sumsW t b u c m) := NS.same z11
    have ad1 : G11 d1 = some (.tup [.int (lowT (t * c + u * b) (b * c)), .int (lowB (t * c + u * b) (b * c))]) := z11 _ _ ad1
    have ad2 : G11 d2 = some (.tup [.int (lowT (t * c + (0 - u) * b) (b * c)), .int (lowB (t * c + (0 - u) * b) (b * c))]) := z11 _ _ ad2
    have ad3 : G11 d3 = some (.tup [.int (lowT (t * u) (b * c)), .int (lowB (t * u) (b * c))]) := z11 _ _ ad3
    have ad4 : G11 d4 = some (.tup [.int (0 - t), .int (b)]) := z11 _ _ ad4
    have ak1 : G11 k1 = some (.lst [.ref d1, .ref d2, .ref d3, .ref d4]) := z11 _ _ ak1
    have ad5 : G11 d5 = some (.tup [.int (if t < 0 then -t else t), .int (b)]) := z11 _ _ ad5
    have ad6 : G11 d6 = some (.tup [.int (lowT (t * 1 + m * b) (b * 1)), .int (lowB (t * 1 + m * b) (b * 1))]) := z11 _ _ ad6
    have ad7 : G11 d7 = some (.tup [.int (lowT (t * 1 + m * b) (b * 1)), .int (lowB (t * 1 + m * b) (b * 1))]) := z11 _ _ ad7
    have ak3 : G11 k3 = some (.lst [.ref d1, .ref d2, .ref d3, .ref d4, .ref d5, .ref d6, .ref d7]) := z11 _ _ ak3
    have ad8 : G11 d8 = some (.tup [.int (lowT (t * 1 + (0 - m) * b) (b * 1)), .int (lowB (t * 1 + (0 - m) * b) (b * 1))]) := z11 _ _ ad8
    have ad9 : G11 d9 = some (.tup [.int (lowT (m * b + (0 - t) * 1) (1 * b)), .int (lowB (m * b + (0 - t) * 1) (1 * b))]) := z11 _ _ ad9
    have ad10 : G11 d10 = some (.tup [.int (lowT (t * m) (b * 1)), .int (lowB (t * m) (b * 1))]) := z11 _ _ ad10
    refine ⟨_, rfl, .inl ⟨rfl, _, .inl (.inl ak5)⟩, ?_⟩
    refine ⟨_, rfl, _, rfl, p, pw, t, b, m, 1, rfl, hp, apw, zt, zb, zm, sm1, n1', fun M11 d11 v11 ad11 => ?_⟩
    have hp : M11 p = some (.tup [.int (t), .int (b)]) := v11 _ _ hp
    have hq : M11 q = some (.tup [.int (u), .int (c)]) := v11 _ _ hq
    have cu : Same H M11 := cu.trans v11
    have N1 : NumAt (CN K) M11 n1 (t) (b) := N1.same v11
    have N2 : NumAt (CN K) M11 n2 (u) (c) := N2.same v11
    have apw : M11 pw = some (.tup [.int (m), .int (1)]) := v11 _ _ apw
    have al1 : M11 l1 = some (.lst [.ref x1, .ref x2, .ref x3, .ref x4, .ref x5, .ref x6, .ref x7, .ref x8]) := v11 _ _ al1
    have al3 : M11 l3 = some (.lst [.ref x1, .ref x2, .ref x3, .ref x4, .ref x5, .ref x6, .ref x7, .ref x8, .ref x9, .ref x10, .ref x11]) := v11 _ _ al3
    have NS : Nums (CN K) M11 [.ref x1, .ref x2, .ref x3, .ref x4, .ref x5, .ref x6, .ref x7, .ref x8, .ref x9, .ref x10, .ref x11] (sumsW t b u c m) := NS.same v11
    have ad1 : M11 d1 = some (.tup [.int (lowT (t * c + u * b) (b * c)), .int (lowB (t * c + u * b) (b * c))]) := v11 _ _ ad1
    have ad2 : M11 d2 = some (.tup [.int (lowT (t * c + (0 - u) * b) (b * c)), .int (lowB (t * c + (0 - u) * b) (b * c))]) := v11 _ _ ad2
    have ad3 : M11 d3 = some (.tup [.int (lowT (t * u) (b * c)), .int (lowB (t * u) (b * c))]) := v11 _ _ ad3
    have ad4 : M11 d4 = some (.tup [.int (0 - t), .int (b)]) := v11 _ _ ad4
    have ak1 : M11 k1 = some (.lst [.ref d1, .ref d2, .ref d3, .ref d4]) := v11 _ _ ak1
    have ad5 : M11 d5 = some (.tup [.int (if t < 0 then -t else t), .int (b)]) := v11 _ _ ad5
    have ad6 : M11 d6 = some (.tup [.int (lowT (t * 1 + m * b) (b * 1)), .int (lowB (t * 1 + m * b) (b * 1))]) := v11 _ _ ad6
    have ad7 : M11 d7 = some (.tup [.int (lowT (t * 1 + m * b) (b * 1)), .int (lowB (t * 1 + m * b) (b * 1))]) := v11 _ _ ad7
    have ak3 : M11 k3 = some (.lst [.ref d1, .ref d2, .ref d3, .ref d4, .ref d5, .ref d6, .ref d7]) := v11 _ _ ak3
    have ad8 : M11 d8 = some (.tup [.int (lowT (t * 1 + (0 - m) * b) (b * 1)), .int (lowB (t * 1 + (0 - m) * b) (b * 1))]) := v11 _ _ ad8
    have ad9 : M11 d9 = some (.tup [.int (lowT (m * b + (0 - t) * 1) (1 * b)), .int (lowB (m * b + (0 - t) * 1) (1 * b))]) := v11 _ _ ad9
    have ad10 : M11 d10 = some (.tup [.int (lowT (t * m) (b * 1)), .int (lowB (t * m) (b * 1))]) := v11 _ _ ad10
    have ak5 : M11 k5 = some (.lst [.ref d1, .ref d2, .ref d3, .ref d4, .ref d5, .ref d6, .ref d7, .ref d8, .ref d9, .ref d10]) := v11 _ _ ak5
    refine ⟨k5, _, _, rfl, rfl, ak5, (by show 10 < sizeLine; decide), ?_⟩
    have sB : Same G10 (upd M11 k5 (.lst [.ref d1, .ref d2, .ref d3, .ref d4, .ref d5, .ref d6, .ref d7, .ref d8, .ref d9, .ref d10, .ref d11])) := same_upd' (z11.trans v11) nk5
    have ad11 : (upd M11 k5 (.lst [.ref d1, .ref d2, .ref d3, .ref d4, .ref d5, .ref d6, .ref d7, .ref d8, .ref d9, .ref d10, .ref d11])) d11 = some (.tup [.int (lowT (t * m) (b * 1)), .int (lowB (t * m) (b * 1))]) := by rw [upd_ne (ne_of ad11 ak5 (by intro z; exact nomatch z))]; exact ad11
    have ak6 : (upd M11 k5 (.lst [.ref d1, .ref d2, .ref d3, .ref d4, .ref d5, .ref d6, .ref d7, .ref d8, .ref d9, .ref d10, .ref d11])) k5 = some (.lst [.ref d1, .ref d2, .ref d3, .ref d4, .ref d5, .ref d6, .ref d7, .ref d8, .ref d9, .ref d10, .ref d11]) := upd_same
    simp only [List.cons_append, List.nil_append]
    generalize upd M11 k5 (.lst [.ref d1, .ref d2, .ref d3, .ref d4, .ref d5, .ref d6, .ref d7, .ref d8, .ref d9, .ref d10, .ref d11]) = Z at sB ad11 ak6 ⊢
    have hp : Z p = some (.tup [.int (t), .int (b)]) := sB _ _ hpB
    have hq : Z q = some (.tup [.int (u), .int (c)]) := sB _ _ hqB
    have cu : Same H Z := cuB.trans sB
    have N1 : NumAt (CN K) Z n1 (t) (b) := N1B.same sB
    have N2 : NumAt (CN K) Z n2 (u) (c) := N2B.same sB
    have apw : Z pw = some (.tup [.int (m), .int (1)]) := sB _ _ apwB
    have al1 : Z l1 = some (.lst [.ref x1, .ref x2, .ref x3, .ref x4, .ref x5, .ref x6, .ref x7, .ref x8]) := sB _ _ al1B
    have al3 : Z l3 = some (.lst [.ref x1, .ref x2, .ref x3, .ref x4, .ref x5, .ref x6, .ref x7, .ref x8, .ref x9, .ref x10, .ref x11]) := sB _ _ al3B
    have NS : Nums (CN K) Z [.ref x1, .ref x2, .ref x3, .ref x4, .ref x5, .ref x6, .ref x7, .ref x8, .ref x9, .ref x10, .ref x11] (sumsW t b u c m) := NSB.same sB
    have ad1 : Z d1 = some (.tup [.int (lowT (t * c + u * b) (b * c)), .int (lowB (t * c + u * b) (b * c))]) := sB _ _ ad1B
    have ad2 : Z d2 = some (.tup [.int (lowT (t * c + (0 - u) * b) (b * c)), .int (lowB (t * c + (0 - u) * b) (b * c))]) := sB _ _ ad2B
    have ad3 : Z d3 = some (.tup [.int (lowT (t * u) (b * c)), .int (lowB (t * u) (b * c))]) := sB _ _ ad3B
    have ad4 : Z d4 = some (.tup [.int (0 - t), .int (b)]) := sB _ _ ad4B
    have ak1 : Z k1 = some (.lst [.ref d1, .ref d2, .ref d3, .ref d4]) := sB _ _ ak1B
    have ad5 : Z d5 = some (.tup [.int (if t < 0 then -t else t), .int (b)]) := sB _ _ ad5B
    have ad6 : Z d6 = some (.tup [.int (lowT (t * 1 + m * b) (b * 1)), .int (lowB (t * 1 + m * b) (b * 1))]) := sB _ _ ad6B
    have ad7 : Z d7 = some (.tup [.int (lowT (t * 1 + m * b) (b * 1)), .int (lowB (t * 1 + m * b) (b * 1))]) := sB _ _ ad7B
    have ak3 : Z k3 = some (.lst [.ref d1, .ref d2, .ref d3, .ref d4, .ref d5, .ref d6, .ref d7]) := sB _ _ ak3B
    have ad8 : Z d8 = some (.tup [.int (lowT (t * 1 + (0 - m) * b) (b * 1)), .int (lowB (t * 1 + (0 - m) * b) (b * 1))]) := sB _ _ ad8B
    have ad9 : Z d9 = some (.tup [.int (lowT (m * b + (0 - t) * 1) (1 * b)), .int (lowB (m * b + (0 - t) * 1) (1 * b))]) := sB _ _ ad9B
    have ad10 : Z d10 = some (.tup [.int (lowT (t * m) (b * 1)), .int (lowB (t * m) (b * 1))]) := sB _ _ ad10B
    refine ⟨_, rfl, ?_⟩
    refine ⟨l3, rfl, ⟨_, .inl (.inl al3)⟩, fun D1 nD1 => ?_⟩
    refine lc_list (K := K) (a := l3) (xs := [.ref x1, .ref x2, .ref x3, .ref x4, .ref x5, .ref x6, .ref x7, .ref x8, .ref x9, .ref x10, .ref x11]) (fun i H' => Same Z H' ∧ H' D1 = some (.lst (List.replicate i (.bl true)))) ⟨same_upd nD1, upd_same⟩ (fun i H' _ w => .inl (.inl (w.1 _ _ al3))) ?_ ?_
    · rintro i x H' hx ⟨sm, hD⟩
      have hi : i < 1000 := Nat.lt_of_lt_of_le (List.getElem?_eq_some_iff.mp hx).1 (by simp)
      refine ⟨rfl, ?_⟩
      unfold tYes
      dsimp only
      rw [if_pos rfl]
      obtain ⟨w, p', hw, rfl, Np⟩ := (NS.same sm).get hx
      obtain ⟨dx, hp'⟩ := id Np.at_
      refine ⟨_, rfl, _, _, _, _, true, rfl, .own _, .base (ins_ok (f_ins T.c) hp' (cl T)), of_decide_eq_true (f_kitO T.c), _, hD, ?_, same_upd' sm nD1, ?_⟩
      · rw [List.length_replicate]; exact small1000 (by omega)
      · rw [upd_same, List.replicate_succ']
    · rintro Y1 ⟨sY1, aD1⟩
      have hp : Y1 p = some (.tup [.int (t), .int (b)]) := sY1 _ _ hp
      have hq : Y1 q = some (.tup [.int (u), .int (c)]) := sY1 _ _ hq
      have cu : Same H Y1 := cu.trans sY1
      have N1 : NumAt (CN K) Y1 n1 (t) (b) := N1.same sY1
      have N2 : NumAt (CN K) Y1 n2 (u) (c) := N2.same sY1
      have apw : Y1 pw = some (.tup [.int (m), .int (1)]) := sY1 _ _ apw
      have al1 : Y1 l1 = some (.lst [.ref x1, .ref x2, .ref x3, .ref x4, .ref x5, .ref x6, .ref x7, .ref x8]) := sY1 _ _ al1
      have al3 : Y1 l3 = some (.lst [.ref x1, .ref x2, .ref x3, .ref x4, .ref x5, .ref x6, .ref x7, .ref x8, .ref x9, .ref x10, .ref x11]) := sY1 _ _ al3
      have NS : Nums (CN K) Y1 [.ref x1, .ref x2, .ref x3, .ref x4, .ref x5, .ref x6, .ref x7, .ref x8, .ref x9, .ref x10, .ref x11] (sumsW t b u c m) := NS.same sY1
      have ad1 : Y1 d1 = some (.tup [.int (lowT (t * c + u * b) (b * c)), .int (lowB (t * c + u * b) (b * c))]) := sY1 _ _ ad1
      have ad2 : Y1 d2 = some (.tup [.int (lowT (t * c + (0 - u) * b) (b * c)), .int (lowB (t * c + (0 - u) * b) (b * c))]) := sY1 _ _ ad2
      have ad3 : Y1 d3 = some (.tup [.int (lowT (t * u) (b * c)), .int (lowB (t * u) (b * c))]) := sY1 _ _ ad3
      have ad4 : Y1 d4 = some (.tup [.int (0 - t), .int (b)]) := sY1 _ _ ad4
      have ak1 : Y1 k1 = some (.lst [.ref d1, .ref d2, .ref d3, .ref d4]) := sY1 _ _ ak1
      have ad5 : Y1 d5 = some (.tup [.int (if t < 0 then -t else t), .int (b)]) := sY1 _ _ ad5
      have ad6 : Y1 d6 = some (.tup [.int (lowT (t * 1 + m * b) (b * 1)), .int (lowB (t * 1 + m * b) (b * 1))]) := sY1 _ _ ad6
      have ad7 : Y1 d7 = some (.tup [.int (lowT (t * 1 + m * b) (b * 1)), .int (lowB (t * 1 + m * b) (b * 1))]) := sY1 _ _ ad7
      have ak3 : Y1 k3 = some (.lst [.ref d1, .ref d2, .ref d3, .ref d4, .ref d5, .ref d6, .ref d7]) := sY1 _ _ ak3
      have ad8 : Y1 d8 = some (.tup [.int (lowT (t * 1 + (0 - m) * b) (b * 1)), .int (lowB (t * 1 + (0 - m) * b) (b * 1))]) := sY1 _ _ ad8
      have ad9 : Y1 d9 = some (.tup [.int (lowT (m * b + (0 - t) * 1) (1 * b)), .int (lowB (m * b + (0 - t) * 1) (1 * b))]) := sY1 _ _ ad9
      have ad10 : Y1 d10 = some (.tup [.int (lowT (t * m) (b * 1)), .int (lowB (t * m) (b * 1))]) := sY1 _ _ ad10
      have ak6 : Y1 k5 = some (.lst [.ref d1, .ref d2, .ref d3, .ref d4, .ref d5, .ref d6, .ref d7, .ref d8, .ref d9, .ref d10, .ref d11]) := sY1 _ _ ak6
      have ad11 : Y1 d11 = some (.tup [.int (lowT (t * m) (b * 1)), .int (lowB (t * m) (b * 1))]) := sY1 _ _ ad11
      refine ⟨D1, List.replicate 11 true, rfl, .inl (.inl aD1), true, rfl, iteF ?_⟩
      refine ⟨_, rfl, _, rfl, _, rfl, ?_⟩
      refine ⟨(by show 2 ≤ sizeLine; decide), fun l5 nl5 => ?_⟩
      have z12 : Same Y1 (upd Y1 l5 (.lst [.ref n1, .ref n2])) := same_upd nl5
      have al5 : (upd Y1 l5 (.lst [.ref n1, .ref n2])) l5 = some (.lst [.ref n1, .ref n2]) := upd_same
      generalize upd Y1 l5 (.lst [.ref n1, .ref n2]) = G12 at z12 al5 ⊢
      have hp : G12 p = some (.tup [.int (t), .int (b)]) := z12 _ _ hp
      have hq : G12 q = some (.tup [.int (u), .int (c)]) := z12 _ _ hq
      have cu : Same H G12 := cu.trans z12
      have N1 : NumAt (CN K) G12 n1 (t) (b) := N1.same z12
      have N2 : NumAt (CN K) G12 n2 (u) (c) := N2.same z12
      have apw : G12 pw = some (.tup [.int (m), .int (1)]) := z12 _ _ apw
      have al1 : G12 l1 = some (.lst [.ref x1, .ref x2, .ref x3, .ref x4, .ref x5, .ref x6, .ref x7, .ref x8]) := z12 _ _ al1
      have al3 : G12 l3 = some (.lst [.ref x1, .ref x2, .ref x3, .ref x4, .ref x5, .ref x6, .ref x7, .ref x8, .ref x9, .ref x10, .ref x11]) := z12 _ _ al3
      have NS : Nums (CN K) G12 [.ref x1, .ref x2, .ref x3, .ref x4, .ref x5, .ref x6, .ref x7, .ref x8, .ref x9, .ref x10, .ref x11] (sumsW t b u c m) := NS.same z12
      have ad1 : G12 d1 = some (.tup [.int (lowT (t * c + u * b) (b * c)), .int (lowB (t * c + u * b) (b * c))]) := z12 _ _ ad1
      have ad2 : G12 d2 = some (.tup [.int (lowT (t * c + (0 - u) * b) (b * c)), .int (lowB (t * c + (0 - u) * b) (b * c))]) := z12 _ _ ad2
      have ad3 : G12 d3 = some (.tup [.int (lowT (t * u) (b * c)), .int (lowB (t * u) (b * c))]) := z12 _ _ ad3
      have ad4 : G12 d4 = some (.tup [.int (0 - t), .int (b)]) := z12 _ _ ad4
      have ak1 : G12 k1 = some (.lst [.ref d1, .ref d2, .ref d3, .ref d4]) := z12 _ _ ak1
      have ad5 : G12 d5 = some (.tup [.int (if t < 0 then -t else t), .int (b)]) := z12 _ _ ad5
      have ad6 : G12 d6 = some (.tup [.int (lowT (t * 1 + m * b) (b * 1)), .int (lowB (t * 1 + m * b) (b * 1))]) := z12 _ _ ad6
      have ad7 : G12 d7 = some (.tup [.int (lowT (t * 1 + m * b) (b * 1)), .int (lowB (t * 1 + m * b) (b * 1))]) := z12 _ _ ad7
      have ak3 : G12 k3 = some (.lst [.ref d1, .ref d2, .ref d3, .ref d4, .ref d5, .ref d6, .ref d7]) := z12 _ _ ak3
      have ad8 : G12 d8 = some (.tup [.int (lowT (t * 1 + (0 - m) * b) (b * 1)), .int (lowB (t * 1 + (0 - m) * b) (b * 1))]) := z12 _ _ ad8
      have ad9 : G12 d9 = some (.tup [.int (lowT (m * b + (0 - t) * 1) (1 * b)), .int (lowB (m * b + (0 - t) * 1) (1 * b))]) := z12 _ _ ad9
      have ad10 : G12 d10 = some (.tup [.int (lowT (t * m) (b * 1)), .int (lowB (t * m) (b * 1))]) := z12 _ _ ad10
      have ak6 : G12 k5 = some (.lst [.ref d1, .ref d2, .ref d3, .ref d4, .ref d5, .ref d6, .ref d7, .ref d8, .ref d9, .ref d10, .ref d11]) := z12 _ _ ak6
      have ad11 : G12 d11 = some (.tup [.int (lowT (t * m) (b * 1)), .int (lowB (t * m) (b * 1))]) := z12 _ _ ad11
      refine ⟨l3, l5, _, _, rfl, rfl, al3, al5, (by show 13 ≤ sizeLine; decide), fun l6 nl6 => ?_⟩
      have z13 : Same G12 (upd G12 l6 (.lst [.ref x1, .ref x2, .ref x3, .ref x4, .ref x5, .ref x6, .ref x7, .ref x8, .ref x9, .ref x10, .ref x11, .ref n1, .ref n2])) := same_upd nl6
      have al6 : (upd G12 l6 (.lst [.ref x1, .ref x2, .ref x3, .ref x4, .ref x5, .ref x6, .ref x7, .ref x8, .ref x9, .ref x10, .ref x11, .ref n1, .ref n2])) l6 = some (.lst [.ref x1, .ref x2, .ref x3, .ref x4, .ref x5, .ref x6, .ref x7, .ref x8, .ref x9, .ref x10, .ref x11, .ref n1, .ref n2]) := upd_same
      simp only [List.cons_append, List.nil_append]
      generalize upd G12 l6 (.lst [.ref x1, .ref x2, .ref x3, .ref x4, .ref x5, .ref x6, .ref x7, .ref x8, .ref x9, .ref x10, .ref x11, .ref n1, .ref n2]) = G13 at z13 al6 ⊢
      have hp : G13 p = some (.tup [.int (t), .int (b)]) := z13 _ _ hp
      have hq : G13 q = some (.tup [.int (u), .int (c)]) := z13 _ _ hq
      have cu : Same H G13 := cu.trans z13
      have N1 : NumAt (CN K) G13 n1 (t) (b) := N1.same z13
      have N2 : NumAt (CN K) G13 n2 (u) (c) := N2.same z13
      have apw : G13 pw = some (.tup [.int (m), .int (1)]) := z13 _ _ apw
      have al1 : G13 l1 = some (.lst [.ref x1, .ref x2, .ref x3, .ref x4, .ref x5, .ref x6, .ref x7, .ref x8]) := z13 _ _ al1
      have al3 : G13 l3 = some (.lst [.ref x1, .ref x2, .ref x3, .ref x4, .ref x5, .ref x6, .ref x7, .ref x8, .ref x9, .ref x10, .ref x11]) := z13 _ _ al3
      have NS : Nums (CN K) G13 [.ref x1, .ref x2, .ref x3, .ref x4, .ref x5, .ref x6, .ref x7, .ref x8, .ref x9, .ref x10, .ref x11] (sumsW t b u c m) := NS.same z13
      have ad1 : G13 d1 = some (.tup [.int (lowT (t * c + u * b) (b * c)), .int (lowB (t * c + u * b) (b * c))]) := z13 _ _ ad1
      have ad2 : G13 d2 = some (.tup [.int (lowT (t * c + (0 - u) * b) (b * c)), .int (lowB (t * c + (0 - u) * b) (b * c))]) := z13 _ _ ad2
      have ad3 : G13 d3 = some (.tup [.int (lowT (t * u) (b * c)), .int (lowB (t * u) (b * c))]) := z13 _ _ ad3
      have ad4 : G13 d4 = some (.tup [.int (0 - t), .int (b)]) := z13 _ _ ad4
      have ak1 : G13 k1 = some (.lst [.ref d1, .ref d2, .ref d3, .ref d4]) := z13 _ _ ak1
      have ad5 : G13 d5 = some (.tup [.int (if t < 0 then -t else t), .int (b)]) := z13 _ _ ad5
      have ad6 : G13 d6 = some (.tup [.int (lowT (t * 1 + m * b) (b * 1)), .int (lowB (t * 1 + m * b) (b * 1))]) := z13 _ _ ad6
      have ad7 : G13 d7 = some (.tup [.int (lowT (t * 1 + m * b) (b * 1)), .int (lowB (t * 1 + m * b) (b * 1))]) := z13 _ _ ad7
      have ak3 : G13 k3 = some (.lst [.ref d1, .ref d2, .ref d3, .ref d4, .ref d5, .ref d6, .ref d7]) := z13 _ _ ak3
      have ad8 : G13 d8 = some (.tup [.int (lowT (t * 1 + (0 - m) * b) (b * 1)), .int (lowB (t * 1 + (0 - m) * b) (b * 1))]) := z13 _ _ ad8
      have ad9 : G13 d9 = some (.tup [.int (lowT (m * b + (0 - t) * 1) (1 * b)), .int (lowB (m * b + (0 - t) * 1) (1 * b))]) := z13 _ _ ad9
      have ad10 : G13 d10 = some (.tup [.int (lowT (t * m) (b * 1)), .int (lowB (t * m) (b * 1))]) := z13 _ _ ad10
      have ak6 : G13 k5 = some (.lst [.ref d1, .ref d2, .ref d3, .ref d4, .ref d5, .ref d6, .ref d7, .ref d8, .ref d9, .ref d10, .ref d11]) := z13 _ _ ak6
      have ad11 : G13 d11 = some (.tup [.int (lowT (t * m) (b * 1)), .int (lowB (t * m) (b * 1))]) := z13 _ _ ad11
      have okW : ∀ w ∈ sumsW t b u c m ++ [(t, b), (u, c)], Ok2 w := by
        intro w hw
        rcases List.mem_append.mp hw with h | h
        · exact sumsW_ok pb pc zt zb zu zc zm w h
        · simp only [List.mem_cons, List.not_mem_nil, or_false] at h
          rcases h with rfl | rfl
          · exact ⟨pb, sm_sz zt, sm_sz zb⟩
          · exact ⟨pc, sm_sz zu, sm_sz zc⟩
      have NF : Nums (CN K) G13 [.ref x1, .ref x2, .ref x3, .ref x4, .ref x5, .ref x6, .ref x7, .ref x8, .ref x9, .ref x10, .ref x11, .ref n1, .ref n2] (sumsW t b u c m ++ [(t, b), (u, c)]) := Nums.app NS ⟨⟨_, rfl, N1⟩, ⟨_, rfl, N2⟩, trivial⟩
      have wl : (sumsW t b u c m ++ [(t, b), (u, c)]).length = 13 := rfl
      generalize eW : sumsW t b u c m ++ [(t, b), (u, c)] = W at okW NF wl
      refine ⟨l6, rfl, ⟨_, .inl (.inl al6)⟩, fun D2 nD2 => ?_⟩
      refine lc_list (K := K) (a := l6) (xs := [.ref x1, .ref x2, .ref x3, .ref x4, .ref x5, .ref x6, .ref x7, .ref x8, .ref x9, .ref x10, .ref x11, .ref n1, .ref n2]) (fun i H' => Same G13 H' ∧ H' D2 = some (.lst (((W.take i).map tx).map V.str))) ⟨same_upd nD2, upd_same⟩ (fun i H' _ w => .inl (.inl (w.1 _ _ al6))) ?_ ?_
      · rintro i x H' hx ⟨sm, hD⟩
        have hi : i < 1000 := Nat.lt_of_lt_of_le (List.getElem?_eq_some_iff.mp hx).1 (by simp)
        refine ⟨rfl, ?_⟩
        unfold tYes
        dsimp only
        rw [if_pos rfl]
        obtain ⟨w, p', hw, rfl, Np⟩ := (NF.same sm).get hx
        obtain ⟨dx, hp'⟩ := id Np.at_
        obtain ⟨ok1, ok2, ok3⟩ := okW w (List.mem_of_getElem? hw)
        refine ⟨_, rfl, p', dx, _, rfl, hp', p', w.1, w.2, rfl, Np, ok2, ok3, _, rfl, _, hD, ?_, same_upd' sm nD2, ?_⟩
        · rw [List.length_map, List.length_map, List.length_take]; exact small1000 (by omega)
        · rw [upd_same, take_tx hw]
      · rintro Y2 ⟨sY2, aD2⟩
        have hp : Y2 p = some (.tup [.int (t), .int (b)]) := sY2 _ _ hp
        have hq : Y2 q = some (.tup [.int (u), .int (c)]) := sY2 _ _ hq
        have cu : Same H Y2 := cu.trans sY2
        have N1 : NumAt (CN K) Y2 n1 (t) (b) := N1.same sY2
        have N2 : NumAt (CN K) Y2 n2 (u) (c) := N2.same sY2
        have apw : Y2 pw = some (.tup [.int (m), .int (1)]) := sY2 _ _ apw
        have al1 : Y2 l1 = some (.lst [.ref x1, .ref x2, .ref x3, .ref x4, .ref x5, .ref x6, .ref x7, .ref x8]) := sY2 _ _ al1
        have al3 : Y2 l3 = some (.lst [.ref x1, .ref x2, .ref x3, .ref x4, .ref x5, .ref x6, .ref x7, .ref x8, .ref x9, .ref x10, .ref x11]) := sY2 _ _ al3
        have NS : Nums (CN K) Y2 [.ref x1, .ref x2, .ref x3, .ref x4, .ref x5, .ref x6, .ref x7, .ref x8, .ref x9, .ref x10, .ref x11] (sumsW t b u c m) := NS.same sY2
        have ad1 : Y2 d1 = some (.tup [.int (lowT (t * c + u * b) (b * c)), .int (lowB (t * c + u * b) (b * c))]) := sY2 _ _ ad1
        have ad2 : Y2 d2 = some (.tup [.int (lowT (t * c + (0 - u) * b) (b * c)), .int (lowB (t * c + (0 - u) * b) (b * c))]) := sY2 _ _ ad2
        have ad3 : Y2 d3 = some (.tup [.int (lowT (t * u) (b * c)), .int (lowB (t * u) (b * c))]) := sY2 _ _ ad3
        have ad4 : Y2 d4 = some (.tup [.int (0 - t), .int (b)]) := sY2 _ _ ad4
        have ak1 : Y2 k1 = some (.lst [.ref d1, .ref d2, .ref d3, .ref d4]) := sY2 _ _ ak1
        have ad5 : Y2 d5 = some (.tup [.int (if t < 0 then -t else t), .int (b)]) := sY2 _ _ ad5
        have ad6 : Y2 d6 = some (.tup [.int (lowT (t * 1 + m * b) (b * 1)), .int (lowB (t * 1 + m * b) (b * 1))]) := sY2 _ _ ad6
        have ad7 : Y2 d7 = some (.tup [.int (lowT (t * 1 + m * b) (b * 1)), .int (lowB (t * 1 + m * b) (b * 1))]) := sY2 _ _ ad7
        have ak3 : Y2 k3 = some (.lst [.ref d1, .ref d2, .ref d3, .ref d4, .ref d5, .ref d6, .ref d7]) := sY2 _ _ ak3
        have ad8 : Y2 d8 = some (.tup [.int (lowT (t * 1 + (0 - m) * b) (b * 1)), .int (lowB (t * 1 + (0 - m) * b) (b * 1))]) := sY2 _ _ ad8
        have ad9 : Y2 d9 = some (.tup [.int (lowT (m * b + (0 - t) * 1) (1 * b)), .int (lowB (m * b + (0 - t) * 1) (1 * b))]) := sY2 _ _ ad9
        have ad10 : Y2 d10 = some (.tup [.int (lowT (t * m) (b * 1)), .int (lowB (t * m) (b * 1))]) := sY2 _ _ ad10
        have ak6 : Y2 k5 = some (.lst [.ref d1, .ref d2, .ref d3, .ref d4, .ref d5, .ref d6, .ref d7, .ref d8, .ref d9, .ref d10, .ref d11]) := sY2 _ _ ak6
        have ad11 : Y2 d11 = some (.tup [.int (lowT (t * m) (b * 1)), .int (lowB (t * m) (b * 1))]) := sY2 _ _ ad11
        have al6 : Y2 l6 = some (.lst [.ref x1, .ref x2, .ref x3, .ref x4, .ref x5, .ref x6, .ref x7, .ref x8, .ref x9, .ref x10, .ref x11, .ref n1, .ref n2]) := sY2 _ _ al6
        have NF : Nums (CN K) Y2 [.ref x1, .ref x2, .ref x3, .ref x4, .ref x5, .ref x6, .ref x7, .ref x8, .ref x9, .ref x10, .ref x11, .ref n1, .ref n2] W := NF.same sY2
        have aD2 : Y2 D2 = some (.lst ((W.map tx).map V.str)) := by
          have e : W.take 13 = W := by rw [← wl]; exact List.take_length
          rw [aD2]
          show some (HO.lst (((W.take 13).map tx).map V.str)) = _
          rw [e]
        refine ⟨_, rfl, _, rfl, _, rfl, ?_⟩
        refine ⟨(by show 2 ≤ sizeLine; decide), fun k8 nk8 => ?_⟩
        have z14 : Same Y2 (upd Y2 k8 (.lst [.ref p, .ref q])) := same_upd nk8
        have ak8 : (upd Y2 k8 (.lst [.ref p, .ref q])) k8 = some (.lst [.ref p, .ref q]) := upd_same
        generalize upd Y2 k8 (.lst [.ref p, .ref q]) = G14 at z14 ak8 ⊢
        have hp : G14 p = some (.tup [.int (t), .int (b)]) := z14 _ _ hp
        have hq : G14 q = some (.tup [.int (u), .int (c)]) := z14 _ _ hq
        have cu : Same H G14 := cu.trans z14
        have N1 : NumAt (CN K) G14 n1 (t) (b) := N1.same z14
        have N2 : NumAt (CN K) G14 n2 (u) (c) := N2.same z14
        have apw : G14 pw = some (.tup [.int (m), .int (1)]) := z14 _ _ apw
        have al1 : G14 l1 = some (.lst [.ref x1, .ref x2, .ref x3, .ref x4, .ref x5, .ref x6, .ref x7, .ref x8]) := z14 _ _ al1
        have al3 : G14 l3 = some (.lst [.ref x1, .ref x2, .ref x3, .ref x4, .ref x5, .ref x6, .ref x7, .ref x8, .ref x9, .ref x10, .ref x11]) := z14 _ _ al3
        have NS : Nums (CN K) G14 [.ref x1, .ref x2, .ref x3, .ref x4, .ref x5, .ref x6, .ref x7, .ref x8, .ref x9, .ref x10, .ref x11] (sumsW t b u c m) := NS.same z14
        have ad1 : G14 d1 = some (.tup [.int (lowT (t * c + u * b) (b * c)), .int (lowB (t * c + u * b) (b * c))]) := z14 _ _ ad1
        have ad2 : G14 d2 = some (.tup [.int (lowT (t * c + (0 - u) * b) (b * c)), .int (lowB (t * c + (0 - u) * b) (b * c))]) := z14 _ _ ad2
        have ad3 : G14 d3 = some (.tup [.int (lowT (t * u) (b * c)), .int (lowB (t * u) (b * c))]) := z14 _ _ ad3
        have ad4 : G14 d4 = some (.tup [.int (0 - t), .int (b)]) := z14 _ _ ad4
        have ak1 : G14 k1 = some (.lst [.ref d1, .ref d2, .ref d3, .ref d4]) := z14 _ _ ak1
        have ad5 : G14 d5 = some (.tup [.int (if t < 0 then -t else t), .int (b)]) := z14 _ _ ad5
        have ad6 : G14 d6 = some (.tup [.int (lowT (t * 1 + m * b) (b * 1)), .int (lowB (t * 1 + m * b) (b * 1))]) := z14 _ _ ad6
        have ad7 : G14 d7 = some (.tup [.int (lowT (t * 1 + m * b) (b * 1)), .int (lowB (t * 1 + m * b) (b * 1))]) := z14 _ _ ad7
        have ak3 : G14 k3 = some (.lst [.ref d1, .ref d2, .ref d3, .ref d4, .ref d5, .ref d6, .ref d7]) := z14 _ _ ak3
        have ad8 : G14 d8 = some (.tup [.int (lowT (t * 1 + (0 - m) * b) (b * 1)), .int (lowB (t * 1 + (0 - m) * b) (b * 1))]) := z14 _ _ ad8
        have ad9 : G14 d9 = some (.tup [.int (lowT (m * b + (0 - t) * 1) (1 * b)), .int (lowB (m * b + (0 - t) * 1) (1 * b))]) := z14 _ _ ad9
        have ad10 : G14 d10 = some (.tup [.int (lowT (t * m) (b * 1)), .int (lowB (t * m) (b * 1))]) := z14 _ _ ad10
        have ak6 : G14 k5 = some (.lst [.ref d1, .ref d2, .ref d3, .ref d4, .ref d5, .ref d6, .ref d7, .ref d8, .ref d9, .ref d10, .ref d11]) := z14 _ _ ak6
        have ad11 : G14 d11 = some (.tup [.int (lowT (t * m) (b * 1)), .int (lowB (t * m) (b * 1))]) := z14 _ _ ad11
        have al6 : G14 l6 = some (.lst [.ref x1, .ref x2, .ref x3, .ref x4, .ref x5, .ref x6, .ref x7, .ref x8, .ref x9, .ref x10, .ref x11, .ref n1, .ref n2]) := z14 _ _ al6
        have NF : Nums (CN K) G14 [.ref x1, .ref x2, .ref x3, .ref x4, .ref x5, .ref x6, .ref x7, .ref x8, .ref x9, .ref x10, .ref x11, .ref n1, .ref n2] W := NF.same z14
        have aD2 : G14 D2 = some (.lst ((W.map tx).map V.str)) := z14 _ _ aD2
        refine ⟨k5, k8, _, _, rfl, rfl, ak6, ak8, (by show 13 ≤ sizeLine; decide), fun k7 nk7 => ?_⟩
        have z15 : Same G14 (upd G14 k7 (.lst [.ref d1, .ref d2, .ref d3, .ref d4, .ref d5, .ref d6, .ref d7, .ref d8, .ref d9, .ref d10, .ref d11, .ref p, .ref q])) := same_upd nk7
        have ak7 : (upd G14 k7 (.lst [.ref d1, .ref d2, .ref d3, .ref d4, .ref d5, .ref d6, .ref d7, .ref d8, .ref d9, .ref d10, .ref d11, .ref p, .ref q])) k7 = some (.lst [.ref d1, .ref d2, .ref d3, .ref d4, .ref d5, .ref d6, .ref d7, .ref d8, .ref d9, .ref d10, .ref d11, .ref p, .ref q]) := upd_same
        simp only [List.cons_append, List.nil_append]
        generalize upd G14 k7 (.lst [.ref d1, .ref d2, .ref d3, .ref d4, .ref d5, .ref d6, .ref d7, .ref d8, .ref d9, .ref d10, .ref d11, .ref p, .ref q]) = G15 at z15 ak7 ⊢
        have hp : G15 p = some (.tup [.int (t), .int (b)]) := z15 _ _ hp
        have hq : G15 q = some (.tup [.int (u), .int (c)]) := z15 _ _ hq
        have cu : Same H G15 := cu.trans z15
        have N1 : NumAt (CN K) G15 n1 (t) (b) := N1.same z15
        have N2 : NumAt (CN K) G15 n2 (u) (c) := N2.same z15
        have apw : G15 pw = some (.tup [.int (m), .int (1)]) := z15 _ _ apw
        have al1 : G15 l1 = some (.lst [.ref x1, .ref x2, .ref x3, .ref x4, .ref x5, .ref x6, .ref x7, .ref x8]) := z15 _ _ al1
        have al3 : G15 l3 = some (.lst [.ref x1, .ref x2, .ref x3, .ref x4, .ref x5, .ref x6, .ref x7, .ref x8, .ref x9, .ref x10, .ref x11]) := z15 _ _ al3
        have NS : Nums (CN K) G15 [.ref x1, .ref x2, .ref x3, .ref x4, .ref x5, .ref x6, .ref x7, .ref x8, .ref x9, .ref x10, .ref x11] (sumsW t b u c m) := NS.same z15
        have ad1 : G15 d1 = some (.tup [.int (lowT (t * c + u * b) (b * c)), .int (lowB (t * c + u * b) (b * c))]) := z15 _ _ ad1
        have ad2 : G15 d2 = some (.tup [.int (lowT (t * c + (0 - u) * b) (b * c)), .int (lowB (t * c + (0 - u) * b) (b * c))]) := z15 _ _ ad2
        have ad3 : G15 d3 = some (.tup [.int (lowT (t * u) (b * c)), .int (lowB (t * u) (b * c))]) := z15 _ _ ad3
        have ad4 : G15 d4 = some (.tup [.int (0 - t), .int (b)]) := z15 _ _ ad4
        have ak1 : G15 k1 = some (.lst [.ref d1, .ref d2, .ref d3, .ref d4]) := z15 _ _ ak1
        have ad5 : G15 d5 = some (.tup [.int (if t < 0 then -t else t), .int (b)]) := z15 _ _ ad5
        have ad6 : G15 d6 = some (.tup [.int (lowT (t * 1 + m * b) (b * 1)), .int (lowB (t * 1 + m * b) (b * 1))]) := z15 _ _ ad6
        have ad7 : G15 d7 = some (.tup [.int (lowT (t * 1 + m * b) (b * 1)), .int (lowB (t * 1 + m * b) (b * 1))]) := z15 _ _ ad7
        have ak3 : G15 k3 = some (.lst [.ref d1, .ref d2, .ref d3, .ref d4, .ref d5, .ref d6, .ref d7]) := z15 _ _ ak3
        have ad8 : G15 d8 = some (.tup [.int (lowT (t * 1 + (0 - m) * b) (b * 1)), .int (lowB (t * 1 + (0 - m) * b) (b * 1))]) := z15 _ _ ad8
        have ad9 : G15 d9 = some (.tup [.int (lowT (m * b + (0 - t) * 1) (1 * b)), .int (lowB (m * b + (0 - t) * 1) (1 * b))]) := z15 _ _ ad9
        have ad10 : G15 d10 = some (.tup [.int (lowT (t * m) (b * 1)), .int (lowB (t * m) (b * 1))]) := z15 _ _ ad10
        have ak6 : G15 k5 = some (.lst [.ref d1, .ref d2, .ref d3, .ref d4, .ref d5, .ref d6, .ref d7, .ref d8, .ref d9, .ref d10, .ref d11]) := z15 _ _ ak6
        have ad11 : G15 d11 = some (.tup [.int (lowT (t * m) (b * 1)), .int (lowB (t * m) (b * 1))]) := z15 _ _ ad11
        have al6 : G15 l6 = some (.lst [.ref x1, .ref x2, .ref x3, .ref x4, .ref x5, .ref x6, .ref x7, .ref x8, .ref x9, .ref x10, .ref x11, .ref n1, .ref n2]) := z15 _ _ al6
        have NF : Nums (CN K) G15 [.ref x1, .ref x2, .ref x3, .ref x4, .ref x5, .ref x6, .ref x7, .ref x8, .ref x9, .ref x10, .ref x11, .ref n1, .ref n2] W := NF.same z15
        have aD2 : G15 D2 = some (.lst ((W.map tx).map V.str)) := z15 _ _ aD2
        have PF : Prs G15 [.ref d1, .ref d2, .ref d3, .ref d4, .ref d5, .ref d6, .ref d7, .ref d8, .ref d9, .ref d10, .ref d11, .ref p, .ref q] W := eW ▸ (show Prs G15 [.ref d1, .ref d2, .ref d3, .ref d4, .ref d5, .ref d6, .ref d7, .ref d8, .ref d9, .ref d10, .ref d11, .ref p, .ref q] (sumsW t b u c m ++ [(t, b), (u, c)]) from ⟨⟨_, rfl, ad1⟩, ⟨_, rfl, ad2⟩, ⟨_, rfl, ad3⟩, ⟨_, rfl, ad4⟩, ⟨_, rfl, ad5⟩, ⟨_, rfl, ad6⟩, ⟨_, rfl, ad7⟩, ⟨_, rfl, ad8⟩, ⟨_, rfl, ad9⟩, ⟨_, rfl, ad10⟩, ⟨_, rfl, ad11⟩, ⟨_, rfl, hp⟩, ⟨_, rfl, hq⟩, trivial⟩)
        refine ⟨k7, rfl, ⟨_, .inl (.inl ak7)⟩, fun D3 nD3 => ?_⟩
        refine lc_list (K := K) (a := k7) (xs := [.ref d1, .ref d2, .ref d3, .ref d4, .ref d5, .ref d6, .ref d7, .ref d8, .ref d9, .ref d10, .ref d11, .ref p, .ref q]) (fun i H' => Same G15 H' ∧ H' D3 = some (.lst (((W.take i).map tx).map V.str))) ⟨same_upd nD3, upd_same⟩ (fun i H' _ w => .inl (.inl (w.1 _ _ ak7))) ?_ ?_
        · rintro i x H' hx ⟨sm, hD⟩
          have hi : i < 1000 := Nat.lt_of_lt_of_le (List.getElem?_eq_some_iff.mp hx).1 (by simp)
          refine ⟨rfl, ?_⟩
          unfold tYes
          dsimp only
          rw [if_pos rfl]
          obtain ⟨w, p', hw, rfl, Np⟩ := (PF.same sm).get hx
          obtain ⟨ok1, ok2, ok3⟩ := okW w (List.mem_of_getElem? hw)
          refine ⟨_, rfl, p', w.1, w.2, rfl, Np, ok1, ok2, ok3, fun H7 s7 => ⟨_, s7 _ _ hD, ?_, same_upd' (sm.trans s7) nD3, ?_⟩⟩
          · rw [List.length_map, List.length_map, List.length_take]; exact small1000 (by omega)
          · rw [upd_same, take_tx hw]
        · rintro Y3 ⟨sY3, aD3⟩
          have hp : Y3 p = some (.tup [.int (t), .int (b)]) := sY3 _ _ hp
          have hq : Y3 q = some (.tup [.int (u), .int (c)]) := sY3 _ _ hq
          have cu : Same H Y3 := cu.trans sY3
          have N1 : NumAt (CN K) Y3 n1 (t) (b) := N1.same sY3
          have N2 : NumAt (CN K) Y3 n2 (u) (c) := N2.same sY3
          have apw : Y3 pw = some (.tup [.int (m), .int (1)]) := sY3 _ _ apw
          have al1 : Y3 l1 = some (.lst [.ref x1, .ref x2, .ref x3, .ref x4, .ref x5, .ref x6, .ref x7, .ref x8]) := sY3 _ _ al1
          have al3 : Y3 l3 = some (.lst [.ref x1, .ref x2, .ref x3, .ref x4, .ref x5, .ref x6, .ref x7, .ref x8, .ref x9, .ref x10, .ref x11]) := sY3 _ _ al3
          have NS : Nums (CN K) Y3 [.ref x1, .ref x2, .ref x3, .ref x4, .ref x5, .ref x6, .ref x7, .ref x8, .ref x9, .ref x10, .ref x11] (sumsW t b u c m) := NS.same sY3
          have ad1 : Y3 d1 = some (.tup [.int (lowT (t * c + u * b) (b * c)), .int (lowB (t * c + u * b) (b * c))]) := sY3 _ _ ad1
          have ad2 : Y3 d2 = some (.tup [.int (lowT (t * c + (0 - u) * b) (b * c)), .int (lowB (t * c + (0 - u) * b) (b * c))]) := sY3 _ _ ad2
          have ad3 : Y3 d3 = some (.tup [.int (lowT (t * u) (b * c)), .int (lowB (t * u) (b * c))]) := sY3 _ _ ad3
          have ad4 : Y3 d4 = some (.tup [.int (0 - t), .int (b)]) := sY3 _ _ ad4
          have ak1 : Y3 k1 = some (.lst [.ref d1, .ref d2, .ref d3, .ref d4]) := sY3 _ _ ak1
          have ad5 : Y3 d5 = some (.tup [.int (if t < 0 then -t else t), .int (b)]) := sY3 _ _ ad5
          have ad6 : Y3 d6 = some (.tup [.int (lowT (t * 1 + m * b) (b * 1)), .int (lowB (t * 1 + m * b) (b * 1))]) := sY3 _ _ ad6
          have ad7 : Y3 d7 = some (.tup [.int (lowT (t * 1 + m * b) (b * 1)), .int (lowB (t * 1 + m * b) (b * 1))]) := sY3 _ _ ad7
          have ak3 : Y3 k3 = some (.lst [.ref d1, .ref d2, .ref d3, .ref d4, .ref d5, .ref d6, .ref d7]) := sY3 _ _ ak3
          have ad8 : Y3 d8 = some (.tup [.int (lowT (t * 1 + (0 - m) * b) (b * 1)), .int (lowB (t * 1 + (0 - m) * b) (b * 1))]) := sY3 _ _ ad8
          have ad9 : Y3 d9 = some (.tup [.int (lowT (m * b + (0 - t) * 1) (1 * b)), .int (lowB (m * b + (0 - t) * 1) (1 * b))]) := sY3 _ _ ad9
          have ad10 : Y3 d10 = some (.tup [.int (lowT (t * m) (b * 1)), .int (lowB (t * m) (b * 1))]) := sY3 _ _ ad10
          have ak6 : Y3 k5 = some (.lst [.ref d1, .ref d2, .ref d3, .ref d4, .ref d5, .ref d6, .ref d7, .ref d8, .ref d9, .ref d10, .ref d11]) := sY3 _ _ ak6
          have ad11 : Y3 d11 = some (.tup [.int (lowT (t * m) (b * 1)), .int (lowB (t * m) (b * 1))]) := sY3 _ _ ad11
          have al6 : Y3 l6 = some (.lst [.ref x1, .ref x2, .ref x3, .ref x4, .ref x5, .ref x6, .ref x7, .ref x8, .ref x9, .ref x10, .ref x11, .ref n1, .ref n2]) := sY3 _ _ al6
          have NF : Nums (CN K) Y3 [.ref x1, .ref x2, .ref x3, .ref x4, .ref x5, .ref x6, .ref x7, .ref x8, .ref x9, .ref x10, .ref x11, .ref n1, .ref n2] W := NF.same sY3
          have aD2 : Y3 D2 = some (.lst ((W.map tx).map V.str)) := sY3 _ _ aD2
          have ak7 : Y3 k7 = some (.lst [.ref d1, .ref d2, .ref d3, .ref d4, .ref d5, .ref d6, .ref d7, .ref d8, .ref d9, .ref d10, .ref d11, .ref p, .ref q]) := sY3 _ _ ak7
          have aD3 : Y3 D3 = some (.lst ((W.map tx).map V.str)) := by
            have e : W.take 13 = W := by rw [← wl]; exact List.take_length
            rw [aD3]
            show some (HO.lst (((W.take 13).map tx).map V.str)) = _
            rw [e]
          refine ⟨_, _, dp_strs (xs := W.map tx) aD2, dp_strs (xs := W.map tx) aD3, shaped_strs (tx_asc _), shaped_strs (tx_asc _), ?_⟩
          show Q (.bl _) _
          rw [eqv_strs]
          exact k _ cu
end
end K02

namespace K02
open PySem PySem.Spec PyProof.Rows L2 Hk NumM NumT SX
open TL (numL)
abbrev N_l_right : List Str := ["_law_spring_here", "_law_pairs", "_law_turn", "_law_many", "_law_power", "_law_one", "_law_two", "_law_told", "_law_flipped", "_law_due", "_law_small", "_law_powers", "_law_total", "_law_whole", "_law_first", "_law_base", "_law_each", "_law_pair_here"]
section
variable {P : Program} {w : World} {K : Fr} {mg : Str → Option Value} {base : Heap}
theorem old_tup {a p : Addr} {xs : List V} {H H' : Hp} (o : Old a H H') (s : SprAt a H) (h : H p = some (.tup xs)) : H' p = some (.tup xs) := by
  obtain ⟨d, e, c, g, _⟩ := s
  exact o _ _ h (ne_of h g (by intro z; exact nomatch z))
theorem old_num {C a p : Addr} {t b : Int} {H H' : Hp} (o : Old a H H') (s : SprAt a H) (h : NumAt C H p t b) : NumAt C H' p t b := by
  obtain ⟨d, e, c, g, _⟩ := s
  exact h.old o (num_ne h g)
abbrev Bnd (w : Int × Int) : Prop := 0 < w.2 ∧ Nat.gcd w.1.natAbs w.2.natAbs = 1 ∧ Md w.1 ∧ Md w.2
theorem Bnd.ok {w : Int × Int} (h : Bnd w) : Ok2 w := ⟨h.1, md_sz h.2.2.1, md_sz h.2.2.2⟩
def spRight : Sp := fun vs H Q _ => ∃ a : Addr, vs = [.ref a] ∧ SprAt a H ∧ ∀ H' : Hp, Old a H H' → SprAt a H' → Q (.bl true) H'
theorem b_over {fd : FuncData} (D : DAt K d_Number_over fd) : ∀ (s : Shared) (v : Value) (ws : List Value), K.In s.heap → ws.length = (["other"] : List Str).length → BindsTo s fd ⟨[v], (["other"] : List Str).zip ws⟩ ((["self", "other"] : List Str).zip (v :: ws)) := by
  obtain ⟨oc, od, dV, kV, doc, pm, an, cdv, ct, osl, rfl, lk, hcd, hD, hK⟩ := D.ex
  rcases hD with ⟨_, rfl⟩ | ⟨e, _⟩
  · intro s v ws _ hl
    match ws, hl with
    | [u], _ => exact .of_eq rfl
  · exact absurd rfl e
theorem n_over (t b : Int) : (numF t b).lookup ("over" : Str) = none := numF_no (by decide +kernel) (by decide +kernel) t b
theorem c_right (T : Tx K mg) : Cal P w K mg base 8 "_law_right" (gAd "_law_right" K) ["_law_spring_here"] spRight := by
  have C_l_plus := cal_two (c_plus (P := P) (w := w) (base := base) T)
  have C_l_by := cal_two (c_by (P := P) (w := w) (base := base) T)
  have C_l_low := c_low (P := P) (w := w) (base := base) T
  have C_l_pair := c_pair (P := P) (w := w) (base := base) T
  have C_l_next := c_nextO (P := P) (w := w) (base := base) T
  have C_sums := c_sums (P := P) (w := w) (base := base) T
  have C_l_written := c_written (P := P) (w := w) (base := base) T
  obtain ⟨fi, Di, Fi⟩ := f_init (P := P) (w := w) (base := base) T
  obtain ⟨fs, Ds, Fs⟩ := f_str (P := P) (w := w) (base := base) T
  obtain ⟨ds1, rd1, bi1⟩ := b_init1 Di
  obtain ⟨fadd, Dadd, Fadd⟩ := f_add (P := P) (w := w) (base := base) T
  have badd : Binds K fadd ["self", "other"] [] := FunD.bindsN Dadd fun _ _ _ _ _ _ us hl => match us, hl with | [_, _], _ => rfl
  obtain ⟨fover, Dover, Fover⟩ := f_over (P := P) (w := w) (base := base) T
  have bover : Binds K fover ["self", "other"] [] := FunD.bindsN Dover fun _ _ _ _ _ _ us hl => match us, hl with | [_, _], _ => rfl
  obtain ⟨fpow, Dpow, Fpow⟩ := f_pow (P := P) (w := w) (base := base) T
  have bpow : Binds K fpow ["self", "other"] [] := FunD.bindsN Dpow fun _ _ _ _ _ _ us hl => match us, hl with | [_, _], _ => rfl
  have bs : Binds K fs ["self"] [] := FunD.bindsN Ds fun _ _ _ _ _ _ us hl => match us, hl with | [_], _ => rfl
  refine cal_of (d := d_l_right) (N := N_l_right) (a_l_right T.c) rfl sc_l_right (g_l_right T) (fun _ _ _ _ _ _ us hl => match us, hl with | [_], _ => rfl) (fun vs H Q E h => ?_) (fun cdv A outer s H vs Q E hr h => ?_)
  · obtain ⟨a, rfl, _⟩ := h
    rfl
  · obtain ⟨a, rfl, sp, k⟩ := h
    have r1 : Room 1 _ := hr.mono (by decide)
    have r2 : Room 2 _ := hr.mono (by decide)
    have r3 : Room 3 _ := hr.mono (by decide)
    have r5 : Room 5 _ := hr.mono (by decide)
    have r6 : Room 6 _ := hr.mono (by decide)
    have cu : Old a H H := Old.refl a H
    refine ⟨_, (pss_cons (ps_setLc (i := 1) (own := [("_law_turn", 2)]) (g := gName 2) (tt := tYes) rfl sc_l_right.nd rfl rfl (sw_true rfl rfl rfl (by decide +kernel)) (pi_range1 (by rfl) (n_range T) (pa_cons pe_int pa_nil)) (blkOk_by (N := N_l_right) (sc := defScope s_l_right) (by decide +kernel)) (fun _ _ _ _ _ => pg_name (i := 2) sc_l_right.nd rfl (.inl rfl)) (fun _ _ _ _ _ => pts_nil) (fun _ _ _ _ _ => (pe_c C_l_pair r2 (pa_cons (pv 0) pa_nil))))
 (pss_cons (ps_par (i := 3) (j := 4) (by rfl) sc_l_right.nd rfl rfl (by decide) rfl rfl (pa_cons (pe_op op_sub (pe_c C_l_next r1 (pa_cons (pv 0) (pa_cons pe_int pa_nil))) pe_int) (pa_cons (pe_c C_l_next r1 (pa_cons (pv 0) (pa_cons pe_int pa_nil))) pa_nil)) (by rfl))
 (pss_cons (ps_if (PW.pt (pw_or (pt_not (pt_val (pe_c C_sums hr (pa_cons (pe_ix ix_list (pv 1) pe_int (fun _ _ => rfl)) (pa_cons (pe_ix ix_list (pv 1) pe_int (fun _ _ => rfl)) (pa_cons (pv 3) pa_nil)))))) (pw_or1 (pt_not (pt_val (pe_c C_sums hr (pa_cons (pe_ix ix_list (pv 1) pe_int (fun _ _ => rfl)) (pa_cons (pe_ix ix_list (pv 1) pe_int (fun _ _ => rfl)) (pa_cons (pe_op op_sub pe_int (pv 3)) pa_nil))))))))) (pss_one (ps_ret pe_bl)) pss_nil)
 (pss_cons (ps_par (i := 5) (j := 6) (by rfl) sc_l_right.nd rfl rfl (by decide) rfl rfl (pa_cons (pe_num (mkN T) Fi r3 (g_Number T) (b_init2 Di) .nil (pa_cons (pe_ix ix_tup (pe_ix ix_list (pv 1) pe_int (fun _ _ => rfl)) pe_int (fun _ _ => rfl)) (pa_cons (pe_ix ix_tup (pe_ix ix_list (pv 1) pe_int (fun _ _ => rfl)) pe_int (fun _ _ => rfl)) pa_nil))) (pa_cons (pe_num (mkN T) Fi r3 (g_Number T) (b_init2 Di) .nil (pa_cons (pe_ix ix_tup (pe_ix ix_list (pv 1) pe_int (fun _ _ => rfl)) pe_int (fun _ _ => rfl)) (pa_cons (pe_ix ix_tup (pe_ix ix_list (pv 1) pe_int (fun _ _ => rfl)) pe_int (fun _ _ => rfl)) pa_nil))) pa_nil)) (by rfl))
 (pss_cons (ps_if (pt_cmpR op_ne (pe_ix ix_tup (pe_ix ix_list (pv 1) pe_int (fun _ _ => rfl)) pe_int (fun _ _ => rfl)) pe_int (nomark _)) (pss_cons (ps_set (i := 7) sc_l_right.nd rfl (.inl rfl) (pe_lst (pa_cons (pe_callTy (call_strO (own_ok (f_meth_str T.c)) Fs bs r3) (by rfl) (n_str T) bo_str (pa_cons (pe_meth (pv 5) (cl T) (He.meth_ok (f_meth_over T.c)) Fover r5 bover .nil pass0 (pa_cons (pv 6) pa_nil)) pa_nil)) (pa_cons (pe_callTy (call_strO (own_ok (f_meth_str T.c)) Fs bs r3) (by rfl) (n_str T) bo_str (pa_cons (pe_methK (pv 5) (cl T) (He.meth_ok (f_meth_over T.c)) Fover r5 (b_over Dover) (pk_cons (pv 6) pk_nil)) pa_nil)) (pa_cons (pe_callTy (call_strO (own_ok (f_meth_str T.c)) Fs bs r3) (by rfl) (n_str T) bo_str (pa_cons (pe_meth (pe_num (mkN T) Fi r3 (g_Number T) bi1 rd1 (pa_cons pe_int pa_nil)) (cl T) (He.meth_ok (f_meth_over T.c)) Fover r5 bover .nil pass0 (pa_cons (pv 6) pa_nil)) pa_nil)) pa_nil)))))
 (pss_cons (ps_set (i := 8) sc_l_right.nd rfl (.inl rfl) (pe_c C_l_low r1 (pa_cons (pe_ix ix_tup (pe_ix ix_list (pv 1) pe_int (fun _ _ => rfl)) pe_int (fun _ _ => rfl)) (pa_cons (pe_ix ix_tup (pe_ix ix_list (pv 1) pe_int (fun _ _ => rfl)) pe_int (fun _ _ => rfl)) pa_nil))))
 (pss_cons (ps_set (i := 9) sc_l_right.nd rfl (.inl rfl) (pe_op op_cat (pe_op op_rep (pe_lst (pa_cons (pe_c C_l_written r1 (pa_cons (pe_c C_l_by r2 (pa_cons (pe_ix ix_list (pv 1) pe_int (fun _ _ => rfl)) (pa_cons (pv 8) pa_nil))) pa_nil)) pa_nil)) pe_int) (pe_lst (pa_cons (pe_c C_l_written r1 (pa_cons (pv 8) pa_nil)) pa_nil))))
 (pss_one (ps_if (pt_cmpR (op_neD hr.units) (pv 7) (pv 9) (nomark _)) (pss_one (ps_ret pe_bl)) pss_nil))))) pss_nil)
 (pss_cons (ps_par (i := 10) (j := 3) (by rfl) sc_l_right.nd rfl rfl (by decide) rfl rfl (pa_cons (pe_c C_l_low r1 (pa_cons (pe_op op_sub (pe_c C_l_next r1 (pa_cons (pv 0) (pa_cons pe_int pa_nil))) pe_int) (pa_cons (pe_op op_add pe_int (pe_c C_l_next r1 (pa_cons (pv 0) (pa_cons pe_int pa_nil)))) pa_nil))) (pa_cons (pe_ifExp (pt_cmpR op_eq (pv 3) pe_int (nomark _)) pe_int (pv 3)) pa_nil)) (by rfl))
 (pss_cons (ps_if (pt_cmpR op_ne (pe_callTy (call_strO (own_ok (f_meth_str T.c)) Fs bs r3) (by rfl) (n_str T) bo_str (pa_cons (pe_meth (pv 5) (cl T) (He.meth_ok (f_meth_over T.c)) Fover r5 bover .nil pass0 (pa_cons (pv 3) pa_nil)) pa_nil)) (pe_c C_l_written r1 (pa_cons (pe_c C_l_by r2 (pa_cons (pe_ix ix_list (pv 1) pe_int (fun _ _ => rfl)) (pa_cons (pe_c C_l_low r1 (pa_cons pe_int (pa_cons (pv 3) pa_nil))) pa_nil))) pa_nil)) (nomark _)) (pss_one (ps_ret pe_bl)) pss_nil)
 (pss_cons (ps_par3 (i := 11) (j := 12) (l := 13) rfl sc_l_right.nd rfl rfl rfl (by decide) (by decide) (by decide) rfl rfl rfl (pa_cons (pe_lst (pa_cons (pe_tup (pa_cons pe_int (pa_cons pe_int pa_nil))) pa_nil)) (pa_cons (pe_num (mkN T) Fi r3 (g_Number T) bi1 rd1 (pa_cons pe_int pa_nil)) (pa_cons (pe_tup (pa_cons pe_int (pa_cons pe_int pa_nil))) pa_nil))) (by rfl))
 (pss_cons (ps_set (i := 14) sc_l_right.nd rfl (.inl rfl) (pv 12))
 (pss_cons (ps_for PassesOwn.never rfl (pi_range1 (by rfl) (n_range T) (pa_cons pe_int pa_nil)) (pg_name (i := 2) sc_l_right.nd rfl (.inl rfl)) (pss_cons (ps_expr (pe_bm PySem.F.plainAttrs_list PySem.F.slot_list_append PySem.F.type_list_append mt_append (pv 11) (pa_cons (pe_c C_l_by r2 (pa_cons (pe_ix ix_list (pv 11) (pe_un un_neg pe_int) (fun _ _ => rfl)) (pa_cons (pv 10) pa_nil))) pa_nil)))
 (pss_cons (ps_set (i := 13) sc_l_right.nd rfl (.inl rfl) (pe_ifExp (pt_cmpR op_lt (pv 2) (pv 4) (nomark _)) (pe_c C_l_plus r2 (pa_cons (pv 13) (pa_cons (pv 10) pa_nil))) (pv 13)))
 (pss_one (ps_aug (i := 12) sc_l_right.nd rfl (.inl rfl) (pe_ifExp (pt_cmpR op_lt (pv 2) (pv 4) (nomark _)) (pe_num (mkN T) Fi r3 (g_Number T) (b_init2 Di) .nil (pa_cons (pe_ix ix_tup (pv 10) pe_int (fun _ _ => rfl)) (pa_cons (pe_ix ix_tup (pv 10) pe_int (fun _ _ => rfl)) pa_nil))) pe_int) (ip_binO (bin_ok (f_bin_add T.c)) (noip_ok (f_noip_add T.c)) Fadd badd r5))))))
 (pss_cons (ps_set (i := 15) sc_l_right.nd rfl (.inl rfl) (pe_num (mkN T) Fi r3 (g_Number T) (b_init2 Di) .nil (pa_cons (pe_ix ix_tup (pv 10) pe_int (fun _ _ => rfl)) (pa_cons (pe_ix ix_tup (pv 10) pe_int (fun _ _ => rfl)) pa_nil))))
 (pss_cons (ps_set (i := 7) sc_l_right.nd rfl (.inl rfl) (pe_lst (pa_cons (pe_op (op_binO (bin_ok (f_bin_pow T.c)) Fpow bpow r6) (pv 15) pe_int) (pa_cons (pe_op (op_binO (bin_ok (f_bin_pow T.c)) Fpow bpow r6) (pv 15) pe_int) (pa_cons (pe_op (op_binO (bin_ok (f_bin_pow T.c)) Fpow bpow r6) (pv 15) pe_int) (pa_cons (pe_op (op_binO (bin_ok (f_bin_pow T.c)) Fpow bpow r6) (pv 15) pe_int) (pa_cons (pe_op (op_binO (bin_ok (f_bin_pow T.c)) Fpow bpow r6) (pv 15) pe_int) (pa_cons (pe_op (op_binO (bin_ok (f_bin_pow T.c)) Fpow bpow r6) (pv 15) pe_int) (pa_cons (pv 12) (pa_cons (pv 14) (pa_cons (pv 15) pa_nil)))))))))))
 (pss_cons (ps_set (i := 9) sc_l_right.nd rfl (.inl rfl) (pe_lst (pa_cons (pe_ix ix_list (pv 11) pe_int (fun _ _ => rfl)) (pa_cons (pe_ix ix_list (pv 11) pe_int (fun _ _ => rfl)) (pa_cons (pe_ix ix_list (pv 11) pe_int (fun _ _ => rfl)) (pa_cons (pe_ix ix_list (pv 11) pe_int (fun _ _ => rfl)) (pa_cons (pe_ix ix_list (pv 11) pe_int (fun _ _ => rfl)) (pa_cons (pe_ix ix_list (pv 11) pe_int (fun _ _ => rfl)) (pa_cons (pv 13) (pa_cons (pe_tup (pa_cons pe_int (pa_cons pe_int pa_nil))) (pa_cons (pv 10) pa_nil)))))))))))
 (pss_one (ps_ret (pe_cmpR (op_eqD hr.units) (pe_lc (own := [("_law_each", 16)]) (g := gName 16) (tt := tYes) rfl sc_l_right.nd (pi_list (pv 7)) (blkOk_by (N := N_l_right) (sc := defScope s_l_right) (by decide +kernel)) (fun _ _ _ _ _ => pg_name (i := 16) sc_l_right.nd rfl (.inl rfl)) (fun _ _ _ _ _ => pts_nil) (fun _ _ _ _ _ => (pe_callTy (call_strO (own_ok (f_meth_str T.c)) Fs bs r3) (by rfl) (n_str T) bo_str (pa_cons (pv 16) pa_nil)))) (pe_lc (own := [("_law_pair_here", 17)]) (g := gName 17) (tt := tYes) rfl sc_l_right.nd (pi_list (pv 9)) (blkOk_by (N := N_l_right) (sc := defScope s_l_right) (by decide +kernel)) (fun _ _ _ _ _ => pg_name (i := 17) sc_l_right.nd rfl (.inl rfl)) (fun _ _ _ _ _ => pts_nil) (fun _ _ _ _ _ => (pe_c C_l_written r1 (pa_cons (pv 17) pa_nil)))) (nomark _))))))))))))))))), ?_⟩
    refine ⟨3, rfl, by decide, by decide, fun L nL => ?_⟩
    have La : L ≠ a := Ne.symm (sp.ne nL)
    refine lc_range (lo := 0) (n := 3) (fun j H3 => Old a H H3 ∧ SprAt a H3 ∧ ∃ rs W, H3 L = some (.lst rs) ∧ Prs H3 rs W ∧ rs.length = j ∧ ∀ w ∈ W, Bnd w) ⟨Old.new nL, sp.same (same_upd nL), [], [], upd_same, trivial, rfl, fun _ h => nomatch h⟩ ?_ ?_
    · rintro j H3 hj ⟨o3, s3, rs, W, hD, hP, hl, hB⟩
      refine ⟨rfl, ?_⟩
      unfold tYes
      dsimp only
      rw [if_pos rfl]
      refine ⟨_, rfl, a, rfl, s3, fun H4 p t b o4 s4 P4 => ?_⟩
      have hD4 := o4 _ _ hD La
      refine ⟨_, hD4, small1000 (by omega), ?_, ?_, _, W ++ [(t, b)], upd_same, ?_, by rw [List.length_append, hl]; rfl, ?_⟩
      · intro x u hx hn
        rw [upd_ne (ne_of_none hx nL)]
        exact o4 _ _ (o3 _ _ hx hn) hn
      · obtain ⟨d', e', c', g1, g2⟩ := s4
        exact ⟨d', e', c', by rw [upd_ne (Ne.symm La)]; exact g1, g2⟩
      · obtain ⟨d', e', c', g1, g2⟩ := s3
        exact Prs.app (Prs.old hD4 Old.put (Prs.old g1 o4 hP)) ⟨⟨p, rfl, by rw [upd_ne (ne_of P4.at_ hD4 (by intro z; exact nomatch z))]; exact P4.at_⟩, trivial⟩
      · intro w hw
        rcases List.mem_append.mp hw with h | h
        · exact hB w h
        · rw [List.mem_singleton.mp h]
          exact ⟨P4.pos, P4.cop, P4.mt, P4.mb⟩
    · rintro H1 ⟨cu, sp, rs, W, aL, hP, hl, hB⟩
      obtain ⟨p0, p1, p2, w0, w1, w2, rfl, rfl, at0, at1, at2⟩ := hP.three hl
      obtain ⟨t0, b0⟩ := w0
      obtain ⟨t1, b1⟩ := w1
      obtain ⟨t2, b2⟩ := w2
      obtain ⟨pb0, pg0, mt0, mb0⟩ := hB (t0, b0) (by simp)
      simp only at pb0 pg0 mt0 mb0 at0
      have zt0 := md_sm mt0
      have zb0 := md_sm mb0
      obtain ⟨pb1, pg1, mt1, mb1⟩ := hB (t1, b1) (by simp)
      simp only at pb1 pg1 mt1 mb1 at1
      have zt1 := md_sm mt1
      have zb1 := md_sm mb1
      obtain ⟨pb2, pg2, mt2, mb2⟩ := hB (t2, b2) (by simp)
      simp only at pb2 pg2 mt2 mb2 at2
      have zt2 := md_sm mt2
      have zb2 := md_sm mb2
      refine ⟨_, rfl, a, _, rfl, sp, by decide, by decide, fun x1 U1 lo1 hi1 v1 sp1 => ?_⟩
      have aL : U1 L = some (.lst [.ref p0, .ref p1, .ref p2]) := v1 _ _ aL La
      have at0 : U1 p0 = some (.tup [.int (t0), .int (b0)]) := old_tup v1 sp at0
      have at1 : U1 p1 = some (.tup [.int (t1), .int (b1)]) := old_tup v1 sp at1
      have at2 : U1 p2 = some (.tup [.int (t2), .int (b2)]) := old_tup v1 sp at2
      have cu : Old a H U1 := cu.trans v1
      have sp : SprAt a U1 := sp1
      refine ⟨_, _, rfl, rfl, ?_⟩
      refine ⟨_, rfl, a, _, rfl, sp, by decide, by decide, fun x2 U2 lo2 hi2 v2 sp2 => ?_⟩
      have aL : U2 L = some (.lst [.ref p0, .ref p1, .ref p2]) := v2 _ _ aL La
      have at0 : U2 p0 = some (.tup [.int (t0), .int (b0)]) := old_tup v2 sp at0
      have at1 : U2 p1 = some (.tup [.int (t1), .int (b1)]) := old_tup v2 sp at1
      have at2 : U2 p2 = some (.tup [.int (t2), .int (b2)]) := old_tup v2 sp at2
      have cu : Old a H U2 := cu.trans v2
      have sp : SprAt a U2 := sp2
      refine ⟨_, _, rfl, ?_⟩
      have mm : (x1 - 99).natAbs < 100 := by omega
      have m110 : Md (x1 - 99) := Nat.lt_trans mm (by decide +kernel)
      have m110' : Md (0 - (x1 - 99)) := by show (0 - (x1 - 99)).natAbs < 2 ^ 110; have := (by decide +kernel : (100 : Nat) < 2 ^ 110); omega
      refine ⟨_, rfl, L, _, _, _, rfl, rfl, .inl (.inl aL), rfl, _, rfl, L, _, _, _, rfl, rfl, .inl (.inl aL), rfl, _, rfl, p0, p1, t0, b0, t1, b1, (x1 - 99), rfl, ⟨at0, pb0, pg0, mt0, mb0⟩, ⟨at1, pb1, pg1, mt1, mb1⟩, m110, fun A1 g1 => ⟨true, rfl, iteF ?_⟩⟩
      have aL : A1 L = some (.lst [.ref p0, .ref p1, .ref p2]) := g1 _ _ aL
      have at0 : A1 p0 = some (.tup [.int (t0), .int (b0)]) := g1 _ _ at0
      have at1 : A1 p1 = some (.tup [.int (t1), .int (b1)]) := g1 _ _ at1
      have at2 : A1 p2 = some (.tup [.int (t2), .int (b2)]) := g1 _ _ at2
      have cu : Old a H A1 := cu.trans (Old.same g1)
      have sp : SprAt a A1 := sp.same g1
      refine ⟨_, rfl, L, _, _, _, rfl, rfl, .inl (.inl aL), rfl, _, rfl, L, _, _, _, rfl, rfl, .inl (.inl aL), rfl, _, rfl, _, _, rfl, rfl, p2, p2, t2, b2, t2, b2, 0 - (x1 - 99), rfl, ⟨at2, pb2, pg2, mt2, mb2⟩, ⟨at2, pb2, pg2, mt2, mb2⟩, m110', fun A2 g2 => ⟨true, rfl, iteF ?_⟩⟩
      have aL : A2 L = some (.lst [.ref p0, .ref p1, .ref p2]) := g2 _ _ aL
      have at0 : A2 p0 = some (.tup [.int (t0), .int (b0)]) := g2 _ _ at0
      have at1 : A2 p1 = some (.tup [.int (t1), .int (b1)]) := g2 _ _ at1
      have at2 : A2 p2 = some (.tup [.int (t2), .int (b2)]) := g2 _ _ at2
      have cu : Old a H A2 := cu.trans (Old.same g2)
      have sp : SprAt a A2 := sp.same g2
      refine ⟨_, rfl, L, _, _, _, rfl, rfl, .inl (.inl aL), rfl, p0, _, _, _, rfl, rfl, .inl (.inl at0), rfl, _, rfl, L, _, _, _, rfl, rfl, .inl (.inl aL), rfl, p0, _, _, _, rfl, rfl, .inl (.inl at0), rfl, t0, b0, rfl, by omega, md_sz mb0, fun Bn1 n1 vn1 nnn1 Nn1 => ?_⟩
      have aL : Bn1 L = some (.lst [.ref p0, .ref p1, .ref p2]) := vn1 _ _ aL
      have at0 : Bn1 p0 = some (.tup [.int (t0), .int (b0)]) := vn1 _ _ at0
      have at1 : Bn1 p1 = some (.tup [.int (t1), .int (b1)]) := vn1 _ _ at1
      have at2 : Bn1 p2 = some (.tup [.int (t2), .int (b2)]) := vn1 _ _ at2
      have cu : Old a H Bn1 := cu.trans (Old.same vn1)
      have sp : SprAt a Bn1 := sp.same vn1
      rw [(low_red pb0 pg0).1, (low_red pb0 pg0).2] at Nn1
      have Nn1 : NumAt (CN K) Bn1 n1 t0 b0 := Nn1
      refine ⟨_, rfl, L, _, _, _, rfl, rfl, .inl (.inl aL), rfl, p1, _, _, _, rfl, rfl, .inl (.inl at1), rfl, _, rfl, L, _, _, _, rfl, rfl, .inl (.inl aL), rfl, p1, _, _, _, rfl, rfl, .inl (.inl at1), rfl, t1, b1, rfl, by omega, md_sz mb1, fun Bn2 n2 vn2 nnn2 Nn2 => ?_⟩
      have aL : Bn2 L = some (.lst [.ref p0, .ref p1, .ref p2]) := vn2 _ _ aL
      have at0 : Bn2 p0 = some (.tup [.int (t0), .int (b0)]) := vn2 _ _ at0
      have at1 : Bn2 p1 = some (.tup [.int (t1), .int (b1)]) := vn2 _ _ at1
      have at2 : Bn2 p2 = some (.tup [.int (t2), .int (b2)]) := vn2 _ _ at2
      have Nn1 : NumAt (CN K) Bn2 n1 (t0) (b0) := Nn1.same vn2
      have cu : Old a H Bn2 := cu.trans (Old.same vn2)
      have sp : SprAt a Bn2 := sp.same vn2
      rw [(low_red pb1 pg1).1, (low_red pb1 pg1).2] at Nn2
      have Nn2 : NumAt (CN K) Bn2 n2 t1 b1 := Nn2
      refine ⟨_, _, rfl, ?_⟩
      refine ⟨_, rfl, L, _, _, _, rfl, rfl, .inl (.inl aL), rfl, p1, _, _, _, rfl, rfl, .inl (.inl at1), rfl, rfl, _, rfl, ?_⟩
      refine join_if (fun σ' H' => ∃ y7 y8 y9 : Option V, σ' = [some (.ref a), some (.ref L), none, some (.int (x1 - 99)), some (.int x2), some (.ref n1), some (.ref n2), y7, y8, y9, none, none, none, none, none, none, none, none] ∧ Old a H H'  ∧ SprAt a H'  ∧ H'  L = some (.lst [.ref p0, .ref p1, .ref p2]) ∧ H'  p0 = some (.tup [.int (t0), .int (b0)]) ∧ H'  p1 = some (.tup [.int (t1), .int (b1)]) ∧ H'  p2 = some (.tup [.int (t2), .int (b2)]) ∧ NumAt (CN K) H'  n1 (t0) (b0) ∧ NumAt (CN K) H'  n2 (t1) (b1)) ?_ ?_ ?_
      rotate_left
      · intro hb rest
        have ht1 : t1 ≠ 0 := fun z => by rw [z] at hb; exact absurd hb (by decide)
        have nz1 : b0 * t1 ≠ 0 := Int.mul_ne_zero (by omega) ht1
        obtain ⟨dn1, gn1⟩ := id Nn1.at_
        obtain ⟨dn2, gn2⟩ := id Nn2.at_
        refine ⟨_, rfl, n1, dn1, _, rfl, gn1, n_over _ _, _, rfl, n1, _, t0, b0, t1, b1, rfl, Nn1, .inl ⟨n2, rfl, Nn2⟩, zt0, zb0, zt1, zb1, ht1, fun U4 u4 v4 R4 => ?_⟩
        have aL : U4 L = some (.lst [.ref p0, .ref p1, .ref p2]) := v4 _ _ aL
        have at0 : U4 p0 = some (.tup [.int (t0), .int (b0)]) := v4 _ _ at0
        have at1 : U4 p1 = some (.tup [.int (t1), .int (b1)]) := v4 _ _ at1
        have at2 : U4 p2 = some (.tup [.int (t2), .int (b2)]) := v4 _ _ at2
        have Nn1 : NumAt (CN K) U4 n1 (t0) (b0) := Nn1.same v4
        have Nn2 : NumAt (CN K) U4 n2 (t1) (b1) := Nn2.same v4
        have cu : Old a H U4 := cu.trans (Old.same v4)
        have sp : SprAt a U4 := sp.same v4
        obtain ⟨dw4, gw4⟩ := id R4.at_
        refine ⟨u4, dw4, _, rfl, gw4, u4, _, _, rfl, R4, (ok_low nz1 (sz_mulS zt0 zb1) (sz_mulS zb0 zt1)).2.1, (ok_low nz1 (sz_mulS zt0 zb1) (sz_mulS zb0 zt1)).2.2, _, rfl, ?_⟩
        obtain ⟨dn1, gn1⟩ := id Nn1.at_
        obtain ⟨dn2, gn2⟩ := id Nn2.at_
        refine ⟨_, rfl, n1, dn1, _, rfl, gn1, n_over _ _, _, rfl, n1, _, t0, b0, t1, b1, rfl, Nn1, .inl ⟨n2, rfl, Nn2⟩, zt0, zb0, zt1, zb1, ht1, fun U5 u5 v5 R5 => ?_⟩
        have aL : U5 L = some (.lst [.ref p0, .ref p1, .ref p2]) := v5 _ _ aL
        have at0 : U5 p0 = some (.tup [.int (t0), .int (b0)]) := v5 _ _ at0
        have at1 : U5 p1 = some (.tup [.int (t1), .int (b1)]) := v5 _ _ at1
        have at2 : U5 p2 = some (.tup [.int (t2), .int (b2)]) := v5 _ _ at2
        have Nn1 : NumAt (CN K) U5 n1 (t0) (b0) := Nn1.same v5
        have Nn2 : NumAt (CN K) U5 n2 (t1) (b1) := Nn2.same v5
        have cu : Old a H U5 := cu.trans (Old.same v5)
        have sp : SprAt a U5 := sp.same v5
        obtain ⟨dw5, gw5⟩ := id R5.at_
        refine ⟨u5, dw5, _, rfl, gw5, u5, _, _, rfl, R5, (ok_low nz1 (sz_mulS zt0 zb1) (sz_mulS zb0 zt1)).2.1, (ok_low nz1 (sz_mulS zt0 zb1) (sz_mulS zb0 zt1)).2.2, _, rfl, ?_⟩
        refine ⟨1, 1, rfl, by decide, sz1, fun E1 no ve nne NO => ?_⟩
        have aL : E1 L = some (.lst [.ref p0, .ref p1, .ref p2]) := ve _ _ aL
        have at0 : E1 p0 = some (.tup [.int (t0), .int (b0)]) := ve _ _ at0
        have at1 : E1 p1 = some (.tup [.int (t1), .int (b1)]) := ve _ _ at1
        have at2 : E1 p2 = some (.tup [.int (t2), .int (b2)]) := ve _ _ at2
        have Nn1 : NumAt (CN K) E1 n1 (t0) (b0) := Nn1.same ve
        have Nn2 : NumAt (CN K) E1 n2 (t1) (b1) := Nn2.same ve
        have cu : Old a H E1 := cu.trans (Old.same ve)
        have sp : SprAt a E1 := sp.same ve
        rw [(low_one 1).1, (low_one 1).2] at NO
        have NO : NumAt (CN K) E1 no 1 1 := NO
        obtain ⟨dno, gno⟩ := id NO.at_
        obtain ⟨dn2, gn2⟩ := id Nn2.at_
        have nz2 : (1 : Int) * t1 ≠ 0 := by omega
        refine ⟨no, dno, _, rfl, gno, n_over _ _, _, rfl, no, _, 1, 1, t1, b1, rfl, NO, .inl ⟨n2, rfl, Nn2⟩, sm1, sm1, zt1, zb1, ht1, fun U6 u6 v6 R6 => ?_⟩
        have aL : U6 L = some (.lst [.ref p0, .ref p1, .ref p2]) := v6 _ _ aL
        have at0 : U6 p0 = some (.tup [.int (t0), .int (b0)]) := v6 _ _ at0
        have at1 : U6 p1 = some (.tup [.int (t1), .int (b1)]) := v6 _ _ at1
        have at2 : U6 p2 = some (.tup [.int (t2), .int (b2)]) := v6 _ _ at2
        have Nn1 : NumAt (CN K) U6 n1 (t0) (b0) := Nn1.same v6
        have Nn2 : NumAt (CN K) U6 n2 (t1) (b1) := Nn2.same v6
        have cu : Old a H U6 := cu.trans (Old.same v6)
        have sp : SprAt a U6 := sp.same v6
        obtain ⟨dw6, gw6⟩ := id R6.at_
        refine ⟨u6, dw6, _, rfl, gw6, u6, _, _, rfl, R6, (ok_low nz2 (sz_mulS sm1 zb1) (sz_mulS sm1 zt1)).2.1, (ok_low nz2 (sz_mulS sm1 zb1) (sz_mulS sm1 zt1)).2.2, _, rfl, ?_⟩
        refine ⟨(by show 3 ≤ sizeLine; decide), fun l1 nl1 => ?_⟩
        have z1 : Same U6 (upd U6 l1 (.lst [.str (tx (lowT (t0 * b1) (b0 * t1), lowB (t0 * b1) (b0 * t1))), .str (tx (lowT (t0 * b1) (b0 * t1), lowB (t0 * b1) (b0 * t1))), .str (tx (lowT (1 * b1) (1 * t1), lowB (1 * b1) (1 * t1)))])) := same_upd nl1
        have al1 : (upd U6 l1 (.lst [.str (tx (lowT (t0 * b1) (b0 * t1), lowB (t0 * b1) (b0 * t1))), .str (tx (lowT (t0 * b1) (b0 * t1), lowB (t0 * b1) (b0 * t1))), .str (tx (lowT (1 * b1) (1 * t1), lowB (1 * b1) (1 * t1)))])) l1 = some (.lst [.str (tx (lowT (t0 * b1) (b0 * t1), lowB (t0 * b1) (b0 * t1))), .str (tx (lowT (t0 * b1) (b0 * t1), lowB (t0 * b1) (b0 * t1))), .str (tx (lowT (1 * b1) (1 * t1), lowB (1 * b1) (1 * t1)))]) := upd_same
        generalize upd U6 l1 (.lst [.str (tx (lowT (t0 * b1) (b0 * t1), lowB (t0 * b1) (b0 * t1))), .str (tx (lowT (t0 * b1) (b0 * t1), lowB (t0 * b1) (b0 * t1))), .str (tx (lowT (1 * b1) (1 * t1), lowB (1 * b1) (1 * t1)))]) = G1 at z1 al1 ⊢
        have aL : G1 L = some (.lst [.ref p0, .ref p1, .ref p2]) := z1 _ _ aL
        have at0 : G1 p0 = some (.tup [.int (t0), .int (b0)]) := z1 _ _ at0
        have at1 : G1 p1 = some (.tup [.int (t1), .int (b1)]) := z1 _ _ at1
        have at2 : G1 p2 = some (.tup [.int (t2), .int (b2)]) := z1 _ _ at2
        have Nn1 : NumAt (CN K) G1 n1 (t0) (b0) := Nn1.same z1
        have Nn2 : NumAt (CN K) G1 n2 (t1) (b1) := Nn2.same z1
        have cu : Old a H G1 := cu.trans (Old.same z1)
        have sp : SprAt a G1 := sp.same z1
        refine ⟨_, rfl, L, _, _, _, rfl, rfl, .inl (.inl aL), rfl, p1, _, _, _, rfl, rfl, .inl (.inl at1), rfl, _, rfl, L, _, _, _, rfl, rfl, .inl (.inl aL), rfl, p1, _, _, _, rfl, rfl, .inl (.inl at1), rfl, b1, t1, rfl, ht1, md_sz mb1, md_sz mt1, fun pf npf => ?_⟩
        have z2 : Same G1 (upd G1 pf (.tup [.int (lowT b1 t1), .int (lowB b1 t1)])) := same_upd npf
        have apf : (upd G1 pf (.tup [.int (lowT b1 t1), .int (lowB b1 t1)])) pf = some (.tup [.int (lowT b1 t1), .int (lowB b1 t1)]) := upd_same
        generalize upd G1 pf (.tup [.int (lowT b1 t1), .int (lowB b1 t1)]) = G2 at z2 apf ⊢
        have aL : G2 L = some (.lst [.ref p0, .ref p1, .ref p2]) := z2 _ _ aL
        have at0 : G2 p0 = some (.tup [.int (t0), .int (b0)]) := z2 _ _ at0
        have at1 : G2 p1 = some (.tup [.int (t1), .int (b1)]) := z2 _ _ at1
        have at2 : G2 p2 = some (.tup [.int (t2), .int (b2)]) := z2 _ _ at2
        have Nn1 : NumAt (CN K) G2 n1 (t0) (b0) := Nn1.same z2
        have Nn2 : NumAt (CN K) G2 n2 (t1) (b1) := Nn2.same z2
        have al1 : G2 l1 = some (.lst [.str (tx (lowT (t0 * b1) (b0 * t1), lowB (t0 * b1) (b0 * t1))), .str (tx (lowT (t0 * b1) (b0 * t1), lowB (t0 * b1) (b0 * t1))), .str (tx (lowT (1 * b1) (1 * t1), lowB (1 * b1) (1 * t1)))]) := z2 _ _ al1
        have cu : Old a H G2 := cu.trans (Old.same z2)
        have sp : SprAt a G2 := sp.same z2
        have fl := md_low ht1 mb1 mt1
        have flp := low_pos (h := b1) ht1
        have fle := low_eq (h := b1) ht1
        have nz3 : b0 * lowB b1 t1 ≠ 0 := Int.mul_ne_zero (by omega) (by omega)
        refine ⟨_, rfl, L, _, _, _, rfl, rfl, .inl (.inl aL), rfl, _, rfl, p0, pf, t0, b0, lowT b1 t1, lowB b1 t1, rfl, at0, apf, zt0, zb0, md_sm fl.1, md_sm fl.2, nz3, fun U7 u7 v7 R7 => ?_⟩
        have aL : U7 L = some (.lst [.ref p0, .ref p1, .ref p2]) := v7 _ _ aL
        have at0 : U7 p0 = some (.tup [.int (t0), .int (b0)]) := v7 _ _ at0
        have at1 : U7 p1 = some (.tup [.int (t1), .int (b1)]) := v7 _ _ at1
        have at2 : U7 p2 = some (.tup [.int (t2), .int (b2)]) := v7 _ _ at2
        have Nn1 : NumAt (CN K) U7 n1 (t0) (b0) := Nn1.same v7
        have Nn2 : NumAt (CN K) U7 n2 (t1) (b1) := Nn2.same v7
        have al1 : U7 l1 = some (.lst [.str (tx (lowT (t0 * b1) (b0 * t1), lowB (t0 * b1) (b0 * t1))), .str (tx (lowT (t0 * b1) (b0 * t1), lowB (t0 * b1) (b0 * t1))), .str (tx (lowT (1 * b1) (1 * t1), lowB (1 * b1) (1 * t1)))]) := v7 _ _ al1
        have apf : U7 pf = some (.tup [.int (lowT b1 t1), .int (lowB b1 t1)]) := v7 _ _ apf
        have cu : Old a H U7 := cu.trans (Old.same v7)
        have sp : SprAt a U7 := sp.same v7
        refine ⟨u7, _, _, rfl, R7, low_pos nz3, (ok_low nz3 (sz_mulS zt0 (md_sm fl.1)) (sz_mulS zb0 (md_sm fl.2))).2.1, (ok_low nz3 (sz_mulS zt0 (md_sm fl.1)) (sz_mulS zb0 (md_sm fl.2))).2.2, fun E2 ve2 => ?_⟩
        have aL : E2 L = some (.lst [.ref p0, .ref p1, .ref p2]) := ve2 _ _ aL
        have at0 : E2 p0 = some (.tup [.int (t0), .int (b0)]) := ve2 _ _ at0
        have at1 : E2 p1 = some (.tup [.int (t1), .int (b1)]) := ve2 _ _ at1
        have at2 : E2 p2 = some (.tup [.int (t2), .int (b2)]) := ve2 _ _ at2
        have Nn1 : NumAt (CN K) E2 n1 (t0) (b0) := Nn1.same ve2
        have Nn2 : NumAt (CN K) E2 n2 (t1) (b1) := Nn2.same ve2
        have al1 : E2 l1 = some (.lst [.str (tx (lowT (t0 * b1) (b0 * t1), lowB (t0 * b1) (b0 * t1))), .str (tx (lowT (t0 * b1) (b0 * t1), lowB (t0 * b1) (b0 * t1))), .str (tx (lowT (1 * b1) (1 * t1), lowB (1 * b1) (1 * t1)))]) := ve2 _ _ al1
        have apf : E2 pf = some (.tup [.int (lowT b1 t1), .int (lowB b1 t1)]) := ve2 _ _ apf
        have cu : Old a H E2 := cu.trans (Old.same ve2)
        have sp : SprAt a E2 := sp.same ve2
        have ea := low_cross (h := t0 * lowT b1 t1) (b := b0 * lowB b1 t1) (h' := t0 * b1) (b' := b0 * t1) nz3 nz1 (by grind)
        rw [Int.one_mul, Int.one_mul] at al1
        refine ⟨(by show 1 ≤ sizeLine; decide), fun l2 nl2 => ?_⟩
        have z3 : Same E2 (upd E2 l2 (.lst [.str (tx (lowT (t0 * lowT b1 t1) (b0 * lowB b1 t1), lowB (t0 * lowT b1 t1) (b0 * lowB b1 t1)))])) := same_upd nl2
        have al2 : (upd E2 l2 (.lst [.str (tx (lowT (t0 * lowT b1 t1) (b0 * lowB b1 t1), lowB (t0 * lowT b1 t1) (b0 * lowB b1 t1)))])) l2 = some (.lst [.str (tx (lowT (t0 * lowT b1 t1) (b0 * lowB b1 t1), lowB (t0 * lowT b1 t1) (b0 * lowB b1 t1)))]) := upd_same
        generalize upd E2 l2 (.lst [.str (tx (lowT (t0 * lowT b1 t1) (b0 * lowB b1 t1), lowB (t0 * lowT b1 t1) (b0 * lowB b1 t1)))]) = G3 at z3 al2 ⊢
        have aL : G3 L = some (.lst [.ref p0, .ref p1, .ref p2]) := z3 _ _ aL
        have at0 : G3 p0 = some (.tup [.int (t0), .int (b0)]) := z3 _ _ at0
        have at1 : G3 p1 = some (.tup [.int (t1), .int (b1)]) := z3 _ _ at1
        have at2 : G3 p2 = some (.tup [.int (t2), .int (b2)]) := z3 _ _ at2
        have Nn1 : NumAt (CN K) G3 n1 (t0) (b0) := Nn1.same z3
        have Nn2 : NumAt (CN K) G3 n2 (t1) (b1) := Nn2.same z3
        have apf : G3 pf = some (.tup [.int (lowT b1 t1), .int (lowB b1 t1)]) := z3 _ _ apf
        have al1 : G3 l1 = some (.lst [.str (tx (lowT (t0 * b1) (b0 * t1), lowB (t0 * b1) (b0 * t1))), .str (tx (lowT (t0 * b1) (b0 * t1), lowB (t0 * b1) (b0 * t1))), .str (tx (lowT b1 t1, lowB b1 t1))]) := z3 _ _ al1
        have cu : Old a H G3 := cu.trans (Old.same z3)
        have sp : SprAt a G3 := sp.same z3
        refine ⟨l2, 2, _, rfl, rfl, al2, by decide, by decide, (by show 1 * 2 ≤ sizeLine; decide), fun l3 nl3 => ?_⟩
        have z4 : Same G3 (upd G3 l3 (.lst (List.replicate (2 : Int).toNat [V.str (tx (lowT (t0 * lowT b1 t1) (b0 * lowB b1 t1), lowB (t0 * lowT b1 t1) (b0 * lowB b1 t1)))]).flatten)) := same_upd nl3
        have al3 : (upd G3 l3 (.lst (List.replicate (2 : Int).toNat [V.str (tx (lowT (t0 * lowT b1 t1) (b0 * lowB b1 t1), lowB (t0 * lowT b1 t1) (b0 * lowB b1 t1)))]).flatten)) l3 = some (.lst (List.replicate (2 : Int).toNat [V.str (tx (lowT (t0 * lowT b1 t1) (b0 * lowB b1 t1), lowB (t0 * lowT b1 t1) (b0 * lowB b1 t1)))]).flatten) := upd_same
        generalize upd G3 l3 (.lst (List.replicate (2 : Int).toNat [V.str (tx (lowT (t0 * lowT b1 t1) (b0 * lowB b1 t1), lowB (t0 * lowT b1 t1) (b0 * lowB b1 t1)))]).flatten) = G4 at z4 al3 ⊢
        have aL : G4 L = some (.lst [.ref p0, .ref p1, .ref p2]) := z4 _ _ aL
        have at0 : G4 p0 = some (.tup [.int (t0), .int (b0)]) := z4 _ _ at0
        have at1 : G4 p1 = some (.tup [.int (t1), .int (b1)]) := z4 _ _ at1
        have at2 : G4 p2 = some (.tup [.int (t2), .int (b2)]) := z4 _ _ at2
        have Nn1 : NumAt (CN K) G4 n1 (t0) (b0) := Nn1.same z4
        have Nn2 : NumAt (CN K) G4 n2 (t1) (b1) := Nn2.same z4
        have apf : G4 pf = some (.tup [.int (lowT b1 t1), .int (lowB b1 t1)]) := z4 _ _ apf
        have al1 : G4 l1 = some (.lst [.str (tx (lowT (t0 * b1) (b0 * t1), lowB (t0 * b1) (b0 * t1))), .str (tx (lowT (t0 * b1) (b0 * t1), lowB (t0 * b1) (b0 * t1))), .str (tx (lowT b1 t1, lowB b1 t1))]) := z4 _ _ al1
        have al2 : G4 l2 = some (.lst [.str (tx (lowT (t0 * lowT b1 t1) (b0 * lowB b1 t1), lowB (t0 * lowT b1 t1) (b0 * lowB b1 t1)))]) := z4 _ _ al2
        have cu : Old a H G4 := cu.trans (Old.same z4)
        have sp : SprAt a G4 := sp.same z4
        refine ⟨_, rfl, pf, lowT b1 t1, lowB b1 t1, rfl, apf, flp, md_sz fl.1, md_sz fl.2, fun E3 ve3 => ?_⟩
        have aL : E3 L = some (.lst [.ref p0, .ref p1, .ref p2]) := ve3 _ _ aL
        have at0 : E3 p0 = some (.tup [.int (t0), .int (b0)]) := ve3 _ _ at0
        have at1 : E3 p1 = some (.tup [.int (t1), .int (b1)]) := ve3 _ _ at1
        have at2 : E3 p2 = some (.tup [.int (t2), .int (b2)]) := ve3 _ _ at2
        have Nn1 : NumAt (CN K) E3 n1 (t0) (b0) := Nn1.same ve3
        have Nn2 : NumAt (CN K) E3 n2 (t1) (b1) := Nn2.same ve3
        have apf : E3 pf = some (.tup [.int (lowT b1 t1), .int (lowB b1 t1)]) := ve3 _ _ apf
        have al1 : E3 l1 = some (.lst [.str (tx (lowT (t0 * b1) (b0 * t1), lowB (t0 * b1) (b0 * t1))), .str (tx (lowT (t0 * b1) (b0 * t1), lowB (t0 * b1) (b0 * t1))), .str (tx (lowT b1 t1, lowB b1 t1))]) := ve3 _ _ al1
        have al2 : E3 l2 = some (.lst [.str (tx (lowT (t0 * lowT b1 t1) (b0 * lowB b1 t1), lowB (t0 * lowT b1 t1) (b0 * lowB b1 t1)))]) := ve3 _ _ al2
        have al3 : E3 l3 = some (.lst [.str (tx (lowT (t0 * lowT b1 t1) (b0 * lowB b1 t1), lowB (t0 * lowT b1 t1) (b0 * lowB b1 t1))), .str (tx (lowT (t0 * lowT b1 t1) (b0 * lowB b1 t1), lowB (t0 * lowT b1 t1) (b0 * lowB b1 t1)))]) := ve3 _ _ al3
        have cu : Old a H E3 := cu.trans (Old.same ve3)
        have sp : SprAt a E3 := sp.same ve3
        refine ⟨(by show 1 ≤ sizeLine; decide), fun l4 nl4 => ?_⟩
        have z5 : Same E3 (upd E3 l4 (.lst [.str (tx (lowT b1 t1, lowB b1 t1))])) := same_upd nl4
        have al4 : (upd E3 l4 (.lst [.str (tx (lowT b1 t1, lowB b1 t1))])) l4 = some (.lst [.str (tx (lowT b1 t1, lowB b1 t1))]) := upd_same
        generalize upd E3 l4 (.lst [.str (tx (lowT b1 t1, lowB b1 t1))]) = G5 at z5 al4 ⊢
        have aL : G5 L = some (.lst [.ref p0, .ref p1, .ref p2]) := z5 _ _ aL
        have at0 : G5 p0 = some (.tup [.int (t0), .int (b0)]) := z5 _ _ at0
        have at1 : G5 p1 = some (.tup [.int (t1), .int (b1)]) := z5 _ _ at1
        have at2 : G5 p2 = some (.tup [.int (t2), .int (b2)]) := z5 _ _ at2
        have Nn1 : NumAt (CN K) G5 n1 (t0) (b0) := Nn1.same z5
        have Nn2 : NumAt (CN K) G5 n2 (t1) (b1) := Nn2.same z5
        have apf : G5 pf = some (.tup [.int (lowT b1 t1), .int (lowB b1 t1)]) := z5 _ _ apf
        have al1 : G5 l1 = some (.lst [.str (tx (lowT (t0 * b1) (b0 * t1), lowB (t0 * b1) (b0 * t1))), .str (tx (lowT (t0 * b1) (b0 * t1), lowB (t0 * b1) (b0 * t1))), .str (tx (lowT b1 t1, lowB b1 t1))]) := z5 _ _ al1
        have al2 : G5 l2 = some (.lst [.str (tx (lowT (t0 * lowT b1 t1) (b0 * lowB b1 t1), lowB (t0 * lowT b1 t1) (b0 * lowB b1 t1)))]) := z5 _ _ al2
        have al3 : G5 l3 = some (.lst [.str (tx (lowT (t0 * lowT b1 t1) (b0 * lowB b1 t1), lowB (t0 * lowT b1 t1) (b0 * lowB b1 t1))), .str (tx (lowT (t0 * lowT b1 t1) (b0 * lowB b1 t1), lowB (t0 * lowT b1 t1) (b0 * lowB b1 t1)))]) := z5 _ _ al3
        have cu : Old a H G5 := cu.trans (Old.same z5)
        have sp : SprAt a G5 := sp.same z5
        refine ⟨l3, l4, _, _, rfl, rfl, al3, al4, (by show 3 ≤ sizeLine; decide), fun l5 nl5 => ?_⟩
        have z6 : Same G5 (upd G5 l5 (.lst ([.str (tx (lowT (t0 * lowT b1 t1) (b0 * lowB b1 t1), lowB (t0 * lowT b1 t1) (b0 * lowB b1 t1))), .str (tx (lowT (t0 * lowT b1 t1) (b0 * lowB b1 t1), lowB (t0 * lowT b1 t1) (b0 * lowB b1 t1)))] ++ [.str (tx (lowT b1 t1, lowB b1 t1))]))) := same_upd nl5
        have al5 : (upd G5 l5 (.lst ([.str (tx (lowT (t0 * lowT b1 t1) (b0 * lowB b1 t1), lowB (t0 * lowT b1 t1) (b0 * lowB b1 t1))), .str (tx (lowT (t0 * lowT b1 t1) (b0 * lowB b1 t1), lowB (t0 * lowT b1 t1) (b0 * lowB b1 t1)))] ++ [.str (tx (lowT b1 t1, lowB b1 t1))]))) l5 = some (.lst ([.str (tx (lowT (t0 * lowT b1 t1) (b0 * lowB b1 t1), lowB (t0 * lowT b1 t1) (b0 * lowB b1 t1))), .str (tx (lowT (t0 * lowT b1 t1) (b0 * lowB b1 t1), lowB (t0 * lowT b1 t1) (b0 * lowB b1 t1)))] ++ [.str (tx (lowT b1 t1, lowB b1 t1))])) := upd_same
        generalize upd G5 l5 (.lst ([.str (tx (lowT (t0 * lowT b1 t1) (b0 * lowB b1 t1), lowB (t0 * lowT b1 t1) (b0 * lowB b1 t1))), .str (tx (lowT (t0 * lowT b1 t1) (b0 * lowB b1 t1), lowB (t0 * lowT b1 t1) (b0 * lowB b1 t1)))] ++ [.str (tx (lowT b1 t1, lowB b1 t1))])) = G6 at z6 al5 ⊢
        have aL : G6 L = some (.lst [.ref p0, .ref p1, .ref p2]) := z6 _ _ aL
        have at0 : G6 p0 = some (.tup [.int (t0), .int (b0)]) := z6 _ _ at0
        have at1 : G6 p1 = some (.tup [.int (t1), .int (b1)]) := z6 _ _ at1
        have at2 : G6 p2 = some (.tup [.int (t2), .int (b2)]) := z6 _ _ at2
        have Nn1 : NumAt (CN K) G6 n1 (t0) (b0) := Nn1.same z6
        have Nn2 : NumAt (CN K) G6 n2 (t1) (b1) := Nn2.same z6
        have apf : G6 pf = some (.tup [.int (lowT b1 t1), .int (lowB b1 t1)]) := z6 _ _ apf
        have al1 : G6 l1 = some (.lst [.str (tx (lowT (t0 * b1) (b0 * t1), lowB (t0 * b1) (b0 * t1))), .str (tx (lowT (t0 * b1) (b0 * t1), lowB (t0 * b1) (b0 * t1))), .str (tx (lowT b1 t1, lowB b1 t1))]) := z6 _ _ al1
        have al2 : G6 l2 = some (.lst [.str (tx (lowT (t0 * lowT b1 t1) (b0 * lowB b1 t1), lowB (t0 * lowT b1 t1) (b0 * lowB b1 t1)))]) := z6 _ _ al2
        have al3 : G6 l3 = some (.lst [.str (tx (lowT (t0 * lowT b1 t1) (b0 * lowB b1 t1), lowB (t0 * lowT b1 t1) (b0 * lowB b1 t1))), .str (tx (lowT (t0 * lowT b1 t1) (b0 * lowB b1 t1), lowB (t0 * lowT b1 t1) (b0 * lowB b1 t1)))]) := z6 _ _ al3
        have cu : Old a H G6 := cu.trans (Old.same z6)
        have sp : SprAt a G6 := sp.same z6
        rw [ea.1, ea.2] at al5
        refine ⟨_, rfl, _, rfl, _, _, dp_strs (xs := [tx (lowT (t0 * b1) (b0 * t1), lowB (t0 * b1) (b0 * t1)), tx (lowT (t0 * b1) (b0 * t1), lowB (t0 * b1) (b0 * t1)), tx (lowT b1 t1, lowB b1 t1)]) al1, dp_strs (xs := [tx (lowT (t0 * b1) (b0 * t1), lowB (t0 * b1) (b0 * t1)), tx (lowT (t0 * b1) (b0 * t1), lowB (t0 * b1) (b0 * t1)), tx (lowT b1 t1, lowB b1 t1)]) al5, shaped_strs (tx_asc [(lowT (t0 * b1) (b0 * t1), lowB (t0 * b1) (b0 * t1)), (lowT (t0 * b1) (b0 * t1), lowB (t0 * b1) (b0 * t1)), (lowT b1 t1, lowB b1 t1)]), shaped_strs (tx_asc [(lowT (t0 * b1) (b0 * t1), lowB (t0 * b1) (b0 * t1)), (lowT (t0 * b1) (b0 * t1), lowB (t0 * b1) (b0 * t1)), (lowT b1 t1, lowB b1 t1)]), _, rfl, ?_⟩
        rw [eqv_strs]
        refine iteF ?_
        exact rest _ _ ⟨_, _, _, rfl, cu, sp, aL, at0, at1, at2, Nn1, Nn2⟩
      · intro hb
        exact ⟨_, _, _, rfl, cu, sp, aL, at0, at1, at2, Nn1, Nn2⟩
      rintro σ9 H9 ⟨y7, y8, y9, rfl, cu, sp, aL, at0, at1, at2, Nn1, Nn2⟩
      refine ⟨_, rfl, a, _, rfl, sp, by decide, by decide, fun x8 U8 lo8 hi8 v8 sp8 => ?_⟩
      have aL : U8 L = some (.lst [.ref p0, .ref p1, .ref p2]) := v8 _ _ aL La
      have at0 : U8 p0 = some (.tup [.int (t0), .int (b0)]) := old_tup v8 sp at0
      have at1 : U8 p1 = some (.tup [.int (t1), .int (b1)]) := old_tup v8 sp at1
      have at2 : U8 p2 = some (.tup [.int (t2), .int (b2)]) := old_tup v8 sp at2
      have Nn1 : NumAt (CN K) U8 n1 (t0) (b0) := old_num v8 sp Nn1
      have Nn2 : NumAt (CN K) U8 n2 (t1) (b1) := old_num v8 sp Nn2
      have cu : Old a H U8 := cu.trans v8
      have sp : SprAt a U8 := sp8
      refine ⟨_, _, rfl, rfl, ?_⟩
      refine ⟨_, rfl, a, _, rfl, sp, by decide, by decide, fun x9 U9 lo9 hi9 v9 sp9 => ?_⟩
      have aL : U9 L = some (.lst [.ref p0, .ref p1, .ref p2]) := v9 _ _ aL La
      have at0 : U9 p0 = some (.tup [.int (t0), .int (b0)]) := old_tup v9 sp at0
      have at1 : U9 p1 = some (.tup [.int (t1), .int (b1)]) := old_tup v9 sp at1
      have at2 : U9 p2 = some (.tup [.int (t2), .int (b2)]) := old_tup v9 sp at2
      have Nn1 : NumAt (CN K) U9 n1 (t0) (b0) := old_num v9 sp Nn1
      have Nn2 : NumAt (CN K) U9 n2 (t1) (b1) := old_num v9 sp Nn2
      have cu : Old a H U9 := cu.trans v9
      have sp : SprAt a U9 := sp9
      refine ⟨_, _, rfl, rfl, ?_⟩
      have dne : (1 + x9) ≠ 0 := by omega
      have hh4 : (x8 - 4).natAbs ≤ 4 := by omega
      have dd4 : (1 + x9).natAbs ≤ 4 := by omega
      have e4 : (4 : Nat) < 2 ^ 20 := by decide
      have e20 : (2 : Nat) ^ 20 < 2 ^ 110 := by decide +kernel
      refine ⟨_, _, rfl, dne, md_sz (Nat.lt_of_le_of_lt hh4 (by decide +kernel)), md_sz (Nat.lt_of_le_of_lt dd4 (by decide +kernel)), fun ps nps => ?_⟩
      have mts : (lowT (x8 - 4) (1 + x9)).natAbs ≤ 4 := Nat.le_trans (lowT_le dne) hh4
      have mbs : (lowB (x8 - 4) (1 + x9)).natAbs ≤ 4 := Nat.le_trans (lowB_le dne) dd4
      have pbs : 0 < lowB (x8 - 4) (1 + x9) := low_pos dne
      have pgs := low_cop (h := (x8 - 4)) dne
      have z7 : Same U9 (upd U9 ps (.tup [.int (lowT (x8 - 4) (1 + x9)), .int (lowB (x8 - 4) (1 + x9))])) := same_upd nps
      have aps : (upd U9 ps (.tup [.int (lowT (x8 - 4) (1 + x9)), .int (lowB (x8 - 4) (1 + x9))])) ps = some (.tup [.int (lowT (x8 - 4) (1 + x9)), .int (lowB (x8 - 4) (1 + x9))]) := upd_same
      generalize upd U9 ps (.tup [.int (lowT (x8 - 4) (1 + x9)), .int (lowB (x8 - 4) (1 + x9))]) = G7 at z7 aps ⊢
      have aL : G7 L = some (.lst [.ref p0, .ref p1, .ref p2]) := z7 _ _ aL
      have at0 : G7 p0 = some (.tup [.int (t0), .int (b0)]) := z7 _ _ at0
      have at1 : G7 p1 = some (.tup [.int (t1), .int (b1)]) := z7 _ _ at1
      have at2 : G7 p2 = some (.tup [.int (t2), .int (b2)]) := z7 _ _ at2
      have Nn1 : NumAt (CN K) G7 n1 (t0) (b0) := Nn1.same z7
      have Nn2 : NumAt (CN K) G7 n2 (t1) (b1) := Nn2.same z7
      have cu : Old a H G7 := cu.trans (Old.same z7)
      have sp : SprAt a G7 := sp.same z7
      generalize lowT (x8 - 4) (1 + x9) = ts at mts pgs aps
      generalize lowB (x8 - 4) (1 + x9) = bz at mbs pbs pgs aps
      have mts2 : ts.natAbs < 2 ^ 20 := Nat.lt_of_le_of_lt mts e4
      have mbs2 : bz.natAbs < 2 ^ 20 := Nat.lt_of_le_of_lt mbs e4
      have zts := md_sm (Nat.lt_trans mts2 e20)
      have zbs := md_sm (Nat.lt_trans mbs2 e20)
      refine ⟨_, rfl, rfl, _, rfl, ?_⟩
      refine if_cv (z := .int (x1 - 99)) rfl ?_
      intro vv ev
      obtain ⟨m2, rfl, hm2, mm2⟩ : ∃ m2 : Int, vv = .int m2 ∧ m2 ≠ 0 ∧ m2.natAbs < 100 := by
        by_cases hz : (x1 - 99) = 0
        · exact ⟨7, by rw [ev, hz]; rfl, by decide, by decide⟩
        · exact ⟨(x1 - 99), by rw [ev, if_neg (fun q => hz (V.int.inj (of_decide_eq_true q)))], hz, mm⟩
      have zm2 : Sm m2 := Nat.lt_trans mm2 (by decide +kernel)
      clear ev
      refine ⟨_, _, rfl, ?_⟩
      obtain ⟨dn1, gn1⟩ := id Nn1.at_
      have nz4 : b0 * m2 ≠ 0 := Int.mul_ne_zero (by omega) hm2
      refine ⟨_, rfl, n1, dn1, _, rfl, gn1, n_over _ _, _, rfl, n1, _, t0, b0, m2, 1, rfl, Nn1, .inr ⟨rfl, rfl⟩, zt0, zb0, zm2, sm1, hm2, fun U10 u10 v10 R10 => ?_⟩
      have aL : U10 L = some (.lst [.ref p0, .ref p1, .ref p2]) := v10 _ _ aL
      have at0 : U10 p0 = some (.tup [.int (t0), .int (b0)]) := v10 _ _ at0
      have at1 : U10 p1 = some (.tup [.int (t1), .int (b1)]) := v10 _ _ at1
      have at2 : U10 p2 = some (.tup [.int (t2), .int (b2)]) := v10 _ _ at2
      have Nn1 : NumAt (CN K) U10 n1 (t0) (b0) := Nn1.same v10
      have Nn2 : NumAt (CN K) U10 n2 (t1) (b1) := Nn2.same v10
      have aps : U10 ps = some (.tup [.int (ts), .int (bz)]) := v10 _ _ aps
      have cu : Old a H U10 := cu.trans (Old.same v10)
      have sp : SprAt a U10 := sp.same v10
      obtain ⟨dw10, gw10⟩ := id R10.at_
      refine ⟨u10, dw10, _, rfl, gw10, u10, _, _, rfl, R10, (ok_low nz4 (sz_mulS zt0 sm1) (sz_mulS zb0 zm2)).2.1, (ok_low nz4 (sz_mulS zt0 sm1) (sz_mulS zb0 zm2)).2.2, _, rfl, ?_⟩
      refine ⟨_, rfl, L, _, _, _, rfl, rfl, .inl (.inl aL), rfl, _, rfl, 1, m2, rfl, hm2, sz1, sm_sz zm2, fun pq npq => ?_⟩
      have z8 : Same U10 (upd U10 pq (.tup [.int (lowT 1 m2), .int (lowB 1 m2)])) := same_upd npq
      have apq : (upd U10 pq (.tup [.int (lowT 1 m2), .int (lowB 1 m2)])) pq = some (.tup [.int (lowT 1 m2), .int (lowB 1 m2)]) := upd_same
      generalize upd U10 pq (.tup [.int (lowT 1 m2), .int (lowB 1 m2)]) = G8 at z8 apq ⊢
      have aL : G8 L = some (.lst [.ref p0, .ref p1, .ref p2]) := z8 _ _ aL
      have at0 : G8 p0 = some (.tup [.int (t0), .int (b0)]) := z8 _ _ at0
      have at1 : G8 p1 = some (.tup [.int (t1), .int (b1)]) := z8 _ _ at1
      have at2 : G8 p2 = some (.tup [.int (t2), .int (b2)]) := z8 _ _ at2
      have Nn1 : NumAt (CN K) G8 n1 (t0) (b0) := Nn1.same z8
      have Nn2 : NumAt (CN K) G8 n2 (t1) (b1) := Nn2.same z8
      have aps : G8 ps = some (.tup [.int (ts), .int (bz)]) := z8 _ _ aps
      have cu : Old a H G8 := cu.trans (Old.same z8)
      have sp : SprAt a G8 := sp.same z8
      have f1 := lowT_le (h := 1) hm2
      have f2 := lowB_le (h := 1) hm2
      have f3 := low_pos (h := 1) hm2
      have f4 := low_eq (h := 1) hm2
      have zx : Sm (lowT 1 m2) := Nat.lt_of_le_of_lt f1 (by decide +kernel)
      have zy : Sm (lowB 1 m2) := Nat.lt_of_le_of_lt f2 zm2
      have nz5 : b0 * lowB 1 m2 ≠ 0 := Int.mul_ne_zero (by omega) (by omega)
      refine ⟨p0, pq, t0, b0, lowT 1 m2, lowB 1 m2, rfl, at0, apq, zt0, zb0, zx, zy, nz5, fun U11 u11 v11 R11 => ?_⟩
      have aL : U11 L = some (.lst [.ref p0, .ref p1, .ref p2]) := v11 _ _ aL
      have at0 : U11 p0 = some (.tup [.int (t0), .int (b0)]) := v11 _ _ at0
      have at1 : U11 p1 = some (.tup [.int (t1), .int (b1)]) := v11 _ _ at1
      have at2 : U11 p2 = some (.tup [.int (t2), .int (b2)]) := v11 _ _ at2
      have Nn1 : NumAt (CN K) U11 n1 (t0) (b0) := Nn1.same v11
      have Nn2 : NumAt (CN K) U11 n2 (t1) (b1) := Nn2.same v11
      have aps : U11 ps = some (.tup [.int (ts), .int (bz)]) := v11 _ _ aps
      have cu : Old a H U11 := cu.trans (Old.same v11)
      have sp : SprAt a U11 := sp.same v11
      refine ⟨u11, _, _, rfl, R11, low_pos nz5, (ok_low nz5 (sz_mulS zt0 zx) (sz_mulS zb0 zy)).2.1, (ok_low nz5 (sz_mulS zt0 zx) (sz_mulS zb0 zy)).2.2, fun E4 ve4 => ?_⟩
      have aL : E4 L = some (.lst [.ref p0, .ref p1, .ref p2]) := ve4 _ _ aL
      have at0 : E4 p0 = some (.tup [.int (t0), .int (b0)]) := ve4 _ _ at0
      have at1 : E4 p1 = some (.tup [.int (t1), .int (b1)]) := ve4 _ _ at1
      have at2 : E4 p2 = some (.tup [.int (t2), .int (b2)]) := ve4 _ _ at2
      have Nn1 : NumAt (CN K) E4 n1 (t0) (b0) := Nn1.same ve4
      have Nn2 : NumAt (CN K) E4 n2 (t1) (b1) := Nn2.same ve4
      have aps : E4 ps = some (.tup [.int (ts), .int (bz)]) := ve4 _ _ aps
      have cu : Old a H E4 := cu.trans (Old.same ve4)
      have sp : SprAt a E4 := sp.same ve4
      have eb := low_cross (h := t0 * 1) (b := b0 * m2) (h' := t0 * lowT 1 m2) (b' := b0 * lowB 1 m2) nz4 nz5 (by grind)
      refine ⟨rfl, _, rfl, ?_⟩
      refine iteNS (show V.str (tx (lowT (t0 * 1) (b0 * m2), lowB (t0 * 1) (b0 * m2))) = V.str (tx (lowT (t0 * lowT 1 m2) (b0 * lowB 1 m2), lowB (t0 * lowT 1 m2) (b0 * lowB 1 m2))) by rw [eb.1, eb.2]) ?_
      refine ⟨(by show 2 ≤ sizeLine; decide), fun q0 nq0 => ?_⟩
      have z9 : Same E4 (upd E4 q0 (.tup [.int 1, .int 1])) := same_upd nq0
      have aq0 : (upd E4 q0 (.tup [.int 1, .int 1])) q0 = some (.tup [.int 1, .int 1]) := upd_same
      generalize upd E4 q0 (.tup [.int 1, .int 1]) = G9 at z9 aq0 ⊢
      have aL : G9 L = some (.lst [.ref p0, .ref p1, .ref p2]) := z9 _ _ aL
      have at0 : G9 p0 = some (.tup [.int (t0), .int (b0)]) := z9 _ _ at0
      have at1 : G9 p1 = some (.tup [.int (t1), .int (b1)]) := z9 _ _ at1
      have at2 : G9 p2 = some (.tup [.int (t2), .int (b2)]) := z9 _ _ at2
      have Nn1 : NumAt (CN K) G9 n1 (t0) (b0) := Nn1.same z9
      have Nn2 : NumAt (CN K) G9 n2 (t1) (b1) := Nn2.same z9
      have aps : G9 ps = some (.tup [.int (ts), .int (bz)]) := z9 _ _ aps
      have cu : Old a H G9 := cu.trans (Old.same z9)
      have sp : SprAt a G9 := sp.same z9
      have cuP := cu
      have spP := sp
      refine ⟨(by show 1 ≤ sizeLine; decide), fun LP nLP => ?_⟩
      have z10 : Same G9 (upd G9 LP (.lst [.ref q0])) := same_upd nLP
      have aLP : (upd G9 LP (.lst [.ref q0])) LP = some (.lst [.ref q0]) := upd_same
      generalize upd G9 LP (.lst [.ref q0]) = G10 at z10 aLP ⊢
      have aL : G10 L = some (.lst [.ref p0, .ref p1, .ref p2]) := z10 _ _ aL
      have at0 : G10 p0 = some (.tup [.int (t0), .int (b0)]) := z10 _ _ at0
      have at1 : G10 p1 = some (.tup [.int (t1), .int (b1)]) := z10 _ _ at1
      have at2 : G10 p2 = some (.tup [.int (t2), .int (b2)]) := z10 _ _ at2
      have Nn1 : NumAt (CN K) G10 n1 (t0) (b0) := Nn1.same z10
      have Nn2 : NumAt (CN K) G10 n2 (t1) (b1) := Nn2.same z10
      have aps : G10 ps = some (.tup [.int (ts), .int (bz)]) := z10 _ _ aps
      have aq0 : G10 q0 = some (.tup [.int (1), .int (1)]) := z10 _ _ aq0
      have cu : Old a H G10 := cu.trans (Old.same z10)
      have sp : SprAt a G10 := sp.same z10
      have LPa : LP ≠ a := Ne.symm (spP.ne nLP)
      have hLP : ∀ x u, H x = some u → x ≠ a → x ≠ LP := fun x u hx hn e => by subst e; have z := cuP _ _ hx hn; rw [nLP] at z; exact nomatch z
      refine ⟨0, 1, rfl, by decide, sz1, fun E5 tot ve5 nnt NT => ?_⟩
      have aL : E5 L = some (.lst [.ref p0, .ref p1, .ref p2]) := ve5 _ _ aL
      have at0 : E5 p0 = some (.tup [.int (t0), .int (b0)]) := ve5 _ _ at0
      have at1 : E5 p1 = some (.tup [.int (t1), .int (b1)]) := ve5 _ _ at1
      have at2 : E5 p2 = some (.tup [.int (t2), .int (b2)]) := ve5 _ _ at2
      have Nn1 : NumAt (CN K) E5 n1 (t0) (b0) := Nn1.same ve5
      have Nn2 : NumAt (CN K) E5 n2 (t1) (b1) := Nn2.same ve5
      have aps : E5 ps = some (.tup [.int (ts), .int (bz)]) := ve5 _ _ aps
      have aq0 : E5 q0 = some (.tup [.int (1), .int (1)]) := ve5 _ _ aq0
      have aLP : E5 LP = some (.lst [.ref q0]) := ve5 _ _ aLP
      have cu : Old a H E5 := cu.trans (Old.same ve5)
      have sp : SprAt a E5 := sp.same ve5
      have lz := low_zero (b := 1) (by decide)
      have lz := low_of (h := 0) (b := 1) (t := 0) (c := 1) (by decide) (by decide) (by decide) (by decide)
      rw [lz.1, lz.2] at NT
      have NT : NumAt (CN K) E5 tot 0 1 := NT
      refine ⟨(by show 2 ≤ sizeLine; decide), fun wh nwh => ?_⟩
      have z11 : Same E5 (upd E5 wh (.tup [.int 0, .int 1])) := same_upd nwh
      have awh : (upd E5 wh (.tup [.int 0, .int 1])) wh = some (.tup [.int 0, .int 1]) := upd_same
      generalize upd E5 wh (.tup [.int 0, .int 1]) = G11 at z11 awh ⊢
      have aL : G11 L = some (.lst [.ref p0, .ref p1, .ref p2]) := z11 _ _ aL
      have at0 : G11 p0 = some (.tup [.int (t0), .int (b0)]) := z11 _ _ at0
      have at1 : G11 p1 = some (.tup [.int (t1), .int (b1)]) := z11 _ _ at1
      have at2 : G11 p2 = some (.tup [.int (t2), .int (b2)]) := z11 _ _ at2
      have Nn1 : NumAt (CN K) G11 n1 (t0) (b0) := Nn1.same z11
      have Nn2 : NumAt (CN K) G11 n2 (t1) (b1) := Nn2.same z11
      have aps : G11 ps = some (.tup [.int (ts), .int (bz)]) := z11 _ _ aps
      have aq0 : G11 q0 = some (.tup [.int (1), .int (1)]) := z11 _ _ aq0
      have aLP : G11 LP = some (.lst [.ref q0]) := z11 _ _ aLP
      have NT : NumAt (CN K) G11 tot (0) (1) := NT.same z11
      have cu : Old a H G11 := cu.trans (Old.same z11)
      have sp : SprAt a G11 := sp.same z11
      refine ⟨_, _, _, rfl, ?_⟩
      refine ⟨_, rfl, ?_⟩
      have bne : bz ≠ 0 := by omega
      have lz0 : lowT (((0 : Nat) : Int) * ts) bz = 0 ∧ lowB (((0 : Nat) : Int) * ts) bz = 1 := low_zero' bne
      refine ⟨20, rfl, by decide, by decide, ?_⟩
      refine for_range (lo := 0) (n := 20) (fun i σ H' => Old a H H' ∧ SprAt a H' ∧ H' ps = some (.tup [.int ts, .int bz]) ∧ NumAt (CN K) H' tot 0 1 ∧ (∃ rs, H' LP = some (.lst rs) ∧ Prs H' rs (pows ts bz i)) ∧ ∃ (tt ww : Addr) (y2 : Option V), H' ww = some (.tup [.int (lowT ((((min i x2.toNat : Nat) : Int)) * ts) bz), .int (lowB ((((min i x2.toNat : Nat) : Int)) * ts) bz)]) ∧ NumAt (CN K) H' tt (lowT ((((min i x2.toNat : Nat) : Int)) * ts) bz) (lowB ((((min i x2.toNat : Nat) : Int)) * ts) bz) ∧ σ = [some (.ref a), some (.ref L), y2, some (.int m2), some (.int x2), some (.ref n1), some (.ref n2), y7, y8, y9, some (.ref ps), some (.ref LP), some (.ref tt), some (.ref ww), some (.ref tot), none, none, none])
        ⟨cu, sp, aps, NT, ⟨_, aLP, by rw [pows_zero]; exact ⟨⟨q0, rfl, aq0⟩, trivial⟩⟩, tot, wh, none, by rw [Nat.zero_min, lz0.1, lz0.2]; exact awh, by rw [Nat.zero_min, lz0.1, lz0.2]; exact NT, rfl⟩ ?_ ?_
      · rintro i σ G hi ⟨cu, sp, aps, NF, ⟨rs, aLP, hP⟩, tt, ww, y2, aww, NTT, rfl⟩
        have nle : (((min i x2.toNat : Nat) : Int)) ≤ 20 ∧ 0 ≤ (((min i x2.toNat : Nat) : Int)) := by omega
        have zx : Sm (lowT ((((min i x2.toNat : Nat) : Int)) * ts) bz) := Nat.lt_of_le_of_lt (lowT_le bne) (Nat.lt_of_le_of_lt (show ((((min i x2.toNat : Nat) : Int)) * ts).natAbs ≤ 20 * 4 by rw [Int.natAbs_mul]; exact Nat.mul_le_mul (by omega) mts) (by decide +kernel))
        have zy : Sm (lowB ((((min i x2.toNat : Nat) : Int)) * ts) bz) := Nat.lt_of_le_of_lt (lowB_le bne) zbs
        have yp : 0 < lowB ((((min i x2.toNat : Nat) : Int)) * ts) bz := low_pos bne
        have nx := low_next (n := (((min i x2.toNat : Nat) : Int))) (t := ts) pbs
        have xx : ∀ j : Nat, (((min (i + 1) x2.toNat : Nat) : Int)) = if (i : Int) < x2 then (((min i x2.toNat : Nat) : Int)) + 1 else (((min i x2.toNat : Nat) : Int)) := fun _ => by split <;> omega
        have xx := xx 0
        have e0 : (0 : Int) + (i : Int) = ((i : Nat) : Int) := by omega
        rw [e0]
        have hl := hP.len
        rw [pows_len] at hl
        obtain ⟨pk, hk, apk⟩ := hP.at (pows_get (t := ts) (b := bz) (Nat.le_refl i))
        have i20 : i ≤ 20 := by omega
        have zti := sm_pow mts2 i20
        have zbi := sm_pow mbs2 i20
        have bpi : 0 < bz ^ i := Int.pow_pos pbs
        have nzp : bz ^ i * bz ≠ 0 := Int.mul_ne_zero (by omega) bne
        refine ⟨_, rfl, .inl ⟨rfl, _, .inl (.inl aLP)⟩, _, rfl, _, rfl, LP, _, _, _, rfl, rfl, .inl (.inl aLP), atI_end hk hl, _, rfl, pk, ps, ts ^ i, bz ^ i, ts, bz, rfl, apk, aps, zti, zbi, zts, zbs, nzp, fun V1 u1 v1 R1 => ?_⟩
        have aps : V1 ps = some (.tup [.int (ts), .int (bz)]) := v1 _ _ aps
        have NF : NumAt (CN K) V1 tot (0) (1) := NF.same v1
        have aww : V1 ww = some (.tup [.int (lowT ((((min i x2.toNat : Nat) : Int)) * ts) bz), .int (lowB ((((min i x2.toNat : Nat) : Int)) * ts) bz)]) := v1 _ _ aww
        have NTT : NumAt (CN K) V1 tt (lowT ((((min i x2.toNat : Nat) : Int)) * ts) bz) (lowB ((((min i x2.toNat : Nat) : Int)) * ts) bz) := NTT.same v1
        have aLP : V1 LP = some (.lst rs) := v1 _ _ aLP
        have cu : Old a H V1 := cu.trans (Old.same v1)
        have sp : SprAt a V1 := sp.same v1
        have hP := hP.same v1
        have lo := low_red (t := ts ^ (i + 1)) (b := bz ^ (i + 1)) (Int.pow_pos pbs) (cop_pow pgs _)
        have R1 : V1 u1 = some (.tup [.int (lowT (ts ^ i * ts) (bz ^ i * bz)), .int (lowB (ts ^ i * ts) (bz ^ i * bz))]) := R1
        rw [← Int.pow_succ, ← Int.pow_succ, lo.1, lo.2] at R1
        refine ⟨LP, _, _, rfl, rfl, aLP, small1000 (by omega), ?_⟩
        have hP2 : Prs (upd V1 LP (.lst (rs ++ [.ref u1]))) (rs ++ [.ref u1]) (pows ts bz (i + 1)) := by
          rw [pows_succ]
          exact Prs.app (Prs.old aLP Old.put hP) ⟨⟨u1, rfl, Old.put _ _ R1 (ne_of R1 aLP (by intro z; exact nomatch z))⟩, trivial⟩
        have cu2 : Old a H (upd V1 LP (.lst (rs ++ [.ref u1]))) := fun x u hx hn => by rw [upd_ne (hLP x u hx hn)]; exact cu _ _ hx hn
        have sp2 : SprAt a (upd V1 LP (.lst (rs ++ [.ref u1]))) := by obtain ⟨d', e', c', g1, g2⟩ := sp; exact ⟨d', e', c', by rw [upd_ne (Ne.symm LPa)]; exact g1, g2⟩
        have aps2 : (upd V1 LP (.lst (rs ++ [.ref u1]))) ps = _ := Old.put _ _ aps (ne_of aps aLP (by intro z; exact nomatch z))
        have aww2 : (upd V1 LP (.lst (rs ++ [.ref u1]))) ww = _ := Old.put _ _ aww (ne_of aww aLP (by intro z; exact nomatch z))
        have NF2 := NF.old (Old.put (o := .lst (rs ++ [.ref u1]))) (num_ne NF aLP)
        have NTT2 := NTT.old (Old.put (o := .lst (rs ++ [.ref u1]))) (num_ne NTT aLP)
        have aLP2 : (upd V1 LP (.lst (rs ++ [.ref u1]))) LP = some (.lst (rs ++ [.ref u1])) := upd_same
        generalize upd V1 LP (.lst (rs ++ [.ref u1])) = G2 at hP2 cu2 sp2 aps2 aww2 NF2 NTT2 aLP2 ⊢
        clear cu sp aps aww NF NTT aLP hP R1 v1 apk hk hl
        have cu := cu2
        have sp := sp2
        have aps := aps2
        have aww := aww2
        have NF := NF2
        have NTT := NTT2
        have aLP := aLP2
        have hP := hP2
        have fin : ∀ (H5 : Hp) (tt' ww' : Addr), Old a H H5 → SprAt a H5 → Same G2 H5 → True := fun _ _ _ _ _ _ => trivial
        by_cases hlt : (i : Int) < x2
        · rw [if_pos hlt] at xx
          refine ⟨_, rfl, _, rfl, _, _, rfl, rfl, _, rfl, ?_⟩
          refine ite2 (fun _ => ?_) (fun z => absurd (decide_eq_true hlt) z)
          refine ⟨_, rfl, _, rfl, ww, ps, lowT ((((min i x2.toNat : Nat) : Int)) * ts) bz, lowB ((((min i x2.toNat : Nat) : Int)) * ts) bz, ts, bz, rfl, aww, aps, zx, zy, zts, zbs, Int.mul_ne_zero (by omega) bne, fun U13 u13 v13 R13 => ?_⟩
          have aps : U13 ps = some (.tup [.int (ts), .int (bz)]) := v13 _ _ aps
          have NF : NumAt (CN K) U13 tot (0) (1) := NF.same v13
          have aww : U13 ww = some (.tup [.int (lowT ((((min i x2.toNat : Nat) : Int)) * ts) bz), .int (lowB ((((min i x2.toNat : Nat) : Int)) * ts) bz)]) := v13 _ _ aww
          have NTT : NumAt (CN K) U13 tt (lowT ((((min i x2.toNat : Nat) : Int)) * ts) bz) (lowB ((((min i x2.toNat : Nat) : Int)) * ts) bz) := NTT.same v13
          have aLP : U13 LP = some (.lst (rs ++ [.ref u1])) := v13 _ _ aLP
          have cu : Old a H U13 := cu.trans (Old.same v13)
          have sp : SprAt a U13 := sp.same v13
          have R13 : U13 u13 = some (.tup [.int (lowT (lowT ((((min i x2.toNat : Nat) : Int)) * ts) bz * bz + ts * lowB ((((min i x2.toNat : Nat) : Int)) * ts) bz) (lowB ((((min i x2.toNat : Nat) : Int)) * ts) bz * bz)), .int (lowB (lowT ((((min i x2.toNat : Nat) : Int)) * ts) bz * bz + ts * lowB ((((min i x2.toNat : Nat) : Int)) * ts) bz) (lowB ((((min i x2.toNat : Nat) : Int)) * ts) bz * bz))]) := R13
          rw [nx.1, nx.2] at R13
          have hP := hP.same v13
          refine ⟨_, rfl, _, rfl, _, rfl, _, _, rfl, rfl, _, rfl, ?_⟩
          refine ite2 (fun _ => ?_) (fun z => absurd (decide_eq_true hlt) z)
          refine ⟨_, rfl, ps, _, _, _, rfl, rfl, .inl (.inl aps), rfl, _, rfl, ps, _, _, _, rfl, rfl, .inl (.inl aps), rfl, ts, bz, rfl, bne, sm_sz zbs, fun V3 n3 v3 nn3 N3 => ?_⟩
          have aps : V3 ps = some (.tup [.int (ts), .int (bz)]) := v3 _ _ aps
          have NF : NumAt (CN K) V3 tot (0) (1) := NF.same v3
          have aww : V3 ww = some (.tup [.int (lowT ((((min i x2.toNat : Nat) : Int)) * ts) bz), .int (lowB ((((min i x2.toNat : Nat) : Int)) * ts) bz)]) := v3 _ _ aww
          have NTT : NumAt (CN K) V3 tt (lowT ((((min i x2.toNat : Nat) : Int)) * ts) bz) (lowB ((((min i x2.toNat : Nat) : Int)) * ts) bz) := NTT.same v3
          have aLP : V3 LP = some (.lst (rs ++ [.ref u1])) := v3 _ _ aLP
          have R13 : V3 u13 = some (.tup [.int (lowT (((((min i x2.toNat : Nat) : Int)) + 1) * ts) bz), .int (lowB (((((min i x2.toNat : Nat) : Int)) + 1) * ts) bz)]) := v3 _ _ R13
          have cu : Old a H V3 := cu.trans (Old.same v3)
          have sp : SprAt a V3 := sp.same v3
          have hP := hP.same v3
          rw [(low_red pbs pgs).1, (low_red pbs pgs).2] at N3
          have N3 : NumAt (CN K) V3 n3 ts bz := N3
          obtain ⟨dt, gt⟩ := id NTT.at_
          obtain ⟨d3, g3⟩ := id N3.at_
          refine ⟨tt, dt, _, rfl, gt, .inr ⟨n3, d3, _, rfl, g3⟩, tt, _, lowT ((((min i x2.toNat : Nat) : Int)) * ts) bz, lowB ((((min i x2.toNat : Nat) : Int)) * ts) bz, ts, bz, rfl, NTT, .inl ⟨n3, rfl, N3⟩, zx, zy, zts, zbs, trivial, fun V4 u4 v4 R4 => ?_⟩
          have aps : V4 ps = some (.tup [.int (ts), .int (bz)]) := v4 _ _ aps
          have NF : NumAt (CN K) V4 tot (0) (1) := NF.same v4
          have aww : V4 ww = some (.tup [.int (lowT ((((min i x2.toNat : Nat) : Int)) * ts) bz), .int (lowB ((((min i x2.toNat : Nat) : Int)) * ts) bz)]) := v4 _ _ aww
          have NTT : NumAt (CN K) V4 tt (lowT ((((min i x2.toNat : Nat) : Int)) * ts) bz) (lowB ((((min i x2.toNat : Nat) : Int)) * ts) bz) := NTT.same v4
          have aLP : V4 LP = some (.lst (rs ++ [.ref u1])) := v4 _ _ aLP
          have R13 : V4 u13 = some (.tup [.int (lowT (((((min i x2.toNat : Nat) : Int)) + 1) * ts) bz), .int (lowB (((((min i x2.toNat : Nat) : Int)) + 1) * ts) bz)]) := v4 _ _ R13
          have cu : Old a H V4 := cu.trans (Old.same v4)
          have sp : SprAt a V4 := sp.same v4
          have hP := hP.same v4
          have R4 : NumAt (CN K) V4 u4 _ _ := R4
          simp only [nx.1, nx.2] at R4
          refine ⟨cu, sp, aps, NF, ⟨_, aLP, hP⟩, u4, u13, _, by rw [xx]; exact R13, by rw [xx]; exact R4, rfl⟩
        · rw [if_neg hlt] at xx
          refine ⟨_, rfl, _, rfl, _, _, rfl, rfl, _, rfl, ?_⟩
          refine ite2 (fun z => absurd (of_decide_eq_true z) hlt) (fun _ => ?_)
          refine ⟨_, rfl, ?_⟩
          refine ⟨_, rfl, _, rfl, _, rfl, _, _, rfl, rfl, _, rfl, ?_⟩
          refine ite2 (fun z => absurd (of_decide_eq_true z) hlt) (fun _ => ?_)
          obtain ⟨dt, gt⟩ := id NTT.at_
          refine ⟨tt, dt, _, rfl, gt, .inl ⟨0, rfl⟩, tt, _, lowT ((((min i x2.toNat : Nat) : Int)) * ts) bz, lowB ((((min i x2.toNat : Nat) : Int)) * ts) bz, 0, 1, rfl, NTT, .inr ⟨rfl, rfl⟩, zx, zy, by decide +kernel, sm1, trivial, fun V4 u4 v4 R4 => ?_⟩
          have aps : V4 ps = some (.tup [.int (ts), .int (bz)]) := v4 _ _ aps
          have NF : NumAt (CN K) V4 tot (0) (1) := NF.same v4
          have aww : V4 ww = some (.tup [.int (lowT ((((min i x2.toNat : Nat) : Int)) * ts) bz), .int (lowB ((((min i x2.toNat : Nat) : Int)) * ts) bz)]) := v4 _ _ aww
          have NTT : NumAt (CN K) V4 tt (lowT ((((min i x2.toNat : Nat) : Int)) * ts) bz) (lowB ((((min i x2.toNat : Nat) : Int)) * ts) bz) := NTT.same v4
          have aLP : V4 LP = some (.lst (rs ++ [.ref u1])) := v4 _ _ aLP
          have cu : Old a H V4 := cu.trans (Old.same v4)
          have sp : SprAt a V4 := sp.same v4
          have hP := hP.same v4
          have R4 : NumAt (CN K) V4 u4 _ _ := R4
          have ez := low_red (t := lowT ((((min i x2.toNat : Nat) : Int)) * ts) bz) NTT.pos NTT.cop
          simp only [Int.mul_one, Int.zero_mul, Int.add_zero, ez.1, ez.2] at R4
          refine ⟨cu, sp, aps, NF, ⟨_, aLP, hP⟩, u4, ww, _, by rw [xx]; exact aww, by rw [xx]; exact R4, rfl⟩
      · rintro σ G ⟨cu, sp, aps, NF, ⟨rs, aLP, hP⟩, tt, ww, y2, aww, NTT, rfl⟩
        obtain ⟨k0, hk0, ak0⟩ := hP.at (pows_get (t := ts) (b := bz) (show 0 ≤ 20 by decide))
        have hk0 : atI rs 0 = some (V.ref k0) := atI_nat hk0
        simp only at ak0
        obtain ⟨k1, hk1, ak1⟩ := hP.at (pows_get (t := ts) (b := bz) (show 1 ≤ 20 by decide))
        have hk1 : atI rs 1 = some (V.ref k1) := atI_nat hk1
        simp only at ak1
        obtain ⟨k2, hk2, ak2⟩ := hP.at (pows_get (t := ts) (b := bz) (show 2 ≤ 20 by decide))
        have hk2 : atI rs 2 = some (V.ref k2) := atI_nat hk2
        simp only at ak2
        obtain ⟨k3, hk3, ak3⟩ := hP.at (pows_get (t := ts) (b := bz) (show 3 ≤ 20 by decide))
        have hk3 : atI rs 3 = some (V.ref k3) := atI_nat hk3
        simp only at ak3
        obtain ⟨k7, hk7, ak7⟩ := hP.at (pows_get (t := ts) (b := bz) (show 7 ≤ 20 by decide))
        have hk7 : atI rs 7 = some (V.ref k7) := atI_nat hk7
        simp only at ak7
        obtain ⟨k20, hk20, ak20⟩ := hP.at (pows_get (t := ts) (b := bz) (show 20 ≤ 20 by decide))
        have hk20 : atI rs 20 = some (V.ref k20) := atI_nat hk20
        simp only at ak20
        refine ⟨_, rfl, ps, _, _, _, rfl, rfl, .inl (.inl aps), rfl, _, rfl, ps, _, _, _, rfl, rfl, .inl (.inl aps), rfl, ts, bz, rfl, bne, sm_sz zbs, fun E6 nb ve6 nnb NB => ?_⟩
        have aps : E6 ps = some (.tup [.int (ts), .int (bz)]) := ve6 _ _ aps
        have NF : NumAt (CN K) E6 tot (0) (1) := NF.same ve6
        have aLP : E6 LP = some (.lst rs) := ve6 _ _ aLP
        have aww : E6 ww = some (.tup [.int (lowT ((((min 20 x2.toNat : Nat) : Int)) * ts) bz), .int (lowB ((((min 20 x2.toNat : Nat) : Int)) * ts) bz)]) := ve6 _ _ aww
        have NTT : NumAt (CN K) E6 tt (lowT ((((min 20 x2.toNat : Nat) : Int)) * ts) bz) (lowB ((((min 20 x2.toNat : Nat) : Int)) * ts) bz) := NTT.same ve6
        have ak0 : E6 k0 = some (.tup [.int (ts ^ 0), .int (bz ^ 0)]) := ve6 _ _ ak0
        have ak1 : E6 k1 = some (.tup [.int (ts ^ 1), .int (bz ^ 1)]) := ve6 _ _ ak1
        have ak2 : E6 k2 = some (.tup [.int (ts ^ 2), .int (bz ^ 2)]) := ve6 _ _ ak2
        have ak3 : E6 k3 = some (.tup [.int (ts ^ 3), .int (bz ^ 3)]) := ve6 _ _ ak3
        have ak7 : E6 k7 = some (.tup [.int (ts ^ 7), .int (bz ^ 7)]) := ve6 _ _ ak7
        have ak20 : E6 k20 = some (.tup [.int (ts ^ 20), .int (bz ^ 20)]) := ve6 _ _ ak20
        have cu : Old a H E6 := cu.trans (Old.same ve6)
        have sp : SprAt a E6 := sp.same ve6
        rw [(low_red pbs pgs).1, (low_red pbs pgs).2] at NB
        have NB : NumAt (CN K) E6 nb ts bz := NB
        obtain ⟨dnb, gnb⟩ := id NB.at_
        refine ⟨_, rfl, nb, dnb, _, rfl, gnb, .inl ⟨_, rfl⟩, nb, ts, bz, 0, rfl, NB, mts2, mbs2, by decide, fun W0 q0 vw0 Q0 => ?_⟩
        have aps : W0 ps = some (.tup [.int (ts), .int (bz)]) := vw0 _ _ aps
        have NF : NumAt (CN K) W0 tot (0) (1) := NF.same vw0
        have aLP : W0 LP = some (.lst rs) := vw0 _ _ aLP
        have aww : W0 ww = some (.tup [.int (lowT ((((min 20 x2.toNat : Nat) : Int)) * ts) bz), .int (lowB ((((min 20 x2.toNat : Nat) : Int)) * ts) bz)]) := vw0 _ _ aww
        have NTT : NumAt (CN K) W0 tt (lowT ((((min 20 x2.toNat : Nat) : Int)) * ts) bz) (lowB ((((min 20 x2.toNat : Nat) : Int)) * ts) bz) := NTT.same vw0
        have ak0 : W0 k0 = some (.tup [.int (ts ^ 0), .int (bz ^ 0)]) := vw0 _ _ ak0
        have ak1 : W0 k1 = some (.tup [.int (ts ^ 1), .int (bz ^ 1)]) := vw0 _ _ ak1
        have ak2 : W0 k2 = some (.tup [.int (ts ^ 2), .int (bz ^ 2)]) := vw0 _ _ ak2
        have ak3 : W0 k3 = some (.tup [.int (ts ^ 3), .int (bz ^ 3)]) := vw0 _ _ ak3
        have ak7 : W0 k7 = some (.tup [.int (ts ^ 7), .int (bz ^ 7)]) := vw0 _ _ ak7
        have ak20 : W0 k20 = some (.tup [.int (ts ^ 20), .int (bz ^ 20)]) := vw0 _ _ ak20
        have NB : NumAt (CN K) W0 nb (ts) (bz) := NB.same vw0
        have cu : Old a H W0 := cu.trans (Old.same vw0)
        have sp : SprAt a W0 := sp.same vw0
        have Q0 : NumAt (CN K) W0 q0 (ts ^ 0) (bz ^ 0) := Q0
        obtain ⟨dnb, gnb⟩ := id NB.at_
        refine ⟨_, rfl, nb, dnb, _, rfl, gnb, .inl ⟨_, rfl⟩, nb, ts, bz, 1, rfl, NB, mts2, mbs2, by decide, fun W1 q1 vw1 Q1 => ?_⟩
        have aps : W1 ps = some (.tup [.int (ts), .int (bz)]) := vw1 _ _ aps
        have NF : NumAt (CN K) W1 tot (0) (1) := NF.same vw1
        have aLP : W1 LP = some (.lst rs) := vw1 _ _ aLP
        have aww : W1 ww = some (.tup [.int (lowT ((((min 20 x2.toNat : Nat) : Int)) * ts) bz), .int (lowB ((((min 20 x2.toNat : Nat) : Int)) * ts) bz)]) := vw1 _ _ aww
        have NTT : NumAt (CN K) W1 tt (lowT ((((min 20 x2.toNat : Nat) : Int)) * ts) bz) (lowB ((((min 20 x2.toNat : Nat) : Int)) * ts) bz) := NTT.same vw1
        have ak0 : W1 k0 = some (.tup [.int (ts ^ 0), .int (bz ^ 0)]) := vw1 _ _ ak0
        have ak1 : W1 k1 = some (.tup [.int (ts ^ 1), .int (bz ^ 1)]) := vw1 _ _ ak1
        have ak2 : W1 k2 = some (.tup [.int (ts ^ 2), .int (bz ^ 2)]) := vw1 _ _ ak2
        have ak3 : W1 k3 = some (.tup [.int (ts ^ 3), .int (bz ^ 3)]) := vw1 _ _ ak3
        have ak7 : W1 k7 = some (.tup [.int (ts ^ 7), .int (bz ^ 7)]) := vw1 _ _ ak7
        have ak20 : W1 k20 = some (.tup [.int (ts ^ 20), .int (bz ^ 20)]) := vw1 _ _ ak20
        have NB : NumAt (CN K) W1 nb (ts) (bz) := NB.same vw1
        have Q0 : NumAt (CN K) W1 q0 (ts ^ 0) (bz ^ 0) := Q0.same vw1
        have cu : Old a H W1 := cu.trans (Old.same vw1)
        have sp : SprAt a W1 := sp.same vw1
        have Q1 : NumAt (CN K) W1 q1 (ts ^ 1) (bz ^ 1) := Q1
        obtain ⟨dnb, gnb⟩ := id NB.at_
        refine ⟨_, rfl, nb, dnb, _, rfl, gnb, .inl ⟨_, rfl⟩, nb, ts, bz, 2, rfl, NB, mts2, mbs2, by decide, fun W2 q2 vw2 Q2 => ?_⟩
        have aps : W2 ps = some (.tup [.int (ts), .int (bz)]) := vw2 _ _ aps
        have NF : NumAt (CN K) W2 tot (0) (1) := NF.same vw2
        have aLP : W2 LP = some (.lst rs) := vw2 _ _ aLP
        have aww : W2 ww = some (.tup [.int (lowT ((((min 20 x2.toNat : Nat) : Int)) * ts) bz), .int (lowB ((((min 20 x2.toNat : Nat) : Int)) * ts) bz)]) := vw2 _ _ aww
        have NTT : NumAt (CN K) W2 tt (lowT ((((min 20 x2.toNat : Nat) : Int)) * ts) bz) (lowB ((((min 20 x2.toNat : Nat) : Int)) * ts) bz) := NTT.same vw2
        have ak0 : W2 k0 = some (.tup [.int (ts ^ 0), .int (bz ^ 0)]) := vw2 _ _ ak0
        have ak1 : W2 k1 = some (.tup [.int (ts ^ 1), .int (bz ^ 1)]) := vw2 _ _ ak1
        have ak2 : W2 k2 = some (.tup [.int (ts ^ 2), .int (bz ^ 2)]) := vw2 _ _ ak2
        have ak3 : W2 k3 = some (.tup [.int (ts ^ 3), .int (bz ^ 3)]) := vw2 _ _ ak3
        have ak7 : W2 k7 = some (.tup [.int (ts ^ 7), .int (bz ^ 7)]) := vw2 _ _ ak7
        have ak20 : W2 k20 = some (.tup [.int (ts ^ 20), .int (bz ^ 20)]) := vw2 _ _ ak20
        have NB : NumAt (CN K) W2 nb (ts) (bz) := NB.same vw2
        have Q0 : NumAt (CN K) W2 q0 (ts ^ 0) (bz ^ 0) := Q0.same vw2
        have Q1 : NumAt (CN K) W2 q1 (ts ^ 1) (bz ^ 1) := Q1.same vw2
        have cu : Old a H W2 := cu.trans (Old.same vw2)
        have sp : SprAt a W2 := sp.same vw2
        have Q2 : NumAt (CN K) W2 q2 (ts ^ 2) (bz ^ 2) := Q2
        obtain ⟨dnb, gnb⟩ := id NB.at_
        refine ⟨_, rfl, nb, dnb, _, rfl, gnb, .inl ⟨_, rfl⟩, nb, ts, bz, 3, rfl, NB, mts2, mbs2, by decide, fun W3 q3 vw3 Q3 => ?_⟩
        have aps : W3 ps = some (.tup [.int (ts), .int (bz)]) := vw3 _ _ aps
        have NF : NumAt (CN K) W3 tot (0) (1) := NF.same vw3
        have aLP : W3 LP = some (.lst rs) := vw3 _ _ aLP
        have aww : W3 ww = some (.tup [.int (lowT ((((min 20 x2.toNat : Nat) : Int)) * ts) bz), .int (lowB ((((min 20 x2.toNat : Nat) : Int)) * ts) bz)]) := vw3 _ _ aww
        have NTT : NumAt (CN K) W3 tt (lowT ((((min 20 x2.toNat : Nat) : Int)) * ts) bz) (lowB ((((min 20 x2.toNat : Nat) : Int)) * ts) bz) := NTT.same vw3
        have ak0 : W3 k0 = some (.tup [.int (ts ^ 0), .int (bz ^ 0)]) := vw3 _ _ ak0
        have ak1 : W3 k1 = some (.tup [.int (ts ^ 1), .int (bz ^ 1)]) := vw3 _ _ ak1
        have ak2 : W3 k2 = some (.tup [.int (ts ^ 2), .int (bz ^ 2)]) := vw3 _ _ ak2
        have ak3 : W3 k3 = some (.tup [.int (ts ^ 3), .int (bz ^ 3)]) := vw3 _ _ ak3
        have ak7 : W3 k7 = some (.tup [.int (ts ^ 7), .int (bz ^ 7)]) := vw3 _ _ ak7
        have ak20 : W3 k20 = some (.tup [.int (ts ^ 20), .int (bz ^ 20)]) := vw3 _ _ ak20
        have NB : NumAt (CN K) W3 nb (ts) (bz) := NB.same vw3
        have Q0 : NumAt (CN K) W3 q0 (ts ^ 0) (bz ^ 0) := Q0.same vw3
        have Q1 : NumAt (CN K) W3 q1 (ts ^ 1) (bz ^ 1) := Q1.same vw3
        have Q2 : NumAt (CN K) W3 q2 (ts ^ 2) (bz ^ 2) := Q2.same vw3
        have cu : Old a H W3 := cu.trans (Old.same vw3)
        have sp : SprAt a W3 := sp.same vw3
        have Q3 : NumAt (CN K) W3 q3 (ts ^ 3) (bz ^ 3) := Q3
        obtain ⟨dnb, gnb⟩ := id NB.at_
        refine ⟨_, rfl, nb, dnb, _, rfl, gnb, .inl ⟨_, rfl⟩, nb, ts, bz, 7, rfl, NB, mts2, mbs2, by decide, fun W7 q7 vw7 Q7 => ?_⟩
        have aps : W7 ps = some (.tup [.int (ts), .int (bz)]) := vw7 _ _ aps
        have NF : NumAt (CN K) W7 tot (0) (1) := NF.same vw7
        have aLP : W7 LP = some (.lst rs) := vw7 _ _ aLP
        have aww : W7 ww = some (.tup [.int (lowT ((((min 20 x2.toNat : Nat) : Int)) * ts) bz), .int (lowB ((((min 20 x2.toNat : Nat) : Int)) * ts) bz)]) := vw7 _ _ aww
        have NTT : NumAt (CN K) W7 tt (lowT ((((min 20 x2.toNat : Nat) : Int)) * ts) bz) (lowB ((((min 20 x2.toNat : Nat) : Int)) * ts) bz) := NTT.same vw7
        have ak0 : W7 k0 = some (.tup [.int (ts ^ 0), .int (bz ^ 0)]) := vw7 _ _ ak0
        have ak1 : W7 k1 = some (.tup [.int (ts ^ 1), .int (bz ^ 1)]) := vw7 _ _ ak1
        have ak2 : W7 k2 = some (.tup [.int (ts ^ 2), .int (bz ^ 2)]) := vw7 _ _ ak2
        have ak3 : W7 k3 = some (.tup [.int (ts ^ 3), .int (bz ^ 3)]) := vw7 _ _ ak3
        have ak7 : W7 k7 = some (.tup [.int (ts ^ 7), .int (bz ^ 7)]) := vw7 _ _ ak7
        have ak20 : W7 k20 = some (.tup [.int (ts ^ 20), .int (bz ^ 20)]) := vw7 _ _ ak20
        have NB : NumAt (CN K) W7 nb (ts) (bz) := NB.same vw7
        have Q0 : NumAt (CN K) W7 q0 (ts ^ 0) (bz ^ 0) := Q0.same vw7
        have Q1 : NumAt (CN K) W7 q1 (ts ^ 1) (bz ^ 1) := Q1.same vw7
        have Q2 : NumAt (CN K) W7 q2 (ts ^ 2) (bz ^ 2) := Q2.same vw7
        have Q3 : NumAt (CN K) W7 q3 (ts ^ 3) (bz ^ 3) := Q3.same vw7
        have cu : Old a H W7 := cu.trans (Old.same vw7)
        have sp : SprAt a W7 := sp.same vw7
        have Q7 : NumAt (CN K) W7 q7 (ts ^ 7) (bz ^ 7) := Q7
        obtain ⟨dnb, gnb⟩ := id NB.at_
        refine ⟨_, rfl, nb, dnb, _, rfl, gnb, .inl ⟨_, rfl⟩, nb, ts, bz, 20, rfl, NB, mts2, mbs2, by decide, fun W20 q20 vw20 Q20 => ?_⟩
        have aps : W20 ps = some (.tup [.int (ts), .int (bz)]) := vw20 _ _ aps
        have NF : NumAt (CN K) W20 tot (0) (1) := NF.same vw20
        have aLP : W20 LP = some (.lst rs) := vw20 _ _ aLP
        have aww : W20 ww = some (.tup [.int (lowT ((((min 20 x2.toNat : Nat) : Int)) * ts) bz), .int (lowB ((((min 20 x2.toNat : Nat) : Int)) * ts) bz)]) := vw20 _ _ aww
        have NTT : NumAt (CN K) W20 tt (lowT ((((min 20 x2.toNat : Nat) : Int)) * ts) bz) (lowB ((((min 20 x2.toNat : Nat) : Int)) * ts) bz) := NTT.same vw20
        have ak0 : W20 k0 = some (.tup [.int (ts ^ 0), .int (bz ^ 0)]) := vw20 _ _ ak0
        have ak1 : W20 k1 = some (.tup [.int (ts ^ 1), .int (bz ^ 1)]) := vw20 _ _ ak1
        have ak2 : W20 k2 = some (.tup [.int (ts ^ 2), .int (bz ^ 2)]) := vw20 _ _ ak2
        have ak3 : W20 k3 = some (.tup [.int (ts ^ 3), .int (bz ^ 3)]) := vw20 _ _ ak3
        have ak7 : W20 k7 = some (.tup [.int (ts ^ 7), .int (bz ^ 7)]) := vw20 _ _ ak7
        have ak20 : W20 k20 = some (.tup [.int (ts ^ 20), .int (bz ^ 20)]) := vw20 _ _ ak20
        have NB : NumAt (CN K) W20 nb (ts) (bz) := NB.same vw20
        have Q0 : NumAt (CN K) W20 q0 (ts ^ 0) (bz ^ 0) := Q0.same vw20
        have Q1 : NumAt (CN K) W20 q1 (ts ^ 1) (bz ^ 1) := Q1.same vw20
        have Q2 : NumAt (CN K) W20 q2 (ts ^ 2) (bz ^ 2) := Q2.same vw20
        have Q3 : NumAt (CN K) W20 q3 (ts ^ 3) (bz ^ 3) := Q3.same vw20
        have Q7 : NumAt (CN K) W20 q7 (ts ^ 7) (bz ^ 7) := Q7.same vw20
        have cu : Old a H W20 := cu.trans (Old.same vw20)
        have sp : SprAt a W20 := sp.same vw20
        have Q20 : NumAt (CN K) W20 q20 (ts ^ 20) (bz ^ 20) := Q20
        refine ⟨_, rfl, _, rfl, _, rfl, ?_⟩
        refine ⟨(by show 9 ≤ sizeLine; decide), fun m1 nm1 => ?_⟩
        have z12 : Same W20 (upd W20 m1 (.lst [.ref q0, .ref q1, .ref q2, .ref q3, .ref q7, .ref q20, .ref tt, .ref tot, .ref nb])) := same_upd nm1
        have am1 : (upd W20 m1 (.lst [.ref q0, .ref q1, .ref q2, .ref q3, .ref q7, .ref q20, .ref tt, .ref tot, .ref nb])) m1 = some (.lst [.ref q0, .ref q1, .ref q2, .ref q3, .ref q7, .ref q20, .ref tt, .ref tot, .ref nb]) := upd_same
        generalize upd W20 m1 (.lst [.ref q0, .ref q1, .ref q2, .ref q3, .ref q7, .ref q20, .ref tt, .ref tot, .ref nb]) = G12 at z12 am1 ⊢
        have aps : G12 ps = some (.tup [.int (ts), .int (bz)]) := z12 _ _ aps
        have NF : NumAt (CN K) G12 tot (0) (1) := NF.same z12
        have aLP : G12 LP = some (.lst rs) := z12 _ _ aLP
        have aww : G12 ww = some (.tup [.int (lowT ((((min 20 x2.toNat : Nat) : Int)) * ts) bz), .int (lowB ((((min 20 x2.toNat : Nat) : Int)) * ts) bz)]) := z12 _ _ aww
        have NTT : NumAt (CN K) G12 tt (lowT ((((min 20 x2.toNat : Nat) : Int)) * ts) bz) (lowB ((((min 20 x2.toNat : Nat) : Int)) * ts) bz) := NTT.same z12
        have ak0 : G12 k0 = some (.tup [.int (ts ^ 0), .int (bz ^ 0)]) := z12 _ _ ak0
        have ak1 : G12 k1 = some (.tup [.int (ts ^ 1), .int (bz ^ 1)]) := z12 _ _ ak1
        have ak2 : G12 k2 = some (.tup [.int (ts ^ 2), .int (bz ^ 2)]) := z12 _ _ ak2
        have ak3 : G12 k3 = some (.tup [.int (ts ^ 3), .int (bz ^ 3)]) := z12 _ _ ak3
        have ak7 : G12 k7 = some (.tup [.int (ts ^ 7), .int (bz ^ 7)]) := z12 _ _ ak7
        have ak20 : G12 k20 = some (.tup [.int (ts ^ 20), .int (bz ^ 20)]) := z12 _ _ ak20
        have NB : NumAt (CN K) G12 nb (ts) (bz) := NB.same z12
        have Q0 : NumAt (CN K) G12 q0 (ts ^ 0) (bz ^ 0) := Q0.same z12
        have Q1 : NumAt (CN K) G12 q1 (ts ^ 1) (bz ^ 1) := Q1.same z12
        have Q2 : NumAt (CN K) G12 q2 (ts ^ 2) (bz ^ 2) := Q2.same z12
        have Q3 : NumAt (CN K) G12 q3 (ts ^ 3) (bz ^ 3) := Q3.same z12
        have Q7 : NumAt (CN K) G12 q7 (ts ^ 7) (bz ^ 7) := Q7.same z12
        have Q20 : NumAt (CN K) G12 q20 (ts ^ 20) (bz ^ 20) := Q20.same z12
        have cu : Old a H G12 := cu.trans (Old.same z12)
        have sp : SprAt a G12 := sp.same z12
        refine ⟨_, rfl, LP, _, _, _, rfl, rfl, .inl (.inl aLP), hk0, _, rfl, LP, _, _, _, rfl, rfl, .inl (.inl aLP), hk1, _, rfl, LP, _, _, _, rfl, rfl, .inl (.inl aLP), hk2, _, rfl, LP, _, _, _, rfl, rfl, .inl (.inl aLP), hk3, _, rfl, LP, _, _, _, rfl, rfl, .inl (.inl aLP), hk7, _, rfl, LP, _, _, _, rfl, rfl, .inl (.inl aLP), hk20, _, rfl, ?_⟩
        refine ⟨(by show 2 ≤ sizeLine; decide), fun zt nzt => ?_⟩
        have z13 : Same G12 (upd G12 zt (.tup [.int 0, .int 1])) := same_upd nzt
        have azt : (upd G12 zt (.tup [.int 0, .int 1])) zt = some (.tup [.int 0, .int 1]) := upd_same
        generalize upd G12 zt (.tup [.int 0, .int 1]) = G13 at z13 azt ⊢
        have aps : G13 ps = some (.tup [.int (ts), .int (bz)]) := z13 _ _ aps
        have NF : NumAt (CN K) G13 tot (0) (1) := NF.same z13
        have aLP : G13 LP = some (.lst rs) := z13 _ _ aLP
        have aww : G13 ww = some (.tup [.int (lowT ((((min 20 x2.toNat : Nat) : Int)) * ts) bz), .int (lowB ((((min 20 x2.toNat : Nat) : Int)) * ts) bz)]) := z13 _ _ aww
        have NTT : NumAt (CN K) G13 tt (lowT ((((min 20 x2.toNat : Nat) : Int)) * ts) bz) (lowB ((((min 20 x2.toNat : Nat) : Int)) * ts) bz) := NTT.same z13
        have ak0 : G13 k0 = some (.tup [.int (ts ^ 0), .int (bz ^ 0)]) := z13 _ _ ak0
        have ak1 : G13 k1 = some (.tup [.int (ts ^ 1), .int (bz ^ 1)]) := z13 _ _ ak1
        have ak2 : G13 k2 = some (.tup [.int (ts ^ 2), .int (bz ^ 2)]) := z13 _ _ ak2
        have ak3 : G13 k3 = some (.tup [.int (ts ^ 3), .int (bz ^ 3)]) := z13 _ _ ak3
        have ak7 : G13 k7 = some (.tup [.int (ts ^ 7), .int (bz ^ 7)]) := z13 _ _ ak7
        have ak20 : G13 k20 = some (.tup [.int (ts ^ 20), .int (bz ^ 20)]) := z13 _ _ ak20
        have NB : NumAt (CN K) G13 nb (ts) (bz) := NB.same z13
        have Q0 : NumAt (CN K) G13 q0 (ts ^ 0) (bz ^ 0) := Q0.same z13
        have Q1 : NumAt (CN K) G13 q1 (ts ^ 1) (bz ^ 1) := Q1.same z13
        have Q2 : NumAt (CN K) G13 q2 (ts ^ 2) (bz ^ 2) := Q2.same z13
        have Q3 : NumAt (CN K) G13 q3 (ts ^ 3) (bz ^ 3) := Q3.same z13
        have Q7 : NumAt (CN K) G13 q7 (ts ^ 7) (bz ^ 7) := Q7.same z13
        have Q20 : NumAt (CN K) G13 q20 (ts ^ 20) (bz ^ 20) := Q20.same z13
        have am1 : G13 m1 = some (.lst [.ref q0, .ref q1, .ref q2, .ref q3, .ref q7, .ref q20, .ref tt, .ref tot, .ref nb]) := z13 _ _ am1
        have cu : Old a H G13 := cu.trans (Old.same z13)
        have sp : SprAt a G13 := sp.same z13
        refine ⟨_, rfl, ?_⟩
        refine ⟨(by show 9 ≤ sizeLine; decide), fun m2l nm2l => ?_⟩
        have z14 : Same G13 (upd G13 m2l (.lst [.ref k0, .ref k1, .ref k2, .ref k3, .ref k7, .ref k20, .ref ww, .ref zt, .ref ps])) := same_upd nm2l
        have am2l : (upd G13 m2l (.lst [.ref k0, .ref k1, .ref k2, .ref k3, .ref k7, .ref k20, .ref ww, .ref zt, .ref ps])) m2l = some (.lst [.ref k0, .ref k1, .ref k2, .ref k3, .ref k7, .ref k20, .ref ww, .ref zt, .ref ps]) := upd_same
        generalize upd G13 m2l (.lst [.ref k0, .ref k1, .ref k2, .ref k3, .ref k7, .ref k20, .ref ww, .ref zt, .ref ps]) = G14 at z14 am2l ⊢
        have aps : G14 ps = some (.tup [.int (ts), .int (bz)]) := z14 _ _ aps
        have NF : NumAt (CN K) G14 tot (0) (1) := NF.same z14
        have aLP : G14 LP = some (.lst rs) := z14 _ _ aLP
        have aww : G14 ww = some (.tup [.int (lowT ((((min 20 x2.toNat : Nat) : Int)) * ts) bz), .int (lowB ((((min 20 x2.toNat : Nat) : Int)) * ts) bz)]) := z14 _ _ aww
        have NTT : NumAt (CN K) G14 tt (lowT ((((min 20 x2.toNat : Nat) : Int)) * ts) bz) (lowB ((((min 20 x2.toNat : Nat) : Int)) * ts) bz) := NTT.same z14
        have ak0 : G14 k0 = some (.tup [.int (ts ^ 0), .int (bz ^ 0)]) := z14 _ _ ak0
        have ak1 : G14 k1 = some (.tup [.int (ts ^ 1), .int (bz ^ 1)]) := z14 _ _ ak1
        have ak2 : G14 k2 = some (.tup [.int (ts ^ 2), .int (bz ^ 2)]) := z14 _ _ ak2
        have ak3 : G14 k3 = some (.tup [.int (ts ^ 3), .int (bz ^ 3)]) := z14 _ _ ak3
        have ak7 : G14 k7 = some (.tup [.int (ts ^ 7), .int (bz ^ 7)]) := z14 _ _ ak7
        have ak20 : G14 k20 = some (.tup [.int (ts ^ 20), .int (bz ^ 20)]) := z14 _ _ ak20
        have NB : NumAt (CN K) G14 nb (ts) (bz) := NB.same z14
        have Q0 : NumAt (CN K) G14 q0 (ts ^ 0) (bz ^ 0) := Q0.same z14
        have Q1 : NumAt (CN K) G14 q1 (ts ^ 1) (bz ^ 1) := Q1.same z14
        have Q2 : NumAt (CN K) G14 q2 (ts ^ 2) (bz ^ 2) := Q2.same z14
        have Q3 : NumAt (CN K) G14 q3 (ts ^ 3) (bz ^ 3) := Q3.same z14
        have Q7 : NumAt (CN K) G14 q7 (ts ^ 7) (bz ^ 7) := Q7.same z14
        have Q20 : NumAt (CN K) G14 q20 (ts ^ 20) (bz ^ 20) := Q20.same z14
        have am1 : G14 m1 = some (.lst [.ref q0, .ref q1, .ref q2, .ref q3, .ref q7, .ref q20, .ref tt, .ref tot, .ref nb]) := z14 _ _ am1
        have azt : G14 zt = some (.tup [.int (0), .int (1)]) := z14 _ _ azt
        have cu : Old a H G14 := cu.trans (Old.same z14)
        have sp : SprAt a G14 := sp.same z14
        have NUM : Nums (CN K) G14 [.ref q0, .ref q1, .ref q2, .ref q3, .ref q7, .ref q20, .ref tt, .ref tot, .ref nb] [(ts ^ 0, bz ^ 0), (ts ^ 1, bz ^ 1), (ts ^ 2, bz ^ 2), (ts ^ 3, bz ^ 3), (ts ^ 7, bz ^ 7), (ts ^ 20, bz ^ 20), (lowT ((((min 20 x2.toNat : Nat) : Int)) * ts) bz, lowB ((((min 20 x2.toNat : Nat) : Int)) * ts) bz), (0, 1), (ts, bz)] := ⟨⟨_, rfl, Q0⟩, ⟨_, rfl, Q1⟩, ⟨_, rfl, Q2⟩, ⟨_, rfl, Q3⟩, ⟨_, rfl, Q7⟩, ⟨_, rfl, Q20⟩, ⟨_, rfl, NTT⟩, ⟨_, rfl, NF⟩, ⟨_, rfl, NB⟩, trivial⟩
        have PRS : Prs G14 [.ref k0, .ref k1, .ref k2, .ref k3, .ref k7, .ref k20, .ref ww, .ref zt, .ref ps] [(ts ^ 0, bz ^ 0), (ts ^ 1, bz ^ 1), (ts ^ 2, bz ^ 2), (ts ^ 3, bz ^ 3), (ts ^ 7, bz ^ 7), (ts ^ 20, bz ^ 20), (lowT ((((min 20 x2.toNat : Nat) : Int)) * ts) bz, lowB ((((min 20 x2.toNat : Nat) : Int)) * ts) bz), (0, 1), (ts, bz)] := ⟨⟨_, rfl, ak0⟩, ⟨_, rfl, ak1⟩, ⟨_, rfl, ak2⟩, ⟨_, rfl, ak3⟩, ⟨_, rfl, ak7⟩, ⟨_, rfl, ak20⟩, ⟨_, rfl, aww⟩, ⟨_, rfl, azt⟩, ⟨_, rfl, aps⟩, trivial⟩
        have okW : ∀ w ∈ [(ts ^ 0, bz ^ 0), (ts ^ 1, bz ^ 1), (ts ^ 2, bz ^ 2), (ts ^ 3, bz ^ 3), (ts ^ 7, bz ^ 7), (ts ^ 20, bz ^ 20), (lowT ((((min 20 x2.toNat : Nat) : Int)) * ts) bz, lowB ((((min 20 x2.toNat : Nat) : Int)) * ts) bz), (0, 1), (ts, bz)], Ok2 w := by
          intro w hw
          simp only [List.mem_cons, List.not_mem_nil, or_false] at hw
          rcases hw with rfl | rfl | rfl | rfl | rfl | rfl | rfl | rfl | rfl
          · exact ⟨Int.pow_pos pbs, sm_sz (sm_pow mts2 (by decide)), sm_sz (sm_pow mbs2 (by decide))⟩
          · exact ⟨Int.pow_pos pbs, sm_sz (sm_pow mts2 (by decide)), sm_sz (sm_pow mbs2 (by decide))⟩
          · exact ⟨Int.pow_pos pbs, sm_sz (sm_pow mts2 (by decide)), sm_sz (sm_pow mbs2 (by decide))⟩
          · exact ⟨Int.pow_pos pbs, sm_sz (sm_pow mts2 (by decide)), sm_sz (sm_pow mbs2 (by decide))⟩
          · exact ⟨Int.pow_pos pbs, sm_sz (sm_pow mts2 (by decide)), sm_sz (sm_pow mbs2 (by decide))⟩
          · exact ⟨Int.pow_pos pbs, sm_sz (sm_pow mts2 (by decide)), sm_sz (sm_pow mbs2 (by decide))⟩
          · exact ok_low bne (sm_sz (Nat.lt_of_le_of_lt (show ((((min 20 x2.toNat : Nat) : Int)) * ts).natAbs ≤ 20 * 4 by rw [Int.natAbs_mul]; exact Nat.mul_le_mul (by omega) mts) (by decide +kernel))) (sm_sz zbs)
          · exact ⟨by decide, by decide +kernel, sz1⟩
          · exact ⟨pbs, sm_sz zts, sm_sz zbs⟩
        have wl : ([(ts ^ 0, bz ^ 0), (ts ^ 1, bz ^ 1), (ts ^ 2, bz ^ 2), (ts ^ 3, bz ^ 3), (ts ^ 7, bz ^ 7), (ts ^ 20, bz ^ 20), (lowT ((((min 20 x2.toNat : Nat) : Int)) * ts) bz, lowB ((((min 20 x2.toNat : Nat) : Int)) * ts) bz), (0, 1), (ts, bz)]).length = 9 := rfl
        generalize [(ts ^ 0, bz ^ 0), (ts ^ 1, bz ^ 1), (ts ^ 2, bz ^ 2), (ts ^ 3, bz ^ 3), (ts ^ 7, bz ^ 7), (ts ^ 20, bz ^ 20), (lowT ((((min 20 x2.toNat : Nat) : Int)) * ts) bz, lowB ((((min 20 x2.toNat : Nat) : Int)) * ts) bz), (0, 1), (ts, bz)] = W at okW NUM PRS wl
        refine ⟨_, rfl, ?_⟩
        refine ⟨m1, rfl, ⟨_, .inl (.inl am1)⟩, fun D1 nD1 => ?_⟩
        refine lc_list (K := K) (a := m1) (xs := [.ref q0, .ref q1, .ref q2, .ref q3, .ref q7, .ref q20, .ref tt, .ref tot, .ref nb]) (fun i H' => Same G14 H' ∧ H' D1 = some (.lst (((W.take i).map tx).map V.str))) ⟨same_upd nD1, upd_same⟩ (fun i H' _ w => .inl (.inl (w.1 _ _ am1))) ?_ ?_
        · rintro i x H' hx ⟨sm, hD⟩
          have hi : i < 1000 := Nat.lt_of_lt_of_le (List.getElem?_eq_some_iff.mp hx).1 (by simp)
          refine ⟨rfl, ?_⟩
          unfold tYes
          dsimp only
          rw [if_pos rfl]
          obtain ⟨w, p', hw, rfl, Np⟩ := (NUM.same sm).get hx
          obtain ⟨dx, hp'⟩ := id Np.at_
          obtain ⟨ok1, ok2, ok3⟩ := okW w (List.mem_of_getElem? hw)
          refine ⟨_, rfl, p', dx, _, rfl, hp', p', w.1, w.2, rfl, Np, ok2, ok3, _, rfl, _, hD, ?_, same_upd' sm nD1, ?_⟩
          · rw [List.length_map, List.length_map, List.length_take]; exact small1000 (by omega)
          · rw [upd_same, take_tx hw]
        · rintro Y1 ⟨sY1, aD1⟩
          have am1 : Y1 m1 = some (.lst [.ref q0, .ref q1, .ref q2, .ref q3, .ref q7, .ref q20, .ref tt, .ref tot, .ref nb]) := sY1 _ _ am1
          have am2l : Y1 m2l = some (.lst [.ref k0, .ref k1, .ref k2, .ref k3, .ref k7, .ref k20, .ref ww, .ref zt, .ref ps]) := sY1 _ _ am2l
          have cu : Old a H Y1 := cu.trans (Old.same sY1)
          have sp : SprAt a Y1 := sp.same sY1
          have PRS := PRS.same sY1
          have aD1 : Y1 D1 = some (.lst ((W.map tx).map V.str)) := by
            have e : W.take 9 = W := by rw [← wl]; exact List.take_length
            rw [aD1]
            show some (HO.lst (((W.take 9).map tx).map V.str)) = _
            rw [e]
          refine ⟨_, rfl, ?_⟩
          refine ⟨m2l, rfl, ⟨_, .inl (.inl am2l)⟩, fun D2 nD2 => ?_⟩
          refine lc_list (K := K) (a := m2l) (xs := [.ref k0, .ref k1, .ref k2, .ref k3, .ref k7, .ref k20, .ref ww, .ref zt, .ref ps]) (fun i H' => Same Y1 H' ∧ H' D2 = some (.lst (((W.take i).map tx).map V.str))) ⟨same_upd nD2, upd_same⟩ (fun i H' _ w => .inl (.inl (w.1 _ _ am2l))) ?_ ?_
          · rintro i x H' hx ⟨sm, hD⟩
            have hi : i < 1000 := Nat.lt_of_lt_of_le (List.getElem?_eq_some_iff.mp hx).1 (by simp)
            refine ⟨rfl, ?_⟩
            unfold tYes
            dsimp only
            rw [if_pos rfl]
            obtain ⟨w, p', hw, rfl, Np⟩ := (PRS.same sm).get hx
            obtain ⟨ok1, ok2, ok3⟩ := okW w (List.mem_of_getElem? hw)
            refine ⟨_, rfl, p', w.1, w.2, rfl, Np, ok1, ok2, ok3, fun H7 s7 => ⟨_, s7 _ _ hD, ?_, same_upd' (sm.trans s7) nD2, ?_⟩⟩
            · rw [List.length_map, List.length_map, List.length_take]; exact small1000 (by omega)
            · rw [upd_same, take_tx hw]
          · rintro Y2 ⟨sY2, aD2⟩
            have am1 : Y2 m1 = some (.lst [.ref q0, .ref q1, .ref q2, .ref q3, .ref q7, .ref q20, .ref tt, .ref tot, .ref nb]) := sY2 _ _ am1
            have am2l : Y2 m2l = some (.lst [.ref k0, .ref k1, .ref k2, .ref k3, .ref k7, .ref k20, .ref ww, .ref zt, .ref ps]) := sY2 _ _ am2l
            have aD1 : Y2 D1 = some (.lst ((W.map tx).map V.str)) := sY2 _ _ aD1
            have cu : Old a H Y2 := cu.trans (Old.same sY2)
            have sp : SprAt a Y2 := sp.same sY2
            have aD2 : Y2 D2 = some (.lst ((W.map tx).map V.str)) := by
              have e : W.take 9 = W := by rw [← wl]; exact List.take_length
              rw [aD2]
              show some (HO.lst (((W.take 9).map tx).map V.str)) = _
              rw [e]
            refine ⟨_, _, dp_strs (xs := W.map tx) aD1, dp_strs (xs := W.map tx) aD2, shaped_strs (tx_asc _), shaped_strs (tx_asc _), ?_⟩
            show Q (.bl _) _
            rw [eqv_strs]
            exact k _ cu sp
end
end K02

namespace K02
open PySem PySem.Spec PyProof.Rows L2 Hk NumM NumT SX
abbrev N_law : List Str := ["_law_script", "_law_spot", "_law_spring_here", "_law_turn"]
def spLaw (K : Fr) : Sp := fun vs H Q _ => ∃ (a : Addr) (ns : List Int), vs = [.ref a] ∧ SqL K H a (ns.map V.int) ∧ ns.length ≤ 63 ∧ ∀ H' : Hp, Q (.bl true) H'
section
variable {P : Program} {w : World} {K : Fr} {mg : Str → Option Value} {base : Heap}
theorem g_law_ok (T : Tx K mg) {fd : FuncData} (D : DAt K d_law fd) : FnG P w K mg base 9 (d_law.ad K) fd ["_law_script"] (spLaw K) := by
  have C_l_spring := c_spring (P := P) (w := w) (base := base) T
  have C_l_right := c_right (P := P) (w := w) (base := base) T
  refine okg_of (N := N_law) D sc_law (fun vs H Q E h => ?_) (fun cdv A outer s H vs Q E hr hc h => ?_)
  · obtain ⟨a, ns, rfl, _⟩ := h
    rfl
  · obtain ⟨a, ns, rfl, hS, hn, k⟩ := h
    have r1 : Room 1 _ := hr.mono (by decide)
    refine ⟨_, (pss_cons (ps_for PassesOwn.never rfl (pi_range1 (by rfl) (n_range T) (pa_cons (pe_callB (call_max2 rfl) (by rfl) (n_max T) bo_max (pa_cons pe_int (pa_cons (pe_callB (call_min2 rfl) (by rfl) (n_min T) bo_min (pa_cons (pe_callB call_len_seq (by rfl) (n_len T) bo_len (pa_cons (pv 0) pa_nil)) (pa_cons pe_int pa_nil))) pa_nil))) pa_nil)) (pg_name (i := 1) sc_law.nd rfl (.inl rfl))
 (pss_cons (ps_set (i := 2) sc_law.nd rfl (.inr rfl) (pe_c C_l_spring r1 (pa_cons (pv 0) (pa_cons (pv 1) pa_nil))))
 (pss_one (ps_if (pt_not (pt_val (pe_callB (cr_all rfl) (by rfl) (n_all T) bo_all (pa_cons (pe_lc (own := [("_law_turn", 3)]) (g := gName 3) (tt := tYes) rfl sc_law.nd (pi_range1 (by rfl) (n_range T) (pa_cons pe_int pa_nil)) (blkOk_by (N := N_law) (sc := defScope s_law) (by decide +kernel)) (fun _ _ _ _ _ => pg_name (i := 3) sc_law.nd rfl (.inl rfl)) (fun _ _ _ _ _ => pts_nil) (fun _ _ _ _ _ => (pe_c C_l_right hr (pa_cons (pv 2) pa_nil)))) pa_nil))))
 (pss_one (ps_ret pe_bl))
 pss_nil))))
 (pss_one (ps_ret pe_bl))), ?_⟩
    have hlen : ((ns.map V.int).length : Int) = (ns.length : Int) := by rw [List.length_map]
    refine ⟨_, rfl, a, _, rfl, .inl hS, _, _, rfl, _, _, rfl, _, rfl, ?_⟩
    rw [hlen]
    generalize hm : (if (if (5 : Int) < (ns.length : Int) then (5 : Int) else (ns.length : Int)) > 2 then (if (5 : Int) < (ns.length : Int) then (5 : Int) else (ns.length : Int)) else (2 : Int)) = m
    have hm2 : m ≤ 5 ∧ 0 ≤ m := by rw [← hm]; split <;> (try split) <;> omega
    refine ⟨by omega, by omega, ?_⟩
    refine for_range (lo := 0) (n := m.toNat) (fun i σ H' => Same H H' ∧ ∃ x y z : Option V, σ = [some (.ref a), x, y, z]) ⟨Same.refl H, none, none, none, rfl⟩ ?_ ?_
    · rintro i σ H' hi ⟨s1, x, y, z, rfl⟩
      have e0 : (0 : Int) + (i : Int) = ((i : Nat) : Int) := by omega
      rw [e0]
      refine ⟨_, rfl, _, rfl, a, ns, i, rfl, s1.seq hS, hn, by omega, fun p d e c np sp => ?_⟩
      have sp0 : SprAt p (upd H' p (.lst (sprL d e c))) := ⟨d, e, c, upd_same, sp⟩
      have so : Same H' (upd H' p (.lst (sprL d e c))) := same_upd np
      generalize upd H' p (HO.lst (sprL d e c)) = H2 at *
      refine ⟨2, rfl, by decide, by decide, fun D nD => ?_⟩
      refine lc_range (lo := 0) (n := 2) (fun j H3 => Old p H2 H3 ∧ SprAt p H3 ∧ H3 D = some (.lst (List.replicate j (.bl true)))) ⟨Old.new nD, sp0.same (same_upd nD), upd_same⟩ ?_ ?_
      · rintro j H3 hj ⟨o3, s3, hD⟩
        have pD : p ≠ D := sp0.ne nD
        refine ⟨rfl, ?_⟩
        unfold tYes
        dsimp only
        rw [if_pos rfl]
        refine ⟨_, rfl, p, rfl, s3, fun H4 o4 s4 => ⟨_, o4 _ _ hD (Ne.symm pD), ?_, ?_, ?_, ?_⟩⟩
        · rw [List.length_replicate]
          exact small1000 (by omega)
        · intro b u hb hn
          rw [upd_ne (ne_of_none hb nD)]
          exact o4 _ _ (o3 _ _ hb hn) hn
        · obtain ⟨d', e', c', g1, g2⟩ := s4
          exact ⟨d', e', c', by rw [upd_ne pD]; exact g1, g2⟩
        · rw [upd_same, List.replicate_succ']
      · rintro H3 ⟨o3, s3, hD⟩
        refine ⟨D, [true, true], rfl, .inl (.inl hD), true, rfl, iteF ?_⟩
        refine ⟨fun b u hb => ?_, _, _, _, rfl⟩
        have hb2 := s1 _ _ hb
        exact o3 _ _ (so _ _ hb2) (ne_of_none hb2 np)
    · rintro σ H' ⟨_, x, y, z, rfl⟩
      exact k H'
end
theorem facts {P : Program} {w : World} {K : Fr} {h : Heap} {mg : Str → Option Value} {f : Addr} (X : K.In h) (G : h.Ns mainGlobals mg) (hfa : mg ("law" : Str) = some (.ref f)) (c : Sy K) :
    ∃ fd : FuncData, (∀ (s : Shared) (u : Value), BindsTo s fd ⟨[u], []⟩ [("_law_script", u)]) ∧ ∀ base : Heap, K.In base → base.Ns mainGlobals mg → FnG P w K mg base 9 f fd ["_law_script"] (spLaw K) := by
  have T : Tx K mg := ⟨c, h, X, G⟩
  obtain ⟨fd, D⟩ := a_law c
  have e := hfa.symm.trans (g_law T)
  cases e
  have b := FunD.bindsA (ps := ["_law_script"]) D fun _ _ _ _ _ _ us hl => match us, hl with | [_], _ => rfl
  exact ⟨fd, fun s u => b s [u] rfl, fun base _ _ => g_law_ok T D⟩
end K02

namespace K02
open PySem PySem.Spec PyProof.Rows L2 Hk
theorem run (w : World) : HeadRun.RunEqI R qv hk ob 4500 loose w := by
  unfold HeadRun.RunEqI
  kernel_rfl
end K02

open PySem PySem.W PySem.Calls PyProof.Rows
theorem PySem.Challenge.cw_delaynets_k02_arithmetic_holds : PySem.Challenge.rw_delaynets_k02_arithmetic.Holds := by
  w_on; o_law
  refine HeadRun.head_imp (r := OpenLaw.row PySem.Challenge.rw_delaynets_k02_arithmetic) (q := K02.qv) (H := K02.hk) (ob := K02.ob) (M := 4500) (loose := K02.loose) (d := HandSHeadRun.topDef (OpenLaw.row PySem.Challenge.rw_delaynets_k02_arithmetic).prog K02.lawAt) (kwd := []) K02.ob_eq
    K02.run (by kernel_rfl) (by kernel_rfl) (by kernel_rfl) (by rfl) (by first | assumption | decide +kernel) (by decide +kernel) ⟨rfl, rfl, rfl, rfl, rfl, by decide +kernel⟩ ?hw ?hc
  case hw => w_witness2
  case hc =>
    refine Hk.end_g (l := PySem.Challenge.rw_delaynets_k02_arithmetic) (k := 9) (x := "_law_script") rfl (by kernel_rfl) ⟨rfl, by decide, by decide⟩ ?F
    intro w mg fa h Y G hmg0
    obtain ⟨K, KX, c⟩ := Y
    have hmg : mg ("law" : PySem.Str) = some (.ref fa) := by
      have e : (HandSHeadRun.topDef (OpenLaw.row PySem.Challenge.rw_delaynets_k02_arithmetic).prog K02.lawAt).name = ("law" : PySem.Str) := by kernel_rfl
      rw [← e]
      exact hmg0
    obtain ⟨fd, hb, hF⟩ := K02.facts (P := (PySem.Challenge.rw_delaynets_k02_arithmetic).prog) (w := w) KX G hmg c
    exact ⟨K, fd, K02.spLaw K, KX, hb, fun H a ns hl _ hS => ⟨a, ns, rfl, hS, hl, fun _ => rfl⟩, hF⟩
#print axioms PySem.Challenge.cw_delaynets_k02_arithmetic_holds

