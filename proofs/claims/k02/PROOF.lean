import PyProof.Rows.All
import Wide.All
import OpenK.AllK
import Wide.FinOn
import KE.KStateDown
import HandS.ForMost
import HandS.ForExc
import HandS.Defaults
import HandS.Gcd
import HandS.Wide
import HandS.IsInst
import HandS.ExcIs
import HandS.HotCalls
import HandS.TupLen
import HandS.Head0
import HandS.Head1
import HandS.Head2
import HandS.Head3
import HandS.HeadEnd
import HandS.HeadHook1
import HandS.HeadHook2
import HandS.HeadHook3
import HandS.HeadHook4
import PySem.Challenge.RW_landlines_k02_fences
set_option Elab.async false
set_option linter.all false
set_option maxRecDepth 100000
set_option maxHeartbeats 4000000

namespace LL
open PySem PySem.Spec PySem.Calls PyProof.Rows L2
/-! ### a def of the top, by its name -/
abbrev FnP (K : PySem.W.Frag) (x : Str) (st : Stmt) (fd : FuncData) : Prop := FunD K x x (defArgs st) (defBody st) (defScope st) [] [] (He.ga K x) fd
/-- the def x keeps the promise sp -/
structure Good (P : Program) (w : World) (K : PySem.W.Frag) (mg : Str → Option Value) (base : Heap) (CX : CXT) (k : Nat) (x : Str) (ps : List Str) (sp : Sp) : Prop where
  g : mg x = some (.ref (He.ga K x))
  kp : PySem.W.keepIn K (.ref (He.ga K x)) = true
  ex : ∃ fd, Binds K fd ps [] ∧ FnOk P w K mg base CX k (He.ga K x) fd ps sp
section
variable {X : Cx} {k : Nat} {x : Str} {ps : List Str} {sp : Sp} {e : Expr} {es : List Expr} {t : TA} {p pos : Pos}
/-- a call of a def that lets nothing out -/
theorem pe_own (C : Good X.prog X.w X.K X.mg X.base CX0 k x ps sp) (hr : Room k X.A) (hg : Gl X x) (ha : PA X (e :: es) t) (hdb : (x == ("__debug__" : Str)) = false := by decide)
    (he : starEach (e :: es) X.env = (false, eval e X.env) :: starEach es X.env := by rfl) (hpl : (backTo pos (starEach es X.env)).any (·.1) = false := by rfl) :
    PE X (.Call (.Name x p) (e :: es) [] pos) (tCall sp [] E0 t) := by
  obtain ⟨fd, b, G⟩ := C.ex
  exact pe_call G hr hg C.g C.kp b .nil pass0 ha hdb he hpl
/-- a call of a def that might let an error out, where it lets none out -/
theorem pe_ownL (C : Good X.prog X.w X.K X.mg X.base (L2.CX X.prog X.w) k x ps sp) (hr : Room k X.A) (hg : Gl X x) (ha : PA X (e :: es) t) (hdb : (x == ("__debug__" : Str)) = false := by decide)
    (he : starEach (e :: es) X.env = (false, eval e X.env) :: starEach es X.env := by rfl) (hpl : (backTo pos (starEach es X.env)).any (·.1) = false := by rfl) :
    PE X (.Call (.Name x p) (e :: es) [] pos) (tCall sp [] E0 t) := by
  obtain ⟨fd, b, G⟩ := C.ex
  exact pe_call G hr hg C.g C.kp b .nil passL ha hdb he hpl
/-- .. where an error goes on its way -/
theorem pe_ownR {W : WX} {E : XK} (C : Good X.prog X.w X.K X.mg X.base (L2.CX X.prog X.w) k x ps sp) (hr : Room k X.A) (tk : Takes X W) (hW : ∀ cls d σ H, E cls d H → W cls d σ H) (hg : Gl X x) (ha : PA X (e :: es) t) (hdb : (x == ("__debug__" : Str)) = false := by decide)
    (he : starEach (e :: es) X.env = (false, eval e X.env) :: starEach es X.env := by rfl) (hpl : (backTo pos (starEach es X.env)).any (·.1) = false := by rfl) :
    PE X (.Call (.Name x p) (e :: es) [] pos) (tCall sp [] E t) := by
  obtain ⟨fd, b, G⟩ := C.ex
  exact pe_call G hr hg C.g C.kp b .nil (passes_call tk hW) ha hdb he hpl
/-- .. in a try -/
theorem pe_ownS {W : WX} (C : Good X.prog X.w X.K X.mg X.base (L2.CX X.prog X.w) k x ps sp) (hr : Room k X.A) (tk : Takes X W) (hg : Gl X x) (ha : PA X (e :: es) t) (hdb : (x == ("__debug__" : Str)) = false := by decide)
    (he : starEach (e :: es) X.env = (false, eval e X.env) :: starEach es X.env := by rfl) (hpl : (backTo pos (starEach es X.env)).any (·.1) = false := by rfl) :
    PE X (.Call (.Name x p) (e :: es) [] pos) (tCallS sp (WE W) t) := by
  obtain ⟨fd, b, G⟩ := C.ex
  exact pe_callS G hr hg C.g C.kp b (fun σ => passAt tk σ) ha hdb he hpl
end
/-- what the facts of the head say of a def -/
theorem FnP.mk {fa : List He.Fa} {fn : List He.DefD} {K : PySem.W.Frag} (c : He.SaysD fa fn K) {x : Str} {st : Stmt} (h : (⟨(x, none), x, x, defArgs st, defBody st, defScope st, [], []⟩ : He.DefD) ∈ fn) : ∃ fd, FnP K x st fd := by
  obtain ⟨fd, F⟩ := c.defs h
  exact ⟨fd, F⟩
/-! ### math.gcd of three -/
theorem args_gcd3 (a b c : Value) : argsOk "math.gcd" ⟨[a, b, c], []⟩ := by unfold argsOk; kernel_rfl
theorem run_gcd3 (a : Int) (t : Tok) (b : Int) (u : Tok) (c : Int) (v : Tok) : Gives (Builtin.«math.gcd» ⟨[.int a t, .int b u, .int c v], []⟩) (.int (((((Nat.gcd 0 a.natAbs).gcd b.natAbs).gcd c.natAbs : Nat) : Int))) :=
  .of_wp fun M A E s Q h => by
    obtain ⟨hp, g, d, tk, os⟩ := s
    wp_walk
    exact ⟨_, rfl, h⟩
def rGcd3 : List V → Hp → VK → Prop := fun vs H Q => ∃ a b c : Int, vs = [.int a, .int b, .int c] ∧ Q (.int (((Nat.gcd a.natAbs b.natAbs).gcd c.natAbs : Nat) : Int)) H
theorem call_gcd3 {X : Cx} : CallR X (.builtin "math.gcd") rGcd3 := by
  intro pins s σ H vs us Q I r h
  obtain ⟨a, b, c, rfl, q⟩ := h
  cases r with
  | cons ra r =>
    obtain ⟨t, rfl⟩ := ra
    cases r with
    | cons rb r =>
      obtain ⟨u, rfl⟩ := rb
      cases r with
      | cons rc r =>
        obtain ⟨v, rfl⟩ := rc
        cases r
        have g := run_gcd3 a t b u c v
        rw [Nat.gcd_zero_left] at g
        exact call_function_meets PySem.W.MGF.kind_gcd PySem.W.MGF.plain_gcd PySem.W.MGF.entry_gcd (args_gcd3 _ _ _) g.meets ⟨.int _, H, I.tok _, ⟨_, rfl⟩, q⟩
end LL

namespace LL
open PySem PySem.Spec PySem.Calls PyProof.Rows L2
/-! ### isinstance of a pinned exception -/
theorem call_isP {X : Cx} {a D : Addr} {oe : Obj} (C : ExcC X.K D) (hp : (a, oe) ∈ X.pn) (hz : Zc (.ref D) none oe) (hf : ∃ vs, oe.data = .fields vs) : CallR X (.builtin "isinstance") (rIsE X.K D a) := by
  intro pins s σ H xs us Q I r h
  obtain ⟨c, cv, b, rfl, hcv, hb, q⟩ := h
  cases r with
  | cons rx r2 =>
    cases r2 with
    | cons rc r3 =>
      cases r3
      cases rx
      cases hcv _ rc
      have P1 := (I.pin (a, oe) (List.mem_append_left _ hp)).1
      have J : PySem.W.InstAt s.heap a oe D none := by
        obtain ⟨vs, hv⟩ := hf
        rcases oe with ⟨o1, o2, o3, o4⟩
        rcases hz with ⟨z1, z2⟩
        simp only at z1 z2 hv
        subst z1; subst z2; subst hv
        exact ⟨P1, rfl, rfl, trivial⟩
      have kit := PySem.W.handS_kitx_exc (x := a) (ox := oe) C.hg C.hk C.hs C.hd C.ha C.hn C.ht C.hm
      exact PySem.W.kia_one kit I.kIn J hb (fun z => by cases z) fun tk => ⟨V.bl b, H, I.kept (t' := tk) (fun _ _ z => z), rfl, q⟩
/-! ### a def that is handed the exception which its caller's suite holds -/
/-- what it promises: handed an error of the class at D, it hands back the text ans, and nothing that is tracked changes -/
structure Tells (P : Program) (w : World) (K : PySem.W.Frag) (mg : Str → Option Value) (base : Heap) (x : Str) (D : Addr) (ans : Str) : Prop where
  ex : ∃ (fd : FuncData) (y : Str), Binds K fd [y] [] ∧ ∀ (A : Around) (outer : List Env) (s : Shared) (H : Hp) (args : Args) (p : Addr × Obj) (Q : VK) (E : XK), A.depth < recursionLimit → L2H.PinOk outer H s p → Zc (.ref D) none p.2 → (∃ vs, p.2.data = .fields vs) →
    Env0 P w K mg base A outer s H → BindsTo s fd args ([y].zip [.ref p.1]) → Q (.str ans) H → codeAny (model P w) A (.call (.ref (He.ga K x)) args) (CR CX0 outer P w H s Q E) s
/-- a def's body, run with the exception pinned -/
theorem tells_run {P : Program} {w : World} {K : PySem.W.Frag} {mg : Str → Option Value} {base : Heap} {f : Addr} {name qual : Str} {params : Arguments} {body : List Stmt} {scope : Scope} {dV kV doc pm cdv ct oc : Value} {an od : Option Addr}
    {osl : Array (Option Value)} {N ps : List Str} {A : Around} {outer : List Env} {s : Shared} {H : Hp} {args : Args} {us : List Value} {vs : List V} {Q : VK} {E : XK} {p : Addr × Obj}
    (lk : K.lookup f = some ⟨oc, od, .func (PySem.W.fnOf name qual params body scope dV kV doc pm an cdv ct), osl⟩) (hcd : PySem.W.codeIn K cdv qual = true) (S : FnScope N ps scope) (hl : vs.length = ps.length) (room : A.depth < recursionLimit)
    (hpin : L2H.PinOk outer H s p) (e0 : Env0 P w K mg base A outer s H) (hb : BindsTo s (PySem.W.fnOf name qual params body scope dV kV doc pm an cdv ct) args (ps.zip us)) (r : Vals vs us)
    {t : TS} (ht : PSs (L2H.cxH CX0 P w K mg base N qual scope f cdv A outer s H E p) body t) (hq : t { nx := fun _ H' => Q .non H', rt := Q } (start N vs) H) :
    codeAny (model P w) A (.call (.ref f) args) (CR CX0 outer P w H s Q E) s := by
  have here : ∀ b o, base.get? b = some o → s.heap.get? b = some o := fun b o z => (e0.bs b o z).1
  have kin := e0.mod.kin.keeps here
  have hk : ∀ y ∈ ps.zip us, scope.names.lookup y.1 = some .local ∨ (scope.names.lookup y.1 = some .cell ∧ ((cellsFrom (s.heap.objs.size + 1) scope.names []).lookup y.1).isSome = true) := by
    intro y hy
    have hy1 : y.1 ∈ ps := (List.of_mem_zip (a := y.1) (b := y.2) hy).1
    cases S.par y.1 hy1 with
    | inl z => exact Or.inl z
    | inr z => exact Or.inr ⟨z, PySem.W.cellsFrom_some _ _ _ (Or.inl z)⟩
  apply codeAny_call_function room (kin _ _ lk) rfl S.co S.gen rfl (PySem.W.codeRec_of kin hcd)
  apply hb
  apply wpAny_newFunctionEnv_cells S.kind hk
  rintro env rfl s1 x
  refine ⟨(e0.mod.nolimit.keeps here).keeps x.toInCall.keep, ?_⟩
  apply codeAny_func
  have I := L2H.inv_startH (CX := CX0) (E := E) S hpin e0 hl r x
  refine wpAny_mono (ht.run [] s1 _ H _ I hq) ?_ (fun e s' z => z)
  have back : ∀ {σ' : L2.St} {H' : Hp} {v : V} {u : Value} {s' : Shared}, Inv (L2H.cxH CX0 P w K mg base N qual scope f cdv A outer s H E p) [] σ' H' s' → RelV v u → Q v H' → CE outer P w H s Q u s' := by
    intro σ' H' v u s' J rv q
    exact ⟨v, H', J.os, J.bare, J.base, J.hok, rv, q⟩
  intro fl s' hs
  match fl, hs with
  | .ret u, ⟨v, σ', H', J, rv, q⟩ => exact back J rv q
  | .next, ⟨σ', H', J, q⟩ => exact back (v := V.non) (u := Value.none) J rfl q
  | .brk, ⟨_, _, _, q⟩ => exact q.elim
  | .cont, ⟨_, _, _, q⟩ => exact q.elim
/-- f(e), e the exception that the suite holds (at a; its class cls, its dict d) -/
def tTell (P : Program) (w : World) (K : PySem.W.Frag) (mg : Str → Option Value) (base : Heap) (x : Str) (a : Addr) (cls : Value) (d : Option Addr) (ta : TA) : TE := fun σ H Q => ta σ H fun vs H1 => vs = [.ref a] ∧ d = none ∧ ∃ (D : Addr) (ans : Str), cls = .ref D ∧ Tells P w K mg base x D ans ∧ Q (.str ans) H1
theorem pe_tell {X : Cx} {a : Addr} {oe : Obj} {cls : Value} {d : Option Addr} {pn : List (Addr × Obj)} {x : Str} {e : Expr} {ta : TA} {p pos : Pos} (hm : X.mg x = some (.ref (He.ga X.K x))) (hk : PySem.W.keepIn X.K (.ref (He.ga X.K x)) = true)
    (hz : Zc cls d oe) (hf : ∃ vs, oe.data = .fields vs) (room : X.A.depth < recursionLimit) (hg : Gl X x)
    (ha : PA (X.suite a ((a, oe) :: pn)) [e] ta) (hdb : (x == ("__debug__" : Str)) = false := by decide) (hst : starEach [e] X.env = (false, eval e X.env) :: starEach [] X.env := by rfl) (hpl : (backTo pos (starEach [] X.env)).any (·.1) = false := by rfl) :
    PE (X.suite a ((a, oe) :: pn)) (.Call (.Name x p) [e] [] pos) (tTell X.prog X.w X.K X.mg X.base x a cls d ta) := by
  refine ⟨fun pins s σ H Q I h => ?_⟩
  refine wpAny_Call_Name_kw (ld_glob (X := X.suite a ((a, oe) :: pn)) I hg hm ?_ hdb)
  refine PySem.W.callWith_K (h₀ := X.base) I.ok.mod.kin hk (thn (ha.run pos pins s σ H _ I h) ?_) hst hpl
  rintro us s1 ⟨vs, H1, I1, r, rfl, rfl, D, ans, rfl, T, q⟩
  refine ⟨I1.kIn, ?_⟩
  obtain ⟨fd, y, b, run⟩ := T.ex
  cases r with
  | cons r1 r2 =>
    cases r2
    cases r1
    have P1 := I1.pin (a, oe) (List.mem_append_left _ List.mem_cons_self)
    have pin : L2H.PinOk (X.suite a ((a, oe) :: pn)).stack H1 s1 (a, oe) := by
      refine ⟨P1.1, P1.2.1, fun hm => ?_, P1.2.2.2.2⟩
      cases List.mem_cons.mp (I1.stkSub a hm) with
      | inl z => exact P1.2.2.1 z
      | inr z => exact P1.2.2.2.1 z
    have b1 := b s1 [.ref a] I1.kIn rfl
    refine wpAny_call (codeAny_mono (run _ _ s1 H1 _ (a, oe) Q E0 room pin hz hf I1.env0 b1 q) ?_)
    intro r s' hq
    match r, hq with
    | .ok (.ret u), hq => exact I1.after hq
/-! ### an error's class -/
structure ExcF (K : PySem.W.Frag) (mg : Str → Option Value) (n : Str) : Prop where
  g : mg n = some (.ref (He.ga K n))
  x : PySem.W.excIn K (He.ga K n) He.veBase "ValueError.__new__" = true
  k : PySem.W.keepIn K (.ref (He.ga K n)) = true
  b : PySem.W.subIn K (.ref (He.ga K n)) (.type "BaseException") = some true
  t : PySem.W.typeIn K (.ref (He.ga K n)) = some (.type "type")
theorem ExcF.mk' {K : PySem.W.Frag} {h : Heap} {mg : Str → Option Value} (X : K.In h) (G : h.Ns mainGlobals mg) {x : Str} (c1 : (He.Fa.glo x).ok K = true) (c2 : (He.Fa.exc x).ok K = true) : ExcF K mg x := by
  obtain ⟨h1, h2, h3, h4⟩ := He.exc_ok c2
  exact ⟨He.glo_ok X G c1, h1, h2, h3, h4⟩
/-! ### what isinstance asks of an error of the class at D -/
def excCB (K : PySem.W.Frag) (D : Addr) : Bool := He.eqO (PySem.W.findIn K (.ref D) "__getattribute__") (some (some (.builtin "BaseException.__getattribute__"))) && (He.eqO (PySem.W.findIn K (.ref D) "__getattr__") (some none) &&
  (decide (PySem.W.subIn K (.ref D) (.type "BaseException") = some true) && (PySem.W.hasDictIn K D && (He.eqO (PySem.W.findIn K (.ref D) "__class__") (some (some (.builtin "object.__class__"))) &&
  (He.eqO (PySem.W.specialIn K (.builtin "object.__class__") "__get__") (some (some (.builtin "getset_descriptor.__get__"))) && (decide (PySem.W.takesIn K (.builtin "object.__class__") = some true) && decide (PySem.W.mroIn K D (.type "object") = some true)))))))
theorem excCB_ok {K : PySem.W.Frag} {D : Addr} (h : excCB K D = true) : ExcC K D := by
  obtain ⟨h1, h⟩ := He.ba h
  obtain ⟨h2, h⟩ := He.ba h
  obtain ⟨h3, h⟩ := He.ba h
  obtain ⟨h4, h⟩ := He.ba h
  obtain ⟨h5, h⟩ := He.ba h
  obtain ⟨h6, h⟩ := He.ba h
  obtain ⟨h7, h8⟩ := He.ba h
  exact ⟨He.eqO_ok h1, He.eqO_ok h2, of_decide_eq_true h3, h4, He.eqO_ok h5, He.eqO_ok h6, of_decide_eq_true h7, of_decide_eq_true h8⟩
/-- isinstance's answers for an error of the class x: own classes by name, ValueError -/
def kitsB (K : PySem.W.Frag) (x : Str) (ys : List (Str × Bool)) : Bool := excCB K (He.ga K x) && (decide (PySem.W.kitOne K (.ref (He.ga K x)) (.type "ValueError") = some true) && ys.all fun y => decide (PySem.W.kitOne K (.ref (He.ga K x)) (.ref (He.ga K y.1)) = some y.2))
structure KitsF (K : PySem.W.Frag) (x : Str) (ys : List (Str × Bool)) : Prop where
  c : ExcC K (He.ga K x)
  v : PySem.W.kitOne K (.ref (He.ga K x)) (.type "ValueError") = some true
  y : ∀ y ∈ ys, PySem.W.kitOne K (.ref (He.ga K x)) (.ref (He.ga K y.1)) = some y.2
theorem KitsF.mk' {K : PySem.W.Frag} {x : Str} {ys : List (Str × Bool)} (h : kitsB K x ys = true) : KitsF K x ys := by
  obtain ⟨h1, h⟩ := He.ba h
  obtain ⟨h2, h3⟩ := He.ba h
  exact ⟨excCB_ok h1, of_decide_eq_true h2, fun y hy => of_decide_eq_true (List.all_eq_true.mp h3 y hy)⟩
/-- the module's name x is this built-in -/
def bltB (K : PySem.W.Frag) (x : Str) (id : String) : Bool := He.eqO (PySem.W.nsIn K mainGlobals x) (some (some (.builtin id)))
theorem bltB_ok {K : PySem.W.Frag} {h : Heap} {mg : Str → Option Value} (X : K.In h) (G : h.Ns mainGlobals mg) {x : Str} {id : String} (c : bltB K x id = true) : mg x = some (.builtin id) := PySem.W.mg_of X G (He.eqO_ok c)
/-! ### values: their kinds -/
/-- what a caller hands in: a number, a truth, a text, None, a tuple, a list, a dict -/
inductive Arg (H : Hp) : V → Prop where
  | int (i : Int) : Arg H (.int i)
  | bl (b : Bool) : Arg H (.bl b)
  | str (z : Str) : Arg H (.str z)
  | non : Arg H .non
  | tup {a : Addr} {xs : List V} (e : H a = some (.tup xs)) : Arg H (.ref a)
  | lst {a : Addr} {xs : List V} (e : H a = some (.lst xs)) : Arg H (.ref a)
  | dK {a : Addr} {xs : List (Key × V)} (e : H a = some (.dK xs)) : Arg H (.ref a)
/-- a whole number, and no truth -/
def isNum : V → Bool
  | .int _ => true
  | _ => false
theorem Arg.num {K : PySem.W.Frag} {H : Hp} {v : V} (a : Arg H v) : ∃ (t : Value) (b1 b2 : Bool), TyX K H v t ∧ PySem.W.kitOne K t (.type "int") = some b1 ∧ PySem.W.kitOne K t (.type "bool") = some b2 ∧ (b1 && !b2) = isNum v := by
  cases a with
  | int i => exact ⟨_, true, false, .base (.int i), kit_ty (by decide +kernel), kit_ty (by decide +kernel), rfl⟩
  | bl b => exact ⟨_, true, true, .base (.bl b), kit_ty (by decide +kernel), kit_ty (by decide +kernel), rfl⟩
  | str z => exact ⟨_, false, false, .base (.str z), kit_ty (by decide +kernel), kit_ty (by decide +kernel), rfl⟩
  | non => exact ⟨_, false, false, .base .non, kit_ty (by decide +kernel), kit_ty (by decide +kernel), rfl⟩
  | tup e => exact ⟨_, false, false, .base (.tup e), kit_ty (by decide +kernel), kit_ty (by decide +kernel), rfl⟩
  | lst e => exact ⟨_, false, false, .base (.lst e), kit_ty (by decide +kernel), kit_ty (by decide +kernel), rfl⟩
  | dK e => exact ⟨_, false, false, .base (.dK e), kit_ty (by decide +kernel), kit_ty (by decide +kernel), rfl⟩
/-- isinstance(x, tuple), isinstance(x, list) -/
def isTup (H : Hp) : V → Bool
  | .ref a => (match H a with | some (.tup _) => true | _ => false)
  | _ => false
theorem Arg.tuple {K : PySem.W.Frag} {H : Hp} {v : V} (a : Arg H v) : ∃ (t : Value), TyX K H v t ∧ PySem.W.kitOne K t (.type "tuple") = some (isTup H v) := by
  cases a with
  | int i => exact ⟨_, .base (.int i), kit_ty (r := false) (by decide +kernel)⟩
  | bl b => exact ⟨_, .base (.bl b), kit_ty (r := false) (by decide +kernel)⟩
  | str z => exact ⟨_, .base (.str z), kit_ty (r := false) (by decide +kernel)⟩
  | non => exact ⟨_, .base .non, kit_ty (r := false) (by decide +kernel)⟩
  | tup e => exact ⟨_, .base (.tup e), by simp only [isTup, e]; exact kit_ty (by decide +kernel)⟩
  | lst e => exact ⟨_, .base (.lst e), by simp only [isTup, e]; exact kit_ty (by decide +kernel)⟩
  | dK e => exact ⟨_, .base (.dK e), by simp only [isTup, e]; exact kit_ty (by decide +kernel)⟩
end LL

namespace LL
open PySem PySem.Spec PySem.Calls PyProof.Rows L2
/-! ### promises and readings of small defs -/
/-- is this a whole number, and no truth -/
def sp_num : Sp := fun vs H Q _ => ∃ v, vs = [v] ∧ Arg H v ∧ Q (.bl (isNum v)) H
theorem num_read {K : PySem.W.Frag} {vs : List V} {H : Hp} {Q : VK} {E : XK} {x : Str} (h : sp_num vs H Q E) :
    tRet (tAndV (tCB (rIsi K) (tCons (tVar 0) (tCons (tC (.ty "int")) tNil))) (tNotV (tCB (rIsi K) (tCons (tVar 0) (tCons (tC (.ty "bool")) tNil))))) { nx := fun _ H' => Q .non H', rt := Q } (start [x] vs) H := by
  obtain ⟨v, rfl, a, q⟩ := h
  obtain ⟨t, b1, b2, ty, k1, k2, e⟩ := a.num (K := K)
  refine ⟨_, rfl, _, _, t, _, b1, rfl, .ty _, ty, k1, _, rfl, ?_⟩
  rw [← e] at q
  cases b1 with
  | false => exact iteF q
  | true => exact iteT ⟨_, rfl, _, _, t, _, b2, rfl, .ty _, ty, k2, _, rfl, q⟩
/-! ### lists of numbers -/
def cell (ns : List Int) (k : Int) : Int := ns.getD k.toNat 0
theorem atI_ints {ns : List Int} {k : Int} (h0 : 0 ≤ k) (h : k < ns.length) : atI (ns.map V.int) k = some (.int (cell ns k)) := by
  obtain ⟨n, rfl⟩ : ∃ n : Nat, k = n := ⟨k.toNat, by omega⟩
  have hn : n < ns.length := by omega
  have e : (ns.map V.int)[n]? = some (.int (cell ns n)) := by
    rw [List.getElem?_map, List.getElem?_eq_getElem hn]
    simp [cell, List.getD, List.getElem?_eq_getElem hn]
  exact atI_nat e
def sp_cell (K : PySem.W.Frag) : Sp := fun vs H Q _ => ∃ (a : Addr) (ns : List Int) (k : Int), vs = [.ref a, .int k] ∧ SqL K H a (ns.map V.int) ∧ 0 ≤ k ∧ Q (.int (cell ns k)) H
/-! ### // by any number but 0 -/
def CDivA (_ j : Int) : Prop := j ≠ 0 ∧ j.natAbs.log2 < 9000
theorem op_fdivA {X : Cx} : OpR X (binaryOp .FloorDiv) (rI CDivA fun i j => .int (i.fdiv j)) := opI fun i j _ _ _ _ _ hc q => floordiv_int hc.1 q (.inl (PyProof.noPylong_of_log2 hc.2))
theorem divA {i j : Int} {b : Nat} (h : j ≠ 0) (hb : j.natAbs < 2 ^ b) (h0 : 0 < b) (h9 : b ≤ 9000) : CDivA i j := ⟨h, Nat.lt_of_lt_of_le (PySem.Flt.log2_lt_of h0 hb) h9⟩
/-! ### the greatest common part -/
def sp_shared : Sp := fun vs H Q _ => ∃ a b : Int, vs = [.int a, .int b] ∧ 0 ≤ a ∧ 0 ≤ b ∧ Q (.int ((Nat.gcd a.toNat b.toNat : Nat) : Int)) H
/-- three numbers in lowest terms, the last above 0 -/
def Low (x y b : Int) : Prop := 0 < b ∧ Nat.gcd x.natAbs (Nat.gcd y.natAbs b.natAbs) = 1
instance (x y b : Int) : Decidable (Low x y b) := inferInstanceAs (Decidable (_ ∧ _))
theorem gcd_low {x y b : Int} (hb : b ≠ 0) (s : Int) (hs : s = if b < 0 then -(((Nat.gcd (Nat.gcd x.natAbs y.natAbs) b.natAbs : Nat)) : Int) else ((Nat.gcd (Nat.gcd x.natAbs y.natAbs) b.natAbs : Nat) : Int)) :
    s ≠ 0 ∧ s.natAbs ≤ b.natAbs ∧ Low (x.fdiv s) (y.fdiv s) (b.fdiv s) ∧ x.fdiv s * b = x * b.fdiv s ∧ y.fdiv s * b = y * b.fdiv s := by
  have hn : 0 < b.natAbs := Int.natAbs_pos.mpr hb
  have g0 : 0 < Nat.gcd (Nat.gcd x.natAbs y.natAbs) b.natAbs := Nat.gcd_pos_of_pos_right _ hn
  have dx : Nat.gcd (Nat.gcd x.natAbs y.natAbs) b.natAbs ∣ x.natAbs := Nat.dvd_trans (Nat.gcd_dvd_left _ _) (Nat.gcd_dvd_left _ _)
  have dy : Nat.gcd (Nat.gcd x.natAbs y.natAbs) b.natAbs ∣ y.natAbs := Nat.dvd_trans (Nat.gcd_dvd_left _ _) (Nat.gcd_dvd_right _ _)
  have db : Nat.gcd (Nat.gcd x.natAbs y.natAbs) b.natAbs ∣ b.natAbs := Nat.gcd_dvd_right _ _
  generalize hg : Nat.gcd (Nat.gcd x.natAbs y.natAbs) b.natAbs = g at *
  have sabs : s.natAbs = g := by rw [hs]; split <;> omega
  have s0 : s ≠ 0 := by intro z; rw [z] at sabs; simp at sabs; omega
  have ex : s ∣ x := Int.natAbs_dvd_natAbs.mp (by rw [sabs]; exact dx)
  have ey : s ∣ y := Int.natAbs_dvd_natAbs.mp (by rw [sabs]; exact dy)
  have eb : s ∣ b := Int.natAbs_dvd_natAbs.mp (by rw [sabs]; exact db)
  obtain ⟨x1, rfl⟩ := ex
  obtain ⟨y1, rfl⟩ := ey
  obtain ⟨b1, rfl⟩ := eb
  have f : ∀ z : Int, (s * z).fdiv s = z := fun z => Int.mul_fdiv_cancel_left z s0
  rw [f, f, f]
  have b1p : 0 < b1 := by
    have hb1 : b1 ≠ 0 := fun z => hb (by rw [z, Int.mul_zero])
    by_cases c : s * b1 < 0
    · have sn : s < 0 := by rw [if_pos c] at hs; omega
      by_cases d : b1 < 0
      · have := Int.mul_pos_of_neg_of_neg sn d; omega
      · omega
    · have sp : 0 < s := by rw [if_neg c] at hs; omega
      by_cases d : b1 < 0
      · have := Int.mul_neg_of_pos_of_neg sp d; omega
      · omega
  refine ⟨s0, ?_, ⟨b1p, ?_⟩, ?_, ?_⟩
  · rw [sabs]; exact Nat.le_of_dvd hn db
  · have e : Nat.gcd (Nat.gcd (s * x1).natAbs (s * y1).natAbs) (s * b1).natAbs = s.natAbs * Nat.gcd (Nat.gcd x1.natAbs y1.natAbs) b1.natAbs := by
      rw [Int.natAbs_mul, Int.natAbs_mul, Int.natAbs_mul, Nat.gcd_mul_left, Nat.gcd_mul_left]
    rw [hg, sabs] at e
    have e1 : Nat.gcd (Nat.gcd x1.natAbs y1.natAbs) b1.natAbs = 1 := by
      have : g * 1 = g * Nat.gcd (Nat.gcd x1.natAbs y1.natAbs) b1.natAbs := by rw [Nat.mul_one]; exact e
      exact (Nat.eq_of_mul_eq_mul_left g0 this).symm
    rw [← Nat.gcd_assoc]
    exact e1
  · rw [← Int.mul_assoc, Int.mul_comm x1 s]
  · rw [← Int.mul_assoc, Int.mul_comm y1 s]
theorem natAbs_lt {x : Int} {b n : Nat} (h : x.natAbs ≤ n) (hn : n < 2 ^ b) : x.natAbs < 2 ^ b := Nat.lt_of_le_of_lt h hn
/-- the spot, of numbers that are good; else the refusal -/
def sp_spot_of (K : PySem.W.Frag) : Sp := fun vs H Q E => ∃ x y b : V, vs = [x, y, b] ∧ Arg H x ∧ Arg H y ∧ Arg H b ∧
  (((isNum x && isNum y && isNum b) = false ∨ b = .int 0) → E (.ref (He.ga K "BadSpot")) none H) ∧
  (∀ i j k : Int, x = .int i → y = .int j → b = .int k → k ≠ 0 → k.natAbs < 2 ^ 8000 ∧ ∀ (X Y B : Int) (p : Addr), Low X Y B → X * k = i * B → Y * k = j * B → H p = none → Q (.ref p) (upd H p (.tup [.int X, .int Y, .int B])))
theorem big8000 {n m : Nat} (h : n ≤ m) (hm : m < 2 ^ 200) : n < 2 ^ 8000 := Nat.lt_of_lt_of_le (Nat.lt_of_le_of_lt h hm) (Nat.pow_le_pow_right (by decide) (show 200 ≤ 8000 by decide))
/-! ### heaps, joins -/
theorem same_upd {H : Hp} {p : Addr} {o : HO} (h : H p = none) : Same H (upd H p o) := fun b z e => (upd_ne (ne_of_none e h)).trans e
theorem seq_cut {t u : TS} {D : Ends} {σ : L2.St} {H : Hp} (R : L2.St → Hp → Prop) (h2 : ∀ σ' H', R σ' H' → u D σ' H') (h1 : (∀ σ' H', R σ' H' → u D σ' H') → t { D with nx := u D } σ H) : tSeq t u D σ H := h1 h2
theorem gName_go {i : Nat} {v : V} {σ : L2.St} {H : Hp} {f b c : L2.St → Hp → Prop} {r : VK} (h : f (σ.set i (some v)) H) : gName i v σ H (Ends.mk f r b c).nx := h
theorem gName_as {i : Nat} {v : V} (u : V) (e : v = u) {σ : L2.St} {H : Hp} {f b c : L2.St → Hp → Prop} {r : VK} (h : f (σ.set i (some u)) H) : gName i v σ H (Ends.mk f r b c).nx := by
  subst e
  exact h
/-- the heap by another name -/
theorem nx_as {σ : L2.St} {H : Hp} {f b c : L2.St → Hp → Prop} {r : VK} (H' : Hp) (e : H = H') (h : f σ H') : (Ends.mk f r b c).nx σ H := by
  subst e
  exact h
theorem next_go {σ : L2.St} {H : Hp} {f b c : L2.St → Hp → Prop} {r : VK} (h : f σ H) : tNext (Ends.mk f r b c) σ H := h
/-- at an if: what follows it is shown once, from R -/
theorem if_cut {c : TT} {t1 t2 u : TS} {D : Ends} {σ : L2.St} {H : Hp} (R : L2.St → Hp → Prop) (h2 : ∀ σ' H', R σ' H' → u D σ' H') (h1 : (∀ σ' H', R σ' H' → u D σ' H') → tIfS c t1 t2 { D with nx := u D } σ H) : tSeq (tIfS c t1 t2) u D σ H := h1 h2
theorem Arg.up {H H' : Hp} {v : V} (s : Same H H') (a : Arg H v) : Arg H' v := by
  cases a with
  | int i => exact .int i
  | bl b => exact .bl b
  | str z => exact .str z
  | non => exact .non
  | tup e => exact .tup (s _ _ e)
  | lst e => exact .lst (s _ _ e)
  | dK e => exact .dK (s _ _ e)
theorem Arg.put {H : Hp} {e : Addr} {xs ys : List V} {v : V} (he : H e = some (.lst xs)) (a : Arg H v) : Arg (upd H e (.lst ys)) v := by
  cases a with
  | int i => exact .int i
  | bl b => exact .bl b
  | str z => exact .str z
  | non => exact .non
  | tup hb => exact .tup ((upd_ne (ne_of hb he (by intro z; cases z))).trans hb)
  | @lst b zs hb =>
    by_cases z : b = e
    · subst z
      exact .lst upd_same
    · exact .lst ((upd_ne z).trans hb)
  | dK hb => exact .dK ((upd_ne (ne_of hb he (by intro z; cases z))).trans hb)
end LL

namespace LL
open PySem PySem.Spec PySem.Calls PyProof.Rows L2
/-! ### numbers within bounds; fences; edges -/
def within : V → Int → Int → Bool
  | .int i, lo, hi => decide (lo ≤ i) && decide (i ≤ hi)
  | _, _, _ => false
theorem within_int {v : V} {lo hi : Int} (h : within v lo hi = true) : ∃ i, v = .int i := by
  cases v <;> first | exact ⟨_, rfl⟩ | cases h
theorem within_le {i lo hi : Int} (h : within (.int i) lo hi = true) : lo ≤ i ∧ i ≤ hi := by
  have h1 : (decide (lo ≤ i) && decide (i ≤ hi)) = true := h
  simpa using h1
theorem within_of {i lo hi : Int} (h1 : lo ≤ i) (h2 : i ≤ hi) : within (.int i) lo hi = true := by
  show (decide (lo ≤ i) && decide (i ≤ hi)) = true
  simp [h1, h2]
theorem within_not {i lo hi : Int} (h : i < lo ∨ hi < i) : within (.int i) lo hi = false := by
  show (decide (lo ≤ i) && decide (i ≤ hi)) = false
  rcases h with h | h
  · rw [decide_eq_false (by omega), Bool.false_and]
  · rw [decide_eq_false (show ¬ i ≤ hi by omega), Bool.and_false]
def sp_within : Sp := fun vs H Q _ => ∃ (v : V) (lo hi : Int), vs = [v, .int lo, .int hi] ∧ Arg H v ∧ Q (.bl (within v lo hi)) H
def sp_slope : Sp := fun vs H Q _ => ∃ v, vs = [v] ∧ Arg H v ∧ Q (.bl (within v (-1000) 1000)) H
def sp_check_size (K : PySem.W.Frag) : Sp := fun vs H Q E => ∃ v, vs = [v] ∧ Arg H v ∧ (within v 1 1000 = false → E (.ref (He.ga K "BadSize")) none H) ∧ (within v 1 1000 = true → Q .non H)
def fenceOk (a b c : V) : Bool := within a (-1000) 1000 && within b (-1000) 1000 && !decide (a = .int 0 ∧ b = .int 0) && within c (-1000000) 1000000
def sp_fence_of (K : PySem.W.Frag) : Sp := fun vs H Q E => ∃ a b c : V, vs = [a, b, c] ∧ Arg H a ∧ Arg H b ∧ Arg H c ∧ (fenceOk a b c = false → E (.ref (He.ga K "BadFence")) none H) ∧ (fenceOk a b c = true → ∀ p, H p = none → Q (.ref p) (upd H p (.tup [a, b, c])))
/-- the four edges stand at l, new over H -/
structure Edges (n : Int) (H H' : Hp) (l p0 p1 p2 p3 : Addr) : Prop where
  same : Same H H'
  new : H l = none
  lst : H' l = some (.lst [.ref p0, .ref p1, .ref p2, .ref p3])
  e0 : H' p0 = some (.tup [.int (-1), .int 0, .int 0])
  e1 : H' p1 = some (.tup [.int 0, .int (-1), .int 0])
  e2 : H' p2 = some (.tup [.int 1, .int 0, .int n])
  e3 : H' p3 = some (.tup [.int 0, .int 1, .int n])
def sp_edges (K : PySem.W.Frag) : Sp := fun vs H Q E => ∃ v, vs = [v] ∧ Arg H v ∧ (within v 1 1000 = false → E (.ref (He.ga K "BadSize")) none H) ∧
  (∀ n, v = .int n → within v 1 1000 = true → ∀ H' l p0 p1 p2 p3, Edges n H H' l p0 p1 p2 p3 → Q (.ref l) H')
/-! ### menus -/
theorem menu_mem {xs : List V} {n m : Int} (hm : 0 < m) (hl : (xs.length : Int) = m) : ∃ v, atI xs (n % m) = some v ∧ v ∈ xs := by
  have h0 := Int.emod_nonneg n (show m ≠ 0 by omega)
  have h1 := Int.emod_lt_of_pos n hm
  obtain ⟨j, hj⟩ : ∃ j : Nat, n % m = j := ⟨(n % m).toNat, by omega⟩
  have lt : j < xs.length := by omega
  rw [hj]
  exact ⟨xs[j], atI_nat (List.getElem?_eq_getElem lt), List.getElem_mem lt⟩
theorem ix3 {k : Int} (h0 : 0 ≤ k) (h3 : k < 3) : ∃ j : Nat, ixN 3 k = some j ∧ j < 3 ∧ k = j := by
  have : k = 0 ∨ k = 1 ∨ k = 2 := by omega
  rcases this with e | e | e <;> rw [e]
  · exact ⟨0, rfl, by decide, rfl⟩
  · exact ⟨1, rfl, by decide, rfl⟩
  · exact ⟨2, rfl, by decide, rfl⟩
/-! ### == of tuples of three numbers, and of lists of these -/
theorem dp_three {K : PySem.W.Frag} {H : Hp} {p : Addr} {a b c : Int} (h : H p = some (.tup [.int a, .int b, .int c])) : Dp K H (.ref p) (.tuple [.int a, .int b, .int c]) :=
  .tup (SqT.of h) (.cons (.int a) (.cons (.int b) (.cons (.int c) .nil)))
end LL

namespace LL
open PySem PySem.Spec PySem.Calls PyProof.Rows L2
/-! ### sizes -/
def Sz (n : Nat) (x : Int) : Prop := x.natAbs < 2 ^ n
theorem Sz.mono {n m : Nat} {x : Int} (h : Sz n x) (l : n ≤ m) : Sz m x := Nat.lt_of_lt_of_le h (Nat.pow_le_pow_right (by decide) l)
theorem Sz.mul {n m : Nat} {x y : Int} (h : Sz n x) (k : Sz m y) : Sz (n + m) (x * y) := wide_lt h k
theorem Sz.add {n : Nat} {x y : Int} (h : Sz n x) (k : Sz n y) : Sz (n + 1) (x + y) := by
  unfold Sz at *
  rw [Nat.pow_succ]
  omega
theorem Sz.sub {n : Nat} {x y : Int} (h : Sz n x) (k : Sz n y) : Sz (n + 1) (x - y) := by
  unfold Sz at *
  rw [Nat.pow_succ]
  omega
theorem Sz.ok {n m : Nat} {x y : Int} (h : Sz n x) (k : Sz m y) (hn : 0 < n) (hm : 0 < m) (l : n + m ≤ 1000000) : CMulW x y := wide_mul h k hn hm l
theorem Sz.of {n : Nat} {x : Int} {b : Nat} (h : x.natAbs ≤ b) (l : b < 2 ^ n) : Sz n x := Nat.lt_of_le_of_lt h l
/-- the numbers of a spot, of a fence -/
structure Sz3 (n : Nat) (x y b : Int) : Prop where
  x : Sz n x
  y : Sz n y
  b : Sz n b
theorem Sz3.mono {n m : Nat} {x y b : Int} (h : Sz3 n x y b) (l : n ≤ m) : Sz3 m x y b := ⟨h.x.mono l, h.y.mono l, h.b.mono l⟩
/-- a tuple of three numbers -/
abbrev Tri (K : PySem.W.Frag) (H : Hp) (p : Addr) (x y b : Int) : Prop := SqT K H p [.int x, .int y, .int b]
/-! ### reach, turn, meeting -/
def reachI (a b c x y d : Int) : Int := a * x + b * y - c * d
def sp_reach (K : PySem.W.Frag) : Sp := fun vs H Q _ => ∃ (p q : Addr) (a b c x y d : Int), vs = [.ref p, .ref q] ∧ Tri K H p a b c ∧ Tri K H q x y d ∧ Sz3 1000 a b c ∧ Sz3 1000 x y d ∧ Q (.int (reachI a b c x y d)) H
def triI (x y b x2 y2 b2 x3 y3 b3 : Int) : Int := x * (y2 * b3 - y3 * b2) - y * (x2 * b3 - x3 * b2) + b * (x2 * y3 - x3 * y2)
def sgn (n : Int) : Int := if 0 < n then 1 else if n < 0 then -1 else 0
def sp_tri (K : PySem.W.Frag) (f : Int → Int) : Sp := fun vs H Q _ => ∃ (p q r : Addr) (x y b x2 y2 b2 x3 y3 b3 : Int), vs = [.ref p, .ref q, .ref r] ∧ Tri K H p x y b ∧ Tri K H q x2 y2 b2 ∧ Tri K H r x3 y3 b3 ∧
  Sz3 1000 x y b ∧ Sz3 1000 x2 y2 b2 ∧ Sz3 1000 x3 y3 b3 ∧ Q (.int (f (triI x y b x2 y2 b2 x3 y3 b3))) H
def sp_meeting (K : PySem.W.Frag) : Sp := fun vs H Q _ => ∃ (p q : Addr) (a b c a2 b2 c2 : Int), vs = [.ref p, .ref q] ∧ Tri K H p a b c ∧ Tri K H q a2 b2 c2 ∧ Sz3 1000 a b c ∧ Sz3 1000 a2 b2 c2 ∧
  (a * b2 - b * a2 = 0 → Q .non H) ∧ (a * b2 - b * a2 ≠ 0 → ∀ (X Y B : Int) (l : Addr), Low X Y B → a * X + b * Y = c * B → a2 * X + b2 * Y = c2 * B → X * (a * b2 - b * a2) = (c * b2 - b * c2) * B → Y * (a * b2 - b * a2) = (a * c2 - c * a2) * B →
    H l = none → Q (.ref l) (upd H l (.tup [.int X, .int Y, .int B])))
theorem meet_on {a b c p q r X Y B : Int} (h0 : a * q - b * p ≠ 0) (hx : X * (a * q - b * p) = (c * q - b * r) * B) (hy : Y * (a * q - b * p) = (a * r - c * p) * B) : a * X + b * Y = c * B ∧ p * X + q * Y = r * B := by
  constructor
  · apply Int.eq_of_mul_eq_mul_right h0
    grind
  · apply Int.eq_of_mul_eq_mul_right h0
    grind
theorem low_abs {x y b : Int} (hb : 0 < b) (s : Int) (hs : s = ((Nat.gcd x.natAbs (Nat.gcd y.natAbs b.natAbs) : Nat) : Int)) :
    s ≠ 0 ∧ 0 < s ∧ s.natAbs ≤ b.natAbs ∧ Low (x.fdiv s) (y.fdiv s) (b.fdiv s) ∧ (x.fdiv s).natAbs ≤ x.natAbs ∧ (y.fdiv s).natAbs ≤ y.natAbs ∧ (b.fdiv s).natAbs ≤ b.natAbs := by
  have e : s = if b < 0 then -(((Nat.gcd (Nat.gcd x.natAbs y.natAbs) b.natAbs : Nat)) : Int) else ((Nat.gcd (Nat.gcd x.natAbs y.natAbs) b.natAbs : Nat) : Int) := by
    rw [if_neg (by omega), hs, Nat.gcd_assoc]
  obtain ⟨s0, sb, low, _, _⟩ := gcd_low (x := x) (y := y) (b := b) (by omega) s e
  have sp : 0 < s := by
    have : 0 ≤ s := by rw [hs]; exact Int.natCast_nonneg _
    omega
  have f : ∀ z : Int, s ∣ z → (z.fdiv s).natAbs ≤ z.natAbs := by
    rintro z ⟨k, rfl⟩
    rw [Int.mul_fdiv_cancel_left k s0, Int.natAbs_mul]
    exact Nat.le_mul_of_pos_left _ (by omega)
  have d1 : s ∣ x := Int.natAbs_dvd_natAbs.mp (by rw [hs, Int.natAbs_natCast]; exact Nat.gcd_dvd_left _ _)
  have d2 : s ∣ y := Int.natAbs_dvd_natAbs.mp (by rw [hs, Int.natAbs_natCast]; exact Nat.dvd_trans (Nat.gcd_dvd_right _ _) (Nat.gcd_dvd_left _ _))
  have d3 : s ∣ b := Int.natAbs_dvd_natAbs.mp (by rw [hs, Int.natAbs_natCast]; exact Nat.dvd_trans (Nat.gcd_dvd_right _ _) (Nat.gcd_dvd_right _ _))
  exact ⟨s0, sp, sb, low, f _ d1, f _ d2, f _ d3⟩
/-- a fence's numbers -/
structure FenceI (a b c : Int) : Prop where
  ha : a.natAbs ≤ 1000
  hb : b.natAbs ≤ 1000
  ab : ¬ (a = 0 ∧ b = 0)
  hc : c.natAbs ≤ 1000000
theorem FenceI.sz {a b c : Int} (h : FenceI a b c) : Sz3 100 a b c := ⟨.of h.ha (by decide), .of h.hb (by decide), .of h.hc (by decide)⟩
def sp_law_fence_by : Sp := fun vs H Q _ => ∃ c s : Int, vs = [.int c, .int s] ∧ 1 ≤ s ∧ s ≤ 1000 ∧ ∀ (H' : Hp) (p : Addr) (x y z : Int), Same H H' → H p = none → H' p = some (.tup [.int x, .int y, .int z]) → FenceI x y z → Q (.ref p) H'
/-- a spot stands at p -/
structure SpotAt (n : Nat) (H : Hp) (p : Addr) (x y b : Int) : Prop where
  at_ : H p = some (.tup [.int x, .int y, .int b])
  low : Low x y b
  sz : Sz3 n x y b
theorem SpotAt.up {n : Nat} {H H' : Hp} {p : Addr} {x y b : Int} (h : SpotAt n H p x y b) (s : Same H H') : SpotAt n H' p x y b := ⟨s _ _ h.at_, h.low, h.sz⟩
theorem SpotAt.mono {n m : Nat} {H : Hp} {p : Addr} {x y b : Int} (h : SpotAt n H p x y b) (l : n ≤ m) : SpotAt m H p x y b := ⟨h.at_, h.low, h.sz.mono l⟩
def sp_law_spot_by : Sp := fun vs H Q _ => ∃ c o s : Int, vs = [.int c, .int o, .int s] ∧ 1 ≤ s ∧ s ≤ 1000 ∧ ∀ (H' : Hp) (p : Addr) (x y b : Int), Same H H' → H p = none → SpotAt 100 H' p x y b → Q (.ref p) H'
theorem abs_nn (i : Int) : 0 ≤ (if i < 0 then -i else i) := by split <;> omega
theorem abs_nat (i : Int) : (if i < 0 then -i else i).toNat = i.natAbs := by split <;> omega
def sp_law_good_spot : Sp := fun vs H Q _ => ∃ (p : Addr) (x y b : Int), vs = [.ref p] ∧ H p = some (.tup [.int x, .int y, .int b]) ∧ Q (.bl (decide (Low x y b))) H
def sp_law_size_by : Sp := fun vs H Q _ => ∃ c : Int, vs = [.int c] ∧ ∀ s : Int, 1 ≤ s → s ≤ 1000 → Q (.int s) H
end LL

namespace LL
open PySem PySem.Spec PySem.Calls PyProof.Rows L2

def top (i : Nat) : Stmt := PySem.Challenge.pw_landlines_k02_fences.main.body.getD i (.Pass ⟨0, 0, 0, 0⟩)
abbrev s_is_number : Stmt := top 11
abbrev s_is_number_within : Stmt := top 12
abbrev s_check_size : Stmt := top 13
abbrev s_is_slope : Stmt := top 18
abbrev s_fence_of : Stmt := top 17
abbrev s_edges : Stmt := top 19
abbrev s_law_cell_at : Stmt := top 21
abbrev s_law_whole : Stmt := top 22
abbrev s_law_names : Stmt := top 23
abbrev s_law_fence_refused : Stmt := top 24
abbrev s_law_edges_refused : Stmt := top 25
abbrev s_law_tuple : Stmt := top 26
abbrev s_law_edges_good : Stmt := top 27
abbrev s_law : Stmt := top 28
/-! ### what the top has written -/
structure Txt (K : PySem.W.Frag) (mg : Str → Option Value) : Prop where
  d_is_number : ∃ fd, FnP K "is_number" s_is_number fd
  g_is_number : mg "is_number" = some (.ref (He.ga K "is_number"))
  d_is_number_within : ∃ fd, FnP K "is_number_within" s_is_number_within fd
  g_is_number_within : mg "is_number_within" = some (.ref (He.ga K "is_number_within"))
  d_check_size : ∃ fd, FnP K "check_size" s_check_size fd
  g_check_size : mg "check_size" = some (.ref (He.ga K "check_size"))
  d_is_slope : ∃ fd, FnP K "_is_slope" s_is_slope fd
  g_is_slope : mg "_is_slope" = some (.ref (He.ga K "_is_slope"))
  d_fence_of : ∃ fd, FnP K "fence_of" s_fence_of fd
  g_fence_of : mg "fence_of" = some (.ref (He.ga K "fence_of"))
  d_edges : ∃ fd, FnP K "edges" s_edges fd
  g_edges : mg "edges" = some (.ref (He.ga K "edges"))
  d_law_cell_at : ∃ fd, FnP K "_law_cell_at" s_law_cell_at fd
  g_law_cell_at : mg "_law_cell_at" = some (.ref (He.ga K "_law_cell_at"))
  d_law_whole : ∃ fd, FnP K "_law_whole" s_law_whole fd
  g_law_whole : mg "_law_whole" = some (.ref (He.ga K "_law_whole"))
  d_law_names : ∃ fd, FnP K "_law_names" s_law_names fd
  g_law_names : mg "_law_names" = some (.ref (He.ga K "_law_names"))
  d_law_fence_refused : ∃ fd, FnP K "_law_fence_refused" s_law_fence_refused fd
  g_law_fence_refused : mg "_law_fence_refused" = some (.ref (He.ga K "_law_fence_refused"))
  d_law_edges_refused : ∃ fd, FnP K "_law_edges_refused" s_law_edges_refused fd
  g_law_edges_refused : mg "_law_edges_refused" = some (.ref (He.ga K "_law_edges_refused"))
  d_law_tuple : ∃ fd, FnP K "_law_tuple" s_law_tuple fd
  g_law_tuple : mg "_law_tuple" = some (.ref (He.ga K "_law_tuple"))
  d_law_edges_good : ∃ fd, FnP K "_law_edges_good" s_law_edges_good fd
  g_law_edges_good : mg "_law_edges_good" = some (.ref (He.ga K "_law_edges_good"))
  d_law : ∃ fd, FnP K "law" s_law fd
  g_law : mg "law" = some (.ref (He.ga K "law"))
  m_ValueError : mg "ValueError" = none
  m_bool : mg "bool" = none
  m_int : mg "int" = none
  m_isinstance : mg "isinstance" = none
  m_len : mg "len" = none
  m_list : mg "list" = none
  m_range : mg "range" = none
  m_tuple : mg "tuple" = none
  c_MOST_OFFSET : ∃ t, mg "MOST_OFFSET" = some (.int (1000000) t)
  c_MOST_SIZE : ∃ t, mg "MOST_SIZE" = some (.int (1000) t)
  c_MOST_SLOPE : ∃ t, mg "MOST_SLOPE" = some (.int (1000) t)
  BadFence : ExcF K mg "BadFence"
  BadSize : ExcF K mg "BadSize"
  BadSpot : ExcF K mg "BadSpot"
  BadWay : ExcF K mg "BadWay"
  LandError : ExcF K mg "LandError"
  NoFence : ExcF K mg "NoFence"
  NoLand : ExcF K mg "NoLand"
  TooMany : ExcF K mg "TooMany"
  ex_BadFence_LandError : PySem.W.exmOne K (.ref (He.ga K "BadFence")) (.ref (He.ga K "LandError")) = some true
  kit_BadFence : KitsF K "BadFence" [("BadFence", true), ("BadSize", false), ("BadSpot", false), ("BadWay", false), ("NoFence", false), ("NoLand", false), ("TooMany", false)]
  ex_BadSize_LandError : PySem.W.exmOne K (.ref (He.ga K "BadSize")) (.ref (He.ga K "LandError")) = some true
  kit_BadSize : KitsF K "BadSize" [("BadFence", false), ("BadSize", true), ("BadSpot", false), ("BadWay", false), ("NoFence", false), ("NoLand", false), ("TooMany", false)]
section
variable {P : Program} {w : World} {K : PySem.W.Frag} {mg : Str → Option Value} {base : Heap}
/-! ## is_number -/
abbrev n_is_number : List Str := ["value"]
theorem sc_is_number : FnScope n_is_number ["value"] (defScope s_is_number) := ⟨rfl, rfl, rfl, by decide +kernel, rfl, by decide +kernel, by decide +kernel⟩
theorem ok_is_number (T : Txt K mg) : Good P w K mg base CX0 1 "is_number" ["value"] sp_num := by
  obtain ⟨fd, F⟩ := T.d_is_number
  refine ⟨T.g_is_number, F.kp, fd, F.bindsN (fun _ _ _ _ _ _ us hl => match us, hl with | [_], _ => rfl), F.ok sc_is_number (fun vs H Q E h => ?_) (fun cdv A outer s H vs Q E hr h => ⟨_, PSs.nox (pss_one (ps_ret (pe_and (pe_callB call_isi (by rfl) T.m_isinstance (by decide +kernel) (pa_cons (pv 0) (pa_cons (pe_bltn (v := .ty "int") (by rfl) T.m_int (by decide +kernel) rfl) pa_nil))) (pe_one (pe_not (pe_callB call_isi (by rfl) T.m_isinstance (by decide +kernel) (pa_cons (pv 0) (pa_cons (pe_bltn (v := .ty "bool") (by rfl) T.m_bool (by decide +kernel) rfl) pa_nil)))))))), num_read h⟩)⟩
  obtain ⟨v, rfl, _⟩ := h
  rfl

/-! ## is_number_within -/
abbrev n_is_number_within : List Str := ["value", "low", "high"]
theorem sc_is_number_within : FnScope n_is_number_within ["value", "low", "high"] (defScope s_is_number_within) := ⟨rfl, rfl, rfl, by decide +kernel, rfl, by decide +kernel, by decide +kernel⟩
theorem ok_is_number_within (T : Txt K mg) (C_is_number : Good P w K mg base CX0 1 "is_number" ["value"] sp_num) : Good P w K mg base CX0 2 "is_number_within" ["value", "low", "high"] sp_within := by
  obtain ⟨fd, F⟩ := T.d_is_number_within
  refine ⟨T.g_is_number_within, F.kp, fd, F.bindsN (fun _ _ _ _ _ _ us hl => match us, hl with | [_, _, _], _ => rfl), F.ok sc_is_number_within (fun vs H Q E h => ?_) (fun cdv A outer s H vs Q E hr h => ⟨_, PSs.nox (pss_one (ps_ret (pe_and (pe_own C_is_number hr rfl (pa_cons (pv 0) pa_nil)) (pe_one (pe_chain op_le op_le (pv 1) (pv 0) (pv 2)))))), ?_⟩)⟩
  · obtain ⟨v, lo, hi, rfl, _⟩ := h
    rfl
  · obtain ⟨v, lo, hi, rfl, a, q⟩ := h
    refine ⟨_, rfl, v, rfl, a, _, rfl, ite2 (fun c => ?_) (fun c => ?_)⟩
    · obtain ⟨i, rfl⟩ : ∃ i, v = .int i := by cases v <;> first | exact ⟨_, rfl⟩ | cases c
      refine ⟨_, rfl, _, rfl, _, _, rfl, rfl, _, rfl, ?_⟩
      cases e : decide (lo ≤ i) with
      | true =>
        refine iteT ⟨_, rfl, _, _, rfl, rfl, ?_⟩
        have z : within (.int i) lo hi = decide (i ≤ hi) := by
          show (decide (lo ≤ i) && decide (i ≤ hi)) = _
          rw [e, Bool.true_and]
        rw [z] at q
        exact q
      | false =>
        refine iteF ?_
        have z : within (.int i) lo hi = false := by
          show (decide (lo ≤ i) && decide (i ≤ hi)) = _
          rw [e, Bool.false_and]
        rw [z] at q
        exact q
    · have z : within v lo hi = false := by cases v <;> first | rfl | exact absurd rfl c
      rw [z] at q
      exact q

/-! ## check_size -/
abbrev n_check_size : List Str := ["size"]
theorem sc_check_size : FnScope n_check_size ["size"] (defScope s_check_size) := ⟨rfl, rfl, rfl, by decide +kernel, rfl, by decide +kernel, by decide +kernel⟩
theorem ok_check_size (T : Txt K mg) (C_is_number_within : Good P w K mg base CX0 2 "is_number_within" ["value", "low", "high"] sp_within) : Good P w K mg base (L2.CX P w) 3 "check_size" ["size"] (sp_check_size K) := by
  obtain ⟨fd, F⟩ := T.d_check_size
  obtain ⟨_, c_MOST_SIZE⟩ := T.c_MOST_SIZE
  refine ⟨T.g_check_size, F.kp, fd, F.bindsN (fun _ _ _ _ _ _ us hl => match us, hl with | [_], _ => rfl), F.ok sc_check_size (fun vs H Q E h => ?_) (fun cdv A outer s H vs Q E hr h => ⟨_, (pss_one (ps_if (pt_not (pt_val (pe_own C_is_number_within hr rfl (pa_cons (pv 0) (pa_cons pe_int (pa_cons (pe_glob (v := .int (1000)) rfl c_MOST_SIZE ⟨_, rfl⟩) pa_nil)))))) (pss_one (ps_raise rfl (takes_of rfl rfl rfl rfl) (pmk_own PySem.F.excBase_ValueError T.BadSize.x T.BadSize.g T.BadSize.k (raises_own T.BadSize.b T.BadSize.t) rfl))) pss_nil)), ?_⟩)⟩
  · obtain ⟨v, rfl, _⟩ := h
    rfl
  · obtain ⟨v, rfl, a, kE, kQ⟩ := h
    refine ⟨_, rfl, v, 1, 1000, rfl, a, _, rfl, ?_⟩
    cases c : within v 1 1000 with
    | true => exact iteF (kQ c)
    | false => exact iteT (kE c)

/-! ## _is_slope -/
abbrev n_is_slope : List Str := ["value"]
theorem sc_is_slope : FnScope n_is_slope ["value"] (defScope s_is_slope) := ⟨rfl, rfl, rfl, by decide +kernel, rfl, by decide +kernel, by decide +kernel⟩
theorem ok_is_slope (T : Txt K mg) (C_is_number_within : Good P w K mg base CX0 2 "is_number_within" ["value", "low", "high"] sp_within) : Good P w K mg base CX0 3 "_is_slope" ["value"] sp_slope := by
  obtain ⟨fd, F⟩ := T.d_is_slope
  obtain ⟨_, c_MOST_SLOPE⟩ := T.c_MOST_SLOPE
  refine ⟨T.g_is_slope, F.kp, fd, F.bindsN (fun _ _ _ _ _ _ us hl => match us, hl with | [_], _ => rfl), F.ok sc_is_slope (fun vs H Q E h => ?_) (fun cdv A outer s H vs Q E hr h => ⟨_, PSs.nox (pss_one (ps_ret (pe_own C_is_number_within hr rfl (pa_cons (pv 0) (pa_cons (pe_un un_neg (pe_glob (v := .int (1000)) rfl c_MOST_SLOPE ⟨_, rfl⟩)) (pa_cons (pe_glob (v := .int (1000)) rfl c_MOST_SLOPE ⟨_, rfl⟩) pa_nil)))))), ?_⟩)⟩
  · obtain ⟨v, rfl, _⟩ := h
    rfl
  · obtain ⟨v, rfl, a, q⟩ := h
    exact ⟨_, rfl, 1000, rfl, v, -1000, 1000, rfl, a, q⟩

/-! ## fence_of -/
abbrev n_fence_of : List Str := ["a", "b", "c"]
theorem sc_fence_of : FnScope n_fence_of ["a", "b", "c"] (defScope s_fence_of) := ⟨rfl, rfl, rfl, by decide +kernel, rfl, by decide +kernel, by decide +kernel⟩
theorem ok_fence_of (T : Txt K mg) (C_is_number_within : Good P w K mg base CX0 2 "is_number_within" ["value", "low", "high"] sp_within) (C_is_slope : Good P w K mg base CX0 3 "_is_slope" ["value"] sp_slope) :
    Good P w K mg base (L2.CX P w) 4 "fence_of" ["a", "b", "c"] (sp_fence_of K) := by
  obtain ⟨fd, F⟩ := T.d_fence_of
  obtain ⟨_, c_MOST_OFFSET⟩ := T.c_MOST_OFFSET
  refine ⟨T.g_fence_of, F.kp, fd, F.bindsN (fun _ _ _ _ _ _ us hl => match us, hl with | [_, _, _], _ => rfl), F.ok sc_fence_of (fun vs H Q E h => ?_) (fun cdv A outer s H vs Q E hr h => ⟨_, (pss_cons (ps_if (pt_not (PW.pt (pw_and (pt_val (pe_own C_is_slope hr rfl (pa_cons (pv 0) pa_nil))) (pw_and1 (pt_val (pe_own C_is_slope hr rfl (pa_cons (pv 1) pa_nil))))))) (pss_one (ps_raise rfl (takes_of rfl rfl rfl rfl) (pmk_own PySem.F.excBase_ValueError T.BadFence.x T.BadFence.g T.BadFence.k (raises_own T.BadFence.b T.BadFence.t) rfl))) pss_nil)
    (pss_cons (ps_if (PW.pt (pw_and (pt_cmpR op_eq (pv 0) pe_int (nomark _)) (pw_and1 (pt_cmpR op_eq (pv 1) pe_int (nomark _))))) (pss_one (ps_raise rfl (takes_of rfl rfl rfl rfl) (pmk_own PySem.F.excBase_ValueError T.BadFence.x T.BadFence.g T.BadFence.k (raises_own T.BadFence.b T.BadFence.t) rfl))) pss_nil)
    (pss_cons (ps_if (pt_not (pt_val (pe_own C_is_number_within (hr.mono (by decide)) rfl (pa_cons (pv 2) (pa_cons (pe_un un_neg (pe_glob (v := .int (1000000)) rfl c_MOST_OFFSET ⟨_, rfl⟩)) (pa_cons (pe_glob (v := .int (1000000)) rfl c_MOST_OFFSET ⟨_, rfl⟩) pa_nil)))))) (pss_one (ps_raise rfl (takes_of rfl rfl rfl rfl) (pmk_own PySem.F.excBase_ValueError T.BadFence.x T.BadFence.g T.BadFence.k (raises_own T.BadFence.b T.BadFence.t) rfl))) pss_nil)
    (pss_one (ps_ret (pe_tup (pa_cons (pv 0) (pa_cons (pv 1) (pa_cons (pv 2) pa_nil))))))))), ?_⟩)⟩
  · obtain ⟨x, y, z, rfl, _⟩ := h
    rfl
  · obtain ⟨x, y, z, rfl, ax, ay, az, kE, kQ⟩ := h
    refine ⟨_, rfl, x, rfl, ax, _, rfl, ite2 (fun cx => ?_) (fun cx => iteT (kE ?_))⟩
    · refine ⟨_, rfl, y, rfl, ay, _, rfl, ?_⟩
      cases cy : within y (-1000) 1000 with
      | false => exact iteT (kE (by unfold fenceOk; rw [cy, Bool.and_false, Bool.false_and, Bool.false_and]))
      | true =>
        obtain ⟨i, rfl⟩ := within_int cx
        obtain ⟨j, rfl⟩ := within_int cy
        refine iteF (next_go ?_)
        refine if_cut (fun σ' H' => σ' = [some (.int i), some (.int j), some z] ∧ H' = H ∧ ¬ (i = 0 ∧ j = 0)) ?_ ?_
        · rintro σ' H' ⟨rfl, rfl, n0⟩
          refine ⟨_, rfl, 1000000, rfl, z, -1000000, 1000000, rfl, az, _, rfl, ?_⟩
          have nd : decide (V.int i = V.int 0 ∧ V.int j = V.int 0) = false := decide_eq_false fun ⟨e1, e2⟩ => n0 ⟨V.int.inj e1, V.int.inj e2⟩
          cases cz : within z (-1000000) 1000000 with
          | false => exact iteT (kE (by unfold fenceOk; rw [cz, Bool.and_false]))
          | true => exact iteF ⟨_, rfl, _, rfl, _, rfl, (by show 3 ≤ sizeLine; decide), fun p hp => kQ (by unfold fenceOk; rw [cx, cy, cz, nd]; rfl) p hp⟩
        · intro go
          refine ⟨_, rfl, rfl, _, rfl, ?_⟩
          cases c1 : decide (V.int i = V.int 0) with
          | true =>
            have e1 : i = 0 := V.int.inj (of_decide_eq_true c1)
            refine iteT ⟨_, rfl, rfl, _, rfl, ?_⟩
            cases c2 : decide (V.int j = V.int 0) with
            | true =>
              have e2 := of_decide_eq_true c2
              refine iteT (kE ?_)
              unfold fenceOk
              rw [decide_eq_true (show V.int i = V.int 0 ∧ V.int j = V.int 0 from ⟨congrArg V.int e1, e2⟩)]
              simp
            | false => exact iteF (go _ _ ⟨rfl, rfl, fun ⟨_, e2⟩ => of_decide_eq_false c2 (congrArg V.int e2)⟩)
          | false => exact iteF (iteF (go _ _ ⟨rfl, rfl, fun ⟨e1, _⟩ => of_decide_eq_false c1 (congrArg V.int e1)⟩))
    · have : within x (-1000) 1000 = false := by simpa using cx
      unfold fenceOk
      rw [this, Bool.false_and, Bool.false_and, Bool.false_and]

/-! ## edges -/
abbrev n_edges : List Str := ["size"]
theorem sc_edges : FnScope n_edges ["size"] (defScope s_edges) := ⟨rfl, rfl, rfl, by decide +kernel, rfl, by decide +kernel, by decide +kernel⟩
theorem ok_edges (T : Txt K mg) (C_check_size : Good P w K mg base (L2.CX P w) 3 "check_size" ["size"] (sp_check_size K)) : Good P w K mg base (L2.CX P w) 4 "edges" ["size"] (sp_edges K) := by
  obtain ⟨fd, F⟩ := T.d_edges
  refine ⟨T.g_edges, F.kp, fd, F.bindsN (fun _ _ _ _ _ _ us hl => match us, hl with | [_], _ => rfl), F.ok sc_edges (fun vs H Q E h => ?_) (fun cdv A outer s H vs Q E hr h => ⟨_, (pss_cons (ps_expr (pe_ownR C_check_size hr (takes_of rfl rfl rfl rfl) (fun _ _ _ _ h => h) rfl (pa_cons (pv 0) pa_nil)))
    (pss_one (ps_ret (pe_lst (pa_cons (pe_tup (pa_cons (pe_un un_neg pe_int) (pa_cons pe_int (pa_cons pe_int pa_nil)))) (pa_cons (pe_tup (pa_cons pe_int (pa_cons (pe_un un_neg pe_int) (pa_cons pe_int pa_nil)))) (pa_cons (pe_tup (pa_cons pe_int (pa_cons pe_int (pa_cons (pv 0) pa_nil)))) (pa_cons (pe_tup (pa_cons pe_int (pa_cons pe_int (pa_cons (pv 0) pa_nil)))) pa_nil)))))))), ?_⟩)⟩
  · obtain ⟨v, rfl, _⟩ := h
    rfl
  · obtain ⟨v, rfl, a, kE, kQ⟩ := h
    refine ⟨_, rfl, v, rfl, a, kE, fun c => ?_⟩
    obtain ⟨n, rfl⟩ := within_int c
    refine ⟨1, rfl, by show 3 ≤ sizeLine; decide, fun p0 h0 => ?_⟩
    refine ⟨1, rfl, by show 3 ≤ sizeLine; decide, fun p1 h1 => ?_⟩
    refine ⟨_, rfl, by show 3 ≤ sizeLine; decide, fun p2 h2 => ?_⟩
    refine ⟨_, rfl, by show 3 ≤ sizeLine; decide, fun p3 h3 => ?_⟩
    refine ⟨by show 4 ≤ sizeLine; decide, fun l hl => ?_⟩
    have s0 := same_upd (o := .tup [.int (-1), .int 0, .int 0]) h0
    have s1 := same_upd (o := .tup [.int 0, .int (-1), .int 0]) h1
    have s2 := same_upd (o := .tup [.int 1, .int 0, .int n]) h2
    have s3 := same_upd (o := .tup [.int 0, .int 1, .int n]) h3
    have s4 := same_upd (o := .lst [.ref p0, .ref p1, .ref p2, .ref p3]) hl
    refine kQ n rfl c _ l p0 p1 p2 p3 ⟨(((s0.trans s1).trans s2).trans s3).trans s4, (((s0.trans s1).trans s2).trans s3).free hl, upd_same, ?_, ?_, ?_, ?_⟩
    · exact s4 _ _ (s3 _ _ (s2 _ _ (s1 _ _ upd_same)))
    · exact s4 _ _ (s3 _ _ (s2 _ _ upd_same))
    · exact s4 _ _ (s3 _ _ upd_same)
    · exact s4 _ _ upd_same

/-! ## _law_cell_at -/
abbrev n_law_cell_at : List Str := ["_law_script", "_law_k"]
theorem sc_law_cell_at : FnScope n_law_cell_at ["_law_script", "_law_k"] (defScope s_law_cell_at) := ⟨rfl, rfl, rfl, by decide +kernel, rfl, by decide +kernel, by decide +kernel⟩
theorem ok_law_cell_at (T : Txt K mg) : Good P w K mg base CX0 1 "_law_cell_at" ["_law_script", "_law_k"] (sp_cell K) := by
  obtain ⟨fd, F⟩ := T.d_law_cell_at
  refine ⟨T.g_law_cell_at, F.kp, fd, F.bindsN (fun _ _ _ _ _ _ us hl => match us, hl with | [_, _], _ => rfl), F.ok sc_law_cell_at (fun vs H Q E h => ?_) (fun cdv A outer s H vs Q E hr h => ⟨_, PSs.nox (pss_cons (ps_if (pt_cmpR op_lt (pv 1) (pe_callB call_len_seq (by rfl) T.m_len PySem.boot_len (pa_cons (pv 0) pa_nil)) (nomark _)) (pss_one (ps_ret (pe_ix ix_list (pv 0) (pv 1) (fun _ _ => rfl)))) pss_nil)
    (pss_one (ps_ret pe_int))), ?_⟩)⟩
  · obtain ⟨a, ns, k, rfl, _⟩ := h
    rfl
  · obtain ⟨a, ns, k, rfl, hS, h0, q⟩ := h
    refine ⟨_, rfl, _, rfl, a, _, rfl, .inl hS, _, _, rfl, rfl, _, rfl, ite2 (fun c => ?_) (fun c => ?_)⟩
    · have c1 := of_decide_eq_true c
      rw [List.length_map] at c1
      exact ⟨_, rfl, _, rfl, a, _, k, _, rfl, rfl, hS, atI_ints h0 c1, q⟩
    · have c1 : ¬ k < ((ns.map V.int).length : Int) := fun z => c (decide_eq_true z)
      rw [List.length_map] at c1
      have e : cell ns k = 0 := by
        unfold cell
        rw [List.getD_eq_getElem?_getD, List.getElem?_eq_none (by omega)]
        rfl
      rw [e] at q
      exact q

/-! ## _law_whole -/
abbrev n_law_whole : List Str := ["_law_thing"]
theorem sc_law_whole : FnScope n_law_whole ["_law_thing"] (defScope s_law_whole) := ⟨rfl, rfl, rfl, by decide +kernel, rfl, by decide +kernel, by decide +kernel⟩
theorem ok_law_whole (T : Txt K mg) : Good P w K mg base CX0 1 "_law_whole" ["_law_thing"] sp_num := by
  obtain ⟨fd, F⟩ := T.d_law_whole
  refine ⟨T.g_law_whole, F.kp, fd, F.bindsN (fun _ _ _ _ _ _ us hl => match us, hl with | [_], _ => rfl), F.ok sc_law_whole (fun vs H Q E h => ?_) (fun cdv A outer s H vs Q E hr h => ⟨_, PSs.nox (pss_one (ps_ret (pe_and (pe_callB call_isi (by rfl) T.m_isinstance (by decide +kernel) (pa_cons (pv 0) (pa_cons (pe_bltn (v := .ty "int") (by rfl) T.m_int (by decide +kernel) rfl) pa_nil))) (pe_one (pe_not (pe_callB call_isi (by rfl) T.m_isinstance (by decide +kernel) (pa_cons (pv 0) (pa_cons (pe_bltn (v := .ty "bool") (by rfl) T.m_bool (by decide +kernel) rfl) pa_nil)))))))), num_read h⟩)⟩
  obtain ⟨v, rfl, _⟩ := h
  rfl

/-! ## _law_names -/
abbrev n_law_names : List Str := ["_law_e", "_law_found"]
theorem sc_law_names : FnScope n_law_names ["_law_e"] (defScope s_law_names) := ⟨rfl, rfl, rfl, by decide +kernel, rfl, by decide +kernel, by decide +kernel⟩
theorem ok_law_names_BadFence (T : Txt K mg) : Tells P w K mg base "_law_names" (He.ga K "BadFence") "fence " := by
  obtain ⟨fd, F⟩ := T.d_law_names
  have b := F.bindsN (ps := ["_law_e"]) (fun _ _ _ _ _ _ us hl => match us, hl with | [_], _ => rfl)
  obtain ⟨oc, od, dV, kV, doc, pm, an, cdv, ct, osl, rfl, lk, hcd, _, _⟩ := F.ex
  refine ⟨_, "_law_e", b, fun A outer s H args p Q E room pin hz hf e0 hb q => ?_⟩
  have k := T.kit_BadFence
  have CI : ∀ {X : Cx}, X.K = K → p ∈ X.pn → CallR X (.builtin "isinstance") (rIsE X.K (He.ga K "BadFence") p.1) := by
    rintro X rfl hp
    exact call_isP k.c hp hz hf
  refine tells_run (N := n_law_names) (vs := [.ref p.1]) (us := [.ref p.1]) lk hcd sc_law_names rfl room pin e0 hb (.cons rfl .nil)
    (pss_cons (ps_set (i := 1) sc_law_names.nd rfl (Or.inl rfl) pe_str)
    (pss_cons (ps_if (pt_val (pe_callB (CI rfl List.mem_cons_self) (by rfl) T.m_isinstance (by decide +kernel) (pa_cons (pv 0) (pa_cons (pe_glob (v := .ref (He.ga K "BadSize")) rfl T.BadSize.g rfl) pa_nil)))) (pss_one (ps_set (i := 1) sc_law_names.nd rfl (Or.inl rfl) (pe_op op_add_str (pv 1) pe_str))) pss_nil)
    (pss_cons (ps_if (pt_val (pe_callB (CI rfl List.mem_cons_self) (by rfl) T.m_isinstance (by decide +kernel) (pa_cons (pv 0) (pa_cons (pe_glob (v := .ref (He.ga K "BadFence")) rfl T.BadFence.g rfl) pa_nil)))) (pss_one (ps_set (i := 1) sc_law_names.nd rfl (Or.inl rfl) (pe_op op_add_str (pv 1) pe_str))) pss_nil)
    (pss_cons (ps_if (pt_val (pe_callB (CI rfl List.mem_cons_self) (by rfl) T.m_isinstance (by decide +kernel) (pa_cons (pv 0) (pa_cons (pe_glob (v := .ref (He.ga K "TooMany")) rfl T.TooMany.g rfl) pa_nil)))) (pss_one (ps_set (i := 1) sc_law_names.nd rfl (Or.inl rfl) (pe_op op_add_str (pv 1) pe_str))) pss_nil)
    (pss_cons (ps_if (pt_val (pe_callB (CI rfl List.mem_cons_self) (by rfl) T.m_isinstance (by decide +kernel) (pa_cons (pv 0) (pa_cons (pe_glob (v := .ref (He.ga K "BadSpot")) rfl T.BadSpot.g rfl) pa_nil)))) (pss_one (ps_set (i := 1) sc_law_names.nd rfl (Or.inl rfl) (pe_op op_add_str (pv 1) pe_str))) pss_nil)
    (pss_cons (ps_if (pt_val (pe_callB (CI rfl List.mem_cons_self) (by rfl) T.m_isinstance (by decide +kernel) (pa_cons (pv 0) (pa_cons (pe_glob (v := .ref (He.ga K "BadWay")) rfl T.BadWay.g rfl) pa_nil)))) (pss_one (ps_set (i := 1) sc_law_names.nd rfl (Or.inl rfl) (pe_op op_add_str (pv 1) pe_str))) pss_nil)
    (pss_cons (ps_if (pt_val (pe_callB (CI rfl List.mem_cons_self) (by rfl) T.m_isinstance (by decide +kernel) (pa_cons (pv 0) (pa_cons (pe_glob (v := .ref (He.ga K "NoLand")) rfl T.NoLand.g rfl) pa_nil)))) (pss_one (ps_set (i := 1) sc_law_names.nd rfl (Or.inl rfl) (pe_op op_add_str (pv 1) pe_str))) pss_nil)
    (pss_cons (ps_if (pt_val (pe_callB (CI rfl List.mem_cons_self) (by rfl) T.m_isinstance (by decide +kernel) (pa_cons (pv 0) (pa_cons (pe_glob (v := .ref (He.ga K "NoFence")) rfl T.NoFence.g rfl) pa_nil)))) (pss_one (ps_set (i := 1) sc_law_names.nd rfl (Or.inl rfl) (pe_op op_add_str (pv 1) pe_str))) pss_nil)
    (pss_cons (ps_if (pt_not (pt_val (pe_callB (CI rfl List.mem_cons_self) (by rfl) T.m_isinstance (by decide +kernel) (pa_cons (pv 0) (pa_cons (pe_bltn (v := .ty "ValueError") (by rfl) T.m_ValueError (by decide +kernel) rfl) pa_nil))))) (pss_one (ps_set (i := 1) sc_law_names.nd rfl (Or.inl rfl) pe_str)) pss_nil)
    (pss_one (ps_ret (pv 1)))))))))))) ?_
  refine ⟨_, rfl, _, _, _, rfl, fun u r => r, k.y ("BadSize", false) (by simp), _, rfl, iteF ?_⟩
  refine ⟨_, rfl, _, _, _, rfl, fun u r => r, k.y ("BadFence", true) (by simp), _, rfl, iteT ?_⟩
  refine ⟨_, rfl, _, _, rfl, rfl, (by decide +kernel), ?_⟩
  refine ⟨_, rfl, _, _, _, rfl, fun u r => r, k.y ("TooMany", false) (by simp), _, rfl, iteF ?_⟩
  refine ⟨_, rfl, _, _, _, rfl, fun u r => r, k.y ("BadSpot", false) (by simp), _, rfl, iteF ?_⟩
  refine ⟨_, rfl, _, _, _, rfl, fun u r => r, k.y ("BadWay", false) (by simp), _, rfl, iteF ?_⟩
  refine ⟨_, rfl, _, _, _, rfl, fun u r => r, k.y ("NoLand", false) (by simp), _, rfl, iteF ?_⟩
  refine ⟨_, rfl, _, _, _, rfl, fun u r => r, k.y ("NoFence", false) (by simp), _, rfl, iteF ?_⟩
  refine ⟨_, rfl, _, _, _, rfl, fun u r => r, k.v, _, rfl, iteF ?_⟩
  refine ⟨_, rfl, ?_⟩
  have fin : ∀ z : Str, z = "fence " → Q (.str z) H := by
    rintro z rfl
    exact q
  exact fin _ (by decide +kernel)
theorem ok_law_names_BadSize (T : Txt K mg) : Tells P w K mg base "_law_names" (He.ga K "BadSize") "size " := by
  obtain ⟨fd, F⟩ := T.d_law_names
  have b := F.bindsN (ps := ["_law_e"]) (fun _ _ _ _ _ _ us hl => match us, hl with | [_], _ => rfl)
  obtain ⟨oc, od, dV, kV, doc, pm, an, cdv, ct, osl, rfl, lk, hcd, _, _⟩ := F.ex
  refine ⟨_, "_law_e", b, fun A outer s H args p Q E room pin hz hf e0 hb q => ?_⟩
  have k := T.kit_BadSize
  have CI : ∀ {X : Cx}, X.K = K → p ∈ X.pn → CallR X (.builtin "isinstance") (rIsE X.K (He.ga K "BadSize") p.1) := by
    rintro X rfl hp
    exact call_isP k.c hp hz hf
  refine tells_run (N := n_law_names) (vs := [.ref p.1]) (us := [.ref p.1]) lk hcd sc_law_names rfl room pin e0 hb (.cons rfl .nil)
    (pss_cons (ps_set (i := 1) sc_law_names.nd rfl (Or.inl rfl) pe_str)
    (pss_cons (ps_if (pt_val (pe_callB (CI rfl List.mem_cons_self) (by rfl) T.m_isinstance (by decide +kernel) (pa_cons (pv 0) (pa_cons (pe_glob (v := .ref (He.ga K "BadSize")) rfl T.BadSize.g rfl) pa_nil)))) (pss_one (ps_set (i := 1) sc_law_names.nd rfl (Or.inl rfl) (pe_op op_add_str (pv 1) pe_str))) pss_nil)
    (pss_cons (ps_if (pt_val (pe_callB (CI rfl List.mem_cons_self) (by rfl) T.m_isinstance (by decide +kernel) (pa_cons (pv 0) (pa_cons (pe_glob (v := .ref (He.ga K "BadFence")) rfl T.BadFence.g rfl) pa_nil)))) (pss_one (ps_set (i := 1) sc_law_names.nd rfl (Or.inl rfl) (pe_op op_add_str (pv 1) pe_str))) pss_nil)
    (pss_cons (ps_if (pt_val (pe_callB (CI rfl List.mem_cons_self) (by rfl) T.m_isinstance (by decide +kernel) (pa_cons (pv 0) (pa_cons (pe_glob (v := .ref (He.ga K "TooMany")) rfl T.TooMany.g rfl) pa_nil)))) (pss_one (ps_set (i := 1) sc_law_names.nd rfl (Or.inl rfl) (pe_op op_add_str (pv 1) pe_str))) pss_nil)
    (pss_cons (ps_if (pt_val (pe_callB (CI rfl List.mem_cons_self) (by rfl) T.m_isinstance (by decide +kernel) (pa_cons (pv 0) (pa_cons (pe_glob (v := .ref (He.ga K "BadSpot")) rfl T.BadSpot.g rfl) pa_nil)))) (pss_one (ps_set (i := 1) sc_law_names.nd rfl (Or.inl rfl) (pe_op op_add_str (pv 1) pe_str))) pss_nil)
    (pss_cons (ps_if (pt_val (pe_callB (CI rfl List.mem_cons_self) (by rfl) T.m_isinstance (by decide +kernel) (pa_cons (pv 0) (pa_cons (pe_glob (v := .ref (He.ga K "BadWay")) rfl T.BadWay.g rfl) pa_nil)))) (pss_one (ps_set (i := 1) sc_law_names.nd rfl (Or.inl rfl) (pe_op op_add_str (pv 1) pe_str))) pss_nil)
    (pss_cons (ps_if (pt_val (pe_callB (CI rfl List.mem_cons_self) (by rfl) T.m_isinstance (by decide +kernel) (pa_cons (pv 0) (pa_cons (pe_glob (v := .ref (He.ga K "NoLand")) rfl T.NoLand.g rfl) pa_nil)))) (pss_one (ps_set (i := 1) sc_law_names.nd rfl (Or.inl rfl) (pe_op op_add_str (pv 1) pe_str))) pss_nil)
    (pss_cons (ps_if (pt_val (pe_callB (CI rfl List.mem_cons_self) (by rfl) T.m_isinstance (by decide +kernel) (pa_cons (pv 0) (pa_cons (pe_glob (v := .ref (He.ga K "NoFence")) rfl T.NoFence.g rfl) pa_nil)))) (pss_one (ps_set (i := 1) sc_law_names.nd rfl (Or.inl rfl) (pe_op op_add_str (pv 1) pe_str))) pss_nil)
    (pss_cons (ps_if (pt_not (pt_val (pe_callB (CI rfl List.mem_cons_self) (by rfl) T.m_isinstance (by decide +kernel) (pa_cons (pv 0) (pa_cons (pe_bltn (v := .ty "ValueError") (by rfl) T.m_ValueError (by decide +kernel) rfl) pa_nil))))) (pss_one (ps_set (i := 1) sc_law_names.nd rfl (Or.inl rfl) pe_str)) pss_nil)
    (pss_one (ps_ret (pv 1)))))))))))) ?_
  refine ⟨_, rfl, _, _, _, rfl, fun u r => r, k.y ("BadSize", true) (by simp), _, rfl, iteT ?_⟩
  refine ⟨_, rfl, _, _, rfl, rfl, (by decide +kernel), ?_⟩
  refine ⟨_, rfl, _, _, _, rfl, fun u r => r, k.y ("BadFence", false) (by simp), _, rfl, iteF ?_⟩
  refine ⟨_, rfl, _, _, _, rfl, fun u r => r, k.y ("TooMany", false) (by simp), _, rfl, iteF ?_⟩
  refine ⟨_, rfl, _, _, _, rfl, fun u r => r, k.y ("BadSpot", false) (by simp), _, rfl, iteF ?_⟩
  refine ⟨_, rfl, _, _, _, rfl, fun u r => r, k.y ("BadWay", false) (by simp), _, rfl, iteF ?_⟩
  refine ⟨_, rfl, _, _, _, rfl, fun u r => r, k.y ("NoLand", false) (by simp), _, rfl, iteF ?_⟩
  refine ⟨_, rfl, _, _, _, rfl, fun u r => r, k.y ("NoFence", false) (by simp), _, rfl, iteF ?_⟩
  refine ⟨_, rfl, _, _, _, rfl, fun u r => r, k.v, _, rfl, iteF ?_⟩
  refine ⟨_, rfl, ?_⟩
  have fin : ∀ z : Str, z = "size " → Q (.str z) H := by
    rintro z rfl
    exact q
  exact fin _ (by decide +kernel)

/-! ## _law_fence_refused -/
abbrev n_law_fence_refused : List Str := ["_law_a", "_law_b", "_law_c", "_law_e"]
theorem sc_law_fence_refused : FnScope n_law_fence_refused ["_law_a", "_law_b", "_law_c"] (defScope s_law_fence_refused) := ⟨rfl, rfl, rfl, by decide +kernel, rfl, by decide +kernel, by decide +kernel⟩
def sp_law_fence_refused : Sp := fun vs H Q _ => ∃ x y b : V, vs = [x, y, b] ∧ Arg H x ∧ Arg H y ∧ Arg H b ∧ fenceOk x y b = false ∧ Q (.bl true) H
theorem ok_law_fence_refused (T : Txt K mg) (C_fence_of : Good P w K mg base (L2.CX P w) 4 "fence_of" ["a", "b", "c"] (sp_fence_of K)) :
    Good P w K mg base CX0 5 "_law_fence_refused" ["_law_a", "_law_b", "_law_c"] sp_law_fence_refused := by
  obtain ⟨fd, F⟩ := T.d_law_fence_refused
  obtain ⟨fdn, Fn⟩ := T.d_law_names
  have NAMES_kp := Fn.kp
  have NB : Tells P w K mg base "_law_names" (He.ga K "BadFence") "fence " := ok_law_names_BadFence T
  refine ⟨T.g_law_fence_refused, F.kp, fd, F.bindsN (fun _ _ _ _ _ _ us hl => match us, hl with | [_, _, _], _ => rfl), F.ok sc_law_fence_refused (fun vs H Q E h => ?_) (fun cdv A outer s H vs Q E hr h => ⟨_, PSs.nox (pss_cons (ps_try_as (i := 3) (Wout := fun _ _ _ _ => False) rfl rfl sc_law_fence_refused.nd rfl rfl ⟨rfl, by decide, Or.inl T.LandError.g⟩ takes0 (fun W pn xe tk _ => (pss_one (ps_expr (pe_ownS C_fence_of hr tk rfl (pa_cons (pv 0) (pa_cons (pv 1) (pa_cons (pv 2) pa_nil))))))) (fun a oe cls d pn hz hf => (pss_one (ps_ret (pe_cmpR op_eq (pe_tell T.g_law_names NAMES_kp hz hf hr.depth rfl (pa_cons (pv 3) pa_nil)) pe_str (nomark _))))))
    (pss_one (ps_ret pe_bl))), ?_⟩)⟩
  · obtain ⟨x, y, b, rfl, _⟩ := h
    rfl
  · obtain ⟨x, y, b, rfl, ax, ay, ab, bad, q⟩ := h
    refine ⟨_, rfl, _, rfl, _, rfl, x, y, b, rfl, ax, ay, ab, fun _ => ⟨true, T.ex_BadFence_LandError, fun _ a0 _ => ?_, fun z => Bool.noConfusion z⟩, fun z => ?_⟩
    · exact ⟨_, rfl, rfl, rfl, _, _, rfl, NB, rfl, q⟩
    · rw [bad] at z
      cases z

/-! ## _law_edges_refused -/
abbrev n_law_edges_refused : List Str := ["_law_size", "_law_e"]
theorem sc_law_edges_refused : FnScope n_law_edges_refused ["_law_size"] (defScope s_law_edges_refused) := ⟨rfl, rfl, rfl, by decide +kernel, rfl, by decide +kernel, by decide +kernel⟩
def sp_law_edges_refused : Sp := fun vs H Q _ => ∃ x : V, vs = [x] ∧ Arg H x ∧ within x 1 1000 = false ∧ Q (.bl true) H
theorem ok_law_edges_refused (T : Txt K mg) (C_edges : Good P w K mg base (L2.CX P w) 4 "edges" ["size"] (sp_edges K)) :
    Good P w K mg base CX0 5 "_law_edges_refused" ["_law_size"] sp_law_edges_refused := by
  obtain ⟨fd, F⟩ := T.d_law_edges_refused
  obtain ⟨fdn, Fn⟩ := T.d_law_names
  have NAMES_kp := Fn.kp
  have NB : Tells P w K mg base "_law_names" (He.ga K "BadSize") "size " := ok_law_names_BadSize T
  refine ⟨T.g_law_edges_refused, F.kp, fd, F.bindsN (fun _ _ _ _ _ _ us hl => match us, hl with | [_], _ => rfl), F.ok sc_law_edges_refused (fun vs H Q E h => ?_) (fun cdv A outer s H vs Q E hr h => ⟨_, PSs.nox (pss_cons (ps_try_as (i := 1) (Wout := fun _ _ _ _ => False) rfl rfl sc_law_edges_refused.nd rfl rfl ⟨rfl, by decide, Or.inl T.LandError.g⟩ takes0 (fun W pn xe tk _ => (pss_one (ps_expr (pe_ownS C_edges hr tk rfl (pa_cons (pv 0) pa_nil))))) (fun a oe cls d pn hz hf => (pss_one (ps_ret (pe_cmpR op_eq (pe_tell T.g_law_names NAMES_kp hz hf hr.depth rfl (pa_cons (pv 1) pa_nil)) pe_str (nomark _))))))
    (pss_one (ps_ret pe_bl))), ?_⟩)⟩
  · obtain ⟨x, rfl, _⟩ := h
    rfl
  · obtain ⟨x, rfl, ax, bad, q⟩ := h
    refine ⟨_, rfl, x, rfl, ax, fun _ => ⟨true, T.ex_BadSize_LandError, fun _ a0 _ => ?_, fun z => Bool.noConfusion z⟩, fun n _ z => ?_⟩
    · exact ⟨_, rfl, rfl, rfl, _, _, rfl, NB, rfl, q⟩
    · rw [bad] at z
      cases z

/-! ## _law_tuple -/
abbrev n_law_tuple : List Str := ["_law_found", "_law_due"]
theorem sc_law_tuple : FnScope n_law_tuple ["_law_found", "_law_due"] (defScope s_law_tuple) := ⟨rfl, rfl, rfl, by decide +kernel, rfl, by decide +kernel, by decide +kernel⟩
def sp_law_tuple : Sp := fun vs H Q _ => ∃ (p q : Addr) (a b c : Int), vs = [.ref p, .ref q] ∧ H p = some (.tup [.int a, .int b, .int c]) ∧ H q = some (.tup [.int a, .int b, .int c]) ∧ Q (.bl true) H
theorem ok_law_tuple (T : Txt K mg) (C_law_whole : Good P w K mg base CX0 1 "_law_whole" ["_law_thing"] sp_num) : Good P w K mg base CX0 2 "_law_tuple" ["_law_found", "_law_due"] sp_law_tuple := by
  obtain ⟨fd, F⟩ := T.d_law_tuple
  refine ⟨T.g_law_tuple, F.kp, fd, F.bindsN (fun _ _ _ _ _ _ us hl => match us, hl with | [_, _], _ => rfl), F.ok sc_law_tuple (fun vs H Q E h => ?_) (fun cdv A outer s H vs Q E hr h => ⟨_, PSs.nox (pss_cons (ps_if (PW.pt (pw_or (pt_not (pt_val (pe_callB call_isi (by rfl) T.m_isinstance (by decide +kernel) (pa_cons (pv 0) (pa_cons (pe_bltn (v := .ty "tuple") (by rfl) T.m_tuple (by decide +kernel) rfl) pa_nil))))) (pw_or (pt_cmpR op_ne (pe_callB call_len_seq (by rfl) T.m_len PySem.boot_len (pa_cons (pv 0) pa_nil)) pe_int (nomark _)) (pw_or1 (pt_cmpR (op_neD hr.units) (pv 0) (pv 1) (nomark _)))))) (pss_one (ps_ret pe_bl)) pss_nil)
    (pss_one (ps_ret (pe_and (pe_own C_law_whole hr rfl (pa_cons (pe_ix ix_tup (pv 0) pe_int (fun _ _ => rfl)) pa_nil)) (pe_and (pe_own C_law_whole hr rfl (pa_cons (pe_ix ix_tup (pv 0) pe_int (fun _ _ => rfl)) pa_nil)) (pe_one (pe_own C_law_whole hr rfl (pa_cons (pe_ix ix_tup (pv 0) pe_int (fun _ _ => rfl)) pa_nil)))))))), ?_⟩)⟩
  · obtain ⟨p, q, a, b, c, rfl, _⟩ := h
    rfl
  · obtain ⟨p, q, a, b, c, rfl, hp, hq, k⟩ := h
    have hT : SqT K H p [.int a, .int b, .int c] := SqT.of hp
    refine ⟨_, rfl, _, _, _, _, true, rfl, .ty _, .base (.tup hp), kit_ty (by decide +kernel), _, rfl, iteF ?_⟩
    refine ⟨_, rfl, p, _, rfl, .inr hT, rfl, _, rfl, iteF ?_⟩
    refine ⟨_, rfl, _, rfl, _, _, dp_three hp, dp_three hq, rfl, rfl, _, rfl, ?_⟩
    have e : PyData.eqv (.tuple [.int a, .int b, .int c]) (.tuple [.int a, .int b, .int c]) = true := SeqAt.eqv_refl _ rfl
    rw [e]
    refine iteF ?_
    refine ⟨_, rfl, p, _, 0, .int a, rfl, rfl, hT, rfl, .int a, rfl, .int a, _, rfl, iteT ?_⟩
    refine ⟨_, rfl, p, _, 1, .int b, rfl, rfl, hT, rfl, .int b, rfl, .int b, _, rfl, iteT ?_⟩
    exact ⟨_, rfl, p, _, 2, .int c, rfl, rfl, hT, rfl, .int c, rfl, .int c, k⟩

/-! ## _law_edges_good -/
abbrev n_law_edges_good : List Str := ["_law_size", "_law_found", "_law_due", "_law_k"]
theorem sc_law_edges_good : FnScope n_law_edges_good ["_law_size"] (defScope s_law_edges_good) := ⟨rfl, rfl, rfl, by decide +kernel, rfl, by decide +kernel, by decide +kernel⟩
def sp_law_edges_good : Sp := fun vs H Q _ => ∃ x : V, vs = [x] ∧ Arg H x ∧ ∀ H', Same H H' → Q (.bl true) H'
theorem Edges.dp {K : PySem.W.Frag} {n : Int} {H H' : Hp} {l p0 p1 p2 p3 : Addr} (e : Edges n H H' l p0 p1 p2 p3) : Dp K H' (.ref l) (.list [.tuple [.int (-1), .int 0, .int 0], .tuple [.int 0, .int (-1), .int 0], .tuple [.int 1, .int 0, .int n], .tuple [.int 0, .int 1, .int n]]) :=
  .lst (SqL.of e.lst) (.cons (dp_three e.e0) (.cons (dp_three e.e1) (.cons (dp_three e.e2) (.cons (dp_three e.e3) .nil))))
theorem Edges.up {n : Int} {H H' H2 : Hp} {l p0 p1 p2 p3 : Addr} (e : Edges n H H' l p0 p1 p2 p3) (s : Same H' H2) : Edges n H H2 l p0 p1 p2 p3 :=
  ⟨e.same.trans s, e.new, s _ _ e.lst, s _ _ e.e0, s _ _ e.e1, s _ _ e.e2, s _ _ e.e3⟩
theorem ok_law_edges_good (T : Txt K mg) (C_law_whole : Good P w K mg base CX0 1 "_law_whole" ["_law_thing"] sp_num) (C_edges : Good P w K mg base (L2.CX P w) 4 "edges" ["size"] (sp_edges K))
    (C_law_edges_refused : Good P w K mg base CX0 5 "_law_edges_refused" ["_law_size"] sp_law_edges_refused) (C_law_tuple : Good P w K mg base CX0 2 "_law_tuple" ["_law_found", "_law_due"] sp_law_tuple) :
    Good P w K mg base CX0 6 "_law_edges_good" ["_law_size"] sp_law_edges_good := by
  obtain ⟨fd, F⟩ := T.d_law_edges_good
  refine ⟨T.g_law_edges_good, F.kp, fd, F.bindsN (fun _ _ _ _ _ _ us hl => match us, hl with | [_], _ => rfl), F.ok sc_law_edges_good (fun vs H Q E h => ?_) (fun cdv A outer s H vs Q E hr h => ⟨_, PSs.nox (pss_cons (ps_if (PW.pt (pw_or (pt_not (pt_val (pe_own C_law_whole (hr.mono (by decide)) rfl (pa_cons (pv 0) pa_nil)))) (pw_or1 (pt_not (pt_chain op_le op_le pe_int (pv 0) pe_int))))) (pss_one (ps_ret (pe_own C_law_edges_refused hr rfl (pa_cons (pv 0) pa_nil)))) pss_nil)
    (pss_cons (ps_set (i := 1) sc_law_edges_good.nd rfl (Or.inl rfl) (pe_ownL C_edges (hr.mono (by decide)) rfl (pa_cons (pv 0) pa_nil)))
    (pss_cons (ps_set (i := 2) sc_law_edges_good.nd rfl (Or.inl rfl) (pe_lst (pa_cons (pe_tup (pa_cons (pe_un un_neg pe_int) (pa_cons pe_int (pa_cons pe_int pa_nil)))) (pa_cons (pe_tup (pa_cons pe_int (pa_cons (pe_un un_neg pe_int) (pa_cons pe_int pa_nil)))) (pa_cons (pe_tup (pa_cons pe_int (pa_cons pe_int (pa_cons (pv 0) pa_nil)))) (pa_cons (pe_tup (pa_cons pe_int (pa_cons pe_int (pa_cons (pv 0) pa_nil)))) pa_nil))))))
    (pss_cons (ps_if (PW.pt (pw_or (pt_not (pt_val (pe_callB call_isi (by rfl) T.m_isinstance (by decide +kernel) (pa_cons (pv 1) (pa_cons (pe_bltn (v := .ty "list") (by rfl) T.m_list (by decide +kernel) rfl) pa_nil))))) (pw_or1 (pt_cmpR op_ne (pe_callB call_len_seq (by rfl) T.m_len PySem.boot_len (pa_cons (pv 1) pa_nil)) pe_int (nomark _))))) (pss_one (ps_ret pe_bl)) pss_nil)
    (pss_cons (ps_for PassesOwn.never rfl (pi_range1 (by rfl) T.m_range (pa_cons pe_int pa_nil)) (pg_name (i := 3) sc_law_edges_good.nd rfl (Or.inl rfl))
    (pss_one (ps_if (pt_not (pt_val (pe_own C_law_tuple (hr.mono (by decide)) rfl (pa_cons (pe_ix ix_list (pv 1) (pv 3) (fun _ _ => rfl)) (pa_cons (pe_ix ix_list (pv 2) (pv 3) (fun _ _ => rfl)) pa_nil))))) (pss_one (ps_ret pe_bl)) pss_nil)))
    (pss_cons (ps_expr (pe_bm0 PySem.F.plainAttrs_list PySem.F.slot_list_clear PySem.F.type_list_clear mt_clear (pv 1)))
    (pss_one (ps_ret (pe_cmpR (op_eqD hr.units) (pe_ownL C_edges (hr.mono (by decide)) rfl (pa_cons (pv 0) pa_nil)) (pv 2) (nomark _)))))))))), ?_⟩)⟩
  · obtain ⟨x, rfl, _⟩ := h
    rfl
  · obtain ⟨x, rfl, ax, q⟩ := h
    refine if_cut (fun σ' H' => H = H' ∧ σ' = [some x, none, none, none] ∧ within x 1 1000 = true) ?_ ?_
    · rintro σ' H' ⟨rfl, rfl, hx⟩
      obtain ⟨n, rfl⟩ := within_int hx
      refine ⟨_, rfl, .int n, rfl, .int n, fun z => (by rw [hx] at z; cases z), ?_⟩
      intro n' en _ H1 l p0 p1 p2 p3 ed
      cases en
      -- what is due
      refine ⟨1, rfl, by show 3 ≤ sizeLine; decide, fun d0 h0 => ?_⟩
      refine ⟨1, rfl, by show 3 ≤ sizeLine; decide, fun d1 h1 => ?_⟩
      refine ⟨_, rfl, by show 3 ≤ sizeLine; decide, fun d2 h2 => ?_⟩
      refine ⟨_, rfl, by show 3 ≤ sizeLine; decide, fun d3 h3 => ?_⟩
      refine ⟨by show 4 ≤ sizeLine; decide, fun dl hl => ?_⟩
      have s0 := same_upd (o := .tup [.int (-1), .int 0, .int 0]) h0
      have s1 := same_upd (o := .tup [.int 0, .int (-1), .int 0]) h1
      have s2 := same_upd (o := .tup [.int 1, .int 0, .int n]) h2
      have s3 := same_upd (o := .tup [.int 0, .int 1, .int n]) h3
      have s4 := same_upd (o := .lst [.ref d0, .ref d1, .ref d2, .ref d3]) hl
      have du : Edges n H1 (upd (upd (upd (upd (upd H1 d0 (.tup [.int (-1), .int 0, .int 0])) d1 (.tup [.int 0, .int (-1), .int 0])) d2 (.tup [.int 1, .int 0, .int n])) d3 (.tup [.int 0, .int 1, .int n])) dl (.lst [.ref d0, .ref d1, .ref d2, .ref d3])) dl d0 d1 d2 d3 :=
        ⟨(((s0.trans s1).trans s2).trans s3).trans s4, (((s0.trans s1).trans s2).trans s3).free hl, upd_same, s4 _ _ (s3 _ _ (s2 _ _ (s1 _ _ upd_same))), s4 _ _ (s3 _ _ (s2 _ _ upd_same)), s4 _ _ (s3 _ _ upd_same), s4 _ _ upd_same⟩
      revert du
      generalize upd (upd (upd (upd (upd H1 d0 (.tup [.int (-1), .int 0, .int 0])) d1 (.tup [.int 0, .int (-1), .int 0])) d2 (.tup [.int 1, .int 0, .int n])) d3 (.tup [.int 0, .int 1, .int n])) dl (.lst [.ref d0, .ref d1, .ref d2, .ref d3]) = H2
      intro du
      have ed2 := ed.up du.same
      have hl2 : SqL K H2 l [.ref p0, .ref p1, .ref p2, .ref p3] := SqL.of ed2.lst
      have hd2 : SqL K H2 dl [.ref d0, .ref d1, .ref d2, .ref d3] := SqL.of du.lst
      refine ⟨_, rfl, _, _, _, _, true, rfl, .ty _, .base (.lst ed2.lst), kit_ty (by decide +kernel), _, rfl, iteF ?_⟩
      refine ⟨_, rfl, l, _, rfl, .inl hl2, rfl, _, rfl, iteF ?_⟩
      refine ⟨4, rfl, by decide, by decide, for_range (lo := 0) (n := 4) (fun i σ H' => H2 = H' ∧ ∃ x3, σ = [some (.int n), some (.ref l), some (.ref dl), x3]) ⟨rfl, none, rfl⟩ ?_ ?_⟩
      · rintro i σ H' hi ⟨rfl, x3, rfl⟩
        match i, hi with
        | 0, _ => exact ⟨_, rfl, _, rfl, l, _, _, .ref p0, rfl, rfl, hl2, rfl, _, rfl, _, rfl, dl, _, _, .ref d0, rfl, rfl, hd2, rfl, p0, d0, _, _, _, rfl, ed2.e0, du.e0, _, rfl, iteF ⟨rfl, _, rfl⟩⟩
        | 1, _ => exact ⟨_, rfl, _, rfl, l, _, _, .ref p1, rfl, rfl, hl2, rfl, _, rfl, _, rfl, dl, _, _, .ref d1, rfl, rfl, hd2, rfl, p1, d1, _, _, _, rfl, ed2.e1, du.e1, _, rfl, iteF ⟨rfl, _, rfl⟩⟩
        | 2, _ => exact ⟨_, rfl, _, rfl, l, _, _, .ref p2, rfl, rfl, hl2, rfl, _, rfl, _, rfl, dl, _, _, .ref d2, rfl, rfl, hd2, rfl, p2, d2, _, _, _, rfl, ed2.e2, du.e2, _, rfl, iteF ⟨rfl, _, rfl⟩⟩
        | 3, _ => exact ⟨_, rfl, _, rfl, l, _, _, .ref p3, rfl, rfl, hl2, rfl, _, rfl, _, rfl, dl, _, _, .ref d3, rfl, rfl, hd2, rfl, p3, d3, _, _, _, rfl, ed2.e3, du.e3, _, rfl, iteF ⟨rfl, _, rfl⟩⟩
      · rintro σ HH ⟨rfl, x3, rfl⟩
        -- found.clear()
        refine ⟨_, rfl, .inl ⟨rfl, _, .inl (.inl ed2.lst)⟩, l, _, rfl, rfl, ed2.lst, ?_⟩
        have ne : dl ≠ l := (ne_of_none ed.lst du.new).symm
        have kept : ∀ b xs, H2 b = some (.tup xs) → upd H2 l (.lst []) b = some (.tup xs) := fun b xs e => (upd_ne (ne_of e ed2.lst (by intro z; cases z))).trans e
        have du3 : Edges n H1 (upd H2 l (.lst [])) dl d0 d1 d2 d3 → True := fun _ => trivial
        have sH : Same H (upd H2 l (.lst [])) := fun b o e => by
          have nb : b ≠ l := ne_of_none e ed.new
          rw [upd_ne nb]
          exact du.same _ _ (ed.same _ _ e)
        refine ⟨_, rfl, .int n, rfl, .int n, fun z => (by rw [hx] at z; cases z), ?_⟩
        intro n2 en2 _ H4 l4 q0 q1 q2 q3 e4
        cases en2
        have k4 : ∀ b xs, H2 b = some (.tup xs) → H4 b = some (.tup xs) := fun b xs e => e4.same _ _ (kept b xs e)
        have hdl : H4 dl = some (.lst [.ref d0, .ref d1, .ref d2, .ref d3]) := e4.same _ _ ((upd_ne ne).trans du.lst)
        have dp2 : Dp K H4 (.ref dl) (.list [.tuple [.int (-1), .int 0, .int 0], .tuple [.int 0, .int (-1), .int 0], .tuple [.int 1, .int 0, .int n], .tuple [.int 0, .int 1, .int n]]) :=
          .lst (SqL.of hdl) (.cons (dp_three (k4 _ _ du.e0)) (.cons (dp_three (k4 _ _ du.e1)) (.cons (dp_three (k4 _ _ du.e2)) (.cons (dp_three (k4 _ _ du.e3)) .nil))))
        refine ⟨_, rfl, _, _, e4.dp, dp2, rfl, rfl, ?_⟩
        rw [SeqAt.eqv_refl _ rfl]
        exact q _ (sH.trans e4.same)
    · intro go
      refine ⟨_, rfl, x, rfl, ax, _, rfl, ?_⟩
      cases c : isNum x with
      | false =>
        refine iteT (iteT ?_)
        have bad : within x 1 1000 = false := by cases x <;> first | rfl | cases c
        exact ⟨_, rfl, x, rfl, ax, bad, q _ (Same.refl _)⟩
      | true =>
        obtain ⟨i, rfl⟩ : ∃ i, x = .int i := by cases x <;> first | exact ⟨_, rfl⟩ | cases c
        refine iteF ?_
        refine ⟨_, rfl, _, _, rfl, rfl, _, rfl, ?_⟩
        cases c1 : decide ((1 : Int) ≤ i) with
        | false =>
          refine iteF ⟨_, rfl, iteT ?_⟩
          have l1 := of_decide_eq_false c1
          exact ⟨_, rfl, .int i, rfl, .int i, within_not (.inl (by omega)), q _ (Same.refl _)⟩
        | true =>
          have l1 := of_decide_eq_true c1
          refine iteT ⟨_, _, rfl, rfl, _, rfl, ?_⟩
          cases c2 : decide (i ≤ (1000 : Int)) with
          | false =>
            refine iteT ?_
            have l2 := of_decide_eq_false c2
            exact ⟨_, rfl, .int i, rfl, .int i, within_not (.inr (by omega)), q _ (Same.refl _)⟩
          | true =>
            have l2 := of_decide_eq_true c2
            exact iteF (go _ _ ⟨rfl, rfl, within_of l1 l2⟩)

/-! ## law -/
abbrev n_law : List Str := ["_law_script", "_law_size", "_law_numbers", "_law_way", "_law_at", "_law_most", "_law_far", "_law_some"]
theorem sc_law : FnScope n_law ["_law_script"] (defScope s_law) := ⟨rfl, rfl, rfl, by decide +kernel, rfl, by decide +kernel, by decide +kernel⟩
def sp_law (K : PySem.W.Frag) : Sp := fun vs H Q _ => ∃ (a : Addr) (ns : List Int), vs = [.ref a] ∧ SqL K H a (ns.map V.int) ∧ ns.length ≤ 63 ∧ ∀ H', Q (.bl true) H'
def flat : V → Bool
  | .int _ => true
  | .bl _ => true
  | .non => true
  | .str _ => true
  | _ => false
theorem flat_arg {H : Hp} {v : V} (h : flat v = true) : Arg H v := by
  cases v with
  | int i => exact .int i
  | bl b => exact .bl b
  | non => exact .non
  | str z => exact .str z
  | _ => cases h
theorem all_of {p : V → Bool} {xs : List V} (h : xs.all p = true) {v : V} (hv : v ∈ xs) : p v = true := List.all_eq_true.mp h v hv
/-- the greatest number at each of the three places -/
def mostAt : Nat → Int
  | 2 => 1000000
  | _ => 1000
theorem bad_put {a b c : Int} {v : V} {j : Nat} (hj : j < 3) (h : within v (-(mostAt j)) (mostAt j) = false) : ∃ x y z : V, [V.int a, V.int b, V.int c].set j v = [x, y, z] ∧ fenceOk x y z = false ∧ (flat v = true → flat x = true ∧ flat y = true ∧ flat z = true) := by
  match j, hj with
  | 0, _ => exact ⟨v, .int b, .int c, rfl, by
      have h : within v (-1000) 1000 = false := h
      unfold fenceOk
      rw [h, Bool.false_and, Bool.false_and, Bool.false_and], fun f => ⟨f, rfl, rfl⟩⟩
  | 1, _ => exact ⟨.int a, v, .int c, rfl, by
      have h : within v (-1000) 1000 = false := h
      unfold fenceOk
      rw [h, Bool.and_false, Bool.false_and, Bool.false_and], fun f => ⟨rfl, f, rfl⟩⟩
  | 2, _ => exact ⟨.int a, .int b, v, rfl, by
      have h : within v (-1000000) 1000000 = false := h
      unfold fenceOk
      rw [h, Bool.and_false], fun f => ⟨rfl, rfl, f⟩⟩
theorem intAt {xs : List V} {n m : Int} {M : Int} (hm : 0 < m) (hl : (xs.length : Int) = m) (h : xs.all (fun v => within v (-M) M) = true) : ∃ i, atI xs (n % m) = some (.int i) ∧ -M ≤ i ∧ i ≤ M := by
  obtain ⟨v, hv, mem⟩ := menu_mem (n := n) hm hl
  have hw := all_of h mem
  obtain ⟨i, rfl⟩ := within_int hw
  exact ⟨i, hv, within_le hw⟩
theorem ok_law {fd : FuncData} (T : Txt K mg) (F : FnP K "law" s_law fd) (C_law_cell_at : Good P w K mg base CX0 1 "_law_cell_at" ["_law_script", "_law_k"] (sp_cell K))
    (C_law_edges_good : Good P w K mg base CX0 6 "_law_edges_good" ["_law_size"] sp_law_edges_good)
    (C_law_fence_refused : Good P w K mg base CX0 5 "_law_fence_refused" ["_law_a", "_law_b", "_law_c"] sp_law_fence_refused)
    (C_law_tuple : Good P w K mg base CX0 2 "_law_tuple" ["_law_found", "_law_due"] sp_law_tuple)
    (C_fence_of : Good P w K mg base (L2.CX P w) 4 "fence_of" ["a", "b", "c"] (sp_fence_of K)) :
    FnOk P w K mg base CX0 (6 + 1) (He.ga K "law") fd ["_law_script"] (sp_law K) := by
  refine F.ok sc_law (fun vs H Q E h => ?_) (fun cdv A outer s H vs Q E hr h => ⟨_, PSs.nox (pss_cons (ps_set (i := 1) sc_law.nd rfl (Or.inl rfl) (pe_op op_sub (pe_op op_mod (pe_own C_law_cell_at (hr.mono (by decide)) rfl (pa_cons (pv 0) (pa_cons pe_int pa_nil))) pe_int) pe_int))
    (pss_cons (ps_if (pt_cmpR op_eq (pe_op op_mod (pe_own C_law_cell_at (hr.mono (by decide)) rfl (pa_cons (pv 0) (pa_cons pe_int pa_nil))) pe_int) pe_int (nomark _)) (pss_one (ps_set (i := 1) sc_law.nd rfl (Or.inl rfl) (pe_ix ix_list (pe_lst (pa_cons pe_bl (pa_cons pe_non (pa_cons pe_str (pa_cons pe_int (pa_cons pe_int (pa_cons pe_int (pa_cons pe_int (pa_cons (pe_un un_neg (pe_op op_pow pe_int pe_int)) pa_nil))))))))) (pe_op op_mod (pe_op op_fdiv (pe_own C_law_cell_at (hr.mono (by decide)) rfl (pa_cons (pv 0) (pa_cons pe_int pa_nil))) pe_int) pe_int) (fun _ _ => rfl)))) pss_nil)
    (pss_cons (ps_if (pt_not (pt_val (pe_own C_law_edges_good hr rfl (pa_cons (pv 1) pa_nil)))) (pss_one (ps_ret pe_bl)) pss_nil)
    (pss_cons (ps_set (i := 2) sc_law.nd rfl (Or.inl rfl) (pe_lst (pa_cons (pe_op op_sub (pe_op op_mod (pe_own C_law_cell_at (hr.mono (by decide)) rfl (pa_cons (pv 0) (pa_cons pe_int pa_nil))) pe_int) pe_int) (pa_cons (pe_op op_sub (pe_op op_mod (pe_own C_law_cell_at (hr.mono (by decide)) rfl (pa_cons (pv 0) (pa_cons pe_int pa_nil))) pe_int) pe_int) pa_nil))))
    (pss_cons (ps_expr (pe_bm PySem.F.plainAttrs_list PySem.F.slot_list_append PySem.F.type_list_append mt_append (pv 2) (pa_cons (pe_op op_sub (pe_op op_mod (pe_own C_law_cell_at (hr.mono (by decide)) rfl (pa_cons (pv 0) (pa_cons pe_int pa_nil))) pe_int) pe_int) pa_nil)))
    (pss_cons (ps_set (i := 3) sc_law.nd rfl (Or.inl rfl) (pe_own C_law_cell_at (hr.mono (by decide)) rfl (pa_cons (pv 0) (pa_cons pe_int pa_nil))))
    (pss_cons (ps_if (pt_cmpR op_eq (pe_op op_mod (pv 3) pe_int) pe_int (nomark _)) (pss_one (ps_set (i := 2) sc_law.nd rfl (Or.inl rfl) (pe_lst (pa_cons (pe_op op_sub (pe_op op_mod (pe_op op_fdiv (pv 3) pe_int) pe_int) pe_int) (pa_cons (pe_op op_sub (pe_op op_mod (pe_op op_fdiv (pv 3) pe_int) pe_int) pe_int) (pa_cons (pe_op op_sub (pe_op op_mod (pe_op op_fdiv (pv 3) pe_int) pe_int) pe_int) pa_nil)))))) pss_nil)
    (pss_cons (ps_if (pt_cmpR op_eq (pe_op op_mod (pv 3) pe_int) pe_int (nomark _)) (pss_one (ps_set (i := 2) sc_law.nd rfl (Or.inl rfl) (pe_lst (pa_cons (pe_ix ix_list (pe_lst (pa_cons pe_int (pa_cons (pe_un un_neg pe_int) pa_nil))) (pe_op op_mod (pe_op op_fdiv (pv 3) pe_int) pe_int) (fun _ _ => rfl)) (pa_cons (pe_ix ix_list (pe_lst (pa_cons pe_int (pa_cons (pe_un un_neg pe_int) (pa_cons pe_int pa_nil)))) (pe_op op_mod (pe_op op_fdiv (pv 3) pe_int) pe_int) (fun _ _ => rfl)) (pa_cons (pe_ix ix_list (pe_lst (pa_cons pe_int (pa_cons (pe_un un_neg pe_int) pa_nil))) (pe_op op_mod (pe_op op_fdiv (pv 3) pe_int) pe_int) (fun _ _ => rfl)) pa_nil)))))) pss_nil)
    (pss_cons (ps_set (i := 4) sc_law.nd rfl (Or.inl rfl) (pe_op op_mod (pe_op op_fdiv (pe_own C_law_cell_at (hr.mono (by decide)) rfl (pa_cons (pv 0) (pa_cons pe_int pa_nil))) pe_int) pe_int))
    (pss_cons (ps_if (pt_cmpR op_eq (pe_op op_mod (pe_own C_law_cell_at (hr.mono (by decide)) rfl (pa_cons (pv 0) (pa_cons pe_int pa_nil))) pe_int) pe_int (nomark _)) (pss_cons (ps_set (i := 5) sc_law.nd rfl (Or.inl rfl) (pe_ix ix_list (pe_lst (pa_cons pe_int (pa_cons pe_int (pa_cons pe_int pa_nil)))) (pv 4) (fun _ _ => rfl)))
    (pss_cons (ps_set (i := 6) sc_law.nd rfl (Or.inl rfl) (pe_op op_mod (pe_op op_fdiv (pe_own C_law_cell_at (hr.mono (by decide)) rfl (pa_cons (pv 0) (pa_cons pe_int pa_nil))) pe_int) pe_int))
    (pss_cons (ps_set (i := 7) sc_law.nd rfl (Or.inl rfl) (pe_lst (pa_cons (pe_op op_add (pv 5) pe_int) (pa_cons (pe_op op_sub (pe_un un_neg pe_int) (pv 5)) (pa_cons (pe_op op_add (pe_op op_add (pv 5) pe_int) (pv 6)) (pa_cons (pe_op op_sub (pe_op op_sub (pe_un un_neg pe_int) (pv 5)) (pv 6)) (pa_cons pe_bl (pa_cons pe_non (pa_cons pe_str (pa_cons pe_bl pa_nil))))))))))
    (pss_cons (ps_asg (pe_ix ix_list (pv 7) (pe_op op_mod (pe_own C_law_cell_at (hr.mono (by decide)) rfl (pa_cons (pv 0) (pa_cons pe_int pa_nil))) pe_int) (fun _ _ => rfl)) (pg_sub (pv 2) (pv 4) set_list))
    (pss_one (ps_ret (pe_own C_law_fence_refused (hr.mono (by decide)) rfl (pa_cons (pe_ix ix_list (pv 2) pe_int (fun _ _ => rfl)) (pa_cons (pe_ix ix_list (pv 2) pe_int (fun _ _ => rfl)) (pa_cons (pe_ix ix_list (pv 2) pe_int (fun _ _ => rfl)) pa_nil)))))))))) pss_nil)
    (pss_cons (ps_if (PW.pt (pw_and (pt_cmpR op_eq (pe_ix ix_list (pv 2) pe_int (fun _ _ => rfl)) pe_int (nomark _)) (pw_and1 (pt_cmpR op_eq (pe_ix ix_list (pv 2) pe_int (fun _ _ => rfl)) pe_int (nomark _))))) (pss_one (ps_ret (pe_own C_law_fence_refused (hr.mono (by decide)) rfl (pa_cons pe_int (pa_cons pe_int (pa_cons (pe_ix ix_list (pv 2) pe_int (fun _ _ => rfl)) pa_nil)))))) pss_nil)
    (pss_one (ps_ret (pe_own C_law_tuple (hr.mono (by decide)) rfl (pa_cons (pe_ownL C_fence_of (hr.mono (by decide)) rfl (pa_cons (pe_ix ix_list (pv 2) pe_int (fun _ _ => rfl)) (pa_cons (pe_ix ix_list (pv 2) pe_int (fun _ _ => rfl)) (pa_cons (pe_ix ix_list (pv 2) pe_int (fun _ _ => rfl)) pa_nil)))) (pa_cons (pe_tup (pa_cons (pe_ix ix_list (pv 2) pe_int (fun _ _ => rfl)) (pa_cons (pe_ix ix_list (pv 2) pe_int (fun _ _ => rfl)) (pa_cons (pe_ix ix_list (pv 2) pe_int (fun _ _ => rfl)) pa_nil)))) pa_nil)))))))))))))))), ?_⟩)
  · obtain ⟨a, ns, rfl, _⟩ := h
    rfl
  · obtain ⟨a, ns, rfl, hS, hlen, q⟩ := h
    refine ⟨.ref a, rfl, a, ns, 0, rfl, hS, Int.le_refl 0, _, _, rfl, rfl, (by show (0 : Int) < 1005; decide), _, _, rfl, rfl, gName_go ?_⟩
    refine if_cut (fun σ H' => ∃ v, σ = [some (.ref a), some v, none, none, none, none, none, none] ∧ flat v = true ∧ Same H H') ?_ ?_
    · rintro σ H1 ⟨v, rfl, fv, s1⟩
      refine ⟨_, rfl, v, rfl, flat_arg fv, fun H2 s2 => ⟨_, rfl, iteF (next_go ?_)⟩⟩
      have t2 : Same H H2 := s1.trans s2
      -- the three numbers
      refine ⟨.ref a, rfl, a, ns, 2, rfl, t2.seq hS, by decide, _, _, rfl, rfl, (by show (0 : Int) < 2001; decide), _, _, rfl, rfl, ?_⟩
      refine ⟨.ref a, rfl, a, ns, 3, rfl, t2.seq hS, by decide, _, _, rfl, rfl, (by show (0 : Int) < 2001; decide), _, _, rfl, rfl, by show 2 ≤ sizeLine; decide, fun d hd => gName_go ?_⟩
      have t3 : Same H (upd H2 d (.lst [.int (cell ns 2 % 2001 - 1000), .int (cell ns 3 % 2001 - 1000)])) := t2.trans (same_upd hd)
      refine ⟨_, rfl, .inl ⟨rfl, _, .inl (.inl upd_same)⟩, .ref a, rfl, a, ns, 4, rfl, t3.seq hS, by decide, _, _, rfl, rfl, (by show (0 : Int) < 2000001; decide), _, _, rfl, rfl, d, _, _, rfl, rfl, upd_same, by show 2 < sizeLine; decide, ?_⟩
      rw [upd_upd]
      have g0 : Same H (upd H2 d (.lst ([V.int (cell ns 2 % 2001 - 1000), V.int (cell ns 3 % 2001 - 1000)] ++ [V.int (cell ns 4 % 2000001 - 1000000)]))) := t2.trans (same_upd hd)
      have g1 : upd H2 d (.lst ([V.int (cell ns 2 % 2001 - 1000), V.int (cell ns 3 % 2001 - 1000)] ++ [V.int (cell ns 4 % 2000001 - 1000000)])) d = some (.lst [V.int (cell ns 2 % 2001 - 1000), V.int (cell ns 3 % 2001 - 1000), V.int (cell ns 4 % 2000001 - 1000000)]) := upd_same
      have r2 : ∀ n : Int, -1000 ≤ n % 2001 - 1000 ∧ n % 2001 - 1000 ≤ 1000 := fun n => by omega
      have r4 : -1000000 ≤ cell ns 4 % 2000001 - 1000000 ∧ cell ns 4 % 2000001 - 1000000 ≤ 1000000 := by omega
      have b2 := r2 (cell ns 2)
      have b3 := r2 (cell ns 3)
      revert g0 g1 b2 b3 r4
      generalize upd H2 d (.lst ([V.int (cell ns 2 % 2001 - 1000), V.int (cell ns 3 % 2001 - 1000)] ++ [V.int (cell ns 4 % 2000001 - 1000000)])) = H3
      generalize cell ns 2 % 2001 - 1000 = n0
      generalize cell ns 3 % 2001 - 1000 = n1
      generalize cell ns 4 % 2000001 - 1000000 = n2
      intro g0 g1 b4 b2 b3
      refine ⟨.ref a, rfl, a, ns, 5, rfl, g0.seq hS, by decide, gName_go ?_⟩
      -- the numbers as they come in the end
      refine if_cut (fun σ H' => ∃ (e : Addr) (m0 m1 m2 : Int), σ = [some (.ref a), some v, some (.ref e), some (.int (cell ns 5)), none, none, none, none] ∧ Same H H' ∧ H' e = some (.lst [.int m0, .int m1, .int m2]) ∧ (-1000 ≤ m0 ∧ m0 ≤ 1000) ∧ (-1000 ≤ m1 ∧ m1 ≤ 1000) ∧ (-1000000 ≤ m2 ∧ m2 ≤ 1000000)) ?_ ?_
      · rintro σ H4 ⟨e, m0, m1, m2, rfl, s4, he, c0, c1, c2⟩
        refine if_cut (fun σ H' => ∃ (e : Addr) (m0 m1 m2 : Int), σ = [some (.ref a), some v, some (.ref e), some (.int (cell ns 5)), none, none, none, none] ∧ Same H H' ∧ H' e = some (.lst [.int m0, .int m1, .int m2]) ∧ (-1000 ≤ m0 ∧ m0 ≤ 1000) ∧ (-1000 ≤ m1 ∧ m1 ≤ 1000) ∧ (-1000000 ≤ m2 ∧ m2 ≤ 1000000)) ?_ ?_
        · rintro σ H5 ⟨e, m0, m1, m2, rfl, s5, he, c0, c1, c2⟩
          have hE : SqL K H5 e [.int m0, .int m1, .int m2] := SqL.of he
          -- the place
          refine ⟨.ref a, rfl, a, ns, 6, rfl, s5.seq hS, by decide, _, _, rfl, rfl, ⟨by decide, by decide⟩, _, _, rfl, rfl, (by show (0 : Int) < 3; decide), gName_go ?_⟩
          obtain ⟨j, hj, j3, ej⟩ := ix3 (Int.emod_nonneg (cell ns 6 / 3) (by decide)) (Int.emod_lt_of_pos (cell ns 6 / 3) (show (0 : Int) < 3 by decide))
          refine ⟨.ref a, rfl, a, ns, 6, rfl, s5.seq hS, by decide, _, _, rfl, rfl, (by show (0 : Int) < 3; decide), rfl, _, rfl, ite2 (fun z => ?_) (fun z => next_go ?_)⟩
          · -- one of the numbers is none
            refine ⟨by show 3 ≤ sizeLine; decide, fun l hl => ?_⟩
            have t6 := s5.trans (same_upd (o := .lst [.int 1000, .int 1000, .int 1000000]) hl)
            have at6 : atI [V.int 1000, .int 1000, .int 1000000] (cell ns 6 / 3 % 3) = some (.int (mostAt j)) := by
              rw [ej]
              match j, j3 with
              | 0, _ => rfl
              | 1, _ => rfl
              | 2, _ => rfl
            refine ⟨_, rfl, l, _, _, _, rfl, rfl, SqL.of upd_same, at6, gName_go ?_⟩
            refine ⟨.ref a, rfl, a, ns, 7, rfl, t6.seq hS, by decide, _, _, rfl, rfl, ⟨by decide, by decide⟩, _, _, rfl, rfl, (by show (0 : Int) < 1000003; decide), gName_go ?_⟩
            have f0 : 0 ≤ cell ns 7 / 8 % 1000003 := Int.emod_nonneg _ (by decide)
            have hM : 1000 ≤ mostAt j := by
              match j, j3 with
              | 0, _ => decide
              | 1, _ => decide
              | 2, _ => decide
            -- what it may be
            refine ⟨_, rfl, _, _, rfl, rfl, ?_⟩
            refine ⟨1, rfl, _, rfl, _, _, rfl, rfl, ?_⟩
            refine ⟨_, rfl, _, _, rfl, rfl, _, rfl, _, _, rfl, rfl, ?_⟩
            refine ⟨1, rfl, _, rfl, _, _, rfl, rfl, _, rfl, _, _, rfl, rfl, ?_⟩
            refine ⟨by show 8 ≤ sizeLine; decide, fun k hk => gName_go ?_⟩
            have t7 := t6.trans (same_upd (o := .lst [.int (mostAt j + 1), .int (-1 - mostAt j), .int (mostAt j + 1 + cell ns 7 / 8 % 1000003), .int (-1 - mostAt j - cell ns 7 / 8 % 1000003), .bl true, .non, .str "3", .bl false]) hk)
            obtain ⟨u, hu, mem⟩ := menu_mem (xs := [V.int (mostAt j + 1), .int (-1 - mostAt j), .int (mostAt j + 1 + cell ns 7 / 8 % 1000003), .int (-1 - mostAt j - cell ns 7 / 8 % 1000003), .bl true, .non, .str "3", .bl false]) (n := cell ns 7) (m := 8) (by decide) rfl
            have fu : flat u = true := all_of (p := flat) rfl mem
            have wu : within u (-(mostAt j)) (mostAt j) = false := by
              simp only [List.mem_cons, List.not_mem_nil, or_false] at mem
              rcases mem with e | e | e | e | e | e | e | e <;> rw [e]
              · exact within_not (.inr (by omega))
              · exact within_not (.inl (by omega))
              · exact within_not (.inr (by omega))
              · exact within_not (.inl (by omega))
              all_goals rfl
            refine ⟨_, rfl, .ref a, rfl, a, ns, 7, rfl, t7.seq hS, by decide, _, _, rfl, rfl, (by show (0 : Int) < 8; decide), k, _, _, u, rfl, rfl, SqL.of upd_same, hu, ?_⟩
            have ne1 : e ≠ l := ne_of_none he hl
            have he7 : (upd (upd H5 l (.lst [.int 1000, .int 1000, .int 1000000])) k (.lst [.int (mostAt j + 1), .int (-1 - mostAt j), .int (mostAt j + 1 + cell ns 7 / 8 % 1000003), .int (-1 - mostAt j - cell ns 7 / 8 % 1000003), .bl true, .non, .str "3", .bl false])) e = some (.lst [.int m0, .int m1, .int m2]) :=
              (same_upd hk) _ _ ((same_upd hl) _ _ he)
            refine ⟨_, rfl, _, rfl, e, _, _, j, rfl, rfl, he7, hj, ?_⟩
            obtain ⟨x, y, zz, exyz, bad, fl⟩ := bad_put (a := m0) (b := m1) (c := m2) j3 wu
            obtain ⟨fx, fy, fz⟩ := fl fu
            have hL : ∀ Hx : Hp, SqL K (upd Hx e (.lst ([V.int m0, V.int m1, V.int m2].set j u))) e [x, y, zz] := fun Hx => SqL.of (by rw [upd_same, exyz])
            refine ⟨_, rfl, e, _, 0, x, rfl, rfl, hL _, rfl, ?_⟩
            refine ⟨_, rfl, e, _, 1, y, rfl, rfl, hL _, rfl, ?_⟩
            refine ⟨_, rfl, e, _, 2, zz, rfl, rfl, hL _, rfl, ?_⟩
            exact ⟨x, y, zz, rfl, flat_arg fx, flat_arg fy, flat_arg fz, bad, q _⟩
          · -- good numbers, or both first are 0
            have ends : ¬ (m0 = 0 ∧ m1 = 0) → fenceOk (.int m0) (.int m1) (.int m2) = true := fun n0 => by
              unfold fenceOk
              rw [within_of c0.1 c0.2, within_of c1.1 c1.2, within_of c2.1 c2.2, decide_eq_false (fun ⟨e1, e2⟩ => n0 ⟨V.int.inj e1, V.int.inj e2⟩)]
              rfl
            refine if_cut (fun σ H' => H5 = H' ∧ σ = [some (.ref a), some v, some (.ref e), some (.int (cell ns 5)), some (.int (cell ns 6 / 3 % 3)), none, none, none] ∧ ¬ (m0 = 0 ∧ m1 = 0)) ?_ ?_
            · rintro σ H6 ⟨rfl, rfl, n0⟩
              refine ⟨_, rfl, e, _, 0, .int m0, rfl, rfl, hE, rfl, ?_⟩
              refine ⟨_, rfl, e, _, 1, .int m1, rfl, rfl, hE, rfl, ?_⟩
              refine ⟨_, rfl, e, _, 2, .int m2, rfl, rfl, hE, rfl, ?_⟩
              refine ⟨.int m0, .int m1, .int m2, rfl, .int _, .int _, .int _, fun z => (by rw [ends n0] at z; cases z), fun _ p hp => ?_⟩
              have hE2 := (same_upd (o := .tup [.int m0, .int m1, .int m2]) hp).seq hE
              refine ⟨_, rfl, e, _, 0, .int m0, rfl, rfl, hE2, rfl, ?_⟩
              refine ⟨_, rfl, e, _, 1, .int m1, rfl, rfl, hE2, rfl, ?_⟩
              refine ⟨_, rfl, e, _, 2, .int m2, rfl, rfl, hE2, rfl, by show 3 ≤ sizeLine; decide, fun p2 hp2 => ?_⟩
              exact ⟨p, p2, m0, m1, m2, rfl, (same_upd hp2) _ _ upd_same, upd_same, q _⟩
            · intro go
              refine ⟨_, rfl, e, _, 0, .int m0, rfl, rfl, hE, rfl, rfl, _, rfl, ?_⟩
              cases d0 : decide (V.int m0 = V.int 0) with
              | false => exact iteF (iteF (go _ _ ⟨rfl, rfl, fun x => of_decide_eq_false d0 (congrArg V.int x.1)⟩))
              | true =>
                have x0 : m0 = 0 := V.int.inj (of_decide_eq_true d0)
                refine iteT ⟨_, rfl, e, _, 1, .int m1, rfl, rfl, hE, rfl, rfl, _, rfl, ?_⟩
                cases d1 : decide (V.int m1 = V.int 0) with
                | false => exact iteF (go _ _ ⟨rfl, rfl, fun x => of_decide_eq_false d1 (congrArg V.int x.2)⟩)
                | true =>
                  refine iteT ⟨_, rfl, e, _, 2, .int m2, rfl, rfl, hE, rfl, ?_⟩
                  refine ⟨.int 0, .int 0, .int m2, rfl, .int _, .int _, .int _, ?_, q _⟩
                  unfold fenceOk
                  rw [decide_eq_true (show V.int 0 = V.int 0 ∧ V.int 0 = V.int 0 from ⟨rfl, rfl⟩)]
                  simp
        · intro go
          refine ⟨_, rfl, _, _, rfl, rfl, (by show (0 : Int) < 4; decide), rfl, _, rfl, ite2 (fun z => ?_) (fun z => go _ _ ⟨e, m0, m1, m2, rfl, s4, he, c0, c1, c2⟩)⟩
          -- at the bounds
          obtain ⟨i0, x0, l0⟩ := intAt (xs := [V.int 1000, .int (-1000)]) (n := cell ns 5 / 4) (m := 2) (M := 1000) (by decide) rfl (by decide)
          obtain ⟨i1, x1, l1⟩ := intAt (xs := [V.int 1000, .int (-1000), .int 0]) (n := cell ns 5 / 8) (m := 3) (M := 1000) (by decide) rfl (by decide)
          obtain ⟨i2, x2, l2⟩ := intAt (xs := [V.int 1000000, .int (-1000000)]) (n := cell ns 5 / 24) (m := 2) (M := 1000000) (by decide) rfl (by decide)
          refine ⟨1000, rfl, by show 2 ≤ sizeLine; decide, fun p0 h0 => ?_⟩
          refine ⟨_, rfl, _, _, rfl, rfl, ⟨by decide, by decide⟩, _, _, rfl, rfl, (by show (0 : Int) < 2; decide), p0, _, _, _, rfl, rfl, SqL.of upd_same, x0, ?_⟩
          refine ⟨1000, rfl, by show 3 ≤ sizeLine; decide, fun p1 h1 => ?_⟩
          refine ⟨_, rfl, _, _, rfl, rfl, ⟨by decide, by decide⟩, _, _, rfl, rfl, (by show (0 : Int) < 3; decide), p1, _, _, _, rfl, rfl, SqL.of upd_same, x1, ?_⟩
          refine ⟨1000000, rfl, by show 2 ≤ sizeLine; decide, fun p2 h2 => ?_⟩
          refine ⟨_, rfl, _, _, rfl, rfl, ⟨by decide, by decide⟩, _, _, rfl, rfl, (by show (0 : Int) < 2; decide), p2, _, _, _, rfl, rfl, SqL.of upd_same, x2, ?_⟩
          refine ⟨by show 3 ≤ sizeLine; decide, fun e2 he2 => ?_⟩
          exact go _ _ ⟨e2, i0, i1, i2, rfl, (((s4.trans (same_upd h0)).trans (same_upd h1)).trans (same_upd h2)).trans (same_upd he2), upd_same, l0, l1, l2⟩
      · intro go
        refine ⟨_, rfl, _, _, rfl, rfl, (by show (0 : Int) < 4; decide), rfl, _, rfl, ite2 (fun z => ?_) (fun z => go _ _ ⟨d, n0, n1, n2, rfl, g0, g1, b2, b3, b4⟩)⟩
        -- near
        refine ⟨_, rfl, _, _, rfl, rfl, ⟨by decide, by decide⟩, _, _, rfl, rfl, (by show (0 : Int) < 3; decide), _, _, rfl, rfl, ?_⟩
        refine ⟨_, rfl, _, _, rfl, rfl, ⟨by decide, by decide⟩, _, _, rfl, rfl, (by show (0 : Int) < 3; decide), _, _, rfl, rfl, ?_⟩
        refine ⟨_, rfl, _, _, rfl, rfl, ⟨by decide, by decide⟩, _, _, rfl, rfl, (by show (0 : Int) < 9; decide), _, _, rfl, rfl, ?_⟩
        refine ⟨by show 3 ≤ sizeLine; decide, fun e2 he2 => ?_⟩
        exact go _ _ ⟨e2, _, _, _, rfl, g0.trans (same_upd he2), upd_same, by omega, by omega, by omega⟩
    · intro go
      refine ⟨.ref a, rfl, a, ns, 1, rfl, hS, by decide, _, _, rfl, rfl, (by show (0 : Int) < 9; decide), rfl, _, rfl, ite2 (fun z => ?_) (fun z => go _ _ ⟨_, rfl, rfl, Same.refl _⟩)⟩
      refine ⟨10, 20, rfl, rfl, ⟨by decide, by decide, by decide⟩, _, rfl, by show 8 ≤ sizeLine; decide, fun l hl => ?_⟩
      obtain ⟨v, hv, mem⟩ := menu_mem (xs := [V.bl true, .non, .str "5", .int 0, .int 1, .int 1000, .int 1001, .int (-(10 ^ (20 : Int).toNat))]) (n := cell ns 1 / 9) (m := 8) (by decide) rfl
      have fv : flat v = true := all_of (p := flat) rfl mem
      refine ⟨.ref a, rfl, a, ns, 1, rfl, (same_upd hl).seq hS, by decide, _, _, rfl, rfl, ⟨by decide, by decide⟩, _, _, rfl, rfl, (by show (0 : Int) < 8; decide), l, _, _, v, rfl, rfl, SqL.of upd_same, hv, ?_⟩
      exact go _ _ ⟨v, rfl, fv, same_upd hl⟩
theorem law_all {fd : FuncData} (T : Txt K mg) (F : FnP K "law" s_law fd) : FnOk P w K mg base CX0 (6 + 1) (He.ga K "law") fd ["_law_script"] (sp_law K) := by
  have c1 : Good P w K mg base CX0 _ "is_number" ["value"] sp_num := ok_is_number T
  have c2 : Good P w K mg base CX0 _ "_law_whole" ["_law_thing"] sp_num := ok_law_whole T
  have c3 : Good P w K mg base CX0 _ "is_number_within" ["value", "low", "high"] sp_within := ok_is_number_within T c1
  have c4 : Good P w K mg base (L2.CX P w) _ "edges" ["size"] (sp_edges K) := ok_edges T (ok_check_size T c3)
  have c5 : Good P w K mg base (L2.CX P w) _ "fence_of" ["a", "b", "c"] (sp_fence_of K) := ok_fence_of T c3 (ok_is_slope T c3)
  have c6 : Good P w K mg base CX0 _ "_law_tuple" ["_law_found", "_law_due"] sp_law_tuple := ok_law_tuple T c2
  exact ok_law T F (ok_law_cell_at T) (ok_law_edges_good T c2 c4 (ok_law_edges_refused T c4) c6) (ok_law_fence_refused T c5) c6 c5

end
def fnL : List He.DefD := [⟨("is_number", none), "is_number", "is_number", defArgs s_is_number, defBody s_is_number, defScope s_is_number, [], []⟩,
  ⟨("is_number_within", none), "is_number_within", "is_number_within", defArgs s_is_number_within, defBody s_is_number_within, defScope s_is_number_within, [], []⟩,
  ⟨("check_size", none), "check_size", "check_size", defArgs s_check_size, defBody s_check_size, defScope s_check_size, [], []⟩,
  ⟨("_is_slope", none), "_is_slope", "_is_slope", defArgs s_is_slope, defBody s_is_slope, defScope s_is_slope, [], []⟩,
  ⟨("fence_of", none), "fence_of", "fence_of", defArgs s_fence_of, defBody s_fence_of, defScope s_fence_of, [], []⟩,
  ⟨("edges", none), "edges", "edges", defArgs s_edges, defBody s_edges, defScope s_edges, [], []⟩,
  ⟨("_law_cell_at", none), "_law_cell_at", "_law_cell_at", defArgs s_law_cell_at, defBody s_law_cell_at, defScope s_law_cell_at, [], []⟩,
  ⟨("_law_whole", none), "_law_whole", "_law_whole", defArgs s_law_whole, defBody s_law_whole, defScope s_law_whole, [], []⟩,
  ⟨("_law_names", none), "_law_names", "_law_names", defArgs s_law_names, defBody s_law_names, defScope s_law_names, [], []⟩,
  ⟨("_law_fence_refused", none), "_law_fence_refused", "_law_fence_refused", defArgs s_law_fence_refused, defBody s_law_fence_refused, defScope s_law_fence_refused, [], []⟩,
  ⟨("_law_edges_refused", none), "_law_edges_refused", "_law_edges_refused", defArgs s_law_edges_refused, defBody s_law_edges_refused, defScope s_law_edges_refused, [], []⟩,
  ⟨("_law_tuple", none), "_law_tuple", "_law_tuple", defArgs s_law_tuple, defBody s_law_tuple, defScope s_law_tuple, [], []⟩,
  ⟨("_law_edges_good", none), "_law_edges_good", "_law_edges_good", defArgs s_law_edges_good, defBody s_law_edges_good, defScope s_law_edges_good, [], []⟩,
  ⟨("law", none), "law", "law", defArgs s_law, defBody s_law, defScope s_law, [], []⟩]
def faL : List He.Fa := [.glo "is_number", .glo "is_number_within", .glo "check_size", .glo "_is_slope", .glo "fence_of", .glo "edges", .glo "_law_cell_at", .glo "_law_whole", .glo "_law_names", .glo "_law_fence_refused", .glo "_law_edges_refused", .glo "_law_tuple", .glo "_law_edges_good", .glo "law", .free "ValueError", .free "bool", .free "int", .free "isinstance", .free "len", .free "list", .free "range", .free "tuple", .int "MOST_OFFSET" (1000000), .int "MOST_SIZE" (1000), .int "MOST_SLOPE" (1000), .glo "BadFence", .exc "BadFence", .glo "BadSize", .exc "BadSize", .glo "BadSpot", .exc "BadSpot", .glo "BadWay", .exc "BadWay", .glo "LandError", .exc "LandError", .glo "NoFence", .exc "NoFence", .glo "NoLand", .exc "NoLand", .glo "TooMany", .exc "TooMany", .exm "BadFence" "LandError" true, .exm "BadSize" "LandError" true]
def exL (K : PySem.W.Frag) : Bool := kitsB K "BadFence" [("BadFence", true), ("BadSize", false), ("BadSpot", false), ("BadWay", false), ("NoFence", false), ("NoLand", false), ("TooMany", false)] && (kitsB K "BadSize" [("BadFence", false), ("BadSize", true), ("BadSpot", false), ("BadWay", false), ("NoFence", false), ("NoLand", false), ("TooMany", false)])
abbrev R : PySem.W.OpenRow := PySem.W.OpenLaw.row PySem.Challenge.rw_landlines_k02_fences
abbrev hkL : PySem.W.Hook := He.hookX 4 faL fnL [] [] exL
def obL (s : PySem.W.SharedT) : He.AlX := He.obsX 4 faL fnL [] [] exL (HandSHeadRun.getT s)
theorem obL_eq (s : PySem.W.SharedT) : obL s = hkL.obs s.abs := He.obsX_eq (HandSHeadRun.getT_eq s)
def looseL : List Str := (["LandError", "BadSize", "BadFence", "TooMany", "BadSpot", "BadWay", "NoLand", "NoFence", "MOST_SIZE", "is_number", "is_number_within", "check_size", "MOST_SLOPE", "MOST_OFFSET", "fence_of", "_is_slope", "edges", "_law_cell_at", "_law_whole", "_law_names", "_law_fence_refused", "_law_edges_refused", "_law_tuple", "_law_edges_good"] : List Str)
def vwL : Program := PySem.W.view R.prog [28]
theorem runL (w : World) : HandSHeadRun.RunEq R vwL hkL obL 2340 looseL w := by
  intro os
  kernel_rfl
theorem factsL {w : World} {K : PySem.W.Frag} {h : Heap} {mg : Str → Option Value} (X : K.In h) (G : h.Ns mainGlobals mg) (z : He.SaysX faL fnL [] [] exL w h K) : Txt K mg := by
  have c := z.t.d
  have m := z.more
  obtain ⟨x0, m⟩ := He.ba m
  have x1 := m
  exact {
    d_is_number := c.def_ 0 (d := ⟨("is_number", none), "is_number", "is_number", defArgs s_is_number, defBody s_is_number, defScope s_is_number, [], []⟩) rfl
    g_is_number := He.glo_ok X G (c.fact 0 rfl)
    d_is_number_within := c.def_ 1 (d := ⟨("is_number_within", none), "is_number_within", "is_number_within", defArgs s_is_number_within, defBody s_is_number_within, defScope s_is_number_within, [], []⟩) rfl
    g_is_number_within := He.glo_ok X G (c.fact 1 rfl)
    d_check_size := c.def_ 2 (d := ⟨("check_size", none), "check_size", "check_size", defArgs s_check_size, defBody s_check_size, defScope s_check_size, [], []⟩) rfl
    g_check_size := He.glo_ok X G (c.fact 2 rfl)
    d_is_slope := c.def_ 3 (d := ⟨("_is_slope", none), "_is_slope", "_is_slope", defArgs s_is_slope, defBody s_is_slope, defScope s_is_slope, [], []⟩) rfl
    g_is_slope := He.glo_ok X G (c.fact 3 rfl)
    d_fence_of := c.def_ 4 (d := ⟨("fence_of", none), "fence_of", "fence_of", defArgs s_fence_of, defBody s_fence_of, defScope s_fence_of, [], []⟩) rfl
    g_fence_of := He.glo_ok X G (c.fact 4 rfl)
    d_edges := c.def_ 5 (d := ⟨("edges", none), "edges", "edges", defArgs s_edges, defBody s_edges, defScope s_edges, [], []⟩) rfl
    g_edges := He.glo_ok X G (c.fact 5 rfl)
    d_law_cell_at := c.def_ 6 (d := ⟨("_law_cell_at", none), "_law_cell_at", "_law_cell_at", defArgs s_law_cell_at, defBody s_law_cell_at, defScope s_law_cell_at, [], []⟩) rfl
    g_law_cell_at := He.glo_ok X G (c.fact 6 rfl)
    d_law_whole := c.def_ 7 (d := ⟨("_law_whole", none), "_law_whole", "_law_whole", defArgs s_law_whole, defBody s_law_whole, defScope s_law_whole, [], []⟩) rfl
    g_law_whole := He.glo_ok X G (c.fact 7 rfl)
    d_law_names := c.def_ 8 (d := ⟨("_law_names", none), "_law_names", "_law_names", defArgs s_law_names, defBody s_law_names, defScope s_law_names, [], []⟩) rfl
    g_law_names := He.glo_ok X G (c.fact 8 rfl)
    d_law_fence_refused := c.def_ 9 (d := ⟨("_law_fence_refused", none), "_law_fence_refused", "_law_fence_refused", defArgs s_law_fence_refused, defBody s_law_fence_refused, defScope s_law_fence_refused, [], []⟩) rfl
    g_law_fence_refused := He.glo_ok X G (c.fact 9 rfl)
    d_law_edges_refused := c.def_ 10 (d := ⟨("_law_edges_refused", none), "_law_edges_refused", "_law_edges_refused", defArgs s_law_edges_refused, defBody s_law_edges_refused, defScope s_law_edges_refused, [], []⟩) rfl
    g_law_edges_refused := He.glo_ok X G (c.fact 10 rfl)
    d_law_tuple := c.def_ 11 (d := ⟨("_law_tuple", none), "_law_tuple", "_law_tuple", defArgs s_law_tuple, defBody s_law_tuple, defScope s_law_tuple, [], []⟩) rfl
    g_law_tuple := He.glo_ok X G (c.fact 11 rfl)
    d_law_edges_good := c.def_ 12 (d := ⟨("_law_edges_good", none), "_law_edges_good", "_law_edges_good", defArgs s_law_edges_good, defBody s_law_edges_good, defScope s_law_edges_good, [], []⟩) rfl
    g_law_edges_good := He.glo_ok X G (c.fact 12 rfl)
    d_law := c.def_ 13 (d := ⟨("law", none), "law", "law", defArgs s_law, defBody s_law, defScope s_law, [], []⟩) rfl
    g_law := He.glo_ok X G (c.fact 13 rfl)
    m_ValueError := He.free_ok X G (c.fact 14 rfl)
    m_bool := He.free_ok X G (c.fact 15 rfl)
    m_int := He.free_ok X G (c.fact 16 rfl)
    m_isinstance := He.free_ok X G (c.fact 17 rfl)
    m_len := He.free_ok X G (c.fact 18 rfl)
    m_list := He.free_ok X G (c.fact 19 rfl)
    m_range := He.free_ok X G (c.fact 20 rfl)
    m_tuple := He.free_ok X G (c.fact 21 rfl)
    c_MOST_OFFSET := He.int_ok X G (c.fact 22 rfl)
    c_MOST_SIZE := He.int_ok X G (c.fact 23 rfl)
    c_MOST_SLOPE := He.int_ok X G (c.fact 24 rfl)
    BadFence := ExcF.mk' X G (c.fact 25 rfl) (c.fact 26 rfl)
    BadSize := ExcF.mk' X G (c.fact 27 rfl) (c.fact 28 rfl)
    BadSpot := ExcF.mk' X G (c.fact 29 rfl) (c.fact 30 rfl)
    BadWay := ExcF.mk' X G (c.fact 31 rfl) (c.fact 32 rfl)
    LandError := ExcF.mk' X G (c.fact 33 rfl) (c.fact 34 rfl)
    NoFence := ExcF.mk' X G (c.fact 35 rfl) (c.fact 36 rfl)
    NoLand := ExcF.mk' X G (c.fact 37 rfl) (c.fact 38 rfl)
    TooMany := ExcF.mk' X G (c.fact 39 rfl) (c.fact 40 rfl)
    ex_BadFence_LandError := He.exm_ok (c.fact 41 rfl)
    kit_BadFence := KitsF.mk' x0
    ex_BadSize_LandError := He.exm_ok (c.fact 42 rfl)
    kit_BadSize := KitsF.mk' x1
  }
end LL
open PySem PySem.W PySem.Calls PyProof.Rows
theorem PySem.Challenge.cw_landlines_k02_fences_holds : PySem.Challenge.rw_landlines_k02_fences.Holds := by
  w_on; o_law
  refine HandSHeadRun.head_any (r := OpenLaw.row PySem.Challenge.rw_landlines_k02_fences) (q := LL.vwL) (H := LL.hkL) (ob := LL.obL) (M := 2340) (loose := LL.looseL) (d := HandSHeadRun.topDef (OpenLaw.row PySem.Challenge.rw_landlines_k02_fences).prog 28) (kwd := []) LL.obL_eq
    (by kernel_rfl) (fun s => by kernel_rfl) LL.runL (by kernel_rfl) (by kernel_rfl) (by kernel_rfl) (by rfl) (by first | assumption | decide +kernel) (by decide +kernel) ⟨rfl, rfl, rfl, rfl, rfl, by decide +kernel⟩ ?hw ?hc
  case hw => w_witness2
  case hc =>
    refine L2.walk_ofE (l := PySem.Challenge.rw_landlines_k02_fences) (n := 63) (k := 7) (x := "_law_script") (CX := L2.CX0) rfl (by decide) (by kernel_rfl) ⟨rfl, by decide, by decide⟩ ?F (fun _ _ _ _ z => z)
    intro w mg fa h Y G hmg0
    obtain ⟨K, KX, c⟩ := Y
    have hmg : mg ("law" : PySem.Str) = some (.ref fa) := by
      have e : (HandSHeadRun.topDef (OpenLaw.row PySem.Challenge.rw_landlines_k02_fences).prog 28).name = ("law" : PySem.Str) := by kernel_rfl
      rw [← e]
      exact hmg0
    have T := LL.factsL KX G c
    have e := hmg.symm.trans T.g_law
    cases e
    obtain ⟨fd, F⟩ := T.d_law
    have b := L2.FunD.bindsA (ps := ["_law_script"]) F fun _ _ _ _ _ _ us hl => match us, hl with | [_], _ => rfl
    exact ⟨K, fd, LL.sp_law K, KX, fun s v => b s [v] rfl, fun H a ns hl _ hS => ⟨a, ns, rfl, hS, hl, fun _ => rfl⟩, fun base _ _ => LL.law_all T F⟩
