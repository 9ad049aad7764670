import PyProof.Rows.All
import Wide.All
import OpenK.AllK
import Wide.FinOn
import KE.KStateDown
import HandS.ForMost
import HandS.ForExc
import HandS.Defaults
import HandS.Gcd
import HandS.Wide
import HandS.IsInst
import HandS.ExcIs
import HandS.HotCalls
import HandS.TupLen
import HandS.Head0
import HandS.Head1
import HandS.Head2
import HandS.Head3
import HandS.HeadEnd
import HandS.HeadHook1
import HandS.HeadHook2
import HandS.HeadHook3
import HandS.HeadHook4
import PySem.Challenge.RW_landlines_k01_spots
set_option Elab.async false
set_option linter.all false
set_option maxRecDepth 100000
set_option maxHeartbeats 4000000

namespace LL
open PySem PySem.Spec PySem.Calls PyProof.Rows L2
/-! ### a def of the top, by its name -/
abbrev FnP (K : PySem.W.Frag) (x : Str) (st : Stmt) (fd : FuncData) : Prop := FunD K x x (defArgs st) (defBody st) (defScope st) [] [] (He.ga K x) fd
/-- the def x keeps the promise sp -/
structure Good (P : Program) (w : World) (K : PySem.W.Frag) (mg : Str → Option Value) (base : Heap) (CX : CXT) (k : Nat) (x : Str) (ps : List Str) (sp : Sp) : Prop where
  g : mg x = some (.ref (He.ga K x))
  kp : PySem.W.keepIn K (.ref (He.ga K x)) = true
  ex : ∃ fd, Binds K fd ps [] ∧ FnOk P w K mg base CX k (He.ga K x) fd ps sp
section
variable {X : Cx} {k : Nat} {x : Str} {ps : List Str} {sp : Sp} {e : Expr} {es : List Expr} {t : TA} {p pos : Pos}
/-- a call of a def that lets nothing out -/
theorem pe_own (C : Good X.prog X.w X.K X.mg X.base CX0 k x ps sp) (hr : Room k X.A) (hg : Gl X x) (ha : PA X (e :: es) t) (hdb : (x == ("__debug__" : Str)) = false := by decide)
    (he : starEach (e :: es) X.env = (false, eval e X.env) :: starEach es X.env := by rfl) (hpl : (backTo pos (starEach es X.env)).any (·.1) = false := by rfl) :
    PE X (.Call (.Name x p) (e :: es) [] pos) (tCall sp [] E0 t) := by
  obtain ⟨fd, b, G⟩ := C.ex
  exact pe_call G hr hg C.g C.kp b .nil pass0 ha hdb he hpl
/-- a call of a def that might let an error out, where it lets none out -/
theorem pe_ownL (C : Good X.prog X.w X.K X.mg X.base (L2.CX X.prog X.w) k x ps sp) (hr : Room k X.A) (hg : Gl X x) (ha : PA X (e :: es) t) (hdb : (x == ("__debug__" : Str)) = false := by decide)
    (he : starEach (e :: es) X.env = (false, eval e X.env) :: starEach es X.env := by rfl) (hpl : (backTo pos (starEach es X.env)).any (·.1) = false := by rfl) :
    PE X (.Call (.Name x p) (e :: es) [] pos) (tCall sp [] E0 t) := by
  obtain ⟨fd, b, G⟩ := C.ex
  exact pe_call G hr hg C.g C.kp b .nil passL ha hdb he hpl
/-- .. where an error goes on its way -/
theorem pe_ownR {W : WX} {E : XK} (C : Good X.prog X.w X.K X.mg X.base (L2.CX X.prog X.w) k x ps sp) (hr : Room k X.A) (tk : Takes X W) (hW : ∀ cls d σ H, E cls d H → W cls d σ H) (hg : Gl X x) (ha : PA X (e :: es) t) (hdb : (x == ("__debug__" : Str)) = false := by decide)
    (he : starEach (e :: es) X.env = (false, eval e X.env) :: starEach es X.env := by rfl) (hpl : (backTo pos (starEach es X.env)).any (·.1) = false := by rfl) :
    PE X (.Call (.Name x p) (e :: es) [] pos) (tCall sp [] E t) := by
  obtain ⟨fd, b, G⟩ := C.ex
  exact pe_call G hr hg C.g C.kp b .nil (passes_call tk hW) ha hdb he hpl
/-- .. in a try -/
theorem pe_ownS {W : WX} (C : Good X.prog X.w X.K X.mg X.base (L2.CX X.prog X.w) k x ps sp) (hr : Room k X.A) (tk : Takes X W) (hg : Gl X x) (ha : PA X (e :: es) t) (hdb : (x == ("__debug__" : Str)) = false := by decide)
    (he : starEach (e :: es) X.env = (false, eval e X.env) :: starEach es X.env := by rfl) (hpl : (backTo pos (starEach es X.env)).any (·.1) = false := by rfl) :
    PE X (.Call (.Name x p) (e :: es) [] pos) (tCallS sp (WE W) t) := by
  obtain ⟨fd, b, G⟩ := C.ex
  exact pe_callS G hr hg C.g C.kp b (fun σ => passAt tk σ) ha hdb he hpl
end
/-- what the facts of the head say of a def -/
theorem FnP.mk {fa : List He.Fa} {fn : List He.DefD} {K : PySem.W.Frag} (c : He.SaysD fa fn K) {x : Str} {st : Stmt} (h : (⟨(x, none), x, x, defArgs st, defBody st, defScope st, [], []⟩ : He.DefD) ∈ fn) : ∃ fd, FnP K x st fd := by
  obtain ⟨fd, F⟩ := c.defs h
  exact ⟨fd, F⟩
/-! ### math.gcd of three -/
theorem args_gcd3 (a b c : Value) : argsOk "math.gcd" ⟨[a, b, c], []⟩ := by unfold argsOk; kernel_rfl
theorem run_gcd3 (a : Int) (t : Tok) (b : Int) (u : Tok) (c : Int) (v : Tok) : Gives (Builtin.«math.gcd» ⟨[.int a t, .int b u, .int c v], []⟩) (.int (((((Nat.gcd 0 a.natAbs).gcd b.natAbs).gcd c.natAbs : Nat) : Int))) :=
  .of_wp fun M A E s Q h => by
    obtain ⟨hp, g, d, tk, os⟩ := s
    wp_walk
    exact ⟨_, rfl, h⟩
def rGcd3 : List V → Hp → VK → Prop := fun vs H Q => ∃ a b c : Int, vs = [.int a, .int b, .int c] ∧ Q (.int (((Nat.gcd a.natAbs b.natAbs).gcd c.natAbs : Nat) : Int)) H
theorem call_gcd3 {X : Cx} : CallR X (.builtin "math.gcd") rGcd3 := by
  intro pins s σ H vs us Q I r h
  obtain ⟨a, b, c, rfl, q⟩ := h
  cases r with
  | cons ra r =>
    obtain ⟨t, rfl⟩ := ra
    cases r with
    | cons rb r =>
      obtain ⟨u, rfl⟩ := rb
      cases r with
      | cons rc r =>
        obtain ⟨v, rfl⟩ := rc
        cases r
        have g := run_gcd3 a t b u c v
        rw [Nat.gcd_zero_left] at g
        exact call_function_meets PySem.W.MGF.kind_gcd PySem.W.MGF.plain_gcd PySem.W.MGF.entry_gcd (args_gcd3 _ _ _) g.meets ⟨.int _, H, I.tok _, ⟨_, rfl⟩, q⟩
end LL

namespace LL
open PySem PySem.Spec PySem.Calls PyProof.Rows L2
/-! ### isinstance of a pinned exception -/
theorem call_isP {X : Cx} {a D : Addr} {oe : Obj} (C : ExcC X.K D) (hp : (a, oe) ∈ X.pn) (hz : Zc (.ref D) none oe) (hf : ∃ vs, oe.data = .fields vs) : CallR X (.builtin "isinstance") (rIsE X.K D a) := by
  intro pins s σ H xs us Q I r h
  obtain ⟨c, cv, b, rfl, hcv, hb, q⟩ := h
  cases r with
  | cons rx r2 =>
    cases r2 with
    | cons rc r3 =>
      cases r3
      cases rx
      cases hcv _ rc
      have P1 := (I.pin (a, oe) (List.mem_append_left _ hp)).1
      have J : PySem.W.InstAt s.heap a oe D none := by
        obtain ⟨vs, hv⟩ := hf
        rcases oe with ⟨o1, o2, o3, o4⟩
        rcases hz with ⟨z1, z2⟩
        simp only at z1 z2 hv
        subst z1; subst z2; subst hv
        exact ⟨P1, rfl, rfl, trivial⟩
      have kit := PySem.W.handS_kitx_exc (x := a) (ox := oe) C.hg C.hk C.hs C.hd C.ha C.hn C.ht C.hm
      exact PySem.W.kia_one kit I.kIn J hb (fun z => by cases z) fun tk => ⟨V.bl b, H, I.kept (t' := tk) (fun _ _ z => z), rfl, q⟩
/-! ### a def that is handed the exception which its caller's suite holds -/
/-- what it promises: handed an error of the class at D, it hands back the text ans, and nothing that is tracked changes -/
structure Tells (P : Program) (w : World) (K : PySem.W.Frag) (mg : Str → Option Value) (base : Heap) (x : Str) (D : Addr) (ans : Str) : Prop where
  ex : ∃ (fd : FuncData) (y : Str), Binds K fd [y] [] ∧ ∀ (A : Around) (outer : List Env) (s : Shared) (H : Hp) (args : Args) (p : Addr × Obj) (Q : VK) (E : XK), A.depth < recursionLimit → L2H.PinOk outer H s p → Zc (.ref D) none p.2 → (∃ vs, p.2.data = .fields vs) →
    Env0 P w K mg base A outer s H → BindsTo s fd args ([y].zip [.ref p.1]) → Q (.str ans) H → codeAny (model P w) A (.call (.ref (He.ga K x)) args) (CR CX0 outer P w H s Q E) s
/-- a def's body, run with the exception pinned -/
theorem tells_run {P : Program} {w : World} {K : PySem.W.Frag} {mg : Str → Option Value} {base : Heap} {f : Addr} {name qual : Str} {params : Arguments} {body : List Stmt} {scope : Scope} {dV kV doc pm cdv ct oc : Value} {an od : Option Addr}
    {osl : Array (Option Value)} {N ps : List Str} {A : Around} {outer : List Env} {s : Shared} {H : Hp} {args : Args} {us : List Value} {vs : List V} {Q : VK} {E : XK} {p : Addr × Obj}
    (lk : K.lookup f = some ⟨oc, od, .func (PySem.W.fnOf name qual params body scope dV kV doc pm an cdv ct), osl⟩) (hcd : PySem.W.codeIn K cdv qual = true) (S : FnScope N ps scope) (hl : vs.length = ps.length) (room : A.depth < recursionLimit)
    (hpin : L2H.PinOk outer H s p) (e0 : Env0 P w K mg base A outer s H) (hb : BindsTo s (PySem.W.fnOf name qual params body scope dV kV doc pm an cdv ct) args (ps.zip us)) (r : Vals vs us)
    {t : TS} (ht : PSs (L2H.cxH CX0 P w K mg base N qual scope f cdv A outer s H E p) body t) (hq : t { nx := fun _ H' => Q .non H', rt := Q } (start N vs) H) :
    codeAny (model P w) A (.call (.ref f) args) (CR CX0 outer P w H s Q E) s := by
  have here : ∀ b o, base.get? b = some o → s.heap.get? b = some o := fun b o z => (e0.bs b o z).1
  have kin := e0.mod.kin.keeps here
  have hk : ∀ y ∈ ps.zip us, scope.names.lookup y.1 = some .local ∨ (scope.names.lookup y.1 = some .cell ∧ ((cellsFrom (s.heap.objs.size + 1) scope.names []).lookup y.1).isSome = true) := by
    intro y hy
    have hy1 : y.1 ∈ ps := (List.of_mem_zip (a := y.1) (b := y.2) hy).1
    cases S.par y.1 hy1 with
    | inl z => exact Or.inl z
    | inr z => exact Or.inr ⟨z, PySem.W.cellsFrom_some _ _ _ (Or.inl z)⟩
  apply codeAny_call_function room (kin _ _ lk) rfl S.co S.gen rfl (PySem.W.codeRec_of kin hcd)
  apply hb
  apply wpAny_newFunctionEnv_cells S.kind hk
  rintro env rfl s1 x
  refine ⟨(e0.mod.nolimit.keeps here).keeps x.toInCall.keep, ?_⟩
  apply codeAny_func
  have I := L2H.inv_startH (CX := CX0) (E := E) S hpin e0 hl r x
  refine wpAny_mono (ht.run [] s1 _ H _ I hq) ?_ (fun e s' z => z)
  have back : ∀ {σ' : L2.St} {H' : Hp} {v : V} {u : Value} {s' : Shared}, Inv (L2H.cxH CX0 P w K mg base N qual scope f cdv A outer s H E p) [] σ' H' s' → RelV v u → Q v H' → CE outer P w H s Q u s' := by
    intro σ' H' v u s' J rv q
    exact ⟨v, H', J.os, J.bare, J.base, J.hok, rv, q⟩
  intro fl s' hs
  match fl, hs with
  | .ret u, ⟨v, σ', H', J, rv, q⟩ => exact back J rv q
  | .next, ⟨σ', H', J, q⟩ => exact back (v := V.non) (u := Value.none) J rfl q
  | .brk, ⟨_, _, _, q⟩ => exact q.elim
  | .cont, ⟨_, _, _, q⟩ => exact q.elim
/-- f(e), e the exception that the suite holds (at a; its class cls, its dict d) -/
def tTell (P : Program) (w : World) (K : PySem.W.Frag) (mg : Str → Option Value) (base : Heap) (x : Str) (a : Addr) (cls : Value) (d : Option Addr) (ta : TA) : TE := fun σ H Q => ta σ H fun vs H1 => vs = [.ref a] ∧ d = none ∧ ∃ (D : Addr) (ans : Str), cls = .ref D ∧ Tells P w K mg base x D ans ∧ Q (.str ans) H1
theorem pe_tell {X : Cx} {a : Addr} {oe : Obj} {cls : Value} {d : Option Addr} {pn : List (Addr × Obj)} {x : Str} {e : Expr} {ta : TA} {p pos : Pos} (hm : X.mg x = some (.ref (He.ga X.K x))) (hk : PySem.W.keepIn X.K (.ref (He.ga X.K x)) = true)
    (hz : Zc cls d oe) (hf : ∃ vs, oe.data = .fields vs) (room : X.A.depth < recursionLimit) (hg : Gl X x)
    (ha : PA (X.suite a ((a, oe) :: pn)) [e] ta) (hdb : (x == ("__debug__" : Str)) = false := by decide) (hst : starEach [e] X.env = (false, eval e X.env) :: starEach [] X.env := by rfl) (hpl : (backTo pos (starEach [] X.env)).any (·.1) = false := by rfl) :
    PE (X.suite a ((a, oe) :: pn)) (.Call (.Name x p) [e] [] pos) (tTell X.prog X.w X.K X.mg X.base x a cls d ta) := by
  refine ⟨fun pins s σ H Q I h => ?_⟩
  refine wpAny_Call_Name_kw (ld_glob (X := X.suite a ((a, oe) :: pn)) I hg hm ?_ hdb)
  refine PySem.W.callWith_K (h₀ := X.base) I.ok.mod.kin hk (thn (ha.run pos pins s σ H _ I h) ?_) hst hpl
  rintro us s1 ⟨vs, H1, I1, r, rfl, rfl, D, ans, rfl, T, q⟩
  refine ⟨I1.kIn, ?_⟩
  obtain ⟨fd, y, b, run⟩ := T.ex
  cases r with
  | cons r1 r2 =>
    cases r2
    cases r1
    have P1 := I1.pin (a, oe) (List.mem_append_left _ List.mem_cons_self)
    have pin : L2H.PinOk (X.suite a ((a, oe) :: pn)).stack H1 s1 (a, oe) := by
      refine ⟨P1.1, P1.2.1, fun hm => ?_, P1.2.2.2.2⟩
      cases List.mem_cons.mp (I1.stkSub a hm) with
      | inl z => exact P1.2.2.1 z
      | inr z => exact P1.2.2.2.1 z
    have b1 := b s1 [.ref a] I1.kIn rfl
    refine wpAny_call (codeAny_mono (run _ _ s1 H1 _ (a, oe) Q E0 room pin hz hf I1.env0 b1 q) ?_)
    intro r s' hq
    match r, hq with
    | .ok (.ret u), hq => exact I1.after hq
/-! ### an error's class -/
structure ExcF (K : PySem.W.Frag) (mg : Str → Option Value) (n : Str) : Prop where
  g : mg n = some (.ref (He.ga K n))
  x : PySem.W.excIn K (He.ga K n) He.veBase "ValueError.__new__" = true
  k : PySem.W.keepIn K (.ref (He.ga K n)) = true
  b : PySem.W.subIn K (.ref (He.ga K n)) (.type "BaseException") = some true
  t : PySem.W.typeIn K (.ref (He.ga K n)) = some (.type "type")
theorem ExcF.mk' {K : PySem.W.Frag} {h : Heap} {mg : Str → Option Value} (X : K.In h) (G : h.Ns mainGlobals mg) {x : Str} (c1 : (He.Fa.glo x).ok K = true) (c2 : (He.Fa.exc x).ok K = true) : ExcF K mg x := by
  obtain ⟨h1, h2, h3, h4⟩ := He.exc_ok c2
  exact ⟨He.glo_ok X G c1, h1, h2, h3, h4⟩
/-! ### what isinstance asks of an error of the class at D -/
def excCB (K : PySem.W.Frag) (D : Addr) : Bool := He.eqO (PySem.W.findIn K (.ref D) "__getattribute__") (some (some (.builtin "BaseException.__getattribute__"))) && (He.eqO (PySem.W.findIn K (.ref D) "__getattr__") (some none) &&
  (decide (PySem.W.subIn K (.ref D) (.type "BaseException") = some true) && (PySem.W.hasDictIn K D && (He.eqO (PySem.W.findIn K (.ref D) "__class__") (some (some (.builtin "object.__class__"))) &&
  (He.eqO (PySem.W.specialIn K (.builtin "object.__class__") "__get__") (some (some (.builtin "getset_descriptor.__get__"))) && (decide (PySem.W.takesIn K (.builtin "object.__class__") = some true) && decide (PySem.W.mroIn K D (.type "object") = some true)))))))
theorem excCB_ok {K : PySem.W.Frag} {D : Addr} (h : excCB K D = true) : ExcC K D := by
  obtain ⟨h1, h⟩ := He.ba h
  obtain ⟨h2, h⟩ := He.ba h
  obtain ⟨h3, h⟩ := He.ba h
  obtain ⟨h4, h⟩ := He.ba h
  obtain ⟨h5, h⟩ := He.ba h
  obtain ⟨h6, h⟩ := He.ba h
  obtain ⟨h7, h8⟩ := He.ba h
  exact ⟨He.eqO_ok h1, He.eqO_ok h2, of_decide_eq_true h3, h4, He.eqO_ok h5, He.eqO_ok h6, of_decide_eq_true h7, of_decide_eq_true h8⟩
/-- isinstance's answers for an error of the class x: own classes by name, ValueError -/
def kitsB (K : PySem.W.Frag) (x : Str) (ys : List (Str × Bool)) : Bool := excCB K (He.ga K x) && (decide (PySem.W.kitOne K (.ref (He.ga K x)) (.type "ValueError") = some true) && ys.all fun y => decide (PySem.W.kitOne K (.ref (He.ga K x)) (.ref (He.ga K y.1)) = some y.2))
structure KitsF (K : PySem.W.Frag) (x : Str) (ys : List (Str × Bool)) : Prop where
  c : ExcC K (He.ga K x)
  v : PySem.W.kitOne K (.ref (He.ga K x)) (.type "ValueError") = some true
  y : ∀ y ∈ ys, PySem.W.kitOne K (.ref (He.ga K x)) (.ref (He.ga K y.1)) = some y.2
theorem KitsF.mk' {K : PySem.W.Frag} {x : Str} {ys : List (Str × Bool)} (h : kitsB K x ys = true) : KitsF K x ys := by
  obtain ⟨h1, h⟩ := He.ba h
  obtain ⟨h2, h3⟩ := He.ba h
  exact ⟨excCB_ok h1, of_decide_eq_true h2, fun y hy => of_decide_eq_true (List.all_eq_true.mp h3 y hy)⟩
/-- the module's name x is this built-in -/
def bltB (K : PySem.W.Frag) (x : Str) (id : String) : Bool := He.eqO (PySem.W.nsIn K mainGlobals x) (some (some (.builtin id)))
theorem bltB_ok {K : PySem.W.Frag} {h : Heap} {mg : Str → Option Value} (X : K.In h) (G : h.Ns mainGlobals mg) {x : Str} {id : String} (c : bltB K x id = true) : mg x = some (.builtin id) := PySem.W.mg_of X G (He.eqO_ok c)
/-! ### values: their kinds -/
/-- what a caller hands in: a number, a truth, a text, None, a tuple, a list, a dict -/
inductive Arg (H : Hp) : V → Prop where
  | int (i : Int) : Arg H (.int i)
  | bl (b : Bool) : Arg H (.bl b)
  | str (z : Str) : Arg H (.str z)
  | non : Arg H .non
  | tup {a : Addr} {xs : List V} (e : H a = some (.tup xs)) : Arg H (.ref a)
  | lst {a : Addr} {xs : List V} (e : H a = some (.lst xs)) : Arg H (.ref a)
  | dK {a : Addr} {xs : List (Key × V)} (e : H a = some (.dK xs)) : Arg H (.ref a)
/-- a whole number, and no truth -/
def isNum : V → Bool
  | .int _ => true
  | _ => false
theorem Arg.num {K : PySem.W.Frag} {H : Hp} {v : V} (a : Arg H v) : ∃ (t : Value) (b1 b2 : Bool), TyX K H v t ∧ PySem.W.kitOne K t (.type "int") = some b1 ∧ PySem.W.kitOne K t (.type "bool") = some b2 ∧ (b1 && !b2) = isNum v := by
  cases a with
  | int i => exact ⟨_, true, false, .base (.int i), kit_ty (by decide +kernel), kit_ty (by decide +kernel), rfl⟩
  | bl b => exact ⟨_, true, true, .base (.bl b), kit_ty (by decide +kernel), kit_ty (by decide +kernel), rfl⟩
  | str z => exact ⟨_, false, false, .base (.str z), kit_ty (by decide +kernel), kit_ty (by decide +kernel), rfl⟩
  | non => exact ⟨_, false, false, .base .non, kit_ty (by decide +kernel), kit_ty (by decide +kernel), rfl⟩
  | tup e => exact ⟨_, false, false, .base (.tup e), kit_ty (by decide +kernel), kit_ty (by decide +kernel), rfl⟩
  | lst e => exact ⟨_, false, false, .base (.lst e), kit_ty (by decide +kernel), kit_ty (by decide +kernel), rfl⟩
  | dK e => exact ⟨_, false, false, .base (.dK e), kit_ty (by decide +kernel), kit_ty (by decide +kernel), rfl⟩
/-- isinstance(x, tuple), isinstance(x, list) -/
def isTup (H : Hp) : V → Bool
  | .ref a => (match H a with | some (.tup _) => true | _ => false)
  | _ => false
theorem Arg.tuple {K : PySem.W.Frag} {H : Hp} {v : V} (a : Arg H v) : ∃ (t : Value), TyX K H v t ∧ PySem.W.kitOne K t (.type "tuple") = some (isTup H v) := by
  cases a with
  | int i => exact ⟨_, .base (.int i), kit_ty (r := false) (by decide +kernel)⟩
  | bl b => exact ⟨_, .base (.bl b), kit_ty (r := false) (by decide +kernel)⟩
  | str z => exact ⟨_, .base (.str z), kit_ty (r := false) (by decide +kernel)⟩
  | non => exact ⟨_, .base .non, kit_ty (r := false) (by decide +kernel)⟩
  | tup e => exact ⟨_, .base (.tup e), by simp only [isTup, e]; exact kit_ty (by decide +kernel)⟩
  | lst e => exact ⟨_, .base (.lst e), by simp only [isTup, e]; exact kit_ty (by decide +kernel)⟩
  | dK e => exact ⟨_, .base (.dK e), by simp only [isTup, e]; exact kit_ty (by decide +kernel)⟩
end LL

namespace LL
open PySem PySem.Spec PySem.Calls PyProof.Rows L2
/-! ### promises and readings of small defs -/
/-- is this a whole number, and no truth -/
def sp_num : Sp := fun vs H Q _ => ∃ v, vs = [v] ∧ Arg H v ∧ Q (.bl (isNum v)) H
theorem num_read {K : PySem.W.Frag} {vs : List V} {H : Hp} {Q : VK} {E : XK} {x : Str} (h : sp_num vs H Q E) :
    tRet (tAndV (tCB (rIsi K) (tCons (tVar 0) (tCons (tC (.ty "int")) tNil))) (tNotV (tCB (rIsi K) (tCons (tVar 0) (tCons (tC (.ty "bool")) tNil))))) { nx := fun _ H' => Q .non H', rt := Q } (start [x] vs) H := by
  obtain ⟨v, rfl, a, q⟩ := h
  obtain ⟨t, b1, b2, ty, k1, k2, e⟩ := a.num (K := K)
  refine ⟨_, rfl, _, _, t, _, b1, rfl, .ty _, ty, k1, _, rfl, ?_⟩
  rw [← e] at q
  cases b1 with
  | false => exact iteF q
  | true => exact iteT ⟨_, rfl, _, _, t, _, b2, rfl, .ty _, ty, k2, _, rfl, q⟩
/-! ### lists of numbers -/
def cell (ns : List Int) (k : Int) : Int := ns.getD k.toNat 0
theorem atI_ints {ns : List Int} {k : Int} (h0 : 0 ≤ k) (h : k < ns.length) : atI (ns.map V.int) k = some (.int (cell ns k)) := by
  obtain ⟨n, rfl⟩ : ∃ n : Nat, k = n := ⟨k.toNat, by omega⟩
  have hn : n < ns.length := by omega
  have e : (ns.map V.int)[n]? = some (.int (cell ns n)) := by
    rw [List.getElem?_map, List.getElem?_eq_getElem hn]
    simp [cell, List.getD, List.getElem?_eq_getElem hn]
  exact atI_nat e
def sp_cell (K : PySem.W.Frag) : Sp := fun vs H Q _ => ∃ (a : Addr) (ns : List Int) (k : Int), vs = [.ref a, .int k] ∧ SqL K H a (ns.map V.int) ∧ 0 ≤ k ∧ Q (.int (cell ns k)) H
/-! ### // by any number but 0 -/
def CDivA (_ j : Int) : Prop := j ≠ 0 ∧ j.natAbs.log2 < 9000
theorem op_fdivA {X : Cx} : OpR X (binaryOp .FloorDiv) (rI CDivA fun i j => .int (i.fdiv j)) := opI fun i j _ _ _ _ _ hc q => floordiv_int hc.1 q (.inl (PyProof.noPylong_of_log2 hc.2))
theorem divA {i j : Int} {b : Nat} (h : j ≠ 0) (hb : j.natAbs < 2 ^ b) (h0 : 0 < b) (h9 : b ≤ 9000) : CDivA i j := ⟨h, Nat.lt_of_lt_of_le (PySem.Flt.log2_lt_of h0 hb) h9⟩
/-! ### the greatest common part -/
def sp_shared : Sp := fun vs H Q _ => ∃ a b : Int, vs = [.int a, .int b] ∧ 0 ≤ a ∧ 0 ≤ b ∧ Q (.int ((Nat.gcd a.toNat b.toNat : Nat) : Int)) H
/-- three numbers in lowest terms, the last above 0 -/
def Low (x y b : Int) : Prop := 0 < b ∧ Nat.gcd x.natAbs (Nat.gcd y.natAbs b.natAbs) = 1
instance (x y b : Int) : Decidable (Low x y b) := inferInstanceAs (Decidable (_ ∧ _))
theorem gcd_low {x y b : Int} (hb : b ≠ 0) (s : Int) (hs : s = if b < 0 then -(((Nat.gcd (Nat.gcd x.natAbs y.natAbs) b.natAbs : Nat)) : Int) else ((Nat.gcd (Nat.gcd x.natAbs y.natAbs) b.natAbs : Nat) : Int)) :
    s ≠ 0 ∧ s.natAbs ≤ b.natAbs ∧ Low (x.fdiv s) (y.fdiv s) (b.fdiv s) ∧ x.fdiv s * b = x * b.fdiv s ∧ y.fdiv s * b = y * b.fdiv s := by
  have hn : 0 < b.natAbs := Int.natAbs_pos.mpr hb
  have g0 : 0 < Nat.gcd (Nat.gcd x.natAbs y.natAbs) b.natAbs := Nat.gcd_pos_of_pos_right _ hn
  have dx : Nat.gcd (Nat.gcd x.natAbs y.natAbs) b.natAbs ∣ x.natAbs := Nat.dvd_trans (Nat.gcd_dvd_left _ _) (Nat.gcd_dvd_left _ _)
  have dy : Nat.gcd (Nat.gcd x.natAbs y.natAbs) b.natAbs ∣ y.natAbs := Nat.dvd_trans (Nat.gcd_dvd_left _ _) (Nat.gcd_dvd_right _ _)
  have db : Nat.gcd (Nat.gcd x.natAbs y.natAbs) b.natAbs ∣ b.natAbs := Nat.gcd_dvd_right _ _
  generalize hg : Nat.gcd (Nat.gcd x.natAbs y.natAbs) b.natAbs = g at *
  have sabs : s.natAbs = g := by rw [hs]; split <;> omega
  have s0 : s ≠ 0 := by intro z; rw [z] at sabs; simp at sabs; omega
  have ex : s ∣ x := Int.natAbs_dvd_natAbs.mp (by rw [sabs]; exact dx)
  have ey : s ∣ y := Int.natAbs_dvd_natAbs.mp (by rw [sabs]; exact dy)
  have eb : s ∣ b := Int.natAbs_dvd_natAbs.mp (by rw [sabs]; exact db)
  obtain ⟨x1, rfl⟩ := ex
  obtain ⟨y1, rfl⟩ := ey
  obtain ⟨b1, rfl⟩ := eb
  have f : ∀ z : Int, (s * z).fdiv s = z := fun z => Int.mul_fdiv_cancel_left z s0
  rw [f, f, f]
  have b1p : 0 < b1 := by
    have hb1 : b1 ≠ 0 := fun z => hb (by rw [z, Int.mul_zero])
    by_cases c : s * b1 < 0
    · have sn : s < 0 := by rw [if_pos c] at hs; omega
      by_cases d : b1 < 0
      · have := Int.mul_pos_of_neg_of_neg sn d; omega
      · omega
    · have sp : 0 < s := by rw [if_neg c] at hs; omega
      by_cases d : b1 < 0
      · have := Int.mul_neg_of_pos_of_neg sp d; omega
      · omega
  refine ⟨s0, ?_, ⟨b1p, ?_⟩, ?_, ?_⟩
  · rw [sabs]; exact Nat.le_of_dvd hn db
  · have e : Nat.gcd (Nat.gcd (s * x1).natAbs (s * y1).natAbs) (s * b1).natAbs = s.natAbs * Nat.gcd (Nat.gcd x1.natAbs y1.natAbs) b1.natAbs := by
      rw [Int.natAbs_mul, Int.natAbs_mul, Int.natAbs_mul, Nat.gcd_mul_left, Nat.gcd_mul_left]
    rw [hg, sabs] at e
    have e1 : Nat.gcd (Nat.gcd x1.natAbs y1.natAbs) b1.natAbs = 1 := by
      have : g * 1 = g * Nat.gcd (Nat.gcd x1.natAbs y1.natAbs) b1.natAbs := by rw [Nat.mul_one]; exact e
      exact (Nat.eq_of_mul_eq_mul_left g0 this).symm
    rw [← Nat.gcd_assoc]
    exact e1
  · rw [← Int.mul_assoc, Int.mul_comm x1 s]
  · rw [← Int.mul_assoc, Int.mul_comm y1 s]
theorem natAbs_lt {x : Int} {b n : Nat} (h : x.natAbs ≤ n) (hn : n < 2 ^ b) : x.natAbs < 2 ^ b := Nat.lt_of_le_of_lt h hn
/-- the spot, of numbers that are good; else the refusal -/
def sp_spot_of (K : PySem.W.Frag) : Sp := fun vs H Q E => ∃ x y b : V, vs = [x, y, b] ∧ Arg H x ∧ Arg H y ∧ Arg H b ∧
  (((isNum x && isNum y && isNum b) = false ∨ b = .int 0) → E (.ref (He.ga K "BadSpot")) none H) ∧
  (∀ i j k : Int, x = .int i → y = .int j → b = .int k → k ≠ 0 → k.natAbs < 2 ^ 8000 ∧ ∀ (X Y B : Int) (p : Addr), Low X Y B → X * k = i * B → Y * k = j * B → H p = none → Q (.ref p) (upd H p (.tup [.int X, .int Y, .int B])))
theorem big8000 {n m : Nat} (h : n ≤ m) (hm : m < 2 ^ 200) : n < 2 ^ 8000 := Nat.lt_of_lt_of_le (Nat.lt_of_le_of_lt h hm) (Nat.pow_le_pow_right (by decide) (show 200 ≤ 8000 by decide))
/-! ### heaps, joins -/
theorem same_upd {H : Hp} {p : Addr} {o : HO} (h : H p = none) : Same H (upd H p o) := fun b z e => (upd_ne (ne_of_none e h)).trans e
theorem seq_cut {t u : TS} {D : Ends} {σ : L2.St} {H : Hp} (R : L2.St → Hp → Prop) (h2 : ∀ σ' H', R σ' H' → u D σ' H') (h1 : (∀ σ' H', R σ' H' → u D σ' H') → t { D with nx := u D } σ H) : tSeq t u D σ H := h1 h2
theorem gName_go {i : Nat} {v : V} {σ : L2.St} {H : Hp} {f b c : L2.St → Hp → Prop} {r : VK} (h : f (σ.set i (some v)) H) : gName i v σ H (Ends.mk f r b c).nx := h
theorem gName_as {i : Nat} {v : V} (u : V) (e : v = u) {σ : L2.St} {H : Hp} {f b c : L2.St → Hp → Prop} {r : VK} (h : f (σ.set i (some u)) H) : gName i v σ H (Ends.mk f r b c).nx := by
  subst e
  exact h
/-- the heap by another name -/
theorem nx_as {σ : L2.St} {H : Hp} {f b c : L2.St → Hp → Prop} {r : VK} (H' : Hp) (e : H = H') (h : f σ H') : (Ends.mk f r b c).nx σ H := by
  subst e
  exact h
theorem next_go {σ : L2.St} {H : Hp} {f b c : L2.St → Hp → Prop} {r : VK} (h : f σ H) : tNext (Ends.mk f r b c) σ H := h
/-- at an if: what follows it is shown once, from R -/
theorem if_cut {c : TT} {t1 t2 u : TS} {D : Ends} {σ : L2.St} {H : Hp} (R : L2.St → Hp → Prop) (h2 : ∀ σ' H', R σ' H' → u D σ' H') (h1 : (∀ σ' H', R σ' H' → u D σ' H') → tIfS c t1 t2 { D with nx := u D } σ H) : tSeq (tIfS c t1 t2) u D σ H := h1 h2
theorem Arg.up {H H' : Hp} {v : V} (s : Same H H') (a : Arg H v) : Arg H' v := by
  cases a with
  | int i => exact .int i
  | bl b => exact .bl b
  | str z => exact .str z
  | non => exact .non
  | tup e => exact .tup (s _ _ e)
  | lst e => exact .lst (s _ _ e)
  | dK e => exact .dK (s _ _ e)
theorem Arg.put {H : Hp} {e : Addr} {xs ys : List V} {v : V} (he : H e = some (.lst xs)) (a : Arg H v) : Arg (upd H e (.lst ys)) v := by
  cases a with
  | int i => exact .int i
  | bl b => exact .bl b
  | str z => exact .str z
  | non => exact .non
  | tup hb => exact .tup ((upd_ne (ne_of hb he (by intro z; cases z))).trans hb)
  | @lst b zs hb =>
    by_cases z : b = e
    · subst z
      exact .lst upd_same
    · exact .lst ((upd_ne z).trans hb)
  | dK hb => exact .dK ((upd_ne (ne_of hb he (by intro z; cases z))).trans hb)
end LL

namespace LL
open PySem PySem.Spec PySem.Calls PyProof.Rows L2
/-! ### numbers within bounds; fences; edges -/
def within : V → Int → Int → Bool
  | .int i, lo, hi => decide (lo ≤ i) && decide (i ≤ hi)
  | _, _, _ => false
theorem within_int {v : V} {lo hi : Int} (h : within v lo hi = true) : ∃ i, v = .int i := by
  cases v <;> first | exact ⟨_, rfl⟩ | cases h
theorem within_le {i lo hi : Int} (h : within (.int i) lo hi = true) : lo ≤ i ∧ i ≤ hi := by
  have h1 : (decide (lo ≤ i) && decide (i ≤ hi)) = true := h
  simpa using h1
theorem within_of {i lo hi : Int} (h1 : lo ≤ i) (h2 : i ≤ hi) : within (.int i) lo hi = true := by
  show (decide (lo ≤ i) && decide (i ≤ hi)) = true
  simp [h1, h2]
theorem within_not {i lo hi : Int} (h : i < lo ∨ hi < i) : within (.int i) lo hi = false := by
  show (decide (lo ≤ i) && decide (i ≤ hi)) = false
  rcases h with h | h
  · rw [decide_eq_false (by omega), Bool.false_and]
  · rw [decide_eq_false (show ¬ i ≤ hi by omega), Bool.and_false]
def sp_within : Sp := fun vs H Q _ => ∃ (v : V) (lo hi : Int), vs = [v, .int lo, .int hi] ∧ Arg H v ∧ Q (.bl (within v lo hi)) H
def sp_slope : Sp := fun vs H Q _ => ∃ v, vs = [v] ∧ Arg H v ∧ Q (.bl (within v (-1000) 1000)) H
def sp_check_size (K : PySem.W.Frag) : Sp := fun vs H Q E => ∃ v, vs = [v] ∧ Arg H v ∧ (within v 1 1000 = false → E (.ref (He.ga K "BadSize")) none H) ∧ (within v 1 1000 = true → Q .non H)
def fenceOk (a b c : V) : Bool := within a (-1000) 1000 && within b (-1000) 1000 && !decide (a = .int 0 ∧ b = .int 0) && within c (-1000000) 1000000
def sp_fence_of (K : PySem.W.Frag) : Sp := fun vs H Q E => ∃ a b c : V, vs = [a, b, c] ∧ Arg H a ∧ Arg H b ∧ Arg H c ∧ (fenceOk a b c = false → E (.ref (He.ga K "BadFence")) none H) ∧ (fenceOk a b c = true → ∀ p, H p = none → Q (.ref p) (upd H p (.tup [a, b, c])))
/-- the four edges stand at l, new over H -/
structure Edges (n : Int) (H H' : Hp) (l p0 p1 p2 p3 : Addr) : Prop where
  same : Same H H'
  new : H l = none
  lst : H' l = some (.lst [.ref p0, .ref p1, .ref p2, .ref p3])
  e0 : H' p0 = some (.tup [.int (-1), .int 0, .int 0])
  e1 : H' p1 = some (.tup [.int 0, .int (-1), .int 0])
  e2 : H' p2 = some (.tup [.int 1, .int 0, .int n])
  e3 : H' p3 = some (.tup [.int 0, .int 1, .int n])
def sp_edges (K : PySem.W.Frag) : Sp := fun vs H Q E => ∃ v, vs = [v] ∧ Arg H v ∧ (within v 1 1000 = false → E (.ref (He.ga K "BadSize")) none H) ∧
  (∀ n, v = .int n → within v 1 1000 = true → ∀ H' l p0 p1 p2 p3, Edges n H H' l p0 p1 p2 p3 → Q (.ref l) H')
/-! ### menus -/
theorem menu_mem {xs : List V} {n m : Int} (hm : 0 < m) (hl : (xs.length : Int) = m) : ∃ v, atI xs (n % m) = some v ∧ v ∈ xs := by
  have h0 := Int.emod_nonneg n (show m ≠ 0 by omega)
  have h1 := Int.emod_lt_of_pos n hm
  obtain ⟨j, hj⟩ : ∃ j : Nat, n % m = j := ⟨(n % m).toNat, by omega⟩
  have lt : j < xs.length := by omega
  rw [hj]
  exact ⟨xs[j], atI_nat (List.getElem?_eq_getElem lt), List.getElem_mem lt⟩
theorem ix3 {k : Int} (h0 : 0 ≤ k) (h3 : k < 3) : ∃ j : Nat, ixN 3 k = some j ∧ j < 3 ∧ k = j := by
  have : k = 0 ∨ k = 1 ∨ k = 2 := by omega
  rcases this with e | e | e <;> rw [e]
  · exact ⟨0, rfl, by decide, rfl⟩
  · exact ⟨1, rfl, by decide, rfl⟩
  · exact ⟨2, rfl, by decide, rfl⟩
/-! ### == of tuples of three numbers, and of lists of these -/
theorem dp_three {K : PySem.W.Frag} {H : Hp} {p : Addr} {a b c : Int} (h : H p = some (.tup [.int a, .int b, .int c])) : Dp K H (.ref p) (.tuple [.int a, .int b, .int c]) :=
  .tup (SqT.of h) (.cons (.int a) (.cons (.int b) (.cons (.int c) .nil)))
end LL

namespace LL
open PySem PySem.Spec PySem.Calls PyProof.Rows L2
/-! ### sizes -/
def Sz (n : Nat) (x : Int) : Prop := x.natAbs < 2 ^ n
theorem Sz.mono {n m : Nat} {x : Int} (h : Sz n x) (l : n ≤ m) : Sz m x := Nat.lt_of_lt_of_le h (Nat.pow_le_pow_right (by decide) l)
theorem Sz.mul {n m : Nat} {x y : Int} (h : Sz n x) (k : Sz m y) : Sz (n + m) (x * y) := wide_lt h k
theorem Sz.add {n : Nat} {x y : Int} (h : Sz n x) (k : Sz n y) : Sz (n + 1) (x + y) := by
  unfold Sz at *
  rw [Nat.pow_succ]
  omega
theorem Sz.sub {n : Nat} {x y : Int} (h : Sz n x) (k : Sz n y) : Sz (n + 1) (x - y) := by
  unfold Sz at *
  rw [Nat.pow_succ]
  omega
theorem Sz.ok {n m : Nat} {x y : Int} (h : Sz n x) (k : Sz m y) (hn : 0 < n) (hm : 0 < m) (l : n + m ≤ 1000000) : CMulW x y := wide_mul h k hn hm l
theorem Sz.of {n : Nat} {x : Int} {b : Nat} (h : x.natAbs ≤ b) (l : b < 2 ^ n) : Sz n x := Nat.lt_of_le_of_lt h l
/-- the numbers of a spot, of a fence -/
structure Sz3 (n : Nat) (x y b : Int) : Prop where
  x : Sz n x
  y : Sz n y
  b : Sz n b
theorem Sz3.mono {n m : Nat} {x y b : Int} (h : Sz3 n x y b) (l : n ≤ m) : Sz3 m x y b := ⟨h.x.mono l, h.y.mono l, h.b.mono l⟩
/-- a tuple of three numbers -/
abbrev Tri (K : PySem.W.Frag) (H : Hp) (p : Addr) (x y b : Int) : Prop := SqT K H p [.int x, .int y, .int b]
/-! ### reach, turn, meeting -/
def reachI (a b c x y d : Int) : Int := a * x + b * y - c * d
def sp_reach (K : PySem.W.Frag) : Sp := fun vs H Q _ => ∃ (p q : Addr) (a b c x y d : Int), vs = [.ref p, .ref q] ∧ Tri K H p a b c ∧ Tri K H q x y d ∧ Sz3 1000 a b c ∧ Sz3 1000 x y d ∧ Q (.int (reachI a b c x y d)) H
def triI (x y b x2 y2 b2 x3 y3 b3 : Int) : Int := x * (y2 * b3 - y3 * b2) - y * (x2 * b3 - x3 * b2) + b * (x2 * y3 - x3 * y2)
def sgn (n : Int) : Int := if 0 < n then 1 else if n < 0 then -1 else 0
def sp_tri (K : PySem.W.Frag) (f : Int → Int) : Sp := fun vs H Q _ => ∃ (p q r : Addr) (x y b x2 y2 b2 x3 y3 b3 : Int), vs = [.ref p, .ref q, .ref r] ∧ Tri K H p x y b ∧ Tri K H q x2 y2 b2 ∧ Tri K H r x3 y3 b3 ∧
  Sz3 1000 x y b ∧ Sz3 1000 x2 y2 b2 ∧ Sz3 1000 x3 y3 b3 ∧ Q (.int (f (triI x y b x2 y2 b2 x3 y3 b3))) H
def sp_meeting (K : PySem.W.Frag) : Sp := fun vs H Q _ => ∃ (p q : Addr) (a b c a2 b2 c2 : Int), vs = [.ref p, .ref q] ∧ Tri K H p a b c ∧ Tri K H q a2 b2 c2 ∧ Sz3 1000 a b c ∧ Sz3 1000 a2 b2 c2 ∧
  (a * b2 - b * a2 = 0 → Q .non H) ∧ (a * b2 - b * a2 ≠ 0 → ∀ (X Y B : Int) (l : Addr), Low X Y B → a * X + b * Y = c * B → a2 * X + b2 * Y = c2 * B → X * (a * b2 - b * a2) = (c * b2 - b * c2) * B → Y * (a * b2 - b * a2) = (a * c2 - c * a2) * B →
    H l = none → Q (.ref l) (upd H l (.tup [.int X, .int Y, .int B])))
theorem meet_on {a b c p q r X Y B : Int} (h0 : a * q - b * p ≠ 0) (hx : X * (a * q - b * p) = (c * q - b * r) * B) (hy : Y * (a * q - b * p) = (a * r - c * p) * B) : a * X + b * Y = c * B ∧ p * X + q * Y = r * B := by
  constructor
  · apply Int.eq_of_mul_eq_mul_right h0
    grind
  · apply Int.eq_of_mul_eq_mul_right h0
    grind
theorem low_abs {x y b : Int} (hb : 0 < b) (s : Int) (hs : s = ((Nat.gcd x.natAbs (Nat.gcd y.natAbs b.natAbs) : Nat) : Int)) :
    s ≠ 0 ∧ 0 < s ∧ s.natAbs ≤ b.natAbs ∧ Low (x.fdiv s) (y.fdiv s) (b.fdiv s) ∧ (x.fdiv s).natAbs ≤ x.natAbs ∧ (y.fdiv s).natAbs ≤ y.natAbs ∧ (b.fdiv s).natAbs ≤ b.natAbs := by
  have e : s = if b < 0 then -(((Nat.gcd (Nat.gcd x.natAbs y.natAbs) b.natAbs : Nat)) : Int) else ((Nat.gcd (Nat.gcd x.natAbs y.natAbs) b.natAbs : Nat) : Int) := by
    rw [if_neg (by omega), hs, Nat.gcd_assoc]
  obtain ⟨s0, sb, low, _, _⟩ := gcd_low (x := x) (y := y) (b := b) (by omega) s e
  have sp : 0 < s := by
    have : 0 ≤ s := by rw [hs]; exact Int.natCast_nonneg _
    omega
  have f : ∀ z : Int, s ∣ z → (z.fdiv s).natAbs ≤ z.natAbs := by
    rintro z ⟨k, rfl⟩
    rw [Int.mul_fdiv_cancel_left k s0, Int.natAbs_mul]
    exact Nat.le_mul_of_pos_left _ (by omega)
  have d1 : s ∣ x := Int.natAbs_dvd_natAbs.mp (by rw [hs, Int.natAbs_natCast]; exact Nat.gcd_dvd_left _ _)
  have d2 : s ∣ y := Int.natAbs_dvd_natAbs.mp (by rw [hs, Int.natAbs_natCast]; exact Nat.dvd_trans (Nat.gcd_dvd_right _ _) (Nat.gcd_dvd_left _ _))
  have d3 : s ∣ b := Int.natAbs_dvd_natAbs.mp (by rw [hs, Int.natAbs_natCast]; exact Nat.dvd_trans (Nat.gcd_dvd_right _ _) (Nat.gcd_dvd_right _ _))
  exact ⟨s0, sp, sb, low, f _ d1, f _ d2, f _ d3⟩
/-- a fence's numbers -/
structure FenceI (a b c : Int) : Prop where
  ha : a.natAbs ≤ 1000
  hb : b.natAbs ≤ 1000
  ab : ¬ (a = 0 ∧ b = 0)
  hc : c.natAbs ≤ 1000000
theorem FenceI.sz {a b c : Int} (h : FenceI a b c) : Sz3 100 a b c := ⟨.of h.ha (by decide), .of h.hb (by decide), .of h.hc (by decide)⟩
def sp_law_fence_by : Sp := fun vs H Q _ => ∃ c s : Int, vs = [.int c, .int s] ∧ 1 ≤ s ∧ s ≤ 1000 ∧ ∀ (H' : Hp) (p : Addr) (x y z : Int), Same H H' → H p = none → H' p = some (.tup [.int x, .int y, .int z]) → FenceI x y z → Q (.ref p) H'
/-- a spot stands at p -/
structure SpotAt (n : Nat) (H : Hp) (p : Addr) (x y b : Int) : Prop where
  at_ : H p = some (.tup [.int x, .int y, .int b])
  low : Low x y b
  sz : Sz3 n x y b
theorem SpotAt.up {n : Nat} {H H' : Hp} {p : Addr} {x y b : Int} (h : SpotAt n H p x y b) (s : Same H H') : SpotAt n H' p x y b := ⟨s _ _ h.at_, h.low, h.sz⟩
theorem SpotAt.mono {n m : Nat} {H : Hp} {p : Addr} {x y b : Int} (h : SpotAt n H p x y b) (l : n ≤ m) : SpotAt m H p x y b := ⟨h.at_, h.low, h.sz.mono l⟩
def sp_law_spot_by : Sp := fun vs H Q _ => ∃ c o s : Int, vs = [.int c, .int o, .int s] ∧ 1 ≤ s ∧ s ≤ 1000 ∧ ∀ (H' : Hp) (p : Addr) (x y b : Int), Same H H' → H p = none → SpotAt 100 H' p x y b → Q (.ref p) H'
theorem abs_nn (i : Int) : 0 ≤ (if i < 0 then -i else i) := by split <;> omega
theorem abs_nat (i : Int) : (if i < 0 then -i else i).toNat = i.natAbs := by split <;> omega
def sp_law_good_spot : Sp := fun vs H Q _ => ∃ (p : Addr) (x y b : Int), vs = [.ref p] ∧ H p = some (.tup [.int x, .int y, .int b]) ∧ Q (.bl (decide (Low x y b))) H
def sp_law_size_by : Sp := fun vs H Q _ => ∃ c : Int, vs = [.int c] ∧ ∀ s : Int, 1 ≤ s → s ≤ 1000 → Q (.int s) H
end LL

namespace LL
open PySem PySem.Spec PySem.Calls PyProof.Rows L2

def top (i : Nat) : Stmt := PySem.Challenge.pw_landlines_k01_spots.main.body.getD i (.Pass ⟨0, 0, 0, 0⟩)
abbrev s_is_number : Stmt := top 11
abbrev s_spot_of : Stmt := top 13
abbrev s_law_cell_at : Stmt := top 15
abbrev s_law_whole : Stmt := top 16
abbrev s_law_shared : Stmt := top 17
abbrev s_law_good_spot : Stmt := top 18
abbrev s_law_number_by : Stmt := top 19
abbrev s_law_names : Stmt := top 20
abbrev s_law_refused : Stmt := top 21
abbrev s_law : Stmt := top 22
/-! ### what the top has written -/
structure Txt (K : PySem.W.Frag) (mg : Str → Option Value) : Prop where
  d_is_number : ∃ fd, FnP K "is_number" s_is_number fd
  g_is_number : mg "is_number" = some (.ref (He.ga K "is_number"))
  d_spot_of : ∃ fd, FnP K "spot_of" s_spot_of fd
  g_spot_of : mg "spot_of" = some (.ref (He.ga K "spot_of"))
  d_law_cell_at : ∃ fd, FnP K "_law_cell_at" s_law_cell_at fd
  g_law_cell_at : mg "_law_cell_at" = some (.ref (He.ga K "_law_cell_at"))
  d_law_whole : ∃ fd, FnP K "_law_whole" s_law_whole fd
  g_law_whole : mg "_law_whole" = some (.ref (He.ga K "_law_whole"))
  d_law_shared : ∃ fd, FnP K "_law_shared" s_law_shared fd
  g_law_shared : mg "_law_shared" = some (.ref (He.ga K "_law_shared"))
  d_law_good_spot : ∃ fd, FnP K "_law_good_spot" s_law_good_spot fd
  g_law_good_spot : mg "_law_good_spot" = some (.ref (He.ga K "_law_good_spot"))
  d_law_number_by : ∃ fd, FnP K "_law_number_by" s_law_number_by fd
  g_law_number_by : mg "_law_number_by" = some (.ref (He.ga K "_law_number_by"))
  d_law_names : ∃ fd, FnP K "_law_names" s_law_names fd
  g_law_names : mg "_law_names" = some (.ref (He.ga K "_law_names"))
  d_law_refused : ∃ fd, FnP K "_law_refused" s_law_refused fd
  g_law_refused : mg "_law_refused" = some (.ref (He.ga K "_law_refused"))
  d_law : ∃ fd, FnP K "law" s_law fd
  g_law : mg "law" = some (.ref (He.ga K "law"))
  m_ValueError : mg "ValueError" = none
  m_abs : mg "abs" = none
  m_bool : mg "bool" = none
  m_int : mg "int" = none
  m_isinstance : mg "isinstance" = none
  m_len : mg "len" = none
  m_range : mg "range" = none
  m_tuple : mg "tuple" = none
  BadFence : ExcF K mg "BadFence"
  BadSize : ExcF K mg "BadSize"
  BadSpot : ExcF K mg "BadSpot"
  BadWay : ExcF K mg "BadWay"
  LandError : ExcF K mg "LandError"
  NoFence : ExcF K mg "NoFence"
  NoLand : ExcF K mg "NoLand"
  TooMany : ExcF K mg "TooMany"
  gcd : mg "gcd" = some (.builtin "math.gcd")
  ex_BadSpot_LandError : PySem.W.exmOne K (.ref (He.ga K "BadSpot")) (.ref (He.ga K "LandError")) = some true
  kit_BadSpot : KitsF K "BadSpot" [("BadFence", false), ("BadSize", false), ("BadSpot", true), ("BadWay", false), ("NoFence", false), ("NoLand", false), ("TooMany", false)]
section
variable {P : Program} {w : World} {K : PySem.W.Frag} {mg : Str → Option Value} {base : Heap}
/-! ## is_number -/
abbrev n_is_number : List Str := ["value"]
theorem sc_is_number : FnScope n_is_number ["value"] (defScope s_is_number) := ⟨rfl, rfl, rfl, by decide +kernel, rfl, by decide +kernel, by decide +kernel⟩
theorem ok_is_number (T : Txt K mg) : Good P w K mg base CX0 1 "is_number" ["value"] sp_num := by
  obtain ⟨fd, F⟩ := T.d_is_number
  refine ⟨T.g_is_number, F.kp, fd, F.bindsN (fun _ _ _ _ _ _ us hl => match us, hl with | [_], _ => rfl), F.ok sc_is_number (fun vs H Q E h => ?_) (fun cdv A outer s H vs Q E hr h => ⟨_, PSs.nox (pss_one (ps_ret (pe_and (pe_callB call_isi (by rfl) T.m_isinstance (by decide +kernel) (pa_cons (pv 0) (pa_cons (pe_bltn (v := .ty "int") (by rfl) T.m_int (by decide +kernel) rfl) pa_nil))) (pe_one (pe_not (pe_callB call_isi (by rfl) T.m_isinstance (by decide +kernel) (pa_cons (pv 0) (pa_cons (pe_bltn (v := .ty "bool") (by rfl) T.m_bool (by decide +kernel) rfl) pa_nil)))))))), num_read h⟩)⟩
  obtain ⟨v, rfl, _⟩ := h
  rfl

/-! ## spot_of -/
abbrev n_spot_of : List Str := ["x", "y", "by", "shared"]
theorem sc_spot_of : FnScope n_spot_of ["x", "y", "by"] (defScope s_spot_of) := ⟨rfl, rfl, rfl, by decide +kernel, rfl, by decide +kernel, by decide +kernel⟩
theorem ok_spot_of (T : Txt K mg) (C_is_number : Good P w K mg base CX0 1 "is_number" ["value"] sp_num) :
    Good P w K mg base (L2.CX P w) 2 "spot_of" ["x", "y", "by"] (sp_spot_of K) := by
  obtain ⟨fd, F⟩ := T.d_spot_of
  refine ⟨T.g_spot_of, F.kp, fd, F.bindsN (fun _ _ _ _ _ _ us hl => match us, hl with | [_, _, _], _ => rfl), F.ok sc_spot_of (fun vs H Q E h => ?_) (fun cdv A outer s H vs Q E hr h => ⟨_, (pss_cons (ps_if (pt_not (PW.pt (pw_and (pt_val (pe_own C_is_number hr rfl (pa_cons (pv 0) pa_nil))) (pw_and (pt_val (pe_own C_is_number hr rfl (pa_cons (pv 1) pa_nil))) (pw_and1 (pt_val (pe_own C_is_number hr rfl (pa_cons (pv 2) pa_nil)))))))) (pss_one (ps_raise rfl (takes_of rfl rfl rfl rfl) (pmk_own PySem.F.excBase_ValueError T.BadSpot.x T.BadSpot.g T.BadSpot.k (raises_own T.BadSpot.b T.BadSpot.t) rfl))) pss_nil)
    (pss_cons (ps_if (pt_cmpR op_eq (pv 2) pe_int (nomark _)) (pss_one (ps_raise rfl (takes_of rfl rfl rfl rfl) (pmk_own PySem.F.excBase_ValueError T.BadSpot.x T.BadSpot.g T.BadSpot.k (raises_own T.BadSpot.b T.BadSpot.t) rfl))) pss_nil)
    (pss_cons (ps_set (i := 3) sc_spot_of.nd rfl (Or.inl rfl) (pe_callBfun call_gcd3 (by rfl) T.gcd (pa_cons (pv 0) (pa_cons (pv 1) (pa_cons (pv 2) pa_nil)))))
    (pss_cons (ps_if (pt_cmpR op_lt (pv 2) pe_int (nomark _)) (pss_one (ps_set (i := 3) sc_spot_of.nd rfl (Or.inl rfl) (pe_un un_neg (pv 3)))) pss_nil)
    (pss_one (ps_ret (pe_tup (pa_cons (pe_op op_fdivA (pv 0) (pv 3)) (pa_cons (pe_op op_fdivA (pv 1) (pv 3)) (pa_cons (pe_op op_fdivA (pv 2) (pv 3)) pa_nil)))))))))), ?_⟩)⟩
  · obtain ⟨x, y, b, rfl, _⟩ := h
    rfl
  · obtain ⟨x, y, b, rfl, ax, ay, ab, kE, kQ⟩ := h
    refine ⟨_, rfl, x, rfl, ax, _, rfl, ite2 (fun cx => ?_) (fun cx => iteT (kE (.inl ?_)))⟩
    · refine ⟨_, rfl, y, rfl, ay, _, rfl, ite2 (fun cy => ?_) (fun cy => iteT (kE (.inl ?_)))⟩
      · refine ⟨_, rfl, b, rfl, ab, _, rfl, ?_⟩
        cases cb : isNum b with
        | false => exact iteT (kE (.inl (by rw [cb, Bool.and_false])))
        | true =>
          refine iteF ?_
          obtain ⟨i, rfl⟩ : ∃ i, x = .int i := by cases x <;> first | exact ⟨_, rfl⟩ | cases cx
          obtain ⟨j, rfl⟩ : ∃ j, y = .int j := by cases y <;> first | exact ⟨_, rfl⟩ | cases cy
          obtain ⟨k, rfl⟩ : ∃ k, b = .int k := by cases b <;> first | exact ⟨_, rfl⟩ | cases cb
          refine ⟨_, rfl, rfl, _, rfl, ite2 (fun c => kE (.inr ?_)) (fun c => ?_)⟩
          · exact of_decide_eq_true c
          · have k0 : k ≠ 0 := fun z => c (decide_eq_true (congrArg V.int z))
            obtain ⟨hk, kP⟩ := kQ i j k rfl rfl rfl k0
            have L := gcd_low (x := i) (y := j) k0 _ rfl
            have fin : ∀ s : Int, s = (if k < 0 then -(((Nat.gcd (Nat.gcd i.natAbs j.natAbs) k.natAbs : Nat)) : Int) else ((Nat.gcd (Nat.gcd i.natAbs j.natAbs) k.natAbs : Nat) : Int)) →
                tRet (tTup (tCons (tOp (rI CDivA fun i j => .int (i.fdiv j)) (tVar 0) (tVar 3)) (tCons (tOp (rI CDivA fun i j => .int (i.fdiv j)) (tVar 1) (tVar 3)) (tCons (tOp (rI CDivA fun i j => .int (i.fdiv j)) (tVar 2) (tVar 3)) tNil))))
                  { nx := fun _ H' => Q .non H', rt := Q } [some (.int i), some (.int j), some (.int k), some (.int s)] H := by
              intro s hs
              obtain ⟨s0, sk, low, e1, e2⟩ := gcd_low (x := i) (y := j) k0 s hs
              have sz : s.natAbs < 2 ^ 8000 := Nat.lt_of_le_of_lt sk hk
              have cd : ∀ n, CDivA n s := fun n => divA s0 sz (by decide) (by decide)
              refine ⟨_, rfl, _, rfl, _, _, rfl, rfl, cd _, ?_⟩
              refine ⟨_, rfl, _, rfl, _, _, rfl, rfl, cd _, ?_⟩
              refine ⟨_, rfl, _, rfl, _, _, rfl, rfl, cd _, ?_⟩
              exact ⟨(by show 3 ≤ sizeLine; decide), fun p hp => kP _ _ _ p low e1 e2 hp⟩
            refine ⟨_, rfl, _, rfl, _, rfl, _, _, _, rfl, ?_⟩
            refine ⟨_, rfl, _, _, rfl, rfl, _, rfl, ite2 (fun d => ?_) (fun d => ?_)⟩
            · have d1 : k < 0 := of_decide_eq_true d
              exact ⟨_, rfl, _, rfl, fin _ (by rw [if_pos d1])⟩
            · have d1 : ¬ k < 0 := fun z => d (decide_eq_true z)
              exact fin _ (by rw [if_neg d1])
      · have : isNum y = false := by simpa using cy
        rw [this, Bool.and_false, Bool.false_and]
    · have : isNum x = false := by simpa using cx
      rw [this, Bool.false_and, Bool.false_and]

/-! ## _law_cell_at -/
abbrev n_law_cell_at : List Str := ["_law_script", "_law_k"]
theorem sc_law_cell_at : FnScope n_law_cell_at ["_law_script", "_law_k"] (defScope s_law_cell_at) := ⟨rfl, rfl, rfl, by decide +kernel, rfl, by decide +kernel, by decide +kernel⟩
theorem ok_law_cell_at (T : Txt K mg) : Good P w K mg base CX0 1 "_law_cell_at" ["_law_script", "_law_k"] (sp_cell K) := by
  obtain ⟨fd, F⟩ := T.d_law_cell_at
  refine ⟨T.g_law_cell_at, F.kp, fd, F.bindsN (fun _ _ _ _ _ _ us hl => match us, hl with | [_, _], _ => rfl), F.ok sc_law_cell_at (fun vs H Q E h => ?_) (fun cdv A outer s H vs Q E hr h => ⟨_, PSs.nox (pss_cons (ps_if (pt_cmpR op_lt (pv 1) (pe_callB call_len_seq (by rfl) T.m_len PySem.boot_len (pa_cons (pv 0) pa_nil)) (nomark _)) (pss_one (ps_ret (pe_ix ix_list (pv 0) (pv 1) (fun _ _ => rfl)))) pss_nil)
    (pss_one (ps_ret pe_int))), ?_⟩)⟩
  · obtain ⟨a, ns, k, rfl, _⟩ := h
    rfl
  · obtain ⟨a, ns, k, rfl, hS, h0, q⟩ := h
    refine ⟨_, rfl, _, rfl, a, _, rfl, .inl hS, _, _, rfl, rfl, _, rfl, ite2 (fun c => ?_) (fun c => ?_)⟩
    · have c1 := of_decide_eq_true c
      rw [List.length_map] at c1
      exact ⟨_, rfl, _, rfl, a, _, k, _, rfl, rfl, hS, atI_ints h0 c1, q⟩
    · have c1 : ¬ k < ((ns.map V.int).length : Int) := fun z => c (decide_eq_true z)
      rw [List.length_map] at c1
      have e : cell ns k = 0 := by
        unfold cell
        rw [List.getD_eq_getElem?_getD, List.getElem?_eq_none (by omega)]
        rfl
      rw [e] at q
      exact q

/-! ## _law_whole -/
abbrev n_law_whole : List Str := ["_law_thing"]
theorem sc_law_whole : FnScope n_law_whole ["_law_thing"] (defScope s_law_whole) := ⟨rfl, rfl, rfl, by decide +kernel, rfl, by decide +kernel, by decide +kernel⟩
theorem ok_law_whole (T : Txt K mg) : Good P w K mg base CX0 1 "_law_whole" ["_law_thing"] sp_num := by
  obtain ⟨fd, F⟩ := T.d_law_whole
  refine ⟨T.g_law_whole, F.kp, fd, F.bindsN (fun _ _ _ _ _ _ us hl => match us, hl with | [_], _ => rfl), F.ok sc_law_whole (fun vs H Q E h => ?_) (fun cdv A outer s H vs Q E hr h => ⟨_, PSs.nox (pss_one (ps_ret (pe_and (pe_callB call_isi (by rfl) T.m_isinstance (by decide +kernel) (pa_cons (pv 0) (pa_cons (pe_bltn (v := .ty "int") (by rfl) T.m_int (by decide +kernel) rfl) pa_nil))) (pe_one (pe_not (pe_callB call_isi (by rfl) T.m_isinstance (by decide +kernel) (pa_cons (pv 0) (pa_cons (pe_bltn (v := .ty "bool") (by rfl) T.m_bool (by decide +kernel) rfl) pa_nil)))))))), num_read h⟩)⟩
  obtain ⟨v, rfl, _⟩ := h
  rfl

/-! ## _law_shared -/
abbrev n_law_shared : List Str := ["_law_one", "_law_other", "_law_rest"]
theorem sc_law_shared : FnScope n_law_shared ["_law_one", "_law_other"] (defScope s_law_shared) := ⟨rfl, rfl, rfl, by decide +kernel, rfl, by decide +kernel, by decide +kernel⟩
theorem ok_law_shared (T : Txt K mg) : Good P w K mg base CX0 1 "_law_shared" ["_law_one", "_law_other"] sp_shared := by
  obtain ⟨fd, F⟩ := T.d_law_shared
  refine ⟨T.g_law_shared, F.kp, fd, F.bindsN (fun _ _ _ _ _ _ us hl => match us, hl with | [_, _], _ => rfl), F.ok sc_law_shared (fun vs H Q E h => ?_) (fun cdv A outer s H vs Q E hr h => ⟨_, PSs.nox (pss_cons (ps_while PassesOwn.never (pt_cmpR op_ne (pv 1) pe_int (nomark _))
    (pss_cons (ps_set (i := 2) sc_law_shared.nd rfl (Or.inl rfl) (pe_op op_mod (pv 0) (pv 1)))
    (pss_cons (ps_set (i := 0) sc_law_shared.nd rfl (Or.inl rfl) (pv 1))
    (pss_one (ps_set (i := 1) sc_law_shared.nd rfl (Or.inl rfl) (pv 2))))))
    (pss_one (ps_ret (pv 0)))), ?_⟩)⟩
  · obtain ⟨a, b, rfl, _⟩ := h
    rfl
  · obtain ⟨a, b, rfl, ha, hb, q⟩ := h
    refine while_by (fun σ H' => H' = H ∧ ∃ (x y : Int) (z : Option V), σ = [some (.int x), some (.int y), z] ∧ 0 ≤ x ∧ 0 ≤ y ∧ Nat.gcd x.toNat y.toNat = Nat.gcd a.toNat b.toNat)
      (fun σ _ => match σ with | [_, some (.int y), _] => y.toNat | _ => 0) ⟨rfl, a, b, none, rfl, ha, hb, rfl⟩ ?_ (fun σ H Q Q' m ⟨v, h1, h2, k, h3, h4⟩ => ⟨v, h1, h2, k, h3, m _ _ h4⟩)
    rintro σ H' ⟨rfl, x, y, z, rfl, hx, hy, hg⟩
    refine ⟨_, rfl, rfl, _, rfl, ite2 (fun c => ?_) (fun c => ?_)⟩
    · have c1 : y ≠ 0 := by
        intro e
        subst e
        simp at c
      have y0 : 0 < y := by omega
      refine ⟨_, rfl, _, rfl, _, _, rfl, rfl, y0, _, rfl, _, rfl, ⟨rfl, y, x % y, _, rfl, hy, Int.emod_nonneg _ c1, ?_⟩, ?_⟩
      · rw [← hg]
        have e : (x % y).toNat = x.toNat % y.toNat := by
          obtain ⟨n, rfl⟩ := Int.eq_ofNat_of_zero_le hx
          obtain ⟨m, rfl⟩ := Int.eq_ofNat_of_zero_le hy
          rfl
        rw [e, Nat.gcd_comm x.toNat, Nat.gcd_rec y.toNat x.toNat, Nat.gcd_comm]
      · show (x % y).toNat < y.toNat
        have := Int.emod_lt_of_pos x y0
        have := Int.emod_nonneg x c1
        omega
    · have c1 : y = 0 := by
        apply Classical.byContradiction
        intro e
        apply c
        simp [e]
      subst c1
      rw [← hg] at q
      have e : ((Nat.gcd x.toNat (0 : Int).toNat : Nat) : Int) = x := by
        rw [show (0 : Int).toNat = 0 from rfl, Nat.gcd_zero_right]
        omega
      rw [e] at q
      exact ⟨_, rfl, q⟩

/-! ## _law_good_spot -/
abbrev n_law_good_spot : List Str := ["_law_spot", "_law_number"]
theorem sc_law_good_spot : FnScope n_law_good_spot ["_law_spot"] (defScope s_law_good_spot) := ⟨rfl, rfl, rfl, by decide +kernel, rfl, by decide +kernel, by decide +kernel⟩
theorem ok_law_good_spot (T : Txt K mg) (C_law_whole : Good P w K mg base CX0 1 "_law_whole" ["_law_thing"] sp_num) (C_law_shared : Good P w K mg base CX0 1 "_law_shared" ["_law_one", "_law_other"] sp_shared) :
    Good P w K mg base CX0 2 "_law_good_spot" ["_law_spot"] sp_law_good_spot := by
  obtain ⟨fd, F⟩ := T.d_law_good_spot
  refine ⟨T.g_law_good_spot, F.kp, fd, F.bindsN (fun _ _ _ _ _ _ us hl => match us, hl with | [_], _ => rfl), F.ok sc_law_good_spot (fun vs H Q E h => ?_) (fun cdv A outer s H vs Q E hr h => ⟨_, PSs.nox (pss_cons (ps_if (PW.pt (pw_or (pt_not (pt_val (pe_callB call_isi (by rfl) T.m_isinstance (by decide +kernel) (pa_cons (pv 0) (pa_cons (pe_bltn (v := .ty "tuple") (by rfl) T.m_tuple (by decide +kernel) rfl) pa_nil))))) (pw_or1 (pt_cmpR op_ne (pe_callB call_len_seq (by rfl) T.m_len PySem.boot_len (pa_cons (pv 0) pa_nil)) pe_int (nomark _))))) (pss_one (ps_ret pe_bl)) pss_nil)
    (pss_cons (ps_for PassesOwn.never rfl (pi_tup (pv 0)) (pg_name (i := 1) sc_law_good_spot.nd rfl (Or.inl rfl))
    (pss_one (ps_if (pt_not (pt_val (pe_own C_law_whole hr rfl (pa_cons (pv 1) pa_nil)))) (pss_one (ps_ret pe_bl)) pss_nil)))
    (pss_one (ps_ret (pe_and (pe_cmpR op_gt (pe_ix ix_tup (pv 0) pe_int (fun _ _ => rfl)) pe_int (nomark _)) (pe_one (pe_cmpR op_eq (pe_own C_law_shared hr rfl (pa_cons (pe_callB call_abs (by rfl) T.m_abs (by decide +kernel) (pa_cons (pe_ix ix_tup (pv 0) pe_int (fun _ _ => rfl)) pa_nil)) (pa_cons (pe_own C_law_shared hr rfl (pa_cons (pe_callB call_abs (by rfl) T.m_abs (by decide +kernel) (pa_cons (pe_ix ix_tup (pv 0) pe_int (fun _ _ => rfl)) pa_nil)) (pa_cons (pe_ix ix_tup (pv 0) pe_int (fun _ _ => rfl)) pa_nil))) pa_nil))) pe_int (nomark _)))))))), ?_⟩)⟩
  · obtain ⟨p, x, y, b, rfl, _⟩ := h
    rfl
  · obtain ⟨p, x, y, b, rfl, hp, q⟩ := h
    have hT : SqT K H p [.int x, .int y, .int b] := SqT.of hp
    refine ⟨_, rfl, _, _, _, _, true, rfl, .ty _, .base (.tup hp), kit_ty (by decide +kernel), _, rfl, iteF ?_⟩
    refine ⟨_, rfl, p, _, rfl, .inr hT, rfl, _, rfl, iteF ?_⟩
    refine ⟨_, rfl, p, rfl, ⟨_, hT⟩, for_tup (xs := [.int x, .int y, .int b]) (fun i σ H' => H' = H ∧ ∃ z, σ = [some (.ref p), z]) ⟨rfl, none, rfl⟩ (fun i σ H' _ z => by rw [z.1]; exact hT) ?_ ?_⟩
    · rintro i v σ H' hi ⟨rfl, z, rfl⟩
      have hv : ∃ n, v = .int n := by
        match i, hi with
        | 0, hi => exact ⟨x, (Option.some.inj hi).symm⟩
        | 1, hi => exact ⟨y, (Option.some.inj hi).symm⟩
        | 2, hi => exact ⟨b, (Option.some.inj hi).symm⟩
      obtain ⟨n, rfl⟩ := hv
      exact ⟨_, rfl, _, rfl, .int n, _, rfl, iteF ⟨rfl, _, rfl⟩⟩
    · rintro σ H' ⟨rfl, z, rfl⟩
      refine ⟨_, rfl, p, _, 2, .int b, rfl, rfl, hT, rfl, b, 0, rfl, rfl, _, rfl, ite2 (fun c => ?_) (fun c => ?_)⟩
      · have b0 : 0 < b := of_decide_eq_true c
        have absI : ∀ i : Int, (if i < 0 then -i else i).toNat = i.natAbs := fun i => by split <;> omega
        have absP : ∀ i : Int, 0 ≤ (if i < 0 then -i else i) := fun i => by split <;> omega
        refine ⟨_, rfl, p, _, 0, .int x, rfl, rfl, hT, rfl, x, rfl, ?_⟩
        refine ⟨_, rfl, p, _, 1, .int y, rfl, rfl, hT, rfl, y, rfl, ?_⟩
        refine ⟨_, rfl, p, _, 2, .int b, rfl, rfl, hT, rfl, ?_⟩
        refine ⟨_, b, rfl, absP y, by omega, ?_⟩
        refine ⟨_, _, rfl, absP x, Int.natCast_nonneg _, rfl, ?_⟩
        rw [absI, absI, Int.toNat_natCast, show b.toNat = b.natAbs by omega]
        have e : decide (Low x y b) = decide (V.int ((Nat.gcd x.natAbs (Nat.gcd y.natAbs b.natAbs) : Nat) : Int) = V.int 1) := by
          apply decide_eq_decide.mpr
          constructor
          · intro l
            rw [l.2] <;> rfl
          · intro l
            refine ⟨b0, ?_⟩
            have := V.int.inj l
            omega
        rw [e] at q
        exact q
      · have e : decide (Low x y b) = false := decide_eq_false fun l => c (decide_eq_true l.1)
        rw [e] at q
        exact q

/-! ## _law_number_by -/
abbrev n_law_number_by : List Str := ["_law_cell", "_law_way"]
theorem sc_law_number_by : FnScope n_law_number_by ["_law_cell", "_law_way"] (defScope s_law_number_by) := ⟨rfl, rfl, rfl, by decide +kernel, rfl, by decide +kernel, by decide +kernel⟩
def numBy (c w : Int) : Int := if w % 3 = 0 then c % 25 - 12 else c % 2000000001 - 1000000000
def sp_law_number_by : Sp := fun vs H Q _ => ∃ c w : Int, vs = [.int c, .int w] ∧ Q (.int (numBy c w)) H
theorem numBy_le (c w : Int) : (numBy c w).natAbs ≤ 1000000000 := by
  unfold numBy
  split <;> omega
theorem ok_law_number_by (T : Txt K mg) : Good P w K mg base CX0 1 "_law_number_by" ["_law_cell", "_law_way"] sp_law_number_by := by
  obtain ⟨fd, F⟩ := T.d_law_number_by
  refine ⟨T.g_law_number_by, F.kp, fd, F.bindsN (fun _ _ _ _ _ _ us hl => match us, hl with | [_, _], _ => rfl), F.ok sc_law_number_by (fun vs H Q E h => ?_) (fun cdv A outer s H vs Q E hr h => ⟨_, PSs.nox (pss_cons (ps_if (pt_cmpR op_eq (pe_op op_mod (pv 1) pe_int) pe_int (nomark _)) (pss_one (ps_ret (pe_op op_sub (pe_op op_mod (pv 0) pe_int) pe_int))) pss_nil)
    (pss_one (ps_ret (pe_op op_sub (pe_op op_mod (pv 0) pe_int) pe_int)))), ?_⟩)⟩
  · obtain ⟨c, w, rfl, _⟩ := h
    rfl
  · obtain ⟨c, w, rfl, q⟩ := h
    refine ⟨_, rfl, _, _, rfl, rfl, (by show (0 : Int) < 3; decide), rfl, _, rfl, ite2 (fun z => ?_) (fun z => ?_)⟩
    · have e : w % 3 = 0 := V.int.inj (of_decide_eq_true z)
      refine ⟨_, rfl, _, _, rfl, rfl, (by show (0 : Int) < 25; decide), _, _, rfl, rfl, ?_⟩
      unfold numBy at q
      rw [if_pos e] at q
      exact q
    · have e : ¬ w % 3 = 0 := fun y => z (decide_eq_true (congrArg V.int y))
      refine ⟨_, rfl, _, _, rfl, rfl, (by show (0 : Int) < 2000000001; decide), _, _, rfl, rfl, ?_⟩
      unfold numBy at q
      rw [if_neg e] at q
      exact q

/-! ## _law_names -/
abbrev n_law_names : List Str := ["_law_e", "_law_found"]
theorem sc_law_names : FnScope n_law_names ["_law_e"] (defScope s_law_names) := ⟨rfl, rfl, rfl, by decide +kernel, rfl, by decide +kernel, by decide +kernel⟩
theorem ok_law_names_BadSpot (T : Txt K mg) : Tells P w K mg base "_law_names" (He.ga K "BadSpot") "spot " := by
  obtain ⟨fd, F⟩ := T.d_law_names
  have b := F.bindsN (ps := ["_law_e"]) (fun _ _ _ _ _ _ us hl => match us, hl with | [_], _ => rfl)
  obtain ⟨oc, od, dV, kV, doc, pm, an, cdv, ct, osl, rfl, lk, hcd, _, _⟩ := F.ex
  refine ⟨_, "_law_e", b, fun A outer s H args p Q E room pin hz hf e0 hb q => ?_⟩
  have k := T.kit_BadSpot
  have CI : ∀ {X : Cx}, X.K = K → p ∈ X.pn → CallR X (.builtin "isinstance") (rIsE X.K (He.ga K "BadSpot") p.1) := by
    rintro X rfl hp
    exact call_isP k.c hp hz hf
  refine tells_run (N := n_law_names) (vs := [.ref p.1]) (us := [.ref p.1]) lk hcd sc_law_names rfl room pin e0 hb (.cons rfl .nil)
    (pss_cons (ps_set (i := 1) sc_law_names.nd rfl (Or.inl rfl) pe_str)
    (pss_cons (ps_if (pt_val (pe_callB (CI rfl List.mem_cons_self) (by rfl) T.m_isinstance (by decide +kernel) (pa_cons (pv 0) (pa_cons (pe_glob (v := .ref (He.ga K "BadSize")) rfl T.BadSize.g rfl) pa_nil)))) (pss_one (ps_set (i := 1) sc_law_names.nd rfl (Or.inl rfl) (pe_op op_add_str (pv 1) pe_str))) pss_nil)
    (pss_cons (ps_if (pt_val (pe_callB (CI rfl List.mem_cons_self) (by rfl) T.m_isinstance (by decide +kernel) (pa_cons (pv 0) (pa_cons (pe_glob (v := .ref (He.ga K "BadFence")) rfl T.BadFence.g rfl) pa_nil)))) (pss_one (ps_set (i := 1) sc_law_names.nd rfl (Or.inl rfl) (pe_op op_add_str (pv 1) pe_str))) pss_nil)
    (pss_cons (ps_if (pt_val (pe_callB (CI rfl List.mem_cons_self) (by rfl) T.m_isinstance (by decide +kernel) (pa_cons (pv 0) (pa_cons (pe_glob (v := .ref (He.ga K "TooMany")) rfl T.TooMany.g rfl) pa_nil)))) (pss_one (ps_set (i := 1) sc_law_names.nd rfl (Or.inl rfl) (pe_op op_add_str (pv 1) pe_str))) pss_nil)
    (pss_cons (ps_if (pt_val (pe_callB (CI rfl List.mem_cons_self) (by rfl) T.m_isinstance (by decide +kernel) (pa_cons (pv 0) (pa_cons (pe_glob (v := .ref (He.ga K "BadSpot")) rfl T.BadSpot.g rfl) pa_nil)))) (pss_one (ps_set (i := 1) sc_law_names.nd rfl (Or.inl rfl) (pe_op op_add_str (pv 1) pe_str))) pss_nil)
    (pss_cons (ps_if (pt_val (pe_callB (CI rfl List.mem_cons_self) (by rfl) T.m_isinstance (by decide +kernel) (pa_cons (pv 0) (pa_cons (pe_glob (v := .ref (He.ga K "BadWay")) rfl T.BadWay.g rfl) pa_nil)))) (pss_one (ps_set (i := 1) sc_law_names.nd rfl (Or.inl rfl) (pe_op op_add_str (pv 1) pe_str))) pss_nil)
    (pss_cons (ps_if (pt_val (pe_callB (CI rfl List.mem_cons_self) (by rfl) T.m_isinstance (by decide +kernel) (pa_cons (pv 0) (pa_cons (pe_glob (v := .ref (He.ga K "NoLand")) rfl T.NoLand.g rfl) pa_nil)))) (pss_one (ps_set (i := 1) sc_law_names.nd rfl (Or.inl rfl) (pe_op op_add_str (pv 1) pe_str))) pss_nil)
    (pss_cons (ps_if (pt_val (pe_callB (CI rfl List.mem_cons_self) (by rfl) T.m_isinstance (by decide +kernel) (pa_cons (pv 0) (pa_cons (pe_glob (v := .ref (He.ga K "NoFence")) rfl T.NoFence.g rfl) pa_nil)))) (pss_one (ps_set (i := 1) sc_law_names.nd rfl (Or.inl rfl) (pe_op op_add_str (pv 1) pe_str))) pss_nil)
    (pss_cons (ps_if (pt_not (pt_val (pe_callB (CI rfl List.mem_cons_self) (by rfl) T.m_isinstance (by decide +kernel) (pa_cons (pv 0) (pa_cons (pe_bltn (v := .ty "ValueError") (by rfl) T.m_ValueError (by decide +kernel) rfl) pa_nil))))) (pss_one (ps_set (i := 1) sc_law_names.nd rfl (Or.inl rfl) pe_str)) pss_nil)
    (pss_one (ps_ret (pv 1)))))))))))) ?_
  refine ⟨_, rfl, _, _, _, rfl, fun u r => r, k.y ("BadSize", false) (by simp), _, rfl, iteF ?_⟩
  refine ⟨_, rfl, _, _, _, rfl, fun u r => r, k.y ("BadFence", false) (by simp), _, rfl, iteF ?_⟩
  refine ⟨_, rfl, _, _, _, rfl, fun u r => r, k.y ("TooMany", false) (by simp), _, rfl, iteF ?_⟩
  refine ⟨_, rfl, _, _, _, rfl, fun u r => r, k.y ("BadSpot", true) (by simp), _, rfl, iteT ?_⟩
  refine ⟨_, rfl, _, _, rfl, rfl, (by decide +kernel), ?_⟩
  refine ⟨_, rfl, _, _, _, rfl, fun u r => r, k.y ("BadWay", false) (by simp), _, rfl, iteF ?_⟩
  refine ⟨_, rfl, _, _, _, rfl, fun u r => r, k.y ("NoLand", false) (by simp), _, rfl, iteF ?_⟩
  refine ⟨_, rfl, _, _, _, rfl, fun u r => r, k.y ("NoFence", false) (by simp), _, rfl, iteF ?_⟩
  refine ⟨_, rfl, _, _, _, rfl, fun u r => r, k.v, _, rfl, iteF ?_⟩
  refine ⟨_, rfl, ?_⟩
  have fin : ∀ z : Str, z = "spot " → Q (.str z) H := by
    rintro z rfl
    exact q
  exact fin _ (by decide +kernel)

/-! ## _law_refused -/
abbrev n_law_refused : List Str := ["_law_x", "_law_y", "_law_by", "_law_e"]
theorem sc_law_refused : FnScope n_law_refused ["_law_x", "_law_y", "_law_by"] (defScope s_law_refused) := ⟨rfl, rfl, rfl, by decide +kernel, rfl, by decide +kernel, by decide +kernel⟩
def sp_law_refused : Sp := fun vs H Q _ => ∃ x y b : V, vs = [x, y, b] ∧ Arg H x ∧ Arg H y ∧ Arg H b ∧ ((isNum x && isNum y && isNum b) = false ∨ b = .int 0) ∧ Q (.bl true) H
theorem ok_law_refused (T : Txt K mg) (C_spot_of : Good P w K mg base (L2.CX P w) 2 "spot_of" ["x", "y", "by"] (sp_spot_of K)) :
    Good P w K mg base CX0 3 "_law_refused" ["_law_x", "_law_y", "_law_by"] sp_law_refused := by
  obtain ⟨fd, F⟩ := T.d_law_refused
  obtain ⟨fdn, Fn⟩ := T.d_law_names
  have NAMES_kp := Fn.kp
  have NB : Tells P w K mg base "_law_names" (He.ga K "BadSpot") "spot " := ok_law_names_BadSpot T
  refine ⟨T.g_law_refused, F.kp, fd, F.bindsN (fun _ _ _ _ _ _ us hl => match us, hl with | [_, _, _], _ => rfl), F.ok sc_law_refused (fun vs H Q E h => ?_) (fun cdv A outer s H vs Q E hr h => ⟨_, PSs.nox (pss_cons (ps_try_as (i := 3) (Wout := fun _ _ _ _ => False) rfl rfl sc_law_refused.nd rfl rfl ⟨rfl, by decide, Or.inl T.LandError.g⟩ takes0 (fun W pn xe tk _ => (pss_one (ps_expr (pe_ownS C_spot_of hr tk rfl (pa_cons (pv 0) (pa_cons (pv 1) (pa_cons (pv 2) pa_nil))))))) (fun a oe cls d pn hz hf => (pss_one (ps_ret (pe_cmpR op_eq (pe_tell T.g_law_names NAMES_kp hz hf hr.depth rfl (pa_cons (pv 3) pa_nil)) pe_str (nomark _))))))
    (pss_one (ps_ret pe_bl))), ?_⟩)⟩
  · obtain ⟨x, y, b, rfl, _⟩ := h
    rfl
  · obtain ⟨x, y, b, rfl, ax, ay, ab, bad, q⟩ := h
    refine ⟨_, rfl, _, rfl, _, rfl, x, y, b, rfl, ax, ay, ab, fun _ => ⟨true, T.ex_BadSpot_LandError, fun _ a0 _ => ?_, fun z => Bool.noConfusion z⟩, fun i j k ex ey eb k0 => ?_⟩
    · exact ⟨_, rfl, rfl, rfl, _, _, rfl, NB, rfl, q⟩
    · subst ex ey eb
      cases bad with
      | inl z => cases z
      | inr z => exact absurd (V.int.inj z) k0

/-! ## law -/
abbrev n_law : List Str := ["_law_script", "_law_way", "_law_numbers", "_law_times", "_law_at", "_law_found", "_law_k"]
theorem sc_law : FnScope n_law ["_law_script"] (defScope s_law) := ⟨rfl, rfl, rfl, by decide +kernel, rfl, by decide +kernel, by decide +kernel⟩
def sp_law (K : PySem.W.Frag) : Sp := fun vs H Q _ => ∃ (a : Addr) (ns : List Int), vs = [.ref a] ∧ SqL K H a (ns.map V.int) ∧ ns.length ≤ 63 ∧ ∀ H', Q (.bl true) H'
theorem mulOk {i j : Int} (h : j.natAbs ≤ 1000000000000) : CMul i j := by
  refine .inr ⟨?_, ?_⟩ <;> omega
theorem mulOk' {i j : Int} (h : i.natAbs ≤ 1000000000000) : CMul i j := by
  refine .inl ⟨?_, ?_⟩ <;> omega
/-- the menu's items -/
def menu (p : Addr) : List V := [.bl true, .bl false, .non, .str "1", .ref p]
theorem menu_at {p : Addr} {H : Hp} (hp : H p = some (.tup [.int 1])) (n : Int) : ∃ v, atI (menu p) (n % 5) = some v ∧ isNum v = false ∧ Arg H v := by
  have h0 : 0 ≤ n % 5 := Int.emod_nonneg _ (by decide)
  have h1 : n % 5 < 5 := Int.emod_lt_of_pos _ (by decide)
  have : n % 5 = 0 ∨ n % 5 = 1 ∨ n % 5 = 2 ∨ n % 5 = 3 ∨ n % 5 = 4 := by omega
  rcases this with e | e | e | e | e <;> rw [e]
  · exact ⟨.bl true, rfl, rfl, .bl _⟩
  · exact ⟨.bl false, rfl, rfl, .bl _⟩
  · exact ⟨.non, rfl, rfl, .non⟩
  · exact ⟨.str "1", rfl, rfl, .str _⟩
  · exact ⟨.ref p, rfl, rfl, .tup hp⟩
theorem ok_law {fd : FuncData} (T : Txt K mg) (F : FnP K "law" s_law fd) (C_law_cell_at : Good P w K mg base CX0 1 "_law_cell_at" ["_law_script", "_law_k"] (sp_cell K))
    (C_law_number_by : Good P w K mg base CX0 1 "_law_number_by" ["_law_cell", "_law_way"] sp_law_number_by)
    (C_law_refused : Good P w K mg base CX0 3 "_law_refused" ["_law_x", "_law_y", "_law_by"] sp_law_refused)
    (C_spot_of : Good P w K mg base (L2.CX P w) 2 "spot_of" ["x", "y", "by"] (sp_spot_of K))
    (C_law_good_spot : Good P w K mg base CX0 2 "_law_good_spot" ["_law_spot"] sp_law_good_spot) :
    FnOk P w K mg base CX0 (3 + 1) (He.ga K "law") fd ["_law_script"] (sp_law K) := by
  refine F.ok sc_law (fun vs H Q E h => ?_) (fun cdv A outer s H vs Q E hr h => ⟨_, PSs.nox (pss_cons (ps_set (i := 1) sc_law.nd rfl (Or.inr rfl) (pe_own C_law_cell_at (hr.mono (by decide)) rfl (pa_cons (pv 0) (pa_cons pe_int pa_nil))))
    (pss_cons (ps_setLc (i := 2) (y := "_law_numbers") (own := [("_law_k", 6)]) (g := gName 6) (tt := tYes) (by rfl) sc_law.nd rfl rfl (sw_true rfl rfl rfl (by decide +kernel)) (pi_range1 (by rfl) T.m_range (pa_cons pe_int pa_nil)) (blkOk_by (own := [("_law_k", 6)]) (N := n_law) (sc := defScope s_law) (by decide +kernel)) (fun _ _ _ _ _ => pg_name (i := 6) sc_law.nd rfl (Or.inl rfl)) (fun _ _ _ _ _ => pts_nil) (fun _ _ _ _ _ => (pe_own C_law_number_by (hr.mono (by decide)) rfl (pa_cons (pe_own C_law_cell_at (hr.mono (by decide)) rfl (pa_cons (pv 0) (pa_cons (pe_op op_add pe_int (pv 6)) pa_nil))) (pa_cons (pv 1) pa_nil)))))
    (pss_cons (ps_if (pt_cmpR op_eq (pe_op op_mod (pv 1) pe_int) pe_int (nomark _)) (pss_cons (ps_set (i := 3) sc_law.nd rfl (Or.inl rfl) (pe_op op_add pe_int (pe_op op_mod (pe_own C_law_cell_at (hr.mono (by decide)) rfl (pa_cons (pv 0) (pa_cons pe_int pa_nil))) pe_int)))
    (pss_one (ps_set (i := 2) sc_law.nd rfl (Or.inl rfl) (pe_lst (pa_cons (pe_op op_mul (pe_ix ix_list (pv 2) pe_int (fun _ _ => rfl)) (pv 3)) (pa_cons (pe_op op_mul (pe_ix ix_list (pv 2) pe_int (fun _ _ => rfl)) (pv 3)) (pa_cons (pe_op op_mul (pe_ix ix_list (pv 2) pe_int (fun _ _ => rfl)) (pv 3)) pa_nil))))))) pss_nil)
    (pss_cons (ps_if (pt_cmpR op_eq (pe_op op_mod (pe_op op_fdiv (pv 1) pe_int) pe_int) pe_int (nomark _)) (pss_cons (ps_set (i := 4) sc_law.nd rfl (Or.inl rfl) (pe_op op_mod (pe_own C_law_cell_at (hr.mono (by decide)) rfl (pa_cons (pv 0) (pa_cons pe_int pa_nil))) pe_int))
    (pss_cons (ps_if (pt_cmpR op_eq (pv 4) pe_int (nomark _)) (pss_one (ps_ret (pe_own C_law_refused hr rfl (pa_cons (pe_ix ix_list (pv 2) pe_int (fun _ _ => rfl)) (pa_cons (pe_ix ix_list (pv 2) pe_int (fun _ _ => rfl)) (pa_cons pe_int pa_nil)))))) pss_nil)
    (pss_cons (ps_asg (pe_ix ix_list (pe_lst (pa_cons pe_bl (pa_cons pe_bl (pa_cons pe_non (pa_cons pe_str (pa_cons (pe_tup (pa_cons pe_int pa_nil)) pa_nil)))))) (pe_op op_mod (pe_op op_fdiv (pe_own C_law_cell_at (hr.mono (by decide)) rfl (pa_cons (pv 0) (pa_cons pe_int pa_nil))) pe_int) pe_int) (fun _ _ => rfl)) (pg_sub (pv 2) (pv 4) set_list))
    (pss_one (ps_ret (pe_own C_law_refused hr rfl (pa_cons (pe_ix ix_list (pv 2) pe_int (fun _ _ => rfl)) (pa_cons (pe_ix ix_list (pv 2) pe_int (fun _ _ => rfl)) (pa_cons (pe_ix ix_list (pv 2) pe_int (fun _ _ => rfl)) pa_nil))))))))) pss_nil)
    (pss_cons (ps_if (pt_cmpR op_eq (pe_ix ix_list (pv 2) pe_int (fun _ _ => rfl)) pe_int (nomark _)) (pss_one (ps_asg pe_int (pg_sub (pv 2) pe_int set_list))) pss_nil)
    (pss_cons (ps_set (i := 5) sc_law.nd rfl (Or.inl rfl) (pe_ownL C_spot_of (hr.mono (by decide)) rfl (pa_cons (pe_ix ix_list (pv 2) pe_int (fun _ _ => rfl)) (pa_cons (pe_ix ix_list (pv 2) pe_int (fun _ _ => rfl)) (pa_cons (pe_ix ix_list (pv 2) pe_int (fun _ _ => rfl)) pa_nil)))))
    (pss_cons (ps_if (pt_not (pt_val (pe_own C_law_good_spot (hr.mono (by decide)) rfl (pa_cons (pv 5) pa_nil)))) (pss_one (ps_ret pe_bl)) pss_nil)
    (pss_one (ps_ret (pe_and (pe_cmpR op_eq (pe_op op_mul (pe_ix ix_tup (pv 5) pe_int (fun _ _ => rfl)) (pe_ix ix_list (pv 2) pe_int (fun _ _ => rfl))) (pe_op op_mul (pe_ix ix_list (pv 2) pe_int (fun _ _ => rfl)) (pe_ix ix_tup (pv 5) pe_int (fun _ _ => rfl))) (nomark _)) (pe_one (pe_cmpR op_eq (pe_op op_mul (pe_ix ix_tup (pv 5) pe_int (fun _ _ => rfl)) (pe_ix ix_list (pv 2) pe_int (fun _ _ => rfl))) (pe_op op_mul (pe_ix ix_list (pv 2) pe_int (fun _ _ => rfl)) (pe_ix ix_tup (pv 5) pe_int (fun _ _ => rfl))) (nomark _))))))))))))), ?_⟩)
  · obtain ⟨a, ns, rfl, _⟩ := h
    rfl
  · obtain ⟨a, ns, rfl, hS, hlen, q⟩ := h
    refine ⟨.ref a, rfl, a, ns, 0, rfl, hS, Int.le_refl 0, ?_⟩
    refine ⟨3, rfl, by decide, by decide, fun d hd => ?_⟩
    refine lc_range (lo := 0) (n := 3) (fun i H' => H' = upd H d (.lst ((List.range i).map fun (i : Nat) => V.int (numBy (cell ns (1 + (0 + (i : Int)))) (cell ns 0))))) rfl ?_ ?_
    · rintro i H' hi rfl
      refine ⟨rfl, ?_⟩
      refine ⟨.ref a, rfl, _, rfl, 1, (0 + (i : Int)), rfl, rfl, a, ns, _, rfl, (same_upd hd).seq hS, by omega, _, rfl, _, _, rfl, _, upd_same, ?_, ?_⟩
      · rw [List.length_map, List.length_range]
        exact small1000 (by omega)
      · rw [upd_upd, List.range_succ, List.map_append]
        rfl
    · intro H1 hP
      obtain ⟨n0, n1, n2, b0, b1, b2, e1, s1⟩ : ∃ n0 n1 n2 : Int, n0.natAbs ≤ 1000000000 ∧ n1.natAbs ≤ 1000000000 ∧ n2.natAbs ≤ 1000000000 ∧ H1 d = some (.lst [.int n0, .int n1, .int n2]) ∧ Same H H1 :=
        ⟨_, _, _, numBy_le _ _, numBy_le _ _, numBy_le _ _, by rw [hP, upd_same]; rfl, by rw [hP]; exact same_upd hd⟩
      clear hP
      refine gName_go ?_
      refine if_cut (fun σ H' => ∃ (e : Addr) (m0 m1 m2 : Int) (x3 x6 : Option V), σ = [some (.ref a), some (.int (cell ns 0)), some (.ref e), x3, none, none, x6] ∧ Same H H' ∧ H e = none ∧ H' e = some (.lst [.int m0, .int m1, .int m2]) ∧ m0.natAbs ≤ 1000000000000 ∧ m1.natAbs ≤ 1000000000000 ∧ m2.natAbs ≤ 1000000000000) ?_ ?_
      · rintro σ H2 ⟨e, m0, m1, m2, x3, x6, rfl, sm, ne, he, c0, c1, c2⟩
        have hL : SqL K H2 e [.int m0, .int m1, .int m2] := SqL.of he
        have hS2 := sm.seq hS
        refine if_cut (fun σ H' => ∃ (x3 x6 : Option V), σ = [some (.ref a), some (.int (cell ns 0)), some (.ref e), x3, none, none, x6] ∧ H' = H2) ?_ ?_
        · rintro σ H' ⟨x3, x6, rfl, rfl⟩
          refine if_cut (fun σ H2 => ∃ (m2 : Int) (x3 x6 : Option V), σ = [some (.ref a), some (.int (cell ns 0)), some (.ref e), x3, none, none, x6] ∧ H2 e = some (.lst [.int m0, .int m1, .int m2]) ∧ m2 ≠ 0 ∧ m2.natAbs ≤ 1000000000000) ?_ ?_
          · rintro σ H3 ⟨m2, x3, x6, rfl, he, h2, c2⟩
            have hL : SqL K H3 e [.int m0, .int m1, .int m2] := SqL.of he
            refine ⟨_, rfl, e, _, 0, .int m0, rfl, rfl, hL, rfl, ?_⟩
            refine ⟨_, rfl, e, _, 1, .int m1, rfl, rfl, hL, rfl, ?_⟩
            refine ⟨_, rfl, e, _, 2, .int m2, rfl, rfl, hL, rfl, ?_⟩
            refine ⟨.int m0, .int m1, .int m2, rfl, .int _, .int _, .int _, fun z => ?_, fun i j k ei ej ek k0 => ⟨?_, fun X Y B p low ex ey hp => ?_⟩⟩
            · cases z with
              | inl z => cases z
              | inr z => exact absurd (V.int.inj z) h2
            · cases ek
              exact big8000 c2 (by decide)
            · cases ei; cases ej; cases ek
              have ne : e ≠ p := ne_of_none he hp
              have hp2 : (upd H3 p (.tup [.int X, .int Y, .int B])) p = some (.tup [.int X, .int Y, .int B]) := upd_same
              have hF : SqT K (upd H3 p (.tup [.int X, .int Y, .int B])) p [.int X, .int Y, .int B] := SqT.of hp2
              have hL2 : SqL K (upd H3 p (.tup [.int X, .int Y, .int B])) e [.int m0, .int m1, .int m2] := SqL.of (by rw [upd_ne ne]; exact he)
              refine ⟨_, rfl, p, X, Y, B, rfl, hp2, _, rfl, ?_⟩
              rw [decide_eq_true low]
              refine iteF ?_
              refine ⟨_, rfl, p, _, 0, .int X, rfl, rfl, hF, rfl, ?_⟩
              refine ⟨_, rfl, e, _, 2, .int m2, rfl, rfl, hL2, rfl, X, m2, rfl, rfl, mulOk c2, ?_⟩
              refine ⟨_, rfl, e, _, 0, .int m0, rfl, rfl, hL2, rfl, ?_⟩
              refine ⟨_, rfl, p, _, 2, .int B, rfl, rfl, hF, rfl, m0, B, rfl, rfl, mulOk' c0, rfl, _, rfl, ?_⟩
              rw [decide_eq_true (congrArg V.int ex)]
              refine iteT ?_
              refine ⟨_, rfl, p, _, 1, .int Y, rfl, rfl, hF, rfl, ?_⟩
              refine ⟨_, rfl, e, _, 2, .int m2, rfl, rfl, hL2, rfl, Y, m2, rfl, rfl, mulOk c2, ?_⟩
              refine ⟨_, rfl, e, _, 1, .int m1, rfl, rfl, hL2, rfl, ?_⟩
              refine ⟨_, rfl, p, _, 2, .int B, rfl, rfl, hF, rfl, m1, B, rfl, rfl, mulOk' c1, rfl, ?_⟩
              rw [decide_eq_true (congrArg V.int ey)]
              exact q _
          · intro go
            refine ⟨_, rfl, e, _, 2, .int m2, rfl, rfl, hL, rfl, rfl, _, rfl, ite2 (fun z => ?_) (fun z => ?_)⟩
            · exact ⟨_, rfl, e, _, 2, 2, rfl, rfl, he, rfl, go _ _ ⟨1, x3, x6, rfl, upd_same, by decide, by decide⟩⟩
            · exact go _ _ ⟨m2, x3, x6, rfl, he, fun y => z (decide_eq_true (congrArg V.int y)), c2⟩
        · intro go
          refine ⟨_, rfl, _, _, rfl, rfl, ⟨by decide, by decide⟩, _, _, rfl, rfl, (by show (0 : Int) < 6; decide), rfl, _, rfl, ite2 (fun z => ?_) (fun z => ?_)⟩
          · -- _law_at
            refine ⟨.ref a, rfl, a, ns, 5, rfl, hS2, by decide, _, _, rfl, rfl, (by show (0 : Int) < 4; decide), ?_⟩
            have a0 : 0 ≤ cell ns 5 % 4 := Int.emod_nonneg _ (by decide)
            have a4 : cell ns 5 % 4 < 4 := Int.emod_lt_of_pos _ (by decide)
            refine ⟨_, rfl, rfl, _, rfl, ite2 (fun y => ?_) (fun y => ?_)⟩
            · refine ⟨_, rfl, e, _, 0, .int m0, rfl, rfl, hL, rfl, ?_⟩
              refine ⟨_, rfl, e, _, 1, .int m1, rfl, rfl, hL, rfl, ?_⟩
              exact ⟨.int m0, .int m1, .int 0, rfl, .int _, .int _, .int _, .inr rfl, q _⟩
            · have a3 : cell ns 5 % 4 ≠ 3 := fun x => y (decide_eq_true (congrArg V.int x))
              -- the menu
              refine ⟨by show 1 ≤ sizeLine; decide, fun p hp => ?_⟩
              refine ⟨by show 5 ≤ sizeLine; decide, fun l hl => ?_⟩
              have nep : e ≠ p := ne_of_none he hp
              have nel : e ≠ l := fun x => by
                rw [← x, upd_ne nep, he] at hl
                cases hl
              have hp3 : (upd (upd H2 p (.tup [.int 1])) l (.lst (menu p))) p = some (.tup [.int 1]) := by
                rw [upd_ne (ne_of_none upd_same hl), upd_same]
              obtain ⟨v, hv, hn, av⟩ := menu_at hp3 (cell ns 5 / 4)
              have s3 : Same H (upd (upd H2 p (.tup [.int 1])) l (.lst (menu p))) := (sm.trans (same_upd hp)).trans (same_upd hl)
              have he3 : (upd (upd H2 p (.tup [.int 1])) l (.lst (menu p))) e = some (.lst [.int m0, .int m1, .int m2]) := by
                rw [upd_ne nel, upd_ne nep]
                exact he
              refine ⟨.ref a, rfl, a, ns, 5, rfl, s3.seq hS, by decide, _, _, rfl, rfl, ⟨by decide, by decide⟩, _, _, rfl, rfl, (by show (0 : Int) < 5; decide), ?_⟩
              refine ⟨l, menu p, _, v, rfl, rfl, SqL.of upd_same, hv, ?_⟩
              -- stored
              have put : ∀ (j : Nat), ixN 3 (cell ns 5 % 4) = some j → ∀ H4, H4 e = some (.lst ([V.int m0, V.int m1, V.int m2].set j v)) → Same (upd (upd H2 p (.tup [.int 1])) l (.lst (menu p))) H4 ∨ True → Arg H4 v → j < 3 →
                  ∃ u0 u1 u2 : V, [V.int m0, V.int m1, V.int m2].set j v = [u0, u1, u2] ∧ Arg H4 u0 ∧ Arg H4 u1 ∧ Arg H4 u2 ∧ (isNum u0 && isNum u1 && isNum u2) = false := by
                intro j _ H4 _ _ av4 hj
                match j, hj with
                | 0, _ => exact ⟨v, .int m1, .int m2, rfl, av4, .int _, .int _, by rw [hn, Bool.false_and, Bool.false_and]⟩
                | 1, _ => exact ⟨.int m0, v, .int m2, rfl, .int _, av4, .int _, by rw [hn, Bool.and_false, Bool.false_and]⟩
                | 2, _ => exact ⟨.int m0, .int m1, v, rfl, .int _, .int _, av4, by rw [hn, Bool.and_false]⟩
              obtain ⟨j, hj, hj3⟩ : ∃ j, ixN 3 (cell ns 5 % 4) = some j ∧ j < 3 := by
                have : cell ns 5 % 4 = 0 ∨ cell ns 5 % 4 = 1 ∨ cell ns 5 % 4 = 2 := by omega
                rcases this with x | x | x <;> rw [x]
                · exact ⟨0, rfl, by decide⟩
                · exact ⟨1, rfl, by decide⟩
                · exact ⟨2, rfl, by decide⟩
              refine ⟨_, rfl, _, rfl, e, _, _, j, rfl, rfl, he3, hj, ?_⟩
              have av4 : Arg (upd (upd (upd H2 p (.tup [.int 1])) l (.lst (menu p))) e (.lst ([V.int m0, V.int m1, V.int m2].set j v))) v := av.put he3
              obtain ⟨u0, u1, u2, eu, A0, A1, A2, bad⟩ := put j hj _ upd_same (.inr trivial) av4 hj3
              have hL4 : SqL K (upd (upd (upd H2 p (.tup [.int 1])) l (.lst (menu p))) e (.lst ([V.int m0, V.int m1, V.int m2].set j v))) e [u0, u1, u2] := SqL.of (by rw [upd_same, eu])
              refine ⟨_, rfl, e, _, 0, u0, rfl, rfl, hL4, rfl, ?_⟩
              refine ⟨_, rfl, e, _, 1, u1, rfl, rfl, hL4, rfl, ?_⟩
              refine ⟨_, rfl, e, _, 2, u2, rfl, rfl, hL4, rfl, ?_⟩
              exact ⟨u0, u1, u2, rfl, A0, A1, A2, .inl bad, q _⟩
          · exact go _ _ ⟨x3, x6, rfl, rfl⟩
      · intro go
        have hL : SqL K H1 d [.int n0, .int n1, .int n2] := SqL.of e1
        refine ⟨_, rfl, _, _, rfl, rfl, (by show (0 : Int) < 3; decide), rfl, _, rfl, ite2 (fun z => ?_) (fun z => ?_)⟩
        · refine ⟨.ref a, rfl, a, ns, 4, rfl, s1.seq hS, by decide, _, _, rfl, rfl, (by show (0 : Int) < 1000; decide), _, _, rfl, rfl, ?_⟩
          have t0 : 0 ≤ cell ns 4 % 1000 := Int.emod_nonneg _ (by decide)
          have t1 : cell ns 4 % 1000 < 1000 := Int.emod_lt_of_pos _ (by decide)
          generalize cell ns 4 % 1000 = t at *
          have big : ∀ {n : Int}, n.natAbs ≤ 1000000000 → (n * (1 + t)).natAbs ≤ 1000000000000 := fun {n} h => by
            rw [Int.natAbs_mul]
            exact Nat.mul_le_mul h (show (1 + t).natAbs ≤ 1000 by omega)
          have cm : ∀ n : Int, CMul n (1 + t) := fun n => mulOk (by omega)
          refine ⟨_, rfl, d, _, 0, .int n0, rfl, rfl, hL, rfl, _, rfl, _, _, rfl, rfl, cm _, ?_⟩
          refine ⟨_, rfl, d, _, 1, .int n1, rfl, rfl, hL, rfl, _, rfl, _, _, rfl, rfl, cm _, ?_⟩
          refine ⟨_, rfl, d, _, 2, .int n2, rfl, rfl, hL, rfl, _, rfl, _, _, rfl, rfl, cm _, ?_⟩
          refine ⟨by show 3 ≤ sizeLine; decide, fun e he => ?_⟩
          exact go _ _ ⟨e, _, _, _, _, _, rfl, s1.trans (same_upd he), s1.free he, upd_same, big b0, big b1, big b2⟩
        · exact go _ _ ⟨d, n0, n1, n2, _, _, rfl, s1, hd, e1, by omega, by omega, by omega⟩
theorem law_all {fd : FuncData} (T : Txt K mg) (F : FnP K "law" s_law fd) : FnOk P w K mg base CX0 (3 + 1) (He.ga K "law") fd ["_law_script"] (sp_law K) := by
  have c1 : Good P w K mg base CX0 _ "is_number" ["value"] sp_num := ok_is_number T
  have c2 : Good P w K mg base CX0 _ "_law_whole" ["_law_thing"] sp_num := ok_law_whole T
  have c3 : Good P w K mg base (L2.CX P w) _ "spot_of" ["x", "y", "by"] (sp_spot_of K) := ok_spot_of T c1
  exact ok_law T F (ok_law_cell_at T) (ok_law_number_by T) (ok_law_refused T c3) c3 (ok_law_good_spot T c2 (ok_law_shared T))

end
def fnL : List He.DefD := [⟨("is_number", none), "is_number", "is_number", defArgs s_is_number, defBody s_is_number, defScope s_is_number, [], []⟩,
  ⟨("spot_of", none), "spot_of", "spot_of", defArgs s_spot_of, defBody s_spot_of, defScope s_spot_of, [], []⟩,
  ⟨("_law_cell_at", none), "_law_cell_at", "_law_cell_at", defArgs s_law_cell_at, defBody s_law_cell_at, defScope s_law_cell_at, [], []⟩,
  ⟨("_law_whole", none), "_law_whole", "_law_whole", defArgs s_law_whole, defBody s_law_whole, defScope s_law_whole, [], []⟩,
  ⟨("_law_shared", none), "_law_shared", "_law_shared", defArgs s_law_shared, defBody s_law_shared, defScope s_law_shared, [], []⟩,
  ⟨("_law_good_spot", none), "_law_good_spot", "_law_good_spot", defArgs s_law_good_spot, defBody s_law_good_spot, defScope s_law_good_spot, [], []⟩,
  ⟨("_law_number_by", none), "_law_number_by", "_law_number_by", defArgs s_law_number_by, defBody s_law_number_by, defScope s_law_number_by, [], []⟩,
  ⟨("_law_names", none), "_law_names", "_law_names", defArgs s_law_names, defBody s_law_names, defScope s_law_names, [], []⟩,
  ⟨("_law_refused", none), "_law_refused", "_law_refused", defArgs s_law_refused, defBody s_law_refused, defScope s_law_refused, [], []⟩,
  ⟨("law", none), "law", "law", defArgs s_law, defBody s_law, defScope s_law, [], []⟩]
def faL : List He.Fa := [.glo "is_number", .glo "spot_of", .glo "_law_cell_at", .glo "_law_whole", .glo "_law_shared", .glo "_law_good_spot", .glo "_law_number_by", .glo "_law_names", .glo "_law_refused", .glo "law", .free "ValueError", .free "abs", .free "bool", .free "int", .free "isinstance", .free "len", .free "range", .free "tuple", .glo "BadFence", .exc "BadFence", .glo "BadSize", .exc "BadSize", .glo "BadSpot", .exc "BadSpot", .glo "BadWay", .exc "BadWay", .glo "LandError", .exc "LandError", .glo "NoFence", .exc "NoFence", .glo "NoLand", .exc "NoLand", .glo "TooMany", .exc "TooMany", .exm "BadSpot" "LandError" true]
def exL (K : PySem.W.Frag) : Bool := bltB K "gcd" "math.gcd" && (kitsB K "BadSpot" [("BadFence", false), ("BadSize", false), ("BadSpot", true), ("BadWay", false), ("NoFence", false), ("NoLand", false), ("TooMany", false)])
abbrev R : PySem.W.OpenRow := PySem.W.OpenLaw.row PySem.Challenge.rw_landlines_k01_spots
abbrev hkL : PySem.W.Hook := He.hookX 4 faL fnL [] [] exL
def obL (s : PySem.W.SharedT) : He.AlX := He.obsX 4 faL fnL [] [] exL (HandSHeadRun.getT s)
theorem obL_eq (s : PySem.W.SharedT) : obL s = hkL.obs s.abs := He.obsX_eq (HandSHeadRun.getT_eq s)
def looseL : List Str := (["LandError", "BadSize", "BadFence", "TooMany", "BadSpot", "BadWay", "NoLand", "NoFence", "is_number", "spot_of", "_law_cell_at", "_law_whole", "_law_shared", "_law_good_spot", "_law_number_by", "_law_names", "_law_refused"] : List Str)
def vwL : Program := PySem.W.view R.prog [0, 22]
theorem runL (w : World) : HandSHeadRun.RunEqI R vwL hkL obL 3380 looseL w := by
  unfold HandSHeadRun.RunEqI
  kernel_rfl
theorem factsL {w : World} {K : PySem.W.Frag} {h : Heap} {mg : Str → Option Value} (X : K.In h) (G : h.Ns mainGlobals mg) (z : He.SaysX faL fnL [] [] exL w h K) : Txt K mg := by
  have c := z.t.d
  have m := z.more
  obtain ⟨x0, m⟩ := He.ba m
  have x1 := m
  exact {
    d_is_number := c.def_ 0 (d := ⟨("is_number", none), "is_number", "is_number", defArgs s_is_number, defBody s_is_number, defScope s_is_number, [], []⟩) rfl
    g_is_number := He.glo_ok X G (c.fact 0 rfl)
    d_spot_of := c.def_ 1 (d := ⟨("spot_of", none), "spot_of", "spot_of", defArgs s_spot_of, defBody s_spot_of, defScope s_spot_of, [], []⟩) rfl
    g_spot_of := He.glo_ok X G (c.fact 1 rfl)
    d_law_cell_at := c.def_ 2 (d := ⟨("_law_cell_at", none), "_law_cell_at", "_law_cell_at", defArgs s_law_cell_at, defBody s_law_cell_at, defScope s_law_cell_at, [], []⟩) rfl
    g_law_cell_at := He.glo_ok X G (c.fact 2 rfl)
    d_law_whole := c.def_ 3 (d := ⟨("_law_whole", none), "_law_whole", "_law_whole", defArgs s_law_whole, defBody s_law_whole, defScope s_law_whole, [], []⟩) rfl
    g_law_whole := He.glo_ok X G (c.fact 3 rfl)
    d_law_shared := c.def_ 4 (d := ⟨("_law_shared", none), "_law_shared", "_law_shared", defArgs s_law_shared, defBody s_law_shared, defScope s_law_shared, [], []⟩) rfl
    g_law_shared := He.glo_ok X G (c.fact 4 rfl)
    d_law_good_spot := c.def_ 5 (d := ⟨("_law_good_spot", none), "_law_good_spot", "_law_good_spot", defArgs s_law_good_spot, defBody s_law_good_spot, defScope s_law_good_spot, [], []⟩) rfl
    g_law_good_spot := He.glo_ok X G (c.fact 5 rfl)
    d_law_number_by := c.def_ 6 (d := ⟨("_law_number_by", none), "_law_number_by", "_law_number_by", defArgs s_law_number_by, defBody s_law_number_by, defScope s_law_number_by, [], []⟩) rfl
    g_law_number_by := He.glo_ok X G (c.fact 6 rfl)
    d_law_names := c.def_ 7 (d := ⟨("_law_names", none), "_law_names", "_law_names", defArgs s_law_names, defBody s_law_names, defScope s_law_names, [], []⟩) rfl
    g_law_names := He.glo_ok X G (c.fact 7 rfl)
    d_law_refused := c.def_ 8 (d := ⟨("_law_refused", none), "_law_refused", "_law_refused", defArgs s_law_refused, defBody s_law_refused, defScope s_law_refused, [], []⟩) rfl
    g_law_refused := He.glo_ok X G (c.fact 8 rfl)
    d_law := c.def_ 9 (d := ⟨("law", none), "law", "law", defArgs s_law, defBody s_law, defScope s_law, [], []⟩) rfl
    g_law := He.glo_ok X G (c.fact 9 rfl)
    m_ValueError := He.free_ok X G (c.fact 10 rfl)
    m_abs := He.free_ok X G (c.fact 11 rfl)
    m_bool := He.free_ok X G (c.fact 12 rfl)
    m_int := He.free_ok X G (c.fact 13 rfl)
    m_isinstance := He.free_ok X G (c.fact 14 rfl)
    m_len := He.free_ok X G (c.fact 15 rfl)
    m_range := He.free_ok X G (c.fact 16 rfl)
    m_tuple := He.free_ok X G (c.fact 17 rfl)
    BadFence := ExcF.mk' X G (c.fact 18 rfl) (c.fact 19 rfl)
    BadSize := ExcF.mk' X G (c.fact 20 rfl) (c.fact 21 rfl)
    BadSpot := ExcF.mk' X G (c.fact 22 rfl) (c.fact 23 rfl)
    BadWay := ExcF.mk' X G (c.fact 24 rfl) (c.fact 25 rfl)
    LandError := ExcF.mk' X G (c.fact 26 rfl) (c.fact 27 rfl)
    NoFence := ExcF.mk' X G (c.fact 28 rfl) (c.fact 29 rfl)
    NoLand := ExcF.mk' X G (c.fact 30 rfl) (c.fact 31 rfl)
    TooMany := ExcF.mk' X G (c.fact 32 rfl) (c.fact 33 rfl)
    gcd := bltB_ok X G x0
    ex_BadSpot_LandError := He.exm_ok (c.fact 34 rfl)
    kit_BadSpot := KitsF.mk' x1
  }
end LL
open PySem PySem.W PySem.Calls PyProof.Rows
theorem PySem.Challenge.cw_landlines_k01_spots_holds : PySem.Challenge.rw_landlines_k01_spots.Holds := by
  w_on; o_law
  refine HandSHeadRun.head_imp (r := OpenLaw.row PySem.Challenge.rw_landlines_k01_spots) (q := LL.vwL) (H := LL.hkL) (ob := LL.obL) (M := 3380) (loose := LL.looseL) (d := HandSHeadRun.topDef (OpenLaw.row PySem.Challenge.rw_landlines_k01_spots).prog 22) (kwd := []) LL.obL_eq
    LL.runL (by kernel_rfl) (by kernel_rfl) (by kernel_rfl) (by rfl) (by first | assumption | decide +kernel) (by decide +kernel) ⟨rfl, rfl, rfl, rfl, rfl, by decide +kernel⟩ ?hw ?hc
  case hw => w_witness2
  case hc =>
    refine L2.walk_ofE (l := PySem.Challenge.rw_landlines_k01_spots) (n := 63) (k := 4) (x := "_law_script") (CX := L2.CX0) rfl (by decide) (by kernel_rfl) ⟨rfl, by decide, by decide⟩ ?F (fun _ _ _ _ z => z)
    intro w mg fa h Y G hmg0
    obtain ⟨K, KX, c⟩ := Y
    have hmg : mg ("law" : PySem.Str) = some (.ref fa) := by
      have e : (HandSHeadRun.topDef (OpenLaw.row PySem.Challenge.rw_landlines_k01_spots).prog 22).name = ("law" : PySem.Str) := by kernel_rfl
      rw [← e]
      exact hmg0
    have T := LL.factsL KX G c
    have e := hmg.symm.trans T.g_law
    cases e
    obtain ⟨fd, F⟩ := T.d_law
    have b := L2.FunD.bindsA (ps := ["_law_script"]) F fun _ _ _ _ _ _ us hl => match us, hl with | [_], _ => rfl
    exact ⟨K, fd, LL.sp_law K, KX, fun s v => b s [v] rfl, fun H a ns hl _ hS => ⟨a, ns, rfl, hS, hl, fun _ => rfl⟩, fun base _ _ => LL.law_all T F⟩
