import PyProof.Rows.All
import Wide.All
import OpenK.AllK
import Wide.FinOn
import KE.KStateDown
import HandS.ForMost
import HandS.ForExc
import HandS.More
import HandS.Defaults
import HandS.Head0
import HandS.Head1
import HandS.Head2
import HandS.HeadEnd
import HandS.HeadHook1
import HandS.HeadHook2
import HandS.ExcInit
import HandS.TryMany
import HandS.IsInst
import HandS.Wide
import HandS.Style
import HandS.Flow
import HandS.Zip
import HandS.Small
import HandS.Evl
import PyProof.StrBlock2
import PySem.Challenge.RW_guessedworlds_k01_small_integers_and_see
set_option Elab.async false
set_option linter.all false
set_option maxRecDepth 100000
set_option maxHeartbeats 4000000
namespace Gw
open PySem PySem.Spec PyProof.Rows L2 He
/-! ### what the head is asked: tests of one's own, and the defs -/
abbrev Fx : Type := PySem.W.Frag → Bool
abbrev AlX : Type := Bool × AlD
def obX (n : Nat) (fx : List Fx) (fn : List DefD) (g : Addr → Option Obj) : AlX := (fx.all (fun f => f (frG g (asD g n))), obsDG n [] fn g)
structure SaysX (fx : List Fx) (fn : List DefD) (K : PySem.W.Frag) : Prop where
  tests : fx.all (fun f => f K) = true
  defs : SaysD [] fn K
def hookX (n : Nat) (fx : List Fx) (fn : List DefD) : PySem.W.Hook :=
  { α := AlX, obs := fun s => obX n fx fn s.heap.get?, val := fun _ => (true, valD fn), says := fun _ h => ∃ K : PySem.W.Frag, K.In h ∧ SaysX fx fn K,
    of := fun _ s e => Exists.intro (frG s.heap.get? (asD s.heap.get? n)) (And.intro frG_in { tests := congrArg Prod.fst e, defs := congrArg Prod.snd e }),
    keeps := fun _ _ _ p kp => p.elim fun K z => ⟨K, z.1.keeps kp, z.2⟩ }
theorem obX_eq {n : Nat} {fx : List Fx} {fn : List DefD} {g : Addr → Option Obj} {s : Shared} (h : ∀ a, g a = s.heap.get? a) : obX n fx fn g = (hookX n fx fn).obs s := by
  obtain rfl : g = s.heap.get? := funext h
  rfl
theorem SaysX.fact {fx : List Fx} {fn : List DefD} {K : PySem.W.Frag} (c : SaysX fx fn K) (i : Nat) {f : Fx} (h : fx[i]? = some f := by rfl) : f K = true :=
  List.all_eq_true.mp c.tests f (List.mem_of_getElem? h)
theorem SaysX.def_ {fx : List Fx} {fn : List DefD} {K : PySem.W.Frag} (c : SaysX fx fn K) (i : Nat) {d : DefD} (h : fn[i]? = some d := by rfl) :
    ∃ fd, FunD K d.name d.qual d.params d.body d.scope (d.dvs K) (d.kws K) (fAd K d.at_) fd := c.defs.def_ i h
/-! ### a def of the top, a method -/
def fdAt (K : PySem.W.Frag) (f : Addr) : FuncData := match K.lookup f with
  | some ⟨_, _, .func fd, _⟩ => fd
  | _ => PySem.W.fnOf "" "" { posonlyargs := [], args := [], vararg := none, kwonlyargs := [], kw_defaults := [], kwarg := none, defaults := [] } [] { kind := .function, names := [], isGenerator := false, isCoroutine := false } .none .none .none .none none .none .none
theorem fdAt_of {K : PySem.W.Frag} {x q : Str} {pa : Arguments} {bo : List Stmt} {sc : Scope} {dvs : List V} {kws : List (Str × V)} {f : Addr} {fd : FuncData} (F : FunD K x q pa bo sc dvs kws f fd) : fdAt K f = fd := by
  obtain ⟨oc, od, dV, kV, doc, pm, an, cdv, ct, osl, e, lk, _⟩ := F.ex
  unfold fdAt
  rw [lk]
structure Dk (K : PySem.W.Frag) (mg : Str → Option Value) (x : Str) (st : Stmt) (ps : List Str) : Prop where
  F : FunD K x x (defArgs st) (defBody st) (defScope st) [] [] (ga K x) (fdAt K (ga K x))
  g : mg x = some (.ref (ga K x))
  b : Binds K (fdAt K (ga K x)) ps []
abbrev gloX (x : Str) : Fx := fun K => (Fa.glo x).ok K
abbrev freeX (x : Str) : Fx := fun K => (Fa.free x).ok K
abbrev intX (x : Str) (i : Int) : Fx := fun K => (Fa.int x i).ok K
abbrev strX (x z : Str) : Fx := fun K => (Fa.str x z).ok K
abbrev exmX (x y : Str) (b : Bool) : Fx := fun K => (Fa.exm x y b).ok K
/-- an own exception class, ValueError's tail behind own classes -/
def oexB (K : PySem.W.Frag) (C : Addr) : Bool := (match K.lookup C with
    | some ⟨.type "type", _, .cls cd, sl⟩ => (match cd.mro, sl.toList with
      | .ref C' :: bm, [_, _, _, _, some (.builtin n), _] => C' == C && (n == "ValueError.__new__" && (!cd.hasDel && (cd.hasDict && PySem.HandSPX.refsVE bm)))
      | _, _ => false)
    | _ => false) && (eqO (PySem.W.findIn K (.ref C) "__setattr__") (some (some (.builtin "object.__setattr__"))) && (decide (PySem.W.subIn K (.ref C) (.type "BaseException") = some true) && (decide (PySem.W.typeIn K (.ref C) = some (.type "type")) && PySem.W.keepIn K (.ref C))))
theorem oex_ok {K : PySem.W.Frag} {C : Addr} (h : oexB K C = true) : OexC K C := by
  obtain ⟨h1, h⟩ := ba h
  obtain ⟨h2, h⟩ := ba h
  obtain ⟨h3, h⟩ := ba h
  obtain ⟨h4, h5⟩ := ba h
  refine ⟨?_, eqO_ok h2, of_decide_eq_true h3, of_decide_eq_true h4, h5⟩
  split at h1
  · rename_i dd cd sl ho
    split at h1
    · rename_i C' bm k0 k1 k2 k3 n k5 hm hs
      simp only [Bool.and_eq_true, beq_iff_eq, Bool.not_eq_true'] at h1
      obtain ⟨rfl, rfl, hdel, hdict, ht⟩ := h1
      obtain ⟨nm, bs, mro, ns, qn, hd, sn, sub, ab, col, del⟩ := cd
      dsimp only at hm hdel hdict
      subst hm hdel hdict
      have hsl : sl = #[k0, k1, k2, k3, some (.builtin "ValueError.__new__"), k5] := by
        obtain ⟨l⟩ := sl
        simp only at hs
        rw [hs]
      subst hsl
      exact ⟨nm, qn, ns, bs, bm, sn, sub, ab, col, dd, k0, k1, k2, k3, k5, ho, ht⟩
    · cases h1
  · cases h1
/-- its __init__, a def: the address -/
def initB (K : PySem.W.Frag) (C f : Addr) : Bool := eqO (PySem.W.findIn K (.ref C) "__init__") (some (some (.ref f))) && decide (PySem.W.typeIn K (.ref f) = some (.type "function"))
theorem init_ok {K : PySem.W.Frag} {C f : Addr} (h : initB K C f = true) : PySem.W.findIn K (.ref C) "__init__" = some (some (.ref f)) ∧ PySem.W.typeIn K (.ref f) = some (.type "function") := by
  obtain ⟨h1, h2⟩ := ba h
  exact ⟨eqO_ok h1, of_decide_eq_true h2⟩
section
variable {P : Program} {w : World} {fr : List Addr} {H1 H2 : Hp} {hp h1 h2 G : Heap} {a C : Addr} {o : HO}
/-- an object that was laid on the way at a is let go again: the rest of what changed -/
theorem un_cut (ha : hp.objs.size ≤ a) (hn : H1 a = none) (k : ∀ b u, hp.get? b = some u → h1.get? b = some u) (u : Un fr [] (upd H1 a o) H2 h1 h2)
    (g : ∀ b, b ≠ a → G.get? b = h2.get? b) : Un fr [] H1 (del H2 a) hp G := by
  have away : ∀ b ob, hp.get? b = some ob → b ≠ a := fun b ob q e => by
    rw [e] at q
    exact absurd (Heap.lt_size q) (Nat.not_lt.mpr ha)
  have stay : ∀ b, b ≠ a → upd H1 a o b = H1 b := fun b nb => upd_ne nb
  have known : ∀ b q, H1 b = some q → b ≠ a := fun b q e z => by rw [z, hn] at e; cases e
  constructor
  case keep => intro b ob q n hf hx; rw [g b (away b ob q)]; exact u.keep b ob (k b ob q) ((stay b (away b ob q)).trans n) hf hx
  case slot => intro b ob q n hf hx; rw [g b (away b ob q)]; exact u.slot b ob (k b ob q) ((stay b (away b ob q)).trans n) hf hx
  case free => intro b ob q n hx; rw [del_ne (away b ob q)]; exact u.free b ob (k b ob q) ((stay b (away b ob q)).trans n) hx
  case there => intro b ob q hx; rw [g b (away b ob q)]; exact u.there b ob (k b ob q) hx
  case tups => intro b xs q; rw [del_ne (known b _ q)]; exact u.tups b xs ((stay b (known b _ q)).trans q)
  case frzs => intro b ob v q; rw [del_ne (known b _ q)]; exact u.frzs b ob v ((stay b (known b _ q)).trans q)
  case tbls => intro b ps q; rw [del_ne (known b _ q)]; exact u.tbls b ps ((stay b (known b _ q)).trans q)
theorem hok_cut (hok : HOk P w H2 h2) (e : H2 a = some (exo a C none)) (g : ∀ b, b ≠ a → G.get? b = h2.get? b) : HOk P w (del H2 a) G := by
  intro b q hb
  have nb : b ≠ a := by
    intro z
    rw [z, del_same] at hb
    cases hb
  rw [del_ne nb] at hb
  have nown : ∀ c, H2 c = some (.own b) → c ≠ a := fun c hc => at_ne e hc exo_own
  refine (hok b q hb).stay (fun c v hc hv => ?_) (fun c hc => by rw [del_ne (nown c hc)]; exact hc) (fun c xs hc => by rw [del_ne (at_ne e hc exo_tup)]; exact hc)
  rcases hc with rfl | hc
  · rw [g c nb]; exact hv
  · rw [g c (nown c hc)]; exact hv
end
section
variable {X : Cx}
/-- C(), its class's __init__ (own or inherited) keeping sp; no field is stored -/
def tMk0 (C : Addr) (sp : Sp) : L2.St → Hp → XK → Prop := fun _ H Q => ∀ a, H a = none →
  sp [.ref a] (upd H a (exo a C none)) (fun v H' => v = .non ∧ H' a = some (exo a C none) ∧ Q (.ref C) none (del H' a)) (fun _ _ _ => False)
/-- the raw frame of such a call, ahead of __init__ -/
abbrev mkHeap (hp : Heap) (C : Addr) : Heap := (hp.push (PySem.W.kdv_tup ([] : List Value))).push (PySem.HandSPX.excO C hp.objs.size)
theorem mkHeap_old {hp : Heap} {C b : Addr} {o : Obj} (e : hp.get? b = some o) : (mkHeap hp C).get? b = some o := by
  show ((hp.push _).push _).get? b = _
  exact Heap.get?_push_of_some _ (Heap.get?_push_of_some _ e)
theorem mkHeap_new {hp : Heap} {C : Addr} : (mkHeap hp C).get? (hp.objs.size + 1) = some (PySem.HandSPX.excO C hp.objs.size) := by
  show ((hp.push _).push _).get? _ = _
  heap_get
theorem pmk_oex0 {CX : CXT} {x : Str} {C fI : Addr} {k : Nat} {fd : FuncData} {ps : List Str} {sp : Sp} {p pos : Pos} (T : OexC X.K C)
    (hi : PySem.W.findIn X.K (.ref C) "__init__" = some (some (.ref fI)) ∧ PySem.W.typeIn X.K (.ref fI) = some (.type "function"))
    (G : FnOk X.prog X.w X.K X.mg X.base CX k fI fd ps sp) (hr : Room (k + 1) X.A) (hb : Binds X.K fd ps []) (hx : Passes CX X (fun _ _ _ => False)) (hm : X.mg x = some (.ref C)) (hg : Gl X x := by rfl)
    (hdb : (x == ("__debug__" : Str)) = false := by decide) : PMk X (.Call (.Name x p) [] [] pos) (tMk0 C sp) := by
  intro pins s σ H Q I h
  obtain ⟨_, _, _, _, bm, _, _, _, _, _, _, _, _, _, _, hC, hbm⟩ := T.cls
  refine wpAny_Call_Name_kw (ld_glob I hg hm (PySem.W.callWith_K0 I.kIn T.kC ?_) hdb)
  obtain ⟨hp, gens, dr, tk, os⟩ := s
  let a := hp.objs.size + 1
  have le : hp.objs.size ≤ a := by omega
  have hn : H a = none := I.hok.fresh le
  have I2 : Inv X pins σ (upd H a (exo a C none)) ⟨mkHeap hp C, gens, dr, tk, os⟩ :=
    I.laid (t' := tk) (a := a) (o := exo a C none) (h' := mkHeap hp C) (fun _ _ e => mkHeap_old e) le (exo_ok mkHeap_new)
  have q := h a hn
  have r : Vals [V.ref a] ([Value.ref a] ++ []) := .cons rfl .nil
  have hlen : ([Value.ref a] ++ ([] : List Value)).length = ps.length := r.length.symm.trans (G.len _ _ _ _ q)
  have go := G.run _ X.stack _ _ ⟨[Value.ref a], []⟩ _ _ _ (fun _ _ _ => False) (hr.make C [] []) (I2.env0.make C [] []) (hb _ [Value.ref a] I2.kIn hlen) r q
  refine wpAny_call (PySem.HandSPX.call_own F.excBase_ValueError (fun Y => PySem.HandSPX.refsVE_contains Y bm hbm) (I.kIn _ _ hC) (PySem.W.looks_findIn I.kIn hi.1) (fun self => PySem.W.bind_fn I.kIn self hi.2) (Nat.zero_le _) (codeAny_mono go fun res s' z => ?_))
  match res, z with
  | .error er, z => exact hx pins σ _ _ er s' I2 z
  | .ok (.ret u), z =>
    obtain ⟨v, H2, hos, bare, un, hok, rv, rfl, ea, fin⟩ := z
    obtain ⟨t0, hoe⟩ := exo_at hok ea
    obtain ⟨G', g1, g2⟩ := restrict s'.heap fun b => decide (b ≠ a)
    have gk : ∀ b, b ≠ a → G'.get? b = s'.heap.get? b := fun b nb => g1 b (decide_eq_true nb)
    have ge : G'.get? a = none := g2 a (by simp)
    have J : Inv X pins σ (del H2 a) { s' with heap := G' } := by
      obtain ⟨h2, gg, dd, tt, oo⟩ := s'
      exact I.call' (ch := []) hos (un_cut le hn (fun _ _ e => mkHeap_old e) un gk) (hok_cut hok ea gk) bare (fun b z => absurd z (by simp))
    refine ⟨rv, a, _, _, { s' with heap := G' }, _, .ref C, none, rfl, J, fun b ob e => ?_, ge, hoe, ⟨rfl, rfl⟩, rfl, rfl, del_same, rfl, bare, raises_own T.exC T.tyC, fin⟩
    by_cases nb : b = a
    · have e' : G'.get? b = some ob := e
      rw [nb, ge] at e'
      cases e'
    · rw [← gk b nb]
      exact e
end
end Gw
namespace Gw
open PySem PySem.Spec PyProof.Rows L2 He
structure Dm (K : PySem.W.Frag) (C m : Str) (st : Stmt) (ps : List Str) : Prop where
  F : FunD K m (C ++ ⟨#[46]⟩ ++ m) (defArgs st) (defBody st) (defScope st) [] [] (ma K (ga K C) m) (fdAt K (ma K (ga K C) m))
  b : Binds K (fdAt K (ma K (ga K C) m)) ps []
theorem dk_of {K : PySem.W.Frag} {mg : Str → Option Value} {x : Str} {st : Stmt} {ps : List Str} (h : ∃ fd, FunD K x x (defArgs st) (defBody st) (defScope st) [] [] (ga K x) fd) (g : mg x = some (.ref (ga K x)))
    (hb : ∀ (kV doc pm : Value) (an : Option Addr) (cdv ct : Value) (us : List Value), us.length = ps.length → bindArgs (PySem.W.fnOf x x (defArgs st) (defBody st) (defScope st) .none kV doc pm an cdv ct) ⟨us, []⟩ = pure (ps.zip us)) : Dk K mg x st ps := by
  obtain ⟨fd, F⟩ := h
  have e := fdAt_of F
  subst e
  exact ⟨F, g, F.bindsN hb⟩
theorem dm_of {K : PySem.W.Frag} {C m qn : Str} {st : Stmt} {ps : List Str} (h : ∃ fd, FunD K m qn (defArgs st) (defBody st) (defScope st) [] [] (ma K (ga K C) m) fd)
    (hb : ∀ (kV doc pm : Value) (an : Option Addr) (cdv ct : Value) (us : List Value), us.length = ps.length → bindArgs (PySem.W.fnOf m qn (defArgs st) (defBody st) (defScope st) .none kV doc pm an cdv ct) ⟨us, []⟩ = pure (ps.zip us))
    (hq : qn = C ++ ⟨#[46]⟩ ++ m := by decide +kernel) : Dm K C m st ps := by
  obtain ⟨fd, F⟩ := h
  have e := fdAt_of F
  subst e
  subst hq
  exact ⟨F, F.bindsN hb⟩
end Gw

set_option Elab.async false
set_option linter.all false
set_option maxRecDepth 100000
set_option maxHeartbeats 4000000
namespace Gw
open PySem PySem.Spec PyProof.Rows L2 He
/-! ### calls -/
section
variable {X : Cx} {x : Str} {st : Stmt} {ps : List Str} {k : Nat} {sp : Sp} {t : TA} {e : Expr} {es : List Expr} {p pos : Pos}
theorem pc (D : Dk X.K X.mg x st ps) (G : FnOk X.prog X.w X.K X.mg X.base CX0 k (ga X.K x) (fdAt X.K (ga X.K x)) ps sp) (hr : Room k X.A) (ha : PA X (e :: es) t)
    (hg : Gl X x := by rfl) (hdb : (x == ("__debug__" : Str)) = false := by decide) (he : starEach (e :: es) X.env = (false, eval e X.env) :: starEach es X.env := by rfl) (hpl : (backTo pos (starEach es X.env)).any (·.1) = false := by rfl) :
    PE X (.Call (.Name x p) (e :: es) [] pos) (tCall sp [] E0 t) := pe_call G hr hg D.g D.F.kp D.b .nil pass0 ha hdb he hpl
/-- a call of a def that may raise, within a try's body -/
theorem pcS {W : WX} (D : Dk X.K X.mg x st ps) (G : FnOk X.prog X.w X.K X.mg X.base (L2.CX X.prog X.w) k (ga X.K x) (fdAt X.K (ga X.K x)) ps sp) (hr : Room k X.A) (tk : Takes X W) (ha : PA X (e :: es) t)
    (hg : Gl X x := by rfl) (hdb : (x == ("__debug__" : Str)) = false := by decide) (he : starEach (e :: es) X.env = (false, eval e X.env) :: starEach es X.env := by rfl) (hpl : (backTo pos (starEach es X.env)).any (·.1) = false := by rfl) :
    PE X (.Call (.Name x p) (e :: es) [] pos) (tCallS sp (WE W) t) := pe_callS G hr hg D.g D.F.kp D.b (fun σ => passAt tk σ) ha hdb he hpl
end
section
variable {X : Cx} {x : Str} {pos : Pos}
theorem pe_ty (n : String) (hm : X.mg x = none) (hv : bootBuiltins x = some (.type n) := by decide +kernel) (hg : Gl X x := by rfl) (hn : x ≠ "__name__" := by decide) (hd : (x == ("__debug__" : Str)) = false := by decide) : PE X (.Name x pos) (tC (.ty n)) :=
  pe_bltn hg hm hv rfl hn hd
theorem pe_kint {i : Int} (h : ∃ t, X.mg x = some (.int i t)) (hg : Gl X x := by rfl) (hd : (x == ("__debug__" : Str)) = false := by decide) : PE X (.Name x pos) (tC (.int i)) := by
  obtain ⟨t, e⟩ := h
  exact pe_glob hg e ⟨t, rfl⟩ hd
theorem pe_kstr {z : Str} (h : ∃ t, X.mg x = some (.str z t)) (hg : Gl X x := by rfl) (hd : (x == ("__debug__" : Str)) = false := by decide) : PE X (.Name x pos) (tC (.str z)) := by
  obtain ⟨t, e⟩ := h
  exact pe_glob hg e ⟨t, rfl⟩ hd
theorem pe_gref {a : Addr} (h : X.mg x = some (.ref a)) (hg : Gl X x := by rfl) (hd : (x == ("__debug__" : Str)) = false := by decide) : PE X (.Name x pos) (tC (.ref a)) := pe_glob hg h rfl hd
end
abbrev okAt (P : Program) (w : World) (K : PySem.W.Frag) (mg : Str → Option Value) (base : Heap) (CX : CXT) (k : Nat) (x : Str) (ps : List Str) (sp : Sp) : Prop := FnOk P w K mg base CX k (ga K x) (fdAt K (ga K x)) ps sp
/-! ### heaps -/
/-- all but what stands at h is as it was -/
def But (h : Addr) (H H' : Hp) : Prop := ∀ a o, a ≠ h → H a = some o → H' a = some o
theorem But.refl {h : Addr} {H : Hp} : But h H H := fun _ _ _ e => e
theorem But.trans {h : Addr} {H H1 H2 : Hp} (a : But h H H1) (b : But h H1 H2) : But h H H2 := fun x o n e => b x o n (a x o n e)
theorem But.upd {h : Addr} {H : Hp} {o : HO} : But h H (upd H h o) := fun a u n e => by rw [upd_ne n]; exact e
theorem But.same {h : Addr} {H H' : Hp} (s : Same H H') : But h H H' := fun a o _ e => s a o e
theorem Same.new {H : Hp} {p : Addr} {o : HO} (h : H p = none) : Same H (upd H p o) := fun b x e => by
  rw [upd_ne (ne_of_none e h)]
  exact e
/-! ### the hand: an object that the draws change -/
structure HandAt (H : Hp) (h l : Addr) (ns : List Int) (i b s c : Int) : Prop where
  hh : H h = some (.lst [.ref l, .int i, .int b, .int s, .int c])
  hl : H l = some (.lst (ns.map V.int))
  ne : l ≠ h
theorem HandAt.put {H : Hp} {h l : Addr} {ns : List Int} {i b s c : Int} (A : HandAt H h l ns i b s c) (i' b' s' c' : Int) :
    ∃ H', upd H h (.lst [.ref l, .int i', .int b', .int s', .int c']) = H' ∧ HandAt H' h l ns i' b' s' c' ∧ But h H H' :=
  ⟨_, rfl, ⟨upd_same, by rw [upd_ne A.ne]; exact A.hl, A.ne⟩, But.upd⟩
def Hand (H : Hp) (h : Addr) : Prop := ∃ l ns i b s c, HandAt H h l ns i b s c ∧ 0 ≤ i ∧ 0 ≤ b ∧ 0 ≤ s ∧ s < 2147483647
theorem HandAt.same {H H' : Hp} {h l : Addr} {ns : List Int} {i b s c : Int} (A : HandAt H h l ns i b s c) (e : Same H H') : HandAt H' h l ns i b s c := ⟨e _ _ A.hh, e _ _ A.hl, A.ne⟩
theorem Hand.same {H H' : Hp} {h : Addr} (A : Hand H h) (e : Same H H') : Hand H' h := by
  obtain ⟨l, ns, i, b, s, c, A, r⟩ := A
  exact ⟨l, ns, i, b, s, c, A.same e, r⟩
theorem Hand.some {H : Hp} {h : Addr} (A : Hand H h) : ∃ xs, H h = some (.lst xs) := by
  obtain ⟨l, ns, i, b, s, c, A, r⟩ := A
  exact ⟨_, A.hh⟩
/-- behind the draws: the hand is one, all else is as it was -/
structure Kp (h : Addr) (H H' : Hp) : Prop where
  hand : Hand H' h
  but : But h H H'
  old : Hand H h
theorem Kp.refl {h : Addr} {H : Hp} (A : Hand H h) : Kp h H H := ⟨A, But.refl, A⟩
theorem Kp.trans {h : Addr} {H H1 H2 : Hp} (a : Kp h H H1) (b : Kp h H1 H2) : Kp h H H2 := ⟨b.hand, a.but.trans b.but, a.old⟩
theorem Kp.same {h : Addr} {H H1 H2 : Hp} (a : Kp h H H1) (b : Same H1 H2) : Kp h H H2 := ⟨a.hand.same b, a.but.trans (But.same b), a.old⟩
theorem Kp.free {h : Addr} {H H' : Hp} (a : Kp h H H') {p : Addr} (e : H' p = none) : H p = none := by
  cases q : H p with
  | none => rfl
  | some o =>
    by_cases n : p = h
    · obtain ⟨xs, z⟩ := a.hand.some
      rw [n, z] at e
      cases e
    · rw [a.but p o n q] at e
      cases e
theorem Kp.keep {h : Addr} {H H' : Hp} (a : Kp h H H') {p : Addr} {o : HO} (e : H p = some o) (n : p ≠ h) : H' p = some o := a.but p o n e
theorem Kp.tup {h : Addr} {H H' : Hp} (a : Kp h H H') {p : Addr} {xs : List V} (e : H p = some (.tup xs)) : H' p = some (.tup xs) := a.but p _ (fun z => by
  obtain ⟨ys, q⟩ := a.old.some
  rw [z, q] at e
  cases e) e
/-- a draw below n -/
def spTake : Sp := fun vs H Q _ => ∃ (h : Addr) (n : Int), vs = [.ref h, .int n] ∧ Hand H h ∧ 0 < n ∧ n < 1073741824 ∧ ∀ (r : Int) (H' : Hp), 0 ≤ r → r < n → Kp h H H' → Q (.int r) H'
theorem HandAt.set {H H1 : Hp} {h l : Addr} {ns : List Int} {i b s c : Int} (A : HandAt H h l ns i b s c) {xs : List V} (e : upd H h (.lst xs) = H1) (i' b' s' c' : Int) (ex : xs = [.ref l, .int i', .int b', .int s', .int c'] := by rfl) :
    HandAt H1 h l ns i' b' s' c' ∧ But h H H1 := by
  subst ex
  subst e
  exact ⟨⟨upd_same, by rw [upd_ne A.ne]; exact A.hl, A.ne⟩, But.upd⟩
theorem atI_ints {ns : List Int} {i : Int} (h0 : 0 ≤ i) (h1 : i < ((ns.map V.int).length : Int)) : ∃ x, atI (ns.map V.int) i = some (.int x) := by
  obtain ⟨j, rfl⟩ : ∃ j : Nat, i = (j : Int) := ⟨i.toNat, by omega⟩
  rw [List.length_map] at h1
  have hj : j < ns.length := by omega
  exact ⟨ns[j], atI_nat (by rw [List.getElem?_map, List.getElem?_eq_getElem hj] <;> rfl)⟩
/-! ### is True, is False of anything -/
def rIsC : R2 := fun x y H Q => ∃ c : Bool, y = .bl c ∧ Q (.bl (decide (x = .bl c))) H
theorem op_isC {X : Cx} : OpR X (compareOp .Is) rIsC := by
  intro pins s σ H x y v u Q I rx ry h
  obtain ⟨c, rfl, q⟩ := h
  cases (show u = Value.bool c from ry)
  have no : ∀ (hp : plainIs v (Value.bool c) = true) (hne : v ≠ Value.bool c) (hx : ¬ x = V.bl c), wpAny (model X.prog X.w) X.A (compareOp .Is v (Value.bool c)) (EP X pins σ Q) X.xe s := fun hp hne hx =>
    wpAny_is_other hp hne ⟨.bl false, H, I, rfl, by rw [decide_eq_false hx] at q; exact q⟩
  cases x with
  | bl a =>
    cases (show v = Value.bool a from rx)
    by_cases e : a = c
    · subst e
      exact wpAny_is_self rfl ⟨.bl true, H, I, rfl, by rw [decide_eq_true rfl] at q; exact q⟩
    · exact no rfl (fun z => e (Value.bool.inj z)) (fun z => e (V.bl.inj z))
  | non => cases (show v = Value.none from rx); exact no rfl (fun z => nomatch z) (fun z => nomatch z)
  | int i => obtain ⟨t, rfl⟩ := (show ∃ t, v = Value.int i t from rx); exact no rfl (fun z => nomatch z) (fun z => nomatch z)
  | str i => obtain ⟨t, rfl⟩ := (show ∃ t, v = Value.str i t from rx); exact no rfl (fun z => nomatch z) (fun z => nomatch z)
  | byt i => obtain ⟨t, rfl⟩ := (show ∃ t, v = Value.bytes i t from rx); exact no rfl (fun z => nomatch z) (fun z => nomatch z)
  | flt i => obtain ⟨t, rfl⟩ := (show ∃ t, v = Value.float i t from rx); exact no rfl (fun z => nomatch z) (fun z => nomatch z)
  | ref i => cases (show v = Value.ref i from rx); exact no rfl (fun z => nomatch z) (fun z => nomatch z)
  | ty i => cases (show v = Value.type i from rx); exact no rfl (fun z => nomatch z) (fun z => nomatch z)
/-! ### values of built-in kinds -/
inductive Wt (H : Hp) : V → Prop
  | non : Wt H .non
  | bl (b : Bool) : Wt H (.bl b)
  | int (i : Int) : Wt H (.int i)
  | str (x : Str) : Wt H (.str x)
  | lst {a : Addr} {xs : List V} (e : H a = some (.lst xs)) : Wt H (.ref a)
  | tup {a : Addr} {xs : List V} (e : H a = some (.tup xs)) : Wt H (.ref a)
  | dct {a : Addr} {kvs : List (Key × V)} (e : H a = some (.dK kvs)) : Wt H (.ref a)
def isI : V → Bool
  | .int _ => true
  | _ => false
def isB : V → Bool
  | .bl _ => true
  | _ => false
def isS : V → Bool
  | .str _ => true
  | _ => false
def isN : V → Bool
  | .non => true
  | _ => false
def isT (H : Hp) : V → Bool
  | .ref a => match H a with
    | some (.tup _) => true
    | _ => false
  | _ => false
def isL (H : Hp) : V → Bool
  | .ref a => match H a with
    | some (.lst _) => true
    | _ => false
  | _ => false
def isD (H : Hp) : V → Bool
  | .ref a => match H a with
    | some (.dK _) => true
    | _ => false
  | _ => false
theorem isT_lst {H : Hp} {a : Addr} {xs : List V} (e : H a = some (.lst xs)) : isT H (.ref a) = false := by
  unfold isT
  dsimp only
  rw [e]
theorem isT_tup {H : Hp} {a : Addr} {xs : List V} (e : H a = some (.tup xs)) : isT H (.ref a) = true := by
  unfold isT
  dsimp only
  rw [e]
theorem isT_dK {H : Hp} {a : Addr} {kvs : List (Key × V)} (e : H a = some (.dK kvs)) : isT H (.ref a) = false := by
  unfold isT
  dsimp only
  rw [e]
theorem isL_lst {H : Hp} {a : Addr} {xs : List V} (e : H a = some (.lst xs)) : isL H (.ref a) = true := by
  unfold isL
  dsimp only
  rw [e]
theorem isL_tup {H : Hp} {a : Addr} {xs : List V} (e : H a = some (.tup xs)) : isL H (.ref a) = false := by
  unfold isL
  dsimp only
  rw [e]
theorem isL_dK {H : Hp} {a : Addr} {kvs : List (Key × V)} (e : H a = some (.dK kvs)) : isL H (.ref a) = false := by
  unfold isL
  dsimp only
  rw [e]
theorem isD_lst {H : Hp} {a : Addr} {xs : List V} (e : H a = some (.lst xs)) : isD H (.ref a) = false := by
  unfold isD
  dsimp only
  rw [e]
theorem isD_tup {H : Hp} {a : Addr} {xs : List V} (e : H a = some (.tup xs)) : isD H (.ref a) = false := by
  unfold isD
  dsimp only
  rw [e]
theorem isD_dK {H : Hp} {a : Addr} {kvs : List (Key × V)} (e : H a = some (.dK kvs)) : isD H (.ref a) = true := by
  unfold isD
  dsimp only
  rw [e]
section
variable {K : PySem.W.Frag} {H : Hp} {v : V} {Q : VK}
theorem isi_of {x : V} {n t : String} {b : Bool} (ty : TyX K H x (.type t)) (e : kitB t n = some b) (q : Q (.bl b) H) : rIsi K [x, .ty n] H Q := ⟨x, .ty n, .type t, .type n, b, rfl, .ty n, ty, kit_ty e, q⟩
theorem isi_int (W : Wt H v) (q : Q (.bl (isI v || isB v)) H) : rIsi K [v, .ty "int"] H Q := by
  cases W with
  | non => exact isi_of (b := false) (.base .non) (by decide +kernel) q
  | bl b => exact isi_of (b := true) (.base (.bl b)) (by decide +kernel) q
  | int i => exact isi_of (b := true) (.base (.int i)) (by decide +kernel) q
  | str x => exact isi_of (b := false) (.base (.str x)) (by decide +kernel) q
  | lst e => exact isi_of (b := false) (.base (.lst e)) (by decide +kernel) q
  | tup e => exact isi_of (b := false) (.base (.tup e)) (by decide +kernel) q
  | dct e => exact isi_of (b := false) (.base (.dK e)) (by decide +kernel) q
theorem isi_bool (W : Wt H v) (q : Q (.bl (isB v)) H) : rIsi K [v, .ty "bool"] H Q := by
  cases W with
  | non => exact isi_of (b := false) (.base .non) (by decide +kernel) q
  | bl b => exact isi_of (b := true) (.base (.bl b)) (by decide +kernel) q
  | int i => exact isi_of (b := false) (.base (.int i)) (by decide +kernel) q
  | str x => exact isi_of (b := false) (.base (.str x)) (by decide +kernel) q
  | lst e => exact isi_of (b := false) (.base (.lst e)) (by decide +kernel) q
  | tup e => exact isi_of (b := false) (.base (.tup e)) (by decide +kernel) q
  | dct e => exact isi_of (b := false) (.base (.dK e)) (by decide +kernel) q
theorem isi_str (W : Wt H v) (q : Q (.bl (isS v)) H) : rIsi K [v, .ty "str"] H Q := by
  cases W with
  | non => exact isi_of (b := false) (.base .non) (by decide +kernel) q
  | bl b => exact isi_of (b := false) (.base (.bl b)) (by decide +kernel) q
  | int i => exact isi_of (b := false) (.base (.int i)) (by decide +kernel) q
  | str x => exact isi_of (b := true) (.base (.str x)) (by decide +kernel) q
  | lst e => exact isi_of (b := false) (.base (.lst e)) (by decide +kernel) q
  | tup e => exact isi_of (b := false) (.base (.tup e)) (by decide +kernel) q
  | dct e => exact isi_of (b := false) (.base (.dK e)) (by decide +kernel) q
theorem isi_tuple (W : Wt H v) (q : Q (.bl (isT H v)) H) : rIsi K [v, .ty "tuple"] H Q := by
  cases W with
  | non => exact isi_of (b := false) (.base .non) (by decide +kernel) q
  | bl b => exact isi_of (b := false) (.base (.bl b)) (by decide +kernel) q
  | int i => exact isi_of (b := false) (.base (.int i)) (by decide +kernel) q
  | str x => exact isi_of (b := false) (.base (.str x)) (by decide +kernel) q
  | lst e => exact isi_of (b := false) (.base (.lst e)) (by decide +kernel) (by rw [isT_lst e] at q; exact q)
  | tup e => exact isi_of (b := true) (.base (.tup e)) (by decide +kernel) (by rw [isT_tup e] at q; exact q)
  | dct e => exact isi_of (b := false) (.base (.dK e)) (by decide +kernel) (by rw [isT_dK e] at q; exact q)
theorem isi_list (W : Wt H v) (q : Q (.bl (isL H v)) H) : rIsi K [v, .ty "list"] H Q := by
  cases W with
  | non => exact isi_of (b := false) (.base .non) (by decide +kernel) q
  | bl b => exact isi_of (b := false) (.base (.bl b)) (by decide +kernel) q
  | int i => exact isi_of (b := false) (.base (.int i)) (by decide +kernel) q
  | str x => exact isi_of (b := false) (.base (.str x)) (by decide +kernel) q
  | lst e => exact isi_of (b := true) (.base (.lst e)) (by decide +kernel) (by rw [isL_lst e] at q; exact q)
  | tup e => exact isi_of (b := false) (.base (.tup e)) (by decide +kernel) (by rw [isL_tup e] at q; exact q)
  | dct e => exact isi_of (b := false) (.base (.dK e)) (by decide +kernel) (by rw [isL_dK e] at q; exact q)
theorem isi_dict (W : Wt H v) (q : Q (.bl (isD H v)) H) : rIsi K [v, .ty "dict"] H Q := by
  cases W with
  | non => exact isi_of (b := false) (.base .non) (by decide +kernel) q
  | bl b => exact isi_of (b := false) (.base (.bl b)) (by decide +kernel) q
  | int i => exact isi_of (b := false) (.base (.int i)) (by decide +kernel) q
  | str x => exact isi_of (b := false) (.base (.str x)) (by decide +kernel) q
  | lst e => exact isi_of (b := false) (.base (.lst e)) (by decide +kernel) (by rw [isD_lst e] at q; exact q)
  | tup e => exact isi_of (b := false) (.base (.tup e)) (by decide +kernel) (by rw [isD_tup e] at q; exact q)
  | dct e => exact isi_of (b := true) (.base (.dK e)) (by decide +kernel) (by rw [isD_dK e] at q; exact q)
end
section
variable {K : PySem.W.Frag} {H : Hp} {v : V} {R : Bool → Prop}
theorem ei_int (W : Wt H v) (q : R (isI v || isB v)) : ∃ (x c : V) (t u : Value) (b : Bool), [v, V.ty "int"] = [x, c] ∧ ClsV c u ∧ TyX K H x t ∧ PySem.W.kitOne K t u = some b ∧ R b := isi_int (Q := fun z _ => ∃ b, z = .bl b ∧ R b) W ⟨_, rfl, q⟩ |> fun ⟨x, c, t, u, b, h1, h2, h3, h4, b2, h5, h6⟩ => ⟨x, c, t, u, b, h1, h2, h3, h4, by cases h5; exact h6⟩
theorem ei_bool (W : Wt H v) (q : R (isB v)) : ∃ (x c : V) (t u : Value) (b : Bool), [v, V.ty "bool"] = [x, c] ∧ ClsV c u ∧ TyX K H x t ∧ PySem.W.kitOne K t u = some b ∧ R b := isi_bool (Q := fun z _ => ∃ b, z = .bl b ∧ R b) W ⟨_, rfl, q⟩ |> fun ⟨x, c, t, u, b, h1, h2, h3, h4, b2, h5, h6⟩ => ⟨x, c, t, u, b, h1, h2, h3, h4, by cases h5; exact h6⟩
theorem ei_str (W : Wt H v) (q : R (isS v)) : ∃ (x c : V) (t u : Value) (b : Bool), [v, V.ty "str"] = [x, c] ∧ ClsV c u ∧ TyX K H x t ∧ PySem.W.kitOne K t u = some b ∧ R b := isi_str (Q := fun z _ => ∃ b, z = .bl b ∧ R b) W ⟨_, rfl, q⟩ |> fun ⟨x, c, t, u, b, h1, h2, h3, h4, b2, h5, h6⟩ => ⟨x, c, t, u, b, h1, h2, h3, h4, by cases h5; exact h6⟩
theorem ei_tuple (W : Wt H v) (q : R (isT H v)) : ∃ (x c : V) (t u : Value) (b : Bool), [v, V.ty "tuple"] = [x, c] ∧ ClsV c u ∧ TyX K H x t ∧ PySem.W.kitOne K t u = some b ∧ R b := isi_tuple (Q := fun z _ => ∃ b, z = .bl b ∧ R b) W ⟨_, rfl, q⟩ |> fun ⟨x, c, t, u, b, h1, h2, h3, h4, b2, h5, h6⟩ => ⟨x, c, t, u, b, h1, h2, h3, h4, by cases h5; exact h6⟩
theorem ei_list (W : Wt H v) (q : R (isL H v)) : ∃ (x c : V) (t u : Value) (b : Bool), [v, V.ty "list"] = [x, c] ∧ ClsV c u ∧ TyX K H x t ∧ PySem.W.kitOne K t u = some b ∧ R b := isi_list (Q := fun z _ => ∃ b, z = .bl b ∧ R b) W ⟨_, rfl, q⟩ |> fun ⟨x, c, t, u, b, h1, h2, h3, h4, b2, h5, h6⟩ => ⟨x, c, t, u, b, h1, h2, h3, h4, by cases h5; exact h6⟩
theorem ei_dict (W : Wt H v) (q : R (isD H v)) : ∃ (x c : V) (t u : Value) (b : Bool), [v, V.ty "dict"] = [x, c] ∧ ClsV c u ∧ TyX K H x t ∧ PySem.W.kitOne K t u = some b ∧ R b := isi_dict (Q := fun z _ => ∃ b, z = .bl b ∧ R b) W ⟨_, rfl, q⟩ |> fun ⟨x, c, t, u, b, h1, h2, h3, h4, b2, h5, h6⟩ => ⟨x, c, t, u, b, h1, h2, h3, h4, by cases h5; exact h6⟩
end
theorem Wt.same {H H' : Hp} {v : V} (W : Wt H v) (e : Same H H') : Wt H' v := by
  cases W with
  | non => exact .non
  | bl b => exact .bl b
  | int i => exact .int i
  | str x => exact .str x
  | lst q => exact .lst (e _ _ q)
  | tup q => exact .tup (e _ _ q)
  | dct q => exact .dct (e _ _ q)
/-- not the object at h -/
def Off (h : Addr) (v : V) : Prop := v ≠ .ref h
theorem Wt.but {h : Addr} {H H' : Hp} {v : V} (W : Wt H v) (n : Off h v) (e : But h H H') : Wt H' v := by
  cases W with
  | non => exact .non
  | bl b => exact .bl b
  | int i => exact .int i
  | str x => exact .str x
  | lst q => exact .lst (e _ _ (fun z => n (by rw [z])) q)
  | tup q => exact .tup (e _ _ (fun z => n (by rw [z])) q)
  | dct q => exact .dct (e _ _ (fun z => n (by rw [z])) q)
theorem del_new {H : Hp} {a : Addr} {o : HO} (h : H a = none) : del (upd H a o) a = H := by
  funext b
  by_cases e : b = a
  · rw [e, del_same, h]
  · rw [del_ne e, upd_ne e]
/-- an integer within bounds -/
def btw (a b : Int) : V → Bool
  | .int i => decide (a ≤ i) && decide (i ≤ b)
  | _ => false
theorem btw_int {a b : Int} {v : V} (h : btw a b v = true) : ∃ i, v = .int i ∧ a ≤ i ∧ i ≤ b := by
  cases v with
  | int i =>
    obtain ⟨h1, h2⟩ := Bool.and_eq_true_iff.mp (show (decide (a ≤ i) && decide (i ≤ b)) = true from h)
    exact ⟨i, rfl, of_decide_eq_true h1, of_decide_eq_true h2⟩
  | _ => cases h
/-! ### promises of the program's first functions -/
def spPlain : Sp := fun vs H Q _ => ∃ v, vs = [v] ∧ Wt H v ∧ Q (.bl (isI v)) H
def spBetween : Sp := fun vs H Q _ => ∃ (a b : Int) (v : V), vs = [.int a, .int b, v] ∧ Wt H v ∧ Q (.bl (btw a b v)) H
def spWithin : Sp := fun vs H Q _ => ∃ (a b : Int) (v : V), vs = [v, .int a, .int b] ∧ Wt H v ∧ Q (.bl (btw a b v)) H
def spBtw (a b : Int) : Sp := fun vs H Q _ => ∃ v, vs = [v] ∧ Wt H v ∧ Q (.bl (btw a b v)) H
/-- a __init__ that leaves a fresh error as it is -/
def spErr0 (K : PySem.W.Frag) : Sp := fun vs H Q _ => ∃ (a C : Addr), vs = [.ref a] ∧ OexC K C ∧ H a = some (exo a C none) ∧ Q .non H
/-- a list or tuple, one of its items drawn -/
def spPick (K : PySem.W.Frag) : Sp := fun vs H Q _ => ∃ (h a : Addr) (xs : List V), vs = [.ref h, .ref a] ∧ Hand H h ∧ a ≠ h ∧ H a = some (.lst xs) ∧ 0 < xs.length ∧ xs.length < 1073741824 ∧
  ∀ (j : Nat) (v : V) (H' : Hp), xs[j]? = some v → Kp h H H' → Q v H'
/-- a drawn integer within bounds -/
def spDraw (lo hi : Int) : Sp := fun vs H Q _ => ∃ (h : Addr), vs = [.ref h] ∧ Hand H h ∧ ∀ (r : Int) (H' : Hp), lo ≤ r → r ≤ hi → Kp h H H' → Q (.int r) H'
theorem sz_b {n : Nat} (h : Nat.ble n 1000 = true) : n ≤ sizeLine := Nat.le_trans (Nat.le_of_ble_eq_true h) (by decide)
theorem new_at {H H' : Hp} {l : Addr} {o : HO} (hl : H l = none) (e : upd H l o = H') : Same H H' ∧ H' l = some o := by
  subst e
  exact ⟨Same.new hl, upd_same⟩
theorem Hand.ne {H : Hp} {h l : Addr} (A : Hand H h) (hl : H l = none) : l ≠ h := fun z => by
  obtain ⟨ys, y⟩ := A.some
  rw [z, y] at hl
  cases hl
theorem same_mut {H G : Hp} {p : Addr} {o : HO} (e : Same H G) (h : H p = none) : Same H (upd G p o) := fun b x q => by
  rw [upd_ne (ne_of_none q h)]
  exact e b x q
end Gw

set_option Elab.async false
set_option linter.all false
set_option maxRecDepth 100000
namespace Gw
/-! ### the seeds' powers -/
abbrev pN : Nat := 2147483647
def PN (k : Nat) : Nat := 48271 ^ k % pN
theorem PN_add (a b : Nat) : PN a * PN b % pN = PN (a + b) := by
  unfold PN
  rw [Nat.pow_add, ← Nat.mul_mod]
def pf : Nat → Nat → Nat
  | 0, _ => 1
  | f + 1, n => if n = 0 then 1 else if n % 2 = 0 then pf f (n / 2) * pf f (n / 2) % pN else (pf f (n / 2) * pf f (n / 2) % pN) * 48271 % pN
theorem pf_eq : ∀ (f n : Nat), n < 2 ^ f → pf f n = PN n
  | 0, n, h => by
    have : n = 0 := by rw [Nat.pow_zero] at h; omega
    subst this
    rfl
  | f + 1, n, h => by
    have h2 : n / 2 < 2 ^ f := by rw [Nat.pow_succ] at h; omega
    have ih := pf_eq f (n / 2) h2
    unfold pf
    by_cases h0 : n = 0
    · rw [if_pos h0, h0]
      rfl
    · rw [if_neg h0, ih, PN_add]
      by_cases h1 : n % 2 = 0
      · rw [if_pos h1]
        congr 1
        omega
      · rw [if_neg h1]
        have e : PN 1 = 48271 := rfl
        have z := PN_add (n / 2 + n / 2) 1
        rw [e] at z
        rw [z]
        congr 1
        omega
theorem PN_fermat : PN 2147483646 = 1 := by
  rw [← pf_eq 31 2147483646 (by decide)]
  decide +kernel
theorem PN_mul (t : Nat) : PN (2147483646 * t) = 1 := by
  induction t with
  | zero => rfl
  | succ t ih =>
    rw [Nat.mul_succ, ← PN_add, ih, PN_fermat]
    rfl
@[irreducible] def pwI (k : Nat) : Int := ((PN k : Nat) : Int)
theorem pwI_bounds (k : Nat) : 0 ≤ pwI k ∧ pwI k < 2147483647 := by
  have : PN k < pN := Nat.mod_lt _ (by decide)
  unfold pwI
  unfold pN at this
  omega
theorem pwI_add (a b : Nat) : pwI a * pwI b % 2147483647 = pwI (a + b) := by
  unfold pwI
  rw [← PN_add, ← Int.natCast_mul]
  exact (Int.natCast_emod _ _).symm
theorem pwI_zero : pwI 0 = 1 := by unfold pwI; rfl
theorem pwI_one : pwI 1 = 48271 := by unfold pwI; rfl
/-- the seed so many times behind s -/
@[irreducible] def SI (s : Int) (k : Nat) : Int := s * pwI k % 2147483647
theorem SI_bounds (s : Int) (k : Nat) : 0 ≤ SI s k ∧ SI s k < 2147483647 := by
  unfold SI
  exact ⟨Int.emod_nonneg _ (by decide), Int.emod_lt_of_pos _ (by decide)⟩
theorem emod_mul (a b : Int) : a % 2147483647 * b % 2147483647 = a * b % 2147483647 := by
  rw [Int.mul_emod, Int.emod_emod_of_dvd _ (Int.dvd_refl _), ← Int.mul_emod]
theorem mul_emod' (a b : Int) : a * (b % 2147483647) % 2147483647 = a * b % 2147483647 := by
  rw [Int.mul_comm, emod_mul, Int.mul_comm]
theorem SI_add (s : Int) (a b : Nat) : SI s a * pwI b % 2147483647 = SI s (a + b) := by
  unfold SI
  rw [emod_mul, Int.mul_assoc, ← pwI_add, mul_emod']
theorem SI_next (s : Int) (a : Nat) : SI s a * 48271 % 2147483647 = SI s (a + 1) := by rw [← SI_add, pwI_one]
theorem SI_SI (s : Int) (a b : Nat) : SI (SI s a) b = SI s (a + b) := by rw [← SI_add, SI]
theorem SI_one (s : Int) : s * 48271 % 2147483647 = SI s 1 := by rw [SI, pwI_one]
theorem SI_zero {s : Int} (h0 : 0 ≤ s) (h1 : s < 2147483647) : SI s 0 = s := by
  unfold SI
  rw [pwI_zero, Int.mul_one]
  exact Int.emod_eq_of_lt h0 h1
theorem SI_around {s : Int} (h0 : 0 ≤ s) (h1 : s < 2147483647) (t : Nat) : SI s (2147483646 * t) = s := by
  have e : SI s (2147483646 * t) = SI s 0 := by
    unfold SI pwI
    rw [PN_mul] <;> rfl
  rw [e, SI_zero h0 h1]
theorem SI_pos {s : Int} (h0 : 1 ≤ s) (h1 : s ≤ 2147483646) (k : Nat) : 1 ≤ SI s k := by
  have h := SI_bounds s k
  by_cases e : SI s k = 0
  · exfalso
    have z := SI_add s k (2147483646 * k - k)
    rw [e, Int.zero_mul, show k + (2147483646 * k - k) = 2147483646 * k by omega, SI_around (by omega) (by omega)] at z
    have : (0 : Int) % 2147483647 = 0 := rfl
    omega
  · omega
theorem SI_le (s : Int) (k : Nat) : SI s k ≤ 2147483646 := by
  have := (SI_bounds s k).2
  omega
theorem pw_sq (a : Nat) : pwI a * pwI a % 2147483647 = pwI (2 * a) := by
  rw [pwI_add]
  congr 1
  omega
theorem pw_ten (a : Nat) : pwI (8 * a) * pwI (2 * a) % 2147483647 = pwI (10 * a) := by
  rw [pwI_add]
  congr 1
  omega
theorem pw_next (a : Nat) : pwI a * 48271 % 2147483647 = pwI (a + 1) := by rw [← pwI_add, pwI_one]
theorem div_bd {x d : Int} (h0 : -100000000000000000000 ≤ x) (h1 : x ≤ 100000000000000000000) (d0 : 0 < d) : -100000000000000000000 ≤ x / d ∧ x / d ≤ 100000000000000000000 :=
  ⟨Int.le_ediv_of_mul_le d0 (by omega), Int.ediv_le_of_le_mul d0 (by omega)⟩
end Gw

set_option Elab.async false
set_option linter.all false
set_option maxRecDepth 100000
set_option maxHeartbeats 4000000
namespace Gw
open PySem PySem.Spec PyProof.Rows L2 He
theorem raise0 {K : PySem.W.Frag} {C : Addr} {σ : L2.St} {H : Hp} {Q : XK} (x : OexC K C) (q : Q (.ref C) none H) : tMk0 C (spErr0 K) σ H Q := fun a na => ⟨a, C, rfl, x, upd_same, rfl, upd_same, by rw [del_new na]; exact q⟩
/-- a text, sign by sign -/
theorem for_str {x : Str} {g : TG} {tb : TS} {D : Ends} {σ : L2.St} {H : Hp} (Pv : Nat → L2.St → Hp → Prop) (h0 : Pv 0 σ H)
    (hs : ∀ (i : Nat) (c : Nat) (σ : L2.St) (H : Hp), x.cps.toList[i]? = some c → Pv i σ H → g (.str ⟨#[c]⟩) σ H fun σ2 H2 => tb { D with nx := Pv (i + 1), ct := Pv (i + 1), bk := D.nx } σ2 H2) (hd : ∀ σ H, Pv x.cps.toList.length σ H → D.nx σ H) :
    ∃ W : Nat → Nat → L2.St → Hp → Prop, (∃ m, W 0 m σ H) ∧ ∀ i m σ H, W i m σ H →
      ((Its x).stop i H ∧ D.nx σ H) ∨ ((Its x).go i H ∧ ∃ N : L2.St → Hp → Prop, (∀ σ' H', N σ' H' → ∃ m', m' < m ∧ W (i + 1) m' σ' H') ∧ ∀ v H', (Its x).yld i H v H' → g v σ H' fun σ2 H2 => tb { D with nx := N, ct := N, bk := D.nx } σ2 H2) := by
  have el : x.cps.toList.length = x.cps.size := by simp
  refine ⟨fun i m σ H => m = x.cps.size - i ∧ i ≤ x.cps.size ∧ Pv i σ H, ⟨_, rfl, Nat.zero_le _, h0⟩, ?_⟩
  rintro i m σ H ⟨rfl, hi, p⟩
  by_cases hlt : i < x.cps.size
  · refine .inr ⟨hlt, Pv (i + 1), fun σ' H' p' => ⟨x.cps.size - (i + 1), by omega, rfl, hlt, p'⟩, fun v H' y => ?_⟩
    obtain ⟨rfl, c, hc, rfl⟩ := y
    exact hs i c σ H' (by rw [Array.getElem?_toList]; exact hc) p
  · have e : i = x.cps.toList.length := by omega
    subst e
    exact .inl ⟨Nat.le_of_eq el.symm, hd σ H p⟩
/-! ### promises of guessedworlds.numbers -/
def nn : V → Bool
  | .int n => decide (0 ≤ n)
  | _ => false
abbrev small : V → Bool := btw (-2147483648) 2147483647
abbrev seed : V → Bool := btw 1 2147483646
def spWrapped (K : PySem.W.Frag) : Sp := fun vs H Q E => ∃ v, vs = [v] ∧ Wt H v ∧ (∀ i, v = .int i → Q (.int ((i + 2147483648) % 4294967296 - 2147483648)) H) ∧ (isI v = false → E (.ref (ga K "NoNumber")) none H)
def spNext (K : PySem.W.Frag) : Sp := fun vs H Q E => ∃ v, vs = [v] ∧ Wt H v ∧ (∀ i, v = .int i → 1 ≤ i → i ≤ 2147483646 → Q (.int (SI i 1)) H) ∧ (seed v = false → E (.ref (ga K "NoSeed")) none H)
def spNext0 : Sp := fun vs H Q _ => ∃ i, vs = [.int i] ∧ 1 ≤ i ∧ i ≤ 2147483646 ∧ Q (.int (SI i 1)) H
def spAfter (K : PySem.W.Frag) : Sp := fun vs H Q E => ∃ v u, vs = [v, u] ∧ Wt H v ∧ Wt H u ∧ (∀ i n, v = .int i → 1 ≤ i → i ≤ 2147483646 → u = .int n → 0 ≤ n → Q (.int (SI i n.toNat)) H) ∧
  (seed v = false → E (.ref (ga K "NoSeed")) none H) ∧ (seed v = true → nn u = false → E (.ref (ga K "NoNumber")) none H)
def spAfter0 : Sp := fun vs H Q _ => ∃ i n, vs = [.int i, .int n] ∧ 1 ≤ i ∧ i ≤ 2147483646 ∧ 0 ≤ n ∧ Q (.int (SI i n.toNat)) H
def drawnI (i n : Int) : List V := if n < 1 then [.int 0, .int i] else [.int (SI i 1 / 16 % n), .int (SI i 1)]
def spDrawn (K : PySem.W.Frag) : Sp := fun vs H Q E => ∃ v u, vs = [v, u] ∧ Wt H v ∧ Wt H u ∧
  (∀ i n, v = .int i → 1 ≤ i → i ≤ 2147483646 → u = .int n → -2147483648 ≤ n → n ≤ 2147483647 → ∀ p, H p = none → Q (.ref p) (upd H p (.tup (drawnI i n)))) ∧
  (seed v = false → E (.ref (ga K "NoSeed")) none H) ∧ (seed v = true → small u = false → E (.ref (ga K "NoNumber")) none H)
end Gw

set_option Elab.async false
set_option linter.all false
set_option maxRecDepth 100000
set_option maxHeartbeats 4000000
namespace Gw
open PySem PySem.Spec PyProof.Rows L2 He
/-! ### promises of the laws' own helpers -/
def spHand (K : PySem.W.Frag) : Sp := fun vs H Q _ => ∃ (a : Addr) (ns : List Int), vs = [.ref a] ∧ SqL K H a (ns.map V.int) ∧ ∀ (h : Addr) (H' : Hp), H h = none → Hand H' h → Same H H' → Q (.ref h) H'
/-- bounded, if an int -/
def Bd (v : V) : Prop := ∀ i, v = .int i → -100000000000000000000 ≤ i ∧ i ≤ 100000000000000000000
def spOdd : Sp := fun vs H Q _ => ∃ (h : Addr), vs = [.ref h] ∧ Hand H h ∧ ∀ (v : V) (H' : Hp), Wt H' v → Off h v → Bd v → Kp h H H' → Q v H'
def spSome : Sp := fun vs H Q _ => ∃ (h : Addr) (u : V), vs = [.ref h, u] ∧ Hand H h ∧ Wt H u ∧ Off h u ∧ Bd u ∧ ∀ (v : V) (H' : Hp), Wt H' v → Off h v → Bd v → Kp h H H' → Q v H'
def spPower : Sp := fun vs H Q _ => ∃ n, vs = [.int n] ∧ 0 ≤ n ∧ n ≤ 1000000000000000000000 ∧ Q (.int (pwI n.toNat)) H
def spChained : Sp := fun vs H Q _ => ∃ s n, vs = [.int s, .int n] ∧ 1 ≤ s ∧ s ≤ 2147483646 ∧ 0 ≤ n ∧ n ≤ 1000 ∧ Q (.int (SI s n.toNat)) H
/-- a new tuple of what f says of the arguments -/
def spTup (f : List V → List V) (n : Nat) : Sp := fun vs H Q _ => vs.length = n ∧ (∀ v ∈ vs, Wt H v) ∧ (∀ v ∈ vs, Bd v) ∧ ∀ p, H p = none → Q (.ref p) (upd H p (.tup (f vs)))
def resW (v : V) : List V := match v with
  | .int i => [.str "told", .int ((i + 2147483648) % 4294967296 - 2147483648)]
  | _ => [.str "NoNumber"]
def resN (v : V) : List V := match v with
  | .int i => if 1 ≤ i ∧ i ≤ 2147483646 then [.str "told", .int (SI i 1)] else [.str "NoSeed"]
  | _ => [.str "NoSeed"]
def resA (v u : V) : List V := if seed v = true then (if nn u = true then (match v, u with
    | .int i, .int n => [.str "told", .int (SI i n.toNat)]
    | _, _ => []) else [.str "NoNumber"]) else [.str "NoSeed"]
def sp1 (f : V → List V) : Sp := fun vs H Q _ => ∃ v, vs = [v] ∧ Wt H v ∧ ∀ p, H p = none → Q (.ref p) (upd H p (.tup (f v)))
def sp2 (f : V → V → List V) : Sp := fun vs H Q _ => ∃ v u, vs = [v, u] ∧ Wt H v ∧ Wt H u ∧ Bd u ∧ ∀ p, H p = none → Q (.ref p) (upd H p (.tup (f v u)))
/-- of a draw: the tuple of "told" and a tuple, or of an error's name -/
def spDr : Sp := fun vs H Q _ => ∃ v u, vs = [v, u] ∧ Wt H v ∧ Wt H u ∧
  (∀ i n, v = .int i → 1 ≤ i → i ≤ 2147483646 → u = .int n → -2147483648 ≤ n → n ≤ 2147483647 → ∀ p r, H p = none → (upd H p (.tup (drawnI i n))) r = none → Q (.ref r) (upd (upd H p (.tup (drawnI i n))) r (.tup [.str "told", .ref p]))) ∧
  (seed v = false → ∀ r, H r = none → Q (.ref r) (upd H r (.tup [.str "NoSeed"]))) ∧ (seed v = true → small u = false → ∀ r, H r = none → Q (.ref r) (upd H r (.tup [.str "NoNumber"])))
/-! ### data that are the same, to a depth -/
def Sm (H : Hp) : Nat → V → V → Prop
  | 0, v, u => v = u ∧ (isI u || isS u || isN u || isB u) = true
  | n + 1, v, u => (v = u ∧ (isI u || isS u || isN u || isB u) = true) ∨ ∃ a b xs ys, v = .ref a ∧ u = .ref b ∧ H a = some (.tup xs) ∧ H b = some (.tup ys) ∧ xs.length = ys.length ∧ ∀ (i : Nat) x y, xs[i]? = some x → ys[i]? = some y → Sm H n x y
theorem Sm.same {H H' : Hp} (e : Same H H') : ∀ {n : Nat} {v u : V}, Sm H n v u → Sm H' n v u
  | 0, _, _, h => h
  | n + 1, v, u, h => by
    rcases h with h | ⟨a, b, xs, ys, h1, h2, h3, h4, h5, h6⟩
    · exact .inl h
    · exact .inr ⟨a, b, xs, ys, h1, h2, e _ _ h3, e _ _ h4, h5, fun i x y hx hy => (h6 i x y hx hy).same e⟩
theorem Sm.wt {H : Hp} : ∀ {n : Nat} {v u : V}, Sm H n v u → Wt H v ∧ Wt H u
  | 0, v, u, h => by
    obtain ⟨rfl, h⟩ := h
    cases v <;> first | exact ⟨.int _, .int _⟩ | exact ⟨.str _, .str _⟩ | exact ⟨.non, .non⟩ | exact ⟨.bl _, .bl _⟩ | cases h
  | n + 1, v, u, h => by
    rcases h with ⟨rfl, h⟩ | ⟨a, b, xs, ys, rfl, rfl, h3, h4, _⟩
    · cases v <;> first | exact ⟨.int _, .int _⟩ | exact ⟨.str _, .str _⟩ | exact ⟨.non, .non⟩ | exact ⟨.bl _, .bl _⟩ | cases h
    · exact ⟨.tup h3, .tup h4⟩
theorem Sm.flat {H : Hp} {n : Nat} {v : V} (h : (isI v || isS v || isN v || isB v) = true) : Sm H n v v := by
  cases n with
  | zero => exact ⟨rfl, h⟩
  | succ n => exact .inl ⟨rfl, h⟩
def spSame (n : Nat) : Sp := fun vs H Q _ => ∃ v u, vs = [v, u] ∧ Sm H n v u ∧ ∀ H', Same H H' → Q (.bl true) H'
def SmB (H : Hp) : Nat → V → V → Prop
  | 0, _, _ => False
  | n + 1, v, u => Sm H n v u
theorem SmB.same {H H' : Hp} (e : Same H H') : ∀ {n : Nat} {v u : V}, SmB H n v u → SmB H' n v u
  | 0, _, _, h => h
  | n + 1, _, _, h => Sm.same e h
def spSameB (n : Nat) : Sp := fun vs H Q _ => ∃ v u, vs = [v, u] ∧ SmB H n v u ∧ ∀ H', Same H H' → Q (.bl true) H'
/-! ### a text, so many times -/
def rMulS : R2 := fun x y H Q => ∃ (z : Str) (n : Int), x = .str z ∧ y = .int n ∧ PySem.MulOk z n ∧ Q (.str (PySem.Txt.mul z n)) H
theorem op_mulS {X : Cx} : OpR X (binaryOp .Mult) rMulS := by
  intro pins s σ H x y v u Q I rx ry h
  obtain ⟨z, n, rfl, rfl, ok, q⟩ := h
  obtain ⟨t, rfl⟩ := rx
  obtain ⟨t', rfl⟩ := ry
  exact PySem.SB.mul ok fun t2 k => ⟨.str _, H, I.tok k, ⟨_, rfl⟩, q⟩
/-! ### the signs of a number -/
theorem digit_text {c : Nat} (h : 48 ≤ c ∧ c ≤ 57) : PySem.intText? ⟨#[c]⟩ = some ((c - 48 : Nat) : Int) := by
  have cs : c = 48 ∨ c = 49 ∨ c = 50 ∨ c = 51 ∨ c = 52 ∨ c = 53 ∨ c = 54 ∨ c = 55 ∨ c = 56 ∨ c = 57 := by omega
  rcases cs with rfl | rfl | rfl | rfl | rfl | rfl | rfl | rfl | rfl | rfl <;> decide +kernel
theorem num_digit {m i c : Nat} (h : (PySem.Str.ofString (toString ((m : Nat) : Int))).cps.toList[i]? = some c) : 48 ≤ c ∧ c ≤ 57 := by
  rw [PySem.W.KIN.signs_num] at h
  obtain ⟨ch, hch, e⟩ := List.mem_map.mp (List.mem_of_getElem? h)
  have r := PyProof.Rows.digit_range (Nat.isDigit_of_mem_toDigits (by decide) (by decide) hch)
  rw [← e]
  exact r
theorem num_val (m : Nat) : PySem.NumText.digitsVal (PySem.Str.ofString (toString ((m : Nat) : Int))).cps.toList = m := by
  rw [PySem.W.KIN.signs_num, PySem.W.KIN.val_back]
theorem take_val {l : List Nat} {i c : Nat} (h : l[i]? = some c) : PySem.NumText.digitsVal (l.take (i + 1)) = 10 * PySem.NumText.digitsVal (l.take i) + (c - 48) := by
  rw [List.take_add_one, h]
  show PySem.NumText.digitsVal (l.take i ++ [c]) = _
  rw [PySem.NumText.digitsVal_snoc]
  omega
theorem log_small {i : Int} (h0 : 0 ≤ i) (h : i ≤ 1000000000000000000000) : i.natAbs.log2 < 1920 := by
  have h1 : i.natAbs < 2 ^ 70 := by omega
  exact Nat.lt_of_lt_of_le (PySem.Flt.log2_lt_of (by decide) h1) (by decide)
abbrev flatB (x : V) : Bool := isI x || isS x || isN x || isB x
theorem Sm.tups {H : Hp} {n : Nat} {a b : Addr} {xs : List V} (ha : H a = some (.tup xs)) (hb : H b = some (.tup xs)) (fl : ∀ x ∈ xs, flatB x = true) : Sm H (n + 1) (.ref a) (.ref b) :=
  .inr ⟨a, b, xs, xs, rfl, rfl, ha, hb, rfl, fun i x y hx hy => by
    rw [hx] at hy
    cases hy
    exact Sm.flat (fl x (List.mem_of_getElem? hx))⟩
theorem SmB.tups {H : Hp} {n : Nat} {a b : Addr} {xs : List V} (ha : H a = some (.tup xs)) (hb : H b = some (.tup xs)) (fl : ∀ x ∈ xs, flatB x = true) : SmB H (n + 2) (.ref a) (.ref b) := Sm.tups ha hb fl
theorem SmB.flat {H : Hp} {n : Nat} {v : V} (h : flatB v = true) : SmB H (n + 1) v v := Sm.flat h
theorem resW_flat (v : V) : ∀ x ∈ resW v, flatB x = true := by
  intro x hx
  cases v <;> (unfold resW at hx; simp only [List.mem_cons, List.not_mem_nil, or_false] at hx)
  case int i =>
    rcases hx with rfl | rfl <;> rfl
  all_goals (subst hx; rfl)
theorem resA_flat (v u : V) : ∀ x ∈ resA v u, flatB x = true := by
  intro x hx
  unfold resA at hx
  split at hx
  · split at hx
    · split at hx
      · simp only [List.mem_cons, List.not_mem_nil, or_false] at hx
        rcases hx with rfl | rfl <;> rfl
      · cases hx
    · simp only [List.mem_cons, List.not_mem_nil, or_false] at hx
      subst hx
      rfl
  · simp only [List.mem_cons, List.not_mem_nil, or_false] at hx
    subst hx
    rfl
theorem resN_eq (v : V) : resN v = resA v (.int 1) := by
  unfold resA
  cases v with
  | int i =>
    have e1 : nn (.int 1) = true := rfl
    by_cases h : 1 ≤ i ∧ i ≤ 2147483646
    · have hv : seed (.int i) = true := by show (decide _ && decide _) = true; rw [decide_eq_true h.1, decide_eq_true h.2]; rfl
      rw [if_pos hv, if_pos e1]
      exact if_pos h
    · have hv : ¬ seed (.int i) = true := fun z => by
        obtain ⟨j, e, h1, h2⟩ := btw_int z
        cases e
        exact h ⟨h1, h2⟩
      rw [if_neg hv]
      exact if_neg h
  | _ => rfl
def spLaw (K : PySem.W.Frag) : Sp := fun vs H Q _ => ∃ (a : Addr) (ns : List Int), vs = [.ref a] ∧ SqL K H a (ns.map V.int) ∧ ∀ H', Q (.bl true) H'
end Gw

set_option Elab.async false
set_option linter.all false
set_option maxRecDepth 100000
set_option maxHeartbeats 4000000
namespace K01
open PySem PySem.Spec PyProof.Rows L2 He Gw
def topS (i : Nat) : Stmt := PySem.Challenge.pw_guessedworlds_k01_small_integers_and_see.main.body.getD i (.Pass ⟨0, 0, 0, 0⟩)
abbrev s_WorldError_init : Stmt := inClass (topS 1) 0
abbrev s_is_plain_integer : Stmt := topS 11
abbrev s_is_between : Stmt := topS 12
abbrev s_is_small : Stmt := topS 13
abbrev s_is_seed : Stmt := topS 14
abbrev s_wrapped : Stmt := topS 15
abbrev s_next_seed : Stmt := topS 16
abbrev s_seed_after : Stmt := topS 17
abbrev s_drawn : Stmt := topS 18
abbrev s_l_hand : Stmt := topS 20
abbrev s_l_take : Stmt := topS 21
abbrev s_l_pick : Stmt := topS 22
abbrev s_l_wide : Stmt := topS 23
abbrev s_l_small : Stmt := topS 24
abbrev s_l_great : Stmt := topS 25
abbrev s_l_seed : Stmt := topS 26
abbrev s_l_is_integer : Stmt := topS 27
abbrev s_l_is_within : Stmt := topS 28
abbrev s_l_same : Stmt := topS 29
abbrev s_l_odd : Stmt := topS 30
abbrev s_l_power : Stmt := topS 31
abbrev s_l_wrapped : Stmt := topS 32
abbrev s_l_next : Stmt := topS 33
abbrev s_l_after : Stmt := topS 34
abbrev s_l_drawn : Stmt := topS 35
abbrev s_l_due_wrapped : Stmt := topS 36
abbrev s_l_due_after : Stmt := topS 37
abbrev s_l_due_drawn : Stmt := topS 38
abbrev s_l_some : Stmt := topS 39
abbrev s_l_chained : Stmt := topS 40
abbrev s_law : Stmt := topS 41
theorem sc_WorldError_init : FnScope ["self"] ["self"] (defScope s_WorldError_init) := ⟨rfl, rfl, rfl, by decide +kernel, rfl, by decide +kernel, by decide +kernel⟩
theorem sc_is_plain_integer : FnScope ["thing"] ["thing"] (defScope s_is_plain_integer) := ⟨rfl, rfl, rfl, by decide +kernel, rfl, by decide +kernel, by decide +kernel⟩
theorem sc_is_between : FnScope ["least", "most", "thing"] ["least", "most", "thing"] (defScope s_is_between) := ⟨rfl, rfl, rfl, by decide +kernel, rfl, by decide +kernel, by decide +kernel⟩
theorem sc_is_small : FnScope ["thing"] ["thing"] (defScope s_is_small) := ⟨rfl, rfl, rfl, by decide +kernel, rfl, by decide +kernel, by decide +kernel⟩
theorem sc_is_seed : FnScope ["thing"] ["thing"] (defScope s_is_seed) := ⟨rfl, rfl, rfl, by decide +kernel, rfl, by decide +kernel, by decide +kernel⟩
theorem sc_wrapped : FnScope ["number"] ["number"] (defScope s_wrapped) := ⟨rfl, rfl, rfl, by decide +kernel, rfl, by decide +kernel, by decide +kernel⟩
theorem sc_next_seed : FnScope ["seed"] ["seed"] (defScope s_next_seed) := ⟨rfl, rfl, rfl, by decide +kernel, rfl, by decide +kernel, by decide +kernel⟩
theorem sc_seed_after : FnScope ["seed", "many", "left", "factor", "found"] ["seed", "many"] (defScope s_seed_after) := ⟨rfl, rfl, rfl, by decide +kernel, rfl, by decide +kernel, by decide +kernel⟩
theorem sc_drawn : FnScope ["seed", "below", "behind"] ["seed", "below"] (defScope s_drawn) := ⟨rfl, rfl, rfl, by decide +kernel, rfl, by decide +kernel, by decide +kernel⟩
theorem sc_l_hand : FnScope ["_law_script"] ["_law_script"] (defScope s_l_hand) := ⟨rfl, rfl, rfl, by decide +kernel, rfl, by decide +kernel, by decide +kernel⟩
theorem sc_l_take : FnScope ["_law_hand_here", "_law_many", "_law_cell", "_law_found", "_law_number"] ["_law_hand_here", "_law_many"] (defScope s_l_take) := ⟨rfl, rfl, rfl, by decide +kernel, rfl, by decide +kernel, by decide +kernel⟩
theorem sc_l_pick : FnScope ["_law_hand_here", "_law_things"] ["_law_hand_here", "_law_things"] (defScope s_l_pick) := ⟨rfl, rfl, rfl, by decide +kernel, rfl, by decide +kernel, by decide +kernel⟩
theorem sc_l_wide : FnScope ["_law_hand_here"] ["_law_hand_here"] (defScope s_l_wide) := ⟨rfl, rfl, rfl, by decide +kernel, rfl, by decide +kernel, by decide +kernel⟩
theorem sc_l_small : FnScope ["_law_hand_here", "_law_way"] ["_law_hand_here"] (defScope s_l_small) := ⟨rfl, rfl, rfl, by decide +kernel, rfl, by decide +kernel, by decide +kernel⟩
theorem sc_l_great : FnScope ["_law_hand_here"] ["_law_hand_here"] (defScope s_l_great) := ⟨rfl, rfl, rfl, by decide +kernel, rfl, by decide +kernel, by decide +kernel⟩
theorem sc_l_seed : FnScope ["_law_hand_here"] ["_law_hand_here"] (defScope s_l_seed) := ⟨rfl, rfl, rfl, by decide +kernel, rfl, by decide +kernel, by decide +kernel⟩
theorem sc_l_is_integer : FnScope ["_law_thing"] ["_law_thing"] (defScope s_l_is_integer) := ⟨rfl, rfl, rfl, by decide +kernel, rfl, by decide +kernel, by decide +kernel⟩
theorem sc_l_is_within : FnScope ["_law_thing", "_law_least", "_law_most"] ["_law_thing", "_law_least", "_law_most"] (defScope s_l_is_within) := ⟨rfl, rfl, rfl, by decide +kernel, rfl, by decide +kernel, by decide +kernel⟩
theorem sc_l_same : FnScope ["_law_actual", "_law_due", "_law_one", "_law_other"] ["_law_actual", "_law_due"] (defScope s_l_same) := ⟨rfl, rfl, rfl, by decide +kernel, rfl, by decide +kernel, by decide +kernel⟩
theorem sc_l_odd : FnScope ["_law_hand_here", "_law_way"] ["_law_hand_here"] (defScope s_l_odd) := ⟨rfl, rfl, rfl, by decide +kernel, rfl, by decide +kernel, by decide +kernel⟩
theorem sc_l_power : FnScope ["_law_many", "_law_found", "_law_sign", "_law_two", "_law_four", "_law_eight", "_law_k"] ["_law_many"] (defScope s_l_power) := ⟨rfl, rfl, rfl, by decide +kernel, rfl, by decide +kernel, by decide +kernel⟩
theorem sc_l_wrapped : FnScope ["_law_thing"] ["_law_thing"] (defScope s_l_wrapped) := ⟨rfl, rfl, rfl, by decide +kernel, rfl, by decide +kernel, by decide +kernel⟩
theorem sc_l_next : FnScope ["_law_thing"] ["_law_thing"] (defScope s_l_next) := ⟨rfl, rfl, rfl, by decide +kernel, rfl, by decide +kernel, by decide +kernel⟩
theorem sc_l_after : FnScope ["_law_seed_here", "_law_many"] ["_law_seed_here", "_law_many"] (defScope s_l_after) := ⟨rfl, rfl, rfl, by decide +kernel, rfl, by decide +kernel, by decide +kernel⟩
theorem sc_l_drawn : FnScope ["_law_seed_here", "_law_below"] ["_law_seed_here", "_law_below"] (defScope s_l_drawn) := ⟨rfl, rfl, rfl, by decide +kernel, rfl, by decide +kernel, by decide +kernel⟩
theorem sc_l_due_wrapped : FnScope ["_law_thing"] ["_law_thing"] (defScope s_l_due_wrapped) := ⟨rfl, rfl, rfl, by decide +kernel, rfl, by decide +kernel, by decide +kernel⟩
theorem sc_l_due_after : FnScope ["_law_seed_here", "_law_many"] ["_law_seed_here", "_law_many"] (defScope s_l_due_after) := ⟨rfl, rfl, rfl, by decide +kernel, rfl, by decide +kernel, by decide +kernel⟩
theorem sc_l_due_drawn : FnScope ["_law_seed_here", "_law_below", "_law_later"] ["_law_seed_here", "_law_below"] (defScope s_l_due_drawn) := ⟨rfl, rfl, rfl, by decide +kernel, rfl, by decide +kernel, by decide +kernel⟩
theorem sc_l_some : FnScope ["_law_hand_here", "_law_right"] ["_law_hand_here", "_law_right"] (defScope s_l_some) := ⟨rfl, rfl, rfl, by decide +kernel, rfl, by decide +kernel, by decide +kernel⟩
theorem sc_l_chained : FnScope ["_law_seed_here", "_law_many", "_law_here", "_law_k"] ["_law_seed_here", "_law_many"] (defScope s_l_chained) := ⟨rfl, rfl, rfl, by decide +kernel, rfl, by decide +kernel, by decide +kernel⟩
theorem sc_law : FnScope ["_law_script", "_law_hand_here", "_law_k", "_law_number", "_law_seed_here", "_law_many", "_law_below", "_law_due", "_law_one", "_law_other", "_law_few"] ["_law_script"] (defScope s_law) := ⟨rfl, rfl, rfl, by decide +kernel, rfl, by decide +kernel, by decide +kernel⟩
def d_s_WorldError_init : DefD := ⟨("WorldError", some "__init__"), "__init__", "WorldError.__init__", defArgs s_WorldError_init, defBody s_WorldError_init, defScope s_WorldError_init, [], []⟩
def d_s_is_plain_integer : DefD := ⟨("is_plain_integer", none), "is_plain_integer", "is_plain_integer", defArgs s_is_plain_integer, defBody s_is_plain_integer, defScope s_is_plain_integer, [], []⟩
def d_s_is_between : DefD := ⟨("is_between", none), "is_between", "is_between", defArgs s_is_between, defBody s_is_between, defScope s_is_between, [], []⟩
def d_s_is_small : DefD := ⟨("is_small", none), "is_small", "is_small", defArgs s_is_small, defBody s_is_small, defScope s_is_small, [], []⟩
def d_s_is_seed : DefD := ⟨("is_seed", none), "is_seed", "is_seed", defArgs s_is_seed, defBody s_is_seed, defScope s_is_seed, [], []⟩
def d_s_wrapped : DefD := ⟨("wrapped", none), "wrapped", "wrapped", defArgs s_wrapped, defBody s_wrapped, defScope s_wrapped, [], []⟩
def d_s_next_seed : DefD := ⟨("next_seed", none), "next_seed", "next_seed", defArgs s_next_seed, defBody s_next_seed, defScope s_next_seed, [], []⟩
def d_s_seed_after : DefD := ⟨("seed_after", none), "seed_after", "seed_after", defArgs s_seed_after, defBody s_seed_after, defScope s_seed_after, [], []⟩
def d_s_drawn : DefD := ⟨("drawn", none), "drawn", "drawn", defArgs s_drawn, defBody s_drawn, defScope s_drawn, [], []⟩
def d_s_l_hand : DefD := ⟨("_law_hand", none), "_law_hand", "_law_hand", defArgs s_l_hand, defBody s_l_hand, defScope s_l_hand, [], []⟩
def d_s_l_take : DefD := ⟨("_law_take", none), "_law_take", "_law_take", defArgs s_l_take, defBody s_l_take, defScope s_l_take, [], []⟩
def d_s_l_pick : DefD := ⟨("_law_pick", none), "_law_pick", "_law_pick", defArgs s_l_pick, defBody s_l_pick, defScope s_l_pick, [], []⟩
def d_s_l_wide : DefD := ⟨("_law_wide", none), "_law_wide", "_law_wide", defArgs s_l_wide, defBody s_l_wide, defScope s_l_wide, [], []⟩
def d_s_l_small : DefD := ⟨("_law_small", none), "_law_small", "_law_small", defArgs s_l_small, defBody s_l_small, defScope s_l_small, [], []⟩
def d_s_l_great : DefD := ⟨("_law_great", none), "_law_great", "_law_great", defArgs s_l_great, defBody s_l_great, defScope s_l_great, [], []⟩
def d_s_l_seed : DefD := ⟨("_law_seed", none), "_law_seed", "_law_seed", defArgs s_l_seed, defBody s_l_seed, defScope s_l_seed, [], []⟩
def d_s_l_is_integer : DefD := ⟨("_law_is_integer", none), "_law_is_integer", "_law_is_integer", defArgs s_l_is_integer, defBody s_l_is_integer, defScope s_l_is_integer, [], []⟩
def d_s_l_is_within : DefD := ⟨("_law_is_within", none), "_law_is_within", "_law_is_within", defArgs s_l_is_within, defBody s_l_is_within, defScope s_l_is_within, [], []⟩
def d_s_l_same : DefD := ⟨("_law_same", none), "_law_same", "_law_same", defArgs s_l_same, defBody s_l_same, defScope s_l_same, [], []⟩
def d_s_l_odd : DefD := ⟨("_law_odd", none), "_law_odd", "_law_odd", defArgs s_l_odd, defBody s_l_odd, defScope s_l_odd, [], []⟩
def d_s_l_power : DefD := ⟨("_law_power", none), "_law_power", "_law_power", defArgs s_l_power, defBody s_l_power, defScope s_l_power, [], []⟩
def d_s_l_wrapped : DefD := ⟨("_law_wrapped", none), "_law_wrapped", "_law_wrapped", defArgs s_l_wrapped, defBody s_l_wrapped, defScope s_l_wrapped, [], []⟩
def d_s_l_next : DefD := ⟨("_law_next", none), "_law_next", "_law_next", defArgs s_l_next, defBody s_l_next, defScope s_l_next, [], []⟩
def d_s_l_after : DefD := ⟨("_law_after", none), "_law_after", "_law_after", defArgs s_l_after, defBody s_l_after, defScope s_l_after, [], []⟩
def d_s_l_drawn : DefD := ⟨("_law_drawn", none), "_law_drawn", "_law_drawn", defArgs s_l_drawn, defBody s_l_drawn, defScope s_l_drawn, [], []⟩
def d_s_l_due_wrapped : DefD := ⟨("_law_due_wrapped", none), "_law_due_wrapped", "_law_due_wrapped", defArgs s_l_due_wrapped, defBody s_l_due_wrapped, defScope s_l_due_wrapped, [], []⟩
def d_s_l_due_after : DefD := ⟨("_law_due_after", none), "_law_due_after", "_law_due_after", defArgs s_l_due_after, defBody s_l_due_after, defScope s_l_due_after, [], []⟩
def d_s_l_due_drawn : DefD := ⟨("_law_due_drawn", none), "_law_due_drawn", "_law_due_drawn", defArgs s_l_due_drawn, defBody s_l_due_drawn, defScope s_l_due_drawn, [], []⟩
def d_s_l_some : DefD := ⟨("_law_some", none), "_law_some", "_law_some", defArgs s_l_some, defBody s_l_some, defScope s_l_some, [], []⟩
def d_s_l_chained : DefD := ⟨("_law_chained", none), "_law_chained", "_law_chained", defArgs s_l_chained, defBody s_l_chained, defScope s_l_chained, [], []⟩
def d_s_law : DefD := ⟨("law", none), "law", "law", defArgs s_law, defBody s_law, defScope s_law, [], []⟩
def fn0 : List DefD := [d_s_WorldError_init, d_s_is_plain_integer, d_s_is_between, d_s_is_small, d_s_is_seed, d_s_wrapped, d_s_next_seed, d_s_seed_after, d_s_drawn, d_s_l_hand, d_s_l_take, d_s_l_pick, d_s_l_wide, d_s_l_small, d_s_l_great, d_s_l_seed, d_s_l_is_integer, d_s_l_is_within, d_s_l_same, d_s_l_odd, d_s_l_power, d_s_l_wrapped, d_s_l_next, d_s_l_after, d_s_l_drawn, d_s_l_due_wrapped, d_s_l_due_after, d_s_l_due_drawn, d_s_l_some, d_s_l_chained, d_s_law]
def fn : List DefD := fn0
def fx0 : List Fx := [freeX "ValueError", freeX "isinstance", freeX "int", freeX "bool", freeX "list", freeX "len", freeX "str", freeX "zip", freeX "tuple", freeX "range", intX "HALF_TURN" (2147483648), intX "WHOLE_TURN" (4294967296), intX "SEED_FACTOR" (48271), intX "SEED_MODULUS" (2147483647), intX "MOST_SEED" (2147483646), intX "DRAW_PART" (16), gloX "WorldError", fun K => oexB K (ga K "WorldError"), fun K => initB K (ga K "WorldError") (ma K (ga K "WorldError") "__init__"), gloX "NoNumber", fun K => oexB K (ga K "NoNumber"), fun K => initB K (ga K "NoNumber") (ma K (ga K "WorldError") "__init__"), gloX "NoSeed", fun K => oexB K (ga K "NoSeed"), fun K => initB K (ga K "NoSeed") (ma K (ga K "WorldError") "__init__"), exmX "WorldError" "NoNumber" false, exmX "WorldError" "NoSeed" false, exmX "NoNumber" "NoNumber" true, exmX "NoNumber" "NoSeed" false, exmX "NoSeed" "NoNumber" false, exmX "NoSeed" "NoSeed" true, gloX "is_plain_integer", gloX "is_between", gloX "is_small", gloX "is_seed", gloX "wrapped", gloX "next_seed", gloX "seed_after"]
def fx1 : List Fx := [gloX "drawn", gloX "_law_hand", gloX "_law_take", gloX "_law_pick", gloX "_law_wide", gloX "_law_small", gloX "_law_great", gloX "_law_seed", gloX "_law_is_integer", gloX "_law_is_within", gloX "_law_same", gloX "_law_odd", gloX "_law_power", gloX "_law_wrapped", gloX "_law_next", gloX "_law_after", gloX "_law_drawn", gloX "_law_due_wrapped", gloX "_law_due_after", gloX "_law_due_drawn", gloX "_law_some", gloX "_law_chained", gloX "law"]
def fx : List Fx := fx0 ++ fx1
def lo0 : List Str := ["WorldError", "NoNumber", "NoSeed", "HALF_TURN", "WHOLE_TURN", "SEED_FACTOR", "SEED_MODULUS", "MOST_SEED", "DRAW_PART", "is_plain_integer", "is_between", "is_small"]
def lo1 : List Str := ["is_seed", "wrapped", "next_seed", "seed_after", "drawn", "_law_hand", "_law_take", "_law_pick", "_law_wide", "_law_small", "_law_great", "_law_seed"]
def lo2 : List Str := ["_law_is_integer", "_law_is_within", "_law_same", "_law_odd", "_law_power", "_law_wrapped", "_law_next", "_law_after", "_law_drawn", "_law_due_wrapped", "_law_due_after", "_law_due_drawn"]
def lo3 : List Str := ["_law_some", "_law_chained"]
def loose : List Str := lo0 ++ lo1 ++ lo2 ++ lo3
abbrev R : PySem.W.OpenRow := PySem.W.OpenLaw.row PySem.Challenge.rw_guessedworlds_k01_small_integers_and_see
abbrev hk : PySem.W.Hook := hookX 6 fx fn
def ob (s : PySem.W.SharedT) : AlX := obX 6 fx fn (HandSHeadRun.getT s)
theorem ob_eq (s : PySem.W.SharedT) : ob s = hk.obs s.abs := obX_eq (HandSHeadRun.getT_eq s)

structure Txt (K : PySem.W.Frag) (mg : Str → Option Value) : Prop where
  d_WorldError_init : Dm K "WorldError" "__init__" s_WorldError_init ["self"]
  d_is_plain_integer : Dk K mg "is_plain_integer" s_is_plain_integer ["thing"]
  d_is_between : Dk K mg "is_between" s_is_between ["least", "most", "thing"]
  d_is_small : Dk K mg "is_small" s_is_small ["thing"]
  d_is_seed : Dk K mg "is_seed" s_is_seed ["thing"]
  d_wrapped : Dk K mg "wrapped" s_wrapped ["number"]
  d_next_seed : Dk K mg "next_seed" s_next_seed ["seed"]
  d_seed_after : Dk K mg "seed_after" s_seed_after ["seed", "many"]
  d_drawn : Dk K mg "drawn" s_drawn ["seed", "below"]
  d_l_hand : Dk K mg "_law_hand" s_l_hand ["_law_script"]
  d_l_take : Dk K mg "_law_take" s_l_take ["_law_hand_here", "_law_many"]
  d_l_pick : Dk K mg "_law_pick" s_l_pick ["_law_hand_here", "_law_things"]
  d_l_wide : Dk K mg "_law_wide" s_l_wide ["_law_hand_here"]
  d_l_small : Dk K mg "_law_small" s_l_small ["_law_hand_here"]
  d_l_great : Dk K mg "_law_great" s_l_great ["_law_hand_here"]
  d_l_seed : Dk K mg "_law_seed" s_l_seed ["_law_hand_here"]
  d_l_is_integer : Dk K mg "_law_is_integer" s_l_is_integer ["_law_thing"]
  d_l_is_within : Dk K mg "_law_is_within" s_l_is_within ["_law_thing", "_law_least", "_law_most"]
  d_l_same : Dk K mg "_law_same" s_l_same ["_law_actual", "_law_due"]
  d_l_odd : Dk K mg "_law_odd" s_l_odd ["_law_hand_here"]
  d_l_power : Dk K mg "_law_power" s_l_power ["_law_many"]
  d_l_wrapped : Dk K mg "_law_wrapped" s_l_wrapped ["_law_thing"]
  d_l_next : Dk K mg "_law_next" s_l_next ["_law_thing"]
  d_l_after : Dk K mg "_law_after" s_l_after ["_law_seed_here", "_law_many"]
  d_l_drawn : Dk K mg "_law_drawn" s_l_drawn ["_law_seed_here", "_law_below"]
  d_l_due_wrapped : Dk K mg "_law_due_wrapped" s_l_due_wrapped ["_law_thing"]
  d_l_due_after : Dk K mg "_law_due_after" s_l_due_after ["_law_seed_here", "_law_many"]
  d_l_due_drawn : Dk K mg "_law_due_drawn" s_l_due_drawn ["_law_seed_here", "_law_below"]
  d_l_some : Dk K mg "_law_some" s_l_some ["_law_hand_here", "_law_right"]
  d_l_chained : Dk K mg "_law_chained" s_l_chained ["_law_seed_here", "_law_many"]
  d_law : Dk K mg "law" s_law ["_law_script"]
  b_ValueError : mg "ValueError" = none
  b_isinstance : mg "isinstance" = none
  b_int : mg "int" = none
  b_bool : mg "bool" = none
  b_list : mg "list" = none
  b_len : mg "len" = none
  b_str : mg "str" = none
  b_zip : mg "zip" = none
  b_tuple : mg "tuple" = none
  b_range : mg "range" = none
  k_HALF_TURN : ∃ t, mg "HALF_TURN" = some (.int (2147483648) t)
  k_WHOLE_TURN : ∃ t, mg "WHOLE_TURN" = some (.int (4294967296) t)
  k_SEED_FACTOR : ∃ t, mg "SEED_FACTOR" = some (.int (48271) t)
  k_SEED_MODULUS : ∃ t, mg "SEED_MODULUS" = some (.int (2147483647) t)
  k_MOST_SEED : ∃ t, mg "MOST_SEED" = some (.int (2147483646) t)
  k_DRAW_PART : ∃ t, mg "DRAW_PART" = some (.int (16) t)
  g_WorldError : mg "WorldError" = some (.ref (ga K "WorldError"))
  x_WorldError : OexC K (ga K "WorldError")
  i_WorldError : PySem.W.findIn K (.ref (ga K "WorldError")) "__init__" = some (some (.ref (ma K (ga K "WorldError") "__init__"))) ∧ PySem.W.typeIn K (.ref (ma K (ga K "WorldError") "__init__")) = some (.type "function")
  g_NoNumber : mg "NoNumber" = some (.ref (ga K "NoNumber"))
  x_NoNumber : OexC K (ga K "NoNumber")
  i_NoNumber : PySem.W.findIn K (.ref (ga K "NoNumber")) "__init__" = some (some (.ref (ma K (ga K "WorldError") "__init__"))) ∧ PySem.W.typeIn K (.ref (ma K (ga K "WorldError") "__init__")) = some (.type "function")
  g_NoSeed : mg "NoSeed" = some (.ref (ga K "NoSeed"))
  x_NoSeed : OexC K (ga K "NoSeed")
  i_NoSeed : PySem.W.findIn K (.ref (ga K "NoSeed")) "__init__" = some (some (.ref (ma K (ga K "WorldError") "__init__"))) ∧ PySem.W.typeIn K (.ref (ma K (ga K "WorldError") "__init__")) = some (.type "function")
  m_WorldError_NoNumber : PySem.W.exmOne K (.ref (ga K "WorldError")) (.ref (ga K "NoNumber")) = some false
  m_WorldError_NoSeed : PySem.W.exmOne K (.ref (ga K "WorldError")) (.ref (ga K "NoSeed")) = some false
  m_NoNumber_NoNumber : PySem.W.exmOne K (.ref (ga K "NoNumber")) (.ref (ga K "NoNumber")) = some true
  m_NoNumber_NoSeed : PySem.W.exmOne K (.ref (ga K "NoNumber")) (.ref (ga K "NoSeed")) = some false
  m_NoSeed_NoNumber : PySem.W.exmOne K (.ref (ga K "NoSeed")) (.ref (ga K "NoNumber")) = some false
  m_NoSeed_NoSeed : PySem.W.exmOne K (.ref (ga K "NoSeed")) (.ref (ga K "NoSeed")) = some true
  g_is_plain_integer : mg "is_plain_integer" = some (.ref (ga K "is_plain_integer"))
  g_is_between : mg "is_between" = some (.ref (ga K "is_between"))
  g_is_small : mg "is_small" = some (.ref (ga K "is_small"))
  g_is_seed : mg "is_seed" = some (.ref (ga K "is_seed"))
  g_wrapped : mg "wrapped" = some (.ref (ga K "wrapped"))
  g_next_seed : mg "next_seed" = some (.ref (ga K "next_seed"))
  g_seed_after : mg "seed_after" = some (.ref (ga K "seed_after"))
  g_drawn : mg "drawn" = some (.ref (ga K "drawn"))
  g_l_hand : mg "_law_hand" = some (.ref (ga K "_law_hand"))
  g_l_take : mg "_law_take" = some (.ref (ga K "_law_take"))
  g_l_pick : mg "_law_pick" = some (.ref (ga K "_law_pick"))
  g_l_wide : mg "_law_wide" = some (.ref (ga K "_law_wide"))
  g_l_small : mg "_law_small" = some (.ref (ga K "_law_small"))
  g_l_great : mg "_law_great" = some (.ref (ga K "_law_great"))
  g_l_seed : mg "_law_seed" = some (.ref (ga K "_law_seed"))
  g_l_is_integer : mg "_law_is_integer" = some (.ref (ga K "_law_is_integer"))
  g_l_is_within : mg "_law_is_within" = some (.ref (ga K "_law_is_within"))
  g_l_same : mg "_law_same" = some (.ref (ga K "_law_same"))
  g_l_odd : mg "_law_odd" = some (.ref (ga K "_law_odd"))
  g_l_power : mg "_law_power" = some (.ref (ga K "_law_power"))
  g_l_wrapped : mg "_law_wrapped" = some (.ref (ga K "_law_wrapped"))
  g_l_next : mg "_law_next" = some (.ref (ga K "_law_next"))
  g_l_after : mg "_law_after" = some (.ref (ga K "_law_after"))
  g_l_drawn : mg "_law_drawn" = some (.ref (ga K "_law_drawn"))
  g_l_due_wrapped : mg "_law_due_wrapped" = some (.ref (ga K "_law_due_wrapped"))
  g_l_due_after : mg "_law_due_after" = some (.ref (ga K "_law_due_after"))
  g_l_due_drawn : mg "_law_due_drawn" = some (.ref (ga K "_law_due_drawn"))
  g_l_some : mg "_law_some" = some (.ref (ga K "_law_some"))
  g_l_chained : mg "_law_chained" = some (.ref (ga K "_law_chained"))
  g_law : mg "law" = some (.ref (ga K "law"))
theorem txt {K : PySem.W.Frag} {h : Heap} {mg : Str → Option Value} (X : K.In h) (G : h.Ns mainGlobals mg) (c : SaysX fx fn K) : Txt K mg := {
  d_WorldError_init := dm_of (c.def_ 0 (d := d_s_WorldError_init) rfl) fun _ _ _ _ _ _ us hl => match us, hl with | [_], _ => rfl
  d_is_plain_integer := dk_of (c.def_ 1 (d := d_s_is_plain_integer) rfl) (He.glo_ok X G (c.fact 31 (f := gloX "is_plain_integer") rfl)) fun _ _ _ _ _ _ us hl => match us, hl with | [_], _ => rfl
  d_is_between := dk_of (c.def_ 2 (d := d_s_is_between) rfl) (He.glo_ok X G (c.fact 32 (f := gloX "is_between") rfl)) fun _ _ _ _ _ _ us hl => match us, hl with | [_, _, _], _ => rfl
  d_is_small := dk_of (c.def_ 3 (d := d_s_is_small) rfl) (He.glo_ok X G (c.fact 33 (f := gloX "is_small") rfl)) fun _ _ _ _ _ _ us hl => match us, hl with | [_], _ => rfl
  d_is_seed := dk_of (c.def_ 4 (d := d_s_is_seed) rfl) (He.glo_ok X G (c.fact 34 (f := gloX "is_seed") rfl)) fun _ _ _ _ _ _ us hl => match us, hl with | [_], _ => rfl
  d_wrapped := dk_of (c.def_ 5 (d := d_s_wrapped) rfl) (He.glo_ok X G (c.fact 35 (f := gloX "wrapped") rfl)) fun _ _ _ _ _ _ us hl => match us, hl with | [_], _ => rfl
  d_next_seed := dk_of (c.def_ 6 (d := d_s_next_seed) rfl) (He.glo_ok X G (c.fact 36 (f := gloX "next_seed") rfl)) fun _ _ _ _ _ _ us hl => match us, hl with | [_], _ => rfl
  d_seed_after := dk_of (c.def_ 7 (d := d_s_seed_after) rfl) (He.glo_ok X G (c.fact 37 (f := gloX "seed_after") rfl)) fun _ _ _ _ _ _ us hl => match us, hl with | [_, _], _ => rfl
  d_drawn := dk_of (c.def_ 8 (d := d_s_drawn) rfl) (He.glo_ok X G (c.fact 38 (f := gloX "drawn") rfl)) fun _ _ _ _ _ _ us hl => match us, hl with | [_, _], _ => rfl
  d_l_hand := dk_of (c.def_ 9 (d := d_s_l_hand) rfl) (He.glo_ok X G (c.fact 39 (f := gloX "_law_hand") rfl)) fun _ _ _ _ _ _ us hl => match us, hl with | [_], _ => rfl
  d_l_take := dk_of (c.def_ 10 (d := d_s_l_take) rfl) (He.glo_ok X G (c.fact 40 (f := gloX "_law_take") rfl)) fun _ _ _ _ _ _ us hl => match us, hl with | [_, _], _ => rfl
  d_l_pick := dk_of (c.def_ 11 (d := d_s_l_pick) rfl) (He.glo_ok X G (c.fact 41 (f := gloX "_law_pick") rfl)) fun _ _ _ _ _ _ us hl => match us, hl with | [_, _], _ => rfl
  d_l_wide := dk_of (c.def_ 12 (d := d_s_l_wide) rfl) (He.glo_ok X G (c.fact 42 (f := gloX "_law_wide") rfl)) fun _ _ _ _ _ _ us hl => match us, hl with | [_], _ => rfl
  d_l_small := dk_of (c.def_ 13 (d := d_s_l_small) rfl) (He.glo_ok X G (c.fact 43 (f := gloX "_law_small") rfl)) fun _ _ _ _ _ _ us hl => match us, hl with | [_], _ => rfl
  d_l_great := dk_of (c.def_ 14 (d := d_s_l_great) rfl) (He.glo_ok X G (c.fact 44 (f := gloX "_law_great") rfl)) fun _ _ _ _ _ _ us hl => match us, hl with | [_], _ => rfl
  d_l_seed := dk_of (c.def_ 15 (d := d_s_l_seed) rfl) (He.glo_ok X G (c.fact 45 (f := gloX "_law_seed") rfl)) fun _ _ _ _ _ _ us hl => match us, hl with | [_], _ => rfl
  d_l_is_integer := dk_of (c.def_ 16 (d := d_s_l_is_integer) rfl) (He.glo_ok X G (c.fact 46 (f := gloX "_law_is_integer") rfl)) fun _ _ _ _ _ _ us hl => match us, hl with | [_], _ => rfl
  d_l_is_within := dk_of (c.def_ 17 (d := d_s_l_is_within) rfl) (He.glo_ok X G (c.fact 47 (f := gloX "_law_is_within") rfl)) fun _ _ _ _ _ _ us hl => match us, hl with | [_, _, _], _ => rfl
  d_l_same := dk_of (c.def_ 18 (d := d_s_l_same) rfl) (He.glo_ok X G (c.fact 48 (f := gloX "_law_same") rfl)) fun _ _ _ _ _ _ us hl => match us, hl with | [_, _], _ => rfl
  d_l_odd := dk_of (c.def_ 19 (d := d_s_l_odd) rfl) (He.glo_ok X G (c.fact 49 (f := gloX "_law_odd") rfl)) fun _ _ _ _ _ _ us hl => match us, hl with | [_], _ => rfl
  d_l_power := dk_of (c.def_ 20 (d := d_s_l_power) rfl) (He.glo_ok X G (c.fact 50 (f := gloX "_law_power") rfl)) fun _ _ _ _ _ _ us hl => match us, hl with | [_], _ => rfl
  d_l_wrapped := dk_of (c.def_ 21 (d := d_s_l_wrapped) rfl) (He.glo_ok X G (c.fact 51 (f := gloX "_law_wrapped") rfl)) fun _ _ _ _ _ _ us hl => match us, hl with | [_], _ => rfl
  d_l_next := dk_of (c.def_ 22 (d := d_s_l_next) rfl) (He.glo_ok X G (c.fact 52 (f := gloX "_law_next") rfl)) fun _ _ _ _ _ _ us hl => match us, hl with | [_], _ => rfl
  d_l_after := dk_of (c.def_ 23 (d := d_s_l_after) rfl) (He.glo_ok X G (c.fact 53 (f := gloX "_law_after") rfl)) fun _ _ _ _ _ _ us hl => match us, hl with | [_, _], _ => rfl
  d_l_drawn := dk_of (c.def_ 24 (d := d_s_l_drawn) rfl) (He.glo_ok X G (c.fact 54 (f := gloX "_law_drawn") rfl)) fun _ _ _ _ _ _ us hl => match us, hl with | [_, _], _ => rfl
  d_l_due_wrapped := dk_of (c.def_ 25 (d := d_s_l_due_wrapped) rfl) (He.glo_ok X G (c.fact 55 (f := gloX "_law_due_wrapped") rfl)) fun _ _ _ _ _ _ us hl => match us, hl with | [_], _ => rfl
  d_l_due_after := dk_of (c.def_ 26 (d := d_s_l_due_after) rfl) (He.glo_ok X G (c.fact 56 (f := gloX "_law_due_after") rfl)) fun _ _ _ _ _ _ us hl => match us, hl with | [_, _], _ => rfl
  d_l_due_drawn := dk_of (c.def_ 27 (d := d_s_l_due_drawn) rfl) (He.glo_ok X G (c.fact 57 (f := gloX "_law_due_drawn") rfl)) fun _ _ _ _ _ _ us hl => match us, hl with | [_, _], _ => rfl
  d_l_some := dk_of (c.def_ 28 (d := d_s_l_some) rfl) (He.glo_ok X G (c.fact 58 (f := gloX "_law_some") rfl)) fun _ _ _ _ _ _ us hl => match us, hl with | [_, _], _ => rfl
  d_l_chained := dk_of (c.def_ 29 (d := d_s_l_chained) rfl) (He.glo_ok X G (c.fact 59 (f := gloX "_law_chained") rfl)) fun _ _ _ _ _ _ us hl => match us, hl with | [_, _], _ => rfl
  d_law := dk_of (c.def_ 30 (d := d_s_law) rfl) (He.glo_ok X G (c.fact 60 (f := gloX "law") rfl)) fun _ _ _ _ _ _ us hl => match us, hl with | [_], _ => rfl
  b_ValueError := He.free_ok X G (c.fact 0 (f := freeX "ValueError") rfl)
  b_isinstance := He.free_ok X G (c.fact 1 (f := freeX "isinstance") rfl)
  b_int := He.free_ok X G (c.fact 2 (f := freeX "int") rfl)
  b_bool := He.free_ok X G (c.fact 3 (f := freeX "bool") rfl)
  b_list := He.free_ok X G (c.fact 4 (f := freeX "list") rfl)
  b_len := He.free_ok X G (c.fact 5 (f := freeX "len") rfl)
  b_str := He.free_ok X G (c.fact 6 (f := freeX "str") rfl)
  b_zip := He.free_ok X G (c.fact 7 (f := freeX "zip") rfl)
  b_tuple := He.free_ok X G (c.fact 8 (f := freeX "tuple") rfl)
  b_range := He.free_ok X G (c.fact 9 (f := freeX "range") rfl)
  k_HALF_TURN := He.int_ok X G (c.fact 10 (f := intX "HALF_TURN" (2147483648)) rfl)
  k_WHOLE_TURN := He.int_ok X G (c.fact 11 (f := intX "WHOLE_TURN" (4294967296)) rfl)
  k_SEED_FACTOR := He.int_ok X G (c.fact 12 (f := intX "SEED_FACTOR" (48271)) rfl)
  k_SEED_MODULUS := He.int_ok X G (c.fact 13 (f := intX "SEED_MODULUS" (2147483647)) rfl)
  k_MOST_SEED := He.int_ok X G (c.fact 14 (f := intX "MOST_SEED" (2147483646)) rfl)
  k_DRAW_PART := He.int_ok X G (c.fact 15 (f := intX "DRAW_PART" (16)) rfl)
  g_WorldError := He.glo_ok X G (c.fact 16 (f := gloX "WorldError") rfl)
  x_WorldError := oex_ok (c.fact 17 (f := fun K => oexB K (ga K "WorldError")) rfl)
  i_WorldError := init_ok (c.fact 18 (f := fun K => initB K (ga K "WorldError") (ma K (ga K "WorldError") "__init__")) rfl)
  g_NoNumber := He.glo_ok X G (c.fact 19 (f := gloX "NoNumber") rfl)
  x_NoNumber := oex_ok (c.fact 20 (f := fun K => oexB K (ga K "NoNumber")) rfl)
  i_NoNumber := init_ok (c.fact 21 (f := fun K => initB K (ga K "NoNumber") (ma K (ga K "WorldError") "__init__")) rfl)
  g_NoSeed := He.glo_ok X G (c.fact 22 (f := gloX "NoSeed") rfl)
  x_NoSeed := oex_ok (c.fact 23 (f := fun K => oexB K (ga K "NoSeed")) rfl)
  i_NoSeed := init_ok (c.fact 24 (f := fun K => initB K (ga K "NoSeed") (ma K (ga K "WorldError") "__init__")) rfl)
  m_WorldError_NoNumber := He.exm_ok (c.fact 25 (f := exmX "WorldError" "NoNumber" false) rfl)
  m_WorldError_NoSeed := He.exm_ok (c.fact 26 (f := exmX "WorldError" "NoSeed" false) rfl)
  m_NoNumber_NoNumber := He.exm_ok (c.fact 27 (f := exmX "NoNumber" "NoNumber" true) rfl)
  m_NoNumber_NoSeed := He.exm_ok (c.fact 28 (f := exmX "NoNumber" "NoSeed" false) rfl)
  m_NoSeed_NoNumber := He.exm_ok (c.fact 29 (f := exmX "NoSeed" "NoNumber" false) rfl)
  m_NoSeed_NoSeed := He.exm_ok (c.fact 30 (f := exmX "NoSeed" "NoSeed" true) rfl)
  g_is_plain_integer := He.glo_ok X G (c.fact 31 (f := gloX "is_plain_integer") rfl)
  g_is_between := He.glo_ok X G (c.fact 32 (f := gloX "is_between") rfl)
  g_is_small := He.glo_ok X G (c.fact 33 (f := gloX "is_small") rfl)
  g_is_seed := He.glo_ok X G (c.fact 34 (f := gloX "is_seed") rfl)
  g_wrapped := He.glo_ok X G (c.fact 35 (f := gloX "wrapped") rfl)
  g_next_seed := He.glo_ok X G (c.fact 36 (f := gloX "next_seed") rfl)
  g_seed_after := He.glo_ok X G (c.fact 37 (f := gloX "seed_after") rfl)
  g_drawn := He.glo_ok X G (c.fact 38 (f := gloX "drawn") rfl)
  g_l_hand := He.glo_ok X G (c.fact 39 (f := gloX "_law_hand") rfl)
  g_l_take := He.glo_ok X G (c.fact 40 (f := gloX "_law_take") rfl)
  g_l_pick := He.glo_ok X G (c.fact 41 (f := gloX "_law_pick") rfl)
  g_l_wide := He.glo_ok X G (c.fact 42 (f := gloX "_law_wide") rfl)
  g_l_small := He.glo_ok X G (c.fact 43 (f := gloX "_law_small") rfl)
  g_l_great := He.glo_ok X G (c.fact 44 (f := gloX "_law_great") rfl)
  g_l_seed := He.glo_ok X G (c.fact 45 (f := gloX "_law_seed") rfl)
  g_l_is_integer := He.glo_ok X G (c.fact 46 (f := gloX "_law_is_integer") rfl)
  g_l_is_within := He.glo_ok X G (c.fact 47 (f := gloX "_law_is_within") rfl)
  g_l_same := He.glo_ok X G (c.fact 48 (f := gloX "_law_same") rfl)
  g_l_odd := He.glo_ok X G (c.fact 49 (f := gloX "_law_odd") rfl)
  g_l_power := He.glo_ok X G (c.fact 50 (f := gloX "_law_power") rfl)
  g_l_wrapped := He.glo_ok X G (c.fact 51 (f := gloX "_law_wrapped") rfl)
  g_l_next := He.glo_ok X G (c.fact 52 (f := gloX "_law_next") rfl)
  g_l_after := He.glo_ok X G (c.fact 53 (f := gloX "_law_after") rfl)
  g_l_drawn := He.glo_ok X G (c.fact 54 (f := gloX "_law_drawn") rfl)
  g_l_due_wrapped := He.glo_ok X G (c.fact 55 (f := gloX "_law_due_wrapped") rfl)
  g_l_due_after := He.glo_ok X G (c.fact 56 (f := gloX "_law_due_after") rfl)
  g_l_due_drawn := He.glo_ok X G (c.fact 57 (f := gloX "_law_due_drawn") rfl)
  g_l_some := He.glo_ok X G (c.fact 58 (f := gloX "_law_some") rfl)
  g_l_chained := He.glo_ok X G (c.fact 59 (f := gloX "_law_chained") rfl)
  g_law := He.glo_ok X G (c.fact 60 (f := gloX "law") rfl)
}
end K01

set_option Elab.async false
set_option linter.all false
set_option maxRecDepth 100000
set_option maxHeartbeats 4000000
namespace K01
open PySem PySem.Spec PyProof.Rows L2 He Gw
theorem run (w : World) : HandSHeadRun.RunEq R (PySem.W.view R.prog [41]) hk ob 20000 loose w := by
  intro os
  kernel_rfl
end K01

set_option Elab.async false
set_option linter.all false
set_option maxRecDepth 100000
set_option maxHeartbeats 4000000
namespace K01
open PySem PySem.Spec PyProof.Rows L2 He Gw
local macro_rules | `(tactic| walk_at "side") => `(tactic| (first | (show (0 : Int) < _; first | decide | omega) | exact ⟨by decide, by decide⟩ | exact ⟨by decide, by decide, by decide⟩ | exact ⟨by omega, by omega⟩ | exact .inl ⟨by omega, by omega⟩ | exact .inr ⟨by omega, by omega⟩))
local macro_rules | `(tactic| walk_at "g1") => `(tactic| (first
  | refine ⟨_, rfl, ?_⟩
  | (refine ⟨_, ?xs, _, ?v, rfl, rfl, SqL.of ?h, ?e, ?r⟩; (case h => assumption); (case e => first | exact rfl | assumption))
  | (refine ⟨_, ?xs, _, ?j, rfl, rfl, ?h, ?e, ?r⟩; (case h => assumption); (case e => first | exact rfl | assumption))
  | refine ⟨_, _, rfl, rfl, ?_⟩
  | refine .inl ⟨_, rfl, ?_⟩
  | refine ⟨rfl, ?_⟩
  | (refine ⟨_, ?xs, rfl, .inl (SqL.of ?h), ?r⟩; (case h => assumption))
  | (refine And.intro ?c ?r; (case c => walk_at "side"))))
local macro_rules | `(tactic| walk_at "go") => `(tactic| repeat walk_at "g1")
section
variable {P : Program} {w : World} {K : PySem.W.Frag} {mg : Str → Option Value} {base : Heap}
theorem ok_l_take (T : Txt K mg) : okAt P w K mg base CX0 1 "_law_take" ["_law_hand_here", "_law_many"] spTake := by
  refine T.d_l_take.F.ok sc_l_take (fun vs H Q E h => ?_) (fun cdv A outer s H vs Q E hr h => ?_)
  · obtain ⟨h, n, rfl, _⟩ := h
    rfl
  · obtain ⟨h, n, rfl, ⟨l, ns, i, b, s, c, A, i0, b0, s0, s1⟩, n0, n1, q⟩ := h
    refine ⟨_, PSs.nox (pss_cons (ps_asg (pe_op op_add (pe_ix ix_list (pv 0) pe_int (fun _ _ => rfl)) pe_int) (pg_sub (pv 0) pe_int set_list))
      (Evl.pss_cut (ps_if (PW.pt (pw_and (pt_cmpR op_eq (pe_ix ix_list (pv 0) pe_int (fun _ _ => rfl)) pe_int (nomark _)) (pw_and1 (pt_cmpR op_lt (pe_ix ix_list (pv 0) pe_int (fun _ _ => rfl)) (pe_callB call_len_seq (by rfl) T.b_len PySem.boot_len (pa_cons (pe_ix ix_list (pv 0) pe_int (fun _ _ => rfl)) pa_nil)) (nomark _)))))
        (pss_cons (ps_set (i := 2) sc_l_take.nd rfl (.inl rfl) (pe_callTy call_int1 (by rfl) T.b_int (by decide +kernel) (pa_cons (pe_ix ix_list (pe_ix ix_list (pv 0) pe_int (fun _ _ => rfl)) (pe_ix ix_list (pv 0) pe_int (fun _ _ => rfl)) (fun _ _ => rfl)) pa_nil)))
        (pss_cons (ps_asg (pe_op op_add (pe_ix ix_list (pv 0) pe_int (fun _ _ => rfl)) pe_int) (pg_sub (pv 0) pe_int set_list))
        (pss_one (ps_if (pt_cmpR op_ge (pv 2) (pe_op op_pow pe_int pe_int) (nomark _))
          (pss_one (ps_asg (pv 2) (pg_sub (pv 0) pe_int set_list)))
          (pss_one (ps_asg (pe_op op_mod (pe_callTy call_int1 (by rfl) T.b_int (by decide +kernel) (pa_cons (pe_op op_add (pe_op op_add (pe_op op_mul (pe_ix ix_list (pv 0) pe_int (fun _ _ => rfl)) pe_int) (pe_op op_mod (pe_callTy call_int1 (by rfl) T.b_int (by decide +kernel) (pa_cons (pv 2) pa_nil)) pe_int)) pe_int) pa_nil)) pe_int) (pg_sub (pv 0) pe_int set_list)))))))
        pss_nil)
      (pss_cons (ps_if (pt_cmpR op_gt (pe_ix ix_list (pv 0) pe_int (fun _ _ => rfl)) pe_int (nomark _))
        (pss_cons (ps_set (i := 3) sc_l_take.nd rfl (.inl rfl) (pe_op op_mod (pe_callTy call_int1 (by rfl) T.b_int (by decide +kernel) (pa_cons (pe_ix ix_list (pv 0) pe_int (fun _ _ => rfl)) pa_nil)) (pv 1)))
        (pss_cons (ps_asg (pe_op op_fdiv (pe_callTy call_int1 (by rfl) T.b_int (by decide +kernel) (pa_cons (pe_ix ix_list (pv 0) pe_int (fun _ _ => rfl)) pa_nil)) (pv 1)) (pg_sub (pv 0) pe_int set_list))
        (pss_one (ps_ret (pv 3)))))
        pss_nil)
      (pss_cons (ps_asg (pe_op op_mod (pe_callTy call_int1 (by rfl) T.b_int (by decide +kernel) (pa_cons (pe_op op_add (pe_op op_mul (pe_ix ix_list (pv 0) pe_int (fun _ _ => rfl)) pe_int) (pe_op op_mul pe_int (pe_ix ix_list (pv 0) pe_int (fun _ _ => rfl)))) pa_nil)) pe_int) (pg_sub (pv 0) pe_int set_list))
      (pss_cons (ps_set (i := 4) sc_l_take.nd rfl (.inl rfl) (pe_op op_mod (pe_callTy call_int1 (by rfl) T.b_int (by decide +kernel) (pa_cons (pe_op op_mul (pe_ix ix_list (pv 0) pe_int (fun _ _ => rfl)) (pe_op op_add (pe_op op_fdiv (pe_ix ix_list (pv 0) pe_int (fun _ _ => rfl)) pe_int) pe_int)) pa_nil)) pe_int))
      (pss_cons (ps_set (i := 4) sc_l_take.nd rfl (.inl rfl) (pe_op op_mod (pe_callTy call_int1 (by rfl) T.b_int (by decide +kernel) (pa_cons (pe_op op_mul (pv 4) (pe_op op_add (pe_op op_fdiv (pv 4) pe_int) pe_int)) pa_nil)) pe_int))
      (pss_one (ps_ret (pe_op op_mod (pe_callTy call_int1 (by rfl) T.b_int (by decide +kernel) (pa_cons (pe_op op_fdiv (pv 4) pe_int) pa_nil)) (pv 1)))))))))), ?_⟩
    -- hand[4] = hand[4] + 1
    have hh := A.hh
    walk_at "go"
    generalize hH1 : upd H h _ = H1
    obtain ⟨A1, B1⟩ := A.set hH1 i b s (c + 1)
    clear hH1 hh
    have hh := A1.hh
    have hl := A1.hl
    refine ⟨fun σ' H' => ∃ y i' b' s', σ' = [some (.ref h), some (.int n), y, none, none] ∧ HandAt H' h l ns i' b' s' (c + 1) ∧ 0 ≤ i' ∧ 0 ≤ b' ∧ 0 ≤ s' ∧ s' < 2147483647 ∧ But h H H', ?_, ?_⟩
    · walk_at "go"
      refine ite2 (fun e => ?_) (fun e => ?_)
      · walk_at "go"
        refine ite2 (fun e2 => ?_) (fun e2 => ?_)
        · have i1 : i < ((ns.map V.int).length : Int) := of_decide_eq_true e2
          obtain ⟨x, hx⟩ := atI_ints i0 i1
          walk_at "go"
          generalize hH2 : upd H1 h _ = H2
          obtain ⟨A2, B2⟩ := A1.set hH2 (i + 1) b s (c + 1)
          clear hH2 hh hl
          have hh := A2.hh
          have hl := A2.hl
          walk_at "go"
          refine ite2 (fun e3 => ?_) (fun e3 => ?_)
          · have x1 := of_decide_eq_true (show decide _ = true from e3)
            have z18 : (10 : Int) ^ (18 : Int).toNat = 1000000000000000000 := by decide
            rw [z18] at x1
            walk_at "go"
            generalize hH3 : upd H2 h _ = H3
            obtain ⟨A3, B3⟩ := A2.set hH3 (i + 1) x s (c + 1)
            exact ⟨_, _, _, _, rfl, A3, by omega, by omega, s0, s1, (B1.trans B2).trans B3⟩
          · walk_at "go"
            generalize hH3 : upd H2 h _ = H3
            obtain ⟨A3, B3⟩ := A2.set hH3 (i + 1) b ((s * 48271 + x % 2147483647 + 1) % 2147483647) (c + 1)
            exact ⟨_, _, _, _, rfl, A3, by omega, by omega, by omega, by omega, (B1.trans B2).trans B3⟩
        · exact ⟨_, _, _, _, rfl, A1, i0, b0, s0, s1, B1⟩
      · exact ⟨_, _, _, _, rfl, A1, i0, b0, s0, s1, B1⟩
    · rintro σ' H' ⟨y, i', b', s', rfl, A2, i0', b0', s0', s1', B2⟩
      have hh := A2.hh
      have hl := A2.hl
      walk_at "go"
      refine ite2 (fun e3 => ?_) (fun e3 => ?_)
      · have x1 := of_decide_eq_true (show decide _ = true from e3)
        walk_at "go"
        generalize hH3 : upd H' h _ = H3
        obtain ⟨A3, B3⟩ := A2.set hH3 i' (b' / n) s' (c + 1)
        refine q _ _ (Int.emod_nonneg _ (by omega)) (Int.emod_lt_of_pos _ n0) ⟨⟨_, _, _, _, _, _, A3, i0', Int.ediv_nonneg b0' (by omega), s0', s1'⟩, B2.trans B3, ⟨_, _, _, _, _, _, A, i0, b0, s0, s1⟩⟩
      · walk_at "go"
        generalize hH3 : upd H' h _ = H3
        obtain ⟨A3, B3⟩ := A2.set hH3 i' b' ((s' * 69621 + 7919 * (c + 1)) % 2147483647) (c + 1)
        clear hH3 hh hl
        have hh := A3.hh
        walk_at "go"
        refine q _ _ (Int.emod_nonneg _ (by omega)) (Int.emod_lt_of_pos _ n0) ⟨⟨_, _, _, _, _, _, A3, i0', b0', by omega, by omega⟩, B2.trans B3, ⟨_, _, _, _, _, _, A, i0, b0, s0, s1⟩⟩
end
end K01

set_option Elab.async false
set_option linter.all false
set_option maxRecDepth 100000
set_option maxHeartbeats 4000000
namespace K01
open PySem PySem.Spec PyProof.Rows L2 He Gw
local macro_rules | `(tactic| walk_at "side") => `(tactic| (first | (with_reducible assumption) | ((with_reducible show _ ≤ sizeLine); exact sz_b rfl) | (show (_ : Int) < (_ : Int); first | decide | omega) | (show (0 : Int) < _; first | decide | omega) | exact ⟨by decide, by decide⟩ | exact ⟨by decide, by decide, by decide⟩ | exact ⟨by omega, by omega⟩ | exact .inl ⟨by omega, by omega⟩ | exact .inr ⟨by omega, by omega⟩))
local macro_rules | `(tactic| walk_at "isi") => `(tactic| (first
  | (refine ei_int (by assumption) ?_)
  | (refine ei_bool (by assumption) ?_)
  | (refine ei_str (by assumption) ?_)
  | (refine ei_tuple (by assumption) ?_)
  | (refine ei_list (by assumption) ?_)
  | (refine ei_dict (by assumption) ?_)))
local macro_rules | `(tactic| walk_at "g1") => `(tactic| (first
  | ((with_reducible refine And.intro ?c ?r); (case c => walk_at "side"))
  | refine ⟨_, rfl, ?_⟩
  | (refine ⟨_, ?xs, rfl, .inl (SqL.of ?h), ?r⟩; (case h => with_reducible assumption))
  | (refine ⟨_, ?xs, rfl, .inr (SqT.of ?h), ?r⟩; (case h => with_reducible assumption))
  | (refine ⟨_, ?xs, _, ?v, rfl, rfl, SqL.of ?h, ?e, ?r⟩; (case h => with_reducible assumption); (case e => first | exact rfl | (with_reducible assumption)))
  | (refine ⟨_, ?xs, _, ?j, rfl, rfl, ?h, ?e, ?r⟩; (case h => with_reducible assumption); (case e => first | exact rfl | (with_reducible assumption)))
  | refine ⟨_, _, rfl, rfl, ?_⟩
  | refine .inl ⟨_, rfl, ?_⟩
  | refine ⟨rfl, ?_⟩
  | walk_at "isi"
  | refine ⟨_, _, rfl, ?_⟩
  | refine ⟨_, _, _, rfl, ?_⟩
  | (refine And.intro ?c ?r; (case c => walk_at "side"))))
local macro_rules | `(tactic| walk_at "go") => `(tactic| repeat walk_at "g1")
section
variable {P : Program} {w : World} {K : PySem.W.Frag} {mg : Str → Option Value} {base : Heap}
theorem ok_WorldError_init (T : Txt K mg) : FnOk P w K mg base CX0 1 (ma K (ga K "WorldError") "__init__") (fdAt K (ma K (ga K "WorldError") "__init__")) ["self"] (spErr0 K) := by
  refine T.d_WorldError_init.F.ok sc_WorldError_init (fun vs H Q E h => ?_) (fun cdv A outer s H vs Q E hr h => ?_)
  · obtain ⟨_, _, rfl, _⟩ := h
    rfl
  · obtain ⟨a, C, rfl, x, e, q⟩ := h
    refine ⟨_, (PSs.nox (pss_one (ps_expr (pe_veinit (by rfl) T.b_ValueError (by rfl) (pa_cons (pv 0) pa_nil))))), ?_⟩
    exact ⟨_, rfl, a, C, [], rfl, by decide, x, e, q⟩
theorem ok_is_plain_integer (T : Txt K mg) : okAt P w K mg base CX0 1 "is_plain_integer" ["thing"] spPlain := by
  refine T.d_is_plain_integer.F.ok sc_is_plain_integer (fun vs H Q E h => ?_) (fun cdv A outer s H vs Q E hr h => ?_)
  · obtain ⟨_, rfl, _⟩ := h
    rfl
  · obtain ⟨v, rfl, W, q⟩ := h
    refine ⟨_, (PSs.nox (pss_one (ps_ret (pe_and (pe_callB call_isi (by rfl) T.b_isinstance (by decide +kernel) (pa_cons (pv 0) (pa_cons (pe_ty "int" T.b_int) pa_nil))) (pe_one (pe_not (pe_callB call_isi (by rfl) T.b_isinstance (by decide +kernel) (pa_cons (pv 0) (pa_cons (pe_ty "bool" T.b_bool) pa_nil))))))))), ?_⟩
    walk_at "go"
    refine ite2 (fun e => ?_) (fun e => ?_)
    · walk_at "go"
      cases W <;> first | exact q | cases e
    · cases W <;> first | exact q | exact absurd rfl e
theorem ok_is_between (T : Txt K mg) : okAt P w K mg base CX0 2 "is_between" ["least", "most", "thing"] spBetween := by
  have G_is_plain_integer : okAt P w K mg base CX0 1 "is_plain_integer" ["thing"] spPlain := ok_is_plain_integer T
  refine T.d_is_between.F.ok sc_is_between (fun vs H Q E h => ?_) (fun cdv A outer s H vs Q E hr h => ?_)
  · obtain ⟨_, _, _, rfl, _⟩ := h
    rfl
  · obtain ⟨a, b, v, rfl, W, q⟩ := h
    refine ⟨_, (PSs.nox (pss_one (ps_ret (pe_and (pc T.d_is_plain_integer G_is_plain_integer (hr.mono (by decide)) (pa_cons (pv 2) pa_nil)) (pe_one (pe_chain op_le op_le (pv 0) (pv 2) (pv 1))))))), ?_⟩
    walk_at "go"
    refine ite2 (fun e => ?_) (fun e => ?_)
    · cases W <;> try cases e
      rename_i i
      have q' : Q (.bl (decide (a ≤ i) && decide (i ≤ b))) H := q
      walk_at "go"
      refine ite2 (fun e => ?_) (fun e => ?_)
      · walk_at "go"
        rw [e] at q'
        exact q'
      · rw [Bool.eq_false_iff.mpr e] at q'
        exact q'
    · cases W <;> first | exact q | exact absurd rfl e
theorem ok_is_small (T : Txt K mg) : okAt P w K mg base CX0 3 "is_small" ["thing"] (spBtw (-2147483648) 2147483647) := by
  have G_is_between : okAt P w K mg base CX0 2 "is_between" ["least", "most", "thing"] spBetween := ok_is_between T
  refine T.d_is_small.F.ok sc_is_small (fun vs H Q E h => ?_) (fun cdv A outer s H vs Q E hr h => ?_)
  · obtain ⟨_, rfl, _⟩ := h
    rfl
  · obtain ⟨v, rfl, W, q⟩ := h
    refine ⟨_, (PSs.nox (pss_one (ps_ret (pc T.d_is_between G_is_between (hr.mono (by decide)) (pa_cons (pe_un un_neg (pe_kint T.k_HALF_TURN)) (pa_cons (pe_op op_sub (pe_kint T.k_HALF_TURN) pe_int) (pa_cons (pv 0) pa_nil))))))), ?_⟩
    walk_at "go"
    exact q
theorem ok_is_seed (T : Txt K mg) : okAt P w K mg base CX0 3 "is_seed" ["thing"] (spBtw 1 2147483646) := by
  have G_is_between : okAt P w K mg base CX0 2 "is_between" ["least", "most", "thing"] spBetween := ok_is_between T
  refine T.d_is_seed.F.ok sc_is_seed (fun vs H Q E h => ?_) (fun cdv A outer s H vs Q E hr h => ?_)
  · obtain ⟨_, rfl, _⟩ := h
    rfl
  · obtain ⟨v, rfl, W, q⟩ := h
    refine ⟨_, (PSs.nox (pss_one (ps_ret (pc T.d_is_between G_is_between (hr.mono (by decide)) (pa_cons pe_int (pa_cons (pe_kint T.k_MOST_SEED) (pa_cons (pv 0) pa_nil))))))), ?_⟩
    walk_at "go"
    exact q
theorem ok_wrapped (T : Txt K mg) : okAt P w K mg base (L2.CX P w) 4 "wrapped" ["number"] (spWrapped K) := by
  have G_is_plain_integer : okAt P w K mg base CX0 1 "is_plain_integer" ["thing"] spPlain := ok_is_plain_integer T
  refine T.d_wrapped.F.ok sc_wrapped (fun vs H Q E h => ?_) (fun cdv A outer s H vs Q E hr h => ?_)
  · obtain ⟨_, rfl, _⟩ := h
    rfl
  · obtain ⟨v, rfl, W, q, hE⟩ := h
    refine ⟨_, (pss_cons (ps_if (pt_not (pt_val (pc T.d_is_plain_integer G_is_plain_integer (hr.mono (by decide)) (pa_cons (pv 0) pa_nil)))) (pss_one (ps_raise rfl (takes_of rfl rfl rfl rfl) (pmk_oex0 T.x_NoNumber T.i_NoNumber (ok_WorldError_init T) (hr.mono (by decide)) T.d_WorldError_init.b pass0 T.g_NoNumber))) pss_nil)
      (pss_one (ps_ret (pe_op op_sub (pe_op op_mod (pe_op op_add (pv 0) (pe_kint T.k_HALF_TURN)) (pe_kint T.k_WHOLE_TURN)) (pe_kint T.k_HALF_TURN))))), ?_⟩
    walk_at "go"
    refine ite2 (fun e => ?_) (fun e => ?_)
    · refine raise0 T.x_NoNumber ?_
      exact hE (by simpa using e)
    · cases W <;> first | exact absurd rfl e | skip
      walk_at "go"
      exact q _ rfl
theorem ok_next_seed (T : Txt K mg) : okAt P w K mg base (L2.CX P w) 4 "next_seed" ["seed"] (spNext K) := by
  have G_is_seed : okAt P w K mg base CX0 3 "is_seed" ["thing"] (spBtw 1 2147483646) := ok_is_seed T
  refine T.d_next_seed.F.ok sc_next_seed (fun vs H Q E h => ?_) (fun cdv A outer s H vs Q E hr h => ?_)
  · obtain ⟨_, rfl, _⟩ := h
    rfl
  · obtain ⟨v, rfl, W, q, hE⟩ := h
    refine ⟨_, (pss_cons (ps_if (pt_not (pt_val (pc T.d_is_seed G_is_seed (hr.mono (by decide)) (pa_cons (pv 0) pa_nil)))) (pss_one (ps_raise rfl (takes_of rfl rfl rfl rfl) (pmk_oex0 T.x_NoSeed T.i_NoSeed (ok_WorldError_init T) (hr.mono (by decide)) T.d_WorldError_init.b pass0 T.g_NoSeed))) pss_nil)
      (pss_one (ps_ret (pe_op op_mod (pe_op op_mul (pv 0) (pe_kint T.k_SEED_FACTOR)) (pe_kint T.k_SEED_MODULUS))))), ?_⟩
    walk_at "go"
    refine ite2 (fun e => ?_) (fun e => ?_)
    · refine raise0 T.x_NoSeed ?_
      exact hE (by simpa using e)
    · obtain ⟨i, rfl, i1, i2⟩ := btw_int (by simpa using e)
      walk_at "go"
      have qq := q _ rfl i1 i2
      rw [← SI_one] at qq
      exact qq
theorem ok_next_seed0 (T : Txt K mg) : okAt P w K mg base CX0 4 "next_seed" ["seed"] spNext0 := by
  have G_is_seed : okAt P w K mg base CX0 3 "is_seed" ["thing"] (spBtw 1 2147483646) := ok_is_seed T
  refine T.d_next_seed.F.ok sc_next_seed (fun vs H Q E h => ?_) (fun cdv A outer s H vs Q E hr h => ?_)
  · obtain ⟨_, rfl, _⟩ := h
    rfl
  · obtain ⟨i, rfl, i1, i2, q⟩ := h
    refine ⟨_, (PSs.nox (pss_cons (ps_if (pt_not (pt_val (pc T.d_is_seed G_is_seed (hr.mono (by decide)) (pa_cons (pv 0) pa_nil)))) (pss_one ps_never) pss_nil)
      (pss_one (ps_ret (pe_op op_mod (pe_op op_mul (pv 0) (pe_kint T.k_SEED_FACTOR)) (pe_kint T.k_SEED_MODULUS)))))), ?_⟩
    have W : Wt H (.int i) := .int i
    walk_at "go"
    refine ite2 (fun e => ?_) (fun e => ?_)
    · have z : btw 1 2147483646 (.int i) = true := by show (decide _ && decide _) = true; rw [decide_eq_true i1, decide_eq_true i2]; rfl
      rw [z] at e
      cases e
    · walk_at "go"
      rw [← SI_one] at q
      exact q
theorem ok_seed_after (T : Txt K mg) : okAt P w K mg base (L2.CX P w) 4 "seed_after" ["seed", "many"] (spAfter K) := by
  have G_is_plain_integer : okAt P w K mg base CX0 1 "is_plain_integer" ["thing"] spPlain := ok_is_plain_integer T
  have G_is_seed : okAt P w K mg base CX0 3 "is_seed" ["thing"] (spBtw 1 2147483646) := ok_is_seed T
  refine T.d_seed_after.F.ok sc_seed_after (fun vs H Q E h => ?_) (fun cdv A outer s H vs Q E hr h => ?_)
  · obtain ⟨_, _, rfl, _⟩ := h
    rfl
  · obtain ⟨v, u, rfl, W, Wu, q, hS, hN⟩ := h
    refine ⟨_, (pss_cons (ps_if (pt_not (pt_val (pc T.d_is_seed G_is_seed (hr.mono (by decide)) (pa_cons (pv 0) pa_nil)))) (pss_one (ps_raise rfl (takes_of rfl rfl rfl rfl) (pmk_oex0 T.x_NoSeed T.i_NoSeed (ok_WorldError_init T) (hr.mono (by decide)) T.d_WorldError_init.b pass0 T.g_NoSeed))) pss_nil)
      (pss_cons (ps_if (PW.pt (pw_or (pt_not (pt_val (pc T.d_is_plain_integer G_is_plain_integer (hr.mono (by decide)) (pa_cons (pv 1) pa_nil)))) (pw_or1 (pt_cmpR op_lt (pv 1) pe_int (nomark _))))) (pss_one (ps_raise rfl (takes_of rfl rfl rfl rfl) (pmk_oex0 T.x_NoNumber T.i_NoNumber (ok_WorldError_init T) (hr.mono (by decide)) T.d_WorldError_init.b pass0 T.g_NoNumber))) pss_nil)
      (pss_cons (ps_set (i := 2) sc_seed_after.nd rfl (.inl rfl) (pv 1))
      (pss_cons (ps_set (i := 3) sc_seed_after.nd rfl (.inl rfl) (pe_kint T.k_SEED_FACTOR))
      (pss_cons (ps_set (i := 4) sc_seed_after.nd rfl (.inl rfl) (pv 0))
      (pss_cons (ps_while (passes_of rfl) (pt_cmpR op_gt (pv 2) pe_int (nomark _)) (pss_cons (ps_if (pt_cmpR op_eq (pe_op op_mod (pv 2) pe_int) pe_int (nomark _)) (pss_one (ps_set (i := 4) sc_seed_after.nd rfl (.inl rfl) (pe_op op_mod (pe_op op_mul (pv 4) (pv 3)) (pe_kint T.k_SEED_MODULUS)))) pss_nil)
      (pss_cons (ps_set (i := 3) sc_seed_after.nd rfl (.inl rfl) (pe_op op_mod (pe_op op_mul (pv 3) (pv 3)) (pe_kint T.k_SEED_MODULUS)))
      (pss_one (ps_set (i := 2) sc_seed_after.nd rfl (.inl rfl) (pe_op op_fdiv (pv 2) pe_int))))))
      (pss_one (ps_ret (pv 4))))))))), ?_⟩
    walk_at "go"
    refine ite2 (fun e => ?_) (fun e => ?_)
    · refine raise0 T.x_NoSeed ?_
      exact hS (by simpa using e)
    · obtain ⟨i, rfl, i1, i2⟩ := btw_int (by simpa using e)
      have hv : seed (.int i) = true := by simpa using e
      walk_at "go"
      refine ite2 (fun e2 => ?_) (fun e2 => ?_)
      · refine ite2 (fun e3 => ?_) (fun e3 => absurd rfl e3)
        refine raise0 T.x_NoNumber ?_
        exact hN hv (by cases Wu <;> first | rfl | cases e2)
      · cases Wu <;> first | exact absurd rfl e2 | skip
        rename_i n
        walk_at "go"
        refine ite2 (fun e3 => ?_) (fun e3 => ?_)
        · refine raise0 T.x_NoNumber ?_
          exact hN hv (decide_eq_false (by have := of_decide_eq_true (show decide _ = true from e3); omega))
        · have n0 : 0 ≤ n := by have := of_decide_eq_false (Bool.eq_false_iff.mpr e3); omega
          walk_at "go"
          refine ⟨fun m σ' H' => ∃ (l : Int) (a b : Nat), σ' = [some (.int i), some (.int n), some (.int l), some (.int (pwI b)), some (.int (SI i a))] ∧ 0 ≤ l ∧ l.toNat = m ∧ a + b * l.toNat = n.toNat ∧ H' = H, ⟨_, n, 0, 1, ?_, n0, rfl, by omega, rfl⟩, ?_⟩
          · rw [SI_zero (by omega) (by omega), pwI_one]
            rfl
          · rintro m σ' H' ⟨l, a, b, rfl, l0, rfl, hab, rfl⟩
            have sb := SI_bounds i a
            have pb := pwI_bounds b
            walk_at "go"
            refine ite2 (fun e4 => ?_) (fun e4 => ?_)
            · have l1 : 0 < l := of_decide_eq_true (show decide _ = true from e4)
              have hl : l.toNat = 2 * (l / 2).toNat + (l % 2).toNat := by omega
              have hp : pwI b * pwI b % 2147483647 = pwI (2 * b) := by rw [pwI_add]; congr 1; omega
              refine ⟨fun σ' H2 => ∃ (l' : Int) (a b : Nat), σ' = [some (.int i), some (.int n), some (.int l'), some (.int (pwI b)), some (.int (SI i a))] ∧ 0 ≤ l' ∧ l'.toNat < l.toNat ∧ a + b * l'.toNat = n.toNat ∧ H2 = H', fun σ' H2 z => ?_, ?_⟩
              · obtain ⟨l', a, b, h1, h2, h3, h4, h5⟩ := z
                exact ⟨l'.toNat, h3, l', a, b, h1, h2, rfl, h4, h5⟩
              · walk_at "go"
                refine ite2 (fun e5 => ?_) (fun e5 => ?_)
                · have l2 : l % 2 = 1 := V.int.inj (of_decide_eq_true (show decide _ = true from e5))
                  walk_at "go"
                  refine ⟨l / 2, a + b, 2 * b, ?_, by omega, by omega, ?_, rfl⟩
                  · rw [← SI_add, ← hp]
                    rfl
                  · rw [← hab, hl, l2]
                    simp only [Nat.mul_add, Nat.mul_comm, Nat.mul_left_comm]
                    simp
                    omega
                · have l2 : l % 2 = 0 := by
                    have h := of_decide_eq_false (show decide _ = false from Bool.eq_false_iff.mpr e5)
                    have h' : ¬ l % 2 = 1 := fun z => h (congrArg V.int z)
                    omega
                  walk_at "go"
                  refine ⟨l / 2, a, 2 * b, ?_, by omega, by omega, ?_, rfl⟩
                  · rw [← hp]
                    rfl
                  · rw [← hab, hl, l2]
                    simp only [Nat.mul_add, Nat.mul_comm, Nat.mul_left_comm]
                    simp
            · have l1 : l = 0 := by have := of_decide_eq_false (show decide _ = false from Bool.eq_false_iff.mpr e4); omega
              subst l1
              walk_at "go"
              have e6 : a = n.toNat := by simpa using hab
              rw [e6]
              exact q i n rfl i1 i2 rfl n0
theorem ok_seed_after0 (T : Txt K mg) : okAt P w K mg base CX0 4 "seed_after" ["seed", "many"] spAfter0 := by
  have G_is_plain_integer : okAt P w K mg base CX0 1 "is_plain_integer" ["thing"] spPlain := ok_is_plain_integer T
  have G_is_seed : okAt P w K mg base CX0 3 "is_seed" ["thing"] (spBtw 1 2147483646) := ok_is_seed T
  refine T.d_seed_after.F.ok sc_seed_after (fun vs H Q E h => ?_) (fun cdv A outer s H vs Q E hr h => ?_)
  · obtain ⟨_, _, rfl, _⟩ := h
    rfl
  · obtain ⟨i, n, rfl, i1, i2, n0, q⟩ := h
    refine ⟨_, (PSs.nox (pss_cons (ps_if (pt_not (pt_val (pc T.d_is_seed G_is_seed (hr.mono (by decide)) (pa_cons (pv 0) pa_nil)))) (pss_one ps_never) pss_nil)
      (pss_cons (ps_if (PW.pt (pw_or (pt_not (pt_val (pc T.d_is_plain_integer G_is_plain_integer (hr.mono (by decide)) (pa_cons (pv 1) pa_nil)))) (pw_or1 (pt_cmpR op_lt (pv 1) pe_int (nomark _))))) (pss_one ps_never) pss_nil)
      (pss_cons (ps_set (i := 2) sc_seed_after.nd rfl (.inl rfl) (pv 1))
      (pss_cons (ps_set (i := 3) sc_seed_after.nd rfl (.inl rfl) (pe_kint T.k_SEED_FACTOR))
      (pss_cons (ps_set (i := 4) sc_seed_after.nd rfl (.inl rfl) (pv 0))
      (pss_cons (ps_while PassesOwn.never (pt_cmpR op_gt (pv 2) pe_int (nomark _)) (pss_cons (ps_if (pt_cmpR op_eq (pe_op op_mod (pv 2) pe_int) pe_int (nomark _)) (pss_one (ps_set (i := 4) sc_seed_after.nd rfl (.inl rfl) (pe_op op_mod (pe_op op_mul (pv 4) (pv 3)) (pe_kint T.k_SEED_MODULUS)))) pss_nil)
      (pss_cons (ps_set (i := 3) sc_seed_after.nd rfl (.inl rfl) (pe_op op_mod (pe_op op_mul (pv 3) (pv 3)) (pe_kint T.k_SEED_MODULUS)))
      (pss_one (ps_set (i := 2) sc_seed_after.nd rfl (.inl rfl) (pe_op op_fdiv (pv 2) pe_int))))))
      (pss_one (ps_ret (pv 4)))))))))), ?_⟩
    have W : Wt H (.int i) := .int i
    have Wu : Wt H (.int n) := .int n
    have hv : btw 1 2147483646 (.int i) = true := by show (decide _ && decide _) = true; rw [decide_eq_true i1, decide_eq_true i2]; rfl
    walk_at "go"
    refine ite2 (fun e => ?_) (fun e => ?_)
    · rw [hv] at e
      cases e
    · walk_at "go"
      refine ite2 (fun e3 => ?_) (fun e3 => ?_)
      · have := of_decide_eq_true (show decide _ = true from e3)
        omega
      · walk_at "go"
        refine ⟨fun m σ' H' => ∃ (l : Int) (a b : Nat), σ' = [some (.int i), some (.int n), some (.int l), some (.int (pwI b)), some (.int (SI i a))] ∧ 0 ≤ l ∧ l.toNat = m ∧ a + b * l.toNat = n.toNat ∧ H' = H, ⟨_, n, 0, 1, ?_, n0, rfl, by omega, rfl⟩, ?_⟩
        · rw [SI_zero (by omega) (by omega), pwI_one]
          rfl
        · rintro m σ' H' ⟨l, a, b, rfl, l0, rfl, hab, rfl⟩
          have sb := SI_bounds i a
          have pb := pwI_bounds b
          walk_at "go"
          refine ite2 (fun e4 => ?_) (fun e4 => ?_)
          · have l1 : 0 < l := of_decide_eq_true (show decide _ = true from e4)
            have hl : l.toNat = 2 * (l / 2).toNat + (l % 2).toNat := by omega
            have hp : pwI b * pwI b % 2147483647 = pwI (2 * b) := by rw [pwI_add]; congr 1; omega
            refine ⟨fun σ' H2 => ∃ (l' : Int) (a b : Nat), σ' = [some (.int i), some (.int n), some (.int l'), some (.int (pwI b)), some (.int (SI i a))] ∧ 0 ≤ l' ∧ l'.toNat < l.toNat ∧ a + b * l'.toNat = n.toNat ∧ H2 = H', fun σ' H2 z => ?_, ?_⟩
            · obtain ⟨l', a, b, h1, h2, h3, h4, h5⟩ := z
              exact ⟨l'.toNat, h3, l', a, b, h1, h2, rfl, h4, h5⟩
            · walk_at "go"
              refine ite2 (fun e5 => ?_) (fun e5 => ?_)
              · have l2 : l % 2 = 1 := V.int.inj (of_decide_eq_true (show decide _ = true from e5))
                walk_at "go"
                refine ⟨l / 2, a + b, 2 * b, ?_, by omega, by omega, ?_, rfl⟩
                · rw [← SI_add, ← hp]
                  rfl
                · rw [← hab, hl, l2]
                  simp only [Nat.mul_add, Nat.mul_comm, Nat.mul_left_comm]
                  simp
                  omega
              · have l2 : l % 2 = 0 := by
                  have h := of_decide_eq_false (show decide _ = false from Bool.eq_false_iff.mpr e5)
                  have h' : ¬ l % 2 = 1 := fun z => h (congrArg V.int z)
                  omega
                walk_at "go"
                refine ⟨l / 2, a, 2 * b, ?_, by omega, by omega, ?_, rfl⟩
                · rw [← hp]
                  rfl
                · rw [← hab, hl, l2]
                  simp only [Nat.mul_add, Nat.mul_comm, Nat.mul_left_comm]
                  simp
          · have l1 : l = 0 := by have := of_decide_eq_false (show decide _ = false from Bool.eq_false_iff.mpr e4); omega
            subst l1
            walk_at "go"
            have e6 : a = n.toNat := by simpa using hab
            rw [e6]
            exact q
theorem ok_drawn (T : Txt K mg) : okAt P w K mg base (L2.CX P w) 5 "drawn" ["seed", "below"] (spDrawn K) := by
  have G_next_seed : okAt P w K mg base CX0 4 "next_seed" ["seed"] spNext0 := ok_next_seed0 T
  have G_is_small : okAt P w K mg base CX0 3 "is_small" ["thing"] (spBtw (-2147483648) 2147483647) := ok_is_small T
  have G_is_seed : okAt P w K mg base CX0 3 "is_seed" ["thing"] (spBtw 1 2147483646) := ok_is_seed T
  refine T.d_drawn.F.ok sc_drawn (fun vs H Q E h => ?_) (fun cdv A outer s H vs Q E hr h => ?_)
  · obtain ⟨_, _, rfl, _⟩ := h
    rfl
  · obtain ⟨v, u, rfl, W, Wu, q, hS, hN⟩ := h
    refine ⟨_, (pss_cons (ps_if (pt_not (pt_val (pc T.d_is_seed G_is_seed (hr.mono (by decide)) (pa_cons (pv 0) pa_nil)))) (pss_one (ps_raise rfl (takes_of rfl rfl rfl rfl) (pmk_oex0 T.x_NoSeed T.i_NoSeed (ok_WorldError_init T) (hr.mono (by decide)) T.d_WorldError_init.b pass0 T.g_NoSeed))) pss_nil)
      (pss_cons (ps_if (pt_not (pt_val (pc T.d_is_small G_is_small (hr.mono (by decide)) (pa_cons (pv 1) pa_nil)))) (pss_one (ps_raise rfl (takes_of rfl rfl rfl rfl) (pmk_oex0 T.x_NoNumber T.i_NoNumber (ok_WorldError_init T) (hr.mono (by decide)) T.d_WorldError_init.b pass0 T.g_NoNumber))) pss_nil)
      (pss_cons (ps_if (pt_cmpR op_lt (pv 1) pe_int (nomark _)) (pss_one (ps_ret (pe_tup (pa_cons pe_int (pa_cons (pv 0) pa_nil))))) pss_nil)
      (pss_cons (ps_set (i := 2) sc_drawn.nd rfl (.inl rfl) (pc T.d_next_seed G_next_seed (hr.mono (by decide)) (pa_cons (pv 0) pa_nil)))
      (pss_one (ps_ret (pe_tup (pa_cons (pe_op op_mod (pe_op op_fdiv (pv 2) (pe_kint T.k_DRAW_PART)) (pv 1)) (pa_cons (pv 2) pa_nil))))))))), ?_⟩
    walk_at "go"
    refine ite2 (fun e => ?_) (fun e => ?_)
    · refine raise0 T.x_NoSeed ?_
      exact hS (by simpa using e)
    · obtain ⟨i, rfl, i1, i2⟩ := btw_int (by simpa using e)
      have hv : seed (.int i) = true := by simpa using e
      walk_at "go"
      refine ite2 (fun e2 => ?_) (fun e2 => ?_)
      · refine raise0 T.x_NoNumber ?_
        exact hN hv (by simpa using e2)
      · obtain ⟨n, rfl, n1, n2⟩ := btw_int (by simpa using e2)
        have qq := q i n rfl i1 i2 rfl n1 n2
        unfold drawnI at qq
        walk_at "go"
        refine ite2 (fun e3 => ?_) (fun e3 => ?_)
        · rw [if_pos (of_decide_eq_true (show decide _ = true from e3))] at qq
          walk_at "go"
          exact qq
        · have n3 := of_decide_eq_false (show decide _ = false from Bool.eq_false_iff.mpr e3)
          rw [if_neg n3] at qq
          have n4 : 0 < n := by omega
          walk_at "go"
          exact qq
end

end K01

set_option Elab.async false
set_option linter.all false
set_option maxRecDepth 100000
set_option maxHeartbeats 4000000
namespace K01
open PySem PySem.Spec PyProof.Rows L2 He Gw
local macro_rules | `(tactic| walk_at "side") => `(tactic| (first | (with_reducible assumption) | ((with_reducible show _ ≤ sizeLine); exact sz_b rfl) | (show (_ : Int) < (_ : Int); first | decide | omega) | (show (0 : Int) < _; first | decide | omega) | exact ⟨by decide, by decide⟩ | exact ⟨by decide, by decide, by decide⟩ | exact ⟨by omega, by omega⟩ | exact .inl ⟨by omega, by omega⟩ | exact .inr ⟨by omega, by omega⟩))
local macro_rules | `(tactic| walk_at "isi") => `(tactic| (first
  | (refine ei_int (by assumption) ?_)
  | (refine ei_bool (by assumption) ?_)
  | (refine ei_str (by assumption) ?_)
  | (refine ei_tuple (by assumption) ?_)
  | (refine ei_list (by assumption) ?_)
  | (refine ei_dict (by assumption) ?_)))
local macro_rules | `(tactic| walk_at "g1") => `(tactic| (first
  | ((with_reducible refine And.intro ?c ?r); (case c => walk_at "side"))
  | refine ⟨_, rfl, ?_⟩
  | (refine ⟨_, ?xs, rfl, .inl (SqL.of ?h), ?r⟩; (case h => with_reducible assumption))
  | (refine ⟨_, ?xs, rfl, .inr (SqT.of ?h), ?r⟩; (case h => with_reducible assumption))
  | (refine ⟨_, ?xs, _, ?v, rfl, rfl, SqL.of ?h, ?e, ?r⟩; (case h => with_reducible assumption); (case e => first | exact rfl | (with_reducible assumption)))
  | (refine ⟨_, ?xs, _, ?j, rfl, rfl, ?h, ?e, ?r⟩; (case h => with_reducible assumption); (case e => first | exact rfl | (with_reducible assumption)))
  | refine ⟨_, _, rfl, rfl, ?_⟩
  | refine .inl ⟨_, rfl, ?_⟩
  | refine ⟨rfl, ?_⟩
  | walk_at "isi"
  | refine ⟨_, _, rfl, ?_⟩
  | refine ⟨_, _, _, rfl, ?_⟩
  | (refine And.intro ?c ?r; (case c => walk_at "side"))))
local macro_rules | `(tactic| walk_at "go") => `(tactic| repeat walk_at "g1")
section
variable {P : Program} {w : World} {K : PySem.W.Frag} {mg : Str → Option Value} {base : Heap}
theorem ok_l_hand (T : Txt K mg) : okAt P w K mg base CX0 1 "_law_hand" ["_law_script"] (spHand K) := by
  refine T.d_l_hand.F.ok sc_l_hand (fun vs H Q E h => ?_) (fun cdv A outer s H vs Q E hr h => ?_)
  · obtain ⟨_, _, rfl, _⟩ := h
    rfl
  · obtain ⟨a, ns, rfl, hS, q⟩ := h
    refine ⟨_, (PSs.nox (pss_one (ps_ret (pe_lst (pa_cons (pe_callTy call_list_of (by rfl) T.b_list (by decide +kernel) (pa_cons (pv 0) pa_nil)) (pa_cons pe_int (pa_cons pe_int (pa_cons pe_int (pa_cons pe_int pa_nil))))))))), ?_⟩
    refine ⟨_, rfl, _, _, rfl, .inl hS, fun l hl => ?_⟩
    walk_at "go"
    intro h hh
    have nl : l ≠ h := fun z => by rw [z, upd_same] at hh; cases hh
    have hn : H h = none := by rw [upd_ne nl.symm] at hh; exact hh
    refine q h _ hn ⟨l, ns, 0, 0, 1, 0, ⟨upd_same, by rw [upd_ne nl, upd_same], nl⟩, by decide, by decide, by decide, by decide⟩ ?_
    exact (Same.new hl).trans (Same.new hh)
theorem ok_l_pick (T : Txt K mg) : okAt P w K mg base CX0 2 "_law_pick" ["_law_hand_here", "_law_things"] (spPick K) := by
  have G_l_take : okAt P w K mg base CX0 1 "_law_take" ["_law_hand_here", "_law_many"] spTake := ok_l_take T
  refine T.d_l_pick.F.ok sc_l_pick (fun vs H Q E h => ?_) (fun cdv A outer s H vs Q E hr h => ?_)
  · obtain ⟨_, _, _, rfl, _⟩ := h
    rfl
  · obtain ⟨h, a, xs, rfl, A, na, ha, x0, x1, q⟩ := h
    refine ⟨_, (PSs.nox (pss_one (ps_ret (pe_ix ix_list (pv 1) (pc T.d_l_take G_l_take (hr.mono (by decide)) (pa_cons (pv 0) (pa_cons (pe_callB call_len_seq (by rfl) T.b_len PySem.boot_len (pa_cons (pv 1) pa_nil)) pa_nil))) (fun _ _ => rfl))))), ?_⟩
    have e0 : (0 : Int) < (xs.length : Int) := by omega
    have e1 : (xs.length : Int) < 1073741824 := by omega
    walk_at "go"
    intro r H1 r0 r1 k1
    obtain ⟨j, rfl⟩ : ∃ j : Nat, r = (j : Int) := ⟨r.toNat, by omega⟩
    have hj : j < xs.length := by omega
    have hx := List.getElem?_eq_getElem hj
    have ha1 := k1.keep ha na
    have hx1 := atI_nat hx
    walk_at "go"
    exact q j _ H1 hx k1
theorem ok_l_wide (T : Txt K mg) : okAt P w K mg base CX0 2 "_law_wide" ["_law_hand_here"] (spDraw (-2147483648) 2147483647) := by
  have G_l_take : okAt P w K mg base CX0 1 "_law_take" ["_law_hand_here", "_law_many"] spTake := ok_l_take T
  refine T.d_l_wide.F.ok sc_l_wide (fun vs H Q E h => ?_) (fun cdv A outer s H vs Q E hr h => ?_)
  · obtain ⟨_, rfl, _⟩ := h
    rfl
  · obtain ⟨h, rfl, A, q⟩ := h
    refine ⟨_, (PSs.nox (pss_one (ps_ret (pe_op op_sub (pe_op op_add (pe_op op_mul (pc T.d_l_take G_l_take (hr.mono (by decide)) (pa_cons (pv 0) (pa_cons pe_int pa_nil))) pe_int) (pc T.d_l_take G_l_take (hr.mono (by decide)) (pa_cons (pv 0) (pa_cons pe_int pa_nil)))) pe_int)))), ?_⟩
    walk_at "go"
    intro r H1 r0 r1 k1
    have A1 := k1.hand
    walk_at "go"
    intro r2 H2 r20 r21 k2
    walk_at "go"
    exact q _ _ (by omega) (by omega) (k1.trans k2)
theorem ok_l_small (T : Txt K mg) : okAt P w K mg base CX0 3 "_law_small" ["_law_hand_here"] (spDraw (-2147483648) 2147483647) := by
  have G_l_take : okAt P w K mg base CX0 1 "_law_take" ["_law_hand_here", "_law_many"] spTake := ok_l_take T
  have G_l_pick : okAt P w K mg base CX0 2 "_law_pick" ["_law_hand_here", "_law_things"] (spPick K) := ok_l_pick T
  have G_l_wide : okAt P w K mg base CX0 2 "_law_wide" ["_law_hand_here"] (spDraw (-2147483648) 2147483647) := ok_l_wide T
  refine T.d_l_small.F.ok sc_l_small (fun vs H Q E h => ?_) (fun cdv A outer s H vs Q E hr h => ?_)
  · obtain ⟨_, rfl, _⟩ := h
    rfl
  · obtain ⟨h, rfl, A, q⟩ := h
    refine ⟨_, (PSs.nox (pss_cons (ps_set (i := 1) sc_l_small.nd rfl (.inl rfl) (pc T.d_l_take G_l_take (hr.mono (by decide)) (pa_cons (pv 0) (pa_cons pe_int pa_nil))))
      (pss_cons (ps_if (pt_cmpR op_eq (pv 1) pe_int (nomark _)) (pss_one (ps_ret (pc T.d_l_wide G_l_wide (hr.mono (by decide)) (pa_cons (pv 0) pa_nil)))) pss_nil)
      (pss_cons (ps_if (pt_cmpR op_eq (pv 1) pe_int (nomark _)) (pss_one (ps_ret (pc T.d_l_pick G_l_pick (hr.mono (by decide)) (pa_cons (pv 0) (pa_cons (pe_lst (pa_cons pe_int (pa_cons (pe_un un_neg pe_int) (pa_cons pe_int (pa_cons (pe_un un_neg pe_int) (pa_cons pe_int (pa_cons pe_int (pa_cons pe_int (pa_cons pe_int (pa_cons (pe_un un_neg pe_int) pa_nil)))))))))) pa_nil))))) pss_nil)
      (pss_cons (ps_if (pt_cmpR op_lt (pv 1) pe_int (nomark _)) (pss_one (ps_ret (pe_op op_sub (pc T.d_l_take G_l_take (hr.mono (by decide)) (pa_cons (pv 0) (pa_cons pe_int pa_nil))) pe_int))) pss_nil)
      (pss_one (ps_ret (pe_op op_sub (pc T.d_l_take G_l_take (hr.mono (by decide)) (pa_cons (pv 0) (pa_cons pe_int pa_nil))) pe_int)))))))), ?_⟩
    walk_at "go"
    intro r H1 r0 r1 k1
    have A1 := k1.hand
    walk_at "go"
    refine ite2 (fun e => ?_) (fun e => ?_)
    · walk_at "go"
      intro r2 H2 r20 r21 k2
      exact q _ _ r20 r21 (k1.trans k2)
    · walk_at "go"
      refine ite2 (fun e2 => ?_) (fun e2 => ?_)
      · walk_at "go"
        intro l hl
        generalize hL : upd H1 l _ = HL
        obtain ⟨sm, hl2⟩ := new_at hl hL
        have K2 := k1.same sm
        have A2 := K2.hand
        refine ⟨_, _, _, rfl, A2, A1.ne hl, hl2, by decide, by decide, fun j v H3 hj k3 => ?_⟩
        obtain ⟨i, rfl, i1, i2⟩ : ∃ i : Int, v = .int i ∧ -2147483648 ≤ i ∧ i ≤ 2147483647 := by
          have hm := List.mem_of_getElem? hj
          simp only [List.mem_cons, List.not_mem_nil, or_false] at hm
          rcases hm with rfl | rfl | rfl | rfl | rfl | rfl | rfl | rfl | rfl <;> exact ⟨_, rfl, by decide, by decide⟩
        exact q _ _ i1 i2 (K2.trans k3)
      · walk_at "go"
        refine ite2 (fun e2 => ?_) (fun e2 => ?_)
        · walk_at "go"
          intro r2 H2 r20 r21 k2
          walk_at "go"
          exact q _ _ (by omega) (by omega) (k1.trans k2)
        · walk_at "go"
          intro r2 H2 r20 r21 k2
          walk_at "go"
          exact q _ _ (by omega) (by omega) (k1.trans k2)
theorem ok_l_great (T : Txt K mg) : okAt P w K mg base CX0 2 "_law_great" ["_law_hand_here"] (spDraw 0 99999999999999999999) := by
  have G_l_take : okAt P w K mg base CX0 1 "_law_take" ["_law_hand_here", "_law_many"] spTake := ok_l_take T
  refine T.d_l_great.F.ok sc_l_great (fun vs H Q E h => ?_) (fun cdv A outer s H vs Q E hr h => ?_)
  · obtain ⟨_, rfl, _⟩ := h
    rfl
  · obtain ⟨h, rfl, A, q⟩ := h
    refine ⟨_, (PSs.nox (pss_one (ps_ret (pe_op op_add (pe_op op_mul (pe_op op_add (pe_op op_mul (pc T.d_l_take G_l_take (hr.mono (by decide)) (pa_cons (pv 0) (pa_cons (pe_op op_pow pe_int pe_int) pa_nil))) (pe_op op_pow pe_int pe_int)) (pc T.d_l_take G_l_take (hr.mono (by decide)) (pa_cons (pv 0) (pa_cons (pe_op op_pow pe_int pe_int) pa_nil)))) (pe_op op_pow pe_int pe_int)) (pe_op op_add (pe_op op_mul (pc T.d_l_take G_l_take (hr.mono (by decide)) (pa_cons (pv 0) (pa_cons (pe_op op_pow pe_int pe_int) pa_nil))) (pe_op op_pow pe_int pe_int)) (pc T.d_l_take G_l_take (hr.mono (by decide)) (pa_cons (pv 0) (pa_cons (pe_op op_pow pe_int pe_int) pa_nil)))))))), ?_⟩
    have z5 : (10 : Int) ^ (5 : Int).toNat = 100000 := by decide
    have z10 : (10 : Int) ^ (10 : Int).toNat = 10000000000 := by decide
    walk_at "go"
    rw [z5]
    intro r H1 r0 r1 k1
    have A1 := k1.hand
    walk_at "go"
    rw [z5]
    intro r2 H2 r20 r21 k2
    have A2 := k2.hand
    walk_at "go"
    rw [z5]
    intro r3 H3 r30 r31 k3
    have A3 := k3.hand
    walk_at "go"
    rw [z5]
    intro r4 H4 r40 r41 k4
    walk_at "go"
    refine q _ _ ?_ ?_ (((k1.trans k2).trans k3).trans k4)
    all_goals
      rw [z10]
      omega
theorem ok_l_seed (T : Txt K mg) : okAt P w K mg base CX0 3 "_law_seed" ["_law_hand_here"] (spDraw 1 2147483646) := by
  have G_l_take : okAt P w K mg base CX0 1 "_law_take" ["_law_hand_here", "_law_many"] spTake := ok_l_take T
  have G_l_pick : okAt P w K mg base CX0 2 "_law_pick" ["_law_hand_here", "_law_things"] (spPick K) := ok_l_pick T
  refine T.d_l_seed.F.ok sc_l_seed (fun vs H Q E h => ?_) (fun cdv A outer s H vs Q E hr h => ?_)
  · obtain ⟨_, rfl, _⟩ := h
    rfl
  · obtain ⟨h, rfl, A, q⟩ := h
    refine ⟨_, (PSs.nox (pss_cons (ps_if (pt_cmpR op_eq (pc T.d_l_take G_l_take (hr.mono (by decide)) (pa_cons (pv 0) (pa_cons pe_int pa_nil))) pe_int (nomark _)) (pss_one (ps_ret (pc T.d_l_pick G_l_pick (hr.mono (by decide)) (pa_cons (pv 0) (pa_cons (pe_lst (pa_cons pe_int (pa_cons pe_int (pa_cons pe_int (pa_cons pe_int (pa_cons pe_int pa_nil)))))) pa_nil))))) pss_nil)
      (pss_one (ps_ret (pe_op op_add pe_int (pe_op op_mod (pe_callTy call_int1 (by rfl) T.b_int (by decide +kernel) (pa_cons (pe_op op_add (pe_op op_mul (pc T.d_l_take G_l_take (hr.mono (by decide)) (pa_cons (pv 0) (pa_cons pe_int pa_nil))) pe_int) (pc T.d_l_take G_l_take (hr.mono (by decide)) (pa_cons (pv 0) (pa_cons pe_int pa_nil)))) pa_nil)) pe_int)))))), ?_⟩
    walk_at "go"
    intro r H1 r0 r1 k1
    have A1 := k1.hand
    walk_at "go"
    refine ite2 (fun e => ?_) (fun e => ?_)
    · walk_at "go"
      intro l hl
      generalize hL : upd H1 l _ = HL
      obtain ⟨sm, hl2⟩ := new_at hl hL
      have K2 := k1.same sm
      have A2 := K2.hand
      refine ⟨_, _, _, rfl, A2, A1.ne hl, hl2, by decide, by decide, fun j v H3 hj k3 => ?_⟩
      obtain ⟨i, rfl, i1, i2⟩ : ∃ i : Int, v = .int i ∧ 1 ≤ i ∧ i ≤ 2147483646 := by
        have hm := List.mem_of_getElem? hj
        simp only [List.mem_cons, List.not_mem_nil, or_false] at hm
        rcases hm with rfl | rfl | rfl | rfl | rfl <;> exact ⟨_, rfl, by decide, by decide⟩
      exact q _ _ i1 i2 (K2.trans k3)
    · walk_at "go"
      intro r2 H2 r20 r21 k2
      have A2 := k2.hand
      walk_at "go"
      intro r3 H3 r30 r31 k3
      walk_at "go"
      exact q _ _ (by omega) (by omega) ((k1.trans k2).trans k3)
end

end K01

set_option Elab.async false
set_option linter.all false
set_option maxRecDepth 100000
set_option maxHeartbeats 4000000
namespace K01
open PySem PySem.Spec PyProof.Rows L2 He Gw
local macro_rules | `(tactic| walk_at "side") => `(tactic| (first | (with_reducible assumption) | ((with_reducible show _ ≤ sizeLine); exact sz_b rfl) | (show (_ : Int) < (_ : Int); first | decide | omega) | (show (0 : Int) < _; first | decide | omega) | exact ⟨by decide, by decide⟩ | exact ⟨by decide, by decide, by decide⟩ | exact ⟨by omega, by omega⟩ | exact .inl ⟨by omega, by omega⟩ | exact .inr ⟨by omega, by omega⟩))
local macro_rules | `(tactic| walk_at "isi") => `(tactic| (first
  | (refine ei_int (by assumption) ?_)
  | (refine ei_bool (by assumption) ?_)
  | (refine ei_str (by assumption) ?_)
  | (refine ei_tuple (by assumption) ?_)
  | (refine ei_list (by assumption) ?_)
  | (refine ei_dict (by assumption) ?_)))
local macro_rules | `(tactic| walk_at "g1") => `(tactic| (first
  | ((with_reducible refine And.intro ?c ?r); (case c => walk_at "side"))
  | refine ⟨_, rfl, ?_⟩
  | (refine ⟨_, ?xs, rfl, .inl (SqL.of ?h), ?r⟩; (case h => with_reducible assumption))
  | (refine ⟨_, ?xs, rfl, .inr (SqT.of ?h), ?r⟩; (case h => with_reducible assumption))
  | (refine ⟨_, ?xs, _, ?v, rfl, rfl, SqL.of ?h, ?e, ?r⟩; (case h => with_reducible assumption); (case e => first | exact rfl | (with_reducible assumption)))
  | (refine ⟨_, ?xs, _, ?j, rfl, rfl, ?h, ?e, ?r⟩; (case h => with_reducible assumption); (case e => first | exact rfl | (with_reducible assumption)))
  | refine ⟨_, _, rfl, rfl, ?_⟩
  | refine .inl ⟨_, rfl, ?_⟩
  | refine ⟨rfl, ?_⟩
  | walk_at "isi"
  | refine ⟨_, _, rfl, ?_⟩
  | refine ⟨_, _, _, rfl, ?_⟩
  | (refine And.intro ?c ?r; (case c => walk_at "side"))))
local macro_rules | `(tactic| walk_at "go") => `(tactic| repeat walk_at "g1")
section
variable {P : Program} {w : World} {K : PySem.W.Frag} {mg : Str → Option Value} {base : Heap}
theorem ok_l_is_integer (T : Txt K mg) : okAt P w K mg base CX0 1 "_law_is_integer" ["_law_thing"] spPlain := by
  refine T.d_l_is_integer.F.ok sc_l_is_integer (fun vs H Q E h => ?_) (fun cdv A outer s H vs Q E hr h => ?_)
  · obtain ⟨_, rfl, _⟩ := h
    rfl
  · obtain ⟨v, rfl, W, q⟩ := h
    refine ⟨_, (PSs.nox (pss_one (ps_ret (pe_and (pe_callB call_isi (by rfl) T.b_isinstance (by decide +kernel) (pa_cons (pv 0) (pa_cons (pe_ty "int" T.b_int) pa_nil))) (pe_one (pe_not (pe_callB call_isi (by rfl) T.b_isinstance (by decide +kernel) (pa_cons (pv 0) (pa_cons (pe_ty "bool" T.b_bool) pa_nil))))))))), ?_⟩
    walk_at "go"
    refine ite2 (fun e => ?_) (fun e => ?_)
    · walk_at "go"
      cases W <;> first | exact q | cases e
    · cases W <;> first | exact q | exact absurd rfl e
theorem ok_l_is_within (T : Txt K mg) : okAt P w K mg base CX0 2 "_law_is_within" ["_law_thing", "_law_least", "_law_most"] spWithin := by
  have G_l_is_integer : okAt P w K mg base CX0 1 "_law_is_integer" ["_law_thing"] spPlain := ok_l_is_integer T
  refine T.d_l_is_within.F.ok sc_l_is_within (fun vs H Q E h => ?_) (fun cdv A outer s H vs Q E hr h => ?_)
  · obtain ⟨_, _, _, rfl, _⟩ := h
    rfl
  · obtain ⟨a, b, v, rfl, W, q⟩ := h
    refine ⟨_, (PSs.nox (pss_one (ps_ret (pe_and (pc T.d_l_is_integer G_l_is_integer (hr.mono (by decide)) (pa_cons (pv 0) pa_nil)) (pe_and (pe_cmpR op_le (pv 1) (pv 0) (nomark _)) (pe_one (pe_cmpR op_le (pv 0) (pv 2) (nomark _)))))))), ?_⟩
    walk_at "go"
    refine ite2 (fun e => ?_) (fun e => ?_)
    · cases W <;> try cases e
      rename_i i
      have q' : Q (.bl (decide (a ≤ i) && decide (i ≤ b))) H := q
      walk_at "go"
      refine ite2 (fun e => ?_) (fun e => ?_)
      · walk_at "go"
        rw [e] at q'
        exact q'
      · rw [Bool.eq_false_iff.mpr e] at q'
        exact q'
    · cases W <;> first | exact q | exact absurd rfl e
theorem ok_l_same_step (T : Txt K mg) {k n : Nat} (G_l_same : okAt P w K mg base CX0 (k + 1) "_law_same" ["_law_actual", "_law_due"] (spSameB n)) : okAt P w K mg base CX0 (k + 2) "_law_same" ["_law_actual", "_law_due"] (spSameB (n + 1)) := by
  have G_l_is_integer : okAt P w K mg base CX0 1 "_law_is_integer" ["_law_thing"] spPlain := ok_l_is_integer T
  refine T.d_l_same.F.ok sc_l_same (fun vs H Q E h => ?_) (fun cdv A outer s H vs Q E hr h => ?_)
  · obtain ⟨_, _, rfl, _⟩ := h
    rfl
  · obtain ⟨v, u, rfl, S, q⟩ := h
    refine ⟨_, (PSs.nox (pss_cons (ps_if (pt_cmpR op_isN (pv 1) pe_non (nomark _)) (pss_one (ps_ret (pe_cmpR op_isN (pv 0) pe_non (nomark _)))) pss_nil)
      (pss_cons (ps_if (pt_cmpR op_isC (pv 1) pe_bl (nomark _)) (pss_one (ps_ret (pe_cmpR op_isC (pv 0) pe_bl (nomark _)))) pss_nil)
      (pss_cons (ps_if (pt_cmpR op_isC (pv 1) pe_bl (nomark _)) (pss_one (ps_ret (pe_cmpR op_isC (pv 0) pe_bl (nomark _)))) pss_nil)
      (pss_cons (ps_if (pt_val (pe_callB call_isi (by rfl) T.b_isinstance (by decide +kernel) (pa_cons (pv 1) (pa_cons (pe_ty "int" T.b_int) pa_nil)))) (pss_one (ps_ret (pe_and (pc T.d_l_is_integer G_l_is_integer (hr.mono (by omega)) (pa_cons (pv 0) pa_nil)) (pe_one (pe_cmpR op_eq (pv 0) (pv 1) (nomark _)))))) pss_nil)
      (pss_cons (ps_if (pt_val (pe_callB call_isi (by rfl) T.b_isinstance (by decide +kernel) (pa_cons (pv 1) (pa_cons (pe_ty "str" T.b_str) pa_nil)))) (pss_one (ps_ret (pe_and (pe_callB call_isi (by rfl) T.b_isinstance (by decide +kernel) (pa_cons (pv 0) (pa_cons (pe_ty "str" T.b_str) pa_nil))) (pe_one (pe_cmpR op_eq (pv 0) (pv 1) (nomark _)))))) pss_nil)
      (pss_cons (ps_if (PW.pt (pw_or (pt_cmpR op_ne (pe_callB call_isi (by rfl) T.b_isinstance (by decide +kernel) (pa_cons (pv 1) (pa_cons (pe_ty "tuple" T.b_tuple) pa_nil))) (pe_callB call_isi (by rfl) T.b_isinstance (by decide +kernel) (pa_cons (pv 0) (pa_cons (pe_ty "tuple" T.b_tuple) pa_nil))) (nomark _)) (pw_or1 (pt_cmpR op_ne (pe_callB call_isi (by rfl) T.b_isinstance (by decide +kernel) (pa_cons (pv 1) (pa_cons (pe_ty "list" T.b_list) pa_nil))) (pe_callB call_isi (by rfl) T.b_isinstance (by decide +kernel) (pa_cons (pv 0) (pa_cons (pe_ty "list" T.b_list) pa_nil))) (nomark _))))) (pss_one (ps_ret pe_bl)) pss_nil)
      (pss_cons (ps_if (pt_cmpR op_ne (pe_callB call_len_seq (by rfl) T.b_len PySem.boot_len (pa_cons (pv 0) pa_nil)) (pe_callB call_len_seq (by rfl) T.b_len PySem.boot_len (pa_cons (pv 1) pa_nil)) (nomark _)) (pss_one (ps_ret pe_bl)) pss_nil)
      (pss_cons (ps_for PassesOwn.never rfl (RZ.pi_zipA (by rfl) T.b_zip (pa_cons (pv 0) (pa_cons (pv 1) pa_nil))) (pg_tup (by rfl) (pgs_cons (pg_name (i := 2) sc_l_same.nd rfl (.inl rfl)) (pgs_cons (pg_name (i := 3) sc_l_same.nd rfl (.inl rfl)) pgs_nil))) (pss_one (ps_if (pt_not (pt_val (pc T.d_l_same G_l_same (hr.mono (by omega)) (pa_cons (pv 2) (pa_cons (pv 3) pa_nil))))) (pss_one (ps_ret pe_bl)) pss_nil)))
      (pss_one (ps_ret pe_bl))))))))))), ?_⟩
    obtain ⟨W, Wu⟩ := Sm.wt S
    have S2 : (v = u ∧ (isI u || isS u || isN u || isB u) = true) ∨ ∃ a b xs ys, v = .ref a ∧ u = .ref b ∧ H a = some (.tup xs) ∧ H b = some (.tup ys) ∧ xs.length = ys.length ∧ ∀ (i : Nat) x y, xs[i]? = some x → ys[i]? = some y → SmB H n x y := by
      cases n with
      | zero => exact .inl S
      | succ n => exact S
    have qH := q H (Same.refl H)
    rcases S2 with ⟨rfl, fl⟩ | ⟨a, b, xs, ys, rfl, rfl, ha, hb, hl, hs⟩
    · cases v <;> try cases fl
      · walk_at "go"
        exact qH
      · rename_i b
        cases b
        · walk_at "go"
          exact qH
        · walk_at "go"
          exact qH
      · rename_i i
        have e : decide (V.int i = V.int i) = true := decide_eq_true rfl
        walk_at "go"
        rw [e]
        exact qH
      · rename_i x
        have e : decide (V.str x = V.str x) = true := decide_eq_true rfl
        walk_at "go"
        rw [e]
        exact qH
    · have ea := isT_tup ha
      have eb := isT_tup hb
      have la := isL_tup ha
      have lb := isL_tup hb
      walk_at "go"
      rw [eb]
      walk_at "go"
      rw [ea]
      walk_at "go"
      rw [la, lb]
      walk_at "go"
      refine iteNS (congrArg (fun m : Nat => V.int (m : Int)) hl) ?_
      walk_at "go"
      refine ⟨a, b, xs, ys, rfl, .inr ⟨SqT.of ha, SqT.of hb, ?_⟩⟩
      refine RZ.for_zipT hl (fun i σ' H2 => ∃ o1 o2, σ' = [some (.ref a), some (.ref b), o1, o2] ∧ Same H H2) ⟨_, _, rfl, Same.refl H⟩ (fun i σ' H2 z => ?_) (fun i x y t σ' H2 hx hy z ht => ?_) (fun σ' H2 z => ?_)
      · obtain ⟨o1, o2, rfl, sm⟩ := z
        exact ⟨SqT.of (sm _ _ ha), SqT.of (sm _ _ hb)⟩
      · obtain ⟨o1, o2, rfl, sm⟩ := z
        have s3 := (hs i x y hx hy).same (sm.trans (Same.new (o := .tup [x, y]) ht))
        refine ⟨t, [x, y], rfl, SqT.of upd_same, rfl, x, [y], rfl, y, [], rfl, rfl, ?_⟩
        walk_at "go"
        intro H3 sm3
        walk_at "go"
        exact (sm.trans (Same.new ht)).trans sm3
      · obtain ⟨o1, o2, rfl, sm⟩ := z
        walk_at "go"
        exact q H2 sm
theorem ok_l_same (T : Txt K mg) : ∀ n, okAt P w K mg base CX0 (n + 1) "_law_same" ["_law_actual", "_law_due"] (spSameB n)
  | 0 => ⟨fun _ _ _ _ h => by obtain ⟨_, _, _, h, _⟩ := h; exact h.elim, fun _ _ _ _ _ _ _ _ _ _ _ _ _ h => by obtain ⟨_, _, _, h, _⟩ := h; exact h.elim⟩
  | n + 1 => ok_l_same_step T (k := n) (ok_l_same T n)
end

end K01

set_option Elab.async false
set_option linter.all false
set_option maxRecDepth 100000
set_option maxHeartbeats 4000000
namespace K01
open PySem PySem.Spec PyProof.Rows L2 He Gw
local macro_rules | `(tactic| walk_at "side") => `(tactic| (first | (with_reducible assumption) | ((with_reducible show _ ≤ sizeLine); exact sz_b rfl) | (show (_ : Int) < (_ : Int); first | decide | omega) | (show (0 : Int) < _; first | decide | omega) | exact ⟨by decide, by decide⟩ | exact ⟨by decide, by decide, by decide⟩ | exact ⟨by omega, by omega⟩ | exact .inl ⟨by omega, by omega⟩ | exact .inr ⟨by omega, by omega⟩))
local macro_rules | `(tactic| walk_at "isi") => `(tactic| (first
  | (refine ei_int (by assumption) ?_)
  | (refine ei_bool (by assumption) ?_)
  | (refine ei_str (by assumption) ?_)
  | (refine ei_tuple (by assumption) ?_)
  | (refine ei_list (by assumption) ?_)
  | (refine ei_dict (by assumption) ?_)))
local macro_rules | `(tactic| walk_at "g1") => `(tactic| (first
  | ((with_reducible refine And.intro ?c ?r); (case c => walk_at "side"))
  | refine ⟨_, rfl, ?_⟩
  | (refine ⟨_, ?xs, rfl, .inl (SqL.of ?h), ?r⟩; (case h => with_reducible assumption))
  | (refine ⟨_, ?xs, rfl, .inr (SqT.of ?h), ?r⟩; (case h => with_reducible assumption))
  | (refine ⟨_, ?xs, _, ?v, rfl, rfl, SqL.of ?h, ?e, ?r⟩; (case h => with_reducible assumption); (case e => first | exact rfl | (with_reducible assumption)))
  | (refine ⟨_, ?xs, _, ?j, rfl, rfl, ?h, ?e, ?r⟩; (case h => with_reducible assumption); (case e => first | exact rfl | (with_reducible assumption)))
  | refine ⟨_, _, rfl, rfl, ?_⟩
  | refine .inl ⟨_, rfl, ?_⟩
  | refine ⟨rfl, ?_⟩
  | walk_at "isi"
  | refine ⟨_, _, rfl, ?_⟩
  | refine ⟨_, _, _, rfl, ?_⟩
  | (refine And.intro ?c ?r; (case c => walk_at "side"))))
local macro_rules | `(tactic| walk_at "go") => `(tactic| repeat walk_at "g1")
section
variable {P : Program} {w : World} {K : PySem.W.Frag} {mg : Str → Option Value} {base : Heap}
theorem ok_l_odd (T : Txt K mg) : okAt P w K mg base CX0 2 "_law_odd" ["_law_hand_here"] spOdd := by
  have G_l_take : okAt P w K mg base CX0 1 "_law_take" ["_law_hand_here", "_law_many"] spTake := ok_l_take T
  refine T.d_l_odd.F.ok sc_l_odd (fun vs H Q E h => ?_) (fun cdv A outer s H vs Q E hr h => ?_)
  · obtain ⟨_, rfl, _⟩ := h
    rfl
  · obtain ⟨h, rfl, A, q⟩ := h
    refine ⟨_, (PSs.nox (pss_cons (ps_set (i := 1) sc_l_odd.nd rfl (.inl rfl) (pc T.d_l_take G_l_take (hr.mono (by decide)) (pa_cons (pv 0) (pa_cons pe_int pa_nil))))
      (pss_cons (ps_if (pt_cmpR op_lt (pv 1) pe_int (nomark _)) (pss_one (ps_ret (pe_ix ix_list (pe_lst (pa_cons pe_non (pa_cons pe_bl (pa_cons pe_bl (pa_cons pe_str (pa_cons pe_str (pa_cons pe_str pa_nil))))))) (pv 1) (fun _ _ => rfl)))) pss_nil)
      (pss_cons (ps_if (pt_cmpR op_lt (pv 1) pe_int (nomark _)) (pss_one (ps_ret (pe_ix ix_list (pe_lst (pa_cons (pe_tup pa_nil) (pa_cons (pe_lst pa_nil) (pa_cons pe_dnewK (pa_cons (pe_tup (pa_cons pe_int pa_nil)) (pa_cons (pe_lst (pa_cons pe_int pa_nil)) (pa_cons (pe_tup (pa_cons (pe_tup pa_nil) pa_nil)) pa_nil))))))) (pe_op op_sub (pv 1) pe_int) (fun _ _ => rfl)))) pss_nil)
      (pss_cons (ps_if (pt_cmpR op_lt (pv 1) pe_int (nomark _)) (pss_one (ps_ret (pe_ix ix_list (pe_lst (pa_cons (pe_un un_neg pe_int) (pa_cons pe_int (pa_cons (pe_un un_neg pe_int) (pa_cons (pe_op op_sub (pe_op op_pow pe_int pe_int) pe_int) (pa_cons (pe_op op_sub pe_int (pe_op op_pow pe_int pe_int)) (pa_cons pe_int pa_nil))))))) (pe_op op_sub (pv 1) pe_int) (fun _ _ => rfl)))) pss_nil)
      (pss_cons (ps_if (pt_cmpR op_eq (pv 1) pe_int (nomark _)) (pss_one (ps_ret (pe_lst (pa_cons (pe_op op_mulS pe_str pe_int) (pa_cons (pe_tup (pa_cons pe_non (pa_cons pe_int pa_nil))) pa_nil))))) pss_nil)
      (pss_one (ps_ret (pe_disp (pps_cons pe_str (pe_tup pa_nil) pps_nil) (by rfl) (by rfl) (fun z => by cases z) (by decide)))))))))), ?_⟩
    walk_at "go"
    intro r H1 r0 r1 k1
    have A1 := k1.hand
    have nr : ∀ p, H1 p = none → Off h (.ref p) := fun p hp z => A1.ne hp (V.ref.inj z)
    walk_at "go"
    refine ite2 (fun e => ?_) (fun e => ?_)
    · have e1 : r < 6 := of_decide_eq_true (show decide _ = true from e)
      walk_at "go"
      intro l hl
      generalize hL : upd H1 l _ = HL
      obtain ⟨sm, hl2⟩ := new_at hl hL
      have K2 := k1.same sm
      have cs : r = 0 ∨ r = 1 ∨ r = 2 ∨ r = 3 ∨ r = 4 ∨ r = 5 := by omega
      rcases cs with rfl | rfl | rfl | rfl | rfl | rfl
      all_goals
        walk_at "go"
        refine q _ _ ?_ (fun z => nomatch z) (fun _ z => nomatch z) K2
        first | exact .non | exact .bl _ | exact .str _
    · walk_at "go"
      refine ite2 (fun e => ?_) (fun e => ?_)
      · have e0 : ¬ r < 6 := of_decide_eq_false (show decide _ = false from Bool.eq_false_iff.mpr (by assumption))
        have e1 : r < 12 := of_decide_eq_true (show decide _ = true from e)
        walk_at "go"
        intro p0 hp0
        generalize hP0 : upd H1 p0 _ = G0
        obtain ⟨sm0, hq0⟩ := new_at hp0 hP0
        clear hP0
        walk_at "go"
        intro p1 hp1
        generalize hP1 : upd G0 p1 _ = G1
        obtain ⟨sm1, hq1⟩ := new_at hp1 hP1
        clear hP1
        walk_at "go"
        intro p2 hp2
        generalize hP2 : upd G1 p2 _ = G2
        obtain ⟨sm2, hq2⟩ := new_at hp2 hP2
        clear hP2
        walk_at "go"
        intro p3 hp3
        generalize hP3 : upd G2 p3 _ = G3
        obtain ⟨sm3, hq3⟩ := new_at hp3 hP3
        clear hP3
        walk_at "go"
        intro p4 hp4
        generalize hP4 : upd G3 p4 _ = G4
        obtain ⟨sm4, hq4⟩ := new_at hp4 hP4
        clear hP4
        walk_at "go"
        intro p5 hp5
        generalize hP5 : upd G4 p5 _ = G5
        obtain ⟨sm5, hq5⟩ := new_at hp5 hP5
        clear hP5
        walk_at "go"
        intro p6 hp6
        generalize hP6 : upd G5 p6 _ = G6
        obtain ⟨sm6, hq6⟩ := new_at hp6 hP6
        clear hP6
        walk_at "go"
        intro p7 hp7
        generalize hP7 : upd G6 p7 _ = G7
        obtain ⟨sm7, hq7⟩ := new_at hp7 hP7
        clear hP7
        have sF : Same H1 G7 := (((((((sm0.trans sm1).trans sm2).trans sm3).trans sm4).trans sm5).trans sm6).trans sm7)
        have K2 := k1.same sF
        have f0 := ((((((sm1.trans sm2).trans sm3).trans sm4).trans sm5).trans sm6).trans sm7) _ _ hq0
        have f1 := (((((sm2.trans sm3).trans sm4).trans sm5).trans sm6).trans sm7) _ _ hq1
        have f2 := ((((sm3.trans sm4).trans sm5).trans sm6).trans sm7) _ _ hq2
        have f3 := (((sm4.trans sm5).trans sm6).trans sm7) _ _ hq3
        have f4 := ((sm5.trans sm6).trans sm7) _ _ hq4
        have f5 := (sm6.trans sm7) _ _ hq5
        have f6 := sm7 _ _ hq6
        have n0 := nr p0 hp0
        have n1 := nr p1 (sm0.free hp1)
        have n2 := nr p2 ((sm0.trans sm1).free hp2)
        have n3 := nr p3 (((sm0.trans sm1).trans sm2).free hp3)
        have n4 := nr p4 ((((sm0.trans sm1).trans sm2).trans sm3).free hp4)
        have n6 := nr p6 ((((((sm0.trans sm1).trans sm2).trans sm3).trans sm4).trans sm5).free hp6)
        have cs : r = 6 ∨ r = 7 ∨ r = 8 ∨ r = 9 ∨ r = 10 ∨ r = 11 := by omega
        rcases cs with rfl | rfl | rfl | rfl | rfl | rfl
        · walk_at "go"
          exact q _ _ (.tup f0) n0 (fun _ z => nomatch z) K2
        · walk_at "go"
          exact q _ _ (.lst f1) n1 (fun _ z => nomatch z) K2
        · walk_at "go"
          exact q _ _ (.dct f2) n2 (fun _ z => nomatch z) K2
        · walk_at "go"
          exact q _ _ (.tup f3) n3 (fun _ z => nomatch z) K2
        · walk_at "go"
          exact q _ _ (.lst f4) n4 (fun _ z => nomatch z) K2
        · walk_at "go"
          exact q _ _ (.tup f6) n6 (fun _ z => nomatch z) K2
      · walk_at "go"
        refine ite2 (fun e => ?_) (fun e => ?_)
        · have e0 : ¬ r < 12 := of_decide_eq_false (show decide _ = false from Bool.eq_false_iff.mpr (by assumption))
          have e1 : r < 18 := of_decide_eq_true (show decide _ = true from e)
          walk_at "go"
          intro l hl
          generalize hL : upd H1 l _ = HL
          obtain ⟨sm, hl2⟩ := new_at hl hL
          have K2 := k1.same sm
          have cs : r = 12 ∨ r = 13 ∨ r = 14 ∨ r = 15 ∨ r = 16 ∨ r = 17 := by omega
          rcases cs with rfl | rfl | rfl | rfl | rfl | rfl
          all_goals
            walk_at "go"
            refine q _ _ (.int _) (fun z => nomatch z) (fun i z => ?_) K2
            have z' := V.int.inj z
            subst z'
            decide
        · walk_at "go"
          refine ite2 (fun e => ?_) (fun e => ?_)
          · refine ⟨⟨#[46]⟩, 3, rfl, rfl, ⟨by decide, fun _ _ => by decide, fun _ _ => by decide⟩, ?_⟩
            walk_at "go"
            intro p0 hp0
            generalize hP0 : upd H1 p0 _ = G0
            obtain ⟨sm0, hq0⟩ := new_at hp0 hP0
            clear hP0
            walk_at "go"
            intro p1 hp1
            generalize hP1 : upd G0 p1 _ = G1
            obtain ⟨sm1, hq1⟩ := new_at hp1 hP1
            exact q _ _ (.lst hq1) (nr p1 (sm0.free hp1)) (fun _ z => nomatch z) (k1.same (sm0.trans sm1))
          · intro p0 hp0
            generalize hP0 : upd H1 p0 _ = G0
            obtain ⟨sm0, hq0⟩ := new_at hp0 hP0
            clear hP0
            walk_at "go"
            intro p1 hp1
            generalize hP1 : upd G0 p1 _ = G1
            obtain ⟨sm1, hq1⟩ := new_at hp1 hP1
            refine ⟨sm1 _ _ hq0, [((Sum.inr "tick" : Key), V.ref p1)], rfl, Nat.le_of_ble_eq_true rfl, ?_⟩
            exact q _ _ (.dct upd_same) (nr p0 hp0) (fun _ z => nomatch z) (k1.same (same_mut (sm0.trans sm1) hp0))
end

end K01

set_option Elab.async false
set_option linter.all false
set_option maxRecDepth 100000
set_option maxHeartbeats 4000000
namespace K01
open PySem PySem.Spec PyProof.Rows L2 He Gw
local macro_rules | `(tactic| walk_at "side") => `(tactic| (first | (with_reducible assumption) | ((with_reducible show _ ≤ sizeLine); exact sz_b rfl) | (show (_ : Int) < (_ : Int); first | decide | omega) | (show (0 : Int) < _; first | decide | omega) | exact ⟨by decide, by decide⟩ | exact ⟨by decide, by decide, by decide⟩ | exact ⟨by omega, by omega⟩ | exact .inl ⟨by omega, by omega⟩ | exact .inr ⟨by omega, by omega⟩))
local macro_rules | `(tactic| walk_at "isi") => `(tactic| (first
  | (refine ei_int (by assumption) ?_)
  | (refine ei_bool (by assumption) ?_)
  | (refine ei_str (by assumption) ?_)
  | (refine ei_tuple (by assumption) ?_)
  | (refine ei_list (by assumption) ?_)
  | (refine ei_dict (by assumption) ?_)))
local macro_rules | `(tactic| walk_at "g1") => `(tactic| (first
  | ((with_reducible refine And.intro ?c ?r); (case c => walk_at "side"))
  | refine ⟨_, rfl, ?_⟩
  | (refine ⟨_, ?xs, rfl, .inl (SqL.of ?h), ?r⟩; (case h => with_reducible assumption))
  | (refine ⟨_, ?xs, rfl, .inr (SqT.of ?h), ?r⟩; (case h => with_reducible assumption))
  | (refine ⟨_, ?xs, _, ?v, rfl, rfl, SqL.of ?h, ?e, ?r⟩; (case h => with_reducible assumption); (case e => first | exact rfl | (with_reducible assumption)))
  | (refine ⟨_, ?xs, _, ?j, rfl, rfl, ?h, ?e, ?r⟩; (case h => with_reducible assumption); (case e => first | exact rfl | (with_reducible assumption)))
  | refine ⟨_, _, rfl, rfl, ?_⟩
  | refine .inl ⟨_, rfl, ?_⟩
  | refine ⟨rfl, ?_⟩
  | walk_at "isi"
  | refine ⟨_, _, rfl, ?_⟩
  | refine ⟨_, _, _, rfl, ?_⟩
  | (refine And.intro ?c ?r; (case c => walk_at "side"))))
local macro_rules | `(tactic| walk_at "go") => `(tactic| repeat walk_at "g1")
section
variable {P : Program} {w : World} {K : PySem.W.Frag} {mg : Str → Option Value} {base : Heap}
theorem ok_l_power (T : Txt K mg) : okAt P w K mg base CX0 1 "_law_power" ["_law_many"] spPower := by
  refine T.d_l_power.F.ok sc_l_power (fun vs H Q E h => ?_) (fun cdv A outer s H vs Q E hr h => ?_)
  · obtain ⟨_, rfl, _⟩ := h
    rfl
  · obtain ⟨n, rfl, n0, n1, q⟩ := h
    refine ⟨_, (PSs.nox (pss_cons (ps_set (i := 1) sc_l_power.nd rfl (.inl rfl) pe_int)
      (pss_cons (ps_for PassesOwn.never rfl (pi_str (pe_callTy call_str_int (by rfl) T.b_str (by decide +kernel) (pa_cons (pv 0) pa_nil))) (pg_name (i := 2) sc_l_power.nd rfl (.inl rfl)) (pss_cons (ps_set (i := 3) sc_l_power.nd rfl (.inl rfl) (pe_op op_mod (pe_callTy call_int1 (by rfl) T.b_int (by decide +kernel) (pa_cons (pe_op op_mul (pv 1) (pv 1)) pa_nil)) pe_int))
      (pss_cons (ps_set (i := 4) sc_l_power.nd rfl (.inl rfl) (pe_op op_mod (pe_callTy call_int1 (by rfl) T.b_int (by decide +kernel) (pa_cons (pe_op op_mul (pv 3) (pv 3)) pa_nil)) pe_int))
      (pss_cons (ps_set (i := 5) sc_l_power.nd rfl (.inl rfl) (pe_op op_mod (pe_callTy call_int1 (by rfl) T.b_int (by decide +kernel) (pa_cons (pe_op op_mul (pv 4) (pv 4)) pa_nil)) pe_int))
      (pss_cons (ps_set (i := 1) sc_l_power.nd rfl (.inl rfl) (pe_op op_mod (pe_callTy call_int1 (by rfl) T.b_int (by decide +kernel) (pa_cons (pe_op op_mul (pv 5) (pv 3)) pa_nil)) pe_int))
      (pss_one (ps_for PassesOwn.never rfl (pi_range1 (by rfl) T.b_range (pa_cons (pe_callTy call_int_str (by rfl) T.b_int (by decide +kernel) (pa_cons (pv 2) pa_nil)) pa_nil)) (pg_name (i := 6) sc_l_power.nd rfl (.inl rfl)) (pss_one (ps_set (i := 1) sc_l_power.nd rfl (.inl rfl) (pe_op op_mod (pe_callTy call_int1 (by rfl) T.b_int (by decide +kernel) (pa_cons (pe_op op_mul (pv 1) pe_int) pa_nil)) pe_int))))))))))
      (pss_one (ps_ret (pv 1)))))), ?_⟩
    obtain ⟨m, rfl⟩ : ∃ m : Nat, n = (m : Int) := ⟨n.toNat, by omega⟩
    walk_at "go"
    refine ⟨log_small n0 n1, ?_⟩
    walk_at "go"
    refine for_str (fun i σ' H' => ∃ y2 y3 y4 y5 y6, σ' = [some (.int (m : Int)), some (.int (pwI (PySem.NumText.digitsVal ((PySem.Str.ofString (toString (m : Int))).cps.toList.take i)))), y2, y3, y4, y5, y6] ∧ H' = H) ⟨none, none, none, none, none, (by rw [List.take_zero, show PySem.NumText.digitsVal [] = 0 from rfl, pwI_zero]; rfl), rfl⟩ (fun i c σ' H' hc z => ?_) (fun σ' H' z => ?_)
    · obtain ⟨y2, y3, y4, y5, y6, rfl, rfl⟩ := z
      have dc := num_digit hc
      have tv := take_val hc
      generalize PySem.NumText.digitsVal ((PySem.Str.ofString (toString (m : Int))).cps.toList.take i) = v at tv ⊢
      have b1 := pwI_bounds v
      have b2 := pwI_bounds (2 * v)
      have b4 := pwI_bounds (4 * v)
      have b8 := pwI_bounds (8 * v)
      have e2 : pwI v * pwI v % 2147483647 = pwI (2 * v) := pw_sq v
      have e4 : pwI (2 * v) * pwI (2 * v) % 2147483647 = pwI (4 * v) := by rw [pw_sq]; congr 1; omega
      have e8 : pwI (4 * v) * pwI (4 * v) % 2147483647 = pwI (8 * v) := by rw [pw_sq]; congr 1; omega
      walk_at "go"
      refine ⟨_, _, rfl, digit_text dc, (by show 1 ≤ 640; decide), ?_⟩
      refine ⟨_, rfl, by omega, by omega, ?_⟩
      refine for_range (lo := 0) (n := (((c - 48 : Nat) : Int)).toNat) (fun j σ' H3 => ∃ y6, σ' = [some (.int (m : Int)), some (.int (pwI (10 * v + j))), some (.str ⟨#[c]⟩), some (.int (pwI (2 * v))), some (.int (pwI (4 * v))), some (.int (pwI (8 * v))), y6] ∧ H3 = H') ⟨y6, (by dsimp only [List.set]; rw [e2, e4, e8, pw_ten]; rfl), rfl⟩ (fun j σ2 H2 hj z => ?_) (fun σ2 H2 z => ?_)
      · obtain ⟨y6, rfl, rfl⟩ := z
        have bj := pwI_bounds (10 * v + j)
        walk_at "go"
        exact ⟨_, (by dsimp only [List.set]; rw [pw_next]; rfl), rfl⟩
      · obtain ⟨y6, rfl, rfl⟩ := z
        rw [tv]
        exact ⟨_, _, _, _, _, rfl, rfl⟩
    · obtain ⟨y2, y3, y4, y5, y6, rfl, rfl⟩ := z
      rw [List.take_length, num_val]
      walk_at "go"
      exact q
end

end K01

set_option Elab.async false
set_option linter.all false
set_option maxRecDepth 100000
set_option maxHeartbeats 4000000
namespace K01
open PySem PySem.Spec PyProof.Rows L2 He Gw
local macro_rules | `(tactic| walk_at "side") => `(tactic| (first | (with_reducible assumption) | ((with_reducible show _ ≤ sizeLine); exact sz_b rfl) | (show (_ : Int) < (_ : Int); first | decide | omega) | (show (0 : Int) < _; first | decide | omega) | exact ⟨by decide, by decide⟩ | exact ⟨by decide, by decide, by decide⟩ | exact ⟨by omega, by omega⟩ | exact .inl ⟨by omega, by omega⟩ | exact .inr ⟨by omega, by omega⟩))
local macro_rules | `(tactic| walk_at "isi") => `(tactic| (first
  | (refine ei_int (by assumption) ?_)
  | (refine ei_bool (by assumption) ?_)
  | (refine ei_str (by assumption) ?_)
  | (refine ei_tuple (by assumption) ?_)
  | (refine ei_list (by assumption) ?_)
  | (refine ei_dict (by assumption) ?_)))
local macro_rules | `(tactic| walk_at "g1") => `(tactic| (first
  | ((with_reducible refine And.intro ?c ?r); (case c => walk_at "side"))
  | refine ⟨_, rfl, ?_⟩
  | (refine ⟨_, ?xs, rfl, .inl (SqL.of ?h), ?r⟩; (case h => with_reducible assumption))
  | (refine ⟨_, ?xs, rfl, .inr (SqT.of ?h), ?r⟩; (case h => with_reducible assumption))
  | (refine ⟨_, ?xs, _, ?v, rfl, rfl, SqL.of ?h, ?e, ?r⟩; (case h => with_reducible assumption); (case e => first | exact rfl | (with_reducible assumption)))
  | (refine ⟨_, ?xs, _, ?j, rfl, rfl, ?h, ?e, ?r⟩; (case h => with_reducible assumption); (case e => first | exact rfl | (with_reducible assumption)))
  | refine ⟨_, _, rfl, rfl, ?_⟩
  | refine .inl ⟨_, rfl, ?_⟩
  | refine ⟨rfl, ?_⟩
  | walk_at "isi"
  | refine ⟨_, _, rfl, ?_⟩
  | refine ⟨_, _, _, rfl, ?_⟩
  | (refine And.intro ?c ?r; (case c => walk_at "side"))))
local macro_rules | `(tactic| walk_at "go") => `(tactic| repeat walk_at "g1")
section
variable {P : Program} {w : World} {K : PySem.W.Frag} {mg : Str → Option Value} {base : Heap}
theorem ok_l_wrapped (T : Txt K mg) : okAt P w K mg base CX0 5 "_law_wrapped" ["_law_thing"] (sp1 resW) := by
  have G_wrapped : okAt P w K mg base (L2.CX P w) 4 "wrapped" ["number"] (spWrapped K) := ok_wrapped T
  refine T.d_l_wrapped.F.ok sc_l_wrapped (fun vs H Q E h => ?_) (fun cdv A outer s H vs Q E hr h => ?_)
  · obtain ⟨_, rfl, _⟩ := h
    rfl
  · obtain ⟨v, rfl, W, q⟩ := h
    refine ⟨_, (PSs.nox (pss_one (ps_try_many (tb := _) (Wout := fun _ _ _ _ => False) rfl rfl takes0 (fun W pn xe tk tkP => (pss_one (ps_ret (pe_tup (pa_cons pe_str (pa_cons (pcS T.d_wrapped G_wrapped (hr.mono (by decide)) tk (pa_cons (pv 0) pa_nil)) pa_nil)))))) (HdsOk.cons ⟨by rfl, by decide, .inl T.g_NoNumber⟩ (fun a oe cls d pn hz hf => (pss_one (ps_ret (pe_tup (pa_cons pe_str pa_nil))))) HdsOk.nil)))), ?_⟩
    walk_at "go"
    refine ⟨fun i hi => ?_, fun hi => ?_⟩
    · subst hi
      walk_at "go"
      exact q
    · refine ⟨true, T.m_NoNumber_NoNumber, fun _ a ha => ?_, fun z => nomatch z⟩
      walk_at "go"
      have e : resW v = [.str "NoNumber"] := by cases v <;> first | rfl | cases hi
      rw [e] at q
      exact q
theorem ok_l_next (T : Txt K mg) : okAt P w K mg base CX0 5 "_law_next" ["_law_thing"] (sp1 resN) := by
  have G_next_seed : okAt P w K mg base (L2.CX P w) 4 "next_seed" ["seed"] (spNext K) := ok_next_seed T
  refine T.d_l_next.F.ok sc_l_next (fun vs H Q E h => ?_) (fun cdv A outer s H vs Q E hr h => ?_)
  · obtain ⟨_, rfl, _⟩ := h
    rfl
  · obtain ⟨v, rfl, W, q⟩ := h
    refine ⟨_, (PSs.nox (pss_one (ps_try_many (tb := _) (Wout := fun _ _ _ _ => False) rfl rfl takes0 (fun W pn xe tk tkP => (pss_one (ps_ret (pe_tup (pa_cons pe_str (pa_cons (pcS T.d_next_seed G_next_seed (hr.mono (by decide)) tk (pa_cons (pv 0) pa_nil)) pa_nil)))))) (HdsOk.cons ⟨by rfl, by decide, .inl T.g_NoSeed⟩ (fun a oe cls d pn hz hf => (pss_one (ps_ret (pe_tup (pa_cons pe_str pa_nil))))) HdsOk.nil)))), ?_⟩
    walk_at "go"
    refine ⟨fun i hi i1 i2 => ?_, fun hi => ?_⟩
    · subst hi
      walk_at "go"
      have e : resN (.int i) = [.str "told", .int (SI i 1)] := if_pos ⟨i1, i2⟩
      rw [e] at q
      exact q
    · refine ⟨true, T.m_NoSeed_NoSeed, fun _ a ha => ?_, fun z => nomatch z⟩
      walk_at "go"
      have e : resN v = [.str "NoSeed"] := by
        cases v <;> first | rfl | skip
        rename_i i
        refine if_neg (fun z => ?_)
        have hi' : (decide (1 ≤ i) && decide (i ≤ 2147483646)) = false := hi
        rw [decide_eq_true z.1, decide_eq_true z.2] at hi'
        cases hi'
      rw [e] at q
      exact q
theorem ok_l_after (T : Txt K mg) : okAt P w K mg base CX0 5 "_law_after" ["_law_seed_here", "_law_many"] (sp2 resA) := by
  have G_seed_after : okAt P w K mg base (L2.CX P w) 4 "seed_after" ["seed", "many"] (spAfter K) := ok_seed_after T
  refine T.d_l_after.F.ok sc_l_after (fun vs H Q E h => ?_) (fun cdv A outer s H vs Q E hr h => ?_)
  · obtain ⟨_, _, rfl, _⟩ := h
    rfl
  · obtain ⟨v, u, rfl, W, Wu, Bu, q⟩ := h
    refine ⟨_, (PSs.nox (pss_one (ps_try_many (tb := _) (Wout := fun _ _ _ _ => False) rfl rfl takes0 (fun W pn xe tk tkP => (pss_one (ps_ret (pe_tup (pa_cons pe_str (pa_cons (pcS T.d_seed_after G_seed_after (hr.mono (by decide)) tk (pa_cons (pv 0) (pa_cons (pv 1) pa_nil))) pa_nil)))))) (HdsOk.cons ⟨by rfl, by decide, .inl T.g_NoSeed⟩ (fun a oe cls d pn hz hf => (pss_one (ps_ret (pe_tup (pa_cons pe_str pa_nil))))) (HdsOk.cons ⟨by rfl, by decide, .inl T.g_NoNumber⟩ (fun a oe cls d pn hz hf => (pss_one (ps_ret (pe_tup (pa_cons pe_str pa_nil))))) HdsOk.nil))))), ?_⟩
    walk_at "go"
    unfold resA at q
    refine ⟨fun i n hi i1 i2 hn n0 => ?_, fun hi => ?_, fun hi hn => ?_⟩
    · subst hi hn
      have hv : seed (.int i) = true := by show (decide _ && decide _) = true; rw [decide_eq_true i1, decide_eq_true i2]; rfl
      have hu : nn (.int n) = true := decide_eq_true n0
      rw [if_pos hv, if_pos hu] at q
      walk_at "go"
      exact q
    · rw [if_neg (by rw [hi]; exact Bool.false_ne_true)] at q
      refine ⟨true, T.m_NoSeed_NoSeed, fun _ a ha => ?_, fun z => nomatch z⟩
      walk_at "go"
      exact q
    · rw [if_pos hi, if_neg (by rw [hn]; exact Bool.false_ne_true)] at q
      refine ⟨false, T.m_NoNumber_NoSeed, (fun z => nomatch z), fun _ => ⟨true, T.m_NoNumber_NoNumber, fun _ a ha => ?_, fun z => nomatch z⟩⟩
      walk_at "go"
      exact q
theorem ok_l_drawn (T : Txt K mg) : okAt P w K mg base CX0 6 "_law_drawn" ["_law_seed_here", "_law_below"] spDr := by
  have G_drawn : okAt P w K mg base (L2.CX P w) 5 "drawn" ["seed", "below"] (spDrawn K) := ok_drawn T
  refine T.d_l_drawn.F.ok sc_l_drawn (fun vs H Q E h => ?_) (fun cdv A outer s H vs Q E hr h => ?_)
  · obtain ⟨_, _, rfl, _⟩ := h
    rfl
  · obtain ⟨v, u, rfl, W, Wu, q, qS, qN⟩ := h
    refine ⟨_, (PSs.nox (pss_one (ps_try_many (tb := _) (Wout := fun _ _ _ _ => False) rfl rfl takes0 (fun W pn xe tk tkP => (pss_one (ps_ret (pe_tup (pa_cons pe_str (pa_cons (pcS T.d_drawn G_drawn (hr.mono (by decide)) tk (pa_cons (pv 0) (pa_cons (pv 1) pa_nil))) pa_nil)))))) (HdsOk.cons ⟨by rfl, by decide, .inl T.g_NoSeed⟩ (fun a oe cls d pn hz hf => (pss_one (ps_ret (pe_tup (pa_cons pe_str pa_nil))))) (HdsOk.cons ⟨by rfl, by decide, .inl T.g_NoNumber⟩ (fun a oe cls d pn hz hf => (pss_one (ps_ret (pe_tup (pa_cons pe_str pa_nil))))) HdsOk.nil))))), ?_⟩
    walk_at "go"
    refine ⟨fun i n hi i1 i2 hn n0 n1 p hp => ?_, fun hi => ?_, fun hi hn => ?_⟩
    · walk_at "go"
      exact fun r hr => q i n hi i1 i2 hn n0 n1 p r hp hr
    · refine ⟨true, T.m_NoSeed_NoSeed, fun _ a ha => ?_, fun z => nomatch z⟩
      walk_at "go"
      exact qS hi
    · refine ⟨false, T.m_NoNumber_NoSeed, (fun z => nomatch z), fun _ => ⟨true, T.m_NoNumber_NoNumber, fun _ a ha => ?_, fun z => nomatch z⟩⟩
      walk_at "go"
      exact qN hi hn
theorem ok_l_due_wrapped (T : Txt K mg) : okAt P w K mg base CX0 2 "_law_due_wrapped" ["_law_thing"] (sp1 resW) := by
  have G_l_is_integer : okAt P w K mg base CX0 1 "_law_is_integer" ["_law_thing"] spPlain := ok_l_is_integer T
  refine T.d_l_due_wrapped.F.ok sc_l_due_wrapped (fun vs H Q E h => ?_) (fun cdv A outer s H vs Q E hr h => ?_)
  · obtain ⟨_, rfl, _⟩ := h
    rfl
  · obtain ⟨v, rfl, W, q⟩ := h
    refine ⟨_, (PSs.nox (pss_cons (ps_if (pt_not (pt_val (pc T.d_l_is_integer G_l_is_integer (hr.mono (by decide)) (pa_cons (pv 0) pa_nil)))) (pss_one (ps_ret (pe_tup (pa_cons pe_str pa_nil)))) pss_nil)
      (pss_one (ps_ret (pe_tup (pa_cons pe_str (pa_cons (pe_op op_sub (pv 0) (pe_op op_mul pe_int (pe_op op_fdivW (pe_op op_add (pv 0) pe_int) pe_int))) pa_nil))))))), ?_⟩
    walk_at "go"
    refine ite2 (fun e => ?_) (fun e => ?_)
    · walk_at "go"
      have e2 : resW v = [.str "NoNumber"] := by cases v <;> first | rfl | cases e
      rw [e2] at q
      exact q
    · cases W <;> first | exact absurd rfl e | skip
      rename_i i
      have e2 : resW (.int i) = [.str "told", .int ((i + 2147483648) % 4294967296 - 2147483648)] := rfl
      have e3 : (i + 2147483648) % 4294967296 - 2147483648 = i - 4294967296 * ((i + 2147483648) / 4294967296) := by omega
      rw [e2, e3] at q
      walk_at "go"
      exact q
theorem ok_l_due_after (T : Txt K mg) : okAt P w K mg base CX0 3 "_law_due_after" ["_law_seed_here", "_law_many"] (sp2 resA) := by
  have G_l_power : okAt P w K mg base CX0 1 "_law_power" ["_law_many"] spPower := ok_l_power T
  have G_l_is_integer : okAt P w K mg base CX0 1 "_law_is_integer" ["_law_thing"] spPlain := ok_l_is_integer T
  have G_l_is_within : okAt P w K mg base CX0 2 "_law_is_within" ["_law_thing", "_law_least", "_law_most"] spWithin := ok_l_is_within T
  refine T.d_l_due_after.F.ok sc_l_due_after (fun vs H Q E h => ?_) (fun cdv A outer s H vs Q E hr h => ?_)
  · obtain ⟨_, _, rfl, _⟩ := h
    rfl
  · obtain ⟨v, u, rfl, W, Wu, Bu, q⟩ := h
    refine ⟨_, (PSs.nox (pss_cons (ps_if (pt_not (pt_val (pc T.d_l_is_within G_l_is_within (hr.mono (by decide)) (pa_cons (pv 0) (pa_cons pe_int (pa_cons pe_int pa_nil)))))) (pss_one (ps_ret (pe_tup (pa_cons pe_str pa_nil)))) pss_nil)
      (pss_cons (ps_if (PW.pt (pw_or (pt_not (pt_val (pc T.d_l_is_integer G_l_is_integer (hr.mono (by decide)) (pa_cons (pv 1) pa_nil)))) (pw_or1 (pt_cmpR op_lt (pv 1) pe_int (nomark _))))) (pss_one (ps_ret (pe_tup (pa_cons pe_str pa_nil)))) pss_nil)
      (pss_one (ps_ret (pe_tup (pa_cons pe_str (pa_cons (pe_op op_mod (pe_callTy call_int1 (by rfl) T.b_int (by decide +kernel) (pa_cons (pe_op op_mul (pv 0) (pc T.d_l_power G_l_power (hr.mono (by decide)) (pa_cons (pv 1) pa_nil))) pa_nil)) pe_int) pa_nil)))))))), ?_⟩
    walk_at "go"
    unfold resA at q
    refine ite2 (fun e => ?_) (fun e => ?_)
    · have e2 : seed v = false := by simpa using e
      rw [if_neg (by rw [e2]; exact Bool.false_ne_true)] at q
      walk_at "go"
      exact q
    · have e2 : seed v = true := by simpa using e
      obtain ⟨i, rfl, i1, i2⟩ := btw_int e2
      rw [if_pos e2] at q
      walk_at "go"
      refine ite2 (fun e3 => ?_) (fun e3 => ?_)
      · refine ite2 (fun _ => ?_) (fun z => absurd rfl z)
        have e4 : nn u = false := by cases u <;> first | rfl | cases e3
        rw [if_neg (by rw [e4]; exact Bool.false_ne_true)] at q
        walk_at "go"
        exact q
      · cases Wu <;> first | exact absurd rfl e3 | skip
        rename_i n
        walk_at "go"
        refine ite2 (fun e5 => ?_) (fun e5 => ?_)
        · have e4 : nn (.int n) = false := decide_eq_false (by have := of_decide_eq_true (show decide _ = true from e5); omega)
          rw [if_neg (by rw [e4]; exact Bool.false_ne_true)] at q
          walk_at "go"
          exact q
        · have n0 : 0 ≤ n := by have := of_decide_eq_false (show decide _ = false from Bool.eq_false_iff.mpr e5); omega
          have e4 : nn (.int n) = true := decide_eq_true n0
          rw [if_pos e4] at q
          have bn := (Bu n rfl).2
          walk_at "go"
          refine ⟨by omega, ?_⟩
          have pb := pwI_bounds n.toNat
          walk_at "go"
          have e6 : i * pwI n.toNat % 2147483647 = SI i n.toNat := by unfold SI; rfl
          have q2 : ∀ p, H p = none → Q (.ref p) (upd H p (.tup [.str "told", .int (i * pwI n.toNat % 2147483647)])) := by
            rw [e6]
            exact q
          exact q2
theorem ok_l_due_drawn (T : Txt K mg) : okAt P w K mg base CX0 3 "_law_due_drawn" ["_law_seed_here", "_law_below"] spDr := by
  have G_l_is_within : okAt P w K mg base CX0 2 "_law_is_within" ["_law_thing", "_law_least", "_law_most"] spWithin := ok_l_is_within T
  refine T.d_l_due_drawn.F.ok sc_l_due_drawn (fun vs H Q E h => ?_) (fun cdv A outer s H vs Q E hr h => ?_)
  · obtain ⟨_, _, rfl, _⟩ := h
    rfl
  · obtain ⟨v, u, rfl, W, Wu, q, qS, qN⟩ := h
    refine ⟨_, (PSs.nox (pss_cons (ps_if (pt_not (pt_val (pc T.d_l_is_within G_l_is_within (hr.mono (by decide)) (pa_cons (pv 0) (pa_cons pe_int (pa_cons pe_int pa_nil)))))) (pss_one (ps_ret (pe_tup (pa_cons pe_str pa_nil)))) pss_nil)
      (pss_cons (ps_if (pt_not (pt_val (pc T.d_l_is_within G_l_is_within (hr.mono (by decide)) (pa_cons (pv 1) (pa_cons (pe_un un_neg pe_int) (pa_cons pe_int pa_nil)))))) (pss_one (ps_ret (pe_tup (pa_cons pe_str pa_nil)))) pss_nil)
      (pss_cons (ps_if (pt_cmpR op_lt (pv 1) pe_int (nomark _)) (pss_one (ps_ret (pe_tup (pa_cons pe_str (pa_cons (pe_tup (pa_cons pe_int (pa_cons (pv 0) pa_nil))) pa_nil))))) pss_nil)
      (pss_cons (ps_set (i := 2) sc_l_due_drawn.nd rfl (.inl rfl) (pe_op op_mod (pe_callTy call_int1 (by rfl) T.b_int (by decide +kernel) (pa_cons (pe_op op_mul (pv 0) pe_int) pa_nil)) pe_int))
      (pss_one (ps_ret (pe_tup (pa_cons pe_str (pa_cons (pe_tup (pa_cons (pe_op op_mod (pe_callTy call_int1 (by rfl) T.b_int (by decide +kernel) (pa_cons (pe_op op_fdiv (pv 2) pe_int) pa_nil)) (pv 1)) (pa_cons (pv 2) pa_nil))) pa_nil)))))))))), ?_⟩
    walk_at "go"
    refine ite2 (fun e => ?_) (fun e => ?_)
    · have e2 : seed v = false := by simpa using e
      walk_at "go"
      exact qS e2
    · have e2 : seed v = true := by simpa using e
      obtain ⟨i, rfl, i1, i2⟩ := btw_int e2
      walk_at "go"
      refine ite2 (fun e3 => ?_) (fun e3 => ?_)
      · have e4 : small u = false := by simpa using e3
        walk_at "go"
        exact qN e2 e4
      · have e4 : small u = true := by simpa using e3
        obtain ⟨n, rfl, n1, n2⟩ := btw_int e4
        have qq := q i n rfl i1 i2 rfl n1 n2
        unfold drawnI at qq
        walk_at "go"
        refine ite2 (fun e5 => ?_) (fun e5 => ?_)
        · rw [if_pos (of_decide_eq_true (show decide _ = true from e5))] at qq
          walk_at "go"
          intro p hp
          walk_at "go"
          exact fun r hr => qq p r hp hr
        · have n3 := of_decide_eq_false (show decide _ = false from Bool.eq_false_iff.mpr e5)
          rw [if_neg n3, ← SI_one] at qq
          have n4 : 0 < n := by omega
          walk_at "go"
          intro p hp
          walk_at "go"
          exact fun r hr => qq p r hp hr
theorem ok_l_some (T : Txt K mg) : okAt P w K mg base CX0 3 "_law_some" ["_law_hand_here", "_law_right"] spSome := by
  have G_l_take : okAt P w K mg base CX0 1 "_law_take" ["_law_hand_here", "_law_many"] spTake := ok_l_take T
  have G_l_pick : okAt P w K mg base CX0 2 "_law_pick" ["_law_hand_here", "_law_things"] (spPick K) := ok_l_pick T
  have G_l_odd : okAt P w K mg base CX0 2 "_law_odd" ["_law_hand_here"] spOdd := ok_l_odd T
  refine T.d_l_some.F.ok sc_l_some (fun vs H Q E h => ?_) (fun cdv A outer s H vs Q E hr h => ?_)
  · obtain ⟨_, _, rfl, _⟩ := h
    rfl
  · obtain ⟨h, u, rfl, A, Wu, Ou, Bu, q⟩ := h
    refine ⟨_, (PSs.nox (pss_cons (ps_if (pt_cmpR op_eq (pc T.d_l_take G_l_take (hr.mono (by decide)) (pa_cons (pv 0) (pa_cons pe_int pa_nil))) pe_int (nomark _)) (pss_one (ps_ret (pc T.d_l_pick G_l_pick (hr.mono (by decide)) (pa_cons (pv 0) (pa_cons (pe_lst (pa_cons (pc T.d_l_odd G_l_odd (hr.mono (by decide)) (pa_cons (pv 0) pa_nil)) (pa_cons pe_int (pa_cons pe_int (pa_cons pe_int (pa_cons (pe_un un_neg pe_int) (pa_cons (pe_un un_neg pe_int) (pa_cons (pe_un un_neg pe_int) pa_nil)))))))) pa_nil))))) pss_nil)
      (pss_one (ps_ret (pv 1))))), ?_⟩
    walk_at "go"
    intro r H1 r0 r1 k1
    have A1 := k1.hand
    have W1 := Wu.but Ou k1.but
    walk_at "go"
    refine ite2 (fun e => ?_) (fun e => ?_)
    · walk_at "go"
      intro v H2 W2 O2 B2 k2
      have A2 := k2.hand
      walk_at "go"
      intro l hl
      generalize hL : upd H2 l _ = HL
      obtain ⟨sm, hl2⟩ := new_at hl hL
      have K3 := (k1.trans k2).same sm
      have A3 := K3.hand
      refine ⟨_, _, _, rfl, A3, A2.ne hl, hl2, by simp, by simp, fun j x H3 hj k3 => ?_⟩
      have hm := List.mem_of_getElem? hj
      simp only [List.mem_cons, List.not_mem_nil, or_false] at hm
      rcases hm with rfl | rfl | rfl | rfl | rfl | rfl | rfl
      · exact q _ _ ((W2.same sm).but O2 k3.but) O2 B2 (K3.trans k3)
      all_goals
        refine q _ _ (.int _) (fun z => nomatch z) (fun i z => ?_) (K3.trans k3)
        have z2 := V.int.inj z
        subst z2
        decide
    · walk_at "go"
      exact q _ _ W1 Ou Bu k1
theorem ok_l_chained (T : Txt K mg) : okAt P w K mg base CX0 5 "_law_chained" ["_law_seed_here", "_law_many"] spChained := by
  have G_next_seed : okAt P w K mg base CX0 4 "next_seed" ["seed"] spNext0 := ok_next_seed0 T
  refine T.d_l_chained.F.ok sc_l_chained (fun vs H Q E h => ?_) (fun cdv A outer s H vs Q E hr h => ?_)
  · obtain ⟨_, _, rfl, _⟩ := h
    rfl
  · obtain ⟨s0, n, rfl, s1, s2, n0, n1, q⟩ := h
    refine ⟨_, (PSs.nox (pss_cons (ps_set (i := 2) sc_l_chained.nd rfl (.inl rfl) (pv 0))
      (pss_cons (ps_for PassesOwn.never rfl (pi_range1 (by rfl) T.b_range (pa_cons (pv 1) pa_nil)) (pg_name (i := 3) sc_l_chained.nd rfl (.inl rfl)) (pss_one (ps_set (i := 2) sc_l_chained.nd rfl (.inl rfl) (pc T.d_next_seed G_next_seed (hr.mono (by decide)) (pa_cons (pv 2) pa_nil)))))
      (pss_one (ps_ret (pv 2)))))), ?_⟩
    walk_at "go"
    refine ⟨by omega, by omega, ?_⟩
    refine for_range (lo := 0) (n := n.toNat) (fun j σ' H' => ∃ y3, σ' = [some (.int s0), some (.int n), some (.int (SI s0 j)), y3] ∧ H' = H) ⟨none, (by rw [SI_zero (by omega) (by omega)]; first | done | rfl), rfl⟩ (fun j σ2 H2 hj z => ?_) (fun σ2 H2 z => ?_)
    · obtain ⟨y3, rfl, rfl⟩ := z
      have p1 := SI_pos s1 s2 j
      have p2 := SI_le s0 j
      walk_at "go"
      exact ⟨_, (by rw [SI_SI]; rfl), rfl⟩
    · obtain ⟨y3, rfl, rfl⟩ := z
      walk_at "go"
      exact q
end

end K01

set_option Elab.async false
set_option linter.all false
set_option maxRecDepth 100000
set_option maxHeartbeats 4000000
namespace K01
open PySem PySem.Spec PyProof.Rows L2 He Gw
local macro_rules | `(tactic| walk_at "side") => `(tactic| (first | (with_reducible assumption) | ((with_reducible show _ ≤ sizeLine); exact sz_b rfl) | (show (_ : Int) < (_ : Int); first | decide | omega) | (show (0 : Int) < _; first | decide | omega) | exact ⟨by decide, by decide⟩ | exact ⟨by decide, by decide, by decide⟩ | exact ⟨by omega, by omega⟩ | exact .inl ⟨by omega, by omega⟩ | exact .inr ⟨by omega, by omega⟩))
local macro_rules | `(tactic| walk_at "isi") => `(tactic| (first
  | (refine ei_int (by assumption) ?_)
  | (refine ei_bool (by assumption) ?_)
  | (refine ei_str (by assumption) ?_)
  | (refine ei_tuple (by assumption) ?_)
  | (refine ei_list (by assumption) ?_)
  | (refine ei_dict (by assumption) ?_)))
local macro_rules | `(tactic| walk_at "g1") => `(tactic| (first
  | ((with_reducible refine And.intro ?c ?r); (case c => walk_at "side"))
  | refine ⟨_, rfl, ?_⟩
  | (refine ⟨_, ?xs, rfl, .inl (SqL.of ?h), ?r⟩; (case h => with_reducible assumption))
  | (refine ⟨_, ?xs, rfl, .inr (SqT.of ?h), ?r⟩; (case h => with_reducible assumption))
  | (refine ⟨_, ?xs, _, ?v, rfl, rfl, SqL.of ?h, ?e, ?r⟩; (case h => with_reducible assumption); (case e => first | exact rfl | (with_reducible assumption)))
  | (refine ⟨_, ?xs, _, ?j, rfl, rfl, ?h, ?e, ?r⟩; (case h => with_reducible assumption); (case e => first | exact rfl | (with_reducible assumption)))
  | refine ⟨_, _, rfl, rfl, ?_⟩
  | refine .inl ⟨_, rfl, ?_⟩
  | refine ⟨rfl, ?_⟩
  | walk_at "isi"
  | refine ⟨_, _, rfl, ?_⟩
  | refine ⟨_, _, _, rfl, ?_⟩
  | (refine And.intro ?c ?r; (case c => walk_at "side"))))
local macro_rules | `(tactic| walk_at "go") => `(tactic| repeat walk_at "g1")
section
variable {P : Program} {w : World} {K : PySem.W.Frag} {mg : Str → Option Value} {base : Heap}
theorem ok_law (T : Txt K mg) : okAt P w K mg base CX0 7 "law" ["_law_script"] (spLaw K) := by
  have G_l_same : okAt P w K mg base CX0 4 "_law_same" ["_law_actual", "_law_due"] (spSameB 3) := ok_l_same T 3
  have G_seed_after : okAt P w K mg base CX0 4 "seed_after" ["seed", "many"] spAfter0 := ok_seed_after0 T
  have G_l_chained : okAt P w K mg base CX0 5 "_law_chained" ["_law_seed_here", "_law_many"] spChained := ok_l_chained T
  have G_l_power : okAt P w K mg base CX0 1 "_law_power" ["_law_many"] spPower := ok_l_power T
  have G_l_take : okAt P w K mg base CX0 1 "_law_take" ["_law_hand_here", "_law_many"] spTake := ok_l_take T
  have G_l_great : okAt P w K mg base CX0 2 "_law_great" ["_law_hand_here"] (spDraw 0 99999999999999999999) := ok_l_great T
  have G_l_seed : okAt P w K mg base CX0 3 "_law_seed" ["_law_hand_here"] (spDraw 1 2147483646) := ok_l_seed T
  have G_l_due_drawn : okAt P w K mg base CX0 3 "_law_due_drawn" ["_law_seed_here", "_law_below"] spDr := ok_l_due_drawn T
  have G_l_drawn : okAt P w K mg base CX0 6 "_law_drawn" ["_law_seed_here", "_law_below"] spDr := ok_l_drawn T
  have G_l_due_after : okAt P w K mg base CX0 3 "_law_due_after" ["_law_seed_here", "_law_many"] (sp2 resA) := ok_l_due_after T
  have G_l_after : okAt P w K mg base CX0 5 "_law_after" ["_law_seed_here", "_law_many"] (sp2 resA) := ok_l_after T
  have G_l_next : okAt P w K mg base CX0 5 "_law_next" ["_law_thing"] (sp1 resN) := ok_l_next T
  have G_l_some : okAt P w K mg base CX0 3 "_law_some" ["_law_hand_here", "_law_right"] spSome := ok_l_some T
  have G_l_small : okAt P w K mg base CX0 3 "_law_small" ["_law_hand_here"] (spDraw (-2147483648) 2147483647) := ok_l_small T
  have G_l_due_wrapped : okAt P w K mg base CX0 2 "_law_due_wrapped" ["_law_thing"] (sp1 resW) := ok_l_due_wrapped T
  have G_l_wrapped : okAt P w K mg base CX0 5 "_law_wrapped" ["_law_thing"] (sp1 resW) := ok_l_wrapped T
  have G_l_hand : okAt P w K mg base CX0 1 "_law_hand" ["_law_script"] (spHand K) := ok_l_hand T
  refine T.d_law.F.ok sc_law (fun vs H Q E h => ?_) (fun cdv A outer s H vs Q E hr h => ?_)
  · obtain ⟨_, _, rfl, _⟩ := h
    rfl
  · obtain ⟨a, ns, rfl, hS, q⟩ := h
    refine ⟨_, (PSs.nox (pss_cons (ps_set (i := 1) sc_law.nd rfl (.inl rfl) (pc T.d_l_hand G_l_hand (hr.mono (by decide)) (pa_cons (pv 0) pa_nil)))
      (pss_cons (ps_for PassesOwn.never rfl (pi_range1 (by rfl) T.b_range (pa_cons pe_int pa_nil)) (pg_name (i := 2) sc_law.nd rfl (.inl rfl)) (pss_cons (ps_set (i := 3) sc_law.nd rfl (.inl rfl) (pc T.d_l_some G_l_some (hr.mono (by decide)) (pa_cons (pv 1) (pa_cons (pe_op op_fdivW (pe_op op_mul (pc T.d_l_great G_l_great (hr.mono (by decide)) (pa_cons (pv 1) pa_nil)) (pe_op op_sub pe_int (pe_op op_mul pe_int (pc T.d_l_take G_l_take (hr.mono (by decide)) (pa_cons (pv 1) (pa_cons pe_int pa_nil)))))) (pe_ix ix_list (pe_lst (pa_cons pe_int (pa_cons (pe_op op_pow pe_int pe_int) (pa_cons (pe_op op_pow pe_int pe_int) pa_nil)))) (pv 2) (fun _ _ => rfl))) pa_nil))))
      (pss_cons (ps_if (pt_not (pt_val (pc T.d_l_same G_l_same (hr.mono (by decide)) (pa_cons (pc T.d_l_wrapped G_l_wrapped (hr.mono (by decide)) (pa_cons (pv 3) pa_nil)) (pa_cons (pc T.d_l_due_wrapped G_l_due_wrapped (hr.mono (by decide)) (pa_cons (pv 3) pa_nil)) pa_nil))))) (pss_one (ps_ret pe_bl)) pss_nil)
      (pss_cons (ps_set (i := 4) sc_law.nd rfl (.inl rfl) (pc T.d_l_some G_l_some (hr.mono (by decide)) (pa_cons (pv 1) (pa_cons (pc T.d_l_seed G_l_seed (hr.mono (by decide)) (pa_cons (pv 1) pa_nil)) pa_nil))))
      (pss_cons (ps_set (i := 5) sc_law.nd rfl (.inl rfl) (pc T.d_l_some G_l_some (hr.mono (by decide)) (pa_cons (pv 1) (pa_cons (pe_op op_fdivW (pc T.d_l_great G_l_great (hr.mono (by decide)) (pa_cons (pv 1) pa_nil)) (pe_ix ix_list (pe_lst (pa_cons pe_int (pa_cons (pe_op op_pow pe_int pe_int) (pa_cons (pe_op op_pow pe_int pe_int) pa_nil)))) (pc T.d_l_take G_l_take (hr.mono (by decide)) (pa_cons (pv 1) (pa_cons pe_int pa_nil))) (fun _ _ => rfl))) pa_nil))))
      (pss_cons (ps_set (i := 6) sc_law.nd rfl (.inl rfl) (pc T.d_l_some G_l_some (hr.mono (by decide)) (pa_cons (pv 1) (pa_cons (pc T.d_l_small G_l_small (hr.mono (by decide)) (pa_cons (pv 1) pa_nil)) pa_nil))))
      (pss_cons (ps_set (i := 7) sc_law.nd rfl (.inl rfl) (pc T.d_l_due_after G_l_due_after (hr.mono (by decide)) (pa_cons (pv 4) (pa_cons pe_int pa_nil))))
      (pss_cons (ps_if (pt_not (pt_val (pc T.d_l_same G_l_same (hr.mono (by decide)) (pa_cons (pc T.d_l_next G_l_next (hr.mono (by decide)) (pa_cons (pv 4) pa_nil)) (pa_cons (pv 7) pa_nil))))) (pss_one (ps_ret pe_bl)) pss_nil)
      (pss_cons (ps_if (pt_not (pt_val (pc T.d_l_same G_l_same (hr.mono (by decide)) (pa_cons (pc T.d_l_after G_l_after (hr.mono (by decide)) (pa_cons (pv 4) (pa_cons (pv 5) pa_nil))) (pa_cons (pc T.d_l_due_after G_l_due_after (hr.mono (by decide)) (pa_cons (pv 4) (pa_cons (pv 5) pa_nil))) pa_nil))))) (pss_one (ps_ret pe_bl)) pss_nil)
      (pss_one (ps_if (pt_not (pt_val (pc T.d_l_same G_l_same (hr.mono (by decide)) (pa_cons (pc T.d_l_drawn G_l_drawn (hr.mono (by decide)) (pa_cons (pv 4) (pa_cons (pv 6) pa_nil))) (pa_cons (pc T.d_l_due_drawn G_l_due_drawn (hr.mono (by decide)) (pa_cons (pv 4) (pa_cons (pv 6) pa_nil))) pa_nil))))) (pss_one (ps_ret pe_bl)) pss_nil)))))))))))
      (pss_cons (ps_set (i := 4) sc_law.nd rfl (.inl rfl) (pc T.d_l_seed G_l_seed (hr.mono (by decide)) (pa_cons (pv 1) pa_nil)))
      (pss_cons (ps_set (i := 8) sc_law.nd rfl (.inl rfl) (pe_op op_fdivW (pc T.d_l_great G_l_great (hr.mono (by decide)) (pa_cons (pv 1) pa_nil)) pe_int))
      (pss_cons (ps_set (i := 9) sc_law.nd rfl (.inl rfl) (pe_op op_fdivW (pc T.d_l_great G_l_great (hr.mono (by decide)) (pa_cons (pv 1) pa_nil)) pe_int))
      (pss_cons (ps_set (i := 10) sc_law.nd rfl (.inl rfl) (pc T.d_l_take G_l_take (hr.mono (by decide)) (pa_cons (pv 1) (pa_cons pe_int pa_nil))))
      (pss_cons (ps_if (pt_not (pt_val (pc T.d_l_same G_l_same (hr.mono (by decide)) (pa_cons (pc T.d_seed_after G_seed_after (hr.mono (by decide)) (pa_cons (pc T.d_seed_after G_seed_after (hr.mono (by decide)) (pa_cons (pv 4) (pa_cons (pv 8) pa_nil))) (pa_cons (pv 9) pa_nil))) (pa_cons (pe_op op_mod (pe_callTy call_int1 (by rfl) T.b_int (by decide +kernel) (pa_cons (pe_op op_mul (pv 4) (pc T.d_l_power G_l_power (hr.mono (by decide)) (pa_cons (pe_op op_add (pv 8) (pv 9)) pa_nil))) pa_nil)) pe_int) pa_nil))))) (pss_one (ps_ret pe_bl)) pss_nil)
      (pss_cons (ps_if (pt_not (pt_val (pc T.d_l_same G_l_same (hr.mono (by decide)) (pa_cons (pc T.d_seed_after G_seed_after (hr.mono (by decide)) (pa_cons (pv 4) (pa_cons (pe_op op_add (pv 8) (pv 9)) pa_nil))) (pa_cons (pe_op op_mod (pe_callTy call_int1 (by rfl) T.b_int (by decide +kernel) (pa_cons (pe_op op_mul (pv 4) (pc T.d_l_power G_l_power (hr.mono (by decide)) (pa_cons (pe_op op_add (pv 8) (pv 9)) pa_nil))) pa_nil)) pe_int) pa_nil))))) (pss_one (ps_ret pe_bl)) pss_nil)
      (pss_cons (ps_if (pt_not (pt_val (pc T.d_l_same G_l_same (hr.mono (by decide)) (pa_cons (pc T.d_l_chained G_l_chained (hr.mono (by decide)) (pa_cons (pv 4) (pa_cons (pv 10) pa_nil))) (pa_cons (pc T.d_seed_after G_seed_after (hr.mono (by decide)) (pa_cons (pv 4) (pa_cons (pv 10) pa_nil))) pa_nil))))) (pss_one (ps_ret pe_bl)) pss_nil)
      (pss_one (ps_ret (pe_and (pc T.d_l_same G_l_same (hr.mono (by decide)) (pa_cons (pc T.d_seed_after G_seed_after (hr.mono (by decide)) (pa_cons (pv 4) (pa_cons pe_int pa_nil))) (pa_cons (pv 4) pa_nil))) (pe_one (pc T.d_l_same G_l_same (hr.mono (by decide)) (pa_cons (pc T.d_seed_after G_seed_after (hr.mono (by decide)) (pa_cons (pv 4) (pa_cons pe_int pa_nil))) (pa_cons (pv 4) pa_nil))))))))))))))))), ?_⟩
    refine ⟨_, rfl, a, ns, rfl, hS, fun h H0 nh A0 s0 => ?_⟩
    walk_at "go"
    refine ⟨by decide, by decide, ?_⟩
    refine for_range (lo := 0) (n := 3) (fun j σ' H' => ∃ y2 y3 y4 y5 y6 y7 y8 y9 y10, σ' = [some (.ref a), some (.ref h), y2, y3, y4, y5, y6, y7, y8, y9, y10] ∧ Hand H' h) ⟨_, _, _, _, _, _, _, _, _, rfl, A0⟩ (fun j σ2 H2 hj z => ?_) (fun σ2 H2 z => ?_)
    · obtain ⟨y2, y3, y4, y5, y6, y7, y8, y9, y10, rfl, A⟩ := z
      walk_at "go"
      intro r H3 r0 r1 k3
      have A3 := k3.hand
      walk_at "go"
      intro t H4 t0 t1 k4
      have A4 := k4.hand
      walk_at "go"
      intro l hl
      generalize hL : upd H4 l _ = HL
      obtain ⟨sm, hl2⟩ := new_at hl hL
      have A5 := A4.same sm
      obtain ⟨d, hd, d0, d1⟩ : ∃ d : Int, atI [V.int 1, V.int ((10 : Int) ^ (8 : Int).toNat), V.int ((10 : Int) ^ (10 : Int).toNat)] (0 + (j : Int)) = some (.int d) ∧ 0 < d ∧ d.natAbs.log2 < 9000 := by
        have cs : j = 0 ∨ j = 1 ∨ j = 2 := by omega
        rcases cs with rfl | rfl | rfl <;> exact ⟨_, rfl, by decide, by decide⟩
      refine ⟨_, rfl, _, _, _, _, rfl, rfl, SqL.of hl2, hd, _, _, rfl, rfl, ⟨d0, d1⟩, ?_⟩
      have bx : -100000000000000000000 ≤ r * (1 - 2 * t) ∧ r * (1 - 2 * t) ≤ 100000000000000000000 := by
        have ct : t = 0 ∨ t = 1 := by omega
        rcases ct with rfl | rfl <;> omega
      refine ⟨h, _, rfl, A5, .int _, (fun z => nomatch z), (fun i z => by cases z; exact div_bd bx.1 bx.2 d0), fun v H6 W6 O6 B6 k6 => ?_⟩
      have A6 := k6.hand
      walk_at "go"
      intro p1 hp1
      generalize e1 : upd H6 p1 _ = G1
      obtain ⟨s1, u1⟩ := new_at hp1 e1
      have W7 := W6.same s1
      walk_at "go"
      intro p2 hp2
      generalize e2 : upd G1 p2 _ = G2
      obtain ⟨s2, u2⟩ := new_at hp2 e2
      refine ⟨_, _, rfl, SmB.tups (s2 _ _ u1) u2 (resW_flat v), fun G3 s3 => ?_⟩
      have A7 : Hand G3 h := ((A6.same s1).same s2).same s3
      clear A A3 A4 A5 A6 hL hl2 e1 e2 u1 u2 W7 W6
      -- the seed
      walk_at "go"
      intro r5 H7 r50 r51 k7
      have A8 := k7.hand
      refine ⟨h, _, rfl, A8, .int _, (fun z => nomatch z), (fun i z => by cases z; omega), fun v1 H8 W8 O8 B8 k8 => ?_⟩
      have A9 := k8.hand
      -- the count
      walk_at "go"
      intro r6 H9 r60 r61 k9
      have A10 := k9.hand
      walk_at "go"
      intro l2 hl2
      generalize hL2 : upd H9 l2 _ = HL2
      obtain ⟨sm2, hq2⟩ := new_at hl2 hL2
      have A11 := A10.same sm2
      refine ⟨_, rfl, ?_⟩
      refine ⟨h, _, rfl, A11, by decide, by decide, fun r7 H10 r70 r71 k10 => ?_⟩
      have A12 := k10.hand
      obtain ⟨d', hd', d0', d1'⟩ : ∃ d : Int, atI [V.int 1, V.int ((10 : Int) ^ (10 : Int).toNat), V.int ((10 : Int) ^ (18 : Int).toNat)] r7 = some (.int d) ∧ 0 < d ∧ d.natAbs.log2 < 9000 := by
        have cs : r7 = 0 ∨ r7 = 1 ∨ r7 = 2 := by omega
        rcases cs with rfl | rfl | rfl <;> exact ⟨_, rfl, by decide, by decide⟩
      have hq3 := k10.keep hq2 (A10.ne hl2)
      refine ⟨_, _, _, _, rfl, rfl, SqL.of hq3, hd', _, _, rfl, rfl, ⟨d0', d1'⟩, ?_⟩
      refine ⟨h, _, rfl, A12, .int _, (fun z => nomatch z), (fun i z => by cases z; exact div_bd (by omega) (by omega) d0'), fun v2 H11 W11 O11 B11 k11 => ?_⟩
      have A13 := k11.hand
      -- the bound of a draw
      walk_at "go"
      intro r8 H12 r80 r81 k12
      have A14 := k12.hand
      refine ⟨h, _, rfl, A14, .int _, (fun z => nomatch z), (fun i z => by cases z; omega), fun v3 H13 W13 O13 B13 k13 => ?_⟩
      have A15 := k13.hand
      have kS : Kp h H8 H13 := ((((k9.same sm2).trans k10).trans k11).trans k12).trans k13
      have W1 := W8.but O8 kS.but
      have W2 := W11.but O11 (k12.trans k13).but
      have W3 := W13
      clear A8 A9 A10 A11 A12 A13 A14 hL2 hq2 hq3
      -- due, and the next seed
      walk_at "go"
      refine ⟨.int _, (fun i z => by cases z; decide), ?_⟩
      intro pa hpa
      generalize epa : upd H13 pa _ = Gpa
      obtain ⟨spa, tpa⟩ := new_at hpa epa
      have W1a := W1.same spa
      walk_at "go"
      intro pb hpb
      generalize epb : upd Gpa pb _ = Gpb
      obtain ⟨spb, tpb⟩ := new_at hpb epb
      have tb := tpb
      rw [resN_eq] at tb
      walk_at "go"
      refine ⟨SmB.tups tb (spb _ _ tpa) (resA_flat _ _), fun Gc sc => ?_⟩
      have sABC := (spa.trans spb).trans sc
      have A16 := A15.same sABC
      have W1c := W1.same sABC
      have W2c := W2.same sABC
      have W3c := W3.same sABC
      clear W1a tb tpa tpb epa epb W1 W2 W3 A15
      -- the seed behind many
      walk_at "go"
      intro pd hpd
      generalize epd : upd Gc pd _ = Gpd
      obtain ⟨spd, tpd⟩ := new_at hpd epd
      have W1d := W1c.same spd
      have W2d := W2c.same spd
      walk_at "go"
      intro pe hpe
      generalize epe : upd Gpd pe _ = Gpe
      obtain ⟨spe, tpe⟩ := new_at hpe epe
      refine ⟨_, _, rfl, SmB.tups (spe _ _ tpd) tpe (resA_flat _ _), fun Gf sf => ?_⟩
      have sDEF := (spd.trans spe).trans sf
      have A17 := A16.same sDEF
      have W1f := W1c.same sDEF
      have W3f := W3c.same sDEF
      clear W1d W2d tpd tpe epd epe W1c W2c W3c A16
      -- the draw
      walk_at "go"
      refine ⟨fun i n hi i1 i2 hn n1 n2 p r hp hr => ?_, fun hs r hr => ?_, fun hs hn r hr => ?_⟩
      · subst hi hn
        have ss : seed (.int i) = true := by show (decide _ && decide _) = true; rw [decide_eq_true i1, decide_eq_true i2]; rfl
        have sn : small (.int n) = true := by show (decide _ && decide _) = true; rw [decide_eq_true n1, decide_eq_true n2]; rfl
        generalize eg : upd Gf p _ = Gg at hr ⊢
        obtain ⟨sg, tg⟩ := new_at hp eg
        generalize eh : upd Gg r _ = Gh
        obtain ⟨sh, th⟩ := new_at hr eh
        have W1h := W1f.same (sg.trans sh)
        have W3h := W3f.same (sg.trans sh)
        walk_at "go"
        refine ⟨fun i' n' hi i1' i2' hn n1' n2' p' r' hp' hr' => ?_, fun z => (by rw [ss] at z; cases z), fun _ z => (by rw [sn] at z; cases z)⟩
        cases hi
        cases hn
        generalize ei : upd Gh p' _ = Gi at hr' ⊢
        obtain ⟨si, ti⟩ := new_at hp' ei
        generalize ej : upd Gi r' _ = Gj
        obtain ⟨sj, tj⟩ := new_at hr' ej
        have fl : ∀ x ∈ drawnI i n, Gw.flatB x = true := by
          intro x hx
          unfold drawnI at hx
          split at hx <;> (simp only [List.mem_cons, List.not_mem_nil, or_false] at hx; rcases hx with rfl | rfl <;> rfl)
        have S : SmB Gj 3 (.ref r) (.ref r') := .inr ⟨r, r', _, _, rfl, rfl, sj _ _ (si _ _ th), tj, rfl, fun m x y hx hy => by
          match m, hx, hy with
          | 0, hx, hy => cases hx; cases hy; exact Sm.flat rfl
          | 1, hx, hy => cases hx; cases hy; exact Sm.tups (sj _ _ (si _ _ (sh _ _ tg))) (sj _ _ ti) fl
          | m + 2, hx, hy => cases hx⟩
        refine ⟨_, _, rfl, S, fun Gk sk => ?_⟩
        exact ⟨true, rfl, iteF ⟨_, _, _, _, _, _, _, _, _, rfl, ((((A17.same sg).same sh).same si).same sj).same sk⟩⟩
      · generalize eg : upd Gf r _ = Gg
        obtain ⟨sg, tg⟩ := new_at hr eg
        have W1h := W1f.same sg
        have W3h := W3f.same sg
        walk_at "go"
        refine ⟨fun i' n' hi i1' i2' hn n1' n2' p' r' hp' hr' => ?_, fun z r' hr' => ?_, fun z => (by rw [hs] at z; cases z)⟩
        · subst hi
          have ss : seed (.int i') = true := by show (decide _ && decide _) = true; rw [decide_eq_true i1', decide_eq_true i2']; rfl
          rw [ss] at hs
          cases hs
        · generalize eh : upd Gg r' _ = Gh
          obtain ⟨sh, th⟩ := new_at hr' eh
          refine ⟨_, _, rfl, SmB.tups (sh _ _ tg) th (by intro x hx; simp only [List.mem_cons, List.not_mem_nil, or_false] at hx; subst hx; rfl), fun Gk sk => ?_⟩
          exact ⟨true, rfl, iteF ⟨_, _, _, _, _, _, _, _, _, rfl, ((A17.same sg).same sh).same sk⟩⟩
      · generalize eg : upd Gf r _ = Gg
        obtain ⟨sg, tg⟩ := new_at hr eg
        have W1h := W1f.same sg
        have W3h := W3f.same sg
        walk_at "go"
        refine ⟨fun i' n' hi i1' i2' hn' n1' n2' p' r' hp' hr' => ?_, fun z => (by rw [hs] at z; cases z), fun _ z r' hr' => ?_⟩
        · subst hn'
          have sn : small (.int n') = true := by show (decide _ && decide _) = true; rw [decide_eq_true n1', decide_eq_true n2']; rfl
          rw [sn] at hn
          cases hn
        · generalize eh : upd Gg r' _ = Gh
          obtain ⟨sh, th⟩ := new_at hr' eh
          refine ⟨_, _, rfl, SmB.tups (sh _ _ tg) th (by intro x hx; simp only [List.mem_cons, List.not_mem_nil, or_false] at hx; subst hx; rfl), fun Gk sk => ?_⟩
          exact ⟨true, rfl, iteF ⟨_, _, _, _, _, _, _, _, _, rfl, ((A17.same sg).same sh).same sk⟩⟩
    · obtain ⟨y2, y3, y4, y5, y6, y7, y8, y9, y10, rfl, A⟩ := z
      walk_at "go"
      intro s H3 s1 s2 k3
      have A3 := k3.hand
      walk_at "go"
      intro r1 H4 r10 r11 k4
      have A4 := k4.hand
      walk_at "go"
      intro r2 H5 r20 r21 k5
      have A5 := k5.hand
      walk_at "go"
      intro few H6 f0 f1 k6
      have A6 := k6.hand
      have g1 : 0 ≤ r1 / 2 := by omega
      have g2 : 0 ≤ r2 / 2 := by omega
      have g3 : 0 ≤ r1 / 2 + r2 / 2 := by omega
      have g4 : r1 / 2 + r2 / 2 ≤ 1000000000000000000000 := by omega
      have g5 := SI_pos s1 s2 (r1 / 2).toNat
      have g6 := SI_le s (r1 / 2).toNat
      have g7 := pwI_bounds (r1 / 2 + r2 / 2).toNat
      have e1 : SI (SI s (r1 / 2).toNat) (r2 / 2).toNat = s * pwI (r1 / 2 + r2 / 2).toNat % 2147483647 := by
        rw [SI_SI, show (r1 / 2).toNat + (r2 / 2).toNat = (r1 / 2 + r2 / 2).toNat by omega, SI]
      have e2 : SI s (r1 / 2 + r2 / 2).toNat = s * pwI (r1 / 2 + r2 / 2).toNat % 2147483647 := by rw [SI]
      walk_at "go"
      refine ⟨(by rw [e1]; exact SmB.flat rfl), fun H7 s7 => ?_⟩
      walk_at "go"
      refine ⟨(by rw [e2]; exact SmB.flat rfl), fun H8 s8 => ?_⟩
      walk_at "go"
      refine ⟨by omega, ?_⟩
      walk_at "go"
      refine ⟨SmB.flat rfl, fun H9 s9 => ?_⟩
      have e3 : SI s (2147483646 : Int).toNat = s := SI_around (by omega) (by omega) 1
      have e4 : SI s (0 : Int).toNat = s := SI_zero (by omega) (by omega)
      walk_at "go"
      refine ⟨by decide, ?_⟩
      walk_at "go"
      refine ⟨(by rw [e3]; exact SmB.flat rfl), fun H10 s10 => ?_⟩
      walk_at "go"
      refine ⟨by decide, ?_⟩
      walk_at "go"
      refine ⟨(by rw [e4]; exact SmB.flat rfl), fun H11 s11 => ?_⟩
      exact q _
end

end K01

set_option Elab.async false
set_option linter.all false
set_option maxRecDepth 100000
set_option maxHeartbeats 0
namespace K01
open PySem PySem.Spec PyProof.Rows L2 He Gw
theorem ending {P : Program} {w : World} {K : PySem.W.Frag} {h : Heap} {mg : Str → Option Value} {f : Addr} (X : K.In h) (G : h.Ns mainGlobals mg) (hfa : mg ("law" : Str) = some (.ref f)) (c : SaysX fx fn K) :
    ∃ fd : FuncData, (∀ (s : Shared) (v : Value), BindsTo s fd ⟨[v], []⟩ [("_law_script", v)]) ∧ ∀ base : Heap, K.In base → base.Ns mainGlobals mg → FnOk P w K mg base CX0 7 f fd ["_law_script"] (spLaw K) := by
  have T := txt X G c
  have e := hfa.symm.trans T.d_law.g
  cases e
  have b := FunD.bindsA (ps := ["_law_script"]) T.d_law.F fun _ _ _ _ _ _ us hl => match us, hl with | [_], _ => rfl
  exact ⟨_, fun s v => b s [v] rfl, fun base _ _ => ok_law T⟩
end K01
open PySem PySem.W PySem.Calls PyProof.Rows
theorem PySem.Challenge.cw_guessedworlds_k01_small_integers_and_see_holds : PySem.Challenge.rw_guessedworlds_k01_small_integers_and_see.Holds := by
  w_on; o_law
  refine HandSHeadRun.head_any (r := OpenLaw.row PySem.Challenge.rw_guessedworlds_k01_small_integers_and_see) (q := view (OpenLaw.row PySem.Challenge.rw_guessedworlds_k01_small_integers_and_see).prog [41]) (H := K01.hk) (ob := K01.ob) (M := 20000) (loose := K01.loose) (d := HandSHeadRun.topDef (OpenLaw.row PySem.Challenge.rw_guessedworlds_k01_small_integers_and_see).prog 41) (kwd := []) K01.ob_eq
    (by kernel_rfl) (fun s => by kernel_rfl) K01.run (by kernel_rfl) (by kernel_rfl) (by kernel_rfl) (by rfl) (by first | assumption | decide +kernel) (by decide +kernel) ⟨rfl, rfl, rfl, rfl, rfl, by decide +kernel⟩ ?hw ?hc
  case hw => w_witness2
  case hc =>
    refine L2.walk_ofE (l := PySem.Challenge.rw_guessedworlds_k01_small_integers_and_see) (n := 63) (k := 7) (x := "_law_script") (CX := L2.CX0) rfl (by decide) (by kernel_rfl) ⟨rfl, by decide, by decide⟩ ?F (fun _ _ _ _ z => z)
    intro w mg fa h Y G hmg0
    obtain ⟨K, KX, c⟩ := Y
    have hmg : mg ("law" : PySem.Str) = some (.ref fa) := by
      have e : (HandSHeadRun.topDef (OpenLaw.row PySem.Challenge.rw_guessedworlds_k01_small_integers_and_see).prog 41).name = ("law" : PySem.Str) := by kernel_rfl
      rw [← e]
      exact hmg0
    obtain ⟨fd, hb, hF⟩ := K01.ending (P := (PySem.Challenge.rw_guessedworlds_k01_small_integers_and_see).prog) (w := w) KX G hmg c
    exact ⟨K, fd, Gw.spLaw K, KX, hb, fun H a ns hl _ hS => ⟨a, ns, rfl, hS, fun _ => rfl⟩, hF⟩

