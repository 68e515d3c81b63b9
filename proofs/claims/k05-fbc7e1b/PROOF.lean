import PyProof.Rows.All
import Wide.All
import OpenK.AllK
import Wide.FinOn
import PyProof.EqAt
import PyProof.EqKinds
import PyProof.TupleCall
import KE.KIsAll
import KE.KExcInit
import PyProof.Rows.ReprR
import HandS.Base
import HandS.Call
import HandS.List
import HandS.Comp
import HandS.Dict
import HandS.Iter
import HandS.Text
import HandS.Ends
import HandS.Exc
import HandS.ExcOwn
import HandS.ExcInit
import HandS.ExcIs
import HandS.ExcValue
import HandS.IsInst
import HandS.Style
import HandS.Conv
import HandS.Words
import HandS.WordsList
import HandS.WordsDict
import HandS.ExcField
import HandS.TryOnly
import HandS.WordsExc
import HandS.Walk
import HandS.StrMore
import HandS.Deep
import HandS.RevRange
import HandS.Rev
import HandS.Star
import PyProof.ListRange
import PyProof.ListNew
import KE.KDictList
import HandS.OwnEq
import HandS.ListItems
import KE.GoesEnum
import HandS.More
import HandS.DictComp
import HandS.FStr
import HandS.RaiseMore
import HandS.Lambda
import HandS.EndTab
import HandS.HeadHook3
import PySem.Challenge.RW_bushcoins_k05_places_and_colours
set_option Elab.async false
set_option linter.all false
set_option maxRecDepth 100000
set_option maxHeartbeats 4000000
/-! Guarded defs (nothing is being shown by repr), exceptions as values, repr of data. -/
namespace Bc
open PySem PySem.Spec PyProof.Rows L2

/-! ### a def's promise where no repr is under way -/
structure FnG (P : Program) (w : World) (K : PySem.W.Frag) (mg : Str → Option Value) (base : Heap) (k : Nat) (f : Addr) (fd : FuncData) (ps : List Str) (sp : Sp) : Prop where
  len : ∀ vs H Q E, sp vs H Q E → vs.length = ps.length
  go : ∀ (A : Around) (outer : List Env) (s : Shared) (H : Hp) (args : Args) (us : List Value) (vs : List V) (Q : VK) (E : XK), Room k A → A.guards = some [] →
    Env0 P w K mg base A outer s H → BindsTo s fd args (ps.zip us) → Vals vs us → sp vs H Q E →
    codeAny (model P w) A (.call (.ref f) args) (CR CX0 outer P w H s Q E) s

section
variable {P : Program} {w : World} {K : PySem.W.Frag} {mg : Str → Option Value} {base : Heap}
theorem FnG.body {x qual : Str} {st : Stmt} {f : Addr} {fd : FuncData} {N ps : List Str} {k : Nat} {sp : Sp}
    (F : Fun K x qual st f fd) (S : FnScope N ps (defScope st)) (hlen : ∀ vs H Q E, sp vs H Q E → vs.length = ps.length)
    (hb : ∀ (cdv : Value) (A : Around) (outer : List Env) (s : Shared) (H : Hp) (vs : List V) (Q : VK) (E : XK),
      Room k (A.deeper (envOfC qual (defScope st) s.heap.objs.size f cdv)) → (A.deeper (envOfC qual (defScope st) s.heap.objs.size f cdv)).guards = some [] → sp vs H Q E →
      ∃ t, PSs (cxOf CX0 P w K mg base N qual (defScope st) f cdv A outer s H E).nox (defBody st) t ∧ t { nx := fun _ H' => Q .non H', rt := Q } (start N vs) H) :
    FnG P w K mg base (k + 1) f fd ps sp := by
  obtain ⟨oc, od, kV, doc, pm, an, cdv, ct, osl, rfl, lk, hcd⟩ := F.ex
  refine ⟨hlen, fun A outer s H args us vs Q E hr hg e0 hbd r hsp => ?_⟩
  -- the promise of this one call, told of all calls with these arguments
  let sp1 : Sp := fun vs' H' Q' E' => vs' = vs ∧ H' = H ∧ sp vs' H' Q' E' ∧ True
  have hl := hlen _ _ _ _ hsp
  have KX : K.In s.heap := e0.mod.kin.keeps fun b o e => (e0.bs b o e).1
  have lim : s.heap.NoLimit := e0.mod.nolimit.keeps fun b o e => (e0.bs b o e).1
  have hkind : ∀ y ∈ ps.zip us, (defScope st).names.lookup y.1 = some .local ∨
      ((defScope st).names.lookup y.1 = some .cell ∧ ((cellsFrom (s.heap.objs.size + 1) (defScope st).names []).lookup y.1).isSome = true) := by
    intro y hy
    rcases S.par y.1 (List.of_mem_zip (a := y.1) (b := y.2) hy).1 with q | q
    · exact Or.inl q
    · exact Or.inr ⟨q, PySem.W.cellsFrom_some _ _ _ (Or.inl q)⟩
  refine codeAny_call_function hr.depth (KX _ _ lk) rfl S.co S.gen rfl (PySem.W.codeRec_of KX hcd) (hbd _ _ _ _ ?_)
  refine wpAny_newFunctionEnv_cells S.kind hkind fun env he s1 x => ?_
  subst he
  refine ⟨lim.keeps x.toInCall.keep, codeAny_func ?_⟩
  obtain ⟨t, ht, hq⟩ := hb cdv A outer s H vs Q E (hr.deeper _) hg hsp
  have I : Inv (cxOf CX0 P w K mg base N qual (defScope st) f cdv A outer s H E) [] (start N vs) H s1 := inv_start S hr.hd e0 hl r x
  refine wpAny_mono (ht.nox.run [] s1 (start N vs) H _ I hq) (fun fl s' hs => ?_) fun e s' hs => hs
  cases fl with
  | ret u =>
    obtain ⟨v, σ', H', J, rv, q⟩ := hs
    exact ⟨v, H', J.os, J.bare, J.base, J.hok, rv, q⟩
  | next =>
    obtain ⟨σ', H', J, q⟩ := hs
    exact ⟨V.non, H', J.os, J.bare, J.base, J.hok, rfl, q⟩
  | brk =>
    obtain ⟨_, _, _, q⟩ := hs
    exact q.elim
  | cont =>
    obtain ⟨_, _, _, q⟩ := hs
    exact q.elim
end
section
variable {X : Cx} {k : Nat} {f : Addr} {fd : FuncData} {ps : List Str} {sp : Sp} {x : Str} {p pos : Pos} {e : Expr} {es : List Expr} {t : TA}
/-- f(e, ..), f a guarded def -/
theorem pe_callG (F : FnG X.prog X.w X.K X.mg X.base k f fd ps sp) (hr : Room k X.A) (hgu : X.A.guards = some []) (hg : Gl X x) (hm : X.mg x = some (.ref f)) (hk : PySem.W.keepIn X.K (.ref f) = true)
    (hb : Binds X.K fd ps []) (ha : PA X (e :: es) t) (hdb : (x == ("__debug__" : Str)) = false := by decide)
    (he : starEach (e :: es) X.env = (false, eval e X.env) :: starEach es X.env := by rfl) (hpl : (backTo pos (starEach es X.env)).any (·.1) = false := by rfl) :
    PE X (.Call (.Name x p) (e :: es) [] pos) (tCall sp [] E0 t) := by
  refine ⟨fun pins s σ H Q I h => ?_⟩
  refine wpAny_Call_Name_kw (ld_glob I hg hm ?_ hdb)
  refine PySem.W.callWith_K (h₀ := X.base) I.ok.mod.kin hk (thn (ha.run pos pins s σ H _ I h) fun us s1 ⟨vs, H1, I1, r, q⟩ => ⟨I1.kIn, ?_⟩) he hpl
  have q' : sp vs H1 Q E0 := by
    have z : sp (vs ++ []) H1 Q E0 := q
    rwa [List.append_nil] at z
  have hl : (us ++ []).length = ps.length := by
    rw [List.append_nil, ← r.length]
    exact F.len _ _ _ _ q'
  have hbd := hb s1 us I1.kIn hl
  rw [List.append_nil] at hbd
  refine wpAny_call (codeAny_mono (F.go X.A X.stack s1 H1 ⟨us, []⟩ us vs Q E0 hr hgu I1.env0 hbd r q') fun r s' hq => ?_)
  cases r with
  | error e => exact hq.elim
  | ok fl =>
    cases fl with
    | ret u => exact I1.after hq
    | next => exact hq.elim
    | brk => exact hq.elim
    | cont => exact hq.elim
end
end Bc

namespace Bc
open PySem PySem.Spec PyProof.Rows L2

/-! ### the end of a law by a guarded def -/
/-- what a law's call has to come to -/
abbrev LawEnd (s₁ : Shared) : Result → Shared → Prop := fun r s' => r = .ok (.ret (.bool true)) ∧ OldK s₁.heap s'.heap ∧ s'.os = s₁.os ∧ AllBare s'.gens

theorem lawG_core {P : Program} {w : World} {K : PySem.W.Frag} {mg mb : Str → Option Value} {k : Nat} {fa a : Addr} {fd : FuncData} {x : Str} {sp : Sp} {s₁ : Shared} {vs : List Value} {H : Hp}
    (kin : K.In s₁.heap) (hns : s₁.heap.Ns mainGlobals mg) (hb : s₁.heap.Ns builtinsNs mb) (hbb : ∀ x : Str, x ≠ "__name__" → mb x = bootBuiltins x) (hlim : s₁.heap.NoLimit) (hg : s₁.gens = #[])
    (ha : s₁.heap.get? a = some { cls := .type "list", data := .seq vs.toArray }) (hr : Room k callerA)
    (hF : ∀ base : Heap, K.In base → base.Ns mainGlobals mg → FnG P w K mg base k fa fd [x] sp) (hbd : ∀ (s : Shared) (u : Value), BindsTo s fd ⟨[u], []⟩ [(x, u)])
    (hsp : sp [.ref a] H (fun v _ => v = .bl true) E0) (hO : Only H) (hok : HOk P w H s₁.heap) (only : ∀ b, H b ≠ none → b = a) (hK : H a ≠ none → K.lookup a = none) :
    codeAny (model P w) callerA (.call (.ref fa) ⟨[.ref a], []⟩) (LawEnd s₁) s₁ := by
  have down : ∀ {b : Addr} {o : Obj}, s₁.heap.get? b = some o → H b = none → (hidT s₁.heap H).get? b = some o := fun h1 h2 => hidT_get h1 h2
  have nodict : ∀ {b : Addr} {o : Obj} {es : Array DictEntry} {ep : Nat}, s₁.heap.get? b = some o → o.data = .dict es ep → H b = none := by
    intro b o es ep h1 h2
    cases q : H b with
    | none => rfl
    | some u =>
      have z : b = a := only b (by rw [q]; exact Option.some_ne_none u)
      subst z
      rw [ha] at h1
      cases h1
      cases h2
  have nsd : ∀ {b : Addr} {m : Str → Option Value}, s₁.heap.Ns b m → (hidT s₁.heap H).Ns b m := by
    rintro b m ⟨o, es, ep, h1, h2, r⟩
    exact ⟨o, es, ep, down h1 (nodict h1 h2), h2, r⟩
  have kind : K.In (hidT s₁.heap H) := by
    intro b o e
    refine down (kin b o e) ?_
    cases q : H b with
    | none => rfl
    | some u =>
      have z : b = a := only b (by rw [q]; exact Option.some_ne_none u)
      subst z
      rw [hK (by rw [q]; exact Option.some_ne_none u)] at e
      cases e
  have md : Mod K mg (hidT s₁.heap H) := ⟨kind, nsd hns, ⟨mb, nsd hb, hbb⟩, by
    obtain ⟨mc, h1, h2⟩ := hlim
    exact ⟨mc, nsd h1, h2⟩⟩
  have env : Env0 P w K mg (hidT s₁.heap H) callerA [] s₁ H := ⟨rfl, md, fun b o e => of_hidT e, Nat.le_of_eq (hidT_size _ _), trivial, fun b z => absurd (show b ∈ ([] : List Addr) from z) (by simp), hok, .of_eq hg⟩
  refine codeAny_mono ((hF _ kind (nsd hns)).go callerA [] s₁ H ⟨[.ref a], []⟩ [.ref a] [.ref a] _ _ hr rfl env (hbd s₁ (.ref a)) (.cons rfl .nil) hsp) fun r s' h => ?_
  cases r with
  | error e => exact h.elim
  | ok fl =>
    cases fl with
    | next => exact h.elim
    | brk => exact h.elim
    | cont => exact h.elim
    | ret u =>
      obtain ⟨v, H', os, bare, un, hok', r', q⟩ := h
      have qv : v = .bl true := q
      subst qv
      obtain rfl : u = Value.bool true := r'
      refine ⟨rfl, OldK.of_keep fun b o e => ?_, os, bare⟩
      cases q : H b with
      | none => exact un.keep b o e q (fun z => absurd (show b ∈ ([] : List Addr) from z) (by simp)) (by simp)
      | some u =>
        rcases hO b with z | ⟨ob, xs, z⟩
        · rw [q] at z
          cases z
        · obtain ⟨e1, _⟩ := hok b _ z
          obtain ⟨e2, _⟩ := hok' b _ (un.frzs b ob _ z)
          rw [e] at e1
          cases e1
          exact e2

theorem lawG_call {P : Program} {w : World} {K : PySem.W.Frag} {mg mb : Str → Option Value} {k : Nat} {fa a : Addr} {fd : FuncData} {x : Str} {sp : Sp} {s₁ : Shared} {vs : List Value} {ns : List Int}
    (kin : K.In s₁.heap) (hns : s₁.heap.Ns mainGlobals mg) (hb : s₁.heap.Ns builtinsNs mb) (hbb : ∀ x : Str, x ≠ "__name__" → mb x = bootBuiltins x) (hlim : s₁.heap.NoLimit) (hg : s₁.gens = #[])
    (ha : s₁.heap.get? a = some { cls := .type "list", data := .seq vs.toArray }) (hi : IntsAre vs ns) (hl : ns.length ≤ sizeLine) (hr : Room k callerA)
    (hF : ∀ base : Heap, K.In base → base.Ns mainGlobals mg → FnG P w K mg base k fa fd [x] sp) (hbd : ∀ (s : Shared) (u : Value), BindsTo s fd ⟨[u], []⟩ [(x, u)])
    (hsp : ∀ H : Hp, Only H → SqL K H a (ns.map V.int) → sp [.ref a] H (fun v _ => v = .bl true) E0) :
    codeAny (model P w) callerA (.call (.ref fa) ⟨[.ref a], []⟩) (LawEnd s₁) s₁ := by
  have rv := vals_ints hi
  have lenV := hi.length
  cases hk : K.lookup a with
  | some o =>
    have e := kin a o hk
    rw [ha] at e
    cases e
    have hO : Only (fun _ => none) := fun _ => Or.inl rfl
    have hS : SqL K (fun _ => none) a (ns.map V.int) := Or.inr ⟨_, vs.toArray, _, hk, rfl, rfl, rfl, by rw [List.size_toArray, lenV]; exact hl, by simpa using rv⟩
    exact lawG_core kin hns hb hbb hlim hg ha hr hF hbd (hsp _ hO hS) hO (fun b u z => nomatch (show (none : Option HO) = some u from z)) (fun b z => absurd rfl z) fun z => absurd rfl z
  | none =>
    have hS : SqL K (fun b => if b = a then some (HO.frz { cls := .type "list", data := .seq vs.toArray } (.lst (ns.map V.int))) else none) a (ns.map V.int) :=
      Or.inl (Or.inr ⟨{ cls := .type "list", data := .seq vs.toArray }, if_pos rfl⟩)
    have hO : Only (fun b => if b = a then some (HO.frz { cls := .type "list", data := .seq vs.toArray } (.lst (ns.map V.int))) else none) := by
      intro b
      by_cases z : b = a
      · exact Or.inr ⟨_, _, if_pos z⟩
      · exact Or.inl (if_neg z)
    refine lawG_core kin hns hb hbb hlim hg ha hr hF hbd (hsp _ hO hS) hO (fun b u z => ?_) (fun b z => ?_) fun _ => hk
    · by_cases y : b = a
      · have z' := (if_pos y).symm.trans z
        cases z'
        subst y
        exact ⟨ha, by rw [List.length_map]; exact hl, vs, _, rv, ha⟩
      · have z' := (if_neg y).symm.trans z
        cases z'
    · by_cases y : b = a
      · exact y
      · exact absurd (if_neg y) z

theorem walkG {l : PySem.W.OpenLaw} {n k : Nat} {q : Program} {loose : List Str} {XP : (Str → Option Value) → Heap → Prop} {YP : World → Heap → Prop} {d : DefRec} {K : Params → PySem.W.Frag} {sp : World → Sp} {x : Str}
    (hn : l.most = some n) (hn2 : n ≤ sizeLine) (hdf : d.params.defaults = []) (hr : Room k callerA)
    (hY : ∀ (w : World) (h : Heap), YP w h → (K w.params).In h)
    (F : ∀ (w : World) (mg : Str → Option Value) (fa : Addr) (h : Heap), (K w.params).In h → h.Ns mainGlobals mg → mg d.name = some (.ref fa) →
      ∃ fd : FuncData, (∀ (s : Shared) (u : Value), BindsTo s fd ⟨[u], []⟩ [(x, u)]) ∧
        ∀ base : Heap, (K w.params).In base → base.Ns mainGlobals mg → FnG l.prog w (K w.params) mg base k fa fd [x] (sp w))
    (hsp : ∀ (w : World) (H : Hp) (a : Addr) (ns : List Int), ns.length ≤ n → Only H → SqL (K w.params) H a (ns.map V.int) → sp w [.ref a] H (fun v _ => v = .bl true) E0) :
    PySem.W.WalkO q loose XP YP l.row.toRowW d [] (fun f vs => PySem.call f vs) := by
  refine Att.attach_call hn hdf fun w s₀ s₁ mg mb fa o pm cd doc a vs ns G Y ho hd hcd hmg hobj hints hlen hg => ?_
  have KX := hY w _ Y
  obtain ⟨fd, hb, hF⟩ := F w mg fa _ KX G.T.g hmg
  exact lawG_call KX G.T.g G.T.b G.T.builtins G.T.nolimit hg hobj hints (Nat.le_trans hlen hn2) hr hF hb (fun H hO hS => hsp w H a ns hlen hO hS)

/-! ### own exceptions as values -/
/-- what the written part says of an exception's class -/
structure XC (K : PySem.W.Frag) (C : Addr) : Prop extends ExcC K C where
  kC : PySem.W.keepIn K (.ref C) = true
/-- one whose __init__ is a def at fI -/
structure XI (K : PySem.W.Frag) (C fI : Addr) : Prop extends XC K C where
  cls : ∃ nm q N bs bm sn sub ab col dd k0 k1 k2 k3 k5 B newId initId bmB, ExcBaseFacts B newId initId bmB ∧ StoreFacts B bmB "object.__setattr__" "object" ∧ PySem.W.excTail bmB bm = true ∧
    K.lookup C = some (excClassObj nm q C N bs bm true sn sub ab col dd k0 k1 k2 k3 k5 newId)
  sa : PySem.W.findIn K (.ref C) "__setattr__" = some (some (.builtin "object.__setattr__"))
  iC : PySem.W.findIn K (.ref C) "__init__" = some (some (.ref fI))
  tI : PySem.W.typeIn K (.ref fI) = some (.type "function")

/-- at a stands an exception of the class at C, raised by nobody -/
def XAt (H : Hp) (a C : Addr) : Prop := H a = some (ExO (.ref C) a) ∨ H a = some (exo a C none) ∨ ∃ dx fs, H a = some (exo a C (some dx)) ∧ H dx = some (exd dx fs)
/-- .. with these attributes -/
def XFs (H : Hp) (a C : Addr) (fs : List (Str × V)) : Prop := ∃ dx, H a = some (exo a C (some dx)) ∧ H dx = some (exd dx fs)
theorem XFs.at {H : Hp} {a C : Addr} {fs : List (Str × V)} (x : XFs H a C fs) : XAt H a C := by
  obtain ⟨dx, h1, h2⟩ := x
  exact Or.inr (Or.inr ⟨dx, fs, h1, h2⟩)
theorem XAt.same {H H' : Hp} {a C : Addr} (x : XAt H a C) (s : Same H H') : XAt H' a C := by
  rcases x with x | x | ⟨dx, fs, x, y⟩
  · exact Or.inl (s _ _ x)
  · exact Or.inr (Or.inl (s _ _ x))
  · exact Or.inr (Or.inr ⟨dx, fs, s _ _ x, s _ _ y⟩)
theorem XFs.same {H H' : Hp} {a C : Addr} {fs : List (Str × V)} (x : XFs H a C fs) (s : Same H H') : XFs H' a C fs := by
  obtain ⟨dx, h1, h2⟩ := x
  exact ⟨dx, s _ _ h1, s _ _ h2⟩

section
variable {X : Cx} {pins : List (Addr × Obj)} {σ : L2.St} {H : Hp} {s : Shared} {a C : Addr}
theorem XAt.inst (x : XAt H a C) (I : Inv X pins σ H s) : ∃ oe od, PySem.W.InstAt s.heap a oe C od := by
  rcases x with x | x | ⟨dx, fs, x, y⟩
  · obtain ⟨⟨oe, vs, ho, hz, hd, _⟩, _⟩ := I.hok a _ x
    obtain ⟨oc, od, oda, osl⟩ := oe
    obtain ⟨z1, z2⟩ := hz
    dsimp only at z1 z2 hd
    subst z1 z2 hd
    exact ⟨_, none, ho, rfl, rfl, trivial⟩
  · obtain ⟨t1, ho⟩ := exo_at I.hok x
    exact ⟨_, none, ho, rfl, rfl, trivial⟩
  · obtain ⟨t1, ho⟩ := exo_at I.hok x
    obtain ⟨mA, hns, _⟩ := exd_at I.hok y
    obtain ⟨o, es, ep, e1, _⟩ := hns
    exact ⟨_, some o, ho, rfl, rfl, e1⟩
end

/-! ### isinstance of such -/
section
open PySem.W PySem.Calls
variable {prog : Program} {w : World} {A : Around} {E : Value → Shared → Prop} {s : Shared} {K : Frag} {x D : Addr} {ox : Obj} {od : Option Obj}
theorem found_data {C : Addr} {name : Str} {a g : Value} (hc : (clsIn K C).isSome = true) (ha : findIn K (.ref C) name = some (some a)) (hg : specialIn K a "__get__" = some (some g)) (ht : takesIn K a = some true) : findObj K C od name = some (.bind g a) := by
  cases h : clsIn K C with
  | none =>
    rw [h] at hc
    cases hc
  | some cd =>
    unfold findObj
    simp [h, ha, hg, ht]
theorem class_of_exc {Q : Option Value → Shared → Prop} (T : ExcC K D) (X : K.In s.heap) (I : InstAt s.heap x ox D od) (h : Q (some (.ref D)) { s with toks := s.toks + 1 }) :
    wpAny (model prog w) A (getAttr? (.ref x) "__class__") Q E s := by
  have hsome : (clsIn K D).isSome = true := by
    obtain ⟨cd, hc, _⟩ := any_some T.hd
    rw [hc]
    rfl
  have hf : findObj K D od "__class__" = some (.bind (.builtin "getset_descriptor.__get__") (.builtin "object.__class__")) := found_data hsome T.ha T.hn T.ht
  obtain ⟨hp, g, d, t, os⟩ := s
  have L0 := I.type (M := model prog w)
  have L1 := looks_findIn (M := model prog w) X T.hg
  have L2 := looks_findIn (M := model prog w) X T.hk
  have L3 := looks_find (M := model prog w) X I hf
  have isB : Looks (model prog w) hp (isInstance (.ref x) (.type "BaseException")) true := L0.andThen (looks_subIn X T.hs)
  have n0 : (false && onTheHeap (Value.builtin "BaseException.__getattribute__")) = false := rfl
  have n2 : (Value.builtin "BaseException.__getattribute__" == Value.builtin "object.__getattribute__") = false := by decide +kernel
  have n1 : (onTheHeap (Value.ref D) && Value.builtin "BaseException.__getattribute__" == Value.builtin "object.__getattribute__") = false := by
    rw [n2]
    rfl
  unfold getAttr? getAttrBy? getAttrBy
  refine wpAny_bind (wpAny_mkText (wpAny_bind (wpAny_attempt (wpAny_holding (wpAny_bind (L0.at (wpAny_bind (L1.at ?_))))))))
  show wpAny _ _ (if (onTheHeap (Value.ref D) && Value.builtin "BaseException.__getattribute__" == Value.builtin "object.__getattribute__") = true then _ else _) _ _ _
  rw [n1, if_neg Bool.false_ne_true]
  unfold getAttrByItsOwn hookBefore
  refine wpAny_bind ?_
  rw [if_pos (show onTheHeap (Value.ref D) = true from rfl)]
  refine L2.at (wpAny_bind (wpAny_attempt (wpAny_holding ?_)))
  unfold callGetattribute
  rw [n0, if_neg Bool.false_ne_true]
  unfold boundAndCalled
  rw [PySem.F.excAttr_ValueError.ga.bind (.ref x)]
  refine wpAny_bind (wpAny_pure ?_)
  show wpAny _ _ (call (.builtin "BaseException.__getattribute__") [.ref x, .str "__class__" t]) _ _ _
  refine wpAny_call (codeAny_call_builtin PySem.F.excAttr_ValueError.ga.plain PySem.F.entry_bexc_ga ?_)
  refine @check_slot (model prog w) _ _ ⟨hp, g, d, t + 1, os⟩ "BaseException.__getattribute__" "BaseException" "__getattribute__" (.ref x) [.str "__class__" t] [] _ (by decide +kernel) (by decide +kernel) isB (PySem.F.args_bexc_ga (.ref x) (.str "__class__" t)) ?_
  unfold Builtin.«object.__getattribute__»
  refine wpAny_bind (wpAny_of_eq (a := ((Value.ref x : Value), [Value.str "__class__" t])) (by first | rfl | (simp only [slotArgs]; rfl)) (wpAny_bind (wpAny_pure (wpAny_bind (L0.at (wpAny_bind (L3.at ?_)))))))
  show wpAny _ _ (holding [Value.builtin "object.__class__"] (call (.builtin "getset_descriptor.__get__") [.builtin "object.__class__", .ref x, .ref D]) >>= ret) _ _ _
  refine wpAny_bind (wpAny_holding (wpAny_call (class_get (s := ⟨hp, g, d, t + 1, os⟩) (ox := ox) (od := od) X I T.hm (wpAny_pure ?_))))
  show wpAny _ _ (handedOut (.ref D)) _ _ _
  rw [handedOut_of (v := .ref D) rfl]
  first
    | exact wpAny_pure (wpAny_pure h)
    | exact wpAny_pure h
    | exact wpAny_pure (wpAny_bind (wpAny_pure (wpAny_pure h)))
theorem kitx_exc (T : ExcC K D) : KitX K (.ref x) (.ref D) (fun h => InstAt h x ox D od) := by
  have look : ∃ c' d' cd' sl', K.lookup D = some ⟨c', d', .cls cd', sl'⟩ := by
    obtain ⟨cd, hc, _⟩ := any_some T.hd
    unfold clsIn at hc
    split at hc
    · rename_i c' d' cd' sl' ho
      exact ⟨c', d', cd', sl', ho⟩
    · cases hc
  obtain ⟨c', d', cd', sl', ho⟩ := look
  refine ⟨fun _ _ _ I => I.type, fun M h KX _ => ?_, fun h tp dd its n sl KX htp => ?_, fun KX I k => class_of_exc T KX I k⟩
  · intro A' Q' E' s' k q
    unfold isType loadHead
    exact wpAny_bind (wpAny_loadPart (k _ _ (KX _ _ ho)) (wpAny_pure q))
  · refine Bool.eq_false_iff.mpr fun q => ?_
    have e : D = tp := Value.ref.inj (beq_iff_eq.mp q)
    subst e
    have z := (KX _ _ ho).symm.trans htp
    cases z
end
/-- isinstance(e, c), e an exception's object -/
def rIsX (K : PySem.W.Frag) : List V → Hp → VK → Prop := fun xs H Q => ∃ (a C : Addr) (c : V) (cv : Value) (b : Bool), xs = [.ref a, c] ∧ XAt H a C ∧ ExcC K C ∧ ClsV c cv ∧ PySem.W.kitOne K (.ref C) cv = some b ∧ Q (.bl b) H
def rIsXT (K : PySem.W.Frag) : List V → Hp → VK → Prop := fun xs H Q => ∃ (a C tp : Addr) (cs : List V) (us : List Value) (b : Bool), xs = [.ref a, .ref tp] ∧ H tp = some (.tup cs) ∧ Paired ClsV cs us ∧ XAt H a C ∧ ExcC K C ∧ PySem.W.kitAny K (.ref C) us = some b ∧ Q (.bl b) H
section
variable {X : Cx}
theorem call_isX : CallR X (.builtin "isinstance") (rIsX X.K) := by
  intro pins s σ H xs us Q I r h
  obtain ⟨a, C, c, cv, b, rfl, hx, T, hc, e, q⟩ := h
  obtain ⟨u1, u2, rfl, r1, r2⟩ := vals2 r
  cases (show u1 = Value.ref a from r1)
  have e2 := hc.eq r2
  subst e2
  obtain ⟨oe, od, J⟩ := hx.inst I
  exact PySem.W.kia_one (kitx_exc T) I.kIn J e (fun z => nomatch z) fun tk => ⟨.bl b, H, I.tok tk, rfl, q⟩
theorem call_isXT : CallR X (.builtin "isinstance") (rIsXT X.K) := by
  intro pins s σ H xs us Q I r h
  obtain ⟨a, C, tp, cs, ws, b, rfl, hT, hc, hx, T, e, q⟩ := h
  obtain ⟨u1, u2, rfl, r1, r2⟩ := vals2 r
  cases (show u1 = Value.ref a from r1)
  cases (show u2 = Value.ref tp from r2)
  obtain ⟨oe, od, J⟩ := hx.inst I
  obtain ⟨_, its, rv, o, h1, h2, n, h3⟩ := (show ObjOk X.prog X.w H s.heap tp (.tup cs) from I.hok tp _ hT)
  have e3 := ClsV.all hc rv
  subst e3
  obtain ⟨oc, od', dt, sl⟩ := o
  simp only at h2 h3
  subst h2 h3
  exact PySem.W.kia_tup (kitx_exc T) I.kIn J h1 e (fun z => nomatch z) fun tk => ⟨.bl b, H, I.tok tk, rfl, q⟩
end

/-! ### an attribute of such -/
def tXF (K : PySem.W.Frag) (f : Str) (te : TE) : TE := fun σ H Q => te σ H fun x H1 => ∃ (a C : Addr) (fs : List (Str × V)) (v : V), x = .ref a ∧ XFs H1 a C fs ∧ ExcC K C ∧ PySem.W.findIn K (.ref C) f = some none ∧ fs.lookup f = some v ∧ Q v H1
theorem pe_xF {X : Cx} {e : Expr} {te : TE} {f : Str} {pos : Pos} (he : PE X e te) (hb : attributeBase e f X.env (eval e X.env) = eval e X.env := by rfl) : PE X (.Attribute e f pos) (tXF X.K f te) := by
  refine ⟨fun pins s σ H Q I h => ?_⟩
  refine attr_of hb (thn (he.run pins s σ H _ I h) fun u s1 hh => ?_)
  obtain ⟨x, H1, I1, rx, a, C, fs, v, ex, ⟨dx, ea, ed⟩, T, hno, hl, q⟩ := hh
  subst ex
  obtain rfl : u = Value.ref a := rx
  obtain ⟨t1, ho⟩ := exo_at I1.hok ea
  obtain ⟨mA, hns, hr⟩ := exd_at I1.hok ed
  have hns1 := hns
  obtain ⟨od, hod, hlk⟩ := lookIn_ns hns
  obtain ⟨u, hu, ru⟩ := RelO.some_of (v := v) (o := mA f) (by rw [← hl]; exact hr f)
  have J : PySem.W.InstAt s1.heap a _ C (some od) := ⟨ho, rfl, rfl, hod⟩
  exact HandSPX.exc_get I1.kIn J T.hg T.hk T.hs (PySem.W.findObj_own T.hd hno rfl (by rw [hlk, hu])) (handed_of ru) ⟨v, H1, I1.tok _, ru, q⟩

/-! ### own exceptions made as values -/
/-- C(), no __init__ of its own -/
theorem pe_x0 {X : Cx} {C : Addr} {bmB : List Value} {B newId initId : String} {x : Str} {p pos : Pos} (F : ExcBaseFacts B newId initId bmB) (q : PySem.W.excIn X.K C bmB newId = true) (gC : X.mg x = some (.ref C)) (kC : PySem.W.keepIn X.K (.ref C) = true) (hg : Gl X x)
    (hdb : (x == ("__debug__" : Str)) = false := by decide) :
    PE X (.Call (.Name x p) [] [] pos) (fun σ H Q => ∀ a, H a = none → Q (.ref a) (upd H a (ExO (.ref C) a))) := by
  refine ⟨fun pins s σ H Q I h => ?_⟩
  refine wpAny_Call_Name_kw (ld_glob I hg gC ?_ hdb)
  refine PySem.W.callWith_K0 I.kIn kC ?_
  show wpAny _ _ (call (.ref C) []) _ _ _
  obtain ⟨bm, N, nm, qn, bs, hdct, sn, sub, ab, col, dd, k0, k1, k2, k3, k5, mN, hC, hN, hni, T⟩ := exc_obj I.kIn q
  refine wpAny_call_exc_subT F T hC hN hni (fun h' a hm => ?_) (Nat.zero_le _)
  have hn : H a = none := I.hok.gone hm.new
  obtain ⟨t, ht, _, _⟩ := hm.there
  exact ⟨.ref a, upd H a (ExO (.ref C) a), I.laidN hm.keeps hm.new hn (exO_ok ht ⟨rfl, rfl⟩ rfl rfl rfl (show 4 < 6 by decide)), rfl, h a hn⟩

/-- C(e, ..), C's own __init__ keeping sp -/
def tMkX (C : Addr) (sp : Sp) (ta : TA) : TE := fun σ H Q => ta σ H fun vs H1 => vs.length ≤ 1000 ∧ ∀ a, H1 a = none → sp (.ref a :: vs) (upd H1 a (exo a C none)) (fun v H2 => v = .non ∧ Q (.ref a) H2) E0
theorem pe_mkX {X : Cx} {x : Str} {C fI : Addr} {k : Nat} {fd : FuncData} {ps : List Str} {sp : Sp} {e : Expr} {es : List Expr} {ta : TA} {p pos : Pos} (T : XI X.K C fI)
    (F1 : FnOk X.prog X.w X.K X.mg X.base CX0 k fI fd ps sp) (hr : Room (k + 1) X.A) (hb : Binds X.K fd ps []) (hg : Gl X x) (hm : X.mg x = some (.ref C)) (ha : PA X (e :: es) ta)
    (hdb : (x == ("__debug__" : Str)) = false := by decide) (he : starEach (e :: es) X.env = (false, eval e X.env) :: starEach es X.env := by rfl) (hpl : (backTo pos (starEach es X.env)).any (·.1) = false := by rfl) :
    PE X (.Call (.Name x p) (e :: es) [] pos) (tMkX C sp ta) := by
  refine ⟨fun pins s σ H Q I h => ?_⟩
  obtain ⟨nm, q, N, bs, bm, sn, sub, ab, col, dd, k0, k1, k2, k3, k5, B, newId, initId, bmB, FB, SF, hbm, hC⟩ := T.cls
  refine wpAny_Call_Name_kw (ld_glob I hg hm ?_ hdb)
  refine PySem.W.callWith_K (h₀ := X.base) I.ok.mod.kin T.kC (thn (ha.run pos pins s σ H _ I h) fun us s1 ⟨vs, H1, I1, r1, hz, q1⟩ => ⟨I1.kIn, ?_⟩) he hpl
  show wpAny _ _ (call (.ref C) us) _ _ _
  obtain ⟨hp, g, dr, tk, os⟩ := s1
  have up1 : hp.objs.size ≤ hp.objs.size + 1 := Nat.le_succ _
  have hq := q1 (hp.objs.size + 1) (I1.hok.fresh up1)
  have kk : ∀ b o, hp.get? b = some o → ((hp.push (PySem.W.kdv_tup us)).push (PySem.HandSPX.excO C hp.objs.size)).get? b = some o := fun b o e => Heap.get?_push_of_some _ (Heap.get?_push_of_some _ e)
  have made : ((hp.push (PySem.W.kdv_tup us)).push (PySem.HandSPX.excO C hp.objs.size)).get? (hp.objs.size + 1) = some (PySem.HandSPX.excO C hp.objs.size) := by heap_get
  have I2 : Inv X pins σ (upd H1 (hp.objs.size + 1) (exo (hp.objs.size + 1) C none)) ⟨(hp.push (PySem.W.kdv_tup us)).push (PySem.HandSPX.excO C hp.objs.size), g, dr, tk, os⟩ :=
    I1.laid (t' := tk) (a := hp.objs.size + 1) (o := exo (hp.objs.size + 1) C none) (h' := (hp.push (PySem.W.kdv_tup us)).push (PySem.HandSPX.excO C hp.objs.size)) kk up1 (exo_ok made)
  have r2 : Vals (V.ref (hp.objs.size + 1) :: vs) (Value.ref (hp.objs.size + 1) :: us) := .cons rfl r1
  have hl : (Value.ref (hp.objs.size + 1) :: us ++ []).length = ps.length := by
    rw [List.append_nil, ← r2.length]
    exact F1.len _ _ _ _ hq
  have hus : us.length ≤ sizeLine := by
    rw [← Paired.length r1, sizeLine_eq]
    omega
  have hbd := hb ⟨(hp.push (PySem.W.kdv_tup us)).push (PySem.HandSPX.excO C hp.objs.size), g, dr, tk, os⟩ (Value.ref (hp.objs.size + 1) :: us) I2.kIn hl
  rw [List.append_nil] at hbd
  refine wpAny_call (PySem.HandSPX.call_own FB (fun Y => PySem.W.excTail_contains Y bm hbm) (I1.kIn _ _ hC) (PySem.W.looks_findIn I1.kIn T.iC) (fun self => PySem.W.bind_fn I1.kIn self T.tI) hus
    (codeAny_mono (F1.run _ X.stack _ _ ⟨Value.ref (hp.objs.size + 1) :: us, []⟩ (Value.ref (hp.objs.size + 1) :: us) _ _ E0 (hr.make C us []) (I2.env0.make C us []) hbd r2 hq) fun r s' hq' => ?_))
  cases r with
  | error er => exact hq'.elim
  | ok fl =>
    cases fl with
    | ret u =>
      obtain ⟨v, H2, os2, bare2, un2, hok2, rv, ev, q2⟩ := hq'
      subst ev
      exact ⟨rv, .ref (hp.objs.size + 1), H2, I2.call' (ch := []) os2 un2 hok2 bare2 (fun b z => absurd z (by simp)), rfl, q2⟩
    | next => exact hq'.elim
    | brk => exact hq'.elim
    | cont => exact hq'.elim
end Bc

namespace Bc
open PySem PySem.Spec PyProof.Rows L2

/-! ### data of any depth, dicts among them -/
def keyD : Key → PyData
  | .inl i => .int i
  | .inr x => .str x
mutual
inductive Dq (K : PySem.W.Frag) (H : Hp) : V → PyData → Prop
  | non : Dq K H .non .none
  | bl (b : Bool) : Dq K H (.bl b) (.bool b)
  | int (i : Int) : Dq K H (.int i) (.int i)
  | str (x : Str) : Dq K H (.str x) (.str x)
  | lst {a : Addr} {xs : List V} {ds : List PyData} : SqL K H a xs → DqAll K H xs ds → a ≠ sysModules → Dq K H (.ref a) (.list ds)
  | tup {a : Addr} {xs : List V} {ds : List PyData} : SqT K H a xs → DqAll K H xs ds → Dq K H (.ref a) (.tuple ds)
  | dic {a : Addr} {kvs : List (Key × V)} {ds : List PyData} : H a = some (.dK kvs) → DqAll K H (kvs.map (·.2)) ds → Dq K H (.ref a) (.dict ((kvs.map fun p => keyD p.1).zip ds))
inductive DqAll (K : PySem.W.Frag) (H : Hp) : List V → List PyData → Prop
  | nil : DqAll K H [] []
  | cons {v : V} {vs : List V} {d : PyData} {ds : List PyData} : Dq K H v d → DqAll K H vs ds → DqAll K H (v :: vs) (d :: ds)
end
theorem DqAll.len {K : PySem.W.Frag} {H : Hp} : ∀ {vs : List V} {ds : List PyData}, DqAll K H vs ds → vs.length = ds.length
  | _, _, .nil => rfl
  | _, _, .cons _ t => congrArg (· + 1) (DqAll.len t)
theorem Same.sqT {K : PySem.W.Frag} {H H' : Hp} {a : Addr} {xs : List V} (e : Same H H') (h : SqT K H a xs) : SqT K H' a xs := by
  rcases h with (h | ⟨o, h⟩) | h
  · exact .inl (.inl (e _ _ h))
  · exact .inl (.inr ⟨o, e _ _ h⟩)
  · exact .inr h
mutual
theorem Dq.same {K : PySem.W.Frag} {H H' : Hp} (s : Same H H') : ∀ {v : V} {d : PyData}, Dq K H v d → Dq K H' v d
  | _, _, .non => .non
  | _, _, .bl b => .bl b
  | _, _, .int i => .int i
  | _, _, .str x => .str x
  | _, _, .lst h t n => .lst (s.seq h) (DqAll.same s t) n
  | _, _, .tup h t => .tup (Same.sqT s h) (DqAll.same s t)
  | _, _, .dic h t => .dic (s _ _ h) (DqAll.same s t)
theorem DqAll.same {K : PySem.W.Frag} {H H' : Hp} (s : Same H H') : ∀ {vs : List V} {ds : List PyData}, DqAll K H vs ds → DqAll K H' vs ds
  | _, _, .nil => .nil
  | _, _, .cons h t => .cons (Dq.same s h) (DqAll.same s t)
end
theorem reads_keys {prog : Program} {w : World} {h : Heap} : ∀ {es : List DictEntry} {kvs : List (Key × Value)}, Pairs (mixKind prog w) es kvs → ReadsAll h (es.map (·.key)) (kvs.map fun p => keyD p.1) [] ∧ es.map (·.val) = kvs.map (·.2)
  | _, _, .nil => ⟨.nil, rfl⟩
  | _, _, .cons (e := e) (kv := kv) hk hv t => by
    obtain ⟨h1, h2⟩ := reads_keys t
    refine ⟨?_, by rw [List.map_cons, List.map_cons, h2, hv]⟩
    obtain ⟨k, v⟩ := kv
    rcases keyIs_shape (show keyIs k e.key = true from hk) with ⟨i, u, rfl, q⟩ | ⟨y, u, rfl, q⟩
    · show ReadsAll h (e.key :: _) (PyData.int i :: _) ([] ++ [])
      rw [q]
      exact .cons (.int i u) h1
    · show ReadsAll h (e.key :: _) (PyData.str y :: _) ([] ++ [])
      rw [q]
      exact .cons (.str y u) h1
theorem kv_keys {kvs : List (Key × V)} {vs : List (Key × Value)} (r : KV kvs vs) : (vs.map fun p => keyD p.1) = kvs.map fun p => keyD p.1 := by
  induction r with
  | nil => rfl
  | cons h t ih =>
    rw [List.map_cons, List.map_cons, ih, h.1]
theorem kv_vals {kvs : List (Key × V)} {vs : List (Key × Value)} (r : KV kvs vs) : Vals (kvs.map (·.2)) (vs.map (·.2)) := by
  induction r with
  | nil => exact .nil
  | cons h t ih => exact .cons h.2 ih
theorem zip_fst {α β : Type} : ∀ {l : List α} {m : List β}, l.length = m.length → (l.zip m).map (·.1) = l
  | [], _, _ => rfl
  | a :: l, b :: m, h => by
    rw [List.zip_cons_cons, List.map_cons, zip_fst (Nat.succ.inj h)]
theorem zip_snd {α β : Type} : ∀ {l : List α} {m : List β}, l.length = m.length → (l.zip m).map (·.2) = m
  | [], [], _ => rfl
  | a :: l, b :: m, h => by
    rw [List.zip_cons_cons, List.map_cons, zip_snd (Nat.succ.inj h)]
section
variable {X : Cx} {pins : List (Addr × Obj)} {σ : L2.St} {H : Hp} {s : Shared}
mutual
theorem Dq.reads (I : Inv X pins σ H s) : ∀ {v : V} {d : PyData} (u : Value), Dq X.K H v d → RelV v u → ∃ as, Reads s.heap u d as ∧ sysModules ∉ as
  | _, _, _, .non, r => by
    cases r
    exact ⟨_, .none, by simp⟩
  | _, _, _, .bl b, r => by
    cases r
    exact ⟨_, .bool b, by simp⟩
  | _, _, _, .int i, r => by
    obtain ⟨t, rfl⟩ := r
    exact ⟨_, .int i t, by simp⟩
  | _, _, _, .str x, r => by
    obtain ⟨t, rfl⟩ := r
    exact ⟨_, .str x t, by simp⟩
  | _, _, _, .lst (a := a) hs ha hn, r => by
    cases r
    obtain ⟨its, rv, ⟨o, n, ho, hc, _, hd⟩, _⟩ := I.list hs
    obtain ⟨as, hr, hm⟩ := DqAll.reads I its ha rv
    refine ⟨_, .list ho hc hd hr, fun y => ?_⟩
    rcases List.mem_cons.mp y with q | q
    · exact hn q.symm
    · exact hm q
  | _, _, _, .tup hs ha, r => by
    cases r
    obtain ⟨its, rv, ⟨o, ho, hc, n, hd⟩, _⟩ := I.tuple hs
    obtain ⟨as, hr, hm⟩ := DqAll.reads I its ha rv
    exact ⟨_, .tuple ho hc hd hr, hm⟩
  | _, _, _, .dic (a := a) (kvs := kvs) (ds := ds) hs ha, r => by
    cases r
    obtain ⟨_, nsys, vs, rel, o, es, ep, ho, hx, hd, _, hp, _⟩ := dk_of I.hok hs
    obtain ⟨h1, h2⟩ := reads_keys (h := s.heap) hp
    obtain ⟨bs, hr, hm⟩ := DqAll.reads I _ ha (kv_vals rel)
    have hlen : (kvs.map fun p => keyD p.1).length = ds.length := by
      rw [List.length_map, ← ha.len, List.length_map]
    refine ⟨_, .dict ho hx.1 hd (as := []) (bs := bs) ?_ ?_, fun y => ?_⟩
    · rw [zip_fst hlen, ← kv_keys rel]
      exact h1
    · rw [zip_snd hlen, h2]
      exact hr
    · rcases List.mem_append.mp y with q | q
      · rcases List.mem_cons.mp q with q | q
        · rw [q] at nsys
          simp at nsys
        · cases q
      · exact hm q
theorem DqAll.reads (I : Inv X pins σ H s) : ∀ {vs : List V} {ds : List PyData} (us : List Value), DqAll X.K H vs ds → Vals vs us → ∃ as, ReadsAll s.heap us ds as ∧ sysModules ∉ as
  | _, _, _, .nil, r => by
    cases r
    exact ⟨_, .nil, by simp⟩
  | _, _, _, .cons h t, r => by
    cases r with
    | cons r1 r2 =>
      obtain ⟨as, q1, m1⟩ := Dq.reads I _ h r1
      obtain ⟨bs, q2, m2⟩ := DqAll.reads I _ t r2
      refine ⟨_, .cons q1 q2, fun y => ?_⟩
      rcases List.mem_append.mp y with q | q
      · exact m1 q
      · exact m2 q
end
/-- repr(x), x a list, a tuple or a dict of data -/
def rRepr (K : PySem.W.Frag) : List V → Hp → VK → Prop := fun xs H Q => ∃ (a : Addr) (d : PyData), xs = [.ref a] ∧ Dq K H (.ref a) d ∧ d.showable = true ∧ d.depth ≤ 60 ∧ d.shown.length ≤ sizeLine ∧ Q (.str d.shown) H
theorem call_repr (hg : X.A.guards = some []) (hu : X.A.units + 64 < cLine) : CallR X (.builtin "repr") (rRepr X.K) := by
  intro pins s σ H xs us Q I r h
  obtain ⟨a, d, rfl, hd, hs, hdep, hz, q⟩ := h
  obtain ⟨u, rfl, ru⟩ := vals1 r
  obtain ⟨as, hr, hm⟩ := Dq.reads I u hd ru
  cases (show u = Value.ref a from ru)
  exact repr_of_reads' hr hs (fun _ => hm) hg (by omega) (fun _ _ e => e) (fun h' u tk hk => ⟨.str d.shown, H, I.kept (t' := tk) hk, ⟨_, rfl⟩, q⟩) hz
end

/-! ### displays, told apart from the import table -/
def tLstB (t : TA) : TE := fun σ H Q => t σ H fun xs H1 => xs.length ≤ sizeLine ∧ ∀ p, H1 p = none → p ≠ sysModules → Q (.ref p) (upd H1 p (.lst xs))
section
variable {X : Cx} {es : List Expr} {t : TA} {pos : Pos}
theorem pe_lstB (h : PA X es t) : PE X (.List es pos) (tLstB t) := by
  refine ⟨fun pins s σ H Q I hq => ?_⟩
  refine wpAny_List_spliced (thn (h.run pos pins s σ H _ I hq) fun us s1 ⟨xs, H1, I1, r, z, q⟩ => ⟨by rw [← r.length]; exact z, ?_⟩)
  have hf : H1 s1.heap.objs.size = none := I1.hok.fresh (Nat.le_refl _)
  have hn : s1.heap.objs.size ≠ sysModules := Nat.ne_of_gt I1.big
  exact ⟨.ref s1.heap.objs.size, upd H1 s1.heap.objs.size (.lst xs), I1.laid (t' := s1.toks) (fun b u e => Heap.get?_push_of_some _ e) (Nat.le_refl _) ⟨z, us, 0, r, Heap.get?_push_size _ rfl⟩, rfl, q _ hf hn⟩
end
/-- xs * k, the new list told apart -/
def rRepB : R2 := fun x y H Q => ∃ l k xs, x = .ref l ∧ y = .int k ∧ H l = some (.lst xs) ∧ -(2 ^ 63) ≤ k ∧ k < 2 ^ 63 ∧ xs.length * k.toNat ≤ sizeLine ∧ ∀ p, H p = none → p ≠ sysModules → Q (.ref p) (upd H p (.lst (List.replicate k.toNat xs).flatten))
theorem op_repB {X : Cx} : OpR X (binaryOp .Mult) rRepB := by
  intro pins s σ H x y v u Q I rx ry h
  obtain ⟨l, k, xs, rfl, rfl, hH, h1, h2, hz, q⟩ := h
  cases rx
  obtain ⟨t, rfl⟩ := ry
  obtain ⟨z, its, n, r, hl, e⟩ := I.lstM hH
  have short : its.toArray.size * k.toNat ≤ sizeLine := by
    rw [List.size_toArray, ← hl]
    exact hz
  have cap : ¬ its.toArray.size * k.toNat > (2 ^ 63 - 1) / 8 := by
    have z2 : (sizeLine : Nat) ≤ (2 ^ 63 - 1) / 8 := by decide
    omega
  have fit : ¬ (!Builtin.List.listFitsIndex k) = true := by
    rw [fitsIndex_both h1 h2]
    decide
  have long : ¬ Builtin.List.listTooLong (its.toArray.size * k.toNat) = true := by
    rw [notLongL short]
    decide
  have made : List.foldl (fun x1 x2 => x1 ++ x2) #[] (List.replicate (if its.toArray.isEmpty = true then 0 else k.toNat) its.toArray) = (List.replicate k.toNat its).flatten.toArray := by
    have all : ∀ m : Nat, List.foldl (fun x1 x2 => x1 ++ x2) #[] (List.replicate m its.toArray) = (List.replicate m its).flatten.toArray := by
      intro m
      simpa using foldl_rep its m []
    rw [all]
    cases its with
    | nil => simp
    | cons a r' => rw [if_neg (by simp)]
  refine wpAny_binaryOp_repeat_ref (T := "list") (U := "int") (by decide) ⟨_, e, rfl⟩ (fun s' => typeIs_int s' k t) noFill_list_mul F.fills_int_mul F.slot_int_rmul repeat_list F.slot_int_index.lookup ?_
  refine call_meets F.slot_int_rmul (typeIs_int s k t) F.entry_int_rmul (F.args_int_rmul_2 _ _) (int___rmul___int_list k t l its.toArray n) ⟨e, rfl, ⟨_, e, rfl⟩, ?_⟩
  refine call_meets F.slot_list_mul ⟨_, e, rfl⟩ F.entry_list_mul (F.args_list_mul_2 _ _) (AutoListH.list___mul___list_int_3 l its.toArray n k t fit cap long) ⟨e, ?_⟩
  rw [made]
  exact ⟨.ref _, _, I.lnew (t' := s.toks) (r.rep k.toNat) (by rw [PyProof.Rows.lm_len_rep_flat, Nat.mul_comm]; exact hz), rfl, q _ I.fresh (Nat.ne_of_gt I.big)⟩
/-- s * n -/
theorem op_mul_str {X : Cx} : OpR X (binaryOp .Mult) (fun x y H Q => ∃ z n, x = .str z ∧ y = .int n ∧ MulOk z n ∧ Q (.str (Txt.mul z n)) H) := by
  intro pins s σ H x y v u Q I rx ry h
  obtain ⟨z, n, rfl, rfl, hm, q⟩ := h
  obtain ⟨t, rfl⟩ := rx
  obtain ⟨t', rfl⟩ := ry
  exact SB.mul hm fun _ _ => ⟨.str _, H, I.tok _, ⟨_, rfl⟩, q⟩

/-! ### what an exception's __init__ stores -/
section
open PySem.W PySem.Calls
open Builtin Builtin.ObjectAttr
variable {prog : Program} {w : World} {A : Around} {R : Result → Shared → Prop} {hp : Heap} {g : Array GenState} {d : Drawn} {t : Nat} {os : OsState}
/-- the classes along which a store is looked at let it pass -/
structure Lets (K : Frag) (C : Addr) : Prop where
  ex : ∃ cd, clsIn K C = some cd ∧ (∀ self, refuseLoop self "__setattr__" cd.mro = pure ()) ∧ cd.mro.isEmpty = false ∧ cd.mro.contains (.type "object") = true ∧ cd.hasDict = true
theorem XI.lets {K : Frag} {C fI : Addr} (T : XI K C fI) : Lets K C := by
  obtain ⟨nm, q, N, bs, bm, sn, sub, ab, col, dd, k0, k1, k2, k3, k5, B, newId, initId, bmB, FB, SF, hbm, hC⟩ := T.cls
  refine ⟨{ name := nm, bases := bs, mro := .ref C :: bm, ns := N, qualname := q, hasDict := true, slotNames := sn, subclasses := sub, abstract := ab, collection := col, hasDel := false }, ?_, fun self => ?_, rfl, ?_, rfl⟩
  · unfold clsIn
    rw [hC] <;> rfl
  · show refuseLoop self "__setattr__" (.ref C :: bm) = pure ()
    rw [refuseLoop_ref]
    exact excTail_pass self (SF.passes self) bm hbm
  · show (Value.ref C :: bm).contains (.type "object") = true
    rw [List.contains_cons, excTail_contains "object" bm hbm, SF.hasOwner, Bool.or_true]
theorem store_first {K : Frag} {name : Str} {tk : Tok} {v : Value} {x C : Addr} {fv : Array Value} (T : Lets K C)
    (X : K.In hp) (hx : hp.get? x = some { cls := .ref C, data := .fields fv }) (ha : findIn K (.ref C) name = some none)
    (hq : ∀ h' tk' dx, (∀ b o, b ≠ x → hp.get? b = some o → h'.get? b = some o) → hp.objs.size ≤ dx → dx ≠ x → h'.get? x = some { cls := .ref C, dict := some dx, data := .fields fv } →
      h'.Ns1 dx (fun y => if y = name then some v else none) → R (.ok (.ret .none)) ⟨h', g, d, tk', os⟩) :
    codeAny (model prog w) A (.call (.builtin "object.__setattr__") ⟨[.ref x, .str name tk, v], []⟩) R ⟨hp, g, d, t, os⟩ := by
  obtain ⟨cd, hcd, hpass, ne, hob, hh⟩ := T.ex
  have I : InstAt hp x { cls := .ref C, data := .fields fv } C none := ⟨hx, rfl, rfl, trivial⟩
  have SF := F.store_object
  have apart : x ≠ hp.objs.size := Nat.ne_of_lt (Heap.lt_size hx)
  have isO : Looks (model prog w) hp (isInstance (.ref x) (.type "object")) true :=
    I.type.andThen (looks_mroIn X (by unfold mroIn; rw [hcd, Option.bind_some, if_neg (by rw [ne]; decide), hob]))
  refine codeAny_call_builtin SF.slot.plain SF.entry (@check_slot (model prog w) _ _ ⟨hp, g, d, t, os⟩ "object.__setattr__" "object" "__setattr__" (.ref x) [.str name tk, v] [] _ SF.kind SF.split isO (SF.args (.ref x) (.str name tk) v) ?_)
  have along : Looks (model prog w) hp (mroOf (.ref C)) cd.mro := (looks_clsIn X hcd).andThen .now
  have taker : Looks (model prog w) hp (storeTaker? none) none := .now
  have theCls : Looks (model prog w) hp (classData C) cd := looks_clsIn X hcd
  rw [osa_eq, refuse_eq]
  refine wpAny_bind (wpAny_bind (I.type.at (wpAny_bind (along.at ?_))))
  rw [hpass]
  refine wpAny_pure (wpAny_bind (I.type.at (wpAny_bind ((looks_findIn X ha).at (wpAny_bind (taker.at ?_))))))
  show wpAny _ _ (storeInOwnDict (.ref x) (.ref C) (.str name tk) name v false) _ _ _
  obtain ⟨nm, bs, mro, ns, qn, hd, sn, sb, ab, col, del⟩ := cd
  dsimp only at hh
  subst hh
  unfold storeInOwnDict ownDictForStores
  repeat (first | with_reducible refine HandSPX.store_in_new ?_ ?_ | with_reducible refine wpAny_loadPart_at hx ?_ | with_reducible refine theCls.at ?_ | wp_step)
  · exact ⟨_, #[], _, (Heap.get?_update_ne _ _ _ _ apart.symm).trans (Heap.get?_push_at rfl rfl), rfl, fun e he => absurd he (by simp), fun _ => rfl⟩
  · intro h' tk' hn' hs
    have held : (hp.push { cls := .type "dict", data := .dict #[] }).get? x = some { cls := .ref C, data := .fields fv } := Heap.get?_push_of_some _ hx
    refine hq h' tk' hp.objs.size (fun b o hb ho => ?_) (Nat.le_refl _) apart.symm ((hs.2 x apart).trans (Heap.get?_update_self _ held rfl)) hn'
    exact (hs.2 b (Nat.ne_of_lt (Heap.lt_size ho))).trans ((Heap.get?_update_ne _ _ _ _ hb).trans (Heap.get?_push_of_some _ ho))
theorem store_more {K : Frag} {name : Str} {tk : Tok} {v : Value} {x C dx : Addr} {fv : Array Value} {m0 : Str → Option Value} {nl : List Str} (T : Lets K C)
    (X : K.In hp) (hx : hp.get? x = some { cls := .ref C, dict := some dx, data := .fields fv }) (hns : hp.Ns1 dx m0) (hw : Within m0 nl) (hz : nl.length ≤ 1000) (ha : findIn K (.ref C) name = some none)
    (hq : ∀ h' tk', (∀ b o, b ≠ dx → hp.get? b = some o → h'.get? b = some o) → h'.Ns1 dx (fun y => if y = name then some v else m0 y) → R (.ok (.ret .none)) ⟨h', g, d, tk', os⟩) :
    codeAny (model prog w) A (.call (.builtin "object.__setattr__") ⟨[.ref x, .str name tk, v], []⟩) R ⟨hp, g, d, t, os⟩ := by
  obtain ⟨cd, hcd, hpass, ne, hob, hh⟩ := T.ex
  obtain ⟨oD, esD, epD, hoD, hdD, _⟩ := hns.count hw
  have I : InstAt hp x { cls := .ref C, dict := some dx, data := .fields fv } C (some oD) := ⟨hx, rfl, rfl, hoD⟩
  have SF := F.store_object
  have isO : Looks (model prog w) hp (isInstance (.ref x) (.type "object")) true :=
    I.type.andThen (looks_mroIn X (by unfold mroIn; rw [hcd, Option.bind_some, if_neg (by rw [ne]; decide), hob]))
  refine codeAny_call_builtin SF.slot.plain SF.entry (@check_slot (model prog w) _ _ ⟨hp, g, d, t, os⟩ "object.__setattr__" "object" "__setattr__" (.ref x) [.str name tk, v] [] _ SF.kind SF.split isO (SF.args (.ref x) (.str name tk) v) ?_)
  have along : Looks (model prog w) hp (mroOf (.ref C)) cd.mro := (looks_clsIn X hcd).andThen .now
  have taker : Looks (model prog w) hp (storeTaker? none) none := .now
  have theCls : Looks (model prog w) hp (classData C) cd := looks_clsIn X hcd
  rw [osa_eq, refuse_eq]
  refine wpAny_bind (wpAny_bind (I.type.at (wpAny_bind (along.at ?_))))
  rw [hpass]
  refine wpAny_pure (wpAny_bind (I.type.at (wpAny_bind ((looks_findIn X ha).at (wpAny_bind (taker.at ?_))))))
  show wpAny _ _ (storeInOwnDict (.ref x) (.ref C) (.str name tk) name v false) _ _ _
  obtain ⟨nm, bs, mro, ns, qn, hd, sn, sb, ab, col, del⟩ := cd
  dsimp only at hh
  subst hh
  unfold storeInOwnDict ownDictForStores
  repeat (first | with_reducible refine OEX.store_in_old hns hw hz ?_ | with_reducible refine wpAny_loadPart_at hx ?_ | with_reducible refine theCls.at ?_ | wp_step)
  intro h' tk' hn' hs
  exact hq h' tk' (fun b o hb ho => (hs.2 b hb).trans ho) hn'
end
section
variable {X : Cx} {pins : List (Addr × Obj)} {σ : L2.St} {H : Hp} {s : Shared} {a C fI dx : Addr} {f : Str} {y : V} {u : Value} {fs : List (Str × V)} {Q : Unit → Shared → Prop} {E : Value → Shared → Prop} {A : Around}
theorem xst_first (T : XI X.K C fI) (I : Inv X pins σ H s) (e : H a = some (exo a C none)) (hno : PySem.W.findIn X.K (.ref C) f = some none) (ry : RelV y u)
    (h : ∀ dx s', H dx = none → dx ≠ a → Inv X pins σ (upd (upd H dx (exd dx [(f, y)])) a (exo a C (some dx))) s' → Q () s') : wpAny (model X.prog X.w) A (setAttr (.ref a) f u) Q E s := by
  obtain ⟨t1, ho⟩ := exo_at I.hok e
  obtain ⟨hp, g, d, t, os⟩ := s
  refine PySem.W.set_plain I.kIn (ox := { cls := .ref C, dict := none, data := .fields #[.ref t1, .none, .none, .none, .bool false, .none] }) (od := none) ⟨ho, rfl, rfl, trivial⟩ T.sa ?_
  refine store_first T.lets I.kIn ho hno fun h' tk' dx k dn dne hx hn => ?_
  have fresh : H dx = none := I.hok.fresh dn
  have ned : ∀ {b : Addr} {o : Obj}, hp.get? b = some o → b ≠ dx := fun {b o} q => Nat.ne_of_lt (Nat.lt_of_lt_of_le (Heap.lt_size q) dn)
  have nea : ∀ {b : Addr}, H b = none → b ≠ a := by
    intro b n z
    rw [z, e] at n
    cases n
  have un : Un X.fs [] H (upd (upd H dx (exd dx [(f, y)])) a (exo a C (some dx))) hp h' := by
    refine ⟨fun b o q n _ _ => k b o (nea n) q, fun b o q n _ _ => ⟨o.slots, k b o (nea n) q⟩, fun b o q n _ => ?_, fun b o q _ => ?_, fun b xs q => ?_, fun b o v q => ?_, fun b ps q => ⟨#[], ?_⟩⟩
    · rw [upd_ne (nea n), upd_ne (ned q)]
      exact n
    · by_cases hb : b = a
      · exact ⟨_, by rw [hb]; exact hx⟩
      · exact ⟨o, k b o hb q⟩
    · rw [upd_ne (at_ne e q exo_tup), upd_ne (ne_of_none q fresh)]
      exact q
    · rw [upd_ne (at_ne e q exo_frz), upd_ne (ne_of_none q fresh)]
      exact q
    · rw [upd_ne (at_ne e q exo_tbl), upd_ne (ne_of_none q fresh), q]
      simp
  refine h dx _ fresh dne (I.un (t' := tk') un fun b o q => ?_)
  by_cases hb : b = a
  · subst hb
    rw [upd_same] at q
    cases q
    exact exo_ok hx
  · rw [upd_ne hb] at q
    by_cases hd : b = dx
    · subst hd
      rw [upd_same] at q
      cases q
      exact exd_ok hn (relO_put (fs := []) ry fun g => True.intro)
    · rw [upd_ne hd] at q
      refine (I.hok b o q).stay (fun c v hc z => k c v ?_ z) (fun c hc => ?_) (fun c xs hc => ?_)
      · rcases hc with hc | hc
        · rw [hc]
          exact hb
        · exact at_ne e hc exo_own
      · rw [upd_ne (at_ne e hc exo_own), upd_ne (ne_of_none hc fresh)]
        exact hc
      · rw [upd_ne (at_ne e hc exo_tup), upd_ne (ne_of_none hc fresh)]
        exact hc
theorem xst_more (T : XI X.K C fI) (I : Inv X pins σ H s) (e : H a = some (exo a C (some dx))) (ed : H dx = some (exd dx fs)) (hl : fs.length ≤ 900) (hno : PySem.W.findIn X.K (.ref C) f = some none) (ry : RelV y u)
    (h : ∀ s', Inv X pins σ (upd H dx (exd dx ((f, y) :: fs))) s' → Q () s') : wpAny (model X.prog X.w) A (setAttr (.ref a) f u) Q E s := by
  obtain ⟨t1, ho⟩ := exo_at I.hok e
  obtain ⟨mA, hns, rel⟩ := exd_at I.hok ed
  have hw := within_of rel
  obtain ⟨hp, g, d, t, os⟩ := s
  obtain ⟨oD, _, _, hoD, _, _⟩ := hns.count hw
  refine PySem.W.set_plain I.kIn (ox := { cls := .ref C, dict := some dx, data := .fields #[.ref t1, .none, .none, .none, .bool false, .none] }) (od := some oD) ⟨ho, rfl, rfl, hoD⟩ T.sa ?_
  refine store_more T.lets I.kIn ho hns hw (by rw [List.length_map]; omega) hno fun h' tk' k hn => ?_
  have there : ∃ o, h'.get? dx = some o := by
    obtain ⟨o, _, _, e', _⟩ := hn
    exact ⟨o, e'⟩
  exact h _ (I.write (t' := tk') (x := dx) (e := dx) (o := exd dx ((f, y) :: fs)) (by rw [ed]; exact True.intro) (.inl rfl) k there (exd_ok hn (relO_put ry rel)))
end
/-- self.f = e, self an exception that is being made -/
def tXst (K : PySem.W.Frag) (f : Str) (to te : TE) : TS := fun D σ H => te σ H fun y H1 => to σ H1 fun x H2 => ∃ a C fI : Addr, x = .ref a ∧ XI K C fI ∧ PySem.W.findIn K (.ref C) f = some none ∧
  ((H2 a = some (exo a C none) ∧ ∀ dx, H2 dx = none → dx ≠ a → D.nx σ (upd (upd H2 dx (exd dx [(f, y)])) a (exo a C (some dx)))) ∨
    ∃ (dx : Addr) (fs : List (Str × V)), H2 a = some (exo a C (some dx)) ∧ H2 dx = some (exd dx fs) ∧ fs.length ≤ 900 ∧ D.nx σ (upd H2 dx (exd dx ((f, y) :: fs))))
theorem ps_xst {X : Cx} {o e : Expr} {to te : TE} {f : Str} {p' pos : Pos} (ho : PE X o to) (he : PE X e te) (hs : swapsWith e (some (.Attribute o f p')) pos.line X.env = pure false := by rfl) : PS X (.Assign [.Attribute o f p'] e pos) (tXst X.K f to te) := by
  refine ⟨fun pins s σ H D I h => ?_⟩
  refine plainObj_wpAny_Assign_Attribute (thn (he.run pins s σ H _ I h) fun v s1 ⟨y, H1, I1, r1, q1⟩ => thn (ho.run pins s1 σ H1 _ I1 q1) fun u s2 ⟨x, H2, I2, r2, a, C, fI, ex, T, hno, q⟩ => ?_) hs
  subst ex
  obtain rfl : u = Value.ref a := r2
  rcases q with ⟨ea, q⟩ | ⟨dx, fs, ea, ed, hl, q⟩
  · exact xst_first T I2 ea hno r1 fun dx s' n ne J => ⟨σ, _, J, q dx n ne⟩
  · exact xst_more T I2 ea ed hl hno r1 fun s' J => ⟨σ, _, J, q⟩
end Bc

namespace Bc
open PySem PySem.Spec PyProof.Rows L2

/-! ### the law's source of numbers: a dict at d, its cells in a list at c -/
def srcKV (c : Addr) (l m t : Int) : List (Key × V) := [(.inr "cells", .ref c), (.inr "left", .int l), (.inr "mixed", .int m), (.inr "turn", .int t)]
theorem src_cells (c : Addr) (l m t : Int) : valV (srcKV c l m t) (Sum.inr "cells" : Key) = some (.ref c) := by rfl
theorem src_left (c : Addr) (l m t : Int) : valV (srcKV c l m t) (Sum.inr "left" : Key) = some (.int l) := by rfl
theorem src_mixed (c : Addr) (l m t : Int) : valV (srcKV c l m t) (Sum.inr "mixed" : Key) = some (.int m) := by rfl
theorem src_turn (c : Addr) (l m t : Int) : valV (srcKV c l m t) (Sum.inr "turn" : Key) = some (.int t) := by rfl
theorem put_left (c : Addr) (l m t x : Int) : putK (srcKV c l m t) (Sum.inr "left" : Key) (.int x) = srcKV c x m t := by rfl
theorem put_mixed (c : Addr) (l m t x : Int) : putK (srcKV c l m t) (Sum.inr "mixed" : Key) (.int x) = srcKV c l x t := by rfl
theorem put_turn (c : Addr) (l m t x : Int) : putK (srcKV c l m t) (Sum.inr "turn" : Key) (.int x) = srcKV c l m x := by rfl
theorem src_new (c : Addr) (l m t : Int) : mergeK [] (srcKV c l m t) = srcKV c l m t := by rfl
/-- the source stands at d and c, with n cells left -/
def SrcN (H : Hp) (d c : Addr) (n : Nat) : Prop := d ≠ c ∧ ∃ (cells : List Int) (l m t : Int), H d = some (.dK (srcKV c l m t)) ∧ H c = some (.lst (cells.map V.int)) ∧ cells.length = n
def SrcAt (H : Hp) (d c : Addr) : Prop := ∃ n, n ≤ 100 ∧ SrcN H d c n
/-- all but the source is as it was -/
def Else (d c : Addr) (H H' : Hp) : Prop := ∀ b, b ≠ d → b ≠ c → H' b = H b
theorem Else.refl {d c : Addr} {H : Hp} : Else d c H H := fun _ _ _ => rfl
theorem Else.trans {d c : Addr} {H H1 H2 : Hp} (a : Else d c H H1) (b : Else d c H1 H2) : Else d c H H2 := fun x h1 h2 => (b x h1 h2).trans (a x h1 h2)
theorem Else.updD {d c : Addr} {H : Hp} {o : HO} : Else d c H (upd H d o) := fun x h1 _ => upd_ne h1
theorem Else.updC {d c : Addr} {H : Hp} {o : HO} : Else d c H (upd H c o) := fun x _ h2 => upd_ne h2
/-- the source's promises -/
def spSource (K : PySem.W.Frag) : Sp := fun vs H Q _ => ∃ (a : Addr) (ns : List Int), vs = [.ref a] ∧ SqL K H a (ns.map V.int) ∧ ns.length ≤ 100 ∧
  ∀ (d c : Addr) (H' : Hp), Same H H' → H d = none → H c = none → SrcAt H' d c → Q (.ref d) H'
def spPick : Sp := fun vs H Q _ => ∃ (d c : Addr) (many : Int), vs = [.ref d, .int many] ∧ SrcAt H d c ∧ 0 ≤ many ∧ many ≤ 1000000 ∧
  ∀ (r : Int) (H' : Hp), 0 ≤ r → r < max 1 many → SrcAt H' d c → Else d c H H' → Q (.int r) H'
/-- a while by its measure: what follows is shown once, for every state that the invariant holds of -/
theorem while_of {c : TT} {tb : TS} {D : Ends} {σ : L2.St} {H : Hp} (W : Nat → L2.St → Hp → Prop) (h0 : ∃ m, W m σ H) (fin : ∀ m σ H, W m σ H → D.nx σ H)
    (turn : ∀ m σ H, W m σ H → D.nx σ H → c σ H fun b H1 => if b = true then ∃ N : L2.St → Hp → Prop, (∀ σ' H', N σ' H' → ∃ m', m' < m ∧ W m' σ' H') ∧ tb { D with nx := N, ct := N, bk := D.nx } σ H1 else D.nx σ H1) : tWhile c tb D σ H :=
  ⟨W, h0, fun m σ H w => turn m σ H w (fin m σ H w)⟩
/-- .. where what follows leans on how the loop ended -/
theorem while_ex {c : TT} {tb : TS} {D : Ends} {σ : L2.St} {H : Hp} (W : Nat → L2.St → Hp → Prop) (Z : L2.St → Hp → Prop) (h0 : ∃ m, W m σ H) (fin : ∀ σ H, Z σ H → D.nx σ H)
    (turn : ∀ m σ H, W m σ H → (∀ σ H, Z σ H → D.nx σ H) → c σ H fun b H1 => if b = true then ∃ N : L2.St → Hp → Prop, (∀ σ' H', N σ' H' → ∃ m', m' < m ∧ W m' σ' H') ∧ tb { D with nx := N, ct := N, bk := D.nx } σ H1 else D.nx σ H1) : tWhile c tb D σ H :=
  ⟨W, h0, fun m σ H w => turn m σ H w fin⟩
theorem lc_yes {σ : L2.St} {H : Hp} {A B : Hp → Prop} (h : A H) : tYes σ H (fun b H3 => if b = true then A H3 else B H3) := by
  show (if true = true then A H else B H)
  rw [if_pos rfl]
  exact h
theorem pop_last {cells : List Int} {x : Int} (h : cells.getLast? = some x) : (cells.map V.int)[(cells.map V.int).length - 1]? = some (.int x) := by
  rw [List.length_map, List.getElem?_map, ← List.getLast?_eq_getElem?, h]
  rfl
theorem same_new {H : Hp} {p : Addr} {o : HO} (h : H p = none) : Same H (upd H p o) := fun b x e => by
  rw [upd_ne (ne_of_none e h)]
  exact e
end Bc

namespace Bc
open PySem PySem.Spec PyProof.Rows L2

/-! ### written data: a display whose value lies in new objects alone -/
def newOf (H H' : Hp) : Hp := fun b => if H b = none then H' b else none
theorem newOf_up {H H1 H2 : Hp} (s : Same H1 H2) : Same (newOf H H1) (newOf H H2) := fun b o e => by
  unfold newOf at e ⊢
  by_cases h : H b = none
  · rw [if_pos h] at e ⊢
    exact s b o e
  · rw [if_neg h] at e
    cases e
theorem newOf_down {H H1 H2 : Hp} (s : Same H H1) : Same (newOf H1 H2) (newOf H H2) := fun b o e => by
  unfold newOf at e ⊢
  by_cases h : H1 b = none
  · rw [if_pos h] at e
    rw [if_pos (s.free h)]
    exact e
  · rw [if_neg h] at e
    cases e
theorem newOf_upd {H H1 : Hp} {p : Addr} {o : HO} (s : Same H H1) (hp : H1 p = none) : newOf H (upd H1 p o) p = some o := by
  unfold newOf
  rw [if_pos (s.free hp), upd_same]
theorem newOf_all {H H1 : Hp} : Same (newOf H H1) H1 := fun b o e => by
  unfold newOf at e
  by_cases h : H b = none
  · rw [if_pos h] at e
    exact e
  · rw [if_neg h] at e
    cases e
def tD (K : PySem.W.Frag) (c : L2.St → Prop) (d : PyData) : TE := fun σ H Q => c σ ∧ ∀ v H', Same H H' → Dq K (newOf H H') v d → Q v H'
def tDs (K : PySem.W.Frag) (c : L2.St → Prop) (ds : List PyData) : TA := fun σ H Q => c σ ∧ ∀ vs H', Same H H' → DqAll K (newOf H H') vs ds → Q vs H'
abbrev cT : L2.St → Prop := fun _ => True
abbrev cAnd (c c' : L2.St → Prop) : L2.St → Prop := fun σ => c σ ∧ c' σ
theorem PE.imp {X : Cx} {e : Expr} {t t' : TE} (h : PE X e t) (f : ∀ σ H Q, t' σ H Q → t σ H Q) : PE X e t' := ⟨fun pins s σ H Q I q => h.run pins s σ H Q I (f σ H Q q)⟩
theorem PA.imp {X : Cx} {es : List Expr} {t t' : TA} (h : PA X es t) (f : ∀ σ H Q, t' σ H Q → t σ H Q) : PA X es t' := ⟨fun pos pins s σ H Q I q => h.run pos pins s σ H Q I (f σ H Q q)⟩
section
variable {X : Cx} {e : Expr} {es : List Expr} {c c' : L2.St → Prop} {d : PyData} {ds : List PyData} {pos : Pos}
theorem pd_of {v : V} {d : PyData} {e : Expr} (h : PE X e (tC v)) (f : ∀ H, Dq X.K H v d) : PE X e (tD X.K cT d) := PE.imp h fun σ H Q q => q.2 v H (Same.refl H) (f _)
theorem pd_int {i : Int} {j : Nat} : PE X (.Constant (.int i) j pos) (tD X.K cT (.int i)) := pd_of pe_int fun _ => .int i
theorem pd_str {x : Str} {j : Nat} : PE X (.Constant (.str x) j pos) (tD X.K cT (.str x)) := pd_of pe_str fun _ => .str x
theorem pd_non {j : Nat} : PE X (.Constant .none j pos) (tD X.K cT .none) := pd_of pe_non fun _ => .non
theorem pd_bl {b : Bool} {j : Nat} : PE X (.Constant (.bool b) j pos) (tD X.K cT (.bool b)) := pd_of pe_bl fun _ => .bl b
theorem pd_neg {i : Int} {j : Nat} {p : Pos} : PE X (.UnaryOp .USub (.Constant (.int i) j p) pos) (tD X.K cT (.int (-i))) := PE.imp (pe_un un_neg pe_int) fun σ H Q q => ⟨i, rfl, q.2 _ H (Same.refl H) (.int _)⟩
theorem pd_mul {x : Str} {n : Int} {j j' : Nat} {p p' : Pos} (hm : MulOk x n) : PE X (.BinOp (.Constant (.str x) j p) .Mult (.Constant (.int n) j' p') pos) (tD X.K cT (.str (Txt.mul x n))) :=
  PE.imp (pe_op op_mul_str pe_str pe_int) fun σ H Q q => ⟨x, n, rfl, rfl, hm, q.2 _ H (Same.refl H) (.str _)⟩
/-- a name that holds a number -/
theorem pd_var {i : Nat} {z : Int} {x : Str} (h : PE X (.Name x pos) (tVar i)) : PE X (.Name x pos) (tD X.K (fun σ => σ[i]? = some (some (.int z))) (.int z)) :=
  PE.imp h fun σ H Q q => ⟨_, q.1, q.2 _ H (Same.refl H) (.int z)⟩
theorem pds_nil : PA X [] (tDs X.K cT []) := PA.imp pa_nil fun σ H Q q => q.2 [] H (Same.refl H) .nil
theorem pds_cons (h : PE X e (tD X.K c d)) (hr : PA X es (tDs X.K c' ds)) (hs : starEach (e :: es) X.env = (false, eval e X.env) :: starEach es X.env := by rfl) : PA X (e :: es) (tDs X.K (cAnd c c') (d :: ds)) :=
  PA.imp (pa_cons h hr hs) fun σ H Q q => ⟨q.1.1, fun v H1 s1 d1 => ⟨q.1.2, fun vs H2 s2 d2 => q.2 (v :: vs) H2 (s1.trans s2) (.cons (Dq.same (newOf_up s2) d1) (DqAll.same (newOf_down s1) d2))⟩⟩
theorem pd_lst (h : PA X es (tDs X.K c ds)) (hz : ds.length ≤ sizeLine := by decide) : PE X (.List es pos) (tD X.K c (.list ds)) :=
  PE.imp (pe_lstB h) fun σ H Q q => ⟨q.1, fun vs H1 s1 d1 => ⟨by rw [d1.len]; exact hz, fun p hp np => q.2 _ _ (s1.trans (same_new hp)) (.lst (.inl (.inl (newOf_upd s1 hp))) (DqAll.same (newOf_up (same_new hp)) d1) np)⟩⟩
theorem pd_tup {x1} (h : PA X es (tDs X.K c ds)) (hz : ds.length ≤ sizeLine := by decide) : PE X (.Tuple es x1 pos) (tD X.K c (.tuple ds)) :=
  PE.imp (pe_tup h) fun σ H Q q => ⟨q.1, fun vs H1 s1 d1 => ⟨by rw [d1.len]; exact hz, fun p hp => q.2 _ _ (s1.trans (same_new hp)) (.tup (.inl (.inl (newOf_upd s1 hp))) (DqAll.same (newOf_up (same_new hp)) d1))⟩⟩
theorem pd_dict0 : PE X (.Dict [] [] pos) (tD X.K cT (.dict [])) :=
  PE.imp pe_dnewK fun σ H Q q => fun p hp => q.2 _ _ (same_new hp) (.dic (kvs := []) (ds := []) (newOf_upd (Same.refl H) hp) .nil)
theorem pd_dict1 {x : Str} {i : Int} {j j' : Nat} {p1 p2 : Pos} : PE X (.Dict [some (.Constant (.str x) j p1)] [.Constant (.int i) j' p2] pos) (tD X.K cT (.dict [(.str x, .int i)])) :=
  PE.imp (pe_disp (pps_cons pe_str pe_int pps_nil) rfl rfl (by simp) (by simp)) fun σ H Q q => fun p hp => ⟨upd_same, [(.inr x, .int i)], rfl, (by show 1 ≤ 15; decide), by
    rw [upd_upd]
    refine q.2 _ _ (same_new hp) ?_
    exact Dq.dic (kvs := [(.inr x, .int i)]) (ds := [.int i]) (newOf_upd (Same.refl H) hp) (.cons (.int i) .nil)⟩
end

/-! ### what lies apart from the source -/
def hid (d c : Addr) (H : Hp) : Hp := fun b => if b = d ∨ b = c then none else H b
theorem hid_all {d c : Addr} {H : Hp} : Same (hid d c H) H := fun b o e => by
  unfold hid at e
  by_cases h : b = d ∨ b = c
  · rw [if_pos h] at e
    cases e
  · rw [if_neg h] at e
    exact e
theorem hid_else {d c : Addr} {H H' : Hp} (e : Else d c H H') : hid d c H' = hid d c H := by
  funext b
  unfold hid
  by_cases h : b = d ∨ b = c
  · rw [if_pos h, if_pos h]
  · rw [if_neg h, if_neg h]
    exact e b (fun z => h (.inl z)) (fun z => h (.inr z))
theorem hid_up {d c : Addr} {H H' : Hp} (s : Same H H') : Same (hid d c H) (hid d c H') := fun b o e => by
  unfold hid at e ⊢
  by_cases h : b = d ∨ b = c
  · rw [if_pos h] at e
    cases e
  · rw [if_neg h] at e ⊢
    exact s b o e
theorem SrcAt.two {H : Hp} {d c : Addr} (x : SrcAt H d c) : H d ≠ none ∧ H c ≠ none := by
  obtain ⟨n, _, _, cells, l, m, t, h1, h2, _⟩ := x
  exact ⟨by rw [h1]; exact Option.some_ne_none _, by rw [h2]; exact Option.some_ne_none _⟩
theorem SrcAt.up {H H' : Hp} {d c : Addr} (x : SrcAt H d c) (s : Same H H') : SrcAt H' d c := by
  obtain ⟨n, hn, ne, cells, l, m, t, h1, h2, hl⟩ := x
  exact ⟨n, hn, ne, cells, l, m, t, s _ _ h1, s _ _ h2, hl⟩
theorem newOf_hid {d c : Addr} {H H' : Hp} (x : SrcAt H d c) : Same (newOf H H') (hid d c H') := fun b o e => by
  unfold newOf at e
  by_cases h : H b = none
  · rw [if_pos h] at e
    unfold hid
    rw [if_neg (fun z => by
      rcases z with z | z
      · rw [z] at h
        exact x.two.1 h
      · rw [z] at h
        exact x.two.2 h)]
    exact e
  · rw [if_neg h] at e
    cases e
/-- an item of written data, by a number that lies in it -/
theorem pick_of {K : PySem.W.Frag} {H : Hp} : ∀ {vs : List V} {ds : List PyData} (n : Nat), DqAll K H vs ds → n < ds.length → ∃ v d, vs[n]? = some v ∧ d ∈ ds ∧ Dq K H v d
  | _, _, _, .nil, h => absurd h (Nat.not_lt_zero _)
  | _, _, 0, .cons a _, _ => ⟨_, _, rfl, List.mem_cons_self .., a⟩
  | _, _, n + 1, .cons _ t, h => by
    obtain ⟨v, d, h1, h2, h3⟩ := pick_of n t (Nat.lt_of_succ_lt_succ h)
    exact ⟨v, d, h1, List.mem_cons_of_mem _ h2, h3⟩
end Bc

namespace Bc
open PySem PySem.Spec PyProof.Rows L2

/-! ### lexemes, in plain Lean: texts are lists of codes -/
abbrev sLetters : Str := "abcdefghijklmnopqrstuvwxyz"
abbrev sDigits : Str := "0123456789"
abbrev sSigns : Str := "(){},;"
abbrev sBlanks : Str := " \n"
def inS (z : Str) (c : Nat) : Bool := decide (c ∈ z.cps.toList)
def alnum (c : Nat) : Bool := inS (sLetters ++ sDigits) c
/-- the lexeme with which a text begins: its sort, its length -/
def tokS : List Nat → Option (Str × Nat)
  | [] => none
  | c :: t => if inS sSigns c = true then some ("sign", 1) else if inS sLetters c = true then (if ((c :: t).takeWhile alnum).length ≤ 12 then some ("word", ((c :: t).takeWhile alnum).length) else none)
    else if c = 48 then some ("number", 1) else if inS sDigits c = true then some ("number", ((c :: t).takeWhile (inS sDigits)).length) else none
theorem tokS_cons (c : Nat) (t : List Nat) : tokS (c :: t) = if inS sSigns c = true then some (("sign" : Str), 1) else if inS sLetters c = true then (if ((c :: t).takeWhile alnum).length ≤ 12 then some (("word" : Str), ((c :: t).takeWhile alnum).length) else none)
    else if c = 48 then some (("number" : Str), 1) else if inS sDigits c = true then some (("number" : Str), ((c :: t).takeWhile (inS sDigits)).length) else none := rfl
abbrev Tok := Str × List Nat × Nat
def lexS : Nat → List Nat → Nat → List Tok × Option Nat
  | 0, _, _ => ([], none)
  | _ + 1, [], _ => ([], none)
  | n + 1, c :: t, i => if inS sBlanks c = true then lexS n t (i + 1) else match tokS (c :: t) with
    | none => ([], some i)
    | some (k, m) => ((k, (c :: t).take m, i) :: (lexS n ((c :: t).drop m) (i + m)).1, (lexS n ((c :: t).drop m) (i + m)).2)
theorem let_alnum {c : Nat} (h : inS sLetters c = true) : alnum c = true := by
  unfold alnum inS at *
  rw [decide_eq_true_eq] at *
  rw [show (sLetters ++ sDigits).cps.toList = sLetters.cps.toList ++ sDigits.cps.toList by decide +kernel]
  exact List.mem_append_left _ h
theorem tok_pos {s : List Nat} {k : Str} {m : Nat} (h : tokS s = some (k, m)) : 1 ≤ m ∧ m ≤ s.length := by
  cases s with
  | nil => cases h
  | cons c t =>
    have tw : ∀ {p : Nat → Bool}, p c = true → 1 ≤ ((c :: t).takeWhile p).length ∧ ((c :: t).takeWhile p).length ≤ (c :: t).length := fun {p} hp => by
      refine ⟨?_, (List.takeWhile_sublist p).length_le⟩
      rw [List.takeWhile_cons, if_pos hp, List.length_cons]
      omega
    rw [tokS_cons] at h
    by_cases h1 : inS sSigns c = true
    · rw [if_pos h1] at h
      have e := (Prod.mk.inj (Option.some.inj h)).2
      rw [← e, List.length_cons]
      omega
    · rw [if_neg h1] at h
      by_cases h2 : inS sLetters c = true
      · rw [if_pos h2] at h
        by_cases h3 : ((c :: t).takeWhile alnum).length ≤ 12
        · rw [if_pos h3] at h
          have e := (Prod.mk.inj (Option.some.inj h)).2
          rw [← e]
          exact tw (let_alnum h2)
        · rw [if_neg h3] at h
          cases h
      · rw [if_neg h2] at h
        by_cases h3 : c = 48
        · rw [if_pos h3] at h
          have e := (Prod.mk.inj (Option.some.inj h)).2
          rw [← e, List.length_cons]
          omega
        · rw [if_neg h3] at h
          by_cases h4 : inS sDigits c = true
          · rw [if_pos h4] at h
            have e := (Prod.mk.inj (Option.some.inj h)).2
            rw [← e]
            exact tw h4
          · rw [if_neg h4] at h
            cases h
theorem lex_fuel : ∀ (n m : Nat) (s : List Nat) (i : Nat), s.length < n → s.length < m → lexS n s i = lexS m s i
  | 0, _, _, _, h, _ => absurd h (Nat.not_lt_zero _)
  | _ + 1, 0, _, _, _, h => absurd h (Nat.not_lt_zero _)
  | n + 1, m + 1, [], _, _, _ => rfl
  | n + 1, m + 1, c :: t, i, h1, h2 => by
    have l1 : t.length < n := Nat.lt_of_succ_lt_succ h1
    have l2 : t.length < m := Nat.lt_of_succ_lt_succ h2
    unfold lexS
    rw [lex_fuel n m t (i + 1) l1 l2]
    cases e : tokS (c :: t) with
    | none => rfl
    | some q =>
      obtain ⟨k, j⟩ := q
      have hp := tok_pos e
      have hd : ((c :: t).drop j).length ≤ t.length := by
        rw [List.length_drop, List.length_cons]
        omega
      dsimp only
      rw [lex_fuel n m ((c :: t).drop j) (i + j) (Nat.lt_of_le_of_lt hd l1) (Nat.lt_of_le_of_lt hd l2)]
/-- the lexemes of a text that begins at the place i, and the place where none begins -/
def Lx (s : List Nat) (i : Nat) : List Tok × Option Nat := lexS (s.length + 1) s i
theorem Lx_nil (i : Nat) : Lx [] i = ([], none) := rfl
theorem Lx_blank {c : Nat} {t : List Nat} {i : Nat} (h : inS sBlanks c = true) : Lx (c :: t) i = Lx t (i + 1) := by
  show lexS (t.length + 1 + 1) (c :: t) i = lexS (t.length + 1) t (i + 1)
  rw [lexS, if_pos h]
theorem Lx_bad {c : Nat} {t : List Nat} {i : Nat} (h : inS sBlanks c = false) (e : tokS (c :: t) = none) : Lx (c :: t) i = ([], some i) := by
  show lexS (t.length + 1 + 1) (c :: t) i = _
  rw [lexS, h, e]
  rfl
theorem Lx_tok {c : Nat} {t : List Nat} {i m : Nat} {k : Str} (h : inS sBlanks c = false) (e : tokS (c :: t) = some (k, m)) :
    Lx (c :: t) i = ((k, (c :: t).take m, i) :: (Lx ((c :: t).drop m) (i + m)).1, (Lx ((c :: t).drop m) (i + m)).2) := by
  have hp := tok_pos e
  have hf : lexS (t.length + 1) ((c :: t).drop m) (i + m) = Lx ((c :: t).drop m) (i + m) := by
    refine lex_fuel _ _ _ _ ?_ (Nat.lt_succ_self _)
    rw [List.length_drop, List.length_cons]
    omega
  show lexS (t.length + 1 + 1) (c :: t) i = _
  rw [lexS, h, e]
  simp only [Bool.false_eq_true, if_false]
  rw [hf]
theorem Lx_skip : ∀ (s : List Nat) (i : Nat), Lx s i = Lx (s.drop ((s.takeWhile (inS sBlanks)).length)) (i + (s.takeWhile (inS sBlanks)).length)
  | [], _ => rfl
  | c :: t, i => by
    by_cases h : inS sBlanks c = true
    · rw [Lx_blank h, List.takeWhile_cons, if_pos h, List.length_cons, List.drop_succ_cons, Lx_skip t (i + 1)]
      congr 1
      omega
    · rw [List.takeWhile_cons, if_neg h]
      rfl
/-! ### spaced lexemes -/
def codes (z : Str) : List Nat := z.cps.toList
/-- the lexemes that the law draws -/
def menuL : List Str := ["a", "x1", "abcdefghijkl", "root", "0", "7", "10", "305", "1000000000000000000000000000000", "(", ")", "{", "}", ",", ";"]
/-- whether a sign behind the lexeme goes on with it -/
def ext (w : Str) (h : Option Nat) : Bool := match h with
  | none => false
  | some c => match (codes w) with
    | [] => false
    | a :: _ => (inS sLetters a && alnum c) || (inS sDigits a && !(decide (a = 48)) && inS sDigits c)
def kindOf (w : Str) : Str := match (codes w) with
  | [] => "none"
  | a :: _ => if inS sSigns a = true then "sign" else if inS sLetters a = true then "word" else "number"
theorem tw_app {p : Nat → Bool} {w r : List Nat} (hw : w.all p = true) (hr : ∀ c, r.head? = some c → p c = false) : (w ++ r).takeWhile p = w := by
  rw [List.takeWhile_append_of_pos (fun a ha => List.all_eq_true.mp hw a ha)]
  cases r with
  | nil => simp
  | cons c t => rw [List.takeWhile_cons, hr c rfl, if_neg Bool.false_ne_true, List.append_nil]
/-- a lexeme of the menu is one of three kinds -/
def goodTok (w : Str) : Bool := match codes w with
  | [] => false
  | a :: t => if inS sSigns a = true then decide (t = []) else if inS sLetters a = true then (codes w).all alnum && decide ((codes w).length ≤ 12) else if a = 48 then decide (t = []) else inS sDigits a && (codes w).all (inS sDigits)
theorem menu_good : ∀ w ∈ menuL, goodTok w = true := fun w hw => List.all_eq_true.mp (show (menuL.all goodTok) = true by decide +kernel) w hw
theorem tok_menu {w : Str} {r : List Nat} (g : goodTok w = true) (he : ext w r.head? = false) : tokS (codes w ++ r) = some (kindOf w, (codes w).length) := by
  unfold goodTok at g
  unfold kindOf
  cases e : codes w with
  | nil =>
    rw [e] at g
    cases g
  | cons a t =>
    rw [e] at g
    dsimp only at g ⊢
    show tokS (a :: (t ++ r)) = _
    rw [tokS_cons]
    by_cases h1 : inS sSigns a = true
    · rw [if_pos h1] at g
      have ht : t = [] := of_decide_eq_true g
      rw [if_pos h1, if_pos h1, ht]
      rfl
    · rw [if_neg h1] at g
      rw [if_neg h1, if_neg h1]
      by_cases h2 : inS sLetters a = true
      · rw [if_pos h2] at g
        rw [if_pos h2, if_pos h2]
        rw [Bool.and_eq_true, decide_eq_true_eq] at g
        have tw : (a :: (t ++ r)).takeWhile alnum = a :: t := by
          refine tw_app (w := a :: t) (r := r) g.1 fun c hc => ?_
          unfold ext at he
          rw [hc, e] at he
          dsimp only at he
          rw [h2, Bool.true_and, Bool.or_eq_false_iff] at he
          exact he.1
        rw [tw, if_pos g.2]
      · rw [if_neg h2] at g
        rw [if_neg h2, if_neg h2]
        by_cases h3 : a = 48
        · rw [if_pos h3] at g
          have ht : t = [] := of_decide_eq_true g
          rw [if_pos h3, ht]
          rfl
        · rw [if_neg h3] at g
          rw [if_neg h3]
          rw [Bool.and_eq_true] at g
          rw [if_pos g.1]
          have tw : (a :: (t ++ r)).takeWhile (inS sDigits) = a :: t := by
            refine tw_app (w := a :: t) (r := r) g.2 fun c hc => ?_
            unfold ext at he
            rw [hc, e] at he
            dsimp only at he
            rw [Bool.or_eq_false_iff] at he
            have h5 := he.2
            rw [g.1, decide_eq_false h3] at h5
            simpa using h5
          rw [tw]
/-- what the law asks of two lexemes without a gap -/
def mayTouch (last one : Str) : Bool := !(Txt.isalnum (last ++ one)) || (decide (last = "0") || (Txt.isdigit last && !(match codes one with | [] => false | c :: _ => Txt.isdigit ⟨#[c]⟩)))
theorem touch_ext : ∀ w ∈ menuL, ∀ v ∈ menuL, mayTouch w v = true → ext w (codes v).head? = false := fun w hw v hv h => by
  have q := List.all_eq_true.mp (List.all_eq_true.mp (show (menuL.all fun w => menuL.all fun v => !(mayTouch w v) || !(ext w (codes v).head?)) = true by decide +kernel) w hw) v hv
  rw [h] at q
  simpa using q
theorem blank_ext : ∀ w ∈ menuL, ∀ c, inS sBlanks c = true → ext w (some c) = false := fun w hw c hc => by
  have hm : c ∈ sBlanks.cps.toList := of_decide_eq_true hc
  have q := List.all_eq_true.mp (List.all_eq_true.mp (show (menuL.all fun w => sBlanks.cps.toList.all fun c => !(ext w (some c))) = true by decide +kernel) w hw) c hm
  simpa using q
end Bc

namespace Bc
open PySem PySem.Spec PyProof.Rows L2
/-- gaps and lexemes in turn -/
def flatP : List (Str × Str) → List Nat
  | [] => []
  | (g, w) :: r => codes g ++ (codes w ++ flatP r)
def allBlank (z : Str) : Bool := (codes z).all (inS sBlanks)
/-- each gap is blank, and not empty where two lexemes may not touch -/
def Spaced : Str → List (Str × Str) → Prop
  | _, [] => True
  | last, (g, w) :: r => allBlank g = true ∧ (codes g = [] → mayTouch last w = true) ∧ Spaced w r
theorem Spaced.snoc : ∀ {last : Str} {ps : List (Str × Str)} {g w : Str}, Spaced last ps → allBlank g = true → (codes g = [] → mayTouch ((ps.map (·.2)).getLastD last) w = true) → Spaced last (ps ++ [(g, w)])
  | _, [], _, _, _, h1, h2 => ⟨h1, h2, trivial⟩
  | _, (g0, w0) :: r, _, _, ⟨a, b, c⟩, h1, h2 => ⟨a, b, Spaced.snoc c h1 (by
      intro e
      have q := h2 e
      cases r with
      | nil => exact q
      | cons p r' => exact q)⟩
theorem flatP_snoc : ∀ (ps : List (Str × Str)) (g w : Str), flatP (ps ++ [(g, w)]) = flatP ps ++ (codes g ++ codes w)
  | [], g, w => by simp [flatP]
  | (g0, w0) :: r, g, w => by
    show codes g0 ++ (codes w0 ++ flatP (r ++ [(g, w)])) = codes g0 ++ (codes w0 ++ flatP r) ++ (codes g ++ codes w)
    rw [flatP_snoc r g w]
    simp [List.append_assoc]
theorem Lx_gap : ∀ (b : List Nat) (s : List Nat) (i : Nat), b.all (inS sBlanks) = true → Lx (b ++ s) i = Lx s (i + b.length)
  | [], _, _, _ => rfl
  | c :: t, s, i, h => by
    rw [List.all_cons, Bool.and_eq_true] at h
    rw [List.cons_append, Lx_blank h.1, Lx_gap t s (i + 1) h.2, List.length_cons]
    congr 1
    omega
theorem good_ne {w : Str} (g : goodTok w = true) : codes w ≠ [] := fun e => by
  unfold goodTok at g
  rw [e] at g
  cases g
theorem menu_head : ∀ w ∈ menuL, ∀ c, (codes w).head? = some c → inS sBlanks c = false := fun w hw c hc => by
  have q := List.all_eq_true.mp (show (menuL.all fun w => match (codes w).head? with | none => true | some c => !(inS sBlanks c)) = true by decide +kernel) w hw
  rw [hc] at q
  simpa using q
theorem lex_spaced : ∀ (ps : List (Str × Str)) (last : Str) (tail : List Nat) (i : Nat), Spaced last ps → (∀ p ∈ ps, p.2 ∈ menuL) → tail.all (inS sBlanks) = true →
    (Lx (flatP ps ++ tail) i).2 = none ∧ (Lx (flatP ps ++ tail) i).1.map (·.2.1) = ps.map fun p => codes p.2
  | [], _, tail, i, _, _, ht => by
    have e := Lx_gap tail [] i ht
    rw [List.append_nil, Lx_nil] at e
    have e2 : Lx (flatP [] ++ tail) i = ([], none) := e
    rw [e2]
    exact ⟨rfl, rfl⟩
  | (g, w) :: r, last, tail, i, ⟨h1, h2, h3⟩, hm, ht => by
    have hw : w ∈ menuL := hm (g, w) (List.mem_cons_self ..)
    have hr : ∀ p ∈ r, p.2 ∈ menuL := fun p hp => hm p (List.mem_cons_of_mem _ hp)
    have gw := menu_good w hw
    obtain ⟨c, t, ec⟩ : ∃ c t, codes w = c :: t := by
      cases e : codes w with
      | nil => exact absurd e (good_ne gw)
      | cons c t => exact ⟨c, t, rfl⟩
    have hx : ext w (flatP r ++ tail).head? = false := by
      cases r with
      | nil =>
        show ext w ([] ++ tail).head? = false
        rw [List.nil_append]
        cases tail with
        | nil => rfl
        | cons b tl =>
          rw [List.all_cons, Bool.and_eq_true] at ht
          exact blank_ext w hw b ht.1
      | cons p r' =>
        obtain ⟨g', w'⟩ := p
        obtain ⟨k1, k2, k3⟩ := h3
        have hw' : w' ∈ menuL := hr (g', w') (List.mem_cons_self ..)
        show ext w (codes g' ++ (codes w' ++ flatP r') ++ tail).head? = false
        cases eg : codes g' with
        | nil =>
          rw [List.nil_append]
          have q := touch_ext w hw w' hw' (k2 eg)
          cases ew : codes w' with
          | nil => exact absurd ew (good_ne (menu_good w' hw'))
          | cons b tl =>
            rw [ew] at q
            exact q
        | cons b tl =>
          unfold allBlank at k1
          rw [eg, List.all_cons, Bool.and_eq_true] at k1
          exact blank_ext w hw b k1.1
    have tk := tok_menu (r := flatP r ++ tail) gw hx
    have hb : inS sBlanks c = false := menu_head w hw c (by rw [ec]; rfl)
    have step : Lx (flatP ((g, w) :: r) ++ tail) i = Lx (codes w ++ (flatP r ++ tail)) (i + (codes g).length) := by
      show Lx (codes g ++ (codes w ++ flatP r) ++ tail) i = _
      rw [List.append_assoc, List.append_assoc]
      exact Lx_gap (codes g) _ i h1
    have ih := lex_spaced r w tail (i + (codes g).length + (codes w).length) h3 hr ht
    have e2 : Lx (codes w ++ (flatP r ++ tail)) (i + (codes g).length) = ((kindOf w, codes w, i + (codes g).length) :: (Lx (flatP r ++ tail) (i + (codes g).length + (codes w).length)).1, (Lx (flatP r ++ tail) (i + (codes g).length + (codes w).length)).2) := by
      have tk' := tk
      rw [ec, List.cons_append] at tk'
      have q := Lx_tok (i := i + (codes g).length) hb tk'
      have e3 : (c :: (t ++ (flatP r ++ tail))) = codes w ++ (flatP r ++ tail) := by rw [ec]; rfl
      rw [e3, ← ec] at q
      rw [q, List.take_left, List.drop_left]
    rw [step, e2]
    exact ⟨ih.1, by rw [List.map_cons, List.map_cons, ih.2]⟩
end Bc

namespace Bc
open PySem PySem.Spec PyProof.Rows L2
theorem Dq.tup_inv {K : PySem.W.Frag} {H : Hp} {v : V} {ds : List PyData} (h : Dq K H v (.tuple ds)) : ∃ a xs, v = .ref a ∧ SqT K H a xs ∧ DqAll K H xs ds := by
  cases h with
  | tup h1 h2 => exact ⟨_, _, rfl, h1, h2⟩
theorem Dq.lst_inv {K : PySem.W.Frag} {H : Hp} {v : V} {ds : List PyData} (h : Dq K H v (.list ds)) : ∃ a xs, v = .ref a ∧ SqL K H a xs ∧ DqAll K H xs ds ∧ a ≠ sysModules := by
  cases h with
  | lst h1 h2 h3 => exact ⟨_, _, rfl, h1, h2, h3⟩
theorem Dq.str_inv {K : PySem.W.Frag} {H : Hp} {v : V} {x : Str} (h : Dq K H v (.str x)) : v = .str x := by
  cases h
  rfl
theorem Dq.int_inv {K : PySem.W.Frag} {H : Hp} {v : V} {x : Int} (h : Dq K H v (.int x)) : v = .int x := by
  cases h
  rfl
theorem DqAll.cons_inv {K : PySem.W.Frag} {H : Hp} {vs : List V} {d : PyData} {ds : List PyData} (h : DqAll K H vs (d :: ds)) : ∃ v vs', vs = v :: vs' ∧ Dq K H v d ∧ DqAll K H vs' ds := by
  cases h with
  | cons h1 h2 => exact ⟨_, _, rfl, h1, h2⟩
theorem DqAll.nil_inv {K : PySem.W.Frag} {H : Hp} {vs : List V} (h : DqAll K H vs []) : vs = [] := by
  cases h
  rfl
theorem DqAll.app {K : PySem.W.Frag} {H : Hp} : ∀ {vs ws : List V} {ds es : List PyData}, DqAll K H vs ds → DqAll K H ws es → DqAll K H (vs ++ ws) (ds ++ es)
  | _, _, _, _, .nil, h => h
  | _, _, _, _, .cons a b, h => .cons a (DqAll.app b h)
theorem DqAll.get {K : PySem.W.Frag} {H : Hp} : ∀ {vs : List V} {ds : List PyData} (i : Nat) {x : V}, DqAll K H vs ds → vs[i]? = some x → ∃ d, ds[i]? = some d ∧ Dq K H x d
  | _, _, _, _, .nil, h => by cases h
  | _, _, 0, x, .cons a b, h => ⟨_, rfl, by
      cases (Option.some.inj h)
      exact a⟩
  | _, _, i + 1, x, .cons a b, h => DqAll.get i b h
mutual
theorem Dq.dp {K : PySem.W.Frag} {H : Hp} : ∀ {v : V} {d : PyData}, Dq K H v d → d.canLay0 = true → Dp K H v d
  | _, _, .non, _ => .non
  | _, _, .bl b, _ => .bl b
  | _, _, .int i, _ => .int i
  | _, _, .str x, _ => .str x
  | _, _, .lst h t _, c => .lst h (DqAll.dp t c)
  | _, _, .tup h t, c => .tup h (DqAll.dp t c)
  | _, _, .dic _ _, c => by cases c
theorem DqAll.dp {K : PySem.W.Frag} {H : Hp} : ∀ {vs : List V} {ds : List PyData}, DqAll K H vs ds → PyData.canLayAll0 ds = true → DpAll K H vs ds
  | _, _, .nil, _ => .nil
  | _, _, .cons h t, c => by
    rw [PyData.canLayAll0, Bool.and_eq_true] at c
    exact .cons (Dq.dp h c.1) (DqAll.dp t c.2)
end
theorem Dq.dps {K : PySem.W.Frag} {H : Hp} {v : V} {d : PyData} (h : Dq K H v d) (c : SeqAt.shaped d = true) : Dp K H v d := Dq.dp h (SeqAt.canLay_of_shaped c)
/-! written data with names in it -/
def tF (K : PySem.W.Frag) (c : L2.St → Hp → Prop) (d : PyData) : TE := fun σ H Q => (∀ H', Same H H' → c σ H') ∧ ∀ v H', Same H H' → Dq K H' v d → Q v H'
def tFs (K : PySem.W.Frag) (c : L2.St → Hp → Prop) (ds : List PyData) : TA := fun σ H Q => (∀ H', Same H H' → c σ H') ∧ ∀ vs H', Same H H' → DqAll K H' vs ds → Q vs H'
section
variable {X : Cx} {e : Expr} {es : List Expr} {c c' : L2.St → Hp → Prop} {d : PyData} {ds : List PyData} {pos : Pos}
theorem pf_of {c0 : L2.St → Prop} (h : PE X e (tD X.K c0 d)) : PE X e (tF X.K (fun σ _ => c0 σ) d) := PE.imp h fun σ H Q q => ⟨q.1 H (Same.refl H), fun v H' s dq => q.2 v H' s (Dq.same newOf_all dq)⟩
theorem pf_var {i : Nat} {x : Str} (h : PE X (.Name x pos) (tVar i)) : PE X (.Name x pos) (tF X.K (fun σ H => ∃ v, σ[i]? = some (some v) ∧ Dq X.K H v d) d) :=
  PE.imp h fun σ H Q q => by
    obtain ⟨v, e, dq⟩ := q.1 H (Same.refl H)
    exact ⟨v, e, q.2 v H (Same.refl H) dq⟩
theorem pfs_nil : PA X [] (tFs X.K (fun _ _ => True) []) := PA.imp pa_nil fun σ H Q q => q.2 [] H (Same.refl H) .nil
theorem pfs_cons (h : PE X e (tF X.K c d)) (hr : PA X es (tFs X.K c' ds)) (hs : starEach (e :: es) X.env = (false, eval e X.env) :: starEach es X.env := by rfl) : PA X (e :: es) (tFs X.K (fun σ H => c σ H ∧ c' σ H) (d :: ds)) :=
  PA.imp (pa_cons h hr hs) fun σ H Q q => ⟨fun H' s => (q.1 H' s).1, fun v H1 s1 d1 => ⟨fun H' s => (q.1 H' (s1.trans s)).2, fun vs H2 s2 d2 => q.2 (v :: vs) H2 (s1.trans s2) (.cons (Dq.same s2 d1) d2)⟩⟩
theorem pf_lst (h : PA X es (tFs X.K c ds)) (hz : ds.length ≤ sizeLine := by decide) : PE X (.List es pos) (tF X.K c (.list ds)) :=
  PE.imp (pe_lstB h) fun σ H Q q => ⟨q.1, fun vs H1 s1 d1 => ⟨by rw [d1.len]; exact hz, fun p hp np => q.2 _ _ (s1.trans (same_new hp)) (.lst (.inl (.inl upd_same)) (DqAll.same (same_new hp) d1) np)⟩⟩
end
end Bc

namespace Bc
open PySem PySem.Spec PyProof.Rows L2
def topS (i : Nat) : Stmt := PySem.Challenge.pw_bushcoins_k05_places_and_colours.main.body.getD i (.Pass ⟨0, 0, 0, 0⟩)
abbrev sUnk : Stmt := inClass (topS 6) 0
abbrev sIsWord : Stmt := topS 11
abbrev sIsNum : Stmt := topS 12
abbrev sWrongJ : Stmt := topS 15
abbrev sBagI : Stmt := inClass (topS 16) 0
abbrev sBagBook : Stmt := inClass (topS 16) 1
abbrev sBagJ : Stmt := inClass (topS 16) 2
abbrev sBagN : Stmt := inClass (topS 16) 3
abbrev sBagW : Stmt := inClass (topS 16) 4
abbrev sBagB : Stmt := inClass (topS 16) 6
abbrev sBagEq : Stmt := inClass (topS 16) 8
abbrev sPlaces : Stmt := topS 17
abbrev sColsAt : Stmt := topS 18
abbrev sColOf : Stmt := topS 19
abbrev sAmong : Stmt := topS 20
abbrev sWrongS : Stmt := topS 22
abbrev sBookI : Stmt := inClass (topS 23) 0
abbrev sBookS : Stmt := inClass (topS 23) 1
abbrev sBookW : Stmt := inClass (topS 23) 2
abbrev sBookSh : Stmt := inClass (topS 23) 4
abbrev sBookB : Stmt := inClass (topS 23) 6
abbrev sBookEq : Stmt := inClass (topS 23) 7
abbrev sSource : Stmt := topS 25
abbrev sPick : Stmt := topS 26
abbrev sOf : Stmt := topS 27
abbrev sMixed : Stmt := topS 28
abbrev sNames : Stmt := topS 29
abbrev sShapes : Stmt := topS 30
abbrev sDrawnS : Stmt := topS 31
abbrev sMissing : Stmt := topS 32
abbrev sDrawnJ : Stmt := topS 33
abbrev sDue : Stmt := topS 34
abbrev sOdd : Stmt := topS 35
abbrev sLaw : Stmt := topS 36
end Bc

namespace Bc
open PySem PySem.Spec PyProof.Rows L2
theorem scSource : FnScope ["_law_script", "_law_mixed_here", "_law_cell"] ["_law_script"] (defScope sSource) := ⟨rfl, rfl, rfl, by decide +kernel, rfl, by decide +kernel, by decide +kernel⟩
theorem scPick : FnScope ["_law_source_here", "_law_many", "_law_left", "_law_mixed_here"] ["_law_source_here", "_law_many"] (defScope sPick) := ⟨rfl, rfl, rfl, by decide +kernel, rfl, by decide +kernel, by decide +kernel⟩
structure Blt (mg : Str → Option Value) : Prop where
  int : mg "int" = none
  abs : mg "abs" = none
  len : mg "len" = none
  max : mg "max" = none
section
variable {P : Program} {w : World} {K : PySem.W.Frag} {mg : Str → Option Value} {base : Heap}
theorem ok_source {f : Addr} {fd : FuncData} (F : Fun K "_law_source" "_law_source" sSource f fd) (T : Blt mg) : FnOk P w K mg base CX0 1 f fd ["_law_script"] (spSource K) := by
  refine F.ok scSource (fun vs H Q E h => ?_) (fun cdv A outer s H vs Q E hr h => ?_)
  · obtain ⟨a, ns, rfl, _⟩ := h
    rfl
  · obtain ⟨a, ns, rfl, hS, hlen, k⟩ := h
    refine ⟨_, pss_cons (ps_set (i := 1) scSource.nd rfl (.inl rfl) pe_int)
      (pss_cons (ps_for PassesOwn.never rfl (pi_list (pv 0)) (pg_name (i := 2) scSource.nd rfl (.inl rfl))
        (pss_one (ps_set (i := 1) scSource.nd rfl (.inl rfl) (pe_op op_mod (pe_callTy call_int1 (by rfl) T.int (by decide +kernel) (pa_cons (pe_op op_add (pe_op op_add (pe_op op_mul (pv 1) pe_int) (pe_op op_mul (pv 2) pe_int)) pe_int) pa_nil)) pe_int))))
      (pss_one (ps_ret (pe_disp (pps_cons pe_str (pe_revL (pe_lc (own := [("_law_cell", 2)]) (g := gName 2) (tt := tYes) (by rfl) scSource.nd (pi_list (pv 0))
            (blkOk_by (own := [("_law_cell", 2)]) (N := ["_law_script", "_law_mixed_here", "_law_cell"]) (sc := defScope sSource) (by decide +kernel)) (fun _ _ _ _ _ => pg_name (i := 2) scSource.nd rfl (.inl rfl)) (fun _ _ _ _ _ => pts_nil)
            (fun _ _ _ _ _ => pe_callB call_abs (by rfl) T.abs (by decide +kernel) (pa_cons (pv 2) pa_nil))))
          (pps_cons pe_str pe_int (pps_cons pe_str (pv 1) (pps_cons pe_str pe_int pps_nil)))) rfl rfl (by simp) (by simp))))), ?_⟩
    refine ⟨_, rfl, a, rfl, ⟨_, hS⟩, for_list (K := K) (a := a) (xs := ns.map V.int) (fun i σ H' => ∃ (m : Int) (v : Option V), σ = [some (.ref a), some (.int m), v] ∧ H' = H) ⟨11, none, rfl, rfl⟩ (fun i σ H' _ ⟨_, _, _, e⟩ => by rw [e]; exact hS) ?_ ?_⟩
    · rintro i y σ H' hi ⟨m, v, rfl, rfl⟩
      obtain ⟨z, rfl⟩ : ∃ z, y = V.int z := by
        obtain ⟨z, _, e⟩ := List.mem_map.mp (List.mem_of_getElem? hi)
        exact ⟨z, e.symm⟩
      refine ⟨_, rfl, _, _, rfl, rfl, .inr ⟨by decide, by decide⟩, _, rfl, _, _, rfl, rfl, .inr ⟨by decide, by decide⟩, _, _, rfl, rfl, _, _, rfl, rfl, .inl ⟨_, rfl, _, _, rfl, rfl, (by show (0 : Int) < 2147483629; decide), ?_⟩⟩
      exact ⟨_, _, rfl, rfl⟩
    · rintro σ H' ⟨m, v, rfl, rfl⟩
      intro d hd
      have s1 : Same H' (upd H' d (.dK [])) := same_new hd
      refine ⟨_, rfl, a, rfl, ⟨_, s1.seq hS⟩, fun D hD => lc_list (K := K) (a := a) (xs := ns.map V.int) (fun i H2 => Same (upd H' d (.dK [])) H2 ∧ H2 D = some (.lst (((ns.take i).map fun z => if z < 0 then -z else z).map V.int)))
        ⟨same_new hD, upd_same⟩ (fun i H2 _ h => (s1.trans h.1).seq hS) ?_ ?_⟩
      · rintro i y H2 hi ⟨s2, eD⟩
        obtain ⟨z, hz, rfl⟩ : ∃ z, ns[i]? = some z ∧ y = V.int z := by
          rw [List.getElem?_map] at hi
          cases e : ns[i]? with
          | none =>
            rw [e] at hi
            cases hi
          | some z =>
            rw [e] at hi
            exact ⟨z, rfl, (Option.some.inj hi).symm⟩
        have hil : i < ns.length := (List.getElem?_eq_some_iff.mp hz).1
        refine ⟨rfl, ?_⟩
        refine lc_yes ?_
        refine ⟨_, rfl, _, rfl, _, eD, ?_, fun b o e => ?_, ?_⟩
        · rw [List.length_map, List.length_map, List.length_take]
          exact small1000 (by omega)
        · rw [upd_ne (ne_of_none e hD)]
          exact s2 b o e
        · rw [upd_same, List.take_add_one, hz, List.map_append, List.map_append]
          rfl
      · rintro H2 ⟨s2, eD⟩
        refine ⟨D, _, rfl, .inl (.inl eD), fun p hp => ?_⟩
        have npD : p ≠ D := fun e => by
          rw [e, eD] at hp
          cases hp
        have ed : H2 d = some (.dK []) := s2 _ _ upd_same
        have npd : d ≠ p := fun e => by
          rw [← e, ed] at hp
          cases hp
        refine ⟨_, rfl, ?_, srcKV p 1 m 0, rfl, (by show 4 ≤ 15; decide), ?_⟩
        · rw [upd_ne npd]
          exact ed
        · rw [src_new]
          refine k d p _ (fun b o e => ?_) hd ((s1.trans s2).free hp) ⟨ns.length, hlen, npd, (ns.map fun z => if z < 0 then -z else z).reverse, 1, m, 0, upd_same, ?_, ?_⟩
          · have nb : b ≠ d := ne_of_none e hd
            rw [upd_ne nb]
            have e2 := s2 _ _ (s1 _ _ e)
            rw [upd_ne (ne_of_none e2 hp)]
            exact e2
          · rw [upd_ne npd.symm, upd_same, List.map_reverse, List.length_map, List.take_length]
          · rw [List.length_reverse, List.length_map]
theorem ok_pick {f : Addr} {fd : FuncData} (F : Fun K "_law_pick" "_law_pick" sPick f fd) (T : Blt mg) : FnOk P w K mg base CX0 1 f fd ["_law_source_here", "_law_many"] spPick := by
  refine F.ok scPick (fun vs H Q E h => ?_) (fun cdv A outer s H vs Q E hr h => ?_)
  · obtain ⟨d, c, many, rfl, _⟩ := h
    rfl
  · obtain ⟨d, c, many, rfl, ⟨n, hn, S⟩, hm0, hm1, k⟩ := h
    have hu := hu_of hr
    refine ⟨_, pss_cons (ps_while PassesOwn.never (PW.pt (pw_and (pt_cmpR op_gt (pv 1) pe_int (nomark _)) (pw_and (pt_cmpR op_lt (pe_dget hu (pv 0) pe_str (fun _ _ => rfl)) pe_int (nomark _))
          (pw_and1 (pt_cmpR op_gt (pe_callB call_len (by rfl) T.len (by decide +kernel) (pa_cons (pe_dget hu (pv 0) pe_str (fun _ _ => rfl)) pa_nil)) pe_int (nomark _))))))
        (pss_one (ps_dput hu (pv 0) pe_str (pe_bm0 PySem.F.plainAttrs_list PySem.F.slot_list_pop PySem.F.type_list_pop mt_pop (pe_dget hu (pv 0) pe_str (fun _ _ => rfl))) rfl)))
      (pss_cons (ps_set (i := 2) scPick.nd rfl (.inl rfl) (pe_dget hu (pv 0) pe_str (fun _ _ => rfl)))
      (pss_cons (ps_if (PW.pt (pw_or (pt_cmpR op_lt (pv 1) pe_int (nomark _)) (pw_or1 (pt_cmpR op_gt (pv 2) pe_int (nomark _)))))
        (pss_cons (ps_dput hu (pv 0) pe_str (pe_op op_fdiv (pv 2) (pe_callB (call_max2 rfl) (by rfl) T.max (by decide +kernel) (pa_cons pe_int (pa_cons (pv 1) pa_nil)))) rfl)
          (pss_one (ps_ret (pe_op op_mod (pe_callTy call_int1 (by rfl) T.int (by decide +kernel) (pa_cons (pv 2) pa_nil)) (pe_callB (call_max2 rfl) (by rfl) T.max (by decide +kernel) (pa_cons pe_int (pa_cons (pv 1) pa_nil)))))))
        pss_nil)
      (pss_cons (ps_dput hu (pv 0) pe_str (pe_op op_add (pe_dget hu (pv 0) pe_str (fun _ _ => rfl)) pe_int) rfl)
      (pss_cons (ps_set (i := 3) scPick.nd rfl (.inl rfl) (pe_op op_mod (pe_callTy call_int1 (by rfl) T.int (by decide +kernel) (pa_cons (pe_op op_add (pe_dget hu (pv 0) pe_str (fun _ _ => rfl)) (pe_op op_mul (pe_dget hu (pv 0) pe_str (fun _ _ => rfl)) pe_int)) pa_nil)) pe_int))
      (pss_cons (ps_set (i := 3) scPick.nd rfl (.inl rfl) (pe_op op_mod (pe_callTy call_int1 (by rfl) T.int (by decide +kernel) (pa_cons (pe_op op_add (pe_op op_mul (pv 3) (pv 3)) (pe_op op_mul (pe_dget hu (pv 0) pe_str (fun _ _ => rfl)) pe_int)) pa_nil)) pe_int))
      (pss_cons (ps_dput hu (pv 0) pe_str (pv 3) rfl)
      (pss_one (ps_ret (pe_op op_mod (pe_callTy call_int1 (by rfl) T.int (by decide +kernel) (pa_cons (pe_op op_fdiv (pv 3) pe_int) pa_nil)) (pv 1)))))))))), ?_⟩
    refine while_of (fun m σ H1 => σ = [some (.ref d), some (.int many), none, none] ∧ SrcN H1 d c m ∧ m ≤ 100 ∧ Else d c H H1) ⟨n, rfl, S, hn, Else.refl⟩ ?_ ?_
    · rintro m σ H1 ⟨rfl, ⟨ne, cells, l, mx, t, hd, hc, hl⟩, hm, hE⟩
      have small : ∀ c l m t, (srcKV c l m t).length < sizeLine := fun _ _ _ _ => small1000 (show 4 ≤ 1000 by decide)
      have again : ∀ l' mx' t', SrcAt (upd H1 d (.dK (srcKV c l' mx' t'))) d c := fun l' mx' t' => ⟨m, hm, ne, cells, l', mx', t', upd_same, by rw [upd_ne ne.symm]; exact hc, hl⟩
      have hmax : (if many > 1 then many else 1) = max 1 many := by omega
      -- left
      refine ⟨_, rfl, d, _, rfl, DGet.k (k := Sum.inr "left") hd, ?_⟩
      -- many < 2 or left > 1
      have early : (2 : Int) > many ∨ l > 1 → (sDPut (tVar 0) (tC (V.str "left")) (tOp (rI CDiv fun i j => V.int (i / j)) (tVar 2) (tCB (fun xs H Q => ∃ i j, xs = [V.int i, V.int j] ∧ Q (V.int (if j > i then j else i)) H) (tCons (tC (V.int 1)) (tCons (tVar 1) tNil)))))
          { nx := fun σ H => (tRet (tOp (rI (fun x j => 0 < j) fun i j => V.int (i % j)) (tCB (fun xs H Q => (∃ i, xs = [V.int i] ∧ Q (V.int i) H) ∨ ∃ k, xs = [V.bl k] ∧ Q (V.int (if k = true then 1 else 0)) H) (tCons (tVar 2) tNil))
              (tCB (fun xs H Q => ∃ i j, xs = [V.int i, V.int j] ∧ Q (V.int (if j > i then j else i)) H) (tCons (tC (V.int 1)) (tCons (tVar 1) tNil))))) { nx := fun _ H' => Q .non H', rt := Q } σ H, rt := Q }
          [some (.ref d), some (.int many), some (.int l), none] H1 := by
        intro _
        refine ⟨_, rfl, _, rfl, 1, many, rfl, _, _, rfl, rfl, ⟨by omega, by omega⟩, ?_⟩
        refine ⟨_, rfl, d, _, rfl, DPut.k (k := Sum.inr "left") hd (small _ _ _ _), ?_⟩
        rw [put_left]
        refine ⟨_, rfl, .inl ⟨_, rfl, _, rfl, 1, many, rfl, _, _, rfl, rfl, (by rw [hmax]; omega), ?_⟩⟩
        rw [hmax]
        exact k _ _ (Int.emod_nonneg _ (by omega)) (Int.emod_lt_of_pos _ (by omega)) (again _ _ _) (hE.trans Else.updD)
      refine ⟨_, rfl, _, _, rfl, rfl, _, rfl, ?_⟩
      refine ite2 (fun h => ?_) (fun h1 => ?_)
      · exact early (.inl (of_decide_eq_true h))
      · refine ⟨_, rfl, _, _, rfl, rfl, _, rfl, ?_⟩
        refine ite2 (fun h => ?_) (fun h2 => ?_)
        · exact early (.inr (of_decide_eq_true h))
        · have g1 : ¬ many < 2 := fun z => h1 (decide_eq_true z)
          -- turn
          refine ⟨_, rfl, d, _, rfl, DGet.k (k := Sum.inr "turn") hd, _, _, rfl, rfl, _, rfl, d, _, rfl, DPut.k (k := Sum.inr "turn") hd (small _ _ _ _), ?_⟩
          rw [put_turn]
          have hd2 : (upd H1 d (.dK (srcKV c l mx (t + 1)))) d = some (.dK (srcKV c l mx (t + 1))) := upd_same
          -- mixed
          refine ⟨_, rfl, d, _, rfl, DGet.k (k := Sum.inr "mixed") hd2, _, rfl, d, _, rfl, DGet.k (k := Sum.inr "turn") hd2, _, _, rfl, rfl, .inr ⟨by decide, by decide⟩, _, _, rfl, rfl, .inl ⟨_, rfl, _, _, rfl, rfl, (by show (0 : Int) < 998244353; decide), ?_⟩⟩
          -- mixed again
          refine ⟨_, rfl, _, rfl, _, _, rfl, rfl, .inl ⟨?_, ?_⟩, _, rfl, d, _, rfl, DGet.k (k := Sum.inr "turn") hd2, _, _, rfl, rfl, .inr ⟨by decide, by decide⟩, _, _, rfl, rfl, .inl ⟨_, rfl, _, _, rfl, rfl, (by show (0 : Int) < 2147483647; decide), ?_⟩⟩
          · omega
          · omega
          refine ⟨_, rfl, _, rfl, d, _, rfl, DPut.k (k := Sum.inr "mixed") hd2 (small _ _ _ _), ?_⟩
          rw [put_mixed, upd_upd]
          refine ⟨_, rfl, _, _, rfl, rfl, ⟨by decide, by decide⟩, .inl ⟨_, rfl, _, rfl, _, _, rfl, rfl, (by show (0 : Int) < many; omega), ?_⟩⟩
          exact k _ _ (Int.emod_nonneg _ (by omega)) (by have := Int.emod_lt_of_pos (((((mx + (t + 1) * 104729) % 998244353) * ((mx + (t + 1) * 104729) % 998244353) + (t + 1) * 17) % 2147483647) / 16) (show (0 : Int) < many by omega); omega) (again _ _ _) (hE.trans Else.updD)
    · rintro m σ H1 ⟨rfl, ⟨ne, cells, l, mx, t, hd, hc, hl⟩, hm, hE⟩ fin
      -- many > 1
      refine ⟨_, rfl, _, _, rfl, rfl, _, rfl, ?_⟩
      refine ite2 (fun _ => ?_) (fun _ => fin)
      -- left < 2
      refine ⟨_, rfl, d, _, rfl, DGet.k (k := Sum.inr "left") hd, _, _, rfl, rfl, _, rfl, ?_⟩
      refine ite2 (fun _ => ?_) (fun _ => fin)
      -- len(cells) > 0
      refine ⟨_, rfl, d, _, rfl, DGet.k (k := Sum.inr "cells") hd, _, cells.length, rfl, .inl ⟨_, .inl (.inl hc), (by rw [List.length_map])⟩, _, _, rfl, rfl, _, rfl, ?_⟩
      refine ite2 (fun hpos => ?_) (fun _ => fin)
      have hp : (0 : Int) < (cells.length : Int) := of_decide_eq_true hpos
      obtain ⟨x, hx⟩ : ∃ x, cells.getLast? = some x := by
        cases cells with
        | nil => exact absurd hp (by decide)
        | cons a r => exact ⟨_, List.getLast?_eq_some_getLast (by simp)⟩
      refine ⟨fun σ' H' => σ' = [some (.ref d), some (.int many), none, none] ∧ SrcN H' d c (m - 1) ∧ m - 1 ≤ 100 ∧ Else d c H H', fun σ' H' h => ⟨m - 1, by omega, h⟩, ?_⟩
      refine ⟨_, rfl, d, _, rfl, DGet.k (k := Sum.inr "cells") hd, .inl ⟨rfl, _, .inl (.inl hc)⟩, c, _, _, rfl, rfl, hc, pop_last hx, ?_⟩
      have hd3 : (upd H1 c (.lst (cells.map V.int).dropLast)) d = some (.dK (srcKV c l mx t)) := by
        rw [upd_ne ne]
        exact hd
      refine ⟨_, rfl, d, _, rfl, DPut.k (k := Sum.inr "left") hd3 (small1000 (show 4 ≤ 1000 by decide)), ?_⟩
      refine ⟨rfl, ⟨ne, cells.dropLast, x, mx, t, ?_, ?_, ?_⟩, by omega, (hE.trans Else.updC).trans Else.updD⟩
      · rw [upd_same, put_left]
      · rw [upd_ne ne.symm, upd_same, List.map_dropLast]
      · rw [List.length_dropLast, hl]
end
end Bc

namespace Bc
open PySem PySem.Spec PyProof.Rows L2
/-- the module's constants -/
structure Cts (mg : Str → Option Value) : Prop where
  le : ∃ t, mg "LETTERS" = some (.str sLetters t)
  di : ∃ t, mg "DIGITS" = some (.str sDigits t)
  lo : ∃ t, mg "LONGEST" = some (.int 12 t)
theorem pe_cstr {X : Cx} {x z : Str} {pos : Pos} (hg : Gl X x) (hm : ∃ t, X.mg x = some (.str z t)) (hd : (x == ("__debug__" : Str)) = false := by decide) : PE X (.Name x pos) (tC (.str z)) := by
  obtain ⟨t, hm⟩ := hm
  exact pe_glob (v := .str z) hg hm ⟨t, rfl⟩ hd
theorem pe_cint {X : Cx} {x : Str} {z : Int} {pos : Pos} (hg : Gl X x) (hm : ∃ t, X.mg x = some (.int z t)) (hd : (x == ("__debug__" : Str)) = false := by decide) : PE X (.Name x pos) (tC (.int z)) := by
  obtain ⟨t, hm⟩ := hm
  exact pe_glob (v := .int z) hg hm ⟨t, rfl⟩ hd
/-- how far a run goes -/
def runTo (z ls : Str) (p : Nat) : Nat := p + (((codes z).drop p).takeWhile (inS ls)).length
theorem drop_at {z : Str} {p : Nat} (h : p < z.length) : ∃ c, (codes z)[p]? = some c ∧ (codes z).drop p = c :: (codes z).drop (p + 1) := by
  have hl : p < (codes z).length := by
    show p < z.cps.toList.length
    rw [Array.length_toList]
    exact h
  exact ⟨(codes z)[p], List.getElem?_eq_getElem hl, List.drop_eq_getElem_cons hl⟩
theorem runTo_on {z ls : Str} {p c : Nat} (e : (codes z).drop p = c :: (codes z).drop (p + 1)) (h : inS ls c = true) : runTo z ls p = runTo z ls (p + 1) := by
  unfold runTo
  rw [e, List.takeWhile_cons, if_pos h, List.length_cons]
  omega
theorem runTo_off {z ls : Str} {p c : Nat} (e : (codes z).drop p = c :: (codes z).drop (p + 1)) (h : ¬ inS ls c = true) : runTo z ls p = p := by
  unfold runTo
  rw [e, List.takeWhile_cons, if_neg h]
  rfl
theorem runTo_end {z ls : Str} {p : Nat} (h : z.length ≤ p) : runTo z ls p = p := by
  unfold runTo
  rw [List.drop_eq_nil_of_le (by show z.cps.toList.length ≤ p; rw [Array.length_toList]; exact h)]
  rfl
theorem runTo_le {z ls : Str} {p : Nat} (h : p ≤ z.length) : runTo z ls p ≤ z.length := by
  have q := (List.takeWhile_sublist (inS ls) (l := (codes z).drop p)).length_le
  rw [List.length_drop] at q
  have e : (codes z).length = z.length := Array.length_toList
  unfold runTo
  omega
def spRun : Sp := fun vs H Q _ => ∃ (z ls : Str) (p : Nat), vs = [.str z, .int p, .str ls] ∧ p ≤ z.length ∧ z.length ≤ 20000 ∧ Q (.int (runTo z ls p : Nat)) H
theorem sz20 {n : Nat} (h : n ≤ 20000) : n ≤ sizeLine := Nat.le_trans h (by decide)
section
variable {P : Program} {w : World} {K : PySem.W.Frag} {mg : Str → Option Value} {base : Heap}
/-- the lexeme at a place, as values -/
def tokV (z : Str) (i : Nat) : List V := match tokS ((codes z).drop i) with
  | none => [.non, .int i]
  | some (k, m) => [.str k, .int (i + m : Nat)]
def spLexAt (K : PySem.W.Frag) : Sp := fun vs H Q _ => ∃ (z : Str) (i : Nat), vs = [.str z, .int i] ∧ i < z.length ∧ z.length ≤ 20000 ∧ ∀ q, H q = none → Q (.ref q) (upd H q (.tup (tokV z i)))
theorem run_len {z ls : Str} {p : Nat} : runTo z ls p = p + (((codes z).drop p).takeWhile (inS ls)).length := rfl
theorem dec_zero {c : Nat} : decide (V.str ⟨#[c]⟩ = V.str "0") = decide (c = 48) := by
  refine decide_eq_decide.mpr ⟨fun h => ?_, fun h => by rw [h]; rfl⟩
  have e := V.str.inj h
  have e2 : ([c] : List Nat) = [48] := congrArg (fun z : Str => z.cps.toList) e
  exact (List.cons.inj e2).1
end
end Bc

namespace Bc
open PySem PySem.Spec PyProof.Rows L2
theorem iteD {c A B : Prop} [Decidable c] (hc : c) (h : A) : if decide c = true then A else B := by
  rw [decide_eq_true hc]
  exact iteT h
/-- a lexeme as data -/
def tokD (t : Tok) : PyData := .tuple [.str t.1, .str ⟨t.2.1.toArray⟩, .int t.2.2]
def wrongV (z : Str) : V := match (Lx (codes z) 0).2 with
  | none => .non
  | some j => .int j
theorem DqAll.snoc {K : PySem.W.Frag} {H : Hp} : ∀ {vs : List V} {ds : List PyData} {v : V} {d : PyData}, DqAll K H vs ds → Dq K H v d → DqAll K H (vs ++ [v]) (ds ++ [d])
  | _, _, _, _, .nil, h => .cons h .nil
  | _, _, _, _, .cons a t, h => .cons a (DqAll.snoc t h)
theorem cut_tok {z : Str} {i m : Nat} (h : i + m ≤ z.length) : cutS z (some (i : Int)) (some ((i + m : Nat) : Int)) = ⟨(((codes z).drop i).take m).toArray⟩ := by
  unfold cutS
  rw [HT.sIx_nat, HT.sIx_nat, Nat.min_eq_left h, Nat.min_eq_left (show i ≤ z.length by omega), Nat.add_sub_cancel_left]
  rfl
def spScan (K : PySem.W.Frag) : Sp := fun vs H Q _ => ∃ z : Str, vs = [.str z] ∧ z.length ≤ 20000 ∧ ∀ (q l : Addr) (H' : Hp) (ws : List V), Same H H' → H l = none → l ≠ sysModules → SqT K H' q [.ref l, wrongV z] → H' l = some (.lst ws) →
  DqAll K (hid l l H') ws ((Lx (codes z) 0).1.map tokD) → Q (.ref q) H'
theorem hid1_same {f : Addr} {H H' : Hp} (h : ∀ b o, b ≠ f → H b = some o → H' b = some o) : Same (hid f f H) (hid f f H') := fun b o e => by
  unfold hid at e ⊢
  by_cases q : b = f ∨ b = f
  · rw [if_pos q] at e
    cases e
  · rw [if_neg q] at e ⊢
    exact h b o (fun z => q (.inl z)) e
theorem Same.over {H H1 : Hp} {f : Addr} {o : HO} (s : Same H H1) (n : H f = none) : Same H (upd H1 f o) := fun b u e => by
  rw [upd_ne (ne_of_none e n)]
  exact s b u e
section
variable {P : Program} {w : World} {K : PySem.W.Frag} {mg : Str → Option Value} {base : Heap}
end
end Bc

namespace Bc
open PySem PySem.Spec PyProof.Rows L2
theorem if_known {c : Bool} {A B : Prop} (hc : c = true) (h : A) : if c = true then A else B := by
  rw [if_pos hc]
  exact h
theorem if_no {c : Bool} {A B : Prop} (hc : c = false) (h : B) : if c = true then A else B := by
  rw [hc, if_neg (by decide)]
  exact h
theorem scOf : FnScope ["_law_source_here", "_law_some"] ["_law_source_here", "_law_some"] (defScope sOf) := ⟨rfl, rfl, rfl, by decide +kernel, rfl, by decide +kernel, by decide +kernel⟩
def spOf (K : PySem.W.Frag) : Sp := fun vs H Q _ => ∃ (d c l : Addr) (xs : List V), vs = [.ref d, .ref l] ∧ SrcAt H d c ∧ SqL K (hid d c H) l xs ∧ 0 < xs.length ∧ xs.length ≤ 1000 ∧
  ∀ (v : V) (H' : Hp), v ∈ xs → SrcAt H' d c → Else d c H H' → Q v H'
section
variable {P : Program} {w : World} {K : PySem.W.Frag} {mg : Str → Option Value} {base : Heap}
theorem ok_of {f fP : Addr} {fd fdP : FuncData} (F : Fun K "_law_of" "_law_of" sOf f fd) (B : Blt mg) (GP : FnOk P w K mg base CX0 1 fP fdP ["_law_source_here", "_law_many"] spPick) (bP : Binds K fdP ["_law_source_here", "_law_many"] [])
    (gP : mg "_law_pick" = some (.ref fP)) (kP : PySem.W.keepIn K (.ref fP) = true) : FnOk P w K mg base CX0 2 f fd ["_law_source_here", "_law_some"] (spOf K) := by
  refine F.ok scOf (fun vs H Q E h => ?_) (fun cdv A outer s H vs Q E hr h => ?_)
  · obtain ⟨d, c, l, xs, rfl, _⟩ := h
    rfl
  · obtain ⟨d, c, l, xs, rfl, src, hl, h0, h1, k⟩ := h
    refine ⟨_, pss_one (ps_ret (pe_ix ix_list (pv 1) (pe_call GP hr (by rfl) gP kP bP .nil pass0 (pa_cons (pv 0) (pa_cons (pe_callB call_len (by rfl) B.len (by decide +kernel) (pa_cons (pv 1) pa_nil)) pa_nil))) (fun _ _ => rfl))), ?_⟩
    refine ⟨_, rfl, _, rfl, _, rfl, _, xs.length, rfl, .inl ⟨xs, hid_all.seq hl, rfl⟩, d, c, xs.length, rfl, src, by omega, by omega, fun r H' r0 r1 src' el => ?_⟩
    have hr2 : r.toNat < xs.length := by omega
    refine ⟨l, xs, r, xs[r.toNat], rfl, rfl, ?_, at_of (by omega) (List.getElem?_eq_getElem hr2), k _ H' (List.getElem_mem hr2) src' el⟩
    have e := hid_else el
    exact hid_all.seq (e ▸ hl)
end
def okWord (w : Str) : Bool := decide (Txt.stripChars w "^" = w) && (!(codes w).isEmpty && decide (w.length ≤ 40))
def spSpaced (K : PySem.W.Frag) : Sp := fun vs H Q _ => ∃ (d c l : Addr) (ws : List Str), vs = [.ref d, .ref l] ∧ SrcAt H d c ∧ SqL K (hid d c H) l (ws.map V.str) ∧ ws.length ≤ 120 ∧ (∀ w ∈ ws, okWord w = true) ∧
  ∀ (z g0 tl : Str) (ps : List (Str × Str)) (H' : Hp), allBlank g0 = true → allBlank tl = true → codes z = codes g0 ++ (flatP ps ++ codes tl) → Spaced "(" ps → ps.map (·.2) = ws → z.length ≤ 6000 → SrcAt H' d c → Same (hid d c H) (hid d c H') → Q (.str z) H'
theorem codes_app (a b : Str) : codes (a ++ b) = codes a ++ codes b := Array.toList_append
theorem len_app (a b : Str) : (a ++ b).length = a.length + b.length := Array.size_append
theorem dec_str {a b : Str} : decide (V.str a = V.str b) = decide (a = b) := decide_eq_decide.mpr ⟨fun h => V.str.inj h, fun h => by rw [h]⟩
theorem hid_new {d c p : Addr} {H : Hp} {o : HO} (src : SrcAt H d c) (hp : H p = none) : p ≠ d ∧ p ≠ c ∧ hid d c (upd H p o) p = some o := by
  have n1 : p ≠ d := fun e => src.two.1 (e ▸ hp)
  have n2 : p ≠ c := fun e => src.two.2 (e ▸ hp)
  refine ⟨n1, n2, ?_⟩
  unfold hid
  rw [if_neg (fun y => by rcases y with y | y <;> contradiction), upd_same]
abbrev gaps3 : List Str := [" ", "\n", " \n  "]
abbrev gaps6 : List Str := [" ", "\n", " \n  ", "", "", ""]
theorem PT.imp {X : Cx} {e : Expr} {t t' : TT} (h : PT X e t) (f : ∀ σ H Q, t' σ H Q → t σ H Q) : PT X e t' := ⟨fun pins s σ H Q I q => h.run pins s σ H Q I (f σ H Q q)⟩
theorem PS.imp {X : Cx} {e : Stmt} {t t' : TS} (h : PS X e t) (f : ∀ D σ H, t' D σ H → t D σ H) : PS X e t' := ⟨fun pins s σ H D I q => h.run pins s σ H D I (f D σ H q)⟩
def tMay : TT := fun σ H Q => ∃ v0 v1 v2 last w v5, σ = [v0, v1, v2, some (.str last), some (.str w), v5] ∧ last.length ≤ 1000 ∧ w.length ≤ 1000 ∧ codes w ≠ [] ∧ Q (mayTouch last w) H
def tGaps : TS := fun D σ H => ∃ v0 v1 v2 last w p, σ = [v0, v1, v2, some (.str last), some (.str w), some (.ref p)] ∧ last.length ≤ 1000 ∧ w.length ≤ 1000 ∧ codes w ≠ [] ∧ H p = some (.lst (gaps3.map V.str)) ∧
  ∀ p' gs H', (mayTouch last w = true ∧ gs = gaps6) ∨ gs = gaps3 → Same H H' → H' p' = some (.lst (gs.map V.str)) → (p' = p ∨ H p' = none) → D.nx [v0, v1, v2, some (.str last), some (.str w), some (.ref p')] H'
section
variable {P : Program} {w : World} {K : PySem.W.Frag} {mg : Str → Option Value} {base : Heap}
end
end Bc

namespace Bc
open PySem PySem.Spec PyProof.Rows L2
/-! ### data in a tuple; a kept dict's get with a default -/
section
variable {X : Cx}
def rNotInDT (K : PySem.W.Frag) : R2 := fun x y H Q => ∃ d ds, Dp K H x d ∧ Dp K H y (.tuple ds) ∧ SeqAt.shaped d = true ∧ SeqAt.shaped (.tuple ds) = true ∧ Q (.bl (!ds.any fun z => PyData.eqv z d)) H
theorem op_notInDT (hu : X.A.units + 65 < cLine) : OpR X (compareOp .NotIn) (rNotInDT X.K) := by
  intro pins s σ H x y v u Q I rx ry h
  obtain ⟨d, ds, hd, he, sd, se, q⟩ := h
  obtain ⟨as, r1⟩ := Dp.reads I d x v hd rx
  obtain ⟨bs, r2⟩ := Dp.reads I (.tuple ds) y u he ry
  exact SeqAt.notIn_tuple_reads r2 r1 (SeqAt.canLay_of_shaped se) (SeqAt.canLay_of_shaped sd) (room_in_shaped sd hu) ⟨.bl _, H, I, rfl, q⟩
/-- a kept dict with texts as keys: what it has at one of them -/
def KAt (K : PySem.W.Frag) (w : World) (a : Addr) (z : Str) (o : Option V) : Prop :=
  ∃ es n r, K.lookup a = some ⟨.type "dict", none, .dict es n, #[]⟩ ∧ PySem.W.KeysLit w.params es.toList ∧ (a == sysModules) = false ∧ PySem.W.nsIn K a z = some r ∧ RelO o r
def tKGet2 (K : PySem.W.Frag) (w : World) (td ty tx : TE) : TE := fun σ H Q => td σ H fun x H1 => ∃ a es n, x = .ref a ∧ K.lookup a = some ⟨.type "dict", none, .dict es n, #[]⟩ ∧ ty σ H1 fun y H2 => ∃ z, y = .str z ∧ tx σ H2 fun d H3 => ∃ o, KAt K w a z o ∧ Q (o.getD d) H3
variable {o e f : Expr} {apos cpos : Pos} {td ty tx : TE}
theorem pe_kget2 (ho : PE X o td) (he : PE X e ty) (hf : PE X f tx) (m : M2 X o "get" apos e f cpos) : PE X (.Call (.Attribute o "get" apos) [e, f] [] cpos) (tKGet2 X.K X.w td ty tx) := by
  refine ⟨fun pins s σ H Q I h => ?_⟩
  refine wpAny_Call_method m.base m.few m.line PySem.F.plainAttrs_dict PySem.F.slot_dict_get PySem.F.type_dict_get (thn (ho.run pins s σ H _ I h) fun u s1 ⟨x, H1, I1, rx, a, es, n, ex, ha, q1⟩ => ?_)
  subst ex
  obtain rfl : u = Value.ref a := rx
  have hg := I1.kIn _ _ ha
  refine ⟨⟨_, hg, rfl⟩, (fun b eb => by cases eb; exact ⟨_, hg, rfl⟩), ?_⟩
  rw [m.trees]
  refine Calls.callWith_builtin rfl (Calls.evalArgs_plain (Calls.spliced_cons (thn (he.run pins s1 σ H1 _ I1 q1) fun iv s2 ⟨y, H2, I2, ry, z, ey, q2⟩ =>
    Calls.spliced_cons (thn (hf.run pins s2 σ H2 _ I2 q2) fun fv s3 ⟨d, H3, I3, rz, ov, ⟨es', n', r, hl, hk, low, e1, ro⟩, q3⟩ => Calls.spliced_nil ?_))))
  subst ey
  obtain ⟨t, rfl⟩ := (show ∃ t, iv = Value.str z t from ry)
  have hm := PySem.W.mapOf_K (prog := X.prog) (w := X.w) I3.kIn hl hk
  refine call_meetsIn PySem.F.slot_dict_get hm.typeIs PySem.F.entry_dict_get (PySem.F.args_dict_get_3 _ _ _) (meets_dict_get_default (strKind X.prog X.w) a (strKind_is X.prog X.w z t) low fv) ⟨_, hm, ?_⟩
  rw [PySem.W.find_K hl e1]
  refine ⟨_, H3, I3.tok _, ?_, q3⟩
  cases ov with
  | none =>
    cases r with
    | none => exact rz
    | some u => exact absurd ro (fun z => by cases z)
  | some v =>
    cases r with
    | none => exact absurd ro (fun z => by cases z)
    | some u => exact ro
end
def toldB (a s l : Str) : Bool := if a = "NAME" then decide (s = "word") else if a = "NUMBER" then decide (s = "number") else decide (a = l)
def spIsTold : Sp := fun vs H Q _ => ∃ a s l : Str, vs = [.str a, .str s, .str l] ∧ Q (.bl (toldB a s l)) H
structure Nm (mg : Str → Option Value) : Prop where
  rev : mg "reversed" = none
  rng : mg "range" = none
  lst : mg "list" = none
section
variable {P : Program} {w : World} {K : PySem.W.Frag} {mg : Str → Option Value} {base : Heap}
end
end Bc

set_option maxHeartbeats 1000000
namespace RT
open PySem PySem.Spec PyProof.Rows L2
theorem nolen_rt : typeLookup (.type "reversed") "__len__" = pure none := by rw [typeLookup_type, builtinLookup_eq_fast]; kernel_rfl
theorem slot_rt_hint : Slot "reversed" "__length_hint__" "reversed.__length_hint__" :=
  .of (owner := "reversed") (n := "__length_hint__") (by rw [typeLookup_type, builtinLookup_eq_fast]; kernel_rfl) (by decide +kernel) (by decide +kernel) (by decide +kernel)
    (by first | exact .inl (by decide +kernel) | exact .inr (by decide +kernel)) (by rw [isSubtype_type]; kernel_rfl)
theorem entry_rt_hint : entryFor table "reversed.__length_hint__" = some Builtin.«reversed.__length_hint__» := entryFor_of_tree (by kernel_rfl)
theorem args_rt_hint (a : Value) : argsOk "reversed.__length_hint__" ⟨[a], []⟩ := by
  unfold argsOk; rw [signature?_of (id := "reversed.__length_hint__") (n := ['_', '_', 't', 'n', 'i', 'h', '_', 'h', 't', 'g', 'n', 'e', 'l', '_', '_']) (o := ['d', 'e', 's', 'r', 'e', 'v', 'e', 'r']) (by kernel_rfl) owner_rt]; kernel_rfl
theorem isTup_at {h h' : Heap} {t : Addr} {items : Array Value} (x : IsTup h t items) (e : ∀ o, h.get? t = some o → h'.get? t = some o) : IsTup h' t items := let ⟨o, ho, r⟩ := x; ⟨o, e _ ho, r⟩
theorem walks_rt {prog : Program} {w : World} {A : Around} (hh : A.handled = none) (I t : Addr) (hne : t ≠ I) (items : Array Value) (hn : items.size ≤ sizeLine) :
    Walks prog w A I [I, t] [I] items.size (fun i v => items[items.size - 1 - i]? = some v) (fun i h => i ≤ items.size ∧ IsRt h I t ((items.size : Int) - 1 - (i : Int)) ∧ IsTup h t items) where
  sub := fun b hb => by simp at hb; simp [hb]
  frame := fun _ _ _ x hk => ⟨x.1, x.2.1.at fun o e => hk I (by simp) o e, isTup_at x.2.2 fun o e => hk t (by simp) o e⟩
  item := fun i s Q E hi x hQ => by
    have e : (items.size : Int) - 1 - (i : Int) = ((items.size - 1 - i : Nat) : Int) := by omega
    have hit := x.2.1
    rw [e] at hit
    have hx : items[items.size - 1 - i]? = some (items[items.size - 1 - i]'(by omega)) := Array.getElem?_eq_getElem (by omega)
    refine next_rt_item hit x.2.2 hx hn fun h' hit' hs' => ?_
    have e2 : ((items.size - 1 - i : Nat) : Int) - 1 = (items.size : Int) - 1 - ((i + 1 : Nat) : Int) := by omega
    rw [e2] at hit'
    exact hQ _ h' (s.toks + 1) hx ⟨hi, hit', isTup_at x.2.2 fun o eo => (hs'.2 t hne).trans eo⟩ fun b o hb eo => hs'.extBut b o (fun h => hb (by simp [h])) eo
  done := fun s Q E x hQ => by
    have e : (items.size : Int) - 1 - (items.size : Int) = -1 := by omega
    have hit := x.2.1
    rw [e] at hit
    exact next_rt_end hh hit fun h' hs' => hQ h' s.toks fun b o hb eo => hs' b o (fun h => hb (by simp [h])) eo
  self := fun i s Q E x h => iter_rt x.2.1 h
section
variable {prog : Program} {w : World} {A : Around} {E : Value → Shared → Prop} {s : Shared}
theorem hint_rt {it t : Addr} {items : Array Value} {Q : Value → Shared → Prop} (hit : IsRt s.heap it t ((items.size : Int) - 1)) (ht : IsTup s.heap t items) (hsz : items.size ≤ 2 ^ 62)
    (h : ∀ tk u, Q (.int items.size u) { s with toks := tk }) : wpAny (model prog w) A (call (.builtin "reversed.__length_hint__") [.ref it]) Q E s := by
  obtain ⟨o, ho, hc, hd⟩ := id hit
  refine wpAny_call_entry slot_rt_hint hit.typeIs entry_rt_hint ?_ (args_rt_hint _)
  unfold Builtin.«reversed.__length_hint__»
  refine wpAny_bind (wpAny_of_eq (a := Value.ref it) rfl ?_)
  try dsimp only
  refine wpAny_bind (wpAny_field ho hd (x := .ref t) rfl ?_)
  try dsimp only
  rw [if_neg (fun y => by cases y)]
  refine wpAny_bind (PyProof.Rows.len_tuple ht (by omega) ?_)
  refine wpAny_bind (wpAny_of_eq (a := some ((items.size : Nat) : Int)) rfl ?_)
  dsimp only
  refine wpAny_bind (wpAny_field (s := { s with toks := s.toks + 1 + 1 }) ho hd (x := rawInt ((items.size : Int) - 1)) rfl ?_)
  show wpAny _ _ (if ((items.size : Nat) : Int) < (items.size : Int) - 1 + 1 then _ else retInt ((items.size : Int) - 1 + 1)) _ _ _
  rw [if_neg (by omega), show (items.size : Int) - 1 + 1 = items.size by omega]
  unfold retInt
  refine wpAny_bind (wpAny_mkInt ?_)
  exact wpAny_pure ⟨_, rfl, h _ _⟩
/-- list.__init__ of a reversed tuple: the new list S takes the items from the end -/
theorem extend_rt {R : Result → Shared → Prop} {it t S : Addr} {items : Array Value} {c₀ : Nat} (hh : A.handled = none) (hit : IsRt s.heap it t ((items.size : Int) - 1)) (ht : IsTup s.heap t items) (hne : t ≠ it) (hn : items.size ≤ sizeLine) (hSi : S ≠ it) (hSt : S ≠ t)
    (hS : s.heap.get? S = some { cls := .type "list", data := .seq #[] c₀ })
    (hR : ∀ h' tk acc' c', (∀ b o, b ≠ S → b ≠ it → s.heap.get? b = some o → h'.get? b = some o) → h'.get? S = some { cls := .type "list", dict := none, data := .seq acc' c', slots := #[] } →
      ItemsOf (fun i v => items[items.size - 1 - i]? = some v) acc' items.size → R (.ok (.ret .none)) { s with heap := h', toks := tk }) :
    wpAny (model prog w) A.in1 (Builtin.List.listExtendWith (.ref S) (.ref it) .none)
      (fun fin s' => match fin with | .done f => R (.ok f) s' | .again c' => c'.quiet = true ∧ codeAny (model prog w) A c' R s') (fun e s' => R (.error e) s') s := by
  have hSf : S ∉ [it, t] := by simp only [List.mem_cons, List.not_mem_nil, or_false, not_or]; exact ⟨hSi, hSt⟩
  have W := (walks_rt (prog := prog) (w := w) (A := A.in1) hh it t hne items hn).toS
  have e0 : ((items.size : Nat) : Int) - 1 - ((0 : Nat) : Int) = (items.size : Int) - 1 := by omega
  have key : ∀ (h : Heap) (c₁ tk : Nat), (∀ b o, b ≠ S → s.heap.get? b = some o → h.get? b = some o) →
      h.get? S = some { cls := .type "list", data := .seq #[] c₁ } → codeAny (model prog w) A (.builtin "list.extend.loop" ⟨[.ref S, .ref it, .none], []⟩) R { s with heap := h, toks := tk } := by
    intro h c₁ tk hk hS₁
    refine codeAny_extend_loopS W hn S hSf .none items.size 0 _ #[] c₁ rfl (Nat.zero_le _) ⟨Nat.zero_le _, by rw [e0]; exact hit.at (hk it · (Ne.symm hSi)), isTup_at ht (hk t · (Ne.symm hSt))⟩ hS₁ (ItemsOf.nil _) fun s' acc' c' hm hS' hacc => ?_
    rw [Moved.eq_with hm]
    refine hR s'.heap s'.toks acc' c' (fun b o hb hb2 e => hm.heap b o (fun hmem => ?_) (hk b o hb e)) hS' hacc
    rcases List.mem_cons.mp hmem with e' | hmem
    · exact hb e'
    · exact hb2 (List.mem_singleton.mp hmem)
  unfold Builtin.List.listExtendWith
  refine wpAny_bind (wpAny_typeOf hit.typeIs ?_)
  have h1 : Builtin.List.listSameRef (.ref S) (.ref it) = false := by simp [Builtin.List.listSameRef, hSi]
  have h2 : (Value.type "reversed" == Value.type "list") = false := by decide
  have h3 : (Value.type "reversed" == Value.type "tuple") = false := by decide
  simp only [h1, h2, h3, Bool.or_false, Bool.false_eq_true, if_false]
  refine wpAny_bind (iter_rt hit ?_)
  refine wpAny_bind (wpAny_holding ?_)
  unfold Builtin.List.listLengthHint
  refine wpAny_bind (wpAny_specialOf hit.typeIs nolen_rt ?_)
  show wpAny _ A.in1 (specialOf (Value.ref it) (Str.ofString "__length_hint__") >>= _) _ _ _
  refine wpAny_bind (wpAny_specialOf hit.typeIs slot_rt_hint.lookup ?_)
  generalize hid : ("reversed.__length_hint__" : String) = id0
  wp_delta
  rw [show splitId id0 = some ("reversed", "__length_hint__") from by subst hid; decide +kernel]
  subst hid
  refine wpAny_bind (wpAny_isInstance (b := true) hit.typeIs (by rw [isSubtype_type]; kernel_rfl) ?_)
  rw [if_neg (by decide)]
  dsimp only
  rw [if_neg (by decide +kernel)]
  refine wpAny_bind (wpAny_rule ?_)
  refine wpAny_bind ?_
  rw [slot_rt_hint.bind]
  refine wpAny_pure ?_
  dsimp only
  have hz : items.size ≤ 2 ^ 62 := Nat.le_trans hn (by rw [sizeLine_eq]; decide)
  refine wpAny_bind (wpAny_attempt (hint_rt hit ht hz fun tk u => ?_))
  show wpAny _ _ (asInt? (Value.int ((items.size : Nat) : Int) u) >>= _) _ _ _
  refine wpAny_bind ?_
  show wpAny _ _ (pure (some ((items.size : Nat) : Int))) _ _ _
  refine wpAny_pure ?_
  dsimp only
  have fit : ¬ (!Builtin.List.listFitsIndex ((items.size : Nat) : Int)) = true := by
    rw [fitsIndex_both (by omega) (by omega)]
    decide
  have long : ¬ Builtin.List.listTooLong ((items.size : Nat) : Int).toNat = true := by
    rw [Int.toNat_natCast, notLongL hn]
    decide
  rw [if_neg fit, if_neg (show ¬ ((items.size : Nat) : Int) < 0 by omega), if_neg long]
  refine wpAny_pure ?_
  refine wpAny_ite_split (fun _ => ?_) (fun _ => wpAny_pure ⟨plainId_quiet F.plain_extend_loop _, key _ _ _ (fun b o _ e => e) hS⟩)
  refine wpAny_bind (wpAny_rule ?_)
  refine wpAny_bind ?_
  show wpAny _ _ (updateSeq S (·.push .none) >>= fun _ => updateSeq S (·.pop)) _ _ _
  refine wpAny_bind (wpAny_updateSeq hS rfl ?_)
  have hS₂ := Heap.get?_update_self (Obj.mapSeq (·.push Value.none)) hS rfl
  refine wpAny_updateSeq (hz := by seq_fits) hS₂ rfl ?_
  have hS₃ := Heap.get?_update_self (Obj.mapSeq (·.pop)) hS₂ rfl
  exact wpAny_pure ⟨plainId_quiet F.plain_extend_loop _, key _ _ _ (fun b o hb e => (Heap.get?_update_other _ _ (Ne.symm hb)).trans ((Heap.get?_update_other _ _ (Ne.symm hb)).trans e)) hS₃⟩
theorem call_list_rt {Q : Value → Shared → Prop} {it t : Addr} {items : Array Value} (hh : A.handled = none) (hit : IsRt s.heap it t ((items.size : Int) - 1)) (ht : IsTup s.heap t items) (hne : t ≠ it) (hn : items.size ≤ sizeLine)
    (hQ : ∀ h' tk acc' c', (∀ b o, b ≠ it → s.heap.get? b = some o → h'.get? b = some o) →
      h'.get? s.heap.objs.size = some { cls := .type "list", dict := none, data := .seq acc' c', slots := #[] } → ItemsOf (fun i v => items[items.size - 1 - i]? = some v) acc' items.size → Q (.ref s.heap.objs.size) { s with heap := h', toks := tk }) :
    wpAny (model prog w) A (call (.type "list") [.ref it]) Q E s := by
  refine callType_codes (Q₁ := fun obj s₁ => obj = .ref s.heap.objs.size ∧ s₁ = { s with heap := s.heap.push { cls := .type "list", data := .seq #[] } }) F.called_list (F.typeCall_list_1 _) F.entry_list_init
    (code_list_new _ ⟨rfl, rfl⟩) fun obj s₁ h₁ => ?_
  obtain ⟨rfl, rfl⟩ := h₁
  have hS : (s.heap.push { cls := .type "list", data := .seq #[] }).get? s.heap.objs.size = some { cls := .type "list", data := .seq #[] } := Heap.get?_push_size _ rfl
  have hSi : s.heap.objs.size ≠ it := by
    obtain ⟨o, ho, _⟩ := hit
    exact Nat.ne_of_gt (Heap.lt_size ho)
  have hSt : s.heap.objs.size ≠ t := by
    obtain ⟨o, ho, _⟩ := ht
    exact Nat.ne_of_gt (Heap.lt_size ho)
  refine ⟨⟨_, hS, rfl⟩, F.args_list_init_2 _ _, ?_⟩
  show wpAny _ A.in1.in1 (do let old ← Builtin.List.listItems (.ref s.heap.objs.size); Builtin.List.listUpdate (.ref s.heap.objs.size) (fun _ => #[]); letGo old.toList.reverse; Builtin.List.listExtendWith (.ref s.heap.objs.size) (.ref it) .none) _ _ _
  refine wpAny_bind ?_
  unfold Builtin.List.listItems
  refine wpAny_bind (wpAny_seqItems hS rfl (wpAny_pure ?_))
  show wpAny _ A.in1.in1 (updateSeq s.heap.objs.size (fun _ => #[]) >>= fun _ => letGo (#[] : Array Value).toList.reverse >>= fun _ => Builtin.List.listExtendWith (.ref s.heap.objs.size) (.ref it) .none) _ _ _
  refine wpAny_bind (wpAny_updateSeq hS rfl ?_)
  have hS₂ := Heap.get?_update_self (Obj.mapSeq (fun _ => (#[] : Array Value))) hS rfl
  refine wpAny_bind (wpAny_letGo ?_)
  have oth : ∀ b o, b ≠ s.heap.objs.size → s.heap.get? b = some o → ((s.heap.push { cls := .type "list", data := .seq #[] }).update s.heap.objs.size (Obj.mapSeq (fun _ => (#[] : Array Value)))).get? b = some o :=
    fun b o hb e => (Heap.get?_update_other _ _ (Ne.symm hb)).trans (Heap.get?_push_of_some _ e)
  refine extend_rt (A := A.in1) hh (hit.at fun o e => oth it o (Ne.symm hSi) e) (isTup_at ht fun o e => oth t o (Ne.symm hSt) e) hne hn hSi hSt hS₂ fun h' tk acc' c' hk hS' hacc => ?_
  exact ⟨rfl, hQ h' tk acc' c' (fun b o hb e => hk b o (Nat.ne_of_lt (Heap.lt_size e)) hb (oth b o (Nat.ne_of_lt (Heap.lt_size e)) e)) hS' hacc⟩
end
end RT
namespace Bc
open PySem PySem.Spec PyProof.Rows L2 RT
def tListRevT (K : PySem.W.Frag) (te : TE) : TE := fun σ H Q => te σ H fun v H1 => ∃ (a : Addr) (xs : List V), v = .ref a ∧ SqT K H1 a xs ∧ ∀ q, H1 q = none → Q (.ref q) (upd H1 q (.lst xs.reverse))
/-- list(reversed(e)), e a tuple -/
theorem pe_listRevT {X : Cx} {e : Expr} {te : TE} {p p2 pos pos2 : Pos} (hc : X.calm = true) (hg : Gl X "list") (hm : X.mg "list" = none) (hg2 : Gl X "reversed") (hm2 : X.mg "reversed" = none) (he : PE X e te)
    (hs : starEach [e] X.env = (false, eval e X.env) :: starEach [] X.env := by rfl)
    (hs2 : starEach [.Call (.Name "reversed" p2) [e] [] pos2] X.env = (false, eval (.Call (.Name "reversed" p2) [e] [] pos2) X.env) :: starEach [] X.env := by rfl) :
    PE X (.Call (.Name "list" p) [.Call (.Name "reversed" p2) [e] [] pos2] [] pos) (tListRevT X.K te) := by
  refine ⟨fun pins s σ H Q I h => ?_⟩
  refine Call_ (ld_blt I hg hm boot_list (PyProof.Rows.callWith_type1 (args_cons (Call_ (ld_blt I hg2 hm2 PyProof.Rows.boot_reversed (PyProof.Rows.callWith_type1 (args_cons (thn (he.run pins s σ H _ I h) fun u s1 ⟨v, H1, I1, r1, q1⟩ => args_nil ?_) hs) hs rfl))) hs2) hs2 rfl))
  obtain ⟨a, xs, ev, hq, q⟩ := q1
  subst ev
  obtain rfl : u = Value.ref a := r1
  obtain ⟨its, rv, p', hz⟩ := I1.tuple hq
  have hn := line63
  have hl := rv.length
  have hn2 : its.toArray.size ≤ sizeLine := by rw [List.size_toArray, ← hl]; exact hz
  refine call_reversed_tup p' (fun A E Q k => PyProof.Rows.len_tuple p' (by simp only [List.size_toArray] <;> omega) k) (args_nil ?_)
  have hne : a ≠ s1.heap.objs.size := by
    obtain ⟨o, ho, _⟩ := p'
    exact Nat.ne_of_lt (Heap.lt_size ho)
  refine call_list_rt (s := { s1 with heap := s1.heap.push (rtObj a ((its.toArray.size : Int) - 1)), toks := s1.toks + 1 + 1 }) (I1.ok.hd hc) ⟨_, Heap.get?_push_size _ rfl, rfl, rfl⟩ (isTup_at p' fun o e => Heap.get?_push_of_some _ e) hne hn2 fun h' tk acc c' hk e hi => ?_
  have sz : s1.heap.objs.size ≤ (s1.heap.push (rtObj a ((its.toArray.size : Int) - 1))).objs.size := by
    simp [Heap.push]
  refine ⟨.ref _, upd H1 _ (.lst xs.reverse), I1.laid (t' := tk) (fun b o eb => hk b o (Nat.ne_of_lt (Heap.lt_size eb)) (Heap.get?_push_of_some _ eb)) sz ⟨by rw [List.length_reverse]; exact hz, acc.toList, c', vals_rev rv hi, by rw [Array.toArray_toList]; exact e⟩, rfl, q _ (I1.hok.fresh sz)⟩
end Bc

namespace Bc
open PySem PySem.Spec PyProof.Rows L2
abbrev nOpen : List Str := ["self", "found", "k", "rules", "rule"]
abbrev nTakes : List Str := ["self", "sort", "lexeme", "k", "rule", "rules"]
/-- the ways to write what is awaited -/
def rulesOf (z : Str) : List (List Str) :=
  if z = "BOOK" then [["book", "{", "SHAPES"]] else if z = "SHAPES" then [["shape", "NAME", "NAME", "LIST", ";", "SHAPES"], ["}"]]
  else if z = "BAG" then [["bag", "{", "JOINTS"]] else if z = "JOINTS" then [["joint", "NAME", "NAME", ";", "JOINTS"], ["}"]]
  else if z = "LIST" then [["(", "FIRST NAME"]] else if z = "FIRST NAME" then [["NAME", "FURTHER NAMES"], [")"]] else if z = "FURTHER NAMES" then [[",", "NAME", "FURTHER NAMES"], [")"]] else [[z]]
abbrev forms : List Str := ["BOOK", "SHAPES", "BAG", "JOINTS", "LIST", "FIRST NAME", "FURTHER NAMES"]
abbrev signsW : List Str := ["{", ";", "NAME"]
abbrev tops : List Str := ["BOOK", "SHAPES", "BAG", "JOINTS", "LIST", "FIRST NAME", "FURTHER NAMES", "{", ";", "NAME"]
def dRule (l : List Str) : PyData := .tuple (l.map .str)
def RuleAt (K : PySem.W.Frag) (H : Hp) (r : Addr) (l : List Str) : Prop := SqT K H r (l.map V.str)
def RulesAt (K : PySem.W.Frag) (H : Hp) (t : Addr) (ls : List (List Str)) : Prop := ∃ rs : List Addr, SqT K H t (rs.map V.ref) ∧ rs.length = ls.length ∧ ∀ (i : Nat) (r : Addr) (l : List Str), rs[i]? = some r → ls[i]? = some l → RuleAt K H r l
structure Rul (K : PySem.W.Frag) (w : World) (mg : Str → Option Value) (aR aN : Addr) : Prop where
  gR : mg "RULES" = some (.ref aR)
  gN : mg "NOTHING" = some (.ref aN)
  no : ∀ H, SqT K H aN []
  dict : ∃ es n, K.lookup aR = some ⟨.type "dict", none, .dict es n, #[]⟩
  at_ : ∀ z ∈ forms, ∃ t, KAt K w aR z (some (.ref t)) ∧ ∀ H, RulesAt K H t (rulesOf z)
  els : ∀ z ∈ signsW, KAt K w aR z none
def RowsAt (K : PySem.W.Frag) (H : Hp) (g : Addr) (k : Int) (ls : List (List Str)) : Prop := ∃ ps : List Addr, H g = some (.lst (ps.map V.ref)) ∧ ps.length = ls.length ∧ ∀ i l, ls[i]? = some l → ∃ r, SqT K H (ps.getD i 0) [.int k, .ref r] ∧ RuleAt K H r l
def InsAt (H : Hp) (C a dx l : Addr) (A : List Str) : Prop := H a = some (.ins C dx [("_awaited", .ref l)]) ∧ H l = some (.lst (A.map V.str))
def spInit (C : Addr) : Sp := fun vs H Q _ => ∃ (a dx : Addr) (v : V), vs = [.ref a, v] ∧ H a = some (.ins C dx []) ∧ ∀ p, H p = none → Q .non (upd (upd H p (.lst [v])) a (.ins C dx [("_awaited", .ref p)]))
def spOpen (K : PySem.W.Frag) (C : Addr) : Sp := fun vs H Q _ => ∃ (a dx l : Addr) (B : List Str) (z : Str), vs = [.ref a] ∧ InsAt H C a dx l (B ++ [z]) ∧ z ∈ tops ∧ B.length ≤ 10 ∧
  ∀ g H', Same H H' → H g = none → RowsAt K H' g (B.length : Int) (rulesOf z) → Q (.ref g) H'
def spDone (C : Addr) : Sp := fun vs H Q _ => ∃ (a dx l : Addr) (A : List Str), vs = [.ref a] ∧ InsAt H C a dx l A ∧ A.length ≤ 10 ∧ Q (.bl (decide (A.length = 0))) H
theorem sqT_upd {K : PySem.W.Frag} {H : Hp} {g : Addr} {ys : List V} {o : HO} (e : H g = some (.lst ys)) {a : Addr} {xs : List V} (h : SqT K H a xs) : SqT K (upd H g o) a xs := by
  rcases h with (h | ⟨u, h⟩) | h
  · exact .inl (.inl (by rw [upd_ne (fun y => by rw [y, e] at h; cases h)]; exact h))
  · exact .inl (.inr ⟨u, by rw [upd_ne (fun y => by rw [y, e] at h; cases h)]; exact h⟩)
  · exact .inr h
theorem sqT_keep {K : PySem.W.Frag} {H H' : Hp} {g : Addr} {ys : List V} (e : H g = some (.lst ys)) (h : ∀ b o, b ≠ g → H b = some o → H' b = some o) {a : Addr} {xs : List V} (q : SqT K H a xs) : SqT K H' a xs := by
  rcases q with (q | ⟨u, q⟩) | q
  · exact .inl (.inl (h _ _ (fun y => by rw [y, e] at q; cases q) q))
  · exact .inl (.inr ⟨u, h _ _ (fun y => by rw [y, e] at q; cases q) q⟩)
  · exact .inr q
theorem tops_ok : (tops.all fun z => ((rulesOf z).all fun l => SeqAt.shaped (dRule l) && !(PyData.eqv (dRule l) (.tuple []))) && (SeqAt.shaped (.tuple ((rulesOf z).map dRule)) && (!(((rulesOf z).map dRule).any fun d => PyData.eqv d (.tuple [])) && decide ((rulesOf z).length ≤ 3)))) = true := by decide +kernel
theorem rule_dp {K : PySem.W.Frag} {H : Hp} : ∀ (l : List Str), DpAll K H (l.map V.str) (l.map PyData.str)
  | [] => .nil
  | x :: l => .cons (.str x) (rule_dp l)
theorem rules_dp {K : PySem.W.Frag} {H : Hp} : ∀ (rs : List Addr) (ls : List (List Str)), rs.length = ls.length → (∀ (i : Nat) (r : Addr) (l : List Str), rs[i]? = some r → ls[i]? = some l → RuleAt K H r l) → DpAll K H (rs.map V.ref) (ls.map dRule)
  | [], [], _, _ => .nil
  | r :: rs, l :: ls, h, k => .cons (.tup (k 0 r l rfl rfl) (rule_dp l)) (rules_dp rs ls (Nat.succ.inj h) fun i r l a b => k (i + 1) r l a b)
theorem hu65 {k : Nat} {A : Around} (r : Room k A) : A.units + 65 < cLine := by have := r.un; omega
section
variable {P : Program} {w : World} {K : PySem.W.Frag} {mg : Str → Option Value} {base : Heap} {C aR aN : Addr}
end
end Bc

namespace Bc
open PySem PySem.Spec PyProof.Rows L2
def firstOf (z s x : Str) : Option (List Str) := (rulesOf z).find? fun r => toldB (r.headD "") s x
def spTakes (C : Addr) : Sp := fun vs H Q _ => ∃ (a dx l : Addr) (B : List Str) (z s x : Str) (l0 : List Str), vs = [.ref a, .str s, .str x] ∧ InsAt H C a dx l (B ++ [z]) ∧ z ∈ tops ∧ B.length ≤ 10 ∧ firstOf z s x = some l0 ∧
  ∀ l' H', (∀ b o, b ≠ a → H b = some o → H' b = some o) → H l' = none → InsAt H' C a dx l' (B ++ l0.tail.reverse) → Q (.bl true) H'
theorem tops_len : (tops.all fun z => (rulesOf z).all fun l => decide (1 ≤ l.length) && decide (l.length ≤ 9)) = true := by decide +kernel
theorem cut_to {B : List Str} {z : Str} : cutV ((B ++ [z]).map V.str) none (some (B.length : Int)) = B.map V.str := by
  unfold cutV
  rw [HT.sIx_none, HT.sIx_nat, List.drop_zero, List.length_map, List.length_append, Nat.min_eq_left (by simp), Nat.sub_zero, List.map_append, List.take_append_of_le_length (by rw [List.length_map]; exact Nat.le_refl _)]
  rw [← List.length_map (f := V.str), List.take_length]
theorem cut_tail {l : List Str} (h : 1 ≤ l.length) : cutV (l.map V.str) (some 1) none = l.tail.map V.str := by
  unfold cutV
  rw [show (some (1 : Int)) = some ((1 : Nat) : Int) from rfl, HT.sIx_none, HT.sIx_nat, List.length_map, Nat.min_eq_left h]
  rw [List.take_of_length_le (by rw [List.length_drop, List.length_map]; exact Nat.le_refl _)]
  cases l with
  | nil => cases h
  | cons a r => rfl
section
variable {P : Program} {w : World} {K : PySem.W.Frag} {mg : Str → Option Value} {base : Heap} {C : Addr}
end
end Bc

namespace Bc
open PySem PySem.Spec PyProof.Rows L2
abbrev nLexOf : List Str := ["form", "text", "found", "wrong", "reading", "sort", "lexeme", "place", "row"]
/-- a statement that is never come to -/
theorem ps_never {X : Cx} {st : Stmt} : PS X st (fun _ _ _ => False) := ⟨fun _ _ _ _ _ _ h => h.elim⟩
abbrev txtT (t : Tok) : Str := ⟨t.2.1.toArray⟩
inductive Goes : List Str → List Tok → List Str → Prop
  | nil (A : List Str) : Goes A [] A
  | cons {B : List Str} {z : Str} {t : Tok} {l0 : List Str} {ts : List Tok} {A : List Str} : z ∈ tops → B.length ≤ 10 → firstOf z t.1 (txtT t) = some l0 → Goes (B ++ l0.tail.reverse) ts A → Goes (B ++ [z]) (t :: ts) A
theorem Goes.inv {A1 A : List Str} {t : Tok} {ts : List Tok} (h : Goes A1 (t :: ts) A) : ∃ B z l0, A1 = B ++ [z] ∧ z ∈ tops ∧ B.length ≤ 10 ∧ firstOf z t.1 (txtT t) = some l0 ∧ Goes (B ++ l0.tail.reverse) ts A := by
  cases h with
  | cons h1 h2 h3 h4 => exact ⟨_, _, _, rfl, h1, h2, h3, h4⟩
theorem Goes.inv0 {A1 A : List Str} (h : Goes A1 [] A) : A1 = A := by
  cases h
  rfl
theorem sqT_ins {K : PySem.W.Frag} {H H' : Hp} {g C dx : Addr} {fs : List (Str × V)} (e : H g = some (.ins C dx fs)) (h : ∀ b o, b ≠ g → H b = some o → H' b = some o) {a : Addr} {xs : List V} (q : SqT K H a xs) : SqT K H' a xs := by
  rcases q with (q | ⟨u, q⟩) | q
  · exact .inl (.inl (h _ _ (fun y => by rw [y, e] at q; cases q) q))
  · exact .inl (.inr ⟨u, h _ _ (fun y => by rw [y, e] at q; cases q) q⟩)
  · exact .inr q
theorem tok_inv {K : PySem.W.Frag} {H : Hp} {v : V} {t : Tok} (h : Dq K H v (tokD t)) : ∃ u, v = .ref u ∧ SqT K H u [.str t.1, .str (txtT t), .int t.2.2] := by
  obtain ⟨a, xs, rfl, hq, hall⟩ := h.tup_inv
  obtain ⟨v1, _, rfl, h1, hall⟩ := hall.cons_inv
  obtain ⟨v2, _, rfl, h2, hall⟩ := hall.cons_inv
  obtain ⟨v3, _, rfl, h3, hall⟩ := hall.cons_inv
  cases hall.nil_inv
  cases h1.str_inv
  cases h2.str_inv
  cases h3.int_inv
  exact ⟨a, rfl, hq⟩
def spLexOf : Sp := fun vs H Q _ => ∃ fm z : Str, vs = [.str fm, .str z] ∧ z.length ≤ 20000 ∧ (Lx (codes z) 0).2 = none ∧ Goes [fm] (Lx (codes z) 0).1 [] ∧ (Lx (codes z) 0).1.length ≤ 20000 ∧
  ∀ g H', Same H H' → H g = none → H' g = some (.lst ((Lx (codes z) 0).1.map fun t => V.str (txtT t))) → Q (.ref g) H'
section
variable {P : Program} {w : World} {K : PySem.W.Frag} {mg : Str → Option Value} {base : Heap} {C : Addr}
end
end Bc

namespace Bc
open PySem PySem.Spec PyProof.Rows L2
abbrev nHead : List Str := ["form", "text", "read", "start", "rows", "row", "lexeme"]
def bodyOf (ds : List (List Str)) : List Str := ds.flatMap fun d => d ++ [(";" : Str)]
/-- a text that is read: its lexemes -/
structure LexOk (fm z : Str) (ws : List Str) : Prop where
  len : z.length ≤ 20000
  fine : (Lx (codes z) 0).2 = none
  goes : Goes [fm] (Lx (codes z) 0).1 []
  many : (Lx (codes z) 0).1.length ≤ 20000
  is : (Lx (codes z) 0).1.map txtT = ws
def stp (p : List (List Str) × List Str) (x : Str) : List (List Str) × List Str := if x = ";" then (p.1 ++ [p.2], []) else (p.1, p.2 ++ [x])
theorem fold_row : ∀ (d : List Str) (acc : List (List Str)) (cur : List Str), (∀ x ∈ d, x ≠ ";") → d.foldl stp (acc, cur) = (acc, cur ++ d)
  | [], acc, cur, _ => by rw [List.append_nil]; rfl
  | x :: d, acc, cur, h => by
    rw [List.foldl_cons, show stp (acc, cur) x = (acc, cur ++ [x]) from if_neg (h x (List.mem_cons_self ..)), fold_row d acc _ fun y hy => h y (List.mem_cons_of_mem _ hy), List.append_assoc]
    rfl
theorem fold_body : ∀ (ds : List (List Str)) (acc : List (List Str)), (∀ d ∈ ds, ∀ x ∈ d, x ≠ ";") → (bodyOf ds).foldl stp (acc, []) = (acc ++ ds, [])
  | [], acc, _ => by rw [List.append_nil]; rfl
  | d :: ds, acc, h => by
    show ((d ++ [(";" : Str)]) ++ bodyOf ds).foldl stp (acc, []) = _
    rw [List.foldl_append, List.foldl_append, fold_row d acc [] (h d (List.mem_cons_self ..)), List.nil_append]
    show (bodyOf ds).foldl stp (acc ++ [d], []) = _
    rw [fold_body ds _ fun e he => h e (List.mem_cons_of_mem _ he), List.append_assoc]
    rfl
def spHead (K : PySem.W.Frag) : Sp := fun vs H Q _ => ∃ (fm hw z : Str) (ds : List (List Str)), vs = [.str fm, .str z] ∧ hw ≠ "{" ∧ LexOk fm z (hw :: "{" :: (bodyOf ds ++ [("}" : Str)])) ∧ (∀ d ∈ ds, ∀ x ∈ d, x ≠ ";") ∧
  ∀ (q h g : Addr) (rs : List Addr) (H' : Hp), Same H H' → SqT K H' q [.ref h, .ref g] → H' g = some (.lst (rs.map V.ref)) → rs.length = ds.length → (∀ (i : Nat) (r : Addr) (d : List Str), rs[i]? = some r → ds[i]? = some d → H' r = some (.lst (d.map V.str))) → Q (.ref q) H'
section
variable {P : Program} {w : World} {K : PySem.W.Frag} {mg : Str → Option Value} {base : Heap} {C : Addr}
end
end Bc

namespace Bc
open PySem PySem.Spec PyProof.Rows L2
/-! ### list(d.values()) -/
def tListVals (te : TE) : TE := fun σ H Q => te σ H fun x H1 => ∃ (d : Addr) (kvs : List (Key × V)), x = .ref d ∧ H1 d = some (.dK kvs) ∧ ∀ p, H1 p = none → Q (.ref p) (upd H1 p (.lst (kvs.map (·.2))))
section
variable {X : Cx} {e : Expr} {te : TE} {p apos cpos pos : Pos}
theorem pe_listVals (hc : X.calm = true) (he : PE X e te) (hg : Gl X "list") (hm : X.mg "list" = none) (hv : bootBuiltins "list" = some (.type "list")) (hbase : attributeBase e "values" X.env (eval e X.env) = eval e X.env := by rfl) (hline : (apos.endLine == cpos.line) = true := by rfl)
    (hs : starEach [.Call (.Attribute e "values" apos) [] [] cpos] X.env = (false, eval (.Call (.Attribute e "values" apos) [] [] cpos) X.env) :: starEach [] X.env := by rfl) :
    PE X (.Call (.Name "list" p) [.Call (.Attribute e "values" apos) [] [] cpos] [] pos) (tListVals te) := by
  constructor
  intro pins s σ H Q I hq
  refine wpAny_Call_Name_kw (ld_blt I hg hm hv (PyProof.Rows.callWith_type1 ?_ hs rfl))
  rw [hs]
  refine Calls.spliced_cons (wpAny_Call_method (T := "dict") (id := "dict.values") hbase rfl hline F.plainAttrs_dict F.slot_dict_values F.type_dict_values (thn (he.run pins s σ H _ I hq) ?_))
  rintro u s1 ⟨x, H1, I1, rx, d, kvs, rfl, hd, q⟩
  obtain rfl : u = Value.ref d := rx
  obtain ⟨hz, hs0, vs, kv, hdo⟩ := I1.hok d _ hd
  obtain ⟨ep, hat⟩ := hdo.dictAt
  have lk : kvs.length = vs.length := Paired.length kv
  have I2 : Inv X pins σ H1 { s1 with heap := s1.heap.push { cls := .type "dict_values", data := .fields #[.ref d] } } := I1.kept (t' := s1.toks) fun b ob q => Heap.get?_push_of_some _ q
  refine ⟨hdo.typeIs, hdo.mapOf.noDict, ?_⟩
  refine method_meetsIn F.slot_dict_values F.entry_dict_values rfl (PySem.evalArgs_none ⟨rfl, hdo.typeIs, F.args_dict_values_1 _, _, meets_dict_values (mixKind X.prog X.w) d hs0, ⟨vs, hdo⟩, ?_⟩)
  refine Calls.spliced_nil (PySem.W.kdl_call (PySem.W.kdl_values (knd := mixKind X.prog X.w) (kvs := vs) (ep := ep)) (I1.ok.hd hc) ⟨⟨_, Heap.get?_push_size _ rfl, rfl, rfl⟩, hat.push _⟩ (by omega) ?_)
  intro h' tk acc c hk hS hacc
  have ea : acc.toList = vs.map (·.2) := by
    refine PySem.W.kdl_vals_eq acc.toList (by rw [Array.length_toList]; exact hacc.1) fun j v e => ?_
    exact hacc.2 j v (by rw [← Array.getElem?_toList]; exact e)
  refine ⟨.ref _, _, I2.laid (t' := tk) (a := _) (o := .lst (kvs.map (·.2))) hk (Nat.le_refl _) ⟨by rw [List.length_map]; exact hz, acc.toList, c, ?_, ?_⟩, rfl, q _ (I2.hok.fresh (Nat.le_refl _))⟩
  · rw [ea]
    exact kv_vals kv
  · rw [Array.toArray_toList]
    exact hS
end
end Bc

namespace Bc
open PySem PySem.Spec PyProof.Rows L2
/-! ### a != b by the text's own == -/
section
open PySem.W PySem.Calls
variable {prog : Program} {w : World} {A : Around} {E : Value → Shared → Prop} {s : Shared} {K : Frag} {x C L f : Addr} {h₀ : Heap} {m : Str → Option Value} {ox : Obj} {od : Option Obj} {name : Str} {b tb : Value}
theorem bound_blt {M : Model} {T id : String} {args : List Value} {Q : Option Value → Shared → Prop} (X : K.In s.heap) (I : InstAt s.heap x ox C od) (hs : findIn K (.ref C) name = some (some (.builtin id))) (S : Slot T name id)
    (h : wpAny M A (call (.builtin id) (.ref x :: args)) (fun v s' => Q (some v) s') E s) : wpAny M A (callSpecialIfBound? (.ref x) name args) Q E s := by
  simp only [callSpecialIfBound?, bindSpecialIfBound?]
  refine wpAny_holding (wpAny_bind (wpAny_bind ?_))
  refine wpAny_bind (I.type.here ((looks_findIn X hs).here ?_))
  simp only [S.bind]
  have fin : wpAny M A (call (.builtin id) ([.ref x] ++ args) >>= fun v => pure (some v)) Q E s := wpAny_bind (wpAny_mono h (fun v s' q => wpAny_pure q) fun _ _ q => q)
  refine wpAny_bind (wpAny_askSetting (wpAny_ite ?_))
  split
  · exact wpAny_bind (wpAny_pure (wpAny_pure fin))
  · exact wpAny_tryCatch (wpAny_bind (wpAny_pure (wpAny_pure fin)))
theorem cmpNe_K {Q : Value → Shared → Prop} (hu : A.units + 1 < cLine) (X : K.In s.heap) (I : InstAt s.heap x ox C od) (hb : Looks (model prog w) s.heap (typeOf b) tb) (htb : tb = .ref C)
    (hne : findIn K (.ref C) "__ne__" = some (some (.builtin "object.__ne__"))) (hob : subIn K (.ref C) (.type "object") = some true) (hs : findIn K (.ref C) "__eq__" = some (some (.ref f))) (hf : isFn K (.ref f) = true)
    (h : wpAny (model prog w) A.in1 (call (.ref f) [.ref x, b]) (fun v s' => ∃ r, v = .bool r ∧ Q (.bool (!r)) s') E s) : wpAny (model prog w) A (richCompare .NotEq (.ref x) b) Q E s := by
  subst htb
  have inn : ∀ {Q : Fin → Shared → Prop}, wpAny (model prog w) A.in1 (call (.ref f) [.ref x, b]) (fun v s' => ∃ r, v = .bool r ∧ Q (.done (.ret (.bool (!r)))) s') E s → wpAny (model prog w) A.in1 (Builtin.«object.__ne__» ⟨[.ref x, b], []⟩) Q E s := by
    intro Q h
    unfold Builtin.«object.__ne__»
    refine wpAny_bind (wpAny_of_eq (a := ((Value.ref x : Value), [b])) (by first | rfl | (simp only [slotArgs]; rfl)) ?_)
    dsimp only
    refine wpAny_bind (wpAny_cRoomFor (show A.in1.units < cLine from hu) ?_)
    refine wpAny_bind (ifBound_K X I hs hf (wpAny_mono h (fun v s' q => ?_) fun _ _ q => q))
    obtain ⟨r, rfl, q⟩ := q
    dsimp only
    exact wpAny_bind (wpAny_truthy_bool (wpAny_pure q))
  have one : wpAny (model prog w) A (tryCompare (.ref x) "__ne__" b) (fun r s' => ∃ v, r = some v ∧ Q v s') E s := by
    unfold tryCompare
    have isB : Looks (model prog w) s.heap (isInstance (.ref x) (.type "object")) true := I.type.andThen (looks_subIn X hob)
    refine wpAny_bind (bound_blt X I hne PySem.F.cmp_object.ne (wpAny_call (codeAny_call_builtin PySem.F.cmp_object.ne.plain PySem.F.cmpEntry_ne ?_)))
    refine @check_slot (model prog w) _ _ s "object.__ne__" "object" "__ne__" (.ref x) [b] [] _ (by decide +kernel) (by decide +kernel) isB (PySem.F.cmpArgs_ne _ _) ?_
    refine inn (wpAny_mono h (fun v s' q => ?_) fun _ _ q => q)
    obtain ⟨r, rfl, q⟩ := q
    exact ⟨r, rfl, wpAny_pure ⟨_, rfl, q⟩⟩
  unfold richCompare
  simp only [oneThing_ref]
  refine wpAny_holding (wpAny_bind (wpAny_cRoomFor (by omega) ?_))
  refine wpAny_bind (I.type.here (wpAny_bind (hb.here ?_)))
  rw [show (Value.ref C != Value.ref C) = false from by simp]
  rw [if_neg Bool.false_ne_true]
  refine wpAny_bind (wpAny_pure ?_)
  simp only [Bool.false_eq_true, if_false]
  refine wpAny_bind (wpAny_mono one (fun r s' z => ?_) fun _ _ e => e)
  obtain ⟨v, rfl, hq⟩ := z
  exact wpAny_pure hq
end
/-- a != b where == says True -/
def rNeG (D : Eqv) : R2 := fun x y H Q => D x y H ∧ ∀ H', Ext H H' → Q (.bl false) H'
theorem op_neG {X : Cx} {n : Nat} {C f : Addr} {fd : FuncData} {ps : List Str} {R : Addr → Addr → Hp → Prop} (F : FnOk X.prog X.w X.K X.mg X.base CX0 n f fd ps (spEq R)) (hne : PySem.W.findIn X.K (.ref C) "__ne__" = some (some (.builtin "object.__ne__"))) (hob : PySem.W.subIn X.K (.ref C) (.type "object") = some true)
    (hs : PySem.W.findIn X.K (.ref C) "__eq__" = some (some (.ref f))) (hf : PySem.W.isFn X.K (.ref f) = true) (hb : Binds X.K fd ps []) (hr : Room (n + 1) X.A) : OpR X (compareOp .NotEq) (rNeG (DIns C R)) := by
  intro pins s σ H x y v u Q I rx ry hq
  obtain ⟨⟨a, b, dx, dy, fs, gs, rfl, rfl, ha, hb', hR⟩, q⟩ := hq
  cases rx
  cases ry
  obtain ⟨mA, J, _⟩ := ins_get I.hok ha
  obtain ⟨mB, J', _⟩ := ins_get I.hok hb'
  obtain ⟨od, J, _⟩ := J.look
  obtain ⟨od', J', _⟩ := J'.look
  show wpAny (model X.prog X.w) X.A (richCompare .NotEq (.ref a) (.ref b)) (EP X pins σ Q) X.xe s
  have hr1 : Room n X.A.in1 := hr.in1
  refine cmpNe_K hr.in1.units0 I.kIn J J'.type rfl hne hob hs hf ?_
  have hsp : spEq R [.ref a, .ref b] H (fun v H' => v = .bl true ∧ Ext H H') E0 := ⟨a, b, rfl, hR, fun H' e => ⟨rfl, e⟩⟩
  have e := I.env0
  have e0 : Env0 X.prog X.w X.K X.mg X.base X.A.in1 X.stack s H := ⟨e.frames, e.mod, e.bs, e.bsz, e.funs, e.frf, e.hok, e.bare⟩
  have hl := F.len _ _ _ _ hsp
  have r2 : Vals [V.ref a, V.ref b] [Value.ref a, Value.ref b] := .cons rfl (.cons rfl .nil)
  refine wpAny_call (codeAny_mono (F.run X.A.in1 X.stack s H ⟨[.ref a, .ref b], []⟩ [.ref a, .ref b] [.ref a, .ref b] _ E0 hr1 e0 (by
    have := hb s [.ref a, .ref b] I.kIn (by simpa using hl)
    simpa using this) r2 hsp) fun r s' hq => ?_)
  cases r with
  | error e => exact hq.elim
  | ok fl =>
    cases fl with
    | ret w =>
      obtain ⟨z, H', I', rz, ez, ex⟩ := I.after hq
      subst ez
      cases rz
      exact ⟨true, rfl, .bl false, H', I', rfl, q H' ex⟩
    | next => exact False.elim hq
    | brk => exact False.elim hq
    | cont => exact False.elim hq
end Bc

namespace Bc
open PySem PySem.Spec PyProof.Rows L2
/-! ### for k, x in enumerate(a tuple) -/
theorem meets_enum1 {v : Value} {o : Obj} {Hh : Heap → Prop} (B : Begins v o Hh) :
    Meets (Builtin.«enumerate.__new__» ⟨[.type "enumerate", v], []⟩) (fun _ R s => Hh s.heap ∧
      R (.ok (.ret (.ref (s.heap.push o).objs.size))) { s with heap := (s.heap.push o).push { cls := .type "enumerate", data := .fields #[.none, .bool false, .ref s.heap.objs.size, rawInt 0, .none, .none] } }) := by
  refine .of_wp fun prog w A R s q => ?_
  obtain ⟨hp, g, d, tk, os⟩ := s
  obtain ⟨h1, q⟩ := q
  have hsub := sub_enumerate
  have q1 : ∀ {A' : Around} {E : Value → Shared → Prop} {Q : Value → Shared → Prop}, Q (.ref hp.objs.size) ⟨hp.push o, g, d, tk, os⟩ → wpAny (model prog w) A' (pyIter v) Q E ⟨hp, g, d, tk, os⟩ :=
    fun {A' E Q} z => B.iter prog w A' E ⟨hp, g, d, tk, os⟩ Q h1 z
  wp_walk using q1
  refine wpAny_stack_any fun st => wpAny_pure ?_
  split
  · rename_i c _ _ _ _ _
    cases (c == Value.type "enumerate") <;> (wp_walk using q1; exact ⟨_, rfl, q⟩)
  · wp_walk using q1
    exact ⟨_, rfl, q⟩
def Itet (K : PySem.W.Frag) (a : Addr) : It :=
  ⟨fun i H => ∃ (xs : List V) (x : V), SqT K H a xs ∧ xs[i]? = some x,
    fun i H v H' => ∃ T x, v = .ref T ∧ H T = none ∧ H' = upd H T (.tup [.int (i : Nat), x]) ∧ ∀ xs, SqT K H a xs → xs[i]? = some x,
    fun i H => ∃ xs : List V, SqT K H a xs ∧ xs.length ≤ i⟩
theorem tup_inj {X : Cx} {pins : List (Addr × Obj)} {σ : L2.St} {H : Hp} {s : Shared} {a : Addr} {xs ys : List V} (I : Inv X pins σ H s) (h1 : SqT X.K H a xs) (h2 : SqT X.K H a ys) : xs = ys := by
  first | exact I.tuple_inj h1 h2 | exact I.tup_inj h1 h2
theorem enum_end_tup {prog : Program} {w : World} {A : Around} {E : Value → Shared → Prop} {s : Shared} {e it t : Addr} {i : Nat} {items : Array Value} {k : Int} {old : Value} {Q : Option Value → Shared → Prop} (hh : A.in1.handled = none) (he : IsEnum s.heap e it k old)
    (hit : s.heap.IsTupleIter it t i) (ht : s.heap.IsTuple t items) (hx : items[i]? = none) (hQ : ∀ h', Heap.ExtBut it s.heap h' → Q none { s with heap := h' }) : wpAny (model prog w) A (pyNext (.ref e)) Q E s := by
  have hT : s.TypeIs (.ref e) "enumerate" := ⟨_, he, rfl⟩
  have core : ∀ {R : Value → Shared → Prop} {E' : Value → Shared → Prop}, (∀ h' x, Heap.ExtBut it s.heap h' → (∃ o, h'.get? x = some o ∧ o.cls = .type "StopIteration") → E' (.ref x) { s with heap := h' }) → wpAny (model prog w) A.in1 (Builtin.«enumerate.__next__» ⟨[.ref e], []⟩) (fun _ _ => False) E' s := by
    intro R E' h
    show wpAny _ _ (field (.ref e) 2 >>= _) _ _ _
    refine wpAny_bind (wpAny_field he rfl (x := .ref it) rfl ?_)
    exact wpAny_bind (wpAny_nextOf_tuple_end hh hit ht hx h)
  unfold pyNext
  refine wpAny_bind (wpAny_attempt (wpAny_callSpecial?_slot (name := Str.ofString "__next__") hT F.slot_enumerate_next
    (wpAny_call_entry F.slot_enumerate_next hT F.entry_enumerate_next (wpAny_mono (core (R := fun _ _ => True) fun h' x he' hx' => ?_) (fun _ _ z => z.elim) fun _ _ z => z) (F.args_enumerate_next_1 _))))
  obtain ⟨o, ho, hc⟩ := hx'
  refine wpAny_bind (wpAny_isInstance (T := "StopIteration") (b := true) ⟨o, ho, hc⟩ isSubtype_stop ?_)
  exact wpAny_pure (hQ _ he')
theorem turn_enumT {P : Program} {w : World} {K : PySem.W.Frag} {elts : List Expr} {kk : Nat} {tpos : Pos} (a e it : Addr) :
    Turn P w K (.Tuple elts kk tpos) (Itet K a) [e, it] e (fun i h => (∃ old, IsEnum h e it ((i : Nat) : Int) old) ∧ h.IsTupleIter it a i ∧ e ≠ it) where
  mem := by simp
  obj := fun i h st b hb => by
    obtain ⟨⟨old, he⟩, ⟨o, ho, hc, hd⟩, _⟩ := st
    rcases (show b = e ∨ b = it by simpa using hb) with z | z
    · rw [z]
      exact ⟨_, he, fun v q => nomatch q⟩
    · rw [z]
      exact ⟨o, ho, fun v q => by rw [hd] at q; cases q⟩
  keep := fun i h h' st k => by
    obtain ⟨⟨old, he⟩, hi, hne⟩ := st
    exact ⟨⟨old, k e (by simp) _ he⟩, hi.at fun o q => k it (by simp) o q, hne⟩
  item := by
    intro X hP hw hK hc i pins s σ H E I hf st hg
    subst hP hw hK
    obtain ⟨⟨old, he⟩, hit, hne⟩ := st
    obtain ⟨xs, x, hq, hx⟩ := hg
    obtain ⟨its, rv, p, hz⟩ := I.tuple hq
    obtain ⟨u, hu, ru⟩ := rv.get hx
    have hel : e < s.heap.objs.size := Heap.lt_size he
    have hil : it < s.heap.objs.size := by
      obtain ⟨_, q, _⟩ := hit
      exact Heap.lt_size q
    have pt : s.heap.IsTuple a its.toArray := p
    have nea : e ≠ a := fun z => by
      obtain ⟨o, ho, hcl, _⟩ := pt
      rw [← z] at ho
      have he' := he
      unfold IsEnum at he'
      rw [he'] at ho
      cases ho
      exact absurd (Value.type.inj hcl) (by decide)
    have nia : a ≠ it := fun z => by
      obtain ⟨o, ho, hcl, _⟩ := pt
      obtain ⟨o2, ho2, hcl2, _⟩ := hit
      rw [z, ho2] at ho
      cases ho
      rw [hcl2] at hcl
      exact absurd (Value.type.inj hcl) (by decide)
    have hil2 : i < its.toArray.size := by
      have := (List.getElem?_eq_some_iff.mp hu).1
      simpa using this
    refine wpAny_pyNext_enum_itemD (Draws.tuple (show X.A.in1.handled = none from I.ok.hd hc) it a nia its.toArray) he ⟨hit, pt⟩ hil2 hne (by simp [nea, hne]) fun x' h' tk hx' ho st' hT hsz hk => ?_
    have ex : x' = u := by
      rw [show its.toArray[i]? = some u by simpa using hu] at hx'
      exact (Option.some.inj hx').symm
    subst ex
    refine ⟨_, rfl, wpAny_letOwnedTupleGo_enum (s := { s with heap := h', toks := tk + 1 }) ho fun h'' he' sb => ?_⟩
    have hT2 : h''.get? s.heap.objs.size = some { cls := .type "tuple", data := .seq #[.int i tk, x'] } := (sb.2 _ (Nat.ne_of_gt hel)).trans hT
    have new : ObjOk X.prog X.w (upd H s.heap.objs.size (.tup [.int (i : Nat), x])) h'' s.heap.objs.size (.tup [.int (i : Nat), x]) :=
      ⟨by show 2 ≤ sizeLine; decide, [.int i tk, x'], .cons ⟨_, rfl⟩ (.cons ru .nil), ⟨_, hT2, rfl, _, rfl⟩⟩
    have I1 : Inv X pins σ (upd H s.heap.objs.size (.tup [.int (i : Nat), x])) { s with heap := h'', toks := tk + 1 } :=
      I.turnedNew (ch := [e, it]) (fun b ob hb q => (sb.2 b (fun z => hb (by simp [z]))).trans (hk b ob (fun z => hb (by simp [z])) (fun z => hb (by simp [z])) q)) hf (Nat.le_refl _) new
    refine ⟨.ref s.heap.objs.size, _, I1, rfl, ⟨_, x, rfl, I.hok.fresh (Nat.le_refl _), rfl, fun ys hy => by rw [tup_inj I hy hq]; exact hx⟩, ⟨⟨x', ?_⟩, st'.1.at fun o q => (sb.2 it (Ne.symm hne)).trans q, hne⟩, fun b hb => ?_⟩
    · rw [show ((i + 1 : Nat) : Int) = (i : Int) + 1 by omega]
      exact he'
    · have hb' : b < s.heap.objs.size := by
        rcases (show b = e ∨ b = it by simpa using hb) with z | z
        · rw [z]
          exact hel
        · rw [z]
          exact hil
      rw [upd_ne (Nat.ne_of_lt hb')]
      exact (hf b hb).1
  done := by
    intro X hP hw hK hc i pins s σ H E I hf st hg
    subst hP hw hK
    obtain ⟨⟨old, he⟩, hit, hne⟩ := st
    obtain ⟨xs, hq, hx⟩ := hg
    obtain ⟨its, rv, p, hz⟩ := I.tuple hq
    obtain ⟨f0, f1, f2, f3, f4, f5⟩ := hf it (by simp)
    have hl := rv.length
    have pt : s.heap.IsTuple a its.toArray := p
    have nia : a ≠ it := fun z => by
      obtain ⟨o, ho, hcl, _⟩ := pt
      obtain ⟨o2, ho2, hcl2, _⟩ := hit
      rw [z, ho2] at ho
      cases ho
      rw [hcl2] at hcl
      exact absurd (Value.type.inj hcl) (by decide)
    have hs : its.toArray.size ≤ i := by simp; omega
    have hh : X.A.in1.handled = none := I.ok.hd hc
    have hT : s.TypeIs (.ref e) "enumerate" := ⟨_, he, rfl⟩
    refine enum_end_tup hh he hit pt (Array.getElem?_eq_none hs) fun h' eb => ⟨rfl, I.turned (t' := s.toks) (fun b o hb q => eb b o hb q) f0 f1 f3 f4 f5⟩
  self := fun A i s Q E st h => by
    obtain ⟨⟨_, he⟩, _⟩ := st
    exact wpAny_pyIter_enum he h
def iEnumT (K : PySem.W.Frag) (ta : TA) : TI := fun σ H R => ta σ H fun vs H1 => ∃ a xs, vs = [.ref a] ∧ SqT K H1 a xs ∧ R (Itet K a) H1
theorem pi_enumT {X : Cx} {e : Expr} {ta : TA} {p pos tpos : Pos} {elts : List Expr} {kk : Nat} (hg : Gl X "enumerate") (hm : X.mg "enumerate" = none) (ha : PA X [e] ta) (hs : starEach [e] X.env = [(false, eval e X.env)] := by rfl) :
    PI X (.Tuple elts kk tpos) (.Call (.Name "enumerate" p) [e] [] pos) (iEnumT X.K ta) := by
  constructor
  intro pins s σ H R I h
  refine Call_ (ld_blt I hg hm boot_enumerate (PyProof.Rows.callWith_type1 (thn (ha.run pos pins s σ H _ I h) ?_) hs rfl))
  rintro us s1 ⟨vs, H1, I1, r1, a, xs, rfl, hq, q⟩
  obtain ⟨u, rfl, r⟩ : ∃ u, us = [u] ∧ RelV (.ref a) u := by
    cases r1 with
    | cons r rr =>
      cases rr
      exact ⟨_, rfl, r⟩
  cases r
  obtain ⟨its, rv, pt, hz⟩ := I1.tuple hq
  refine callType_new F.called_enumerate (by decide) (F.typeCall_enumerate_1 _) (F.newCall_enumerate_1 _) (fun obj => F.args_object_init_2 obj _) F.entry_enumerate_new (meets_enum1 (begins_tuple a its.toArray)) ⟨pt, ?_⟩
  have z1 : (s1.heap.push { cls := .type "tuple_iterator", data := .fields #[.ref a, .int 0 0] }).objs.size = s1.heap.objs.size + 1 := Heap.size_push ..
  show _ ∧ _
  rw [z1]
  have he : IsEnum ((s1.heap.push { cls := .type "tuple_iterator", data := .fields #[.ref a, .int 0 0] }).push { cls := .type "enumerate", data := .fields #[.none, .bool false, .ref s1.heap.objs.size, rawInt 0, .none, .none] }) (s1.heap.objs.size + 1) s1.heap.objs.size 0 .none := by
    have q := Heap.get?_push_size (s1.heap.push { cls := .type "tuple_iterator", data := .fields #[.ref a, .int 0 0] }) (o := { cls := .type "enumerate", data := .fields #[.none, .bool false, .ref s1.heap.objs.size, rawInt 0, .none, .none] }) rfl
    rw [z1] at q
    exact q
  refine ⟨⟨_, he, rfl⟩, wpAny_pyIter_enum he ?_⟩
  have I2 := I1.kept (t' := s1.toks) (h' := (s1.heap.push { cls := .type "tuple_iterator", data := .fields #[.ref a, .int 0 0] }).push { cls := .type "enumerate", data := .fields #[.none, .bool false, .ref s1.heap.objs.size, rawInt 0, .none, .none] }) fun b o x => Heap.get?_push_of_some _ (Heap.get?_push_of_some _ x)
  refine ⟨s1.heap.objs.size + 1, [s1.heap.objs.size + 1, s1.heap.objs.size], _, _, H1, rfl, I2, turn_enumT a (s1.heap.objs.size + 1) s1.heap.objs.size, ⟨⟨.none, he⟩, ⟨_, Heap.get?_push_of_some _ (Heap.get?_push_size _ rfl), rfl, rfl⟩, Nat.succ_ne_self _⟩, fun b hb => ?_, q⟩
  have hle : s1.heap.objs.size ≤ b := by
    rcases (show b = s1.heap.objs.size + 1 ∨ b = s1.heap.objs.size by simpa using hb) with z | z
    · rw [z]
      exact Nat.le_add_right _ _
    · rw [z]
      exact Nat.le_refl _
  exact I1.fpOk hle (I1.hok.fresh hle)
theorem walk_enumT {K : PySem.W.Frag} {a : Addr} {xs : List V} : Walk (Itet K a) xs.length (fun H => SqT K H a xs) (YPair (fun i => some (.int (i : Nat))) (fun i => xs[i]?)) := by
  refine ⟨fun i H hi q => ⟨xs, xs[i], q, by simp [hi]⟩, fun H q => ⟨xs, q, Nat.le_refl _⟩, fun i H v H' hi q y => ?_⟩
  obtain ⟨T, x, e1, e2, e3, e4⟩ := y
  exact ⟨T, _, x, e1, e2, e3, rfl, e4 xs q⟩
end Bc

namespace Bc
open PySem PySem.Spec PyProof.Rows L2
/-! ### words -/
def isW (z : Str) : Bool := match codes z with
  | [] => false
  | c :: t => inS sLetters c && (t.all alnum && decide (t.length ≤ 11))
theorem pe_bty {X : Cx} {x : Str} {T : String} {pos : Pos} (hg : Gl X x) (hm : X.mg x = none) (hv : bootBuiltins x = some (.type T)) (hn : x ≠ "__name__" := by decide) (hd : (x == ("__debug__" : Str)) = false := by decide) : PE X (.Name x pos) (tC (.ty T)) := pe_bltn (v := .ty T) hg hm hv rfl hn hd
abbrev nIsWord : List Str := ["value", "letter"]
theorem scIsWord : FnScope nIsWord ["value"] (defScope sIsWord) := ⟨rfl, rfl, rfl, by decide +kernel, rfl, by decide +kernel, by decide +kernel⟩
structure Wd (mg : Str → Option Value) : Prop where
  isi : mg "isinstance" = none
  str : mg "str" = none
  all : mg "all" = none
def spIsWord : Sp := fun vs H Q _ => ∃ z : Str, vs = [.str z] ∧ z.length ≤ 20000 ∧ ∀ H', Same H H' → Q (.bl (isW z)) H'
theorem alnum_or (c : Nat) : (inS sLetters c || inS sDigits c) = alnum c := by
  unfold alnum inS
  rw [show (sLetters ++ sDigits : Str).cps.toList = sLetters.cps.toList ++ sDigits.cps.toList from Array.toList_append]
  rw [show decide (c ∈ sLetters.cps.toList ++ sDigits.cps.toList) = decide (c ∈ sLetters.cps.toList ∨ c ∈ sDigits.cps.toList) from decide_eq_decide.mpr List.mem_append, Bool.decide_or]
section
variable {P : Program} {w : World} {K : PySem.W.Frag} {mg : Str → Option Value} {base : Heap}
theorem ok_isWord {f : Addr} {fd : FuncData} (F : Fun K "is_word" "is_word" sIsWord f fd) (B : Blt mg) (T : Cts mg) (W : Wd mg) : FnOk P w K mg base CX0 1 f fd ["value"] spIsWord := by
  refine F.ok scIsWord (fun vs H Q E h => ?_) (fun cdv A outer s H vs Q E hr h => ?_)
  · obtain ⟨z, rfl, _⟩ := h
    rfl
  · obtain ⟨z, rfl, hz, k⟩ := h
    refine ⟨_, pss_cons (ps_if (PW.pt (pw_or (pt_not (pt_val (pe_callB call_isi (by rfl) W.isi (by decide +kernel) (pa_cons (pv 0) (pa_cons (pe_bty (T := "str") (by rfl) W.str (by decide +kernel)) pa_nil)))))
          (pw_or (pt_cmpR op_lt (pe_callB call_len (by rfl) B.len (by decide +kernel) (pa_cons (pv 0) pa_nil)) pe_int (nomark _))
          (pw_or1 (pt_cmpR op_gt (pe_callB call_len (by rfl) B.len (by decide +kernel) (pa_cons (pv 0) pa_nil)) (pe_cint (by rfl) T.lo) (nomark _)))))) (pss_one (ps_ret pe_bl)) pss_nil)
      (pss_cons (ps_if (pt_cmpR op_notIn_sign (pe_ix ix_str (pv 0) pe_int (fun _ _ => rfl)) (pe_cstr (by rfl) T.le) (by rfl)) (pss_one (ps_ret pe_bl)) pss_nil)
      (pss_one (ps_ret (pe_callB (cr_all rfl) (by rfl) W.all (by decide +kernel) (pa_cons (pe_lc (own := [("letter", 1)]) (g := gName 1) (tt := tYes) (by rfl) scIsWord.nd (pi_str (pv 0)) (blkOk_by (own := [("letter", 1)]) (N := nIsWord) (sc := defScope sIsWord) (by decide +kernel)) (fun _ _ _ _ _ => pg_name (i := 1) scIsWord.nd rfl (.inl rfl)) (fun _ _ _ _ _ => pts_nil)
          (fun _ _ _ _ _ => pe_or (pe_cmpR op_in_sign (pv 1) (pe_cstr (by rfl) T.le) (by rfl)) (pe_one (pe_cmpR op_in_sign (pv 1) (pe_cstr (by rfl) T.di) (by rfl))))) pa_nil))))), ?_⟩
    have szl : z.length = (codes z).length := Array.length_toList.symm
    refine ⟨_, rfl, _, _, _, _, true, rfl, .ty "str", .base (.str z), kit_ty (by decide +kernel), true, rfl, ?_⟩
    refine if_no rfl ?_
    refine ⟨_, rfl, .str z, z.length, rfl, ⟨sz20 hz, rfl⟩, _, _, rfl, rfl, _, rfl, ?_⟩
    have k0 := k H (Same.refl H)
    refine ite2 (fun h1 => ?_) (fun h1 => ?_)
    · have h2 := of_decide_eq_true h1
      have e : isW z = false := by
        unfold isW
        have : (codes z).length = 0 := by omega
        rw [List.length_eq_zero_iff.mp this]
      rw [e] at k0
      exact k0
    have h1' : 1 ≤ z.length := by
      have : ¬ ((z.length : Int) < 1) := fun y => h1 (decide_eq_true y)
      omega
    refine ⟨_, rfl, .str z, z.length, rfl, ⟨sz20 hz, rfl⟩, _, _, rfl, rfl, _, rfl, ?_⟩
    obtain ⟨c, t, ec⟩ : ∃ c t, codes z = c :: t := by
      cases e : codes z with
      | nil =>
        rw [szl, e] at h1'
        cases h1'
      | cons c t => exact ⟨c, t, rfl⟩
    have lt : z.length = t.length + 1 := by rw [szl, ec]; rfl
    have eW : isW z = (inS sLetters c && (t.all alnum && decide (t.length ≤ 11))) := by
      unfold isW
      rw [ec]
    refine ite2 (fun h3 => ?_) (fun h3 => ?_)
    · have h4 := of_decide_eq_true h3
      rw [eW, decide_eq_false (by omega), Bool.and_false, Bool.and_false] at k0
      exact k0
    have h3' : t.length ≤ 11 := by
      have : ¬ ((z.length : Int) > 12) := fun y => h3 (decide_eq_true y)
      omega
    rw [eW, decide_eq_true h3', Bool.and_true] at k
    clear k0
    have e00 : (codes z)[0]? = some c := by rw [ec]; rfl
    have at0 : atI (codes z) (0 : Int) = some c := atI_nat (j := 0) e00
    refine ⟨_, rfl, z, _, c, rfl, rfl, sz20 hz, at0, c, sLetters, rfl, rfl, _, rfl, ?_⟩
    refine ite2 (fun h5 => ?_) (fun h5 => ?_)
    · have h6 : inS sLetters c = false := by
        have := h5
        simpa [inS] using this
      have q := k H (Same.refl H)
      rw [h6, Bool.false_and] at q
      exact q
    have h6 : inS sLetters c = true := by
      have := h5
      simpa [inS] using this
    rw [h6, Bool.true_and] at k
    refine ⟨_, rfl, z, rfl, fun D hD => lc_it walk_str (fun i H' => Same H H' ∧ H' D = some (.lst ((((codes z).take i).map alnum).map V.bl))) ⟨same_new hD, upd_same⟩ (fun _ _ _ _ => trivial) ?_ ?_⟩
    · rintro i x H1 H1' hi ⟨s1, eD⟩ ⟨rfl, d, hd, rfl⟩
      refine ⟨rfl, lc_yes ?_⟩
      have hd' : (codes z)[i]? = some d := by rw [← hd]; exact (Array.getElem?_toList ..)
      have st : ∀ b, b = alnum d → ∃ acc, H1' D = some (.lst acc) ∧ acc.length < sizeLine ∧ Same H (upd H1' D (.lst (acc ++ [.bl b]))) ∧ (upd H1' D (.lst (acc ++ [.bl b]))) D = some (.lst ((((codes z).take (i + 1)).map alnum).map V.bl)) := fun b hb => by
        refine ⟨_, eD, ?_, Same.over s1 hD, ?_⟩
        · rw [List.length_map, List.length_map, List.length_take]
          exact small1000 (by omega)
        · rw [upd_same, List.take_add_one, hd', hb, List.map_append, List.map_append]
          rfl
      refine ⟨_, rfl, d, sLetters, rfl, rfl, _, rfl, ?_⟩
      refine ite2 (fun h7 => st true ?_) (fun h7 => ?_)
      · rw [← alnum_or, show inS sLetters d = true from h7]
        rfl
      · refine ⟨_, rfl, d, sDigits, rfl, rfl, st _ ?_⟩
        rw [← alnum_or, show inS sLetters d = false by simpa [inS] using h7, Bool.false_or]
        rfl
    · rintro H1 ⟨s1, eD⟩
      refine ⟨D, ((codes z).take z.cps.size).map alnum, rfl, .inl (.inl eD), ?_⟩
      rw [show z.cps.size = (codes z).length from Array.length_toList.symm, List.take_length, ec]
      have ac : alnum c = true := let_alnum h6
      show Q (.bl (((c :: t).map alnum).all id)) H1
      rw [List.map_cons, List.all_cons, ac, List.all_map]
      exact k H1 s1
end
end Bc

namespace Bc
open PySem PySem.Spec PyProof.Rows L2
/-! ### what a word is good for -/
abbrev signL : List Str := ["(", ")", "{", "}", ",", ";"]
theorem in_all {z : Str} {c : Nat} {p : Nat → Bool} (h : inS z c = true) (a : z.cps.toList.all p = true) : p c = true := List.all_eq_true.mp a c (of_decide_eq_true h)
theorem isW_cons {z : Str} (h : isW z = true) : ∃ c t, codes z = c :: t ∧ inS sLetters c = true ∧ t.all alnum = true ∧ t.length ≤ 11 := by
  unfold isW at h
  cases e : codes z with
  | nil =>
    rw [e] at h
    cases h
  | cons c t =>
    rw [e] at h
    simp only [Bool.and_eq_true, decide_eq_true_eq] at h
    exact ⟨c, t, rfl, h.1, h.2.1, h.2.2⟩
theorem letter_not {c : Nat} (h : inS sLetters c = true) : inS sSigns c = false ∧ inS sDigits c = false ∧ inS sBlanks c = false ∧ alnum c = true ∧ c ≠ 48 := by
  have q := in_all h (p := fun c => !(inS sSigns c) && (!(inS sDigits c) && (!(inS sBlanks c) && (alnum c && !(decide (c = 48)))))) (by decide +kernel)
  simpa using q
theorem alnum_facts {c : Nat} (h : alnum c = true) : Unicode.isAlnum c = true ∧ c < 0x110000 ∧ c ≠ 94 := by
  have q := in_all h (p := fun c => Unicode.isAlnum c && (decide (c < 0x110000) && !(decide (c = 94)))) (by decide +kernel)
  simpa using q
theorem isW_all {z : Str} (h : isW z = true) : (codes z).all alnum = true := by
  obtain ⟨c, t, e, h1, h2, h3⟩ := isW_cons h
  rw [e, List.all_cons, (letter_not h1).2.2.2.1, h2]
  rfl
theorem isW_good {z : Str} (h : isW z = true) : goodTok z = true := by
  have ha := isW_all h
  obtain ⟨c, t, e, h1, h2, h3⟩ := isW_cons h
  unfold goodTok
  rw [e] at ha ⊢
  dsimp only
  rw [(letter_not h1).1, if_neg (by decide), if_pos h1, ha]
  exact decide_eq_true (by show t.length + 1 ≤ 12; omega)
theorem isW_kind {z : Str} (h : isW z = true) : kindOf z = "word" := by
  obtain ⟨c, t, e, h1, h2, h3⟩ := isW_cons h
  unfold kindOf
  rw [e]
  dsimp only
  rw [(letter_not h1).1, if_neg (by decide), if_pos h1]
theorem isW_strOk {z : Str} (h : isW z = true) : PyData.strOk z = true := by
  have ha := isW_all h
  unfold PyData.strOk
  rw [← Array.all_toList, List.all_eq_true]
  intro c hc
  exact decide_eq_true (alnum_facts (List.all_eq_true.mp ha c hc)).2.1
end Bc

namespace Bc
open PySem PySem.Spec PyProof.Rows L2
/-! ### books: a shape -/
abbrev Shp := Str × Str × List Str
def dShape (s : Shp) : PyData := .tuple [.str s.1, .str s.2.1, .tuple (s.2.2.map PyData.str)]
def okShapeB (s : Shp) : Bool := isW s.1 && (isW s.2.1 && (s.2.2.all isW && decide (s.2.2.length ≤ 100)))
structure OkShape (s : Shp) : Prop where
  w : isW s.1 = true
  st : isW s.2.1 = true
  br : ∀ b ∈ s.2.2, isW b = true
  ln : s.2.2.length ≤ 100
theorem okShape {s : Shp} (h : okShapeB s = true) : OkShape s := by
  unfold okShapeB at h
  simp only [Bool.and_eq_true, List.all_eq_true, decide_eq_true_eq] at h
  exact ⟨h.1, h.2.1, h.2.2.1, h.2.2.2⟩
theorem isW_len {z : Str} (h : isW z = true) : z.length ≤ 12 := by
  have szl : z.length = (codes z).length := Array.length_toList.symm
  unfold isW at h
  cases e : codes z with
  | nil =>
    rw [szl, e]
    decide
  | cons c t =>
    rw [e] at h
    simp only [Bool.and_eq_true, decide_eq_true_eq] at h
    rw [szl, e]
    show t.length + 1 ≤ 12
    omega
theorem dq_strs {K : PySem.W.Frag} {H : Hp} : ∀ {vs : List V} {bs : List Str}, DqAll K H vs (bs.map PyData.str) → vs = bs.map V.str
  | vs, [], h => h.nil_inv
  | vs, b :: bs, h => by
    obtain ⟨v, vs', rfl, h1, h2⟩ := DqAll.cons_inv h
    rw [h1.str_inv, dq_strs h2]
    rfl
theorem strs_dq {K : PySem.W.Frag} {H : Hp} : ∀ (bs : List Str), DqAll K H (bs.map V.str) (bs.map PyData.str)
  | [] => .nil
  | b :: bs => .cons (.str b) (strs_dq bs)
theorem shape_inv {K : PySem.W.Frag} {H : Hp} {v : V} {s : Shp} (h : Dq K H v (dShape s)) : ∃ a b, v = .ref a ∧ SqT K H a [.str s.1, .str s.2.1, .ref b] ∧ SqT K H b (s.2.2.map V.str) := by
  obtain ⟨a, xs, rfl, hq, hall⟩ := h.tup_inv
  obtain ⟨v1, _, rfl, h1, hall⟩ := hall.cons_inv
  obtain ⟨v2, _, rfl, h2, hall⟩ := hall.cons_inv
  obtain ⟨v3, _, rfl, h3, hall⟩ := hall.cons_inv
  cases hall.nil_inv
  cases h1.str_inv
  cases h2.str_inv
  obtain ⟨b, ys, rfl, hb, hs⟩ := h3.tup_inv
  rw [dq_strs hs] at hb
  exact ⟨a, b, rfl, hq, hb⟩
theorem tyL {K : PySem.W.Frag} {H : Hp} {a : Addr} {xs : List V} (h : SqL K H a xs) : TyX K H (.ref a) (.type "list") := by
  rcases h with (h | ⟨u, h⟩) | ⟨o, its, n, hk, hc, _⟩
  · exact .base (.lst h)
  · exact .base (.frz h)
  · exact .kList hk hc
theorem tyT {K : PySem.W.Frag} {H : Hp} {a : Addr} {xs : List V} (h : SqT K H a xs) : TyX K H (.ref a) (.type "tuple") := by
  rcases h with (h | ⟨u, h⟩) | ⟨o, its, n, hk, hc, _⟩
  · exact .base (.tup h)
  · exact .fTuple h
  · exact .kTuple hk hc
theorem hu1 {k : Nat} {A : Around} (r : Room k A) : A.units + 1 < cLine := by have := r.un; omega
structure Wt (mg : Str → Option Value) : Prop where
  tup : mg "tuple" = none
  enu : mg "enumerate" = none
abbrev nWrongS : List Str := ["shape", "k", "earlier", "word", "stem", "branches", "j", "colour"]
theorem scWrongS : FnScope nWrongS ["shape", "k", "earlier"] (defScope sWrongS) := ⟨rfl, rfl, rfl, by decide +kernel, rfl, by decide +kernel, by decide +kernel⟩
def spWrongS (K : PySem.W.Frag) : Sp := fun vs H Q _ => ∃ (v : V) (k : Int) (d : Addr) (kvs : List (Key × V)) (s : Shp), vs = [v, .int k, .ref d] ∧ Dq K H v (dShape s) ∧ OkShape s ∧ H d = some (.dK kvs) ∧ valV kvs (Sum.inr s.1 : Key) = none ∧ ∀ H', Same H H' → Q .non H'
section
variable {P : Program} {w : World} {K : PySem.W.Frag} {mg : Str → Option Value} {base : Heap}
theorem ok_wrongS {f fW : Addr} {fd fdW : FuncData} (F : Fun K "wrong_in_shape" "wrong_in_shape" sWrongS f fd) (B : Blt mg) (W : Wd mg) (N : Nm mg) (T : Wt mg)
    (GW : FnOk P w K mg base CX0 1 fW fdW ["value"] spIsWord) (bW : Binds K fdW ["value"] []) (gW : mg "is_word" = some (.ref fW)) (kW : PySem.W.keepIn K (.ref fW) = true) : FnOk P w K mg base CX0 2 f fd ["shape", "k", "earlier"] (spWrongS K) := by
  refine F.ok scWrongS (fun vs H Q E h => ?_) (fun cdv A outer s H vs Q E hr h => ?_)
  · obtain ⟨v, k, d, kvs, s, rfl, _⟩ := h
    rfl
  · obtain ⟨v, k0, d, kvs, sh, rfl, hv, ok, hd, hno, k⟩ := h
    obtain ⟨a, b, rfl, ha, hb⟩ := shape_inv hv
    have hu := hu1 hr
    refine ⟨_, pss_cons (ps_if (PW.pt (pw_or (pt_not (pt_val (pe_callB call_isi (by rfl) W.isi (by decide +kernel) (pa_cons (pv 0) (pa_cons (pe_bty (T := "tuple") (by rfl) T.tup (by decide +kernel)) pa_nil)))))
          (pw_or1 (pt_cmpR op_ne (pe_callB call_len (by rfl) B.len (by decide +kernel) (pa_cons (pv 0) pa_nil)) pe_int (nomark _))))) (pss_one ps_never) pss_nil)
      (pss_cons (ps_asg (pv 0) (pg_tup rfl (pgs_cons (pg_name (i := 3) scWrongS.nd rfl (.inl rfl)) (pgs_cons (pg_name (i := 4) scWrongS.nd rfl (.inl rfl)) (pgs_cons (pg_name (i := 5) scWrongS.nd rfl (.inl rfl)) pgs_nil)))))
      (pss_cons (ps_if (PW.pt (pw_or (pt_not (pt_val (pe_call GW hr (by rfl) gW kW bW .nil pass0 (pa_cons (pv 3) pa_nil)))) (pw_or1 (pt_cmp (pc_din hu (pv 3) (pv 2)))))) (pss_one ps_never) pss_nil)
      (pss_cons (ps_if (pt_not (pt_val (pe_call GW hr (by rfl) gW kW bW .nil pass0 (pa_cons (pv 4) pa_nil)))) (pss_one ps_never) pss_nil)
      (pss_cons (ps_if (pt_not (pt_val (pe_callB call_isi (by rfl) W.isi (by decide +kernel) (pa_cons (pv 5) (pa_cons (pe_bty (T := "tuple") (by rfl) T.tup (by decide +kernel)) pa_nil))))) (pss_one ps_never) pss_nil)
      (pss_cons (ps_for PassesOwn.never rfl (pi_enumT (by rfl) T.enu (pa_cons (pv 5) pa_nil)) (pg_tup rfl (pgs_cons (pg_name (i := 6) scWrongS.nd rfl (.inl rfl)) (pgs_cons (pg_name (i := 7) scWrongS.nd rfl (.inl rfl)) pgs_nil)))
        (pss_one (ps_if (pt_not (pt_val (pe_call GW hr (by rfl) gW kW bW .nil pass0 (pa_cons (pv 7) pa_nil)))) (pss_one ps_never) pss_nil)))
      (pss_one (ps_ret pe_non))))))), ?_⟩
    have wl : ∀ {z : Str}, isW z = true → z.length ≤ 20000 := fun {z} h => Nat.le_trans (isW_len h) (by decide)
    refine ⟨_, rfl, _, _, _, _, true, rfl, .ty "tuple", tyT ha, kit_ty (by decide +kernel), true, rfl, ?_⟩
    refine if_no rfl ?_
    refine ⟨_, rfl, _, 3, rfl, .inr ⟨_, ha, rfl⟩, rfl, _, rfl, ?_⟩
    refine if_no (by decide +kernel) ?_
    refine ⟨_, rfl, a, _, rfl, ha, rfl, _, _, rfl, _, _, rfl, _, _, rfl, rfl, ?_⟩
    refine ⟨_, rfl, sh.1, rfl, wl ok.w, fun H1 s1 => ⟨_, rfl, ?_⟩⟩
    refine if_no (by rw [ok.w]; rfl) ?_
    refine ⟨_, rfl, _, rfl, d, none, rfl, ?_, _, rfl, ?_⟩
    · rw [← hno]
      exact DGet.k (k := Sum.inr sh.1) (s1 _ _ hd)
    refine if_no rfl ?_
    refine ⟨_, rfl, sh.2.1, rfl, wl ok.st, fun H2 s2 => ⟨_, rfl, ?_⟩⟩
    refine if_no (by rw [ok.st]; rfl) ?_
    have sb := s1.trans s2
    refine ⟨_, rfl, _, _, _, _, true, rfl, .ty "tuple", tyT (Same.sqT sb hb), kit_ty (by decide +kernel), true, rfl, ?_⟩
    refine if_no rfl ?_
    refine ⟨_, rfl, b, _, rfl, Same.sqT sb hb, for_it (walk_enumT (K := K) (a := b) (xs := sh.2.2.map V.str)) (fun i σ H' => (∃ v6 v7, σ = [some (.ref a), some (.int k0), some (.ref d), some (.str sh.1), some (.str sh.2.1), some (.ref b), v6, v7]) ∧ Same H H')
      ⟨⟨_, _, rfl⟩, sb⟩ (fun i σ H' _ h => Same.sqT h.2 hb) ?_ ?_⟩
    · rintro i x σ H3 H3' hi ⟨⟨v6, v7, rfl⟩, s3⟩ ⟨q, x1, y1, rfl, hq, rfl, e1, e2⟩
      cases (Option.some.inj e1)
      obtain ⟨c, hc, rfl⟩ : ∃ c, c ∈ sh.2.2 ∧ y1 = V.str c := by
        obtain ⟨c, hc, e⟩ := List.mem_map.mp (List.mem_of_getElem? e2)
        exact ⟨c, hc, e.symm⟩
      refine ⟨q, _, rfl, .inl (.inl upd_same), rfl, _, _, rfl, _, _, rfl, rfl, ?_⟩
      refine ⟨_, rfl, c, rfl, wl (ok.br c hc), fun H4 s4 => ⟨_, rfl, ?_⟩⟩
      refine if_no (by rw [ok.br c hc]; rfl) ?_
      exact ⟨⟨_, _, rfl⟩, (s3.trans (same_new hq)).trans s4⟩
    · rintro σ H3 ⟨⟨v6, v7, rfl⟩, s3⟩
      exact k H3 s3
end
end Bc

namespace Bc
open PySem PySem.Spec PyProof.Rows L2
/-! ### books -/
/-- what isinstance asks of an own class and its instances -/
structure IsC (K : PySem.W.Frag) (C : Addr) : Prop where
  cl : Cls K C
  a1 : PySem.W.findIn K (.ref C) "__class__" = some (some (.builtin "object.__class__"))
  a2 : PySem.W.specialIn K (.builtin "object.__class__") "__get__" = some (some (.builtin "getset_descriptor.__get__"))
  a3 : PySem.W.takesIn K (.builtin "object.__class__") = some true
  a4 : PySem.W.mroIn K C (.type "object") = some true
  a5 : PySem.W.kitOne K (.ref C) (.ref C) = some true
def bkv (ws : List Str) (xs : List V) : List (Key × V) := (ws.map fun s => (Sum.inr s : Key)).zip xs
def wordsS (shs : List Shp) : List Str := shs.map (·.1)
structure OkBook (shs : List Shp) : Prop where
  all : ∀ s ∈ shs, OkShape s
  nd : (wordsS shs).Nodup
  ln : shs.length ≤ 1000
def BookAt (K : PySem.W.Frag) (H : Hp) (C b : Addr) (shs : List Shp) : Prop := ∃ (dx d : Addr) (xs : List V), H b = some (.ins C dx [("_shapes", .ref d)]) ∧ H d = some (.dK (bkv (wordsS shs) xs)) ∧ DqAll K H xs (shs.map dShape)
theorem BookAt.same {K : PySem.W.Frag} {H H' : Hp} {C b : Addr} {shs : List Shp} (h : BookAt K H C b shs) (s : Same H H') : BookAt K H' C b shs := by
  obtain ⟨dx, d, xs, h1, h2, h3⟩ := h
  exact ⟨dx, d, xs, s _ _ h1, s _ _ h2, DqAll.same s h3⟩
theorem bkv_snd {ws : List Str} {xs : List V} (h : xs.length = ws.length) : (bkv ws xs).map (·.2) = xs := by
  unfold bkv
  exact zip_snd (by rw [List.length_map]; exact h.symm)
theorem bkv_fst {ws : List Str} {xs : List V} (h : xs.length = ws.length) : (bkv ws xs).map (·.1) = ws.map fun s => (Sum.inr s : Key) := by
  unfold bkv
  exact zip_fst (by rw [List.length_map]; exact h.symm)
theorem bkv_len {ws : List Str} {xs : List V} (h : xs.length = ws.length) : (bkv ws xs).length = ws.length := by
  rw [← List.length_map (f := (·.1)), bkv_fst h, List.length_map]
theorem bkv_keys {ws : List Str} {xs : List V} (h : xs.length = ws.length) : (bkv ws xs).map (fun kv => kV kv.1) = ws.map V.str := by
  rw [show (bkv ws xs).map (fun kv => kV kv.1) = ((bkv ws xs).map (·.1)).map kV by rw [List.map_map]; rfl, bkv_fst h, List.map_map]
  rfl
theorem bkv_snoc {ws : List Str} {xs : List V} (h : xs.length = ws.length) (w : Str) (x : V) : bkv (ws ++ [w]) (xs ++ [x]) = bkv ws xs ++ [((Sum.inr w : Key), x)] := by
  unfold bkv
  rw [List.map_append, List.zip_append (by rw [List.length_map]; exact h.symm)]
  rfl
theorem valV_out {k : Key} : ∀ {kvs : List (Key × V)}, k ∉ kvs.map (·.1) → valV kvs k = none
  | [], _ => rfl
  | p :: r, h => by
    rw [valV_neg (fun e => h (by rw [List.map_cons, e]; exact List.mem_cons_self ..))]
    exact valV_out fun m => h (by rw [List.map_cons]; exact List.mem_cons_of_mem _ m)
theorem bkv_out {ws : List Str} {xs : List V} {w : Str} (h : xs.length = ws.length) (n : w ∉ ws) : valV (bkv ws xs) (Sum.inr w : Key) = none := valV_out fun m => by
  rw [bkv_fst h] at m
  obtain ⟨s, hs, e⟩ := List.mem_map.mp m
  cases e
  exact n hs
abbrev nBookI : List Str := ["self", "shapes", "found", "k", "shape", "path"]
theorem scBookI : FnScope nBookI ["self", "shapes"] (defScope sBookI) := ⟨rfl, rfl, rfl, by decide +kernel, rfl, by decide +kernel, by decide +kernel⟩
theorem scBookS : FnScope ["self"] ["self"] (defScope sBookS) := ⟨rfl, rfl, rfl, by decide +kernel, rfl, by decide +kernel, by decide +kernel⟩
theorem scBookW : FnScope ["self"] ["self"] (defScope sBookW) := ⟨rfl, rfl, rfl, by decide +kernel, rfl, by decide +kernel, by decide +kernel⟩
theorem scBookEq : FnScope ["self", "other"] ["self", "other"] (defScope sBookEq) := ⟨rfl, rfl, rfl, by decide +kernel, rfl, by decide +kernel, by decide +kernel⟩
def spBookI (K : PySem.W.Frag) (C : Addr) : Sp := fun vs H Q _ => ∃ (a dx l : Addr) (xs : List V) (shs : List Shp), vs = [.ref a, .ref l] ∧ H a = some (.ins C dx []) ∧ SqL K H l xs ∧ DqAll K H xs (shs.map dShape) ∧ OkBook shs ∧
  ∀ p H', (∀ b o, b ≠ a → H b = some o → H' b = some o) → H p = none → H' a = some (.ins C dx [("_shapes", .ref p)]) → H' p = some (.dK (bkv (wordsS shs) xs)) → Q .non H'
def spBookS (K : PySem.W.Frag) (C : Addr) : Sp := fun vs H Q _ => ∃ (a : Addr) (shs : List Shp), vs = [.ref a] ∧ BookAt K H C a shs ∧ ∀ p xs H', Same H H' → H p = none → H' p = some (.lst xs) → DqAll K H' xs (shs.map dShape) → Q (.ref p) H'
def spBookW (K : PySem.W.Frag) (C : Addr) : Sp := fun vs H Q _ => ∃ (a : Addr) (shs : List Shp), vs = [.ref a] ∧ BookAt K H C a shs ∧ ∀ p H', Same H H' → H p = none → H' p = some (.lst ((wordsS shs).map V.str)) → Q (.ref p) H'
def rBookEq (K : PySem.W.Frag) (C : Addr) (a b : Addr) (H : Hp) : Prop := ∃ shs, OkBook shs ∧ BookAt K H C a shs ∧ BookAt K H C b shs
section
variable {P : Program} {w : World} {K : PySem.W.Frag} {mg : Str → Option Value} {base : Heap} {C : Addr}
theorem ok_bookI {f fW : Addr} {fd fdW : FuncData} (F : Fun K "__init__" "Book.__init__" sBookI f fd) (c : Cls K C) (na : NoAttr K C "_shapes") (W : Wd mg) (N : Nm mg) (T : Wt mg)
    (GW : FnOk P w K mg base CX0 2 fW fdW ["shape", "k", "earlier"] (spWrongS K)) (bW : Binds K fdW ["shape", "k", "earlier"] []) (gW : mg "wrong_in_shape" = some (.ref fW)) (kW : PySem.W.keepIn K (.ref fW) = true) : FnOk P w K mg base CX0 3 f fd ["self", "shapes"] (spBookI K C) := by
  refine F.ok scBookI (fun vs H Q E h => ?_) (fun cdv A outer s H vs Q E hr h => ?_)
  · obtain ⟨a, dx, l, xs, shs, rfl, _⟩ := h
    rfl
  · obtain ⟨a, dx, l, xs, shs, rfl, ha, hl, hx, ok, k⟩ := h
    have hu := hu1 hr
    refine ⟨_, pss_cons (ps_if (pt_not (pt_val (pe_callB call_isiT (by rfl) W.isi (by decide +kernel) (pa_cons (pv 1) (pa_cons (pe_tup (pa_cons (pe_bty (T := "list") (by rfl) N.lst (by decide +kernel)) (pa_cons (pe_bty (T := "tuple") (by rfl) T.tup (by decide +kernel)) pa_nil))) pa_nil))))) (pss_one ps_never) pss_nil)
      (pss_cons (ps_set (i := 2) scBookI.nd rfl (.inl rfl) pe_dnewK)
      (pss_cons (ps_for PassesOwn.never rfl (pi_enum (by rfl) T.enu (pa_cons (pv 1) pa_nil)) (pg_tup rfl (pgs_cons (pg_name (i := 3) scBookI.nd rfl (.inl rfl)) (pgs_cons (pg_name (i := 4) scBookI.nd rfl (.inl rfl)) pgs_nil)))
        (pss_cons (ps_set (i := 5) scBookI.nd rfl (.inl rfl) (pe_call GW hr (by rfl) gW kW bW .nil pass0 (pa_cons (pv 4) (pa_cons (pv 3) (pa_cons (pv 2) pa_nil)))))
        (pss_cons (ps_if (pt_cmpR op_notN (pv 5) pe_non (nomark _)) (pss_one ps_never) pss_nil)
        (pss_one (ps_dput hu (pv 2) (pe_ix (show IxR _ (rIxT K) from ix_tup) (pv 4) pe_int (fun _ _ => rfl)) (pv 4) rfl)))))
      (pss_one (ps_fld (pv 0) (pv 2) rfl)))), ?_⟩
    refine ⟨_, rfl, (by show 2 ≤ sizeLine; decide), fun tp htp => ⟨_, tp, _, _, _, true, rfl, upd_same, .cons (.ty "list") (.cons (.ty "tuple") .nil), tyL ((same_new htp).seq hl), kitAny_cons (b := true) (kit_ty (by decide +kernel)) (fun e => absurd e (by decide)) (fun _ => rfl), true, rfl, ?_⟩⟩
    refine if_no rfl ?_
    intro d hd
    have s1 := same_new (o := .tup [.ty "list", .ty "tuple"]) htp
    have hd0 : H d = none := s1.free hd
    have s2 : Same H (upd (upd H tp (.tup [.ty "list", .ty "tuple"])) d (.dK [])) := s1.trans (same_new hd)
    have ed : (upd (upd H tp (.tup [.ty "list", .ty "tuple"])) d (.dK [])) d = some (.dK (bkv ((wordsS shs).take 0) (xs.take 0))) := by
      rw [List.take_zero, List.take_zero]
      exact upd_same
    generalize upd (upd H tp (.tup [.ty "list", .ty "tuple"])) d (.dK []) = H2 at s2 ed ⊢
    have lx : xs.length = shs.length := by rw [hx.len, List.length_map]
    have lw : (wordsS shs).length = shs.length := List.length_map ..
    have tl : ∀ i, (xs.take i).length = ((wordsS shs).take i).length := fun i => by rw [List.length_take, List.length_take, lx, lw]
    refine ⟨_, rfl, l, xs, rfl, s2.seq hl, for_it (walk_enum (K := K) (a := l) (xs := xs)) (fun i σ H' => (∃ v3 v4 v5, σ = [some (.ref a), some (.ref l), some (.ref d), v3, v4, v5]) ∧ Same H H' ∧ H' d = some (.dK (bkv ((wordsS shs).take i) (xs.take i))))
      ⟨⟨_, _, _, rfl⟩, s2, ed⟩ (fun i σ H' _ h => h.2.1.seq hl) ?_ ?_⟩
    · rintro i x σ H3 H3' hi ⟨⟨v3, v4, v5, rfl⟩, s3, ed3⟩ ⟨q, x1, y1, rfl, hq, rfl, e1, e2⟩
      cases (Option.some.inj e1)
      have e2 : xs[i]? = some y1 := e2
      obtain ⟨sd, hsd, dqy⟩ := DqAll.get i hx e2
      obtain ⟨sh, hsh, rfl⟩ : ∃ sh, shs[i]? = some sh ∧ sd = dShape sh := by
        rw [List.getElem?_map] at hsd
        cases e : shs[i]? with
        | none =>
          rw [e] at hsd
          cases hsd
        | some b =>
          rw [e] at hsd
          exact ⟨b, rfl, (Option.some.inj hsd).symm⟩
      have s3q := s3.trans (same_new (o := .tup [.int (i : Nat), y1]) hq)
      have ed3q := (same_new (o := .tup [.int (i : Nat), y1]) hq) _ _ ed3
      have hwi : (wordsS shs)[i]? = some sh.1 := by
        unfold wordsS
        rw [List.getElem?_map, hsh]
        rfl
      have hout : sh.1 ∉ (wordsS shs).take i := fun m => by
        obtain ⟨j, hj⟩ := List.getElem?_of_mem m
        have hj1 : j < i := by
          have := (List.getElem?_eq_some_iff.mp hj).1
          rw [List.length_take] at this
          omega
        rw [List.getElem?_take_of_lt hj1] at hj
        have := nd_ix ok.nd hj hwi
        omega
      have hnone : valV (bkv ((wordsS shs).take i) (xs.take i)) (Sum.inr sh.1 : Key) = none := bkv_out (tl i) hout
      refine ⟨q, _, rfl, .inl (.inl upd_same), rfl, _, _, rfl, _, _, rfl, rfl, ?_⟩
      refine ⟨_, rfl, _, rfl, _, rfl, y1, _, d, _, sh, rfl, Dq.same s3q dqy, ok.all sh (List.mem_of_getElem? hsh), ed3q, hnone, fun H4 s4 => ?_⟩
      refine ⟨_, rfl, rfl, _, rfl, ?_⟩
      refine iteNS rfl ?_
      have s5 := s3q.trans s4
      obtain ⟨r, b, rfl, hr2, hb2⟩ := shape_inv (Dq.same s5 dqy)
      refine ⟨_, rfl, _, rfl, _, rfl, r, _, _, .str sh.1, rfl, rfl, hr2, L2.at_of (j := 0) rfl rfl, d, _, rfl, DPut.k (k := Sum.inr sh.1) (s4 _ _ ed3q) ?_, ⟨_, _, _, rfl⟩, Same.over s5 hd0, ?_⟩
      · have q1 := tl i
        rw [bkv_len q1, List.length_take, lw]
        exact small1000 (by have := ok.ln; omega)
      · rw [upd_same, putK_new _ hnone, List.take_add_one, List.take_add_one, hwi, e2]
        show _ = some (HO.dK (bkv ((wordsS shs).take i ++ [sh.1]) (xs.take i ++ [.ref r])))
        rw [bkv_snoc (tl i)]
    · rintro σ H3 ⟨⟨v3, v4, v5, rfl⟩, s3, ed3⟩
      rw [List.take_length, List.take_of_length_le (by rw [lw, lx]; exact Nat.le_refl _)] at ed3
      have nad : d ≠ a := fun e => by rw [e, ha] at hd0; cases hd0
      refine ⟨_, rfl, _, rfl, a, C, dx, [], rfl, s3 _ _ ha, c, na, by decide, ?_⟩
      refine k d _ (fun b o nb e => ?_) hd0 upd_same ?_
      · rw [upd_ne nb]
        exact s3 _ _ e
      · rw [upd_ne nad]
        exact ed3
theorem ok_bookS {f : Addr} {fd : FuncData} (F : Fun K "shapes" "Book.shapes" sBookS f fd) (c : Cls K C) (na : NoAttr K C "_shapes") (N : Nm mg) : FnOk P w K mg base CX0 1 f fd ["self"] (spBookS K C) := by
  refine F.ok scBookS (fun vs H Q E h => ?_) (fun cdv A outer s H vs Q E hr h => ?_)
  · obtain ⟨a, shs, rfl, _⟩ := h
    rfl
  · obtain ⟨a, shs, rfl, ⟨dx, d, xs, h1, h2, h3⟩, k⟩ := h
    refine ⟨_, pss_one (ps_ret (pe_listVals rfl (pe_fld (pv 0) rfl) (by rfl) N.lst (by decide +kernel))), ?_⟩
    refine ⟨_, rfl, a, C, dx, _, .ref d, rfl, h1, c, na, rfl, d, _, rfl, h2, fun p hp => ?_⟩
    rw [bkv_snd (by rw [h3.len]; unfold wordsS; rw [List.length_map, List.length_map])]
    exact k p xs _ (same_new hp) hp upd_same (DqAll.same (same_new hp) h3)
theorem ok_bookW {f : Addr} {fd : FuncData} (F : Fun K "words" "Book.words" sBookW f fd) (c : Cls K C) (na : NoAttr K C "_shapes") (N : Nm mg) : FnOk P w K mg base CX0 1 f fd ["self"] (spBookW K C) := by
  refine F.ok scBookW (fun vs H Q E h => ?_) (fun cdv A outer s H vs Q E hr h => ?_)
  · obtain ⟨a, shs, rfl, _⟩ := h
    rfl
  · obtain ⟨a, shs, rfl, ⟨dx, d, xs, h1, h2, h3⟩, k⟩ := h
    refine ⟨_, pss_one (ps_ret (pe_callTy (call_listD rfl) (by rfl) N.lst (by decide +kernel) (pa_cons (pe_fld (pv 0) rfl) pa_nil))), ?_⟩
    refine ⟨_, rfl, a, C, dx, _, .ref d, rfl, h1, c, na, rfl, d, _, rfl, .inl h2, fun p hp => ?_⟩
    rw [bkv_keys (by rw [h3.len]; unfold wordsS; rw [List.length_map, List.length_map])]
    exact k p _ (same_new hp) hp upd_same
theorem strs_lay : ∀ (bs : List Str), (∀ b ∈ bs, isW b = true) → PyData.canLayAll0 (bs.map PyData.str) = true
  | [], _ => rfl
  | b :: bs, h => by
    rw [List.map_cons, PyData.canLayAll0, strs_lay bs fun x hx => h x (List.mem_cons_of_mem _ hx), Bool.and_true, PyData.canLay0]
    exact isW_strOk (h b (List.mem_cons_self ..))
theorem strs_depth : ∀ (bs : List Str), PyData.depthAll (bs.map PyData.str) = 0
  | [] => by simp [PyData.depthAll]
  | b :: bs => by
    simp only [List.map_cons, PyData.depthAll, strs_depth bs, PyData.depth]
    rfl
theorem shapes_lay : ∀ (shs : List Shp), (∀ s ∈ shs, OkShape s) → PyData.canLayAll0 (shs.map dShape) = true
  | [], _ => rfl
  | s :: shs, h => by
    have hs := h s (List.mem_cons_self ..)
    rw [List.map_cons, PyData.canLayAll0, shapes_lay shs fun x hx => h x (List.mem_cons_of_mem _ hx), Bool.and_true]
    unfold dShape
    simp only [PyData.canLay0, PyData.canLayAll0, isW_strOk hs.w, isW_strOk hs.st, strs_lay s.2.2 hs.br, Bool.and_self]
theorem shapes_depth : ∀ (shs : List Shp), PyData.depthAll (shs.map dShape) ≤ 2
  | [] => by simp [PyData.depthAll]
  | s :: shs => by
    have q := shapes_depth shs
    have e : PyData.depth (dShape s) ≤ 2 := by
      simp only [dShape, PyData.depth, PyData.depthAll, strs_depth]
      omega
    simp only [List.map_cons, PyData.depthAll]
    omega
theorem shapes_shaped {shs : List Shp} (h : ∀ s ∈ shs, OkShape s) : SeqAt.shaped (.list (shs.map dShape)) = true := by
  unfold SeqAt.shaped
  have a := shapes_lay shs h
  have b := shapes_depth shs
  rw [PyData.canLay0, a, Bool.true_and]
  refine decide_eq_true ?_
  rw [PyData.depth]
  omega
theorem ok_bookEq {f fS : Addr} {fd fdS : FuncData} (F : Fun K "__eq__" "Book.__eq__" sBookEq f fd) (c : Cls K C) (ic : IsC K C) (W : Wd mg) (gC : mg "Book" = some (.ref C)) (mS : Meth K C "shapes" fS)
    (GS : FnOk P w K mg base CX0 1 fS fdS ["self"] (spBookS K C)) (bS : Binds K fdS ["self"] []) : FnOk P w K mg base CX0 2 f fd ["self", "other"] (spEq (rBookEq K C)) := by
  refine F.ok scBookEq (fun vs H Q E h => ?_) (fun cdv A outer s H vs Q E hr h => ?_)
  · obtain ⟨a, b, rfl, _⟩ := h
    rfl
  · obtain ⟨a, b, rfl, ⟨shs, ok, ha, hb⟩, k⟩ := h
    have hu := hr.units
    have ha0 := ha
    have hb0 := hb
    obtain ⟨dx, d, xs, h1, h2, h3⟩ := ha0
    obtain ⟨dy, d', ys, g1, g2, g3⟩ := hb0
    refine ⟨_, pss_one (ps_ret (pe_and (pe_callB call_isi (by rfl) W.isi (by decide +kernel) (pa_cons (pv 1) (pa_cons (pe_glob (v := .ref C) (by rfl) gC rfl) pa_nil)))
      (pe_one (pe_cmpR (op_eqD hu) (pe_meth0 (pv 0) c mS GS hr bS .nil pass0) (pe_meth0 (pv 1) c mS GS hr bS .nil pass0) (nomark _))))), ?_⟩
    refine ⟨_, rfl, _, _, _, _, true, rfl, .own C, .base (.ins g1 ic.cl ic.a1 ic.a2 ic.a3 ic.a4), ic.a5, true, rfl, ?_⟩
    refine if_known rfl ?_
    refine ⟨_, rfl, a, dx, _, rfl, h1, rfl, a, shs, rfl, ha, fun p xs2 H1 s1 np ep dp => ?_⟩
    refine ⟨_, rfl, b, dy, _, rfl, s1 _ _ g1, rfl, b, shs, rfl, hb.same s1, fun q ys2 H2 s2 nq eq dq => ?_⟩
    have shp := shapes_shaped ok.all
    have lay := SeqAt.canLay_of_shaped shp
    refine ⟨.list (shs.map dShape), .list (shs.map dShape), .lst (.inl (.inl (s2 _ _ ep))) (DqAll.dp (DqAll.same s2 dp) lay), .lst (.inl (.inl eq)) (DqAll.dp dq lay), shp, shp, ?_⟩
    rw [SeqAt.eqv_refl _ lay]
    exact k _ (s1.trans s2)
end
end Bc

namespace Bc
open PySem PySem.Spec PyProof.Rows L2
/-! ### name = {k: v for ..} -/
section
variable {X : Cx}
theorem ps_setDc {i : Nat} {y : Str} {py : Pos} {kx vx tg iter : Expr} {ifs : List Expr} {scope : Scope} {own : List (Str × Nat)} {pos spos : Pos} {wi : TI} {g : TG} {tt : TT} {tk tv : TE} (hc : X.calm = true) (hN : X.N.Nodup) (hy : X.N[i]? = some y) (hyl : X.env.scope.names.lookup y = some .local)
    (hsw : swapsWith (.DictComp kx vx [⟨tg, iter, ifs, 0⟩] scope pos) (some (.Name y py)) spos.line X.env = pure true) (hi : PI X tg iter wi) (ok : BlkOk X.N X.env.scope scope own)
    (hg : ∀ (s : Shared) (H : Hp) (C : Addr) (cl : List (Str × Addr)) (fp : List Addr), PG (X.blk s H scope (compEnvC scope cl C X.env) fp) tg g) (ht : ∀ (s : Shared) (H : Hp) (C : Addr) (cl : List (Str × Addr)) (fp : List Addr), PTs (X.blk s H scope (compEnvC scope cl C X.env) fp) ifs tt)
    (hk : ∀ (s : Shared) (H : Hp) (C : Addr) (cl : List (Str × Addr)) (fp : List Addr), PE (X.blk s H scope (compEnvC scope cl C X.env) fp) kx tk) (he : ∀ (s : Shared) (H : Hp) (C : Addr) (cl : List (Str × Addr)) (fp : List Addr), PE (X.blk s H scope (compEnvC scope cl C X.env) fp) vx tv)
    (hs : ∀ x, foldedSetIterable iter X.env x = pure x := by intro _; rfl) : PS X (.Assign [.Name y py] (.DictComp kx vx [⟨tg, iter, ifs, 0⟩] scope pos) spos) (tAsg (tDc wi g tt tk tv (own.map (·.2))) (gName i)) := by
  constructor
  intro pins s σ H D I h
  rw [exec_Assign_Name_used _ _ _ _ hsw]
  have h : tDc wi g tt tk tv (own.map (·.2)) σ H (fun x H1 => gName i x σ H1 D.nx) := h
  have stored : ∀ (L C : Addr) (s' : Shared) (m : Str → Option Value) (H' : Hp), Inv X pins σ H' s' → gName i (.ref L) σ H' D.nx → s'.heap.Ns C m → FpOk X pins H' C → compPost (model X.prog X.w) X.A X.xe (some (assign (.Name y py) X.env)) (fun _ s' => SP X pins D .next s') (.ref L) C (.ok .next) s' := by
    intro L C s' m H' I' q hn f
    obtain ⟨f0, f1, f2, f3, f4, f5⟩ := f
    show wpAny _ _ (assign (.Name y py) X.env (.ref L)) _ _ _
    refine wpAny_assign_Name (store_ok2 (v := V.ref L) I' hN hy (.inl hyl) rfl (fun s2 I2 z => ?_) (.inr hyl))
    obtain ⟨a, sb, ha⟩ := z
    have haC : C ≠ a := ha.elim (fun z => by rw [z]; exact f1) (fun z e => f4 y a z e.symm)
    exact ⟨m, hn.sameBut sb haC, fun h3 sb3 => ⟨_, H', I2.turned (t' := s2.toks) (fun b o hb e => (sb3.2 b hb).trans e) f0 f1 f3 f4 f5, q⟩⟩
  refine wpAny_bind (wpAny_standAt (wpAny_bind ?_))
  show wpAny _ X.A (do let _ ← comprehension (.DictComp kx vx [⟨tg, iter, ifs, 0⟩] scope pos) scope X.env (firstIterPos [⟨tg, iter, ifs, 0⟩] pos) newDict false (eval iter X.env) (some (assign (.Name y py) X.env))) _ _ s
  refine wpAny_bind (thn (dc_core (Qf := fun _ s' => SP X pins D .next s') hc hN I hi ok hg ht hk he hs h stored) fun _ s' hq => wpAny_pure (wpAny_pure hq))
theorem sw_dict {kx vx : Expr} {gs : List Comprehension} {scope : Scope} {pos py : Pos} {y : Str} {l : Nat} {env : Env} (hk : env.scope.kind = .function) (hy : env.scope.names.lookup y = some .local) (hl : (py.line == pos.line) = true)
    (ha : (scope.names.any fun (n, k) => n == y && (k == .local || k == .cell)) = false) : swapsWith (.DictComp kx vx gs scope pos) (some (.Name y py)) l env = pure true := by
  have ky : env.kindOf y = some .local := hy
  have hb : env.blockKind = .function := by
    unfold Env.blockKind
    rw [hk]
    rfl
  unfold swapsWith
  simp only [hb, ky, ha, Expr.pos, hl]
  rfl
end
end Bc

namespace Bc
open PySem PySem.Spec PyProof.Rows L2
/-! ### bags -/
abbrev Jnt := Str × Str
def dJoint (j : Jnt) : PyData := .tuple [.str j.1, .str j.2]
def namesJ (js : List Jnt) : List Str := js.map (·.1)
structure OkBag (ws : List Str) (js : List Jnt) : Prop where
  name : ∀ j ∈ js, isW j.1 = true ∧ j.1 ≠ "root"
  word : ∀ j ∈ js, isW j.2 = true ∧ j.2 ∈ ws
  nd : (namesJ js).Nodup
  ln : js.length ≤ 1000
def BagAt (K : PySem.W.Frag) (H : Hp) (CB CG g : Addr) (shs : List Shp) (js : List Jnt) : Prop := ∃ (dx b d : Addr), H g = some (.ins CG dx [("_book", .ref b), ("_words", .ref d)]) ∧ BookAt K H CB b shs ∧ H d = some (.dK (bkv (namesJ js) (js.map fun j => V.str j.2)))
theorem BagAt.same {K : PySem.W.Frag} {H H' : Hp} {CB CG g : Addr} {shs : List Shp} {js : List Jnt} (h : BagAt K H CB CG g shs js) (s : Same H H') : BagAt K H' CB CG g shs js := by
  obtain ⟨dx, b, d, h1, h2, h3⟩ := h
  exact ⟨dx, b, d, s _ _ h1, h2.same s, s _ _ h3⟩
theorem joint_inv {K : PySem.W.Frag} {H : Hp} {v : V} {j : Jnt} (h : Dq K H v (dJoint j)) : ∃ a, v = .ref a ∧ SqT K H a [.str j.1, .str j.2] := by
  obtain ⟨a, xs, rfl, hq, hall⟩ := h.tup_inv
  obtain ⟨v1, _, rfl, h1, hall⟩ := hall.cons_inv
  obtain ⟨v2, _, rfl, h2, hall⟩ := hall.cons_inv
  cases hall.nil_inv
  cases h1.str_inv
  cases h2.str_inv
  exact ⟨a, rfl, hq⟩
abbrev nWrongJ : List Str := ["joint", "k", "words", "earlier", "name", "word"]
theorem scWrongJ : FnScope nWrongJ ["joint", "k", "words", "earlier"] (defScope sWrongJ) := ⟨rfl, rfl, rfl, by decide +kernel, rfl, by decide +kernel, by decide +kernel⟩
def spWrongJ (K : PySem.W.Frag) : Sp := fun vs H Q _ => ∃ (v : V) (k : Int) (e d : Addr) (evs kvs : List (Key × V)) (j : Jnt), vs = [v, .int k, .ref e, .ref d] ∧ Dq K H v (dJoint j) ∧ isW j.1 = true ∧ j.1 ≠ "root" ∧ isW j.2 = true ∧ H e = some (.dK evs) ∧ (valV evs (Sum.inr j.2 : Key)).isSome = true ∧ H d = some (.dK kvs) ∧ valV kvs (Sum.inr j.1 : Key) = none ∧ ∀ H', Same H H' → Q .non H'
section
variable {P : Program} {w : World} {K : PySem.W.Frag} {mg : Str → Option Value} {base : Heap}
theorem ok_wrongJ {f fW : Addr} {fd fdW : FuncData} (F : Fun K "wrong_in_joint" "wrong_in_joint" sWrongJ f fd) (B : Blt mg) (W : Wd mg) (T : Wt mg) (gR : ∃ t, mg "ROOT" = some (.str "root" t))
    (GW : FnOk P w K mg base CX0 1 fW fdW ["value"] spIsWord) (bW : Binds K fdW ["value"] []) (gW : mg "is_word" = some (.ref fW)) (kW : PySem.W.keepIn K (.ref fW) = true) : FnOk P w K mg base CX0 2 f fd ["joint", "k", "words", "earlier"] (spWrongJ K) := by
  refine F.ok scWrongJ (fun vs H Q E h => ?_) (fun cdv A outer s H vs Q E hr h => ?_)
  · obtain ⟨v, k, e, d, evs, kvs, j, rfl, _⟩ := h
    rfl
  · obtain ⟨v, k0, e, d, evs, kvs, j, rfl, hv, h1, h2, h3, he, hin, hd, hno, k⟩ := h
    obtain ⟨a, rfl, ha⟩ := joint_inv hv
    have hu := hu1 hr
    refine ⟨_, pss_cons (ps_if (PW.pt (pw_or (pt_not (pt_val (pe_callB call_isi (by rfl) W.isi (by decide +kernel) (pa_cons (pv 0) (pa_cons (pe_bty (T := "tuple") (by rfl) T.tup (by decide +kernel)) pa_nil)))))
          (pw_or1 (pt_cmpR op_ne (pe_callB call_len (by rfl) B.len (by decide +kernel) (pa_cons (pv 0) pa_nil)) pe_int (nomark _))))) (pss_one ps_never) pss_nil)
      (pss_cons (ps_asg (pv 0) (pg_tup rfl (pgs_cons (pg_name (i := 4) scWrongJ.nd rfl (.inl rfl)) (pgs_cons (pg_name (i := 5) scWrongJ.nd rfl (.inl rfl)) pgs_nil))))
      (pss_cons (ps_if (PW.pt (pw_or (pt_not (pt_val (pe_call GW hr (by rfl) gW kW bW .nil pass0 (pa_cons (pv 4) pa_nil)))) (pw_or (pt_cmpR op_eq (pv 4) (pe_cstr (by rfl) gR) (nomark _)) (pw_or1 (pt_cmp (pc_din hu (pv 4) (pv 3))))))) (pss_one ps_never) pss_nil)
      (pss_cons (ps_if (PW.pt (pw_or (pt_not (pt_val (pe_call GW hr (by rfl) gW kW bW .nil pass0 (pa_cons (pv 5) pa_nil)))) (pw_or1 (pt_cmp (pc_dnotin hu (pv 5) (pv 2)))))) (pss_one ps_never) pss_nil)
      (pss_one (ps_ret pe_non))))), ?_⟩
    have wl : ∀ {z : Str}, isW z = true → z.length ≤ 20000 := fun {z} h => Nat.le_trans (isW_len h) (by decide)
    refine ⟨_, rfl, _, _, _, _, true, rfl, .ty "tuple", tyT ha, kit_ty (by decide +kernel), true, rfl, ?_⟩
    refine if_no rfl ?_
    refine ⟨_, rfl, _, 2, rfl, .inr ⟨_, ha, rfl⟩, rfl, _, rfl, ?_⟩
    refine if_no (by decide +kernel) ?_
    refine ⟨_, rfl, a, _, rfl, ha, rfl, _, _, rfl, _, _, rfl, rfl, ?_⟩
    refine ⟨_, rfl, j.1, rfl, wl h1, fun H1 s1 => ⟨_, rfl, ?_⟩⟩
    refine if_no (by rw [h1]; rfl) ?_
    refine ⟨_, rfl, rfl, _, rfl, ?_⟩
    rw [show decide (V.str j.1 = V.str "root") = decide (j.1 = "root") from dec_str]
    refine if_no (decide_eq_false h2) ?_
    refine ⟨_, rfl, _, rfl, d, none, rfl, ?_, _, rfl, ?_⟩
    · rw [← hno]
      exact DGet.k (k := Sum.inr j.1) (s1 _ _ hd)
    refine if_no rfl ?_
    refine ⟨_, rfl, j.2, rfl, wl h3, fun H2 s2 => ⟨_, rfl, ?_⟩⟩
    refine if_no (by rw [h3]; rfl) ?_
    refine ⟨_, rfl, _, rfl, e, _, rfl, DGet.k (k := Sum.inr j.2) (s2 _ _ (s1 _ _ he)), _, rfl, ?_⟩
    refine if_no (by rw [hin]; rfl) ?_
    exact k H2 (s1.trans s2)
end
end Bc

namespace Bc
open PySem PySem.Spec PyProof.Rows L2
/-- a dict comprehension over a walk -/
theorem dc_it {J : It} {n : Nat} {G : Hp → Prop} {Y : Nat → Hp → V → Hp → Prop} (w : Walk J n G Y) {g : TG} {tt : TT} {tk tv : TE} {vs : List Nat} {σ : L2.St} {H1 : Hp} {D : Addr} {Qd : Hp → Prop} (Pv : Nat → Hp → Prop) (h0 : Pv 0 (upd H1 D (.dK []))) (hG : ∀ i H, i ≤ n → Pv i H → G H)
    (hs : ∀ i x H H', i < n → Pv i H → Y i H x H' → g x (wipe σ vs) H' fun σ2 H2 => wipe σ2 vs = wipe σ vs ∧ tt σ2 H2 fun b H3 =>
      if b = true then tk σ2 H3 fun y H4 => tv σ2 H4 fun z H5 => ∃ kvs k, y = kV k ∧ H5 D = some (.dK kvs) ∧ kvs.length < sizeLine ∧ Pv (i + 1) (upd H5 D (.dK (putK kvs k z))) else Pv (i + 1) H3) (hd : ∀ H, Pv n H → Qd H) :
    ∃ W : Nat → Nat → Hp → Prop, (∃ m, W 0 m (upd H1 D (.dK []))) ∧ ∀ i m H, W i m H →
      (J.stop i H ∧ Qd H) ∨ (J.go i H ∧ ∃ Nx : Hp → Prop, (∀ H', Nx H' → ∃ m', m' < m ∧ W (i + 1) m' H') ∧ ∀ x H', J.yld i H x H' → g x (wipe σ vs) H' fun σ2 H2 => wipe σ2 vs = wipe σ vs ∧ tt σ2 H2 fun b H3 =>
        if b = true then tk σ2 H3 fun y H4 => tv σ2 H4 fun z H5 => ∃ kvs k, y = kV k ∧ H5 D = some (.dK kvs) ∧ kvs.length < sizeLine ∧ Nx (upd H5 D (.dK (putK kvs k z))) else Nx H3) := by
  refine ⟨fun i m H => m = n - i ∧ i ≤ n ∧ Pv i H, ⟨n, by simp, Nat.zero_le _, h0⟩, fun i m H q => ?_⟩
  obtain ⟨rfl, hi, p⟩ := q
  rcases Nat.lt_or_ge i n with hlt | hge
  · exact .inr ⟨w.goes i H hlt (hG i H hi p), Pv (i + 1), fun H' p' => ⟨n - (i + 1), by omega, rfl, hlt, p'⟩, fun x H' y => hs i x H H' hlt p (w.yields i H x H' hlt (hG i H hi p) y)⟩
  · have e : i = n := by omega
    subst e
    exact .inl ⟨w.stops H (hG i H hi p), hd H p⟩
theorem putK_le (c : List (Key × V)) (k : Key) (x : V) : (putK c k x).length ≤ c.length + 1 := by
  unfold putK
  split
  · rw [List.length_map]
    omega
  · rw [List.length_append]
    exact Nat.le_refl _
abbrev nBagI : List Str := ["self", "book", "joints", "words", "found", "k", "joint", "path", "word"]
theorem scBagI : FnScope nBagI ["self", "book", "joints"] (defScope sBagI) := ⟨rfl, rfl, rfl, by decide +kernel, rfl, by decide +kernel, by decide +kernel⟩
theorem scBagJ : FnScope ["self"] ["self"] (defScope sBagJ) := ⟨rfl, rfl, rfl, by decide +kernel, rfl, by decide +kernel, by decide +kernel⟩
theorem scBagEq : FnScope ["self", "other"] ["self", "other"] (defScope sBagEq) := ⟨rfl, rfl, rfl, by decide +kernel, rfl, by decide +kernel, by decide +kernel⟩
def spBagI (K : PySem.W.Frag) (CB CG : Addr) : Sp := fun vs H Q _ => ∃ (a dx b l : Addr) (xs : List V) (shs : List Shp) (js : List Jnt), vs = [.ref a, .ref b, .ref l] ∧ H a = some (.ins CG dx []) ∧ BookAt K H CB b shs ∧ shs.length ≤ 1000 ∧ SqL K H l xs ∧ DqAll K H xs (js.map dJoint) ∧ OkBag (wordsS shs) js ∧
  ∀ p H', (∀ q o, q ≠ a → H q = some o → H' q = some o) → H p = none → H' a = some (.ins CG dx [("_book", .ref b), ("_words", .ref p)]) → H' p = some (.dK (bkv (namesJ js) (js.map fun j => V.str j.2))) → Q .non H'
def spBagJ (K : PySem.W.Frag) (CB CG : Addr) : Sp := fun vs H Q _ => ∃ (g : Addr) (shs : List Shp) (js : List Jnt), vs = [.ref g] ∧ BagAt K H CB CG g shs js ∧ ∀ p xs H', Same H H' → H p = none → H' p = some (.lst xs) → DqAll K H' xs (js.map dJoint) → Q (.ref p) H'
def rBagEq (K : PySem.W.Frag) (CB CG : Addr) (a b : Addr) (H : Hp) : Prop := ∃ shs js, OkBook shs ∧ OkBag (wordsS shs) js ∧ BagAt K H CB CG a shs js ∧ BagAt K H CB CG b shs js
section
variable {P : Program} {w : World} {K : PySem.W.Frag} {mg : Str → Option Value} {base : Heap} {CB CG : Addr}
theorem ok_bagI {f fW fB : Addr} {fd fdW fdB : FuncData} (F : Fun K "__init__" "Bag.__init__" sBagI f fd) (cB : Cls K CB) (c : Cls K CG) (na : NoAttr K CG "_book") (nb : NoAttr K CG "_words") (W : Wd mg) (N : Nm mg) (T : Wt mg)
    (GW : FnOk P w K mg base CX0 2 fW fdW ["joint", "k", "words", "earlier"] (spWrongJ K)) (bW : Binds K fdW ["joint", "k", "words", "earlier"] []) (gW : mg "wrong_in_joint" = some (.ref fW)) (kW : PySem.W.keepIn K (.ref fW) = true)
    (mB : Meth K CB "words" fB) (GB : FnOk P w K mg base CX0 1 fB fdB ["self"] (spBookW K CB)) (bB : Binds K fdB ["self"] []) : FnOk P w K mg base CX0 3 f fd ["self", "book", "joints"] (spBagI K CB CG) := by
  refine F.ok scBagI (fun vs H Q E h => ?_) (fun cdv A outer s H vs Q E hr h => ?_)
  · obtain ⟨a, dx, b, l, xs, shs, js, rfl, _⟩ := h
    rfl
  · obtain ⟨a, dx, b, l, xs, shs, js, rfl, ha, hB, ln, hl, hx, ok, k⟩ := h
    have hu := hu1 hr
    have hr1 : Room 1 _ := hr.mono (by decide)
    refine ⟨_, pss_cons (ps_if (pt_not (pt_val (pe_callB call_isiT (by rfl) W.isi (by decide +kernel) (pa_cons (pv 2) (pa_cons (pe_tup (pa_cons (pe_bty (T := "list") (by rfl) N.lst (by decide +kernel)) (pa_cons (pe_bty (T := "tuple") (by rfl) T.tup (by decide +kernel)) pa_nil))) pa_nil))))) (pss_one ps_never) pss_nil)
      (pss_cons (ps_setDc (i := 3) (own := [("word", 8)]) (g := gName 8) (tt := tYes) rfl scBagI.nd rfl rfl (sw_dict rfl rfl rfl (by decide +kernel)) (pi_list (pe_meth0 (pv 1) cB mB GB hr1 bB .nil pass0)) (blkOk_by (own := [("word", 8)]) (N := nBagI) (sc := defScope sBagI) (by decide +kernel))
          (fun _ _ _ _ _ => pg_name (i := 8) scBagI.nd rfl (.inl rfl)) (fun _ _ _ _ _ => pts_nil) (fun _ _ _ _ _ => pv 8) (fun _ _ _ _ _ => pe_bl))
      (pss_cons (ps_set (i := 4) scBagI.nd rfl (.inl rfl) pe_dnewK)
      (pss_cons (ps_for PassesOwn.never rfl (pi_enum (by rfl) T.enu (pa_cons (pv 2) pa_nil)) (pg_tup rfl (pgs_cons (pg_name (i := 5) scBagI.nd rfl (.inl rfl)) (pgs_cons (pg_name (i := 6) scBagI.nd rfl (.inl rfl)) pgs_nil)))
        (pss_cons (ps_set (i := 7) scBagI.nd rfl (.inl rfl) (pe_call GW hr (by rfl) gW kW bW .nil pass0 (pa_cons (pv 6) (pa_cons (pv 5) (pa_cons (pv 3) (pa_cons (pv 4) pa_nil))))))
        (pss_cons (ps_if (pt_cmpR op_notN (pv 7) pe_non (nomark _)) (pss_one ps_never) pss_nil)
        (pss_one (ps_dput hu (pv 4) (pe_ix (show IxR _ (rIxT K) from ix_tup) (pv 6) pe_int (fun _ _ => rfl)) (pe_ix (show IxR _ (rIxT K) from ix_tup) (pv 6) pe_int (fun _ _ => rfl)) rfl)))))
      (pss_cons (ps_fld (pv 0) (pv 1) rfl)
      (pss_one (ps_fld (pv 0) (pv 4) rfl)))))), ?_⟩
    refine ⟨_, rfl, (by show 2 ≤ sizeLine; decide), fun tp htp => ⟨_, tp, _, _, _, true, rfl, upd_same, .cons (.ty "list") (.cons (.ty "tuple") .nil), tyL ((same_new htp).seq hl), kitAny_cons (b := true) (kit_ty (by decide +kernel)) (fun e => absurd e (by decide)) (fun _ => rfl), true, rfl, ?_⟩⟩
    refine if_no rfl ?_
    have s1 := same_new (o := .tup [.ty "list", .ty "tuple"]) htp
    have hB1 := hB.same s1
    have hB2 := hB1
    obtain ⟨dy, d0, ys, g1, _, _⟩ := hB2
    have lw : (wordsS shs).length = shs.length := List.length_map ..
    refine ⟨_, rfl, b, dy, _, rfl, g1, rfl, b, shs, rfl, hB1, fun p H2 s2 np ep => ?_⟩
    refine ⟨p, rfl, ⟨_, .inl (.inl ep)⟩, fun D hD => dc_it (walk_list (K := K) (a := p) (xs := (wordsS shs).map V.str)) (fun i H' => Same H2 H' ∧ ∃ kvs, H' D = some (.dK kvs) ∧ kvs.length ≤ i ∧ ∀ w ∈ (wordsS shs).take i, (valV kvs (Sum.inr w : Key)).isSome = true)
      ⟨same_new hD, [], upd_same, Nat.le_refl _, fun w m => by rw [List.take_zero] at m; cases m⟩ (fun i H' _ h => h.1.seq (.inl (.inl ep))) ?_ ?_⟩
    · rintro i x H3 H3' hi ⟨s3, kvs, eD, hk, hw⟩ ⟨rfl, hxi⟩
      obtain ⟨wd, hwd, rfl⟩ : ∃ r, (wordsS shs)[i]? = some r ∧ x = V.str r := by
        rw [List.getElem?_map] at hxi
        cases e : (wordsS shs)[i]? with
        | none =>
          rw [e] at hxi
          cases hxi
        | some r =>
          rw [e] at hxi
          exact ⟨r, rfl, (Option.some.inj hxi).symm⟩
      rw [List.length_map, lw] at hi
      refine ⟨rfl, lc_yes ?_⟩
      refine ⟨_, rfl, kvs, Sum.inr wd, rfl, eD, small1000 (by omega), Same.over s3 hD, _, upd_same, ?_, fun w hm => ?_⟩
      · have := putK_le kvs (Sum.inr wd : Key) (V.bl true)
        omega
      · rw [valV_put]
        by_cases e : (Sum.inr w : Key) = Sum.inr wd
        · rw [if_pos e]
          rfl
        · rw [if_neg e]
          rw [List.take_add_one, hwd] at hm
          rcases List.mem_append.mp hm with hm | hm
          · exact hw w hm
          · exact absurd (by rw [List.mem_singleton.mp hm]) e
    · rintro H3 ⟨s3, evs, eD, hk, hw⟩
      rw [List.length_map, List.take_length] at hw
      have sA := s1.trans (s2.trans s3)
      intro d hd
      have s4 : Same H (upd H3 d (.dK [])) := sA.trans (same_new hd)
      have hd0 : H d = none := sA.free hd
      have eD4 := (same_new (o := .dK []) hd) _ _ eD
      have nDd : D ≠ d := ne_of_none eD hd
      have hD0 : H D = none := s1.free (s2.free hD)
      have ed : (upd H3 d (.dK [])) d = some (.dK (bkv ((namesJ js).take 0) ((js.map fun j => V.str j.2).take 0))) := by
        rw [List.take_zero, List.take_zero]
        exact upd_same
      generalize upd H3 d (.dK []) = H4 at s4 eD4 ed ⊢
      have lx : xs.length = js.length := by rw [hx.len, List.length_map]
      have ljn : (namesJ js).length = js.length := List.length_map ..
      have ljw : (js.map fun j => V.str j.2).length = js.length := List.length_map ..
      have tl : ∀ i, ((js.map fun j => V.str j.2).take i).length = ((namesJ js).take i).length := fun i => by rw [List.length_take, List.length_take, ljn, ljw]
      refine ⟨_, rfl, l, xs, rfl, s4.seq hl, for_it (walk_enum (K := K) (a := l) (xs := xs)) (fun i σ H' => (∃ v5 v6 v7, σ = [some (.ref a), some (.ref b), some (.ref l), some (.ref D), some (.ref d), v5, v6, v7, none]) ∧ Same H H' ∧ H' D = some (.dK evs) ∧ H' d = some (.dK (bkv ((namesJ js).take i) ((js.map fun j => V.str j.2).take i))))
        ⟨⟨_, _, _, rfl⟩, s4, eD4, ed⟩ (fun i σ H' _ h => h.2.1.seq hl) ?_ ?_⟩
      · rintro i x σ H5 H5' hi ⟨⟨v5, v6, v7, rfl⟩, s5, eD5, ed5⟩ ⟨q, x1, y1, rfl, hq, rfl, e1, e2⟩
        cases (Option.some.inj e1)
        have e2 : xs[i]? = some y1 := e2
        obtain ⟨sd, hsd, dqy⟩ := DqAll.get i hx e2
        obtain ⟨j, hj, rfl⟩ : ∃ j, js[i]? = some j ∧ sd = dJoint j := by
          rw [List.getElem?_map] at hsd
          cases e : js[i]? with
          | none =>
            rw [e] at hsd
            cases hsd
          | some b =>
            rw [e] at hsd
            exact ⟨b, rfl, (Option.some.inj hsd).symm⟩
        have jm := List.mem_of_getElem? hj
        have sq := same_new (o := .tup [.int (i : Nat), y1]) hq
        have s5q := s5.trans sq
        have hni : (namesJ js)[i]? = some j.1 := by
          unfold namesJ
          rw [List.getElem?_map, hj]
          rfl
        have hwi : (js.map fun j => V.str j.2)[i]? = some (V.str j.2) := by
          rw [List.getElem?_map, hj]
          rfl
        have hout : j.1 ∉ (namesJ js).take i := fun m => by
          obtain ⟨m, hm⟩ := List.getElem?_of_mem m
          have hm1 : m < i := by
            have := (List.getElem?_eq_some_iff.mp hm).1
            rw [List.length_take] at this
            omega
          rw [List.getElem?_take_of_lt hm1] at hm
          have := nd_ix ok.nd hm hni
          omega
        have hnone : valV (bkv ((namesJ js).take i) ((js.map fun j => V.str j.2).take i)) (Sum.inr j.1 : Key) = none := bkv_out (tl i) hout
        refine ⟨q, _, rfl, .inl (.inl upd_same), rfl, _, _, rfl, _, _, rfl, rfl, ?_⟩
        refine ⟨_, rfl, _, rfl, _, rfl, _, rfl, y1, _, D, d, evs, _, j, rfl, Dq.same s5q dqy, (ok.name j jm).1, (ok.name j jm).2, (ok.word j jm).1, sq _ _ eD5, hw _ (ok.word j jm).2, sq _ _ ed5, hnone, fun H6 s6 => ?_⟩
        refine ⟨_, rfl, rfl, _, rfl, ?_⟩
        refine iteNS rfl ?_
        have s7 := s5q.trans s6
        obtain ⟨r, rfl, hr2⟩ := joint_inv (Dq.same s7 dqy)
        refine ⟨_, rfl, r, _, _, .str j.2, rfl, rfl, hr2, L2.at_of (j := 1) rfl rfl, ?_⟩
        refine ⟨_, rfl, _, rfl, r, _, _, .str j.1, rfl, rfl, hr2, L2.at_of (j := 0) rfl rfl, d, _, rfl, DPut.k (k := Sum.inr j.1) (s6 _ _ (sq _ _ ed5)) ?_, ⟨_, _, _, rfl⟩, Same.over s7 hd0, ?_, ?_⟩
        · have q1 := tl i
          rw [bkv_len q1, List.length_take, ljn]
          exact small1000 (by have := ok.ln; omega)
        · rw [upd_ne nDd]
          exact s6 _ _ (sq _ _ eD5)
        · rw [upd_same, putK_new _ hnone, List.take_add_one, List.take_add_one, hni, hwi]
          show _ = some (HO.dK (bkv ((namesJ js).take i ++ [j.1]) ((js.map fun j => V.str j.2).take i ++ [.str j.2])))
          rw [bkv_snoc (tl i)]
      · rintro σ H5 ⟨⟨v5, v6, v7, rfl⟩, s5, eD5, ed5⟩
        rw [List.take_of_length_le (by rw [ljn, lx]; exact Nat.le_refl _), List.take_of_length_le (by rw [ljw, lx]; exact Nat.le_refl _)] at ed5
        have nad : d ≠ a := fun e => by rw [e, ha] at hd0; cases hd0
        refine ⟨_, rfl, _, rfl, a, CG, dx, [], rfl, s5 _ _ ha, c, na, by decide, ?_⟩
        refine ⟨_, rfl, _, rfl, a, CG, dx, _, rfl, upd_same, c, nb, (by show 1 < 1000; decide), ?_⟩
        refine k d _ (fun q o nq e => ?_) hd0 upd_same ?_
        · rw [upd_ne nq, upd_ne nq]
          exact s5 _ _ e
        · rw [upd_ne nad, upd_ne nad]
          exact ed5
end
end Bc

namespace Bc
open PySem PySem.Spec PyProof.Rows L2
theorem items_dq {K : PySem.W.Frag} {H : Hp} : ∀ (js : List Jnt) (ts : List Addr), Paired (fun (t : Addr) (q : Key × V) => H t = some (.tup [kV q.1, q.2])) ts (bkv (namesJ js) (js.map fun j => V.str j.2)) → DqAll K H (ts.map V.ref) (js.map dJoint)
  | [], ts, h => by
    cases h
    exact .nil
  | j :: js, ts, h => by
    have h : Paired (fun (t : Addr) (q : Key × V) => H t = some (.tup [kV q.1, q.2])) ts (((Sum.inr j.1 : Key), V.str j.2) :: bkv (namesJ js) (js.map fun j => V.str j.2)) := h
    cases h with
    | cons h1 h2 => exact .cons (.tup (.inl (.inl h1)) (.cons (.str _) (.cons (.str _) .nil))) (items_dq js _ h2)
theorem joints_lay : ∀ (js : List Jnt), (∀ j ∈ js, isW j.1 = true ∧ isW j.2 = true) → PyData.canLayAll0 (js.map dJoint) = true
  | [], _ => rfl
  | j :: js, h => by
    have hs := h j (List.mem_cons_self ..)
    rw [List.map_cons, PyData.canLayAll0, joints_lay js fun x hx => h x (List.mem_cons_of_mem _ hx), Bool.and_true]
    unfold dJoint
    simp only [PyData.canLay0, PyData.canLayAll0, isW_strOk hs.1, isW_strOk hs.2, Bool.and_self]
theorem joints_depth : ∀ (js : List Jnt), PyData.depthAll (js.map dJoint) ≤ 1
  | [] => by simp [PyData.depthAll]
  | j :: js => by
    have q := joints_depth js
    have e : PyData.depth (dJoint j) ≤ 1 := by simp [dJoint, PyData.depth, PyData.depthAll]
    simp only [List.map_cons, PyData.depthAll]
    omega
theorem joints_shaped {js : List Jnt} (h : ∀ j ∈ js, isW j.1 = true ∧ isW j.2 = true) : SeqAt.shaped (.list (js.map dJoint)) = true := by
  unfold SeqAt.shaped
  have a := joints_lay js h
  have b := joints_depth js
  rw [PyData.canLay0, a, Bool.true_and]
  refine decide_eq_true ?_
  rw [PyData.depth]
  omega
section
variable {P : Program} {w : World} {K : PySem.W.Frag} {mg : Str → Option Value} {base : Heap} {CB CG : Addr}
theorem ok_bagJ {f : Addr} {fd : FuncData} (F : Fun K "joints" "Bag.joints" sBagJ f fd) (c : Cls K CG) (nb : NoAttr K CG "_words") (N : Nm mg) : FnOk P w K mg base CX0 1 f fd ["self"] (spBagJ K CB CG) := by
  refine F.ok scBagJ (fun vs H Q E h => ?_) (fun cdv A outer s H vs Q E hr h => ?_)
  · obtain ⟨a, shs, js, rfl, _⟩ := h
    rfl
  · obtain ⟨a, shs, js, rfl, ⟨dx, b, d, h1, h2, h3⟩, k⟩ := h
    refine ⟨_, pss_one (ps_ret (LiI.pe_listItems rfl (pe_fld (pv 0) rfl) (by rfl) N.lst (by decide +kernel))), ?_⟩
    refine ⟨_, rfl, a, CG, dx, _, .ref d, rfl, h1, c, nb, rfl, d, _, rfl, h3, fun H' p ts s1 np nts pnt ep pr => ?_⟩
    exact k p _ H' s1 np ep (items_dq js ts pr)
theorem ok_bagEq {f fJ fE : Addr} {fd fdJ fdE : FuncData} (F : Fun K "__eq__" "Bag.__eq__" sBagEq f fd) (c : Cls K CG) (na : NoAttr K CG "_book") (ic : IsC K CG) (W : Wd mg) (gC : mg "Bag" = some (.ref CG)) (mJ : Meth K CG "joints" fJ)
    (GJ : FnOk P w K mg base CX0 1 fJ fdJ ["self"] (spBagJ K CB CG)) (bJ : Binds K fdJ ["self"] [])
    (GE : FnOk P w K mg base CX0 2 fE fdE ["self", "other"] (spEq (rBookEq K CB))) (bE : Binds K fdE ["self", "other"] []) (hE : PySem.W.findIn K (.ref CB) "__eq__" = some (some (.ref fE))) (iE : PySem.W.isFn K (.ref fE) = true) : FnOk P w K mg base CX0 3 f fd ["self", "other"] (spEq (rBagEq K CB CG)) := by
  refine F.ok scBagEq (fun vs H Q E h => ?_) (fun cdv A outer s H vs Q E hr h => ?_)
  · obtain ⟨a, b, rfl, _⟩ := h
    rfl
  · obtain ⟨a, b, rfl, ⟨shs, js, okB, okJ, ha, hb⟩, k⟩ := h
    have hu := hr.units
    have hr1 : Room 1 _ := hr.mono (by decide)
    have ha0 := ha
    have hb0 := hb
    obtain ⟨dx, ba, d, h1, h2, h3⟩ := ha0
    obtain ⟨dy, bb, d', g1, g2, g3⟩ := hb0
    refine ⟨_, pss_one (ps_ret (pe_and (pe_callB call_isi (by rfl) W.isi (by decide +kernel) (pa_cons (pv 1) (pa_cons (pe_glob (v := .ref CG) (by rfl) gC rfl) pa_nil)))
      (pe_and (pe_cmpR (op_eqG (rcG_ins GE hE iE bE (E := E0) pass0) hr) (pe_fld (pv 0) rfl) (pe_fld (pv 1) rfl) (nomark _))
      (pe_one (pe_cmpR (op_eqD hu) (pe_meth0 (pv 0) c mJ GJ hr1 bJ .nil pass0) (pe_meth0 (pv 1) c mJ GJ hr1 bJ .nil pass0) (nomark _)))))), ?_⟩
    refine ⟨_, rfl, _, _, _, _, true, rfl, .own CG, .base (.ins g1 ic.cl ic.a1 ic.a2 ic.a3 ic.a4), ic.a5, true, rfl, ?_⟩
    refine if_known rfl ?_
    obtain ⟨bdx, bd, bxs, b1, b2, b3⟩ := id h2
    obtain ⟨cdx, cd, cxs, c1, c2, c3⟩ := id g2
    refine ⟨_, rfl, a, CG, dx, _, .ref ba, rfl, h1, c, na, rfl, _, rfl, b, CG, dy, _, .ref bb, rfl, g1, c, na, rfl, ⟨ba, bb, bdx, cdx, _, _, rfl, rfl, b1, c1, shs, okB, h2, g2⟩, fun H1 s1 => ⟨true, rfl, ?_⟩⟩
    refine if_known rfl ?_
    have s1 : Same H H1 := s1
    refine ⟨_, rfl, a, dx, _, rfl, s1 _ _ h1, rfl, a, shs, js, rfl, ha.same s1, fun p xs2 H2 s2 np ep dp => ?_⟩
    refine ⟨_, rfl, b, dy, _, rfl, s2 _ _ (s1 _ _ g1), rfl, b, shs, js, rfl, hb.same (s1.trans s2), fun q ys2 H3 s3 nq eq dq => ?_⟩
    have shp := joints_shaped (js := js) fun j hj => ⟨(okJ.name j hj).1, (okJ.word j hj).1⟩
    have lay := SeqAt.canLay_of_shaped shp
    refine ⟨.list (js.map dJoint), .list (js.map dJoint), .lst (.inl (.inl (s3 _ _ ep))) (DqAll.dp (DqAll.same s3 dp) lay), .lst (.inl (.inl eq)) (DqAll.dp dq lay), shp, shp, ?_⟩
    rw [SeqAt.eqv_refl _ lay]
    exact k _ (s1.trans (s2.trans s3))
end
end Bc

namespace Bc
open PySem PySem.Spec PyProof.Rows L2
abbrev nRowsT : List Str := ["head", "rows", "lines", "row"]
def rowsT (h : Str) (rs : List Str) : Str := Txt.join "\n" ((h ++ " {") :: (rs.map (· ++ (";" : Str)) ++ [("}" : Str)])) ++ "\n"
theorem sum_le {xs : List Nat} {b : Nat} (h : ∀ x ∈ xs, x ≤ b) : xs.sum ≤ xs.length * b := by
  induction xs with
  | nil => simp
  | cons a r ih =>
    rw [List.sum_cons, List.length_cons, Nat.succ_mul, Nat.add_comm]
    exact Nat.add_le_add (ih fun x hx => h x (List.mem_cons_of_mem _ hx)) (h a (List.mem_cons_self ..))
theorem join_le {y : Str} {xs : List Str} {b : Nat} (h : ∀ x ∈ xs, x.length ≤ b) : (Txt.join y xs).length ≤ xs.length * b + xs.length * y.length := by
  rw [show Txt.join y xs = Str.join y xs from StrLaws.glued_eq_join y xs]
  refine Nat.le_trans (StrLaws.join_length_le y xs) (Nat.add_le_add_right ?_ _)
  have q := sum_le (xs := xs.map (·.length)) (b := b) fun n hn => by
    obtain ⟨x, hx, rfl⟩ := List.mem_map.mp hn
    exact h x hx
  rwa [List.length_map] at q
def spRowsT (K : PySem.W.Frag) : Sp := fun vs H Q _ => ∃ (h : Str) (l : Addr) (rs : List Str), vs = [.str h, .ref l] ∧ SqL K H l (rs.map V.str) ∧ h.length ≤ 100 ∧ rs.length ≤ 1000 ∧ (∀ r ∈ rs, r.length ≤ 500) ∧ ∀ H', Same H H' → Q (.str (rowsT h rs)) H'
section
variable {P : Program} {w : World} {K : PySem.W.Frag} {mg : Str → Option Value} {base : Heap}
end
end Bc

namespace Bc
open PySem PySem.Spec PyProof.Rows L2
abbrev nJoined : List Str := ["_law_signs", "_law_text", "_law_last", "_law_one", "_law_gap"]
abbrev closes : List Str := [")", ",", ";", "^("]
abbrev opens3 : List Str := [";", "{", "}"]
def gapOf (last one : Str) : Str := if last = "(" then "" else if inV (.str one) (closes.map V.str) = true then "" else if inV (.str last) (opens3.map V.str) = true then "\n" else " "
def jStep (p : Str × Str) (one : Str) : Str × Str := (p.1 ++ gapOf p.2 one ++ one, one)
def joinedT (ws : List Str) : Str := (ws.foldl jStep ("", "(")).1 ++ "\n"
def tGap : TS := fun D σ H => ∃ v0 v1 last one, σ = [v0, v1, some (.str last), some (.str one), some (.str " ")] ∧ ∀ H', Same H H' → D.nx [v0, v1, some (.str last), some (.str one), some (.str (gapOf last one))] H'
theorem gapOf_len (a b : Str) : (gapOf a b).length ≤ 1 := by
  unfold gapOf
  split
  · decide +kernel
  · split
    · decide +kernel
    · split <;> decide +kernel
def spJoined (K : PySem.W.Frag) : Sp := fun vs H Q _ => ∃ (l : Addr) (ws : List Str), vs = [.ref l] ∧ SqL K H l (ws.map V.str) ∧ ws.length ≤ 5000 ∧ (∀ w ∈ ws, w.length ≤ 60 ∧ Txt.stripChars w "^" = w) ∧ ∀ H', Same H H' → Q (.str (joinedT ws)) H'
section
variable {P : Program} {w : World} {K : PySem.W.Frag} {mg : Str → Option Value} {base : Heap}
end
end Bc

namespace Bc
open PySem PySem.Spec PyProof.Rows L2
/-! ### the printer of books and bags -/
abbrev nBookT : List Str := ["book", "rows", "word", "stem", "branches"]
abbrev nBagT : List Str := ["bag", "name", "word"]
def listT (bs : List Str) : Str := "(" ++ Txt.join ", " bs ++ ")"
def shapeT (s : Shp) : Str := Str.empty ++ "shape " ++ s.1 ++ " " ++ s.2.1 ++ " " ++ listT s.2.2
def jointT (j : Jnt) : Str := Str.empty ++ "joint " ++ j.1 ++ " " ++ j.2
def bookT (shs : List Shp) : Str := rowsT "book" (shs.map shapeT)
def bagT (js : List Jnt) : Str := rowsT "bag" (js.map jointT)
theorem listT_le {bs : List Str} (h : ∀ b ∈ bs, b.length ≤ 12) (n : bs.length ≤ 30) : (listT bs).length ≤ 450 := by
  unfold listT
  have q := join_le (y := ", ") h
  have e1 : (", " : Str).length = 2 := by decide +kernel
  have e2 : ("(" : Str).length = 1 := by decide +kernel
  have e3 : (")" : Str).length = 1 := by decide +kernel
  rw [e1] at q
  rw [len_app, len_app, e2, e3]
  omega
def spListT (K : PySem.W.Frag) : Sp := fun vs H Q _ => ∃ (a : Addr) (bs : List Str), vs = [.ref a] ∧ SqT K H a (bs.map V.str) ∧ (∀ b ∈ bs, b.length ≤ 12) ∧ bs.length ≤ 30 ∧ Q (.str (listT bs)) H
def spBookT (K : PySem.W.Frag) (C : Addr) : Sp := fun vs H Q _ => ∃ (a : Addr) (shs : List Shp), vs = [.ref a] ∧ BookAt K H C a shs ∧ OkBook shs ∧ (∀ s ∈ shs, s.2.2.length ≤ 30) ∧ ∀ H', Same H H' → Q (.str (bookT shs)) H'
def spBagT (K : PySem.W.Frag) (CB CG : Addr) : Sp := fun vs H Q _ => ∃ (a : Addr) (shs : List Shp) (js : List Jnt), vs = [.ref a] ∧ BagAt K H CB CG a shs js ∧ OkBag (wordsS shs) js ∧ ∀ H', Same H H' → Q (.str (bagT js)) H'
section
variable {P : Program} {w : World} {K : PySem.W.Frag} {mg : Str → Option Value} {base : Heap} {C CB CG : Addr}
end
end Bc

namespace Bc
open PySem PySem.Spec PyProof.Rows L2
/-! ### the reader of books and bags -/
def comR (bs : List Str) : List Str := bs.flatMap fun b => [(",": Str), b]
def commas : List Str → List Str
  | [] => []
  | b :: r => b :: comR r
def listL (bs : List Str) : List Str := "(" :: (commas bs ++ [(")" : Str)])
def rowS (s : Shp) : List Str := "shape" :: s.1 :: s.2.1 :: listL s.2.2
def rowJ (j : Jnt) : List Str := ["joint", j.1, j.2]
def bookL (shs : List Shp) : List Str := "book" :: "{" :: (bodyOf (shs.map rowS) ++ [("}" : Str)])
def bagL (js : List Jnt) : List Str := "bag" :: "{" :: (bodyOf (js.map rowJ) ++ [("}" : Str)])
abbrev puncs : List Str := ["(", ",", ")"]
def kept (w : Str) : Bool := !(inV (.str w) (puncs.map V.str))
theorem inV_strs (w : Str) : ∀ (xs : List Str), inV (.str w) (xs.map V.str) = decide (w ∈ xs)
  | [] => rfl
  | x :: xs => by
    have ih := inV_strs w xs
    unfold inV at ih ⊢
    rw [List.map_cons, List.any_cons, ih]
    have e : eqV (V.str x) (V.str w) = decide (x = w) := by
      show (x == w) = decide (x = w)
      rfl
    rw [e]
    by_cases h : x = w
    · subst h
      simp
    · have h2 : ¬ w = x := fun q => h q.symm
      simp [h, h2]
theorem isW_ne {w x : Str} (h : isW w = true) (hx : isW x = false) : w ≠ x := fun e => by
  rw [e, hx] at h
  cases h
theorem kept_W {w : Str} (h : isW w = true) : kept w = true := by
  unfold kept
  rw [inV_strs, decide_eq_false ?_]
  · rfl
  · intro m
    have q := List.all_eq_true.mp (show (puncs.all fun x => !(isW x)) = true by decide +kernel) w m
    rw [h] at q
    cases q
theorem filter_com : ∀ (bs : List Str), (∀ b ∈ bs, isW b = true) → (comR bs).filter kept = bs
  | [], _ => rfl
  | b :: bs, h => by
    show ((",": Str) :: b :: comR bs).filter kept = _
    rw [List.filter_cons_of_neg (by decide +kernel), List.filter_cons_of_pos (kept_W (h b (List.mem_cons_self ..))), filter_com bs fun x hx => h x (List.mem_cons_of_mem _ hx)]
theorem filter_list {bs : List Str} (h : ∀ b ∈ bs, isW b = true) : (listL bs).filter kept = bs := by
  unfold listL
  rw [List.filter_cons_of_neg (by decide +kernel), List.filter_append, show ([(")" : Str)]).filter kept = [] by decide +kernel, List.append_nil]
  cases bs with
  | nil => rfl
  | cons b r =>
    show (b :: comR r).filter kept = _
    rw [List.filter_cons_of_pos (kept_W (h b (List.mem_cons_self ..))), filter_com r fun x hx => h x (List.mem_cons_of_mem _ hx)]
abbrev nListOf : List Str := ["read", "lexeme"]
abbrev nReadBook : List Str := ["text", "_", "rows", "row"]
abbrev nReadBag : List Str := ["book", "text", "_", "rows", "row"]
def spListOf (K : PySem.W.Frag) : Sp := fun vs H Q _ => ∃ (l : Addr) (ws : List Str), vs = [.ref l] ∧ SqL K H l (ws.map V.str) ∧ ws.length ≤ 20000 ∧ ∀ p H', Same H H' → H p = none → H' p = some (.tup ((ws.filter kept).map V.str)) → Q (.ref p) H'
def spReadBook (K : PySem.W.Frag) (C : Addr) : Sp := fun vs H Q _ => ∃ (z : Str) (shs : List Shp), vs = [.str z] ∧ LexOk "BOOK" z (bookL shs) ∧ OkBook shs ∧ ∀ b H', Same H H' → H b = none → BookAt K H' C b shs → Q (.ref b) H'
def spReadBag (K : PySem.W.Frag) (CB CG : Addr) : Sp := fun vs H Q _ => ∃ (b : Addr) (z : Str) (shs : List Shp) (js : List Jnt), vs = [.ref b, .str z] ∧ BookAt K H CB b shs ∧ shs.length ≤ 1000 ∧ LexOk "BAG" z (bagL js) ∧ OkBag (wordsS shs) js ∧ ∀ g H', Same H H' → H g = none → BagAt K H' CB CG g shs js → Q (.ref g) H'
section
variable {P : Program} {w : World} {K : PySem.W.Frag} {mg : Str → Option Value} {base : Heap} {C CB CG : Addr}
end
end Bc

namespace Bc
open PySem PySem.Spec PyProof.Rows L2
theorem DqAll.snoc' {K : PySem.W.Frag} {H : Hp} {vs : List V} {ds : List PyData} {v : V} {d : PyData} (h : DqAll K H vs ds) (g : Dq K H v d) : DqAll K H (vs ++ [v]) (ds ++ [d]) := DqAll.app h (.cons g .nil)
theorem hid_get {d c D : Addr} {H : Hp} {o : HO} (h : hid d c H D = some o) : D ≠ d ∧ D ≠ c ∧ H D = some o := by
  unfold hid at h
  split at h
  · cases h
  · rename_i n
    exact ⟨fun e => n (.inl e), fun e => n (.inr e), h⟩
theorem hid_put {d c D : Addr} {H : Hp} {o : HO} (h1 : D ≠ d) (h2 : D ≠ c) (h : H D = some o) : hid d c H D = some o := by
  unfold hid
  rw [if_neg (fun y => y.elim h1 h2)]
  exact h
theorem isW_semi {w : Str} (h : isW w = true) : w ≠ ";" := isW_ne h (by decide +kernel)
theorem com_no : ∀ (bs : List Str), (∀ b ∈ bs, isW b = true) → ∀ x ∈ comR bs, x ≠ ";"
  | [], _, x, hx => by cases hx
  | b :: bs, h, x, hx => by
    have hx : x ∈ (",": Str) :: b :: comR bs := hx
    rcases List.mem_cons.mp hx with e | hx
    · rw [e]
      decide +kernel
    rcases List.mem_cons.mp hx with e | hx
    · rw [e]
      exact isW_semi (h b (List.mem_cons_self ..))
    · exact com_no bs (fun y hy => h y (List.mem_cons_of_mem _ hy)) x hx
theorem list_no {bs : List Str} (h : ∀ b ∈ bs, isW b = true) : ∀ x ∈ listL bs, x ≠ ";" := fun x hx => by
  unfold listL at hx
  rcases List.mem_cons.mp hx with e | hx
  · rw [e]
    decide +kernel
  rcases List.mem_append.mp hx with hx | hx
  · cases bs with
    | nil => cases hx
    | cons b r =>
      have hx : x ∈ b :: comR r := hx
      rcases List.mem_cons.mp hx with e | hx
      · rw [e]
        exact isW_semi (h b (List.mem_cons_self ..))
      · exact com_no r (fun y hy => h y (List.mem_cons_of_mem _ hy)) x hx
  · rw [List.mem_singleton.mp hx]
    decide +kernel
theorem rowS_no {s : Shp} (h : OkShape s) : ∀ x ∈ rowS s, x ≠ ";" := fun x hx => by
  have hx : x ∈ ("shape" : Str) :: s.1 :: s.2.1 :: listL s.2.2 := hx
  rcases List.mem_cons.mp hx with e | hx
  · rw [e]
    decide +kernel
  rcases List.mem_cons.mp hx with e | hx
  · rw [e]
    exact isW_semi h.w
  rcases List.mem_cons.mp hx with e | hx
  · rw [e]
    exact isW_semi h.st
  · exact list_no h.br x hx
theorem rowJ_no {j : Jnt} (h1 : isW j.1 = true) (h2 : isW j.2 = true) : ∀ x ∈ rowJ j, x ≠ ";" := fun x hx => by
  have hx : x ∈ [("joint" : Str), j.1, j.2] := hx
  rcases List.mem_cons.mp hx with e | hx
  · rw [e]
    decide +kernel
  rcases List.mem_cons.mp hx with e | hx
  · rw [e]
    exact isW_semi h1
  · rw [List.mem_singleton.mp hx]
    exact isW_semi h2
theorem comR_len : ∀ (bs : List Str), (comR bs).length = 2 * bs.length
  | [] => rfl
  | b :: bs => by
    show (comR bs).length + 2 = 2 * (bs.length + 1)
    rw [comR_len bs]
    omega
theorem listL_len (bs : List Str) : (listL bs).length ≤ 2 * bs.length + 2 := by
  unfold listL
  rw [List.length_cons, List.length_append]
  have e1 : ([(")" : Str)]).length = 1 := rfl
  rw [e1]
  cases bs with
  | nil =>
    show 0 + 1 + 1 ≤ _
    omega
  | cons b r =>
    show (comR r).length + 1 + 1 + 1 ≤ 2 * (r.length + 1) + 2
    rw [comR_len]
    omega
theorem cut3 {a b c : V} {r : List V} : cutV (a :: b :: c :: r) (some 3) none = r := by
  unfold cutV
  rw [show (some (3 : Int)) = some ((3 : Nat) : Int) from rfl, HT.sIx_none, HT.sIx_nat, List.length_cons, List.length_cons, List.length_cons, Nat.min_eq_left (by omega)]
  show r.take _ = r
  exact List.take_of_length_le (by omega)
section
variable {P : Program} {w : World} {K : PySem.W.Frag} {mg : Str → Option Value} {base : Heap} {C CB CG : Addr}
end
end Bc

namespace Bc
open PySem PySem.Spec PyProof.Rows L2
/-! ### drawn names -/
theorem hid_upd {d c p : Addr} {H : Hp} {o : HO} (h1 : p ≠ d) (h2 : p ≠ c) : hid d c (upd H p o) = upd (hid d c H) p o := by
  funext b
  by_cases e : b = p
  · subst e
    rw [upd_same, hid_put h1 h2 upd_same]
  · rw [upd_ne e]
    unfold hid
    rw [upd_ne e]
theorem hid_none {d c p : Addr} {H : Hp} (h : H p = none) : hid d c H p = none := by
  unfold hid
  split
  · rfl
  · exact h
theorem srcAt_upd {H : Hp} {d c D : Addr} {o : HO} (s : SrcAt H d c) (h1 : D ≠ d) (h2 : D ≠ c) : SrcAt (upd H D o) d c := by
  obtain ⟨n, hn, ne, cells, l, m, t, e1, e2, e3⟩ := s
  exact ⟨n, hn, ne, cells, l, m, t, by rw [upd_ne h1.symm]; exact e1, by rw [upd_ne h2.symm]; exact e2, e3⟩
theorem src_ne {H : Hp} {d c p : Addr} (s : SrcAt H d c) (h : H p = none) : p ≠ d ∧ p ≠ c := ⟨fun e => s.two.1 (e ▸ h), fun e => s.two.2 (e ▸ h)⟩
abbrev tails5 : List Str := ["", "", "", "k", "kkkkkkkkk"]
def two (r : Nat) : Str := cutS (Str.ofString (toString (100 + (r : Int)))) (some 1) none
theorem two_src {r : Nat} (h : r < 100) : (Str.ofString (toString (100 + (r : Int)))).length ≤ 1000 := of_decide_eq_true (List.all_eq_true.mp (show ((List.range 100).all fun r => decide ((Str.ofString (toString (100 + (r : Int)))).length ≤ 1000)) = true by decide +kernel) r (List.mem_range.mpr h))
theorem two_codes {r : Nat} (h : r < 100) : codes (two r) = [48 + r / 10, 48 + r % 10] := of_decide_eq_true (List.all_eq_true.mp (show ((List.range 100).all fun r => decide (codes (two r) = [48 + r / 10, 48 + r % 10])) = true by decide +kernel) r (List.mem_range.mpr h))
def nameT (c r : Nat) (tl : Str) : Str := (⟨#[c]⟩ ++ two r) ++ tl
theorem nameT_codes {c r : Nat} {tl : Str} (h : r < 100) : codes (nameT c r tl) = c :: (48 + r / 10) :: (48 + r % 10) :: codes tl := by
  unfold nameT
  rw [codes_app, codes_app, two_codes h]
  rfl
def numAt (w : Str) : Nat := match codes w with
  | _ :: a :: b :: _ => (a - 48) * 10 + (b - 48)
  | _ => 0
def drawnName (w : Str) : Prop := isW w = true ∧ w ≠ "root"
theorem digit_alnum {x : Nat} (h : x < 10) : alnum (48 + x) = true := List.all_eq_true.mp (show ((List.range 10).all fun x => alnum (48 + x)) = true by decide +kernel) x (List.mem_range.mpr h)
theorem nameT_num {c r : Nat} {tl : Str} (h : r < 100) : numAt (nameT c r tl) = r := by
  unfold numAt
  rw [nameT_codes h]
  dsimp only
  omega
theorem nameT_ok {c r : Nat} {tl : Str} (hc : inS sLetters c = true) (h : r < 100) (ht : tl ∈ tails5) : drawnName (nameT c r tl) := by
  have e := nameT_codes (c := c) (tl := tl) h
  have q := List.all_eq_true.mp (show (tails5.all fun t => (codes t).all alnum && decide ((codes t).length ≤ 9)) = true by decide +kernel) tl ht
  simp only [Bool.and_eq_true, decide_eq_true_eq] at q
  refine ⟨?_, fun eq => ?_⟩
  · unfold isW
    rw [e]
    dsimp only
    rw [hc, List.all_cons, List.all_cons, digit_alnum (by omega), digit_alnum (by omega), q.1]
    exact decide_eq_true (by show (codes tl).length + 1 + 1 ≤ 11; omega)
  · rw [eq, show codes "root" = [114, 111, 111, 116] by decide +kernel] at e
    have e2 := (List.cons.inj (List.cons.inj e).2).1
    omega
structure GoodNames (ws : List Str) : Prop where
  all : ∀ w ∈ ws, drawnName w
  nd : ws.Nodup
theorem nums_nodup (s n : Nat) (h : n ≤ 12) : ((List.range n).map fun k => (s + 37 * k) % 100).Nodup := by
  unfold List.Nodup
  rw [List.pairwise_map]
  refine List.Pairwise.imp_of_mem ?_ List.pairwise_lt_range
  intro a b ha hb hab e
  have h1 := List.mem_range.mp ha
  have h2 := List.mem_range.mp hb
  omega
theorem good_names {ws : List Str} {s n : Nat} (h : n ≤ 12) (e : ws.map numAt = (List.range n).map fun k => (s + 37 * k) % 100) (a : ∀ w ∈ ws, drawnName w) : GoodNames ws := by
  refine ⟨a, ?_⟩
  have q : (ws.map numAt).Nodup := by
    rw [e]
    exact nums_nodup s n h
  unfold List.Nodup at q ⊢
  rw [List.pairwise_map] at q
  exact q.imp fun {a b} h e => h (by rw [e])
abbrev nNames : List Str := ["_law_source_here", "_law_many", "_law_shift", "_law_names_here", "_law_tails", "_law_k", "_law_letter"]
theorem scNames : FnScope nNames ["_law_source_here", "_law_many"] (defScope sNames) := ⟨rfl, rfl, rfl, by decide +kernel, rfl, by decide +kernel, by decide +kernel⟩
def spNames : Sp := fun vs H Q _ => ∃ (d c : Addr) (n : Nat), vs = [.ref d, .int n] ∧ SrcAt H d c ∧ n ≤ 12 ∧ ∀ (p : Addr) (ws : List Str) (H' : Hp), SrcAt H' d c → Same (hid d c H) (hid d c H') → H p = none → (hid d c H') p = some (.lst (ws.map V.str)) → GoodNames ws → ws.length = n → Q (.ref p) H'
section
variable {P : Program} {w : World} {K : PySem.W.Frag} {mg : Str → Option Value} {base : Heap}
theorem ok_names {f fP : Addr} {fd fdP : FuncData} (F : Fun K "_law_names" "_law_names" sNames f fd) (B : Blt mg) (W : Wd mg) (N : Nm mg)
    (GP : FnOk P w K mg base CX0 1 fP fdP ["_law_source_here", "_law_many"] spPick) (bP : Binds K fdP ["_law_source_here", "_law_many"] []) (gP : mg "_law_pick" = some (.ref fP)) (kP : PySem.W.keepIn K (.ref fP) = true) : FnOk P w K mg base CX0 2 f fd ["_law_source_here", "_law_many"] spNames := by
  refine F.ok scNames (fun vs H Q E h => ?_) (fun cdv A outer s H vs Q E hr h => ?_)
  · obtain ⟨d, c, n, rfl, _⟩ := h
    rfl
  · obtain ⟨d, c, n, rfl, src, hn, k⟩ := h
    refine ⟨_, pss_cons (ps_par3 (i := 2) (j := 3) (l := 4) rfl scNames.nd rfl rfl rfl (by decide) (by decide) (by decide) rfl rfl rfl (pa_cons (pe_call GP hr (by rfl) gP kP bP .nil pass0 (pa_cons (pv 0) (pa_cons pe_int pa_nil))) (pa_cons (pe_lst pa_nil) (pa_cons (pe_lst (pa_cons pe_str (pa_cons pe_str (pa_cons pe_str (pa_cons pe_str (pa_cons pe_str pa_nil)))))) pa_nil))) rfl)
      (pss_cons (ps_for PassesOwn.never rfl (pi_range1 (by rfl) N.rng (pa_cons (pv 1) pa_nil)) (pg_name (i := 5) scNames.nd rfl (.inl rfl))
        (pss_cons (ps_set (i := 6) scNames.nd rfl (.inl rfl) (pe_ix ix_str pe_str (pe_call GP hr (by rfl) gP kP bP .nil pass0 (pa_cons (pv 0) (pa_cons pe_int pa_nil))) (fun _ _ => rfl)))
        (pss_one (ps_expr (pe_bm PySem.F.plainAttrs_list PySem.F.slot_list_append PySem.F.type_list_append mt_append (pv 3) (pa_cons
          (pe_op op_add_str (pe_op op_add_str (pv 6) (pe_slice sl_str (pe_callTy call_str_int (by rfl) W.str (by decide +kernel) (pa_cons (pe_op op_add pe_int (pe_op op_mod (pe_callTy call_int1 (by rfl) B.int (by decide +kernel) (pa_cons (pe_op op_add (pv 2) (pe_op op_mul pe_int (pv 5))) pa_nil)) pe_int)) pa_nil)) (po_some pe_int) po_none))
            (pe_ix ix_list (pv 4) (pe_call GP hr (by rfl) gP kP bP .nil pass0 (pa_cons (pv 0) (pa_cons pe_int pa_nil))) (fun _ _ => rfl))) pa_nil))))))
      (pss_one (ps_ret (pv 3)))), ?_⟩
    have hh2 : ∀ {n : Nat}, n ≤ 1000000 → n ≤ sizeLine := fun {n} h => Nat.le_trans h (by decide)
    refine ⟨_, rfl, d, c, 100, rfl, src, by decide, by decide, fun r H1 r0 r1 src1 el => ⟨Nat.zero_le _, fun p hp => ⟨(by show 5 ≤ sizeLine; decide), fun t ht => ⟨_, _, _, rfl, ?_⟩⟩⟩⟩
    obtain ⟨s0, rfl⟩ : ∃ n : Nat, r = (n : Int) := ⟨r.toNat, by omega⟩
    obtain ⟨p1, p2⟩ := src_ne src1 hp
    have hpH : H p = none := by rw [← el p p1 p2]; exact hp
    have eN := (hid_new (o := .lst []) src1 hp).2.2
    have srcA := srcAt_upd (o := .lst []) src1 p1 p2
    obtain ⟨t1, t2, eT⟩ := hid_new (o := .lst (tails5.map V.str)) srcA ht
    have srcB := srcAt_upd (o := .lst (tails5.map V.str)) srcA t1 t2
    have sB : Same (hid d c H) (hid d c (upd (upd H1 p (.lst [])) t (.lst (tails5.map V.str)))) := by
      rw [← hid_else el]
      exact hid_up ((same_new hp).trans (same_new ht))
    have eN2 : (hid d c (upd (upd H1 p (.lst [])) t (.lst (tails5.map V.str)))) p = some (.lst []) := hid_up (same_new ht) _ _ eN
    have ntp : t ≠ p := fun e => by
      rw [e, upd_same] at ht
      cases ht
    refine ⟨_, rfl, (n : Int), rfl, by omega, by omega, for_range (lo := 0) (n := n) (fun i σ H' => (∃ v5 v6, σ = [some (.ref d), some (.int n), some (.int (s0 : Int)), some (.ref p), some (.ref t), v5, v6]) ∧ SrcAt H' d c ∧ Same (hid d c H) (hid d c H') ∧ ∃ ws : List Str, (hid d c H') p = some (.lst (ws.map V.str)) ∧ (hid d c H') t = some (.lst (tails5.map V.str)) ∧ (∀ w ∈ ws, drawnName w) ∧ ws.map numAt = ((List.range i).map fun k => (s0 + 37 * k) % 100) ∧ ws.length = i)
      ⟨⟨_, _, rfl⟩, srcB, sB, [], eN2, eT, (fun w h => by cases h), rfl, rfl⟩ ?_ ?_⟩
    · rintro i σ H2 hi ⟨⟨v5, v6, rfl⟩, src2, s2, ws, f1, f2, f3, f4, f5⟩
      refine ⟨_, rfl, d, c, 26, rfl, src2, by decide, by decide, fun x H3 x0 x1 src3 el3 => ?_⟩
      obtain ⟨xn, rfl⟩ : ∃ n : Nat, x = (n : Int) := ⟨x.toNat, by omega⟩
      obtain ⟨ch, hch⟩ : ∃ ch, (codes sLetters)[xn]? = some ch := by
        have : (codes sLetters).length = 26 := by decide +kernel
        have h26 : max (1 : Int) 26 = 26 := by decide
        exact ⟨_, List.getElem?_eq_getElem (by omega)⟩
      refine ⟨sLetters, _, ch, rfl, rfl, by decide, atI_nat hch, ?_⟩
      have e3 := hid_else el3
      rw [← e3] at f1 f2 s2
      have g1 := hid_get f1
      refine ⟨_, rfl, .inl ⟨rfl, _, .inl (.inl g1.2.2)⟩, ?_⟩
      refine ⟨_, rfl, _, rfl, _, rfl, _, _, rfl, rfl, .inl ⟨by decide, by decide⟩, _, _, rfl, rfl, .inl ⟨_, rfl, _, _, rfl, rfl, (by show (0 : Int) < 100; decide), _, _, rfl, rfl, ?_⟩⟩
      have er : ((s0 : Int) + 37 * (0 + (i : Int))) % 100 = (((s0 + 37 * i) % 100 : Nat) : Int) := by omega
      rw [er]
      have hR : (s0 + 37 * i) % 100 < 100 := Nat.mod_lt _ (by decide)
      have hRi : (List.range (i + 1)).map (fun k => (s0 + 37 * k) % 100) = ((List.range i).map fun k => (s0 + 37 * k) % 100) ++ [(s0 + 37 * i) % 100] := by
        rw [List.range_succ, List.map_append]
        rfl
      generalize (s0 + 37 * i) % 100 = R at hR hRi ⊢
      have lg : (100 + (R : Int)).natAbs.log2 < 1920 := Nat.lt_of_le_of_lt (Nat.log2_le_self _) (by omega)
      have l1 : (⟨#[ch]⟩ : Str).length = 1 := rfl
      have l2 : (two R).length = 2 := by
        rw [show (two R).length = (codes (two R)).length from Array.length_toList.symm, two_codes hR]
        rfl
      refine ⟨_, rfl, lg, _, rfl, _, rfl, hh2 (Nat.le_trans (two_src hR) (by decide)), _, _, rfl, rfl, hh2 (by show (⟨#[ch]⟩ : Str).length + (two R).length ≤ _; omega), ?_⟩
      refine ⟨_, rfl, _, rfl, d, c, 5, rfl, src3, by decide, by decide, fun y H4 y0 y1 src4 el4 => ?_⟩
      have e4 := hid_else el4
      have e4' := e4
      rw [← e4] at f1 f2 s2
      have g2 := hid_get f1
      have g3 := hid_get f2
      obtain ⟨yn, rfl⟩ : ∃ n : Nat, y = (n : Int) := ⟨y.toNat, by omega⟩
      have h5 : yn < 5 := by
        have : max (1 : Int) 5 = 5 := by decide
        omega
      obtain ⟨tl, htl⟩ : ∃ tl, tails5[yn]? = some tl := ⟨_, List.getElem?_eq_getElem h5⟩
      have tm := List.mem_of_getElem? htl
      have tlen : tl.length ≤ 9 := of_decide_eq_true (List.all_eq_true.mp (show (tails5.all fun t => decide (t.length ≤ 9)) = true by decide +kernel) tl tm)
      refine ⟨t, _, _, .str tl, rfl, rfl, .inl (.inl g3.2.2), atI_nat (by rw [List.getElem?_map, htl]; rfl), _, _, rfl, rfl, hh2 (by show ((⟨#[ch]⟩ ++ two R : Str)).length + tl.length ≤ _; rw [len_app]; omega), ?_⟩
      have hlet : inS sLetters ch = true := decide_eq_true (List.mem_of_getElem? hch)
      refine ⟨p, _, _, rfl, rfl, g2.2.2, ?_, ⟨_, _, rfl⟩, srcAt_upd src4 p1 p2, ?_, ws ++ [nameT ch R tl], ?_, ?_, ?_, ?_, ?_⟩
      · rw [List.length_map, f5]
        exact small1000 (by omega)
      · rw [hid_upd p1 p2]
        exact Same.over s2 (hid_none hpH)
      · rw [hid_upd p1 p2, upd_same, List.map_append]
        rfl
      · rw [hid_upd p1 p2, upd_ne ntp]
        exact f2
      · intro w hw
        rcases List.mem_append.mp hw with hw | hw
        · exact f3 w hw
        · rw [List.mem_singleton.mp hw]
          exact nameT_ok hlet hR tm
      · rw [List.map_append, f4, hRi, List.map_cons, List.map_nil, nameT_num hR]
      · rw [List.length_append, f5]
        rfl
    · rintro σ H2 ⟨⟨v5, v6, rfl⟩, src2, s2, ws, f1, f2, f3, f4, f5⟩
      exact ⟨_, rfl, k p ws H2 src2 s2 hpH f1 (good_names hn f4 f3) f5⟩
end
end Bc

namespace Bc
open PySem PySem.Spec PyProof.Rows L2
/-! ### things in a drawn order -/
theorem seqIx {n k : Nat} (h : k < n) : seqIndex? (k : Int) n = some k := by
  refine (ixN_seq ?_).1
  unfold ixN
  rw [if_pos (by omega), if_pos (by omega)]
  simp
theorem erase_perm : ∀ (l : List V) (i : Nat) (h : i < l.length), (l[i] :: l.eraseIdx i).Perm l
  | [], i, h => by cases h
  | a :: l, 0, h => .refl _
  | a :: l, i + 1, h => by
    have hi : i < l.length := Nat.lt_of_succ_lt_succ h
    have ih := erase_perm l i hi
    exact (List.Perm.swap a l[i] (l.eraseIdx i)).trans (ih.cons a)
def rLenK (K : PySem.W.Frag) : List V → Hp → VK → Prop := fun xs H Q => ∃ x n, xs = [x] ∧ LenV K x H n ∧ Q (.int n) H
abbrev nMixed : List Str := ["_law_source_here", "_law_things", "_law_rest", "_law_lap"]
theorem scMixed : FnScope nMixed ["_law_source_here", "_law_things"] (defScope sMixed) := ⟨rfl, rfl, rfl, by decide +kernel, rfl, by decide +kernel, by decide +kernel⟩
def spMixed (K : PySem.W.Frag) : Sp := fun vs H Q _ => ∃ (d c l : Addr) (xs : List V), vs = [.ref d, .ref l] ∧ SrcAt H d c ∧ SqL K (hid d c H) l xs ∧ xs.length ≤ 1000 ∧
  ∀ (p : Addr) (ys : List V) (H' : Hp), SrcAt H' d c → Same (hid d c H) (hid d c H') → H p = none → (hid d c H') p = some (.lst ys) → ys.Perm xs → Q (.ref p) H'
section
variable {P : Program} {w : World} {K : PySem.W.Frag} {mg : Str → Option Value} {base : Heap}
theorem ok_mixed {f fP : Addr} {fd fdP : FuncData} (F : Fun K "_law_mixed" "_law_mixed" sMixed f fd) (B : Blt mg) (N : Nm mg)
    (GP : FnOk P w K mg base CX0 1 fP fdP ["_law_source_here", "_law_many"] spPick) (bP : Binds K fdP ["_law_source_here", "_law_many"] []) (gP : mg "_law_pick" = some (.ref fP)) (kP : PySem.W.keepIn K (.ref fP) = true) : FnOk P w K mg base CX0 2 f fd ["_law_source_here", "_law_things"] (spMixed K) := by
  refine F.ok scMixed (fun vs H Q E h => ?_) (fun cdv A outer s H vs Q E hr h => ?_)
  · obtain ⟨d, c, l, xs, rfl, _⟩ := h
    rfl
  · obtain ⟨d, c, l, xs, rfl, src, hl, hn, k⟩ := h
    refine ⟨_, pss_cons (ps_set (i := 2) scMixed.nd rfl (.inr rfl) (pe_callTy call_list_of (by rfl) N.lst (by decide +kernel) (pa_cons (pv 1) pa_nil)))
      (pss_one (ps_ret (pe_lc (own := [("_law_lap", 3)]) (g := gName 3) (tt := tYes) (by rfl) scMixed.nd (pi_range1 (by rfl) N.rng (pa_cons (pe_callB call_len (by rfl) B.len (by decide +kernel) (pa_cons (pv 2) pa_nil)) pa_nil)) (blkOk_by (own := [("_law_lap", 3)]) (N := nMixed) (sc := defScope sMixed) (by decide +kernel))
          (fun _ _ _ _ _ => pg_name (i := 3) scMixed.nd rfl (.inl rfl)) (fun _ _ _ _ _ => pts_nil)
          (fun _ _ _ _ _ => show PE _ _ (tBM K "list" rPopAt _ _) from pe_bm PySem.F.plainAttrs_list PySem.F.slot_list_pop PySem.F.type_list_pop mt_popAt (pv 2) (pa_cons (pe_call GP hr (by rfl) gP kP bP .nil pass0 (pa_cons (pv 0) (pa_cons (pe_callB (show CallR _ (.builtin "len") (rLenK K) from call_len) (by rfl) B.len (by decide +kernel) (pa_cons (pv 2) pa_nil)) pa_nil))) pa_nil))))), ?_⟩
    refine ⟨_, rfl, l, xs, rfl, .inl (hid_all.seq hl), fun R hR => ?_⟩
    obtain ⟨r1, r2, eR⟩ := hid_new (o := .lst xs) src hR
    have srcA := srcAt_upd (o := .lst xs) src r1 r2
    have sA : Same (hid d c H) (hid d c (upd H R (.lst xs))) := hid_up (same_new hR)
    generalize upd H R (.lst xs) = H1 at eR srcA sA ⊢
    have gR := hid_get eR
    refine ⟨_, rfl, _, xs.length, rfl, .inl ⟨xs, .inl (.inl gR.2.2), rfl⟩, (xs.length : Int), rfl, by omega, by omega, fun D hD => ?_⟩
    obtain ⟨d1, d2, eD⟩ := hid_new (o := .lst []) srcA hD
    have nRD : R ≠ D := ne_of_none gR.2.2 hD
    have hDH : hid d c H D = none := sA.free (hid_none hD)
    refine lc_range (lo := 0) (n := xs.length) (fun i H' => SrcAt H' d c ∧ Same (hid d c H) (hid d c H') ∧ ∃ acc rs, (hid d c H') D = some (.lst acc) ∧ (hid d c H') R = some (.lst rs) ∧ (acc ++ rs).Perm xs ∧ acc.length = i ∧ rs.length + i = xs.length)
      ⟨srcAt_upd srcA d1 d2, sA.trans (hid_up (same_new hD)), [], xs, eD, hid_up (same_new hD) _ _ eR, .refl _, rfl, rfl⟩ ?_ ?_
    · rintro i H2 hi ⟨src2, s2, acc, rs, f1, f2, f3, f4, f5⟩
      have g2 := hid_get f2
      refine ⟨rfl, lc_yes ?_⟩
      refine ⟨_, rfl, .inl ⟨rfl, _, .inl (.inl g2.2.2)⟩, ?_⟩
      refine ⟨_, rfl, _, rfl, _, rs.length, rfl, .inl ⟨rs, .inl (.inl g2.2.2), rfl⟩, d, c, rs.length, rfl, src2, by omega, by omega, fun x H3 x0 x1 src3 el3 => ?_⟩
      obtain ⟨xn, rfl⟩ : ∃ n : Nat, x = (n : Int) := ⟨x.toNat, by omega⟩
      have hx : xn < rs.length := by omega
      have e3 := hid_else el3
      rw [← e3] at f1 f2 s2
      have g1 := hid_get f1
      have g2 := hid_get f2
      refine ⟨R, rs, _, xn, rs[xn], rfl, rfl, g2.2.2, by omega, by omega, seqIx hx, List.getElem?_eq_getElem hx, ?_⟩
      refine ⟨acc, by rw [upd_ne nRD.symm]; exact g1.2.2, small1000 (by omega), srcAt_upd (srcAt_upd src3 r1 r2) d1 d2, ?_, acc ++ [rs[xn]], rs.eraseIdx xn, ?_, ?_, ?_, ?_, ?_⟩
      · rw [hid_upd d1 d2, hid_upd r1 r2]
        exact Same.over (Same.over s2 (hid_none hR)) hDH
      · rw [hid_upd d1 d2, upd_same]
      · rw [hid_upd d1 d2, upd_ne nRD, hid_upd r1 r2, upd_same]
      · refine List.Perm.trans ?_ f3
        rw [List.append_assoc]
        exact List.Perm.append_left acc (erase_perm rs xn hx)
      · rw [List.length_append, f4]
        rfl
      · rw [List.length_eraseIdx_of_lt hx]
        omega
    · rintro H2 ⟨src2, s2, acc, rs, f1, f2, f3, f4, f5⟩
      have e0 : rs = [] := List.eq_nil_of_length_eq_zero (by omega)
      rw [e0, List.append_nil] at f3
      have hDn : H D = none := by
        have := hDH
        unfold hid at this
        rw [if_neg (fun y => y.elim d1 d2)] at this
        exact this
      exact k D acc H2 src2 s2 hDn f1 f3
end
end Bc

namespace Bc
open PySem PySem.Spec PyProof.Rows L2
/-! ### drawn shapes -/
/-- tuples stay -/
def TK (K : PySem.W.Frag) (G G' : Hp) : Prop := ∀ a xs, SqT K G a xs → SqT K G' a xs
theorem TK.of {K : PySem.W.Frag} {G G' : Hp} (s : Same G G') : TK K G G' := fun a xs h => Same.sqT s h
theorem TK.trans {K : PySem.W.Frag} {G G1 G2 : Hp} (a : TK K G G1) (b : TK K G1 G2) : TK K G G2 := fun x xs h => b x xs (a x xs h)
theorem TK.put {K : PySem.W.Frag} {G : Hp} {L : Addr} {ys : List V} {o : HO} (e : G L = some (.lst ys)) : TK K G (upd G L o) := fun a xs h => sqT_upd e h
theorem strs_keep {K : PySem.W.Frag} {G G' : Hp} {bs : List Str} {vs : List V} (h : DqAll K G vs (bs.map PyData.str)) : DqAll K G' vs (bs.map PyData.str) := by
  rw [dq_strs h]
  exact strs_dq bs
theorem shape_keep {K : PySem.W.Frag} {G G' : Hp} (t : TK K G G') {v : V} {s : Shp} (h : Dq K G v (dShape s)) : Dq K G' v (dShape s) := by
  obtain ⟨a, b, rfl, h1, h2⟩ := shape_inv h
  exact .tup (t _ _ h1) (.cons (.str _) (.cons (.str _) (.cons (.tup (t _ _ h2) (strs_dq _)) .nil)))
theorem shapes_keep {K : PySem.W.Frag} {G G' : Hp} (t : TK K G G') : ∀ {vs : List V} (ss : List Shp), DqAll K G vs (ss.map dShape) → DqAll K G' vs (ss.map dShape)
  | _, [], h => by
    cases h.nil_inv
    exact .nil
  | _, s :: ss, h => by
    rw [List.map_cons] at h ⊢
    obtain ⟨v, _, rfl, h1, h2⟩ := h.cons_inv
    exact .cons (shape_keep t h1) (shapes_keep t ss h2)
theorem dq_perm {α : Type} {K : PySem.W.Frag} {G : Hp} {f : α → PyData} {vs ys : List V} (p : vs.Perm ys) : ∀ {ss : List α}, DqAll K G vs (ss.map f) → ∃ ss' : List α, ss'.Perm ss ∧ DqAll K G ys (ss'.map f) := by
  induction p with
  | nil =>
    intro ss h
    cases ss with
    | nil => exact ⟨[], .refl _, .nil⟩
    | cons s ss => cases h
  | cons x _ ih =>
    intro ss h
    cases ss with
    | nil => cases h
    | cons s ss =>
      rw [List.map_cons] at h
      cases h with
      | cons h1 h2 =>
        obtain ⟨t, p, q⟩ := ih h2
        exact ⟨s :: t, p.cons s, .cons h1 q⟩
  | swap x y l =>
    intro ss h
    cases ss with
    | nil => cases h
    | cons s ss =>
      rw [List.map_cons] at h
      cases h with
      | cons h1 h2 =>
        cases ss with
        | nil => cases h2
        | cons r ss =>
          rw [List.map_cons] at h2
          cases h2 with
          | cons h3 h4 => exact ⟨r :: s :: ss, .swap s r ss, .cons h3 (.cons h1 h4)⟩
  | trans _ _ ih1 ih2 =>
    intro ss h
    obtain ⟨t, p, q⟩ := ih1 h
    obtain ⟨u, p2, q2⟩ := ih2 q
    exact ⟨u, p2.trans p, q2⟩
structure GoodShapes (ss : List Shp) : Prop where
  all : ∀ s ∈ ss, OkShape s ∧ s.2.2.length ≤ 4
  nd : (wordsS ss).Nodup
  ln : ss.length ≤ 7
theorem GoodShapes.perm {ss tt : List Shp} (g : GoodShapes ss) (p : tt.Perm ss) : GoodShapes tt :=
  ⟨fun s hs => g.all s (p.mem_iff.mp hs), ((p.map (fun s : Shp => s.1)).nodup_iff.mpr g.nd : (tt.map fun s : Shp => s.1).Nodup), by rw [p.length_eq]; exact g.ln⟩
theorem GoodShapes.book {ss : List Shp} (g : GoodShapes ss) : OkBook ss := ⟨fun s hs => (g.all s hs).1, g.nd, Nat.le_trans g.ln (by decide)⟩
/-- the shapes so far, and the words that are left -/
structure ShSt (ss : List Shp) (rest : List Str) : Prop where
  all : ∀ s ∈ ss, OkShape s ∧ s.2.2.length ≤ 4
  nd : (wordsS ss ++ rest).Nodup
  ok : ∀ w ∈ rest, isW w = true
  cnt : rest.length + ss.length = 12
theorem ShSt.more {ss : List Shp} {rest : List Str} {s : Shp} (h : ShSt ss (rest ++ [s.1])) (h1 : OkShape s) (h2 : s.2.2.length ≤ 4) : ShSt (ss ++ [s]) rest := by
  refine ⟨fun x hx => ?_, ?_, fun w hw => h.ok w (List.mem_append.mpr (.inl hw)), ?_⟩
  · rcases List.mem_append.mp hx with hx | hx
    · exact h.all x hx
    · rw [List.mem_singleton.mp hx]
      exact ⟨h1, h2⟩
  · have e : wordsS (ss ++ [s]) = wordsS ss ++ [s.1] := by
      unfold wordsS
      rw [List.map_append]
      rfl
    rw [e, List.append_assoc]
    refine (List.Perm.nodup_iff (List.Perm.append_left _ ?_)).mpr h.nd
    exact List.perm_append_comm
  · have := h.cnt
    rw [List.length_append] at this ⊢
    have e1 : ([s.1] : List Str).length = 1 := rfl
    have e2 : ([s] : List Shp).length = 1 := rfl
    omega
theorem ShSt.good {ss : List Shp} {rest : List Str} (h : ShSt ss rest) (n : ss.length ≤ 7) : GoodShapes ss := ⟨h.all, (List.nodup_append.mp h.nd).1, n⟩
theorem last_split {ws : List Str} (h : ws ≠ []) : ∃ rest w, ws = rest ++ [w] := ⟨ws.dropLast, ws.getLast h, (List.dropLast_concat_getLast h).symm⟩
theorem grow {K : PySem.W.Frag} {G : Hp} {D u : Addr} {vs : List V} {ss : List Shp} {s : Shp} (e : G D = some (.lst vs)) (dq : DqAll K G vs (ss.map dShape)) (du : Dq K G (.ref u) (dShape s)) : DqAll K (upd G D (.lst (vs ++ [.ref u]))) (vs ++ [.ref u]) ((ss ++ [s]).map dShape) := by
  rw [List.map_append]
  exact DqAll.snoc' (shapes_keep (TK.put e) ss dq) (shape_keep (TK.put e) du)
theorem ne_of_none' {H : Hp} {a b : Addr} {o : HO} (h : H a = some o) (n : H b = none) : b ≠ a := fun e => by
  rw [e, h] at n
  cases n
theorem last_of (rest : List Str) (w : Str) : ((rest ++ [w]).map V.str)[((rest ++ [w]).map V.str).length - 1]? = some (.str w) := by
  rw [List.map_append, List.length_append, List.getElem?_append_right (by simp)]
  simp
theorem drop_of (rest : List Str) (w : Str) : ((rest ++ [w]).map V.str).dropLast = rest.map V.str := by
  rw [List.map_append]
  exact List.dropLast_concat
abbrev nShapes : List Str := ["_law_source_here", "_law_most", "_law_colours", "_law_words", "_law_shapes_here", "_law_lap", "_law_branches", "_law_colour", "_law_turn"]
theorem scShapes : FnScope nShapes ["_law_source_here", "_law_most"] (defScope sShapes) := ⟨rfl, rfl, rfl, by decide +kernel, rfl, by decide +kernel, by decide +kernel⟩
def spShapes (K : PySem.W.Frag) : Sp := fun vs H Q _ => ∃ (d c : Addr), vs = [.ref d, .int 4] ∧ SrcAt H d c ∧
  ∀ (p : Addr) (xs : List V) (ss : List Shp) (H' : Hp), SrcAt H' d c → Same (hid d c H) (hid d c H') → H p = none → (hid d c H') p = some (.lst xs) → DqAll K (hid d c H') xs (ss.map dShape) → GoodShapes ss → Q (.ref p) H'
section
variable {P : Program} {w : World} {K : PySem.W.Frag} {mg : Str → Option Value} {base : Heap}
theorem ok_shapes {f fP fN fO fM : Addr} {fd fdP fdN fdO fdM : FuncData} (F : Fun K "_law_shapes" "_law_shapes" sShapes f fd) (N : Nm mg) (T : Wt mg)
    (GP : FnOk P w K mg base CX0 1 fP fdP ["_law_source_here", "_law_many"] spPick) (bP : Binds K fdP ["_law_source_here", "_law_many"] []) (gP : mg "_law_pick" = some (.ref fP)) (kP : PySem.W.keepIn K (.ref fP) = true)
    (GN : FnOk P w K mg base CX0 2 fN fdN ["_law_source_here", "_law_many"] spNames) (bN : Binds K fdN ["_law_source_here", "_law_many"] []) (gN : mg "_law_names" = some (.ref fN)) (kN : PySem.W.keepIn K (.ref fN) = true)
    (GO : FnOk P w K mg base CX0 2 fO fdO ["_law_source_here", "_law_some"] (spOf K)) (bO : Binds K fdO ["_law_source_here", "_law_some"] []) (gO : mg "_law_of" = some (.ref fO)) (kO : PySem.W.keepIn K (.ref fO) = true)
    (GM : FnOk P w K mg base CX0 2 fM fdM ["_law_source_here", "_law_things"] (spMixed K)) (bM : Binds K fdM ["_law_source_here", "_law_things"] []) (gM : mg "_law_mixed" = some (.ref fM)) (kM : PySem.W.keepIn K (.ref fM) = true) : FnOk P w K mg base CX0 3 f fd ["_law_source_here", "_law_most"] (spShapes K) := by
  refine F.ok scShapes (fun vs H Q E h => ?_) (fun cdv A outer s H vs Q E hr h => ?_)
  · obtain ⟨d, c, rfl, _⟩ := h
    rfl
  · obtain ⟨d, c, rfl, src, k⟩ := h
    have hr1 : Room 1 _ := hr.mono (by decide)
    refine ⟨_, pss_cons (ps_asg (pe_tup (pa_cons (pe_call GN hr (by rfl) gN kN bN .nil pass0 (pa_cons (pv 0) (pa_cons (pe_op op_add pe_int (pe_call GP hr1 (by rfl) gP kP bP .nil pass0 (pa_cons (pv 0) (pa_cons pe_int pa_nil)))) pa_nil))) (pa_cons (pe_call GN hr (by rfl) gN kN bN .nil pass0 (pa_cons (pv 0) (pa_cons pe_int pa_nil))) pa_nil)))
          (pg_tup rfl (pgs_cons (pg_name (i := 2) scShapes.nd rfl (.inr rfl)) (pgs_cons (pg_name (i := 3) scShapes.nd rfl (.inr rfl)) pgs_nil))))
      (pss_cons (ps_setLc (i := 4) (own := [("_law_colour", 7)]) (g := gName 7) (tt := tYes) rfl scShapes.nd rfl rfl (sw_true rfl rfl rfl (by decide +kernel)) (pi_list (pv 2)) (blkOk_by (own := [("_law_colour", 7)]) (N := nShapes) (sc := defScope sShapes) (by decide +kernel))
          (fun _ _ _ _ _ => pg_name (i := 7) scShapes.nd rfl (.inl rfl)) (fun _ _ _ _ _ => pts_nil)
          (fun _ _ _ _ _ => pe_tup (pa_cons (show PE _ _ (tBM0 K "list" rPop _) from pe_bm0 PySem.F.plainAttrs_list PySem.F.slot_list_pop PySem.F.type_list_pop mt_pop (pv 3)) (pa_cons (pv 7) (pa_cons (pe_tup pa_nil) pa_nil)))))
      (pss_cons (ps_for PassesOwn.never rfl (pi_range1 (by rfl) N.rng (pa_cons (pe_call GP hr1 (by rfl) gP kP bP .nil pass0 (pa_cons (pv 0) (pa_cons (pe_op op_add (pv 1) pe_int) pa_nil))) pa_nil)) (pg_name (i := 5) scShapes.nd rfl (.inl rfl))
        (pss_cons (ps_set (i := 6) scShapes.nd rfl (.inl rfl) (pe_tupleOf (by rfl) T.tup (pe_lc (own := [("_law_turn", 8)]) (g := gName 8) (tt := tYes) (by rfl) scShapes.nd (pi_range1 (by rfl) N.rng (pa_cons (pe_op op_add pe_int (pe_call GP hr1 (by rfl) gP kP bP .nil pass0 (pa_cons (pv 0) (pa_cons pe_int pa_nil)))) pa_nil)) (blkOk_by (own := [("_law_turn", 8)]) (N := nShapes) (sc := defScope sShapes) (by decide +kernel))
            (fun _ _ _ _ _ => pg_name (i := 8) scShapes.nd rfl (.inl rfl)) (fun _ _ _ _ _ => pts_nil)
            (fun _ _ _ _ _ => pe_call GO hr (by rfl) gO kO bO .nil pass0 (pa_cons (pv 0) (pa_cons (pv 2) pa_nil))))))
        (pss_one (ps_expr (pe_bm PySem.F.plainAttrs_list PySem.F.slot_list_append PySem.F.type_list_append mt_append (pv 4) (pa_cons (pe_tup (pa_cons (pe_bm0 PySem.F.plainAttrs_list PySem.F.slot_list_pop PySem.F.type_list_pop mt_pop (pv 3))
            (pa_cons (pe_call GO hr (by rfl) gO kO bO .nil pass0 (pa_cons (pv 0) (pa_cons (pv 2) pa_nil))) (pa_cons (pv 6) pa_nil)))) pa_nil))))))
      (pss_one (ps_ret (pe_call GM hr (by rfl) gM kM bM .nil pass0 (pa_cons (pv 0) (pa_cons (pv 4) pa_nil))))))), ?_⟩
    have hh : ∀ {n : Nat}, n ≤ 1000 → n < sizeLine := fun {n} h => small1000 h
    refine ⟨_, rfl, _, rfl, d, c, 3, rfl, src, by decide, by decide, fun r H1 r0 r1 src1 el1 => ?_⟩
    obtain ⟨rn, rfl⟩ : ∃ n : Nat, r = (n : Int) := ⟨r.toNat, by omega⟩
    have hrn : rn < 3 := by
      have : max (1 : Int) 3 = 3 := by decide
      omega
    refine ⟨_, _, rfl, rfl, ?_⟩
    refine ⟨d, c, 1 + rn, by rw [show ((1 + rn : Nat) : Int) = 1 + (rn : Int) by omega]; rfl, src1, by omega, fun Lc cols H2 src2 s2 nLc eLc gc lc => ?_⟩
    refine ⟨_, rfl, d, c, 12, rfl, src2, by decide, fun Lw wds H3 src3 s3 nLw eLw gw lw => ?_⟩
    refine ⟨(by show 2 ≤ sizeLine; decide), fun tp htp => ⟨tp, _, rfl, .inl (.inl upd_same), rfl, _, _, rfl, _, _, rfl, rfl, ?_⟩⟩
    have e1 := hid_else el1
    have nC0 : hid d c H Lc = none := by
      rw [← e1]
      exact hid_none nLc
    have sA : Same (hid d c H) (hid d c H2) := by
      rw [← e1]
      exact s2
    have nW0 : hid d c H Lw = none := sA.free (hid_none nLw)
    have nCW : Lc ≠ Lw := fun e => by
      have g := (hid_get eLc).2.2
      rw [e, nLw] at g
      cases g
    have sT := hid_up (d := d) (c := c) (same_new (o := .tup [.ref Lc, .ref Lw]) htp)
    have srcT : SrcAt (upd H3 tp (.tup [.ref Lc, .ref Lw])) d c := src3.up (same_new htp)
    have eLcT := sT _ _ (s3 _ _ eLc)
    have eLwT := sT _ _ eLw
    have s0T := sA.trans (s3.trans sT)
    generalize upd H3 tp (.tup [.ref Lc, .ref Lw]) = HT at srcT eLcT eLwT s0T ⊢
    have gLc := hid_get eLcT
    refine ⟨_, rfl, Lc, rfl, ⟨_, .inl (.inl gLc.2.2)⟩, fun D hD => lc_list (K := K) (a := Lc) (xs := cols.map V.str) (fun i H' => SrcAt H' d c ∧ Same (hid d c H) (hid d c H') ∧ (hid d c H') Lc = some (.lst (cols.map V.str)) ∧ ∃ rest ss vs, (hid d c H') Lw = some (.lst (rest.map V.str)) ∧ (hid d c H') D = some (.lst vs) ∧ DqAll K (hid d c H') vs (ss.map dShape) ∧ ShSt ss rest ∧ ss.length = i)
      ?_ (fun i H' _ h => .inl (.inl (hid_get h.2.2.1).2.2)) ?_ ?_⟩
    · obtain ⟨d1, d2, eD⟩ := hid_new (o := .lst []) srcT hD
      have sD := hid_up (d := d) (c := c) (same_new (o := .lst []) hD)
      refine ⟨srcT.up (same_new hD), s0T.trans sD, sD _ _ eLcT, wds, [], [], sD _ _ eLwT, eD, .nil, ⟨(fun s h => by cases h), gw.nd, fun w hw => (gw.all w hw).1, by rw [lw]; rfl⟩, rfl⟩
    · rintro i x H4 hx ⟨src4, s4, f1, rest, ss, vs, f2, f3, f4, f5, f6⟩
      obtain ⟨col, hcol, rfl⟩ : ∃ r, cols[i]? = some r ∧ x = V.str r := by
        rw [List.getElem?_map] at hx
        cases e : cols[i]? with
        | none =>
          rw [e] at hx
          cases hx
        | some r =>
          rw [e] at hx
          exact ⟨r, rfl, (Option.some.inj hx).symm⟩
      have il : i < cols.length := (List.getElem?_eq_some_iff.mp hcol).1
      have gD := hid_get f3
      have gW := hid_get f2
      have gC := hid_get f1
      have nDW : D ≠ Lw := fun e => by
        rw [e] at hD
        rw [(hid_get eLwT).2.2] at hD
        cases hD
      have nDC : D ≠ Lc := ne_of_none' gLc.2.2 hD
      have nD0 : hid d c H D = none := s0T.free (hid_none hD)
      obtain ⟨rest', w, rfl⟩ := last_split (ws := rest) (fun e => by
        have := f5.cnt
        rw [e, f6] at this
        have : ([] : List Str).length = 0 := rfl
        omega)
      refine ⟨rfl, lc_yes ?_⟩
      refine ⟨_, rfl, .inl ⟨rfl, _, .inl (.inl gW.2.2)⟩, Lw, _, .str w, rfl, rfl, gW.2.2, last_of rest' w, ?_⟩
      rw [drop_of rest' w]
      refine ⟨_, rfl, (by show 0 ≤ sizeLine; decide), fun t ht => ⟨(by show 3 ≤ sizeLine; decide), fun u hu => ?_⟩⟩
      have h1 := hid_upd (H := H4) (o := .lst (rest'.map V.str)) gW.1 gW.2.1
      have src5 := srcAt_upd (o := .lst (rest'.map V.str)) src4 gW.1 gW.2.1
      have tne := src_ne src5 ht
      have h2 := hid_upd (H := upd H4 Lw (.lst (rest'.map V.str))) (o := .tup []) tne.1 tne.2
      have src6 := srcAt_upd (o := .tup []) src5 tne.1 tne.2
      have une := src_ne src6 hu
      have h3 := hid_upd (H := upd (upd H4 Lw (.lst (rest'.map V.str))) t (.tup [])) (o := .tup [.str w, .str col, .ref t]) une.1 une.2
      have src7 := srcAt_upd (o := .tup [.str w, .str col, .ref t]) src6 une.1 une.2
      have gt := hid_none (d := d) (c := c) ht
      have gu := hid_none (d := d) (c := c) hu
      rw [h1] at gt h2
      rw [h2] at gu h3
      have kA : TK K (hid d c H4) (upd (hid d c H4) Lw (.lst (rest'.map V.str))) := TK.put f2
      have kB := kA.trans ((TK.of (same_new (o := .tup []) gt)).trans (TK.of (same_new (o := .tup [.str w, .str col, .ref t]) gu)))
      have nDt : D ≠ t := fun e => by
        rw [← e, upd_ne nDW, f3] at gt
        cases gt
      have nDu : D ≠ u := fun e => by
        rw [← e, upd_ne nDt, upd_ne nDW, f3] at gu
        cases gu
      have eD3 : hid d c (upd (upd (upd H4 Lw (.lst (rest'.map V.str))) t (.tup [])) u (.tup [.str w, .str col, .ref t])) D = some (.lst vs) := by
        rw [h3, upd_ne nDu, upd_ne nDt, upd_ne nDW]
        exact f3
      have eW3 : hid d c (upd (upd (upd H4 Lw (.lst (rest'.map V.str))) t (.tup [])) u (.tup [.str w, .str col, .ref t])) Lw = some (.lst (rest'.map V.str)) := by
        rw [h3]
        exact (same_new gu) _ _ ((same_new gt) _ _ upd_same)
      have eC3 : hid d c (upd (upd (upd H4 Lw (.lst (rest'.map V.str))) t (.tup [])) u (.tup [.str w, .str col, .ref t])) Lc = some (.lst (cols.map V.str)) := by
        rw [h3]
        exact (same_new gu) _ _ ((same_new gt) _ _ (by rw [upd_ne nCW]; exact f1))
      have sN : Same (hid d c H) (hid d c (upd (upd (upd H4 Lw (.lst (rest'.map V.str))) t (.tup [])) u (.tup [.str w, .str col, .ref t]))) := by
        rw [h3]
        exact (Same.over s4 nW0).trans ((same_new gt).trans (same_new gu))
      have dq3 : DqAll K (hid d c (upd (upd (upd H4 Lw (.lst (rest'.map V.str))) t (.tup [])) u (.tup [.str w, .str col, .ref t]))) vs (ss.map dShape) := by
        rw [h3]
        exact shapes_keep kB ss f4
      have du3 : Dq K (hid d c (upd (upd (upd H4 Lw (.lst (rest'.map V.str))) t (.tup [])) u (.tup [.str w, .str col, .ref t]))) (.ref u) (dShape (w, col, [])) := by
        rw [h3]
        exact .tup (xs := [.str w, .str col, .ref t]) (.inl (.inl upd_same)) (.cons (.str _) (.cons (.str _) (.cons (.tup (xs := []) (.inl (.inl ((same_new gu) _ _ upd_same))) .nil) .nil)))
      generalize upd (upd (upd H4 Lw (.lst (rest'.map V.str))) t (.tup [])) u (.tup [.str w, .str col, .ref t]) = H7 at src7 eD3 eW3 eC3 sN dq3 du3 ⊢
      have g3 := hid_get eD3
      have hW : isW w = true := f5.ok w (List.mem_append.mpr (.inr (List.mem_singleton.mpr rfl)))
      have hC : isW col = true := (gc.all col (List.mem_of_getElem? hcol)).1
      refine ⟨vs, g3.2.2, ?_, srcAt_upd src7 g3.1 g3.2.1, ?_, ?_, rest', ss ++ [(w, col, [])], vs ++ [.ref u], ?_, ?_, ?_, f5.more ⟨hW, hC, (fun b hb => by cases hb), (by show 0 ≤ 100; decide)⟩ (by show 0 ≤ 4; decide), by rw [List.length_append, f6]; rfl⟩
      · rw [f4.len, List.length_map, f6]
        exact hh (by omega)
      · rw [hid_upd g3.1 g3.2.1]
        exact Same.over sN nD0
      · rw [hid_upd g3.1 g3.2.1, upd_ne nDC.symm]
        exact eC3
      · rw [hid_upd g3.1 g3.2.1, upd_ne nDW.symm]
        exact eW3
      · rw [hid_upd g3.1 g3.2.1, upd_same]
      · rw [hid_upd g3.1 g3.2.1]
        exact grow eD3 dq3 du3
    · rintro H4 ⟨src4, s4, f1, rest, ss, vs, f2, f3, f4, f5, f6⟩
      rw [List.length_map, lc] at f6
      have nDW : D ≠ Lw := fun e => by
        rw [e] at hD
        rw [(hid_get eLwT).2.2] at hD
        cases hD
      have nDC : D ≠ Lc := ne_of_none' gLc.2.2 hD
      have nD0 : hid d c H D = none := s0T.free (hid_none hD)
      have cpos : 0 < cols.length := by omega
      refine ⟨_, rfl, _, rfl, _, _, rfl, rfl, ?_⟩
      refine ⟨d, c, 5, rfl, src4, by decide, by decide, fun r H5 r0 r1 src5 el5 => ?_⟩
      obtain ⟨m, rfl⟩ : ∃ n : Nat, r = (n : Int) := ⟨r.toNat, by omega⟩
      have hm : m < 5 := by
        have : max (1 : Int) 5 = 5 := by decide
        omega
      have e5 := hid_else el5
      rw [← e5] at s4 f1 f2 f3 f4
      refine ⟨(m : Int), rfl, by omega, by omega, for_range (lo := 0) (n := m) (fun i σ H' => (∃ v5 v6, σ = [some (.ref d), some (.int 4), some (.ref Lc), some (.ref Lw), some (.ref D), v5, v6, none, none]) ∧ SrcAt H' d c ∧ Same (hid d c H) (hid d c H') ∧ (hid d c H') Lc = some (.lst (cols.map V.str)) ∧
          ∃ rest ss vs, (hid d c H') Lw = some (.lst (rest.map V.str)) ∧ (hid d c H') D = some (.lst vs) ∧ DqAll K (hid d c H') vs (ss.map dShape) ∧ ShSt ss rest ∧ ss.length = 1 + rn + i)
        ⟨⟨_, _, rfl⟩, src5, s4, f1, rest, ss, vs, f2, f3, f4, f5, f6⟩ ?_ ?_⟩
      · clear f1 f2 f3 f4 f5 f6 s4 src4 src5 el5 e5 r0 r1
        rintro i σ H6 hi ⟨⟨v5, v6, rfl⟩, src6, s6, f1, rest, ss, vs, f2, f3, f4, f5, f6⟩
        -- the branches
        refine ⟨_, rfl, d, c, 3, rfl, src6, by decide, by decide, fun x H7 x0 x1 src7 el7 => ?_⟩
        obtain ⟨bn, rfl⟩ : ∃ n : Nat, x = (n : Int) := ⟨x.toNat, by omega⟩
        have hbn : bn < 3 := by
          have : max (1 : Int) 3 = 3 := by decide
          omega
        have e7 := hid_else el7
        rw [← e7] at s6 f1 f2 f3 f4
        refine ⟨_, _, rfl, rfl, ((1 + bn : Nat) : Int), by rw [show ((1 + bn : Nat) : Int) = 1 + (bn : Int) by omega], by omega, by omega, fun D2 hD2 => ?_⟩
        obtain ⟨b1, b2, eD2⟩ := hid_new (o := .lst []) src7 hD2
        have sD2 := hid_up (d := d) (c := c) (same_new (o := .lst []) hD2)
        have gD20 := hid_none (d := d) (c := c) hD2
        refine lc_range (lo := 0) (n := 1 + bn) (fun i H' => SrcAt H' d c ∧ Same (hid d c H7) (hid d c H') ∧ ∃ bs : List Str, (hid d c H') D2 = some (.lst (bs.map V.str)) ∧ bs.length = i ∧ ∀ b ∈ bs, b ∈ cols)
          ⟨src7.up (same_new hD2), sD2, [], eD2, rfl, (fun b h => by cases h)⟩ ?_ ?_
        · rintro j H8 hj ⟨src8, s8, bs, g1, g2, g3⟩
          refine ⟨rfl, lc_yes ?_⟩
          refine ⟨_, rfl, _, rfl, d, c, Lc, cols.map V.str, rfl, src8, .inl (.inl (s8 _ _ f1)), by rw [List.length_map]; exact cpos, by rw [List.length_map]; omega, fun v H9 hv src9 el9 => ?_⟩
          obtain ⟨b, hb, rfl⟩ := List.mem_map.mp hv
          have e9 := hid_else el9
          rw [← e9] at s8 g1
          have gg := hid_get g1
          refine ⟨_, gg.2.2, ?_, srcAt_upd src9 gg.1 gg.2.1, ?_, bs ++ [b], ?_, by rw [List.length_append, g2]; rfl, fun y hy => ?_⟩
          · rw [List.length_map, g2]
            exact hh (by omega)
          · rw [hid_upd gg.1 gg.2.1]
            exact Same.over s8 gD20
          · rw [hid_upd gg.1 gg.2.1, upd_same, List.map_append]
            rfl
          · rcases List.mem_append.mp hy with hy | hy
            · exact g3 y hy
            · rw [List.mem_singleton.mp hy]
              exact hb
        · rintro H8 ⟨src8, s8, bs, g1, g2, g3⟩
          have gg := hid_get g1
          refine .inl ⟨D2, _, rfl, .inl (.inl gg.2.2), fun q hq => ?_⟩
          obtain ⟨q1, q2, eq⟩ := hid_new (o := .tup (bs.map V.str)) src8 hq
          have sq := hid_up (d := d) (c := c) (same_new (o := .tup (bs.map V.str)) hq)
          have src9 := src8.up (same_new (o := .tup (bs.map V.str)) hq)
          have s9 := s8.trans sq
          have f1 := s9 _ _ f1
          have f2 := s9 _ _ f2
          have f3 := s9 _ _ f3
          have f4 := DqAll.same s9 f4
          have s6 := s6.trans s9
          generalize upd H8 q (.tup (bs.map V.str)) = H9 at src9 f1 f2 f3 f4 s6 eq ⊢
          clear sq s9 gg g1 s8 src8 hq eD2 sD2 gD20 hD2
          have gD := hid_get f3
          have gW := hid_get f2
          obtain ⟨rest', w, rfl⟩ := last_split (ws := rest) (fun e => by
            have := f5.cnt
            rw [e, f6] at this
            have : ([] : List Str).length = 0 := rfl
            omega)
          refine ⟨_, rfl, .inl ⟨rfl, _, .inl (.inl gD.2.2)⟩, ?_⟩
          refine ⟨_, rfl, .inl ⟨rfl, _, .inl (.inl gW.2.2)⟩, Lw, _, .str w, rfl, rfl, gW.2.2, last_of rest' w, ?_⟩
          rw [drop_of rest' w]
          have h1 := hid_upd (H := H9) (o := .lst (rest'.map V.str)) gW.1 gW.2.1
          have src10 := srcAt_upd (o := .lst (rest'.map V.str)) src9 gW.1 gW.2.1
          have kA : TK K (hid d c H9) (hid d c (upd H9 Lw (.lst (rest'.map V.str)))) := by
            rw [h1]
            exact TK.put f2
          have eW : hid d c (upd H9 Lw (.lst (rest'.map V.str))) Lw = some (.lst (rest'.map V.str)) := by
            rw [h1]
            exact upd_same
          have eC : hid d c (upd H9 Lw (.lst (rest'.map V.str))) Lc = some (.lst (cols.map V.str)) := by
            rw [h1, upd_ne nCW]
            exact f1
          have eD : hid d c (upd H9 Lw (.lst (rest'.map V.str))) D = some (.lst vs) := by
            rw [h1, upd_ne nDW]
            exact f3
          have s10 : Same (hid d c H) (hid d c (upd H9 Lw (.lst (rest'.map V.str)))) := by
            rw [h1]
            exact Same.over s6 nW0
          have dq := shapes_keep kA ss f4
          have tq := kA _ _ (.inl (.inl eq))
          generalize upd H9 Lw (.lst (rest'.map V.str)) = H10 at src10 eW eC eD s10 dq tq ⊢
          refine ⟨_, rfl, _, rfl, d, c, Lc, cols.map V.str, rfl, src10, .inl (.inl eC), by rw [List.length_map]; exact cpos, by rw [List.length_map]; omega, fun v H11 hv src11 el11 => ?_⟩
          obtain ⟨col, hcol, rfl⟩ := List.mem_map.mp hv
          have e11 := hid_else el11
          rw [← e11] at eW eC eD s10 dq tq
          refine ⟨_, rfl, (by show 3 ≤ sizeLine; decide), fun u hu => ?_⟩
          obtain ⟨u1, u2, eu⟩ := hid_new (o := .tup [.str w, .str col, .ref q]) src11 hu
          have su := hid_up (d := d) (c := c) (same_new (o := .tup [.str w, .str col, .ref q]) hu)
          have src12 := src11.up (same_new (o := .tup [.str w, .str col, .ref q]) hu)
          have eD := su _ _ eD
          have eW := su _ _ eW
          have eC := su _ _ eC
          have s12 := s10.trans su
          have dq := DqAll.same su dq
          have tq := Same.sqT su tq
          have du : Dq K (hid d c (upd H11 u (.tup [.str w, .str col, .ref q]))) (.ref u) (dShape (w, col, bs)) := .tup (xs := [.str w, .str col, .ref q]) (.inl (.inl eu)) (.cons (.str _) (.cons (.str _) (.cons (.tup tq (strs_dq _)) .nil)))
          generalize upd H11 u (.tup [.str w, .str col, .ref q]) = H12 at src12 eD eW eC s12 dq du ⊢
          have g3' := hid_get eD
          have hW : isW w = true := f5.ok w (List.mem_append.mpr (.inr (List.mem_singleton.mpr rfl)))
          have hC : isW col = true := (gc.all col hcol).1
          refine ⟨D, _, _, rfl, rfl, g3'.2.2, ?_, ⟨_, _, rfl⟩, srcAt_upd src12 g3'.1 g3'.2.1, ?_, ?_, rest', ss ++ [(w, col, bs)], vs ++ [.ref u], ?_, ?_, ?_, f5.more ⟨hW, hC, fun b hb => (gc.all b (g3 b hb)).1, (by show bs.length ≤ 100; omega)⟩ (by show bs.length ≤ 4; omega), by rw [List.length_append, f6]; rfl⟩
          · rw [f4.len, List.length_map, f6]
            exact hh (by omega)
          · rw [hid_upd g3'.1 g3'.2.1]
            exact Same.over s12 nD0
          · rw [hid_upd g3'.1 g3'.2.1, upd_ne nDC.symm]
            exact eC
          · rw [hid_upd g3'.1 g3'.2.1, upd_ne nDW.symm]
            exact eW
          · rw [hid_upd g3'.1 g3'.2.1, upd_same]
          · rw [hid_upd g3'.1 g3'.2.1]
            exact grow eD dq du
      · clear f1 f2 f3 f4 f5 f6 s4 src4 src5 el5 e5 r0 r1
        rintro σ H6 ⟨⟨v5, v6, rfl⟩, src6, s6, f1, rest, ss, vs, f2, f3, f4, f5, f6⟩
        refine ⟨_, rfl, _, rfl, d, c, D, vs, rfl, src6, .inl (.inl f3), by rw [f4.len, List.length_map]; omega, fun p ys H7 src7 s7 np ep pm => ?_⟩
        obtain ⟨tt, pt, dt⟩ := dq_perm pm.symm (DqAll.same s7 f4)
        have npH : H p = none := by
          have q := s6.free (hid_none (d := d) (c := c) np)
          have pn := hid_get ep
          unfold hid at q
          rw [if_neg (fun y => y.elim pn.1 pn.2.1)] at q
          exact q
        exact k p ys tt H7 src7 (s6.trans s7) npH ep dt ((f5.good (by omega)).perm pt)
end
end Bc

namespace Bc
open PySem PySem.Spec PyProof.Rows L2
abbrev poolW : List Str := ["root", "a", "b", "shape", "joint", "hang", "abcdefghijkl"]
abbrev poolV : List V := [.str "root", .str "a", .str "b", .str "shape", .str "joint", .str "hang", .str "abcdefghijkl"]
theorem perm_strs (K : PySem.W.Frag) {ys : List V} {l : List Str} (p : ys.Perm (l.map V.str)) : ∃ l' : List Str, l'.Perm l ∧ ys = l'.map V.str := by
  obtain ⟨l', h1, h2⟩ := dq_perm (K := K) (G := fun _ => none) (f := PyData.str) p.symm (ss := l) (strs_dq l)
  exact ⟨l', h1, dq_strs h2⟩
theorem cut_take {vs : List V} {k : Nat} (h : k ≤ vs.length) : cutV vs none (some (k : Int)) = vs.take k := by
  unfold cutV
  rw [HT.sIx_none, HT.sIx_nat, List.drop_zero, Nat.min_eq_left h, Nat.sub_zero]
abbrev nDrawnS : List Str := ["_law_source_here", "_law_pool", "_law_found", "_law_word", "_law_branches", "_law_lap"]
theorem scDrawnS : FnScope nDrawnS ["_law_source_here"] (defScope sDrawnS) := ⟨rfl, rfl, rfl, by decide +kernel, rfl, by decide +kernel, by decide +kernel⟩
def spDrawnS (K : PySem.W.Frag) : Sp := fun vs H Q _ => ∃ (d c : Addr), vs = [.ref d] ∧ SrcAt H d c ∧
  ∀ (p : Addr) (xs : List V) (ss : List Shp) (H' : Hp), SrcAt H' d c → Same (hid d c H) (hid d c H') → H p = none → (hid d c H') p = some (.lst xs) → DqAll K (hid d c H') xs (ss.map dShape) → GoodShapes ss → Q (.ref p) H'
section
variable {P : Program} {w : World} {K : PySem.W.Frag} {mg : Str → Option Value} {base : Heap}
theorem ok_drawnS {f fP fS fO fM : Addr} {fd fdP fdS fdO fdM : FuncData} (F : Fun K "_law_drawn_shapes" "_law_drawn_shapes" sDrawnS f fd) (N : Nm mg) (T : Wt mg)
    (GP : FnOk P w K mg base CX0 1 fP fdP ["_law_source_here", "_law_many"] spPick) (bP : Binds K fdP ["_law_source_here", "_law_many"] []) (gP : mg "_law_pick" = some (.ref fP)) (kP : PySem.W.keepIn K (.ref fP) = true)
    (GS : FnOk P w K mg base CX0 3 fS fdS ["_law_source_here", "_law_most"] (spShapes K)) (bS : Binds K fdS ["_law_source_here", "_law_most"] []) (gS : mg "_law_shapes" = some (.ref fS)) (kS : PySem.W.keepIn K (.ref fS) = true)
    (GO : FnOk P w K mg base CX0 2 fO fdO ["_law_source_here", "_law_some"] (spOf K)) (bO : Binds K fdO ["_law_source_here", "_law_some"] []) (gO : mg "_law_of" = some (.ref fO)) (kO : PySem.W.keepIn K (.ref fO) = true)
    (GM : FnOk P w K mg base CX0 2 fM fdM ["_law_source_here", "_law_things"] (spMixed K)) (bM : Binds K fdM ["_law_source_here", "_law_things"] []) (gM : mg "_law_mixed" = some (.ref fM)) (kM : PySem.W.keepIn K (.ref fM) = true) : FnOk P w K mg base CX0 4 f fd ["_law_source_here"] (spDrawnS K) := by
  refine F.ok scDrawnS (fun vs H Q E h => ?_) (fun cdv A outer s H vs Q E hr h => ?_)
  · obtain ⟨d, c, rfl, _⟩ := h
    rfl
  · obtain ⟨d, c, rfl, src, k⟩ := h
    have hr1 : Room 1 _ := hr.mono (by decide)
    have hr2 : Room 2 _ := hr.mono (by decide)
    refine ⟨_, pss_cons (ps_if (pt_cmpR op_gt (pe_call GP hr1 (by rfl) gP kP bP .nil pass0 (pa_cons (pv 0) (pa_cons pe_int pa_nil))) pe_int (nomark _)) (pss_one (ps_ret (pe_call GS hr (by rfl) gS kS bS .nil pass0 (pa_cons (pv 0) (pa_cons pe_int pa_nil))))) pss_nil)
      (pss_cons (ps_asg (pe_tup (pa_cons (pe_lst (pa_cons pe_str (pa_cons pe_str (pa_cons pe_str (pa_cons pe_str (pa_cons pe_str (pa_cons pe_str (pa_cons pe_str pa_nil)))))))) (pa_cons (pe_lst pa_nil) pa_nil)))
          (pg_tup rfl (pgs_cons (pg_name (i := 1) scDrawnS.nd rfl (.inr rfl)) (pgs_cons (pg_name (i := 2) scDrawnS.nd rfl (.inl rfl)) pgs_nil))))
      (pss_cons (ps_for PassesOwn.never rfl (pi_list (pe_slice sl_list (pe_call GM hr2 (by rfl) gM kM bM .nil pass0 (pa_cons (pv 0) (pa_cons (pv 1) pa_nil))) po_none (po_some (pe_call GP hr1 (by rfl) gP kP bP .nil pass0 (pa_cons (pv 0) (pa_cons pe_int pa_nil)))))) (pg_name (i := 3) scDrawnS.nd rfl (.inl rfl))
        (pss_cons (ps_set (i := 4) scDrawnS.nd rfl (.inl rfl) (pe_tupleOf (by rfl) T.tup (pe_lc (own := [("_law_lap", 5)]) (g := gName 5) (tt := tYes) (by rfl) scDrawnS.nd (pi_range1 (by rfl) N.rng (pa_cons (pe_call GP hr1 (by rfl) gP kP bP .nil pass0 (pa_cons (pv 0) (pa_cons pe_int pa_nil))) pa_nil)) (blkOk_by (own := [("_law_lap", 5)]) (N := nDrawnS) (sc := defScope sDrawnS) (by decide +kernel))
            (fun _ _ _ _ _ => pg_name (i := 5) scDrawnS.nd rfl (.inl rfl)) (fun _ _ _ _ _ => pts_nil)
            (fun _ _ _ _ _ => pe_call GO hr2 (by rfl) gO kO bO .nil pass0 (pa_cons (pv 0) (pa_cons (pv 1) pa_nil))))))
        (pss_one (ps_expr (pe_bm PySem.F.plainAttrs_list PySem.F.slot_list_append PySem.F.type_list_append mt_append (pv 2) (pa_cons (pe_tup (pa_cons (pv 3) (pa_cons (pe_call GO hr2 (by rfl) gO kO bO .nil pass0 (pa_cons (pv 0) (pa_cons (pv 1) pa_nil))) (pa_cons (pv 4) pa_nil)))) pa_nil))))))
      (pss_one (ps_ret (pv 2))))), ?_⟩
    have hh : ∀ {n : Nat}, n ≤ 1000 → n < sizeLine := fun {n} h => small1000 h
    refine ⟨_, rfl, d, c, 3, rfl, src, by decide, by decide, fun r H1 r0 r1 src1 el1 => ?_⟩
    refine ⟨_, _, rfl, rfl, _, rfl, ?_⟩
    have e1 := hid_else el1
    refine ite2 (fun h1 => ?_) (fun h1 => ?_)
    · refine ⟨_, rfl, d, c, rfl, src1, fun p xs ss H2 src2 s2 np ep dq g => ?_⟩
      rw [e1] at s2
      have pn := hid_get ep
      exact k p xs ss H2 src2 s2 (by rw [← el1 p pn.1 pn.2.1]; exact np) ep dq g
    refine ⟨(by show 7 ≤ sizeLine; decide), fun L hL => ⟨Nat.zero_le _, fun D hD => ⟨(by show 2 ≤ sizeLine; decide), fun tp htp => ⟨tp, _, rfl, .inl (.inl upd_same), rfl, _, _, rfl, _, _, rfl, rfl, ?_⟩⟩⟩⟩
    have sL := hid_up (d := d) (c := c) (same_new (o := .lst poolV) hL)
    obtain ⟨l1, l2, eL⟩ := hid_new (o := .lst poolV) src1 hL
    have srcL := src1.up (same_new (o := .lst poolV) hL)
    obtain ⟨d1, d2, eD⟩ := hid_new (o := .lst []) srcL hD
    have sD := hid_up (d := d) (c := c) (same_new (o := .lst []) hD)
    have sT := hid_up (d := d) (c := c) (same_new (o := .tup [.ref L, .ref D]) htp)
    have srcT := (srcL.up (same_new (o := .lst []) hD)).up (same_new (o := .tup [.ref L, .ref D]) htp)
    have eLT := sT _ _ (sD _ _ eL)
    have eDT := sT _ _ eD
    have nLD : L ≠ D := fun e => by
      rw [← e, upd_same] at hD
      cases hD
    have hD1 : hid d c H D = none := by
      rw [← e1]
      exact sL.free (hid_none hD)
    have s0 : Same (hid d c H) (hid d c (upd (upd (upd H1 L (.lst poolV)) D (.lst [])) tp (.tup [.ref L, .ref D]))) := by
      rw [← e1]
      exact sL.trans (sD.trans sT)
    have hDn : H D = none := by
      have q := hD1
      unfold hid at q
      rw [if_neg (fun y => y.elim d1 d2)] at q
      exact q
    generalize upd (upd (upd H1 L (.lst poolV)) D (.lst [])) tp (.tup [.ref L, .ref D]) = HT at srcT eLT eDT s0 ⊢
    refine ⟨_, rfl, _, rfl, d, c, L, poolW.map V.str, rfl, srcT, .inl (.inl eLT), by decide, fun M ys H2 src2 s2 nM eM pm => ?_⟩
    obtain ⟨ws, pw, rfl⟩ := perm_strs K pm
    refine ⟨_, rfl, d, c, 6, rfl, src2, by decide, by decide, fun r H3 r0 r1 src3 el3 => ?_⟩
    obtain ⟨rn, rfl⟩ : ∃ n : Nat, r = (n : Int) := ⟨r.toNat, by omega⟩
    have hrn : rn < 6 := by
      have : max (1 : Int) 6 = 6 := by decide
      omega
    have e3 := hid_else el3
    have lws : ws.length = 7 := pw.length_eq
    rw [← e3] at eM s2
    refine ⟨_, rfl, M, _, rfl, .inl (.inl (hid_get eM).2.2), fun S hS => ?_⟩
    rw [cut_take (by rw [List.length_map]; omega), ← List.map_take]
    obtain ⟨k1, k2, eS⟩ := hid_new (o := .lst ((ws.take rn).map V.str)) src3 hS
    have sS := hid_up (d := d) (c := c) (same_new (o := .lst ((ws.take rn).map V.str)) hS)
    have srcS := src3.up (same_new (o := .lst ((ws.take rn).map V.str)) hS)
    have s4 := s0.trans (s2.trans sS)
    have eL4 := sS _ _ (s2 _ _ eLT)
    have eD4 := sS _ _ (s2 _ _ eDT)
    generalize upd H3 S (.lst ((ws.take rn).map V.str)) = H4 at eS srcS s4 eL4 eD4 ⊢
    have wok : ∀ x ∈ ws, isW x = true := fun x hx => List.all_eq_true.mp (show (poolW.all isW) = true by decide +kernel) x (pw.mem_iff.mp hx)
    have pok : ∀ x ∈ poolW, isW x = true := fun x hx => List.all_eq_true.mp (show (poolW.all isW) = true by decide +kernel) x hx
    have wnd : ws.Nodup := pw.nodup_iff.mpr (by decide +kernel)
    have nSD : S ≠ D := fun e => by
      have g := (hid_get (s2 _ _ eDT)).2.2
      rw [← e, hS] at g
      cases g
    have gS0 := hid_get eS
    refine ⟨S, rfl, ⟨_, .inl (.inl gS0.2.2)⟩, for_list (K := K) (a := S) (xs := (ws.take rn).map V.str) (fun i σ H' => (∃ v3 v4, σ = [some (.ref d), some (.ref L), some (.ref D), v3, v4, none]) ∧ SrcAt H' d c ∧ Same (hid d c H) (hid d c H') ∧ (hid d c H') L = some (.lst (poolW.map V.str)) ∧ (hid d c H') S = some (.lst ((ws.take rn).map V.str)) ∧
        ∃ ss vs, (hid d c H') D = some (.lst vs) ∧ DqAll K (hid d c H') vs (ss.map dShape) ∧ (∀ s ∈ ss, OkShape s ∧ s.2.2.length ≤ 4) ∧ wordsS ss = (ws.take rn).take i)
      ⟨⟨_, _, rfl⟩, srcS, s4, eL4, eS, [], [], eD4, .nil, (fun s h => by cases h), by rw [List.take_zero]; rfl⟩ (fun i σ H' _ h => .inl (.inl (hid_get h.2.2.2.2.1).2.2)) ?_ ?_⟩
    · rintro i x σ H6 hx ⟨⟨v3, v4, rfl⟩, src6, s6, f1, f2, ss, vs, f3, f4, f5, f6⟩
      obtain ⟨wd, hwd, rfl⟩ : ∃ r, (ws.take rn)[i]? = some r ∧ x = V.str r := by
        rw [List.getElem?_map] at hx
        cases e : (ws.take rn)[i]? with
        | none =>
          rw [e] at hx
          cases hx
        | some r =>
          rw [e] at hx
          exact ⟨r, rfl, (Option.some.inj hx).symm⟩
      have il : i < (ws.take rn).length := (List.getElem?_eq_some_iff.mp hwd).1
      have il6 : i < 6 := by
        rw [List.length_take] at il
        omega
      have lss : ss.length = i := by
        have q := congrArg List.length f6
        rw [List.length_take, show (wordsS ss).length = ss.length from List.length_map ..] at q
        omega
      have hW : isW wd = true := wok wd (List.mem_of_mem_take (List.mem_of_getElem? hwd))
      -- the branches
      refine ⟨_, rfl, d, c, 5, rfl, src6, by decide, by decide, fun x H7 x0 x1 src7 el7 => ?_⟩
      obtain ⟨bn, rfl⟩ : ∃ n : Nat, x = (n : Int) := ⟨x.toNat, by omega⟩
      have hbn : bn < 5 := by
        have : max (1 : Int) 5 = 5 := by decide
        omega
      have e7 := hid_else el7
      rw [← e7] at s6 f1 f2 f3 f4
      refine ⟨(bn : Int), rfl, by omega, by omega, fun D2 hD2 => ?_⟩
      obtain ⟨b1, b2, eD2⟩ := hid_new (o := .lst []) src7 hD2
      have sD2 := hid_up (d := d) (c := c) (same_new (o := .lst []) hD2)
      have gD20 := hid_none (d := d) (c := c) hD2
      refine lc_range (lo := 0) (n := bn) (fun i H' => SrcAt H' d c ∧ Same (hid d c H7) (hid d c H') ∧ ∃ bs : List Str, (hid d c H') D2 = some (.lst (bs.map V.str)) ∧ bs.length = i ∧ ∀ b ∈ bs, b ∈ poolW)
        ⟨src7.up (same_new hD2), sD2, [], eD2, rfl, (fun b h => by cases h)⟩ ?_ ?_
      · rintro j H8 hj ⟨src8, s8, bs, g1, g2, g3⟩
        refine ⟨rfl, lc_yes ?_⟩
        refine ⟨_, rfl, _, rfl, d, c, L, poolW.map V.str, rfl, src8, .inl (.inl (s8 _ _ f1)), by decide, by decide, fun v H9 hv src9 el9 => ?_⟩
        obtain ⟨b, hb, rfl⟩ := List.mem_map.mp hv
        have e9 := hid_else el9
        rw [← e9] at s8 g1
        have gg := hid_get g1
        refine ⟨_, gg.2.2, ?_, srcAt_upd src9 gg.1 gg.2.1, ?_, bs ++ [b], ?_, by rw [List.length_append, g2]; rfl, fun y hy => ?_⟩
        · rw [List.length_map, g2]
          exact hh (by omega)
        · rw [hid_upd gg.1 gg.2.1]
          exact Same.over s8 gD20
        · rw [hid_upd gg.1 gg.2.1, upd_same, List.map_append]
          rfl
        · rcases List.mem_append.mp hy with hy | hy
          · exact g3 y hy
          · rw [List.mem_singleton.mp hy]
            exact hb
      · rintro H8 ⟨src8, s8, bs, g1, g2, g3⟩
        have gg := hid_get g1
        refine .inl ⟨D2, _, rfl, .inl (.inl gg.2.2), fun q hq => ?_⟩
        obtain ⟨q1, q2, eq⟩ := hid_new (o := .tup (bs.map V.str)) src8 hq
        have sq := hid_up (d := d) (c := c) (same_new (o := .tup (bs.map V.str)) hq)
        have src9 := src8.up (same_new (o := .tup (bs.map V.str)) hq)
        have s9 := s8.trans sq
        have f1 := s9 _ _ f1
        have f2 := s9 _ _ f2
        have f3 := s9 _ _ f3
        have f4 := DqAll.same s9 f4
        have s6 := s6.trans s9
        generalize upd H8 q (.tup (bs.map V.str)) = H9 at src9 f1 f2 f3 f4 s6 eq ⊢
        clear sq s9 gg g1 s8 src8 hq eD2 sD2 gD20 hD2
        have gD := hid_get f3
        refine ⟨_, rfl, .inl ⟨rfl, _, .inl (.inl gD.2.2)⟩, ?_⟩
        refine ⟨_, rfl, ?_⟩
        refine ⟨_, rfl, _, rfl, d, c, L, poolW.map V.str, rfl, src9, .inl (.inl f1), by decide, by decide, fun v H11 hv src11 el11 => ?_⟩
        obtain ⟨col, hcol, rfl⟩ := List.mem_map.mp hv
        have e11 := hid_else el11
        rw [← e11] at f1 f2 f3 f4 s6 eq
        refine ⟨_, rfl, (by show 3 ≤ sizeLine; decide), fun u hu => ?_⟩
        obtain ⟨u1, u2, eu⟩ := hid_new (o := .tup [.str wd, .str col, .ref q]) src11 hu
        have su := hid_up (d := d) (c := c) (same_new (o := .tup [.str wd, .str col, .ref q]) hu)
        have src12 := src11.up (same_new (o := .tup [.str wd, .str col, .ref q]) hu)
        have f1 := su _ _ f1
        have f2 := su _ _ f2
        have f3 := su _ _ f3
        have f4 := DqAll.same su f4
        have s6 := s6.trans su
        have eq := su _ _ eq
        have du : Dq K (hid d c (upd H11 u (.tup [.str wd, .str col, .ref q]))) (.ref u) (dShape (wd, col, bs)) := .tup (xs := [.str wd, .str col, .ref q]) (.inl (.inl eu)) (.cons (.str _) (.cons (.str _) (.cons (.tup (xs := bs.map V.str) (.inl (.inl eq)) (strs_dq _)) .nil)))
        generalize upd H11 u (.tup [.str wd, .str col, .ref q]) = H12 at src12 f1 f2 f3 f4 s6 du ⊢
        have g3' := hid_get f3
        have nLD : L ≠ D := fun e => by
          rw [e, f3] at f1
          have := hid_get eD4
          exact nLD e
        refine ⟨D, _, _, rfl, rfl, g3'.2.2, ?_, ⟨_, _, rfl⟩, srcAt_upd src12 g3'.1 g3'.2.1, ?_, ?_, ?_, ss ++ [(wd, col, bs)], vs ++ [.ref u], ?_, ?_, fun s hs => ?_, ?_⟩
        · rw [f4.len, List.length_map, lss]
          exact hh (by omega)
        · rw [hid_upd g3'.1 g3'.2.1]
          exact Same.over s6 hD1
        · rw [hid_upd g3'.1 g3'.2.1, upd_ne nLD]
          exact f1
        · rw [hid_upd g3'.1 g3'.2.1, upd_ne nSD]
          exact f2
        · rw [hid_upd g3'.1 g3'.2.1, upd_same]
        · rw [hid_upd g3'.1 g3'.2.1]
          exact grow f3 f4 du
        · rcases List.mem_append.mp hs with hs | hs
          · exact f5 s hs
          · rw [List.mem_singleton.mp hs]
            exact ⟨⟨hW, pok col hcol, fun b hb => pok b (g3 b hb), (by show bs.length ≤ 100; omega)⟩, (by show bs.length ≤ 4; omega)⟩
        · rw [show wordsS (ss ++ [(wd, col, bs)]) = wordsS ss ++ [wd] by unfold wordsS; rw [List.map_append]; rfl, f6, List.take_add_one, hwd]
          rfl
    · rintro σ H6 ⟨⟨v3, v4, rfl⟩, src6, s6, f1, f2, ss, vs, f3, f4, f5, f6⟩
      rw [List.length_map, List.take_length] at f6
      refine ⟨_, rfl, k D vs ss H6 src6 s6 hDn f3 f4 ⟨f5, ?_, ?_⟩⟩
      · rw [f6]
        exact wnd.sublist (List.take_sublist _ _)
      · have q := congrArg List.length f6
        rw [List.length_take, show (wordsS ss).length = ss.length from List.length_map ..] at q
        omega
end
end Bc

namespace Bc
open PySem PySem.Spec PyProof.Rows L2
abbrev nameW : List Str := ["a", "b", "shape", "joint", "hang", "bag", "j1", "abcdefghijkl"]
abbrev nameV : List V := [.str "a", .str "b", .str "shape", .str "joint", .str "hang", .str "bag", .str "j1", .str "abcdefghijkl"]
abbrev nDrawnJ : List Str := ["_law_source_here", "_law_shapes_here", "_law_names_here", "_law_found", "_law_lap"]
theorem scDrawnJ : FnScope nDrawnJ ["_law_source_here", "_law_shapes_here"] (defScope sDrawnJ) := ⟨rfl, rfl, rfl, by decide +kernel, rfl, by decide +kernel, by decide +kernel⟩
structure GoodJoints (ws : List Str) (js : List Jnt) : Prop where
  name : ∀ j ∈ js, isW j.1 = true ∧ j.1 ≠ "root"
  word : ∀ j ∈ js, isW j.2 = true ∧ j.2 ∈ ws
  nd : (namesJ js).Nodup
  ln : js.length ≤ 5
theorem GoodJoints.bag {ws : List Str} {js : List Jnt} (g : GoodJoints ws js) : OkBag ws js := ⟨g.name, g.word, g.nd, Nat.le_trans g.ln (by decide)⟩
/-- the joints so far, and the names that are left -/
structure JnSt (ws : List Str) (js : List Jnt) (rest : List Str) : Prop where
  name : ∀ j ∈ js, isW j.1 = true ∧ j.1 ≠ "root"
  word : ∀ j ∈ js, isW j.2 = true ∧ j.2 ∈ ws
  nd : (namesJ js ++ rest).Nodup
  ok : ∀ w ∈ rest, drawnName w
  cnt : rest.length + js.length = 8
theorem JnSt.more {ws : List Str} {js : List Jnt} {rest : List Str} {j : Jnt} (h : JnSt ws js (rest ++ [j.1])) (h1 : isW j.2 = true ∧ j.2 ∈ ws) : JnSt ws (js ++ [j]) rest := by
  have hj := h.ok j.1 (List.mem_append.mpr (.inr (List.mem_singleton.mpr rfl)))
  refine ⟨fun x hx => ?_, fun x hx => ?_, ?_, fun w hw => h.ok w (List.mem_append.mpr (.inl hw)), ?_⟩
  · rcases List.mem_append.mp hx with hx | hx
    · exact h.name x hx
    · rw [List.mem_singleton.mp hx]
      exact hj
  · rcases List.mem_append.mp hx with hx | hx
    · exact h.word x hx
    · rw [List.mem_singleton.mp hx]
      exact h1
  · have e : namesJ (js ++ [j]) = namesJ js ++ [j.1] := by
      unfold namesJ
      rw [List.map_append]
      rfl
    rw [e, List.append_assoc]
    refine (List.Perm.nodup_iff (List.Perm.append_left _ ?_)).mpr h.nd
    exact List.perm_append_comm
  · have := h.cnt
    rw [List.length_append] at this ⊢
    have e1 : ([j.1] : List Str).length = 1 := rfl
    have e2 : ([j] : List Jnt).length = 1 := rfl
    omega
theorem JnSt.good {ws : List Str} {js : List Jnt} {rest : List Str} (h : JnSt ws js rest) (n : js.length ≤ 5) : GoodJoints ws js := ⟨h.name, h.word, (List.nodup_append.mp h.nd).1, n⟩
def spDrawnJ (K : PySem.W.Frag) : Sp := fun vs H Q _ => ∃ (d c l : Addr) (xs : List V) (ss : List Shp), vs = [.ref d, .ref l] ∧ SrcAt H d c ∧ SqL K (hid d c H) l xs ∧ DqAll K (hid d c H) xs (ss.map dShape) ∧ GoodShapes ss ∧
  ∀ (p : Addr) (ys : List V) (js : List Jnt) (H' : Hp), SrcAt H' d c → Same (hid d c H) (hid d c H') → H p = none → (hid d c H') p = some (.lst ys) → DqAll K (hid d c H') ys (js.map dJoint) → GoodJoints (wordsS ss) js → Q (.ref p) H'
theorem joint_keep {K : PySem.W.Frag} {G G' : Hp} (t : TK K G G') {v : V} {j : Jnt} (h : Dq K G v (dJoint j)) : Dq K G' v (dJoint j) := by
  obtain ⟨a, rfl, h1⟩ := joint_inv h
  exact .tup (t _ _ h1) (.cons (.str _) (.cons (.str _) .nil))
theorem joints_keep {K : PySem.W.Frag} {G G' : Hp} (t : TK K G G') : ∀ {vs : List V} (js : List Jnt), DqAll K G vs (js.map dJoint) → DqAll K G' vs (js.map dJoint)
  | _, [], h => by
    cases h.nil_inv
    exact .nil
  | _, s :: ss, h => by
    rw [List.map_cons] at h ⊢
    obtain ⟨v, _, rfl, h1, h2⟩ := h.cons_inv
    exact .cons (joint_keep t h1) (joints_keep t ss h2)
theorem growJ {K : PySem.W.Frag} {G : Hp} {D u : Addr} {vs : List V} {js : List Jnt} {j : Jnt} (e : G D = some (.lst vs)) (dq : DqAll K G vs (js.map dJoint)) (du : Dq K G (.ref u) (dJoint j)) : DqAll K (upd G D (.lst (vs ++ [.ref u]))) (vs ++ [.ref u]) ((js ++ [j]).map dJoint) := by
  rw [List.map_append]
  exact DqAll.snoc' (joints_keep (TK.put e) js dq) (joint_keep (TK.put e) du)
def NmOk (rs : List Str) : Prop := (∀ w ∈ rs, drawnName w) ∧ rs.Nodup ∧ rs.length = 8
def tNames (d c : Addr) : TS := fun E σ H => ∃ (l N D : Addr) (v4 : Option V) (ns : List Str), σ = [some (.ref d), some (.ref l), some (.ref N), some (.ref D), v4] ∧ SrcAt H d c ∧ (hid d c H) D = some (.lst []) ∧ (hid d c H) N = some (.lst (ns.map V.str)) ∧ NmOk ns ∧ N ≠ D ∧
  ∀ (N' : Addr) (rs : List Str) (H' : Hp), NmOk rs → SrcAt H' d c → Same (hid d c H) (hid d c H') → (hid d c H') N' = some (.lst (rs.map V.str)) → N' ≠ D → (N' = N ∨ hid d c H N' = none) → E.nx [some (.ref d), some (.ref l), some (.ref N'), some (.ref D), v4] H'
theorem nameW_ok : NmOk nameW := ⟨fun w hw => by
  have q := List.all_eq_true.mp (show (nameW.all fun w => isW w && decide (w ≠ "root")) = true by decide +kernel) w hw
  simp only [Bool.and_eq_true, decide_eq_true_eq] at q
  exact q, by decide +kernel, rfl⟩
theorem NmOk.perm {ws rs : List Str} (h : NmOk rs) (p : ws.Perm rs) : NmOk ws := ⟨fun w hw => h.1 w (p.mem_iff.mp hw), p.nodup_iff.mpr h.2.1, by rw [p.length_eq]; exact h.2.2⟩
section
variable {P : Program} {w : World} {K : PySem.W.Frag} {mg : Str → Option Value} {base : Heap}
theorem ok_drawnJ {f fP fN fO fM : Addr} {fd fdP fdN fdO fdM : FuncData} (F : Fun K "_law_drawn_joints" "_law_drawn_joints" sDrawnJ f fd) (B : Blt mg) (N : Nm mg)
    (GP : FnOk P w K mg base CX0 1 fP fdP ["_law_source_here", "_law_many"] spPick) (bP : Binds K fdP ["_law_source_here", "_law_many"] []) (gP : mg "_law_pick" = some (.ref fP)) (kP : PySem.W.keepIn K (.ref fP) = true)
    (GN : FnOk P w K mg base CX0 2 fN fdN ["_law_source_here", "_law_many"] spNames) (bN : Binds K fdN ["_law_source_here", "_law_many"] []) (gN : mg "_law_names" = some (.ref fN)) (kN : PySem.W.keepIn K (.ref fN) = true)
    (GO : FnOk P w K mg base CX0 2 fO fdO ["_law_source_here", "_law_some"] (spOf K)) (bO : Binds K fdO ["_law_source_here", "_law_some"] []) (gO : mg "_law_of" = some (.ref fO)) (kO : PySem.W.keepIn K (.ref fO) = true)
    (GM : FnOk P w K mg base CX0 2 fM fdM ["_law_source_here", "_law_things"] (spMixed K)) (bM : Binds K fdM ["_law_source_here", "_law_things"] []) (gM : mg "_law_mixed" = some (.ref fM)) (kM : PySem.W.keepIn K (.ref fM) = true) : FnOk P w K mg base CX0 3 f fd ["_law_source_here", "_law_shapes_here"] (spDrawnJ K) := by
  refine F.ok scDrawnJ (fun vs H Q E h => ?_) (fun cdv A outer s H vs Q E hr h => ?_)
  · obtain ⟨d, c, l, xs, ss, rfl, _⟩ := h
    rfl
  · obtain ⟨d, c, l, xs, ss, rfl, src, hl, hx, gs, k⟩ := h
    have hr1 : Room 1 _ := hr.mono (by decide)
    refine ⟨_, pss_cons (ps_par (i := 2) (j := 3) rfl scDrawnJ.nd rfl rfl (by decide) rfl rfl (pa_cons (pe_call GN hr (by rfl) gN kN bN .nil pass0 (pa_cons (pv 0) (pa_cons pe_int pa_nil))) (pa_cons (pe_lst pa_nil) pa_nil)) rfl)
      (pss_cons (PS.imp (t' := tNames d c) (ps_if (pt_cmpR op_eq (pe_call GP hr1 (by rfl) gP kP bP .nil pass0 (pa_cons (pv 0) (pa_cons pe_int pa_nil))) pe_int (nomark _))
          (pss_one (ps_set (i := 2) scDrawnJ.nd rfl (.inl rfl) (pe_call GM hr (by rfl) gM kM bM .nil pass0 (pa_cons (pv 0) (pa_cons (pe_lst (pa_cons pe_str (pa_cons pe_str (pa_cons pe_str (pa_cons pe_str (pa_cons pe_str (pa_cons pe_str (pa_cons pe_str (pa_cons pe_str pa_nil))))))))) pa_nil))))) pss_nil) (fun E1 σ H0 h => by
            obtain ⟨l, Na, D, v4, ns, rfl, src, gD, gN, ok, ne, q⟩ := h
            refine ⟨_, rfl, d, c, 3, rfl, src, by decide, by decide, fun r H1 r0 r1 src1 el1 => ?_⟩
            have e1 := hid_else el1
            refine ⟨rfl, _, rfl, ?_⟩
            refine ite2 (fun _ => ?_) (fun _ => q Na ns H1 ok src1 (by rw [e1]; exact Same.refl _) (by rw [e1]; exact gN) ne (.inl rfl))
            refine ⟨_, rfl, (by show 8 ≤ sizeLine; decide), fun L hL => ?_⟩
            obtain ⟨l1, l2, eL⟩ := hid_new (o := .lst nameV) src1 hL
            have sL := hid_up (d := d) (c := c) (same_new (o := .lst nameV) hL)
            refine ⟨d, c, L, nameV, rfl, src1.up (same_new hL), .inl (.inl eL), by decide, fun M ys H2 src2 s2 nM eM pm => ?_⟩
            obtain ⟨ws, pw, rfl⟩ := perm_strs K (l := nameW) pm
            have s3 : Same (hid d c H0) (hid d c H2) := by
              rw [← e1]
              exact sL.trans s2
            have nM0 : hid d c H0 M = none := by
              rw [← e1]
              exact sL.free (hid_none nM)
            exact q M ws H2 (nameW_ok.perm pw) src2 s3 eM (fun e => by rw [e, gD] at nM0; cases nM0) (.inr nM0)))
      (pss_cons (ps_for PassesOwn.never rfl (pi_range1 (by rfl) N.rng (pa_cons (pe_op op_mul (pe_call GP hr1 (by rfl) gP kP bP .nil pass0 (pa_cons (pv 0) (pa_cons pe_int pa_nil))) (pe_callTy call_int1 (by rfl) B.int (by decide +kernel) (pa_cons (pe_cmpR op_gt (pe_callB call_len (by rfl) B.len (by decide +kernel) (pa_cons (pv 1) pa_nil)) pe_int (nomark _)) pa_nil))) pa_nil)) (pg_name (i := 4) scDrawnJ.nd rfl (.inl rfl))
        (pss_one (ps_expr (pe_bm PySem.F.plainAttrs_list PySem.F.slot_list_append PySem.F.type_list_append mt_append (pv 3) (pa_cons (pe_tup (pa_cons (pe_bm0 PySem.F.plainAttrs_list PySem.F.slot_list_pop PySem.F.type_list_pop mt_pop (pv 2))
            (pa_cons (pe_ix ix_tup (pe_call GO hr (by rfl) gO kO bO .nil pass0 (pa_cons (pv 0) (pa_cons (pv 1) pa_nil))) pe_int (fun _ _ => rfl)) pa_nil))) pa_nil)))))
      (pss_one (ps_ret (pv 3))))), ?_⟩
    have hh : ∀ {n : Nat}, n ≤ 1000 → n < sizeLine := fun {n} h => small1000 h
    refine ⟨_, rfl, d, c, 8, rfl, src, by decide, fun Na ws H1 src1 s1 nN eN gn ln => ?_⟩
    refine ⟨Nat.zero_le _, fun D hD => ⟨_, _, rfl, ?_⟩⟩
    obtain ⟨d1, d2, eD⟩ := hid_new (o := .lst []) src1 hD
    have sD := hid_up (d := d) (c := c) (same_new (o := .lst []) hD)
    have hD0 : hid d c H D = none := s1.free (hid_none hD)
    have srcD := src1.up (same_new (o := .lst []) hD)
    have s1D := s1.trans sD
    have nND : Na ≠ D := ne_of_none (hid_get eN).2.2 hD
    have eN1 := sD _ _ eN
    have hN0 : hid d c H Na = none := hid_none nN
    generalize upd H1 D (.lst []) = HD at eD srcD s1D eN1 ⊢
    refine ⟨l, Na, D, none, ws, rfl, srcD, eD, eN1, ⟨gn.all, gn.nd, ln⟩, nND, fun N' rs H2 okN src2 s2 eN2 nN2 alt => ?_⟩
    have s02 := s1D.trans s2
    have eD2 := s2 _ _ eD
    have hN'0 : hid d c H N' = none := by
      rcases alt with e | e
      · rw [e]
        exact hN0
      · exact s1D.free e
    have hl2 := s02.seq hl
    have dx2 := DqAll.same s02 hx
    have lx : xs.length = ss.length := by rw [hx.len, List.length_map]
    refine ⟨_, rfl, d, c, 6, rfl, src2, by decide, by decide, fun r H3 r0 r1 src3 el3 => ?_⟩
    obtain ⟨rn, rfl⟩ : ∃ n : Nat, r = (n : Int) := ⟨r.toNat, by omega⟩
    have hrn : rn < 6 := by
      have : max (1 : Int) 6 = 6 := by decide
      omega
    have e3 := hid_else el3
    rw [← e3] at s02 eN2 eD2 hl2 dx2
    refine ⟨_, rfl, _, xs.length, rfl, .inl ⟨xs, hid_all.seq hl2, rfl⟩, _, _, rfl, rfl, .inr ⟨_, rfl, _, _, rfl, rfl, .inl ⟨by omega, by omega⟩, ?_⟩⟩
    have emul : ∃ m : Nat, m ≤ 5 ∧ (0 < m → 0 < xs.length) ∧ (rn : Int) * (if decide ((0 : Int) < (xs.length : Int)) = true then 1 else 0) = (m : Int) := by
      by_cases hz : 0 < xs.length
      · exact ⟨rn, by omega, fun _ => hz, by rw [if_pos (decide_eq_true (by omega))]; omega⟩
      · exact ⟨0, by omega, fun h => absurd h (by decide), by rw [if_neg (fun h => hz (by have := of_decide_eq_true h; omega))]; omega⟩
    obtain ⟨m, m5, mpos, em⟩ := emul
    refine ⟨(m : Int), ?_, by omega, by omega, for_range (lo := 0) (n := m) (fun i σ H' => (∃ v4, σ = [some (.ref d), some (.ref l), some (.ref N'), some (.ref D), v4]) ∧ SrcAt H' d c ∧ Same (hid d c H) (hid d c H') ∧ ∃ rest js vs, (hid d c H') N' = some (.lst (rest.map V.str)) ∧ (hid d c H') D = some (.lst vs) ∧ DqAll K (hid d c H') vs (js.map dJoint) ∧ JnSt (wordsS ss) js rest ∧ js.length = i)
      ⟨⟨_, rfl⟩, src3, s02, rs, [], [], eN2, eD2, .nil, ⟨(fun j h => by cases h), (fun j h => by cases h), okN.2.1, okN.1, by rw [okN.2.2]; rfl⟩, rfl⟩ ?_ ?_⟩
    · rw [← em]
    · rintro i σ H4 hi ⟨⟨v4, rfl⟩, src4, s4, rest, js, vs, f1, f2, f3, f4, f5⟩
      have gD := hid_get f2
      have gN := hid_get f1
      obtain ⟨rest', w, rfl⟩ := last_split (ws := rest) (fun e => by
        have := f4.cnt
        rw [e, f5] at this
        have : ([] : List Str).length = 0 := rfl
        omega)
      refine ⟨_, rfl, .inl ⟨rfl, _, .inl (.inl gD.2.2)⟩, ?_⟩
      refine ⟨_, rfl, .inl ⟨rfl, _, .inl (.inl gN.2.2)⟩, N', _, .str w, rfl, rfl, gN.2.2, last_of rest' w, ?_⟩
      rw [drop_of rest' w]
      have h1 := hid_upd (H := H4) (o := .lst (rest'.map V.str)) gN.1 gN.2.1
      have src5 := srcAt_upd (o := .lst (rest'.map V.str)) src4 gN.1 gN.2.1
      have kA : TK K (hid d c H4) (hid d c (upd H4 N' (.lst (rest'.map V.str)))) := by
        rw [h1]
        exact TK.put f1
      have eW : hid d c (upd H4 N' (.lst (rest'.map V.str))) N' = some (.lst (rest'.map V.str)) := by
        rw [h1]
        exact upd_same
      have eD : hid d c (upd H4 N' (.lst (rest'.map V.str))) D = some (.lst vs) := by
        rw [h1, upd_ne nN2.symm]
        exact f2
      have s5 : Same (hid d c H) (hid d c (upd H4 N' (.lst (rest'.map V.str)))) := by
        rw [h1]
        exact Same.over s4 hN'0
      have dq := joints_keep kA js f3
      generalize upd H4 N' (.lst (rest'.map V.str)) = H5 at src5 eW eD s5 dq ⊢
      refine ⟨_, rfl, _, rfl, d, c, l, xs, rfl, src5, s5.seq hl, mpos (by omega), by rw [lx]; have := gs.ln; omega, fun v H6 hv src6 el6 => ?_⟩
      obtain ⟨iv, hiv⟩ := List.getElem?_of_mem hv
      obtain ⟨sd, hsd, dqv⟩ := DqAll.get iv hx hiv
      obtain ⟨sh, hsh, rfl⟩ : ∃ sh, ss[iv]? = some sh ∧ sd = dShape sh := by
        rw [List.getElem?_map] at hsd
        cases e : ss[iv]? with
        | none =>
          rw [e] at hsd
          cases hsd
        | some b =>
          rw [e] at hsd
          exact ⟨b, rfl, (Option.some.inj hsd).symm⟩
      have sm := List.mem_of_getElem? hsh
      have e6 := hid_else el6
      rw [← e6] at eW eD s5 dq
      obtain ⟨sa, sb, rfl, hsa, hsb⟩ := shape_inv (Dq.same (s5.trans hid_all) dqv)
      refine ⟨sa, _, _, .str sh.1, rfl, rfl, hsa, L2.at_of (j := 0) rfl rfl, (by show 2 ≤ sizeLine; decide), fun u hu => ?_⟩
      obtain ⟨u1, u2, eu⟩ := hid_new (o := .tup [.str w, .str sh.1]) src6 hu
      have su := hid_up (d := d) (c := c) (same_new (o := .tup [.str w, .str sh.1]) hu)
      have src7 := src6.up (same_new (o := .tup [.str w, .str sh.1]) hu)
      have eD := su _ _ eD
      have eW := su _ _ eW
      have s7 := s5.trans su
      have dq := DqAll.same su dq
      have du : Dq K (hid d c (upd H6 u (.tup [.str w, .str sh.1]))) (.ref u) (dJoint (w, sh.1)) := .tup (xs := [.str w, .str sh.1]) (.inl (.inl eu)) (.cons (.str _) (.cons (.str _) .nil))
      generalize upd H6 u (.tup [.str w, .str sh.1]) = H7 at src7 eD eW s7 dq du ⊢
      have g3 := hid_get eD
      refine ⟨D, _, _, rfl, rfl, g3.2.2, ?_, ⟨_, rfl⟩, srcAt_upd src7 g3.1 g3.2.1, ?_, rest', js ++ [(w, sh.1)], vs ++ [.ref u], ?_, ?_, ?_, f4.more ⟨(gs.all sh sm).1.w, List.mem_map.mpr ⟨sh, sm, rfl⟩⟩, by rw [List.length_append, f5]; rfl⟩
      · rw [f3.len, List.length_map, f5]
        exact hh (by omega)
      · rw [hid_upd g3.1 g3.2.1]
        exact Same.over s7 hD0
      · rw [hid_upd g3.1 g3.2.1, upd_ne nN2]
        exact eW
      · rw [hid_upd g3.1 g3.2.1, upd_same]
      · rw [hid_upd g3.1 g3.2.1]
        exact growJ eD dq du
    · rintro σ H4 ⟨⟨v4, rfl⟩, src4, s4, rest, js, vs, f1, f2, f3, f4, f5⟩
      have hDn : H D = none := by
        have q := hD0
        unfold hid at q
        rw [if_neg (fun y => y.elim d1 d2)] at q
        exact q
      exact ⟨_, rfl, k D vs js H4 src4 s4 hDn f2 f3 (f4.good (by omega))⟩
end
end Bc

namespace Bc
open PySem PySem.Spec PyProof.Rows L2
/-! ### own errors above any base, raised -/
/-- what an own __init__ of one argument stores -/
def But1 (a : Addr) (H H' : Hp) : Prop := ∀ b o, H b = some o → b ≠ a → H' b = some o
def spIn1 (C : Addr) (f : Str) : Sp := fun vs H Q _ => ∃ (a : Addr) (v : V), vs = [.ref a, v] ∧ H a = some (exo a C none) ∧ ∀ dx, H dx = none → dx ≠ a → Q .non (upd (upd H dx (exd dx [(f, v)])) a (exo a C (some dx)))
theorem scUnk : FnScope ["self", "name"] ["self", "name"] (defScope sUnk) := ⟨rfl, rfl, rfl, by decide +kernel, rfl, by decide +kernel, by decide +kernel⟩
section
variable {P : Program} {w : World} {K : PySem.W.Frag} {mg : Str → Option Value} {base : Heap}
theorem ok_unk {f C : Addr} {fd : FuncData} (F : Fun K "__init__" "UnknownName.__init__" sUnk f fd) (T : XI K C f) (no : PySem.W.findIn K (.ref C) "name" = some none) : FnOk P w K mg base CX0 1 f fd ["self", "name"] (spIn1 C "name") := by
  refine F.ok scUnk (fun vs H Q E h => ?_) (fun cdv A outer s H vs Q E hr h => ?_)
  · obtain ⟨a, v, rfl, _⟩ := h
    rfl
  · obtain ⟨a, v, rfl, ha, k⟩ := h
    refine ⟨_, pss_one (ps_xst (pv 0) (pv 1)), ?_⟩
    exact ⟨_, rfl, _, rfl, a, C, f, rfl, T, no, .inl ⟨ha, fun dx n ne => k dx n ne⟩⟩
end
/-- what is made: the reading -/
def tMkR (C : Addr) (f : Str) (ta : TA) : L2.St → Hp → XK → Prop := fun σ H Q => ta σ H fun vs H1 => ∃ v, vs = [v] ∧ ∀ d a, H1 d = none → H1 a = none → Q (.ref C) (some d) (upd (del (upd (upd (upd H1 a (exo a C none)) d (exd d [(f, v)])) a (exo a C (some d))) a) d (.xd [(f, v)]))
section
variable {X : Cx}
theorem pmk_one {x f : Str} {C fI : Addr} {k : Nat} {fd : FuncData} {ps : List Str} {e : Expr} {ta : TA} {p pos : Pos} (T : XI X.K C fI) (tyC : PySem.W.typeIn X.K (.ref C) = some (.type "type")) (exC : PySem.W.subIn X.K (.ref C) (.type "BaseException") = some true)
    (F1 : FnOk X.prog X.w X.K X.mg X.base CX0 k fI fd ps (spIn1 C f)) (hr : Room (k + 1) X.A) (hb : Binds X.K fd ps []) (hg : Gl X x) (hm : X.mg x = some (.ref C)) (ha : PA X [e] ta)
    (hdb : (x == ("__debug__" : Str)) = false := by decide) (he : starEach (e :: []) X.env = (false, eval e X.env) :: starEach [] X.env := by rfl) (hpl : (backTo pos (starEach [] X.env)).any (·.1) = false := by rfl) :
    PMk X (.Call (.Name x p) [e] [] pos) (tMkR C f ta) := by
  intro pins s σ H Q I h
  obtain ⟨nm, q, N, bs, bm, sn, sub, ab, col, dd, k0, k1, k2, k3, k5, B, newId, initId, bmB, FB, SF, hbm, hC⟩ := T.cls
  refine wpAny_Call_Name_kw (ld_glob I hg hm ?_ hdb)
  refine PySem.W.callWith_K (h₀ := X.base) I.ok.mod.kin T.kC (thn (ha.run pos pins s σ H _ I h) fun us s1 ⟨vs, H1, I1, r1, v0, ev0, q1⟩ => ⟨I1.kIn, ?_⟩) he hpl
  show wpAny _ _ (call (.ref C) us) _ _ _
  subst ev0
  obtain ⟨hp, g, dr, tk, os⟩ := s1
  have hsz : hp.objs.size ≤ hp.objs.size + 1 := Nat.le_succ _
  have hn : H1 (hp.objs.size + 1) = none := I1.hok.fresh hsz
  have kk : ∀ b o, hp.get? b = some o → ((hp.push (PySem.W.kdv_tup us)).push (PySem.HandSPX.excO C hp.objs.size)).get? b = some o := fun b o e => Heap.get?_push_of_some _ (Heap.get?_push_of_some _ e)
  have hget : ((hp.push (PySem.W.kdv_tup us)).push (PySem.HandSPX.excO C hp.objs.size)).get? (hp.objs.size + 1) = some (PySem.HandSPX.excO C hp.objs.size) := by heap_get
  have I2 : Inv X pins σ (upd H1 (hp.objs.size + 1) (exo (hp.objs.size + 1) C none)) ⟨(hp.push (PySem.W.kdv_tup us)).push (PySem.HandSPX.excO C hp.objs.size), g, dr, tk, os⟩ :=
    I1.laid (t' := tk) (a := hp.objs.size + 1) (o := exo (hp.objs.size + 1) C none) (h' := (hp.push (PySem.W.kdv_tup us)).push (PySem.HandSPX.excO C hp.objs.size)) kk hsz (exo_ok hget)
  have r2 : Vals [V.ref (hp.objs.size + 1), v0] (Value.ref (hp.objs.size + 1) :: us) := .cons rfl r1
  have hq : spIn1 C f [V.ref (hp.objs.size + 1), v0] (upd H1 (hp.objs.size + 1) (exo (hp.objs.size + 1) C none)) (fun v H2 => v = .non ∧ ∃ d, H2 (hp.objs.size + 1) = some (exo (hp.objs.size + 1) C (some d)) ∧ H2 d = some (exd d [(f, v0)]) ∧ H1 d = none ∧ Q (.ref C) (some d) (upd (del H2 (hp.objs.size + 1)) d (.xd [(f, v0)]))) E0 := by
    refine ⟨_, _, rfl, upd_same, fun dx n ne => ⟨rfl, dx, upd_same, by rw [upd_ne ne, upd_same], by rw [upd_ne ne] at n; exact n, ?_⟩⟩
    exact q1 dx _ (by rw [upd_ne ne] at n; exact n) hn
  have hl : (Value.ref (hp.objs.size + 1) :: us ++ []).length = ps.length := by
    rw [List.append_nil, ← r2.length]
    exact F1.len _ _ _ _ hq
  have hus : us.length ≤ sizeLine := by
    rw [← Paired.length r1]
    show 1 ≤ sizeLine
    decide
  have hbd := hb ⟨(hp.push (PySem.W.kdv_tup us)).push (PySem.HandSPX.excO C hp.objs.size), g, dr, tk, os⟩ (Value.ref (hp.objs.size + 1) :: us) I2.kIn hl
  rw [List.append_nil] at hbd
  refine wpAny_call (PySem.HandSPX.call_own FB (fun Y => PySem.W.excTail_contains Y bm hbm) (I1.kIn _ _ hC) (PySem.W.looks_findIn I1.kIn T.iC) (fun self => PySem.W.bind_fn I1.kIn self T.tI) hus
    (codeAny_mono (F1.run _ X.stack _ _ ⟨Value.ref (hp.objs.size + 1) :: us, []⟩ (Value.ref (hp.objs.size + 1) :: us) _ _ E0 (hr.make C us []) (I2.env0.make C us []) hbd r2 hq) fun r s' hq' => ?_))
  cases r with
  | error er => exact hq'.elim
  | ok fl =>
    cases fl with
    | ret u =>
      obtain ⟨v, H2, os2, bare2, un2, hok2, rv, ev, d, ea, ed, hd1, q2⟩ := hq'
      subst ev
      obtain ⟨h2, g2, d2, t2, os'⟩ := s'
      exact ⟨rv, mk_end (raises_own exC tyC) I1 hsz kk un2 hok2 os2 bare2 ea ed hd1 q2⟩
    | next => exact hq'.elim
    | brk => exact hq'.elim
    | cont => exact hq'.elim
theorem mkR_same {H1 : Hp} {d a C : Addr} {f : Str} {v : V} (hd : H1 d = none) (ha : H1 a = none) : Same H1 (upd (del (upd (upd (upd H1 a (exo a C none)) d (exd d [(f, v)])) a (exo a C (some d))) a) d (.xd [(f, v)])) := fun b o e => by
  have n1 := ne_of_none e hd
  have n2 := ne_of_none e ha
  rw [upd_ne n1, del_ne n2, upd_ne n2, upd_ne n1, upd_ne n2]
  exact e
end
end Bc

namespace Bc
open PySem PySem.Spec PyProof.Rows L2 LamX
/-! ### _law_missing(lambda: ..) -/
abbrev nMissing : List Str := ["_law_call", "error"]
theorem scMissing : FnScope nMissing ["_law_call"] (defScope sMissing) := ⟨rfl, rfl, rfl, by decide +kernel, rfl, by decide +kernel, by decide +kernel⟩
/-- a reading may count on as many slots as there are names -/
theorem pss_len {X : Cx} {b : List Stmt} {t : TS} (h : PSs X b t) : PSs X b (fun D σ H => σ.length = X.N.length → t D σ H) := ⟨fun pins s σ H D I q => h.run pins s σ H D I (q I.len)⟩
/-- told: the name that the error of the class at C tells, in a new list; or a new empty list -/
def TMiss (K : PySem.W.Frag) (C : Addr) : (XK → Hp → VK → Prop) → Hp → VK → Prop := fun tl H Q =>
  tl (fun cls d H' => cls = .ref C ∧ ∃ dd v, d = some dd ∧ H' dd = some (.xd [("name", v)]) ∧ ∀ l, H' l = none → l ≠ sysModules → Q (.ref l) (upd H' l (.lst [v]))) H (fun _ H' => ([] : List V).length ≤ sizeLine ∧ ∀ l, H' l = none → Q (.ref l) (upd H' l (.lst [])))
theorem missing_gives {X : Cx} {q : Str} {g C : Addr} {cdg : Value} (gC : X.mg "UnknownName" = some (.ref C)) (T : XfC X.K C) (no : PySem.W.findIn X.K (.ref C) "name" = some none) (te : PySem.W.exmOne X.K (.ref C) (.ref C) = some true) :
    GivesTo X nMissing "_law_missing" (defScope sMissing) g cdg (defBody sMissing) "_law_call" q (TMiss X.K C) := by
  intro f c' s H Q tl act hc h
  refine ⟨_, pss_cons (ps_try_as (X := (cxOf C8.CX0 X.prog X.w X.K X.mg X.base nMissing "_law_missing" (defScope sMissing) g cdg X.A X.stack s H C8.E0).nox) (i := 1) (c := .ref C)
      (tb := fun W D σ H => ∃ Ech : XK, (∀ cls d σ' H', Ech cls d H' → W cls d σ' H') ∧ σ[0]? = some (some (.ref f)) ∧ H c' = some (CodeO c' q) ∧ tl Ech H (fun _ H' => D.nx σ H'))
      (ts := fun a cls d => fun D σ H => σ.length = 2 → tRet (tLstB (tCons (tXf a cls d C "name" (tVar 1)) tNil)) D σ H)
      (Wout := fun _ _ _ _ => False) rfl rfl scMissing.nd rfl rfl ⟨(by rfl), by decide, .inl gC⟩ L2.takes0 (fun W pn xe tk _ => ?_) (fun a oe cls d pn hz hf => pss_len (pss_one (ps_ret (pe_lstB (pa_cons (pe_xf T no hz hf (pv 1)) pa_nil))))))
    (pss_one (ps_ret (pe_lst pa_nil))), ?_⟩
  · refine ⟨fun pins s' σ H' D I h' => ?_⟩
    obtain ⟨Ech, hW, h1, h2, h3⟩ := h'
    have hp := act W pn xe Ech ⟨202, 8, 202, 17⟩ ⟨202, 8, 202, 19⟩ tk hW
    have hq := pss_one (ps_expr (pos := ⟨202, 8, 202, 19⟩) hp)
    exact hq.run pins s' σ H' D I ⟨h1, h2, h3⟩
  · refine ⟨fun cls d H' => cls = .ref C ∧ ∃ dd v, d = some dd ∧ H' dd = some (.xd [("name", v)]) ∧ ∀ l, H' l = none → l ≠ sysModules → Q (.ref l) (upd H' l (.lst [v])), fun cls d σ' H' hh => ?_, rfl, hc, ?_⟩
    · obtain ⟨rfl, dd, v, rfl, e, k⟩ := hh
      refine ⟨true, te, fun _ a na hl2 => ?_, fun z => Bool.noConfusion z⟩
      refine ⟨_, ?_, rfl, rfl, dd, _, v, rfl, e, rfl, (by show 1 ≤ sizeLine; decide), fun l hl hn => k l hl hn⟩
      rw [List.length_set] at hl2
      rw [List.getElem?_set_self (by omega)]
    · exact h
end Bc

namespace Bc
open PySem PySem.Spec PyProof.Rows L2
/-! ### dict comprehensions whatever their keys are -/
section
variable {X : Cx} {pins : List (Addr × Obj)} {σ : L2.St} {H H' : Hp} {s : Shared}
/-- what a comprehension stores under a key -/
theorem put_dictSet {E : Value → Shared → Prop} {D : Addr} {y v : V} {u r : Value} {Q : Unit → Shared → Prop} (hu : X.A.units < cLine) (I : Inv X pins σ H s) (g : DPut H D y v H') (ry : RelV y u) (rv : RelV v r) (h : ∀ s', Inv X pins σ H' s' → Q () s') : wpAny (model X.prog X.w) X.A (dictSet D u r) Q E s := by
  rcases g with ⟨kvs, k, e, ey, l, eH⟩ | ⟨kvs, k, b, e, ey, eb, l, eH⟩
  · subst ey eH
    exact d_dictSet I e l ry rv h
  · subst ey eH
    cases (show u = Value.ref b from ry)
    obtain ⟨z, hd, xs, rel, dd⟩ := dt_of I.hok e
    refine wpAny_dictSet_heap (hsz := by rw [← Paired.length rel]; exact z) (show (tupleKind _).room X.A from hu) (key_of I.hok eb) dd fun h' dd' hs => h _ ?_
    obtain ⟨q, es, ep, hq, h2, h3, h4, _, h5⟩ := dd'
    have hl : (putK kvs k v).length ≤ sizeLine := Nat.le_trans (length_putK kvs k v) l
    refine d_write I (by rw [e]; exact True.intro) hs ⟨q, hq⟩ ⟨hl, hd, _, (rel.put k eb rv).keeps fun c ys ec => ?_, q, es, ep, hq, h2, h3, h4, h5⟩
    rw [upd_ne (ne_of ec e (fun z => nomatch z))]
    exact ec
/-- the reading: o0 what stands at first, J the loop; every turn stores by DPut -/
def tDcP (o0 : HO) (wi : TI) (g : TG) (tt : TT) (tk tv : TE) (vs : List Nat) : TE := fun σ H Q => wi σ H fun J H1 => ∀ D, H1 D = none → ∃ W : Nat → Nat → Hp → Prop, (∃ m, W 0 m (upd H1 D o0)) ∧ ∀ i m H, W i m H →
  (J.stop i H ∧ Q (.ref D) H) ∨ (J.go i H ∧ ∃ Nx : Hp → Prop, (∀ H', Nx H' → ∃ m', m' < m ∧ W (i + 1) m' H') ∧ ∀ x H', J.yld i H x H' → g x (wipe σ vs) H' fun σ2 H2 => wipe σ2 vs = wipe σ vs ∧ tt σ2 H2 fun b H3 =>
    if b = true then tk σ2 H3 fun y H4 => tv σ2 H4 fun z H5 => ∃ H6, DPut H5 D y z H6 ∧ Nx H6 else Nx H3)
theorem fp_stat {X Y : Cx} {σ : L2.St} {H : Hp} {s : Shared} {fp : List Addr} (I : Inv Y [] σ H s) (ef : Y.pn = []) (ex : ∀ b ∈ fp, b ∈ Y.ex) (n : ∀ b ∈ fp, H b = none) : ∀ b ∈ fp, FpOk Y [] H b := fun b hb =>
  ⟨n b hb, (I.ok.exf b (ex b hb)).1, I.ok.exfs b (ex b hb), .inl (ex b hb), fun x c e => (I.ok.exf b (ex b hb)).2 x c e, fun p hp => by
    rw [ef] at hp
    exact absurd hp (by simp)⟩
theorem dcP_core {o0 : HO} (h0 : ∀ (h : Heap) (H : Hp), sysModules < h.objs.size → ObjOk X.prog X.w H (h.push { cls := .type "dict", data := .dict #[] }) h.objs.size o0) (hu : X.A.units < cLine)
    {Q : VK} {kx vx tg iter : Expr} {ifs : List Expr} {scope : Scope} {own : List (Str × Nat)} {pos pos' : Pos} {wi : TI} {g : TG} {tt : TT} {tk tv : TE} {use : Option (Value → Sem Unit)} {Qf : Value → Shared → Prop}
    (hc : X.calm = true) (hN : X.N.Nodup) (I : Inv X pins σ H s) (hi : PI X tg iter wi) (ok : BlkOk X.N X.env.scope scope own)
    (hg : ∀ (s : Shared) (H : Hp) (C : Addr) (cl : List (Str × Addr)) (fp : List Addr), PG (X.blk s H scope (compEnvC scope cl C X.env) fp) tg g) (ht : ∀ (s : Shared) (H : Hp) (C : Addr) (cl : List (Str × Addr)) (fp : List Addr), PTs (X.blk s H scope (compEnvC scope cl C X.env) fp) ifs tt)
    (hk : ∀ (s : Shared) (H : Hp) (C : Addr) (cl : List (Str × Addr)) (fp : List Addr), PE (X.blk s H scope (compEnvC scope cl C X.env) fp) kx tk) (he : ∀ (s : Shared) (H : Hp) (C : Addr) (cl : List (Str × Addr)) (fp : List Addr), PE (X.blk s H scope (compEnvC scope cl C X.env) fp) vx tv)
    (hs : ∀ x, foldedSetIterable iter X.env x = pure x) (h : tDcP o0 wi g tt tk tv (own.map (·.2)) σ H Q)
    (fin : ∀ D C s' m H', Inv X pins σ H' s' → Q (.ref D) H' → s'.heap.Ns C m → FpOk X pins H' C → compPost (model X.prog X.w) X.A X.xe use Qf (.ref D) C (.ok .next) s') :
    wpAny (model X.prog X.w) X.A (comprehension (.DictComp kx vx [⟨tg, iter, ifs, 0⟩] scope pos) scope X.env pos' newDict false (eval iter X.env) use) Qf X.xe s := by
  have hfree : ∀ y ∈ scope.names, y.2 = .free → ∃ c, X.env.cells.lookup y.1 = some c := fun y hy e => (ok.free y hy e).elim (fun k => I.ok.has _ (.inl k)) fun k => I.ok.has _ (.inr k)
  refine wpAny_comprehension_free (use := use) rfl hs (closure_ok hfree) ok.kind (fun y hy e => by rw [ok.uniq y hy, e]) (thn (hi.run pins s σ H _ I h) fun xv s1 hx => thn hx fun itv s2 h2 => ?_)
  obtain ⟨it, fp, tn, J, H2, rfl, I2, T, st2, f2, q⟩ := h2
  refine wpAny_newObj_type (newEnv_comp ?_)
  have fresh : H2 s2.heap.objs.size = none := I2.hok.fresh (Nat.le_refl _)
  obtain ⟨W, ⟨m0, w0⟩, turn⟩ := q _ fresh
  have I3 : Inv X pins σ (upd H2 s2.heap.objs.size o0) { s2 with heap := s2.heap.push { cls := .type "dict", data := .dict #[] } } := I2.laid (t' := s2.toks) (fun b o e => Heap.get?_push_of_some _ e) (Nat.le_refl _) (h0 s2.heap _ I2.big)
  have lts : ∀ b ∈ fp, b < s2.heap.objs.size := fun b hb => let ⟨o, e, _⟩ := T.obj _ _ st2 b hb; Heap.lt_size e
  have f3 : ∀ b ∈ fp, FpOk X pins (upd H2 s2.heap.objs.size o0) b ∧ b < (s2.heap.push { cls := .type "dict", data := .dict #[] }).objs.size := fun b hb => by
    refine ⟨⟨?_, (f2 b hb).2⟩, ?_⟩
    · rw [upd_ne (Nat.ne_of_lt (lts b hb))]
      exact (f2 b hb).1
    · rw [Heap.size_push]
      exact Nat.lt_succ_of_lt (lts b hb)
  have st3 : tn 0 (s2.heap.push { cls := .type "dict", data := .dict #[] }) := T.keep _ _ _ st2 fun b _ o e => Heap.get?_push_of_some _ e
  generalize hD : s2.heap.objs.size = D at I3 f3 w0 turn ⊢
  generalize hs3 : ({ s2 with heap := s2.heap.push { cls := .type "dict", data := .dict #[] } } : Shared) = s3 at I3
  have e3 : s2.heap.push { cls := .type "dict", data := .dict #[] } = s3.heap := by rw [← hs3]
  rw [e3] at f3 st3
  have I4 := block_start I3 ok hN f3
  generalize hcl : cellsFrom (s3.heap.objs.size + 1) scope.names (cloFrom X.env.cells scope.names []) = cl at I4
  have pg := hg s3 (upd H2 D o0) s3.heap.objs.size cl fp
  have pt := ht s3 (upd H2 D o0) s3.heap.objs.size cl fp
  have pk := hk s3 (upd H2 D o0) s3.heap.objs.size cl fp
  have pe := he s3 (upd H2 D o0) s3.heap.objs.size cl fp
  show codeAny _ _ (.compStart (.DictComp kx vx [⟨tg, iter, ifs, 0⟩] scope pos) 0 (.ref it) (.ref D) (compEnvC scope cl s3.heap.objs.size X.env)) (compPost (model X.prog X.w) X.A X.xe use Qf (.ref D) s3.heap.objs.size) { s3 with heap := pushCells (s3.heap.push { cls := .type "dict", data := .dict #[] }) scope.names }
  have nfp : ∀ b ∈ fp, upd H2 D o0 b = none := fun b hb => (f3 b hb).1.1
  generalize hce : compEnvC scope cl s3.heap.objs.size X.env = ce at I4 pg pt pk pe ⊢
  have eL : ce.locals = s3.heap.objs.size := by rw [← hce]; rfl
  generalize upd H2 D o0 = H3 at I3 I4 pg pt pk pe w0 nfp f3
  generalize hs4 : ({ s3 with heap := pushCells (s3.heap.push { cls := .type "dict", data := .dict #[] }) scope.names } : Shared) = s4 at I4 ⊢
  have st4 : tn 0 s4.heap := T.keep _ _ _ st3 fun b _ o e => by
    rw [← hs4]
    exact pushCells_keeps _ _ _ _ (Heap.get?_push_of_some _ e)
  refine (fun loop => codeAny_compStart_dict loop (T.self X.A 0 _ _ _ st4 loop)) (compLoop_anyD (fun n s' => ∃ i H', Inv (X.blk s3 H3 scope ce fp) [] (wipe σ (own.map (·.2))) H' s' ∧ tn i s'.heap ∧ (∀ b ∈ fp, H' b = none) ∧ W i n H') ?_ m0 ⟨0, H3, I4, st4, nfp, w0⟩)
  rintro n s5 ⟨i, H5, I5, st5, n5, w5⟩
  have sta := fun {σ' : L2.St} {H' : Hp} {s' : Shared} (J : Inv (X.blk s3 H3 scope ce fp) [] σ' H' s') (hn : ∀ b ∈ fp, H' b = none) => fp_stat (X := X) J rfl (fun b hb => hb) hn
  rcases turn i n H5 w5 with ⟨stop, qq⟩ | ⟨go, Nx, hNx, step⟩
  · refine thnF (T.done (X.blk s3 H3 scope ce fp) rfl rfl rfl hc i [] s5 _ H5 (fun _ _ => False) I5 (sta I5 n5) st5 stop) fun r s6 ⟨hr, I6⟩ => ?_
    subst hr
    have I7 : Inv X pins σ H5 s6 := I3.call' (ch := fp) I6.os I6.base I6.hok I6.bare fun b hb => ⟨(f3 b hb).1.2.2.2.1, (f3 b hb).1.2.1, (f3 b hb).1.2.2.2.2.1, (f3 b hb).1.2.2.2.2.2⟩
    have nC : H5 ce.locals = none := I6.free
    obtain ⟨m, hn, _⟩ := I6.loc
    have hn : s6.heap.Ns ce.locals m := hn
    rw [eL] at hn nC
    exact fin D s3.heap.objs.size s6 m H5 I7 qq hn (I3.fpOk (Nat.le_refl _) nC)
  · refine thnF (T.item (X.blk s3 H3 scope ce fp) rfl rfl rfl hc i [] s5 _ H5 (fun _ _ => False) I5 (sta I5 n5) st5 go) fun r s6 ⟨u, hr, h6⟩ => ?_
    subst hr
    refine thnF h6 fun _ s7 ⟨x, H7, I7, r7, y7, st7, n7⟩ => ?_
    have there : ∀ b ∈ fp, ∃ o, s7.heap.get? b = some o := fun b hb => let ⟨o, e, _⟩ := T.obj _ _ st7 b hb; ⟨o, e⟩
    refine thnF (pg.run _ s7 _ H7 x u _ (I7.pinned (sta I7 n7) (T.obj _ _ st7)) r7 (step x H7 y7)) fun _ s8 ⟨σ8, H8, I8, hw8, q8⟩ => ?_
    refine thnF (pt.run _ s8 σ8 H8 _ I8 q8) fun b s9 ⟨H9, I9, q9⟩ => ?_
    have next : ∀ {s' : Shared} {H' : Hp}, Inv (X.blk s3 H3 scope ce fp) ([] ++ pinsAt fp s7.heap) σ8 H' s' → Nx H' → ∃ m, m < n ∧ ∃ i H', Inv (X.blk s3 H3 scope ce fp) [] (wipe σ (own.map (·.2))) H' s' ∧ tn i s'.heap ∧ (∀ b ∈ fp, H' b = none) ∧ W i m H' := fun {s' H'} J nx => by
      obtain ⟨m', hm, w'⟩ := hNx H' nx
      have kept : ∀ b ∈ fp, ∀ o, s7.heap.get? b = some o → s'.heap.get? b = some o ∧ H' b = none := fun b hb o e =>
        let z := J.pin (b, o) (List.mem_append_right _ (List.mem_append_right _ (mem_pinsAt hb e)))
        ⟨z.1, z.2.1⟩
      refine ⟨m', hm, i + 1, H', (J.unpinned (pins := [])).weak (by rw [← hw8, wipe_length]) (fun j v e => by rw [← hw8] at e; exact (wipe_some e).1), T.keep _ _ _ st7 fun b hb o e => (kept b hb o e).1, fun b hb => ?_, w'⟩
      obtain ⟨o, e⟩ := there b hb
      exact (kept b hb o e).2
    cases b with
    | false =>
      simp only [Bool.false_eq_true, if_false] at q9 ⊢
      exact next I9 q9
    | true =>
      simp only [if_true] at q9 ⊢
      refine thnF (pk.run _ s9 σ8 H9 _ I9 q9) fun z s10 ⟨yk, H10, I10, r10, q10⟩ => ?_
      refine thnF (pe.run _ s10 σ8 H10 _ I10 q10) fun z2 s11 ⟨yv, H11, I11, r11, H12, dp, nx⟩ => ?_
      exact put_dictSet (X := X.blk s3 H3 scope ce fp) hu I11 dp r10 r11 fun s12 I12 => next I12 nx
/-- name = {k: v for ..}, the keys tuples -/
theorem ps_setDcT {i : Nat} {y : Str} {py : Pos} {kx vx tg iter : Expr} {ifs : List Expr} {scope : Scope} {own : List (Str × Nat)} {pos spos : Pos} {wi : TI} {g : TG} {tt : TT} {tk tv : TE} (hu : X.A.units < cLine) (hc : X.calm = true) (hN : X.N.Nodup) (hy : X.N[i]? = some y) (hyl : X.env.scope.names.lookup y = some .local)
    (hsw : swapsWith (.DictComp kx vx [⟨tg, iter, ifs, 0⟩] scope pos) (some (.Name y py)) spos.line X.env = pure true) (hi : PI X tg iter wi) (ok : BlkOk X.N X.env.scope scope own)
    (hg : ∀ (s : Shared) (H : Hp) (C : Addr) (cl : List (Str × Addr)) (fp : List Addr), PG (X.blk s H scope (compEnvC scope cl C X.env) fp) tg g) (ht : ∀ (s : Shared) (H : Hp) (C : Addr) (cl : List (Str × Addr)) (fp : List Addr), PTs (X.blk s H scope (compEnvC scope cl C X.env) fp) ifs tt)
    (hk : ∀ (s : Shared) (H : Hp) (C : Addr) (cl : List (Str × Addr)) (fp : List Addr), PE (X.blk s H scope (compEnvC scope cl C X.env) fp) kx tk) (he : ∀ (s : Shared) (H : Hp) (C : Addr) (cl : List (Str × Addr)) (fp : List Addr), PE (X.blk s H scope (compEnvC scope cl C X.env) fp) vx tv)
    (hs : ∀ x, foldedSetIterable iter X.env x = pure x := by intro _; rfl) : PS X (.Assign [.Name y py] (.DictComp kx vx [⟨tg, iter, ifs, 0⟩] scope pos) spos) (tAsg (tDcP (.dT []) wi g tt tk tv (own.map (·.2))) (gName i)) := by
  constructor
  intro pins s σ H D I h
  rw [exec_Assign_Name_used _ _ _ _ hsw]
  have h : tDcP (.dT []) wi g tt tk tv (own.map (·.2)) σ H (fun x H1 => gName i x σ H1 D.nx) := h
  have stored : ∀ (L C : Addr) (s' : Shared) (m : Str → Option Value) (H' : Hp), Inv X pins σ H' s' → gName i (.ref L) σ H' D.nx → s'.heap.Ns C m → FpOk X pins H' C → compPost (model X.prog X.w) X.A X.xe (some (assign (.Name y py) X.env)) (fun _ s' => SP X pins D .next s') (.ref L) C (.ok .next) s' := by
    intro L C s' m H' I' q hn f
    obtain ⟨f0, f1, f2, f3, f4, f5⟩ := f
    show wpAny _ _ (assign (.Name y py) X.env (.ref L)) _ _ _
    refine wpAny_assign_Name (store_ok2 (v := V.ref L) I' hN hy (.inl hyl) rfl (fun s2 I2 z => ?_) (.inr hyl))
    obtain ⟨a, sb, ha⟩ := z
    have haC : C ≠ a := ha.elim (fun z => by rw [z]; exact f1) (fun z e => f4 y a z e.symm)
    exact ⟨m, hn.sameBut sb haC, fun h3 sb3 => ⟨_, H', I2.turned (t' := s2.toks) (fun b o hb e => (sb3.2 b hb).trans e) f0 f1 f3 f4 f5, q⟩⟩
  refine wpAny_bind (wpAny_standAt (wpAny_bind ?_))
  show wpAny _ X.A (do let _ ← comprehension (.DictComp kx vx [⟨tg, iter, ifs, 0⟩] scope pos) scope X.env (firstIterPos [⟨tg, iter, ifs, 0⟩] pos) newDict false (eval iter X.env) (some (assign (.Name y py) X.env))) _ _ s
  refine wpAny_bind (thn (dcP_core (o0 := .dT []) (fun h H b => dt_empty h b) hu (Qf := fun _ s' => SP X pins D .next s') hc hN I hi ok hg ht hk he hs h stored) fun _ s' hq => wpAny_pure (wpAny_pure hq))
end
end Bc

namespace Bc
open PySem PySem.Spec PyProof.Rows L2
/-! ### places and their colours, in plain Lean -/
theorem dcP_it {J : It} {n : Nat} {G : Hp → Prop} {Y : Nat → Hp → V → Hp → Prop} (w : Walk J n G Y) {g : TG} {tt : TT} {tk tv : TE} {vs : List Nat} {σ : L2.St} {H0 : Hp} {D : Addr} {Qd : Hp → Prop} (Pv : Nat → Hp → Prop) (h0 : Pv 0 H0) (hG : ∀ i H, i ≤ n → Pv i H → G H)
    (hs : ∀ i x H H', i < n → Pv i H → Y i H x H' → g x (wipe σ vs) H' fun σ2 H2 => wipe σ2 vs = wipe σ vs ∧ tt σ2 H2 fun b H3 => if b = true then tk σ2 H3 fun y H4 => tv σ2 H4 fun z H5 => ∃ H6, DPut H5 D y z H6 ∧ Pv (i + 1) H6 else Pv (i + 1) H3) (hd : ∀ H, Pv n H → Qd H) :
    ∃ W : Nat → Nat → Hp → Prop, (∃ m, W 0 m H0) ∧ ∀ i m H, W i m H → (J.stop i H ∧ Qd H) ∨ (J.go i H ∧ ∃ Nx : Hp → Prop, (∀ H', Nx H' → ∃ m', m' < m ∧ W (i + 1) m' H') ∧ ∀ x H', J.yld i H x H' → g x (wipe σ vs) H' fun σ2 H2 => wipe σ2 vs = wipe σ vs ∧ tt σ2 H2 fun b H3 =>
      if b = true then tk σ2 H3 fun y H4 => tv σ2 H4 fun z H5 => ∃ H6, DPut H5 D y z H6 ∧ Nx H6 else Nx H3) := by
  refine ⟨fun i m H => m = n - i ∧ i ≤ n ∧ Pv i H, ⟨n, by simp, Nat.zero_le _, h0⟩, ?_⟩
  rintro i m H ⟨rfl, hi, p⟩
  have q := hG i H hi p
  by_cases hlt : i < n
  · exact .inr ⟨w.goes i H hlt q, Pv (i + 1), fun H' p' => ⟨n - (i + 1), by omega, rfl, hlt, p'⟩, fun x H' y => hs i x H H' hlt p (w.yields i H x H' hlt q y)⟩
  · have e : i = n := by omega
    subst e
    exact .inl ⟨w.stops H q, hd H p⟩
abbrev Plc := Str × Nat
def plK (p : Plc) : List Key := [.inr p.1, .inl (p.2 : Int)]
theorem plK_inj {p q : Plc} (h : plK p = plK q) : p = q := by
  unfold plK at h
  obtain ⟨h1, h2⟩ := List.cons.inj h
  obtain ⟨h2, _⟩ := List.cons.inj h2
  exact Prod.ext (Sum.inr.inj h1) (Int.ofNat.inj (Sum.inl.inj h2))
def rowP (name : Str) : Nat → List Str → List (Plc × Str)
  | _, [] => []
  | k, c :: cs => ((name, k), c) :: rowP name (k + 1) cs
theorem rowP_snoc (name : Str) (c : Str) : ∀ (cs : List Str) (k : Nat), rowP name k (cs ++ [c]) = rowP name k cs ++ [((name, k + cs.length), c)]
  | [], k => rfl
  | a :: cs, k => by
    show ((name, k), a) :: rowP name (k + 1) (cs ++ [c]) = _
    rw [rowP_snoc name c cs (k + 1)]
    show _ = ((name, k), a) :: (rowP name (k + 1) cs ++ [((name, k + (cs.length + 1)), c)])
    rw [show k + 1 + cs.length = k + (cs.length + 1) by omega]
theorem rowP_len (name : Str) : ∀ (cs : List Str) (k : Nat), (rowP name k cs).length = cs.length
  | [], _ => rfl
  | _ :: cs, k => congrArg (· + 1) (rowP_len name cs (k + 1))
theorem rowP_mem {name : Str} : ∀ {cs : List Str} {k : Nat} {p : Plc × Str}, p ∈ rowP name k cs → p.1.1 = name ∧ k ≤ p.1.2 ∧ p.1.2 < k + cs.length ∧ cs[p.1.2 - k]? = some p.2
  | [], _, _, h => by cases h
  | c :: cs, k, p, h => by
    rcases List.mem_cons.mp h with e | h
    · subst e
      exact ⟨rfl, Nat.le_refl _, by simp, by simp⟩
    · obtain ⟨h1, h2, h3, h4⟩ := rowP_mem h
      refine ⟨h1, by omega, by rw [List.length_cons]; omega, ?_⟩
      rw [show p.1.2 - k = (p.1.2 - (k + 1)) + 1 by omega, List.getElem?_cons_succ]
      exact h4
theorem rowP_get {name : Str} : ∀ {cs : List Str} {k i : Nat} {c : Str}, cs[i]? = some c → (rowP name k cs)[i]? = some ((name, k + i), c)
  | [], _, _, _, h => by cases h
  | a :: cs, k, 0, c, h => by
    cases h
    rfl
  | a :: cs, k, i + 1, c, h => by
    have q := rowP_get (name := name) (k := k + 1) (i := i) (c := c) h
    show (rowP name (k + 1) cs)[i]? = _
    rw [q, show k + 1 + i = k + (i + 1) by omega]
/-- the colours of the branches of a word's shape -/
def brs (shs : List Shp) (w : Str) : List Str := match shs.find? (fun s => decide (s.1 = w)) with
  | some s => s.2.2
  | none => []
theorem brs_of {shs : List Shp} {s : Shp} (nd : (wordsS shs).Nodup) (h : s ∈ shs) : brs shs s.1 = s.2.2 := by
  have key : shs.find? (fun t => decide (t.1 = s.1)) = some s := by
    induction shs with
    | nil => cases h
    | cons t r ih =>
      unfold wordsS at nd
      rw [List.map_cons, List.nodup_cons] at nd
      by_cases e : t.1 = s.1
      · rw [List.find?_cons_of_pos (by simp [e])]
        rcases List.mem_cons.mp h with z | z
        · rw [z]
        · exact absurd (List.mem_map.mpr ⟨s, z, e.symm⟩) nd.1
      · rw [List.find?_cons_of_neg (by simp [e])]
        rcases List.mem_cons.mp h with z | z
        · exact absurd (by rw [z]) e
        · exact ih nd.2 z
  unfold brs
  rw [key]
def plcs (shs : List Shp) (roots : List Str) (js : List Jnt) : List (Plc × Str) := rowP "root" 0 roots ++ js.flatMap fun j => rowP j.1 0 (brs shs j.2)
theorem plcs_nil (shs : List Shp) (roots : List Str) : plcs shs roots [] = rowP "root" 0 roots := by
  unfold plcs
  rw [List.flatMap_nil, List.append_nil]
theorem plcs_snoc (shs : List Shp) (roots : List Str) (js : List Jnt) (j : Jnt) : plcs shs roots (js ++ [j]) = plcs shs roots js ++ rowP j.1 0 (brs shs j.2) := by
  unfold plcs
  rw [List.flatMap_append, List.flatMap_cons, List.flatMap_nil, List.append_nil, List.append_assoc]
theorem brs_len {shs : List Shp} (h : ∀ s ∈ shs, s.2.2.length ≤ 30) (w : Str) : (brs shs w).length ≤ 30 := by
  unfold brs
  cases e : shs.find? (fun s => decide (s.1 = w)) with
  | none => exact Nat.zero_le _
  | some s => exact h s (List.mem_of_find?_eq_some e)
theorem plcs_len {shs : List Shp} (h : ∀ s ∈ shs, s.2.2.length ≤ 30) (roots : List Str) : ∀ js : List Jnt, (plcs shs roots js).length ≤ roots.length + 30 * js.length := by
  intro js
  unfold plcs
  rw [List.length_append, rowP_len]
  refine Nat.add_le_add_left ?_ _
  induction js with
  | nil => exact Nat.zero_le _
  | cons j js ih =>
    rw [List.flatMap_cons, List.length_append, rowP_len, List.length_cons]
    have := brs_len h j.2
    omega
def dctP (ps : List (Plc × Str)) : List (List Key × V) := ps.map fun q => (plK q.1, V.str q.2)
theorem dctP_snoc (ps : List (Plc × Str)) (p : Plc) (c : Str) : dctP (ps ++ [(p, c)]) = dctP ps ++ [(plK p, V.str c)] := List.map_append
theorem dctP_out {p : Plc} : ∀ {ps : List (Plc × Str)}, (∀ q ∈ ps, q.1 ≠ p) → valV (dctP ps) (plK p) = none
  | [], _ => rfl
  | q :: ps, h => by
    show valV ((plK q.1, V.str q.2) :: dctP ps) (plK p) = none
    rw [valV_neg (fun e => h q (List.mem_cons_self ..) (plK_inj e))]
    exact dctP_out fun x hx => h x (List.mem_cons_of_mem _ hx)
theorem dctP_get {p : Plc} {c : Str} : ∀ {ps : List (Plc × Str)}, (ps.map (·.1)).Nodup → (p, c) ∈ ps → valV (dctP ps) (plK p) = some (V.str c)
  | [], _, h => by cases h
  | q :: ps, nd, h => by
    show valV ((plK q.1, V.str q.2) :: dctP ps) (plK p) = _
    rw [List.map_cons, List.nodup_cons] at nd
    rcases List.mem_cons.mp h with e | h
    · rw [← e]
      exact valV_pos rfl
    · rw [valV_neg (fun e => nd.1 (List.mem_map.mpr ⟨_, h, (plK_inj e).symm⟩))]
      exact dctP_get nd.2 h
theorem dctP_in {p : Plc} {v : V} {ps : List (Plc × Str)} (h : valV (dctP ps) (plK p) = some v) : ∃ c, (p, c) ∈ ps := by
  have m := valV_in h
  unfold dctP at m
  rw [List.map_map] at m
  obtain ⟨q, hq, e⟩ := List.mem_map.mp m
  have e := plK_inj e
  exact ⟨q.2, by rw [← e]; exact hq⟩
/-- what a bag must be for its places -/
structure Well (roots : List Str) (js : List Jnt) : Prop where
  nd : (namesJ js).Nodup
  nr : ∀ j ∈ js, j.1 ≠ "root"
theorem plcs_out {shs : List Shp} {roots : List Str} {js : List Jnt} {i : Nat} {j : Jnt} (W : Well roots js) (hj : js[i]? = some j) : ∀ q ∈ plcs shs roots (js.take i), q.1.1 ≠ j.1 := by
  intro q hq e
  unfold plcs at hq
  rcases List.mem_append.mp hq with h | h
  · have := (rowP_mem h).1
    rw [this] at e
    exact W.nr j (List.mem_of_getElem? hj) e.symm
  · obtain ⟨j', hj', hm⟩ := List.mem_flatMap.mp h
    have e2 := (rowP_mem hm).1
    obtain ⟨m, hmx⟩ := List.getElem?_of_mem hj'
    have hlt : m < i := by
      have := (List.getElem?_eq_some_iff.mp hmx).1
      rw [List.length_take] at this
      omega
    rw [List.getElem?_take_of_lt hlt] at hmx
    have a1 : (namesJ js)[m]? = some j'.1 := by
      unfold namesJ
      rw [List.getElem?_map, hmx]
      rfl
    have a2 : (namesJ js)[i]? = some j.1 := by
      unfold namesJ
      rw [List.getElem?_map, hj]
      rfl
    rw [show j'.1 = j.1 from e2.symm.trans e] at a1
    have := nd_ix W.nd a1 a2
    omega
theorem plcs_new {shs : List Shp} {roots : List Str} {js : List Jnt} {i n : Nat} {j : Jnt} {cs : List Str} (W : Well roots js) (hj : js[i]? = some j) (hn : cs.length ≤ n) : valV (dctP (plcs shs roots (js.take i) ++ rowP j.1 0 cs)) (plK (j.1, n)) = none := dctP_out fun q hq e => by
  rcases List.mem_append.mp hq with h | h
  · exact plcs_out W hj q h (by rw [e])
  · have := (rowP_mem h).2.2.1
    rw [e] at this
    have this : n < 0 + cs.length := this
    omega
theorem root_new {roots : List Str} {n : Nat} (hn : roots.length ≤ n) : valV (dctP (rowP "root" 0 roots)) (plK ("root", n)) = none := dctP_out fun q hq e => by
  have := (rowP_mem hq).2.2.1
  rw [e] at this
  have this : n < 0 + roots.length := this
  omega
theorem rowP_nd (name : Str) : ∀ (cs : List Str) (k : Nat), ((rowP name k cs).map (·.1)).Nodup
  | [], _ => List.nodup_nil
  | c :: cs, k => by
    show (((name, k), c) :: rowP name (k + 1) cs).map (·.1) |>.Nodup
    rw [List.map_cons, List.nodup_cons]
    refine ⟨fun m => ?_, rowP_nd name cs (k + 1)⟩
    obtain ⟨q, hq, e⟩ := List.mem_map.mp m
    have := (rowP_mem hq).2.1
    rw [e] at this
    have this : k + 1 ≤ k := this
    omega
theorem plcs_nd {shs : List Shp} {roots : List Str} {js : List Jnt} (W : Well roots js) : ∀ i, i ≤ js.length → ((plcs shs roots (js.take i)).map (·.1)).Nodup
  | 0, _ => by
    rw [List.take_zero, plcs_nil]
    exact rowP_nd _ _ _
  | i + 1, hi => by
    have ih := plcs_nd (shs := shs) W i (by omega)
    have hj : js[i]? = some js[i] := by simp
    rw [List.take_add_one, hj]
    show ((plcs shs roots (js.take i ++ [js[i]])).map (·.1)).Nodup
    rw [plcs_snoc, List.map_append, List.nodup_append]
    refine ⟨ih, rowP_nd _ _ _, fun a ha b hb e => ?_⟩
    obtain ⟨q, hq, rfl⟩ := List.mem_map.mp ha
    obtain ⟨r, hr, rfl⟩ := List.mem_map.mp hb
    exact plcs_out W hj q hq (by rw [e]; exact (rowP_mem hr).1)
end Bc

namespace Bc
open PySem PySem.Spec PyProof.Rows L2
/-! ### what a book and a bag tell of a word, a name -/
theorem bkv_get {w : Str} {x : V} : ∀ {ws : List Str} {xs : List V} {i : Nat}, ws.Nodup → ws[i]? = some w → xs[i]? = some x → valV (bkv ws xs) (Sum.inr w : Key) = some x
  | [], _, _, _, h, _ => by cases h
  | a :: ws, [], _, _, _, h => by cases h
  | a :: ws, y :: xs, 0, _, h1, h2 => by
    cases h1
    cases h2
    exact valV_pos rfl
  | a :: ws, y :: xs, i + 1, nd, h1, h2 => by
    show valV (((Sum.inr a : Key), y) :: bkv ws xs) (Sum.inr w : Key) = some x
    rw [List.nodup_cons] at nd
    have h1 : ws[i]? = some w := h1
    rw [valV_neg (fun e => nd.1 (by rw [show a = w from Sum.inr.inj e]; exact List.mem_of_getElem? h1))]
    exact bkv_get nd.2 h1 h2
theorem scBookSh : FnScope ["self", "word"] ["self", "word"] (defScope sBookSh) := ⟨rfl, rfl, rfl, by decide +kernel, rfl, by decide +kernel, by decide +kernel⟩
theorem scBookB : FnScope ["self", "word"] ["self", "word"] (defScope sBookB) := ⟨rfl, rfl, rfl, by decide +kernel, rfl, by decide +kernel, by decide +kernel⟩
theorem scBagN : FnScope ["self"] ["self"] (defScope sBagN) := ⟨rfl, rfl, rfl, by decide +kernel, rfl, by decide +kernel, by decide +kernel⟩
theorem scBagW : FnScope ["self", "name"] ["self", "name"] (defScope sBagW) := ⟨rfl, rfl, rfl, by decide +kernel, rfl, by decide +kernel, by decide +kernel⟩
theorem scBagB : FnScope ["self", "name"] ["self", "name"] (defScope sBagB) := ⟨rfl, rfl, rfl, by decide +kernel, rfl, by decide +kernel, by decide +kernel⟩
def spBookSh (K : PySem.W.Frag) (C : Addr) : Sp := fun vs H Q _ => ∃ (a : Addr) (shs : List Shp) (s : Shp), vs = [.ref a, .str s.1] ∧ BookAt K H C a shs ∧ OkBook shs ∧ s ∈ shs ∧ ∀ v, Dq K H v (dShape s) → Q v H
def spBookB (K : PySem.W.Frag) (C : Addr) : Sp := fun vs H Q _ => ∃ (a : Addr) (shs : List Shp) (s : Shp), vs = [.ref a, .str s.1] ∧ BookAt K H C a shs ∧ OkBook shs ∧ s ∈ shs ∧ ∀ r, SqT K H r (s.2.2.map V.str) → Q (.ref r) H
def spBagN (K : PySem.W.Frag) (CB CG : Addr) : Sp := fun vs H Q _ => ∃ (a : Addr) (shs : List Shp) (js : List Jnt), vs = [.ref a] ∧ BagAt K H CB CG a shs js ∧ ∀ p H', Same H H' → H p = none → H' p = some (.lst ((namesJ js).map V.str)) → Q (.ref p) H'
def spBagW (K : PySem.W.Frag) (CB CG : Addr) : Sp := fun vs H Q _ => ∃ (a : Addr) (shs : List Shp) (js : List Jnt) (j : Jnt), vs = [.ref a, .str j.1] ∧ BagAt K H CB CG a shs js ∧ (namesJ js).Nodup ∧ j ∈ js ∧ Q (.str j.2) H
def spBagB (K : PySem.W.Frag) (CB CG : Addr) : Sp := fun vs H Q _ => ∃ (a : Addr) (shs : List Shp) (js : List Jnt) (j : Jnt), vs = [.ref a, .str j.1] ∧ BagAt K H CB CG a shs js ∧ OkBook shs ∧ OkBag (wordsS shs) js ∧ j ∈ js ∧ ∀ r, SqT K H r ((brs shs j.2).map V.str) → Q (.ref r) H
section
variable {P : Program} {w : World} {K : PySem.W.Frag} {mg : Str → Option Value} {base : Heap} {CB CG : Addr}
theorem book_at {K : PySem.W.Frag} {H : Hp} {shs : List Shp} {xs : List V} {s : Shp} (ok : OkBook shs) (h3 : DqAll K H xs (shs.map dShape)) (hm : s ∈ shs) : ∃ v, valV (bkv (wordsS shs) xs) (Sum.inr s.1 : Key) = some v ∧ Dq K H v (dShape s) := by
  obtain ⟨i, hi⟩ := List.getElem?_of_mem hm
  have lx : xs.length = shs.length := by rw [h3.len, List.length_map]
  have hlt := (List.getElem?_eq_some_iff.mp hi).1
  have hx : xs[i]? = some (xs[i]'(by omega)) := by simp
  obtain ⟨sd, e1, dq⟩ := DqAll.get i h3 hx
  rw [List.getElem?_map, hi] at e1
  cases (Option.some.inj e1)
  refine ⟨_, bkv_get ok.nd ?_ hx, dq⟩
  unfold wordsS
  rw [List.getElem?_map, hi]
  rfl
theorem bag_at {js : List Jnt} {j : Jnt} (nd : (namesJ js).Nodup) (hm : j ∈ js) : valV (bkv (namesJ js) (js.map fun j => V.str j.2)) (Sum.inr j.1 : Key) = some (V.str j.2) := by
  obtain ⟨i, hi⟩ := List.getElem?_of_mem hm
  refine bkv_get (i := i) nd ?_ ?_
  · unfold namesJ
    rw [List.getElem?_map, hi]
    rfl
  · rw [List.getElem?_map, hi]
    rfl
theorem ok_bookSh {f : Addr} {fd : FuncData} (F : Fun K "shape" "Book.shape" sBookSh f fd) (c : Cls K CB) (na : NoAttr K CB "_shapes") (W : Wd mg) : FnOk P w K mg base CX0 1 f fd ["self", "word"] (spBookSh K CB) := by
  refine F.ok scBookSh (fun vs H Q E h => ?_) (fun cdv A outer s H vs Q E hr h => ?_)
  · obtain ⟨a, shs, sh, rfl, _⟩ := h
    rfl
  · obtain ⟨a, shs, sh, rfl, ⟨dx, d, xs, h1, h2, h3⟩, ok, hm, k⟩ := h
    have hu : (A.deeper _).units + 1 < cLine := hu1 hr
    refine ⟨_, pss_cons (ps_if (PW.pt (pw_or (pt_not (pt_val (pe_callB call_isi (by rfl) W.isi (by decide +kernel) (pa_cons (pv 1) (pa_cons (pe_bty (T := "str") (by rfl) W.str (by decide +kernel)) pa_nil))))) (pw_or1 (pt_cmp (pc_dnotin hu (pv 1) (pe_fld (pv 0) rfl)))))) (pss_one ps_never) pss_nil)
      (pss_one (ps_ret (pe_dget hu (pe_fld (pv 0) rfl) (pv 1) (fun _ _ => rfl)))), ?_⟩
    obtain ⟨v, hv, dq⟩ := book_at ok h3 hm
    refine ⟨_, rfl, _, _, _, _, true, rfl, .ty "str", .base (.str sh.1), kit_ty (by decide +kernel), true, rfl, ?_⟩
    refine if_no rfl ?_
    refine ⟨_, rfl, _, rfl, a, CB, dx, _, .ref d, rfl, h1, c, na, rfl, d, _, rfl, DGet.k (k := Sum.inr sh.1) h2, _, rfl, ?_⟩
    refine if_no (by rw [hv]; rfl) ?_
    refine ⟨_, rfl, a, CB, dx, _, .ref d, rfl, h1, c, na, rfl, _, rfl, d, v, rfl, ?_, k v dq⟩
    rw [← hv]
    exact DGet.k (k := Sum.inr sh.1) h2
theorem ok_bookB {f fS : Addr} {fd fdS : FuncData} (F : Fun K "branches" "Book.branches" sBookB f fd) (c : Cls K CB) (mS : Meth K CB "shape" fS) (GS : FnOk P w K mg base CX0 1 fS fdS ["self", "word"] (spBookSh K CB)) (bS : Binds K fdS ["self", "word"] []) : FnOk P w K mg base CX0 2 f fd ["self", "word"] (spBookB K CB) := by
  refine F.ok scBookB (fun vs H Q E h => ?_) (fun cdv A outer s H vs Q E hr h => ?_)
  · obtain ⟨a, shs, sh, rfl, _⟩ := h
    rfl
  · obtain ⟨a, shs, sh, rfl, hB, ok, hm, k⟩ := h
    refine ⟨_, pss_one (ps_ret (pe_ix (show IxR _ (rIxT K) from ix_tup) (pe_meth (pv 0) c mS GS hr bS .nil pass0 (pa_cons (pv 1) pa_nil)) pe_int (fun _ _ => rfl))), ?_⟩
    obtain ⟨dx, d, xs, h1, h2, h3⟩ := id hB
    refine ⟨_, rfl, a, dx, _, rfl, h1, rfl, _, rfl, a, shs, sh, rfl, hB, ok, hm, fun v dq => ?_⟩
    obtain ⟨r, b, rfl, hr2, hb2⟩ := shape_inv dq
    exact ⟨r, _, _, .ref b, rfl, rfl, hr2, L2.at_of (j := 2) rfl rfl, k b hb2⟩
theorem ok_bagN {f : Addr} {fd : FuncData} (F : Fun K "names" "Bag.names" sBagN f fd) (c : Cls K CG) (nb : NoAttr K CG "_words") (N : Nm mg) : FnOk P w K mg base CX0 1 f fd ["self"] (spBagN K CB CG) := by
  refine F.ok scBagN (fun vs H Q E h => ?_) (fun cdv A outer s H vs Q E hr h => ?_)
  · obtain ⟨a, shs, js, rfl, _⟩ := h
    rfl
  · obtain ⟨a, shs, js, rfl, ⟨dx, b, d, h1, h2, h3⟩, k⟩ := h
    refine ⟨_, pss_one (ps_ret (pe_callTy (call_listD rfl) (by rfl) N.lst (by decide +kernel) (pa_cons (pe_fld (pv 0) rfl) pa_nil))), ?_⟩
    refine ⟨_, rfl, a, CG, dx, _, .ref d, rfl, h1, c, nb, rfl, d, _, rfl, .inl h3, fun p hp => ?_⟩
    rw [bkv_keys (by unfold namesJ; rw [List.length_map, List.length_map])]
    exact k p _ (same_new hp) hp upd_same
theorem ok_bagW {f : Addr} {fd : FuncData} (F : Fun K "word" "Bag.word" sBagW f fd) (c : Cls K CG) (nb : NoAttr K CG "_words") (W : Wd mg) : FnOk P w K mg base CX0 1 f fd ["self", "name"] (spBagW K CB CG) := by
  refine F.ok scBagW (fun vs H Q E h => ?_) (fun cdv A outer s H vs Q E hr h => ?_)
  · obtain ⟨a, shs, js, j, rfl, _⟩ := h
    rfl
  · obtain ⟨a, shs, js, j, rfl, ⟨dx, b, d, h1, h2, h3⟩, nd, hm, k⟩ := h
    have hu : (A.deeper _).units + 1 < cLine := hu1 hr
    refine ⟨_, pss_cons (ps_if (PW.pt (pw_or (pt_not (pt_val (pe_callB call_isi (by rfl) W.isi (by decide +kernel) (pa_cons (pv 1) (pa_cons (pe_bty (T := "str") (by rfl) W.str (by decide +kernel)) pa_nil))))) (pw_or1 (pt_cmp (pc_dnotin hu (pv 1) (pe_fld (pv 0) rfl)))))) (pss_one ps_never) pss_nil)
      (pss_one (ps_ret (pe_dget hu (pe_fld (pv 0) rfl) (pv 1) (fun _ _ => rfl)))), ?_⟩
    have hv := bag_at nd hm
    refine ⟨_, rfl, _, _, _, _, true, rfl, .ty "str", .base (.str j.1), kit_ty (by decide +kernel), true, rfl, ?_⟩
    refine if_no rfl ?_
    refine ⟨_, rfl, _, rfl, a, CG, dx, _, .ref d, rfl, h1, c, nb, rfl, d, _, rfl, DGet.k (k := Sum.inr j.1) h3, _, rfl, ?_⟩
    refine if_no (by rw [hv]; rfl) ?_
    refine ⟨_, rfl, a, CG, dx, _, .ref d, rfl, h1, c, nb, rfl, _, rfl, d, _, rfl, ?_, k⟩
    rw [← hv]
    exact DGet.k (k := Sum.inr j.1) h3
theorem ok_bagB {f fB fW : Addr} {fd fdB fdW : FuncData} (F : Fun K "branches" "Bag.branches" sBagB f fd) (cB : Cls K CB) (c : Cls K CG) (na : NoAttr K CG "_book") (mB : Meth K CB "branches" fB) (GB : FnOk P w K mg base CX0 2 fB fdB ["self", "word"] (spBookB K CB)) (bB : Binds K fdB ["self", "word"] [])
    (mW : Meth K CG "word" fW) (GW : FnOk P w K mg base CX0 1 fW fdW ["self", "name"] (spBagW K CB CG)) (bW : Binds K fdW ["self", "name"] []) : FnOk P w K mg base CX0 3 f fd ["self", "name"] (spBagB K CB CG) := by
  refine F.ok scBagB (fun vs H Q E h => ?_) (fun cdv A outer s H vs Q E hr h => ?_)
  · obtain ⟨a, shs, js, j, rfl, _⟩ := h
    rfl
  · obtain ⟨a, shs, js, j, rfl, hG, okB, okG, hm, k⟩ := h
    have hr1 : Room 1 _ := hr.mono (by decide)
    refine ⟨_, pss_one (ps_ret (pe_meth (pe_fld (pv 0) rfl) cB mB GB hr bB .nil pass0 (pa_cons (pe_meth (pv 0) c mW GW hr1 bW .nil pass0 (pa_cons (pv 1) pa_nil)) pa_nil))), ?_⟩
    obtain ⟨dx, b, d, h1, h2, h3⟩ := id hG
    obtain ⟨dy, d', xs, g1, _, _⟩ := id h2
    have hw := (okG.word j hm).2
    obtain ⟨sh, hs, e⟩ := List.mem_map.mp hw
    refine ⟨_, rfl, a, CG, dx, _, .ref b, rfl, h1, c, na, rfl, b, dy, _, rfl, g1, rfl, _, rfl, a, dx, _, rfl, h1, rfl, _, rfl, a, shs, js, j, rfl, hG, okG.nd, hm, b, shs, sh, ?_, h2, okB, hs, fun r hr3 => ?_⟩
    · rw [e]
      rfl
    · rw [← e, brs_of okB.nd hs] at k
      exact k r hr3
end
end Bc

namespace Bc
open PySem PySem.Spec PyProof.Rows L2
/-! ### the colours of all places -/
theorem sqT_dT {K : PySem.W.Frag} {H : Hp} {r d : Addr} {xs : List V} {kvs : List (List Key × V)} {o : HO} (h : SqT K H r xs) (e : H d = some (.dT kvs)) : SqT K (upd H d o) r xs := by
  rcases h with (h | ⟨u, h⟩) | h
  · exact .inl (.inl (by rw [upd_ne (fun z => by rw [z, e] at h; cases h)]; exact h))
  · exact .inl (.inr ⟨u, by rw [upd_ne (fun z => by rw [z, e] at h; cases h)]; exact h⟩)
  · exact .inr h
abbrev nCols : List Str := ["bag", "roots", "found", "name", "n", "colour"]
theorem scCols : FnScope nCols ["bag", "roots"] (defScope sColsAt) := ⟨rfl, rfl, rfl, by decide +kernel, rfl, by decide +kernel, by decide +kernel⟩
/-- roots are given as a list or a tuple -/
def RootsAt (K : PySem.W.Frag) (H : Hp) (r : Addr) (roots : List Str) : Prop := SqL K H r (roots.map V.str) ∨ SqT K H r (roots.map V.str)
structure OkPl (shs : List Shp) (js : List Jnt) (roots : List Str) : Prop where
  b : OkBook shs
  g : OkBag (wordsS shs) js
  l : ∀ s ∈ shs, s.2.2.length ≤ 30
  r : roots.length ≤ 1000
def spCols (K : PySem.W.Frag) (CB CG : Addr) : Sp := fun vs H Q _ => ∃ (g r : Addr) (shs : List Shp) (js : List Jnt) (roots : List Str), vs = [.ref g, .ref r] ∧ BagAt K H CB CG g shs js ∧ RootsAt K H r roots ∧ OkPl shs js roots ∧
  ∀ d H', Same H H' → H d = none → H' d = some (.dT (dctP (plcs shs roots js))) → Q (.ref d) H'
theorem small31 {n : Nat} (h : n ≤ 40000) : n < sizeLine := by
  rw [sizeLine_eq]
  omega
section
variable {P : Program} {w : World} {K : PySem.W.Frag} {mg : Str → Option Value} {base : Heap} {CB CG : Addr}
theorem ok_cols {f fN fB : Addr} {fd fdN fdB : FuncData} (F : Fun K "colours_at" "colours_at" sColsAt f fd) (c : Cls K CG) (T : Wt mg) (gR : ∃ t, mg "ROOT" = some (.str "root" t))
    (mN : Meth K CG "names" fN) (GN : FnOk P w K mg base CX0 1 fN fdN ["self"] (spBagN K CB CG)) (bN : Binds K fdN ["self"] [])
    (mB : Meth K CG "branches" fB) (GB : FnOk P w K mg base CX0 3 fB fdB ["self", "name"] (spBagB K CB CG)) (bB : Binds K fdB ["self", "name"] []) : FnOk P w K mg base CX0 4 f fd ["bag", "roots"] (spCols K CB CG) := by
  refine F.ok scCols (fun vs H Q E h => ?_) (fun cdv A outer s H vs Q E hr h => ?_)
  · obtain ⟨g, r, shs, js, roots, rfl, _⟩ := h
    rfl
  · obtain ⟨g, r, shs, js, roots, rfl, hG, hR, ok, k⟩ := h
    have hu : (A.deeper (envOfC "colours_at" (defScope sColsAt) s.heap.objs.size f cdv)).units + 1 < cLine := hu1 hr
    have hu0 : (A.deeper (envOfC "colours_at" (defScope sColsAt) s.heap.objs.size f cdv)).units < cLine := by omega
    have hr1 : Room 1 _ := hr.mono (by decide)
    have W : Well roots js := ⟨ok.g.nd, fun j hj => (ok.g.name j hj).2⟩
    obtain ⟨dxg, bg, dg, g1, g2, g3⟩ := id hG
    have rest : ∃ t, PSs (cxOf CX0 P w K mg base nCols "colours_at" (defScope sColsAt) f cdv A outer s H E).nox ((defBody sColsAt).drop 1) t ∧ ∀ (d : Addr) (H1 : Hp), Same H H1 → H d = none → H1 d = some (.dT (dctP (rowP "root" 0 roots))) → t { nx := fun _ H' => Q .non H', rt := Q } [some (.ref g), some (.ref r), some (.ref d), none, none, none] H1 := by
      refine ⟨_, pss_cons (ps_for PassesOwn.never rfl (pi_list (pe_meth0 (pv 0) c mN GN hr1 bN .nil pass0)) (pg_name (i := 3) scCols.nd rfl (.inl rfl))
          (pss_one (ps_for PassesOwn.never rfl (pi_enumT (by rfl) T.enu (pa_cons (pe_meth (pv 0) c mB GB hr bB .nil pass0 (pa_cons (pv 3) pa_nil)) pa_nil)) (pg_tup rfl (pgs_cons (pg_name (i := 4) scCols.nd rfl (.inl rfl)) (pgs_cons (pg_name (i := 5) scCols.nd rfl (.inl rfl)) pgs_nil)))
            (pss_one (ps_dput hu (pv 2) (pe_tup (pa_cons (pv 3) (pa_cons (pv 4) pa_nil))) (pv 5) rfl)))))
        (pss_one (ps_ret (pv 2))), ?_⟩
      intro d H1 s1 nd e1
      refine ⟨_, rfl, g, dxg, _, rfl, s1 _ _ g1, rfl, g, shs, js, rfl, hG.same s1, fun p H2 s2 np ep => ?_⟩
      have ed2 := s2 _ _ e1
      have ndp : d ≠ p := ne_of_none e1 np
      have np0 : H p = none := s1.free np
      refine ⟨p, rfl, ⟨_, .inl (.inl ep)⟩, for_it (walk_list (K := K) (a := p) (xs := (namesJ js).map V.str)) (fun i σ H' => (∃ v3 v4 v5, σ = [some (.ref g), some (.ref r), some (.ref d), v3, v4, v5]) ∧ Same H H' ∧ H' p = some (.lst ((namesJ js).map V.str)) ∧ H' d = some (.dT (dctP (plcs shs roots (js.take i)))))
        ⟨⟨_, _, _, rfl⟩, s1.trans s2, ep, by rw [List.take_zero, plcs_nil]; exact ed2⟩ (fun i σ H' _ h => .inl (.inl h.2.2.1)) ?_ ?_⟩
      · rintro i x σ H3' H3 hi ⟨⟨v3, v4, v5, rfl⟩, s3, ep3, ed3⟩ ⟨rfl, hxi⟩
        obtain ⟨j, hj, rfl⟩ : ∃ j, js[i]? = some j ∧ x = V.str j.1 := by
          unfold namesJ at hxi
          rw [List.map_map, List.getElem?_map] at hxi
          cases e : js[i]? with
          | none =>
            rw [e] at hxi
            cases hxi
          | some j =>
            rw [e] at hxi
            exact ⟨j, rfl, (Option.some.inj hxi).symm⟩
        have hil : i < js.length := (List.getElem?_eq_some_iff.mp hj).1
        have hm := List.mem_of_getElem? hj
        refine ⟨_, rfl, g, dxg, _, rfl, s3 _ _ g1, rfl, _, rfl, g, shs, js, j, rfl, hG.same s3, ok.b, ok.g, hm, fun b hb => ?_⟩
        refine ⟨b, _, rfl, hb, for_it (walk_enumT (K := K) (a := b) (xs := (brs shs j.2).map V.str)) (fun n σ H' => (∃ v4 v5, σ = [some (.ref g), some (.ref r), some (.ref d), some (.str j.1), v4, v5]) ∧ Same H H' ∧ SqT K H' b ((brs shs j.2).map V.str) ∧ H' p = some (.lst ((namesJ js).map V.str)) ∧ H' d = some (.dT (dctP (plcs shs roots (js.take i) ++ rowP j.1 0 ((brs shs j.2).take n)))))
          ⟨⟨_, _, rfl⟩, s3, hb, ep3, by rw [List.take_zero]; show H3 d = some (.dT (dctP (plcs shs roots (js.take i) ++ []))); rw [List.append_nil]; exact ed3⟩ (fun n σ H' _ h => h.2.2.1) ?_ ?_⟩
        · rintro n x σ H4 H4' hn ⟨⟨v4, v5, rfl⟩, s4, hb4, ep4, ed4⟩ ⟨q, x1, y1, rfl, hq, rfl, e1', e2⟩
          cases (Option.some.inj e1')
          obtain ⟨col, hcol, rfl⟩ : ∃ col, (brs shs j.2)[n]? = some col ∧ y1 = V.str col := by
            have e2 : ((brs shs j.2).map V.str)[n]? = some y1 := e2
            rw [List.getElem?_map] at e2
            cases e : (brs shs j.2)[n]? with
            | none =>
              rw [e] at e2
              cases e2
            | some b =>
              rw [e] at e2
              exact ⟨b, rfl, (Option.some.inj e2).symm⟩
          rw [List.length_map] at hn
          have sq := same_new (o := .tup [.int (n : Nat), .str col]) hq
          refine ⟨q, _, rfl, .inl (.inl upd_same), rfl, _, _, rfl, _, _, rfl, rfl, ?_⟩
          have ed5 := sq _ _ ed4
          refine ⟨_, rfl, _, rfl, _, rfl, _, rfl, (by show 2 ≤ sizeLine; decide), fun t ht => ?_⟩
          have st := same_new (o := .tup [.str j.1, .int (n : Nat)]) ht
          have len : (dctP (plcs shs roots (js.take i) ++ rowP j.1 0 ((brs shs j.2).take n))).length < sizeLine := by
            have a1 := plcs_len ok.l roots (js.take i)
            have a2 := brs_len ok.l j.2
            have a3 := ok.g.ln
            have a4 := ok.r
            rw [List.length_take] at a1
            unfold dctP
            rw [List.length_map, List.length_append, rowP_len, List.length_take]
            exact small31 (by omega)
          refine ⟨d, _, rfl, DPut.t (k := plK (j.1, n)) (st _ _ ed5) (by rw [upd_same]; rfl) len, ⟨_, _, rfl⟩, Same.over ((s4.trans sq).trans st) nd, sqT_dT (Same.sqT (sq.trans st) hb4) (st _ _ ed5), ?_, ?_⟩
          · rw [upd_ne (Ne.symm ndp)]
            exact st _ _ (sq _ _ ep4)
          · rw [upd_same, putK_new _ (plcs_new W hj (by rw [List.length_take]; omega)), List.take_add_one, hcol]
            show _ = some (HO.dT (dctP (plcs shs roots (js.take i) ++ rowP j.1 0 ((brs shs j.2).take n ++ [col]))))
            rw [rowP_snoc, ← List.append_assoc, dctP_snoc, List.length_take, Nat.min_eq_left (Nat.le_of_lt hn), Nat.zero_add]
        · rintro σ H4 ⟨⟨v4, v5, rfl⟩, s4, _, ep4, ed4⟩
          refine ⟨⟨_, _, _, rfl⟩, s4, ep4, ?_⟩
          rw [List.length_map, List.take_length] at ed4
          rw [List.take_add_one, hj]
          show H4 d = some (.dT (dctP (plcs shs roots (js.take i ++ [j]))))
          rw [plcs_snoc]
          exact ed4
      · rintro σ H3 ⟨⟨v3, v4, v5, rfl⟩, s3, ep3, ed3⟩
        refine ⟨_, rfl, k d H3 s3 nd ?_⟩
        rw [List.length_map, show (namesJ js).length = js.length from List.length_map .., List.take_length] at ed3
        exact ed3
    obtain ⟨tr, hr_, rest⟩ := rest
    have turn : ∀ (D : Addr) (n : Nat) (x : V) (H3 H3' : Hp), H D = none → n < (roots.map V.str).length → Same H H3 → H3 D = some (.dT (dctP (rowP "root" 0 (roots.take n)))) → YPair (fun i => some (.int (i : Nat))) (fun i => (roots.map V.str)[i]?) n H3 x H3' →
        ∃ (q : Addr) (col : Str), x = .ref q ∧ H3 q = none ∧ H3' = upd H3 q (.tup [.int (n : Nat), .str col]) ∧ ∀ t, H3' t = none → ∃ H6, DPut (upd H3' t (.tup [.str "root", .int (n : Nat)])) D (.ref t) (.str col) H6 ∧ Same H H6 ∧ H6 D = some (.dT (dctP (rowP "root" 0 (roots.take (n + 1))))) := by
      rintro D n x H3 H3' nD hn s3 e3 ⟨q, x1, y1, rfl, hq, rfl, e1', e2⟩
      cases (Option.some.inj e1')
      obtain ⟨col, hcol, rfl⟩ : ∃ col, roots[n]? = some col ∧ y1 = V.str col := by
        have e2 : (roots.map V.str)[n]? = some y1 := e2
        rw [List.getElem?_map] at e2
        cases e : roots[n]? with
        | none =>
          rw [e] at e2
          cases e2
        | some b =>
          rw [e] at e2
          exact ⟨b, rfl, (Option.some.inj e2).symm⟩
      rw [List.length_map] at hn
      have sq := same_new (o := .tup [.int (n : Nat), .str col]) hq
      refine ⟨q, col, rfl, hq, rfl, fun t ht => ?_⟩
      have st := same_new (o := .tup [.str "root", .int (n : Nat)]) ht
      have len : (dctP (rowP "root" 0 (roots.take n))).length < sizeLine := by
        have a4 := ok.r
        unfold dctP
        rw [List.length_map, rowP_len, List.length_take]
        exact small31 (by omega)
      refine ⟨_, DPut.t (k := plK ("root", n)) (st _ _ (sq _ _ e3)) (by rw [upd_same]; rfl) len, Same.over ((s3.trans sq).trans st) nD, ?_⟩
      rw [upd_same, putK_new _ (root_new (by rw [List.length_take]; omega)), List.take_add_one, hcol]
      show _ = some (HO.dT (dctP (rowP "root" 0 (roots.take n ++ [col]))))
      rw [rowP_snoc, dctP_snoc, List.length_take, Nat.min_eq_left (Nat.le_of_lt hn), Nat.zero_add]
    have last : ∀ (D : Addr) (H3 : Hp), H D = none → Same H H3 ∧ H3 D = some (.dT (dctP (rowP "root" 0 (roots.take (roots.map V.str).length)))) → Same H H3 ∧ H D = none ∧ H3 D = some (.dT (dctP (rowP "root" 0 roots))) := fun D H3 nD h => by
      have h2 := h.2
      rw [List.length_map, List.take_length] at h2
      exact ⟨h.1, nD, h2⟩
    rcases hR with hR | hR
    · refine ⟨_, pss_cons (ps_setDcT (i := 2) (own := [("n", 4), ("colour", 5)]) (g := gTup K 2 (gCons (gName 4) (gCons (gName 5) gNil))) (tt := tYes) hu0 rfl scCols.nd rfl rfl (sw_dict rfl rfl rfl (by decide +kernel)) (pi_enum (by rfl) T.enu (pa_cons (pv 1) pa_nil)) (blkOk_by (own := [("n", 4), ("colour", 5)]) (N := nCols) (sc := defScope sColsAt) (by decide +kernel))
          (fun _ _ _ _ _ => pg_tup rfl (pgs_cons (pg_name (i := 4) scCols.nd rfl (.inl rfl)) (pgs_cons (pg_name (i := 5) scCols.nd rfl (.inl rfl)) pgs_nil))) (fun _ _ _ _ _ => pts_nil) (fun _ _ _ _ _ => pe_tup (pa_cons (pe_cstr (by rfl) gR) (pa_cons (pv 4) pa_nil))) (fun _ _ _ _ _ => pv 5)) hr_, ?_⟩
      refine ⟨_, rfl, r, _, rfl, hR, fun D hD => dcP_it (walk_enum (K := K) (a := r) (xs := roots.map V.str)) (fun i H' => Same H H' ∧ H' D = some (.dT (dctP (rowP "root" 0 (roots.take i))))) ⟨same_new hD, upd_same⟩ (fun i H' _ h => h.1.seq hR) ?_ ?_⟩
      · rintro n x H3 H3' hn ⟨s3, e3⟩ y
        obtain ⟨q, col, rfl, hq, rfl, g⟩ := turn D n x H3 H3' hD hn s3 e3 y
        refine ⟨q, _, rfl, .inl (.inl upd_same), rfl, _, _, rfl, _, _, rfl, rfl, rfl, lc_yes ?_⟩
        refine ⟨_, rfl, (by show 2 ≤ sizeLine; decide), fun t ht => ⟨_, rfl, ?_⟩⟩
        exact g t ht
      · intro H3 h
        obtain ⟨a1, a2, a3⟩ := last D H3 hD h
        exact rest D H3 a1 a2 a3
    · refine ⟨_, pss_cons (ps_setDcT (i := 2) (own := [("n", 4), ("colour", 5)]) (g := gTup K 2 (gCons (gName 4) (gCons (gName 5) gNil))) (tt := tYes) hu0 rfl scCols.nd rfl rfl (sw_dict rfl rfl rfl (by decide +kernel)) (pi_enumT (by rfl) T.enu (pa_cons (pv 1) pa_nil)) (blkOk_by (own := [("n", 4), ("colour", 5)]) (N := nCols) (sc := defScope sColsAt) (by decide +kernel))
          (fun _ _ _ _ _ => pg_tup rfl (pgs_cons (pg_name (i := 4) scCols.nd rfl (.inl rfl)) (pgs_cons (pg_name (i := 5) scCols.nd rfl (.inl rfl)) pgs_nil))) (fun _ _ _ _ _ => pts_nil) (fun _ _ _ _ _ => pe_tup (pa_cons (pe_cstr (by rfl) gR) (pa_cons (pv 4) pa_nil))) (fun _ _ _ _ _ => pv 5)) hr_, ?_⟩
      refine ⟨_, rfl, r, _, rfl, hR, fun D hD => dcP_it (walk_enumT (K := K) (a := r) (xs := roots.map V.str)) (fun i H' => Same H H' ∧ H' D = some (.dT (dctP (rowP "root" 0 (roots.take i))))) ⟨same_new hD, upd_same⟩ (fun i H' _ h => Same.sqT h.1 hR) ?_ ?_⟩
      · rintro n x H3 H3' hn ⟨s3, e3⟩ y
        obtain ⟨q, col, rfl, hq, rfl, g⟩ := turn D n x H3 H3' hD hn s3 e3 y
        refine ⟨q, _, rfl, .inl (.inl upd_same), rfl, _, _, rfl, _, _, rfl, rfl, rfl, lc_yes ?_⟩
        refine ⟨_, rfl, (by show 2 ≤ sizeLine; decide), fun t ht => ⟨_, rfl, ?_⟩⟩
        exact g t ht
      · intro H3 h
        obtain ⟨a1, a2, a3⟩ := last D H3 hD h
        exact rest D H3 a1 a2 a3
end
end Bc

namespace Bc
open PySem PySem.Spec PyProof.Rows L2
/-! ### what is a place -/
def tyName : PyData → String
  | .none => "NoneType"
  | .bool _ => "bool"
  | .int _ => "int"
  | .str _ => "str"
  | .list _ => "list"
  | .tuple _ => "tuple"
  | .dict _ => "dict"
theorem tyD {K : PySem.W.Frag} {H : Hp} {v : V} {d : PyData} (h : Dq K H v d) : TyX K H v (.type (tyName d)) := by
  cases h with
  | non => exact .base .non
  | bl b => exact .base (.bl b)
  | int i => exact .base (.int i)
  | str x => exact .base (.str x)
  | lst hs _ _ => exact tyL hs
  | tup hs _ => exact tyT hs
  | dic e _ => exact .base (.dK e)
def pairKey (a b : PyData) : Option (List Key) := match a with
  | .str x => (match b with
    | .int i => some [.inr x, .inl i]
    | _ => none)
  | _ => none
def keyOf : PyData → Option (List Key)
  | .tuple ds => (match ds with
    | [] => none
    | a :: r => (match r with
      | [] => none
      | b :: q => (match q with
        | [] => pairKey a b
        | _ :: _ => none)))
  | _ => none
/-- a pair of a text and a number stands as such -/
def PairV (H : Hp) (v : V) (d : PyData) : Prop := ∀ k, keyOf d = some k → ∃ b, v = .ref b ∧ H b = some (.tup (k.map kV))
def amongK (kvs : List (List Key × V)) (d : PyData) : Bool := match keyOf d with
  | some k => (valV kvs k).isSome
  | none => false
abbrev isTupD : PyData → Bool
  | .tuple _ => true
  | _ => false
abbrev isStrD : PyData → Bool
  | .str _ => true
  | _ => false
abbrev isIntD : PyData → Bool
  | .int _ => true
  | .bool _ => true
  | _ => false
abbrev isBoolD : PyData → Bool
  | .bool _ => true
  | _ => false
theorem kit_tup {K : PySem.W.Frag} (d : PyData) : PySem.W.kitOne K (.type (tyName d)) (.type "tuple") = some (isTupD d) := by
  cases d with
  | none => exact kit_ty (show kitB "NoneType" "tuple" = some false from by decide +kernel)
  | bool _ => exact kit_ty (show kitB "bool" "tuple" = some false from by decide +kernel)
  | int _ => exact kit_ty (show kitB "int" "tuple" = some false from by decide +kernel)
  | str _ => exact kit_ty (show kitB "str" "tuple" = some false from by decide +kernel)
  | list _ => exact kit_ty (show kitB "list" "tuple" = some false from by decide +kernel)
  | tuple _ => exact kit_ty (show kitB "tuple" "tuple" = some true from by decide +kernel)
  | dict _ => exact kit_ty (show kitB "dict" "tuple" = some false from by decide +kernel)
theorem kit_str {K : PySem.W.Frag} (d : PyData) : PySem.W.kitOne K (.type (tyName d)) (.type "str") = some (isStrD d) := by
  cases d with
  | none => exact kit_ty (show kitB "NoneType" "str" = some false from by decide +kernel)
  | bool _ => exact kit_ty (show kitB "bool" "str" = some false from by decide +kernel)
  | int _ => exact kit_ty (show kitB "int" "str" = some false from by decide +kernel)
  | str _ => exact kit_ty (show kitB "str" "str" = some true from by decide +kernel)
  | list _ => exact kit_ty (show kitB "list" "str" = some false from by decide +kernel)
  | tuple _ => exact kit_ty (show kitB "tuple" "str" = some false from by decide +kernel)
  | dict _ => exact kit_ty (show kitB "dict" "str" = some false from by decide +kernel)
theorem kit_int {K : PySem.W.Frag} (d : PyData) : PySem.W.kitOne K (.type (tyName d)) (.type "int") = some (isIntD d) := by
  cases d with
  | none => exact kit_ty (show kitB "NoneType" "int" = some false from by decide +kernel)
  | bool _ => exact kit_ty (show kitB "bool" "int" = some true from by decide +kernel)
  | int _ => exact kit_ty (show kitB "int" "int" = some true from by decide +kernel)
  | str _ => exact kit_ty (show kitB "str" "int" = some false from by decide +kernel)
  | list _ => exact kit_ty (show kitB "list" "int" = some false from by decide +kernel)
  | tuple _ => exact kit_ty (show kitB "tuple" "int" = some false from by decide +kernel)
  | dict _ => exact kit_ty (show kitB "dict" "int" = some false from by decide +kernel)
theorem kit_bool {K : PySem.W.Frag} (d : PyData) : PySem.W.kitOne K (.type (tyName d)) (.type "bool") = some (isBoolD d) := by
  cases d with
  | none => exact kit_ty (show kitB "NoneType" "bool" = some false from by decide +kernel)
  | bool _ => exact kit_ty (show kitB "bool" "bool" = some true from by decide +kernel)
  | int _ => exact kit_ty (show kitB "int" "bool" = some false from by decide +kernel)
  | str _ => exact kit_ty (show kitB "str" "bool" = some false from by decide +kernel)
  | list _ => exact kit_ty (show kitB "list" "bool" = some false from by decide +kernel)
  | tuple _ => exact kit_ty (show kitB "tuple" "bool" = some false from by decide +kernel)
  | dict _ => exact kit_ty (show kitB "dict" "bool" = some false from by decide +kernel)
theorem scAmong : FnScope ["places", "value"] ["places", "value"] (defScope sAmong) := ⟨rfl, rfl, rfl, by decide +kernel, rfl, by decide +kernel, by decide +kernel⟩
def spAmong (K : PySem.W.Frag) : Sp := fun vs H Q _ => ∃ (d : Addr) (kvs : List (List Key × V)) (v : V) (pd : PyData), vs = [.ref d, v] ∧ H d = some (.dT kvs) ∧ Dq K H v pd ∧ (∀ ds, pd = .tuple ds → ds.length ≤ 1000) ∧ PairV H v pd ∧ Q (.bl (amongK kvs pd)) H
theorem ite_no {c : Bool} {A B : Prop} (hc : c = false) (h : B) : if c = true then A else B := by
  rw [hc, if_neg Bool.false_ne_true]
  exact h
theorem ite_yes {c : Bool} {A B : Prop} (hc : c = true) (h : A) : if c = true then A else B := by
  rw [if_pos hc]
  exact h
section
variable {P : Program} {w : World} {K : PySem.W.Frag} {mg : Str → Option Value} {base : Heap}
theorem scNum : FnScope ["value"] ["value"] (defScope sIsNum) := ⟨rfl, rfl, rfl, by decide +kernel, rfl, by decide +kernel, by decide +kernel⟩
def spNum (K : PySem.W.Frag) : Sp := fun vs H Q _ => ∃ (v : V) (pd : PyData), vs = [v] ∧ Dq K H v pd ∧ Q (.bl (isIntD pd && !isBoolD pd)) H
theorem ok_num {f : Addr} {fd : FuncData} (F : Fun K "is_number" "is_number" sIsNum f fd) (B : Blt mg) (W : Wd mg) (mb : mg "bool" = none) : FnOk P w K mg base CX0 1 f fd ["value"] (spNum K) := by
  refine F.ok scNum (fun vs H Q E h => ?_) (fun cdv A outer s H vs Q E hr h => ?_)
  · obtain ⟨v, pd, rfl, _⟩ := h
    rfl
  · obtain ⟨v, pd, rfl, hv, k⟩ := h
    refine ⟨_, pss_one (ps_ret (pe_and (pe_callB call_isi (by rfl) W.isi (by decide +kernel) (pa_cons (pv 0) (pa_cons (pe_bty (T := "int") (by rfl) B.int (by decide +kernel)) pa_nil)))
      (pe_one (pe_not (pe_callB call_isi (by rfl) W.isi (by decide +kernel) (pa_cons (pv 0) (pa_cons (pe_bty (T := "bool") (by rfl) mb (by decide +kernel)) pa_nil))))))), ?_⟩
    refine ⟨_, rfl, _, _, _, _, isIntD pd, rfl, .ty "int", tyD hv, kit_int pd, isIntD pd, rfl, ?_⟩
    cases e : isIntD pd with
    | false =>
      rw [e] at k
      exact ite_no rfl k
    | true =>
      rw [e] at k
      exact ite_yes rfl ⟨_, rfl, _, _, _, _, isBoolD pd, rfl, .ty "bool", tyD hv, kit_bool pd, isBoolD pd, rfl, k⟩
theorem ok_among {f fN : Addr} {fd fdN : FuncData} (F : Fun K "is_among" "is_among" sAmong f fd) (B : Blt mg) (W : Wd mg) (T : Wt mg) (GN : FnOk P w K mg base CX0 1 fN fdN ["value"] (spNum K)) (bN : Binds K fdN ["value"] []) (gN : mg "is_number" = some (.ref fN)) (kN : PySem.W.keepIn K (.ref fN) = true) : FnOk P w K mg base CX0 2 f fd ["places", "value"] (spAmong K) := by
  refine F.ok scAmong (fun vs H Q E h => ?_) (fun cdv A outer s H vs Q E hr h => ?_)
  · obtain ⟨d, kvs, v, pd, rfl, _⟩ := h
    rfl
  · obtain ⟨d, kvs, v, pd, rfl, hd, hv, hl, hp, k⟩ := h
    have hu : (A.deeper (envOfC "is_among" (defScope sAmong) s.heap.objs.size f cdv)).units + 1 < cLine := hu1 hr
    have hr1 : Room 1 _ := hr
    refine ⟨_, pss_cons (ps_if (PW.pt (pw_or (pt_not (pt_val (pe_callB call_isi (by rfl) W.isi (by decide +kernel) (pa_cons (pv 1) (pa_cons (pe_bty (T := "tuple") (by rfl) T.tup (by decide +kernel)) pa_nil)))))
          (pw_or (pt_cmpR op_ne (pe_callB call_len (by rfl) B.len (by decide +kernel) (pa_cons (pv 1) pa_nil)) pe_int (nomark _))
          (pw_or1 (pt_not (pt_val (pe_callB call_isi (by rfl) W.isi (by decide +kernel) (pa_cons (pe_ix (show IxR _ (rIxT K) from ix_tup) (pv 1) pe_int (fun _ _ => rfl)) (pa_cons (pe_bty (T := "str") (by rfl) W.str (by decide +kernel)) pa_nil))))))))) (pss_one (ps_ret pe_bl)) pss_nil)
      (pss_one (ps_ret (pe_and (pe_call GN hr1 (by rfl) gN kN bN .nil pass0 (pa_cons (pe_ix (show IxR _ (rIxT K) from ix_tup) (pv 1) pe_int (fun _ _ => rfl)) pa_nil)) (pe_one (pe_cmp (pc_din hu (pv 1) (pv 0))))))), ?_⟩
    have no : keyOf pd = none → Q (.bl false) H := fun e => by
      unfold amongK at k
      rw [e] at k
      exact k
    refine ⟨_, rfl, _, _, _, _, isTupD pd, rfl, .ty "tuple", tyD hv, kit_tup pd, isTupD pd, rfl, ?_⟩
    by_cases ht : isTupD pd = false
    · refine ite_yes (by rw [ht]; rfl) (no ?_)
      cases pd <;> first | rfl | exact Bool.noConfusion ht
    have ht : isTupD pd = true := by simpa using ht
    obtain ⟨ds, rfl⟩ : ∃ ds, pd = .tuple ds := by
      cases pd <;> first | exact ⟨_, rfl⟩ | exact Bool.noConfusion ht
    refine ite_no rfl ?_
    obtain ⟨b, xs, rfl, hq, hall⟩ := hv.tup_inv
    have hlen := hl ds rfl
    have lx : xs.length = ds.length := hall.len
    refine ⟨_, rfl, _, xs.length, rfl, .inr ⟨_, hq, rfl⟩, rfl, _, rfl, ?_⟩
    by_cases h2 : ¬ ds.length = 2
    · refine ite_yes ?_ (no ?_)
      · rw [lx]
        have z : ¬ (V.int (ds.length : Nat) = V.int 2) := fun e => h2 (by injection e with e; omega)
        rw [decide_eq_false z]
        rfl
      · match ds, h2 with
        | [], _ => rfl
        | [_], _ => rfl
        | [_, _], h => exact absurd rfl h
        | _ :: _ :: _ :: _, _ => rfl
    have h2 : ds.length = 2 := by omega
    obtain ⟨a, a', rfl⟩ : ∃ a a', ds = [a, a'] := by
      match ds, h2 with
      | [x, y], _ => exact ⟨x, y, rfl⟩
    obtain ⟨va, _, rfl, ha, hall⟩ := hall.cons_inv
    obtain ⟨vb, _, rfl, hb, hall⟩ := hall.cons_inv
    cases hall.nil_inv
    refine ite_no (show (!decide (V.int ((2 : Nat) : Int) = V.int 2)) = false by decide +kernel) ?_
    refine ⟨_, rfl, b, [va, vb], _, va, rfl, rfl, hq, L2.at_of (j := 0) rfl rfl, _, _, _, _, isStrD a, rfl, .ty "str", tyD ha, kit_str a, isStrD a, rfl, ?_⟩
    by_cases hs : isStrD a = false
    · refine ite_yes (by rw [hs]; rfl) (no ?_)
      cases a <;> first | rfl | exact Bool.noConfusion hs
    have hs : isStrD a = true := by simpa using hs
    obtain ⟨x, rfl⟩ : ∃ x, a = .str x := by
      cases a <;> first | exact ⟨_, rfl⟩ | exact Bool.noConfusion hs
    refine ite_no rfl ?_
    refine ⟨_, rfl, b, [va, vb], _, vb, rfl, rfl, hq, L2.at_of (j := 1) rfl rfl, vb, a', rfl, hb, _, rfl, ?_⟩
    by_cases hz : (isIntD a' && !isBoolD a') = true
    · refine ite_yes hz ?_
      obtain ⟨i, rfl⟩ : ∃ i, a' = .int i := by
        cases a' <;> first | exact ⟨_, rfl⟩ | exact Bool.noConfusion hz
      obtain ⟨b', e, hb'⟩ := hp [.inr x, .inl i] rfl
      cases e
      exact ⟨_, rfl, _, rfl, d, _, rfl, DGet.t hd hb', k⟩
    · have hz : (isIntD a' && !isBoolD a') = false := by simpa using hz
      refine ite_no hz (no ?_)
      cases a' <;> first | rfl | exact Bool.noConfusion hz
end
end Bc

namespace Bc
open PySem PySem.Spec PyProof.Rows L2
/-! ### places_of, colour_of -/
def dPl (p : Plc) : PyData := .tuple [.str p.1, .int (p.2 : Int)]
theorem keyOf_pl (p : Plc) : keyOf (dPl p) = some (plK p) := rfl
theorem isKeys_dq {K : PySem.W.Frag} {H : Hp} : ∀ (ps : List (Plc × Str)) (bs : List Addr), IsKeys H (dctP ps) bs → DqAll K H (bs.map V.ref) (ps.map fun q => dPl q.1)
  | [], bs, h => by
    cases h
    exact .nil
  | q :: ps, bs, h => by
    have h : Paired (fun (p : List Key × V) b => H b = some (.tup (p.1.map kV))) ((plK q.1, V.str q.2) :: dctP ps) bs := h
    cases h with
    | cons h1 h2 => exact .cons (.tup (.inl (.inl h1)) (.cons (.str _) (.cons (.int _) .nil))) (isKeys_dq ps _ h2)
theorem scPlaces : FnScope ["bag", "roots"] ["bag", "roots"] (defScope sPlaces) := ⟨rfl, rfl, rfl, by decide +kernel, rfl, by decide +kernel, by decide +kernel⟩
theorem scColOf : FnScope ["bag", "roots", "place", "colours"] ["bag", "roots", "place"] (defScope sColOf) := ⟨rfl, rfl, rfl, by decide +kernel, rfl, by decide +kernel, by decide +kernel⟩
def spPlaces (K : PySem.W.Frag) (CB CG : Addr) : Sp := fun vs H Q _ => ∃ (g r : Addr) (shs : List Shp) (js : List Jnt) (roots : List Str), vs = [.ref g, .ref r] ∧ BagAt K H CB CG g shs js ∧ RootsAt K H r roots ∧ OkPl shs js roots ∧
  ∀ p xs H', Same H H' → H p = none → H' p = some (.lst xs) → DqAll K H' xs ((plcs shs roots js).map fun q => dPl q.1) → Q (.ref p) H'
def spColOf (K : PySem.W.Frag) (CB CG CU : Addr) : Sp := fun vs H Q E => ∃ (g r : Addr) (v : V) (pd : PyData) (shs : List Shp) (js : List Jnt) (roots : List Str), vs = [.ref g, .ref r, v] ∧ BagAt K H CB CG g shs js ∧ RootsAt K H r roots ∧ OkPl shs js roots ∧
  Dq K H v pd ∧ (∀ ds, pd = .tuple ds → ds.length ≤ 1000) ∧ PairV H v pd ∧
  (∀ H' p c, Same H H' → pd = dPl p → (p, c) ∈ plcs shs roots js → Q (.str c) H') ∧
  (amongK (dctP (plcs shs roots js)) pd = false → ∀ d H', Same H H' → H d = none → H' d = some (.xd [("name", v)]) → E (.ref CU) (some d) H')
theorem key_pl {pd : PyData} {k : List Key} {ps : List (Plc × Str)} {v : V} (e : keyOf pd = some k) (h : valV (dctP ps) k = some v) : ∃ p, pd = dPl p ∧ k = plK p := by
  have m := valV_in h
  unfold dctP at m
  rw [List.map_map] at m
  obtain ⟨q, hq, e2⟩ := List.mem_map.mp m
  have e2 : plK q.1 = k := e2
  subst e2
  refine ⟨q.1, ?_, rfl⟩
  cases pd with
  | tuple ds =>
    match ds, e with
    | [a, b], e =>
      cases a with
      | str x =>
        cases b with
        | int i =>
          have e := Option.some.inj e
          obtain ⟨h1, h2⟩ := List.cons.inj e
          obtain ⟨h2, _⟩ := List.cons.inj h2
          cases h1
          cases h2
          rfl
        | _ => cases e
      | _ => cases e
    | [], e => cases e
    | [_], e => cases e
    | _ :: _ :: _ :: _, e => cases e
  | _ => cases e
section
variable {P : Program} {w : World} {K : PySem.W.Frag} {mg : Str → Option Value} {base : Heap} {CB CG CU : Addr}
theorem ok_places {f fC : Addr} {fd fdC : FuncData} (F : Fun K "places_of" "places_of" sPlaces f fd) (N : Nm mg) (GC : FnOk P w K mg base CX0 4 fC fdC ["bag", "roots"] (spCols K CB CG)) (bC : Binds K fdC ["bag", "roots"] []) (gC : mg "colours_at" = some (.ref fC)) (kC : PySem.W.keepIn K (.ref fC) = true) :
    FnOk P w K mg base CX0 5 f fd ["bag", "roots"] (spPlaces K CB CG) := by
  refine F.ok scPlaces (fun vs H Q E h => ?_) (fun cdv A outer s H vs Q E hr h => ?_)
  · obtain ⟨g, r, shs, js, roots, rfl, _⟩ := h
    rfl
  · obtain ⟨g, r, shs, js, roots, rfl, hG, hR, ok, k⟩ := h
    refine ⟨_, pss_one (ps_ret (pe_callTy (call_list_dT rfl) (by rfl) N.lst (by decide +kernel) (pa_cons (pe_call GC hr (by rfl) gC kC bC .nil pass0 (pa_cons (pv 0) (pa_cons (pv 1) pa_nil))) pa_nil))), ?_⟩
    refine ⟨_, rfl, _, rfl, g, r, shs, js, roots, rfl, hG, hR, ok, fun d H1 s1 nd ed => ?_⟩
    refine ⟨d, _, rfl, .inl ed, fun p bs np hb => ?_⟩
    have s2 := same_new (o := .lst (bs.map V.ref)) np
    exact k p _ _ (s1.trans s2) (s1.free np) upd_same (DqAll.same s2 (isKeys_dq _ bs hb))
theorem ok_colOf {f fC fA fI : Addr} {fd fdC fdA fdI : FuncData} (F : Fun K "colour_of" "colour_of" sColOf f fd) (GC : FnOk P w K mg base CX0 4 fC fdC ["bag", "roots"] (spCols K CB CG)) (bC : Binds K fdC ["bag", "roots"] []) (gC : mg "colours_at" = some (.ref fC)) (kC : PySem.W.keepIn K (.ref fC) = true)
    (GA : FnOk P w K mg base CX0 2 fA fdA ["places", "value"] (spAmong K)) (bA : Binds K fdA ["places", "value"] []) (gA : mg "is_among" = some (.ref fA)) (kA : PySem.W.keepIn K (.ref fA) = true)
    (T : XI K CU fI) (tyC : PySem.W.typeIn K (.ref CU) = some (.type "type")) (exC : PySem.W.subIn K (.ref CU) (.type "BaseException") = some true) (GI : FnOk P w K mg base CX0 1 fI fdI ["self", "name"] (spIn1 CU "name")) (bI : Binds K fdI ["self", "name"] []) (gU : mg "UnknownName" = some (.ref CU)) :
    FnOk P w K mg base (L2.CX P w) 5 f fd ["bag", "roots", "place"] (spColOf K CB CG CU) := by
  refine F.okX scColOf (fun vs H Q E h => ?_) (fun cdv A outer s H vs Q E hr h => ?_)
  · obtain ⟨g, r, v, pd, shs, js, roots, rfl, _⟩ := h
    rfl
  · obtain ⟨g, r, v, pd, shs, js, roots, rfl, hG, hR, ok, hv, hl, hp, kQ, kE⟩ := h
    have hr1 : Room 1 _ := hr.mono (by decide)
    have hr2 : Room 2 _ := hr.mono (by decide)
    have hu : (A.deeper (envOfC "colour_of" (defScope sColOf) s.heap.objs.size f cdv)).units + 1 < cLine := hu1 hr
    refine ⟨_, pss_cons (ps_set (i := 3) scColOf.nd rfl (.inl rfl) (pe_call GC hr (by rfl) gC kC bC .nil pass0 (pa_cons (pv 0) (pa_cons (pv 1) pa_nil))))
      (pss_cons (ps_if (pt_not (pt_val (pe_call GA hr2 (by rfl) gA kA bA .nil pass0 (pa_cons (pv 3) (pa_cons (pv 2) pa_nil))))) (pss_one (ps_raise rfl (takes_of rfl rfl rfl rfl) (pmk_one T tyC exC GI hr2 bI (by rfl) gU (pa_cons (pv 2) pa_nil)))) pss_nil)
      (pss_one (ps_ret (pe_dget hu (pv 3) (pv 2) (fun _ _ => rfl))))), ?_⟩
    refine ⟨_, rfl, _, rfl, g, r, shs, js, roots, rfl, hG, hR, ok, fun d H1 s1 nd ed => ?_⟩
    have hp1 : PairV H1 v pd := fun k e => by
      obtain ⟨b, e1, e2⟩ := hp k e
      exact ⟨b, e1, s1 _ _ e2⟩
    refine ⟨_, rfl, _, rfl, d, _, v, pd, rfl, ed, Dq.same s1 hv, hl, hp1, _, rfl, ?_⟩
    by_cases ha : amongK (dctP (plcs shs roots js)) pd = false
    · refine ite_yes (by rw [ha]; rfl) ?_
      refine ⟨_, rfl, v, rfl, fun d2 a n2 na => ?_⟩
      exact kE ha d2 _ (s1.trans (mkR_same n2 na)) (s1.free n2) upd_same
    · have ha : amongK (dctP (plcs shs roots js)) pd = true := by simpa using ha
      refine ite_no (by rw [ha]; rfl) ?_
      unfold amongK at ha
      cases e : keyOf pd with
      | none =>
        rw [e] at ha
        cases ha
      | some k =>
        rw [e] at ha
        obtain ⟨c, hc⟩ := Option.isSome_iff_exists.mp ha
        obtain ⟨p, rfl, rfl⟩ := key_pl e hc
        obtain ⟨col, hm⟩ := dctP_in hc
        have hg := dctP_get (plcs_nd (shs := shs) (roots := roots) ⟨ok.g.nd, fun j hj => (ok.g.name j hj).2⟩ js.length (Nat.le_refl _) |> fun z => by rw [List.take_length] at z; exact z) hm
        obtain ⟨b, rfl, hb⟩ := hp1 _ e
        refine ⟨_, rfl, _, rfl, d, V.str col, rfl, ?_, kQ H1 p col s1 rfl hm⟩
        rw [← hg]
        exact DGet.t ed hb
end
end Bc

namespace Bc
open PySem PySem.Spec PyProof.Rows L2
/-! ### the places and colours that are due -/
/-- a pair of a place and its colour -/
def Pc1 (K : PySem.W.Frag) (H : Hp) (x : V) (q : Plc × Str) : Prop := ∃ t b, x = .ref t ∧ SqT K H t [.ref b, .str q.2] ∧ H b = some (.tup [.str q.1.1, .int (q.1.2 : Int)])
theorem Pc1.same {K : PySem.W.Frag} {H H' : Hp} {x : V} {q : Plc × Str} (h : Pc1 K H x q) (s : Same H H') : Pc1 K H' x q := by
  obtain ⟨t, b, e, h1, h2⟩ := h
  exact ⟨t, b, e, Same.sqT s h1, s _ _ h2⟩
abbrev PcAt (K : PySem.W.Frag) (H : Hp) (xs : List V) (ps : List (Plc × Str)) : Prop := Paired (Pc1 K H) xs ps
theorem PcAt.same {K : PySem.W.Frag} {H H' : Hp} {xs : List V} {ps : List (Plc × Str)} (h : PcAt K H xs ps) (s : Same H H') : PcAt K H' xs ps := by
  induction h with
  | nil => exact .nil
  | cons h _ ih => exact .cons (h.same s) ih
theorem PcAt.app {K : PySem.W.Frag} {H : Hp} {xs ys : List V} {ps qs : List (Plc × Str)} (h : PcAt K H xs ps) (g : PcAt K H ys qs) : PcAt K H (xs ++ ys) (ps ++ qs) := by
  induction h with
  | nil => exact g
  | cons h _ ih => exact .cons h ih
theorem sqT_lst {K : PySem.W.Frag} {H : Hp} {r d : Addr} {xs ys : List V} {o : HO} (h : SqT K H r xs) (e : H d = some (.lst ys)) : SqT K (upd H d o) r xs := by
  rcases h with (h | ⟨u, h⟩) | h
  · exact .inl (.inl (by rw [upd_ne (fun z => by rw [z, e] at h; cases h)]; exact h))
  · exact .inl (.inr ⟨u, by rw [upd_ne (fun z => by rw [z, e] at h; cases h)]; exact h⟩)
  · exact .inr h
theorem PcAt.lst {K : PySem.W.Frag} {H : Hp} {d : Addr} {xs ys : List V} {ps : List (Plc × Str)} {o : HO} (h : PcAt K H xs ps) (e : H d = some (.lst ys)) : PcAt K (upd H d o) xs ps := by
  induction h with
  | nil => exact .nil
  | cons h _ ih =>
    obtain ⟨t, b, e1, h1, h2⟩ := h
    exact .cons ⟨t, b, e1, sqT_lst h1 e, by rw [upd_ne (fun z => by rw [z, e] at h2; cases h2)]; exact h2⟩ ih
theorem row_step {K : PySem.W.Frag} {H0 H3 : Hp} {D t1 t2 : Addr} {acc : List V} {ps : List (Plc × Str)} {name c : Str} {n : Nat} (s : Same H0 H3) (nD : H0 D = none) (eD : H3 D = some (.lst acc)) (h : PcAt K H3 acc ps) (n1 : H3 t1 = none) (n2 : upd H3 t1 (.tup [.str name, .int (n : Int)]) t2 = none) :
    upd (upd H3 t1 (.tup [.str name, .int (n : Int)])) t2 (.tup [.ref t1, .str c]) D = some (.lst acc) ∧ Same H0 (upd (upd (upd H3 t1 (.tup [.str name, .int (n : Int)])) t2 (.tup [.ref t1, .str c])) D (.lst (acc ++ [.ref t2]))) ∧
      upd (upd (upd H3 t1 (.tup [.str name, .int (n : Int)])) t2 (.tup [.ref t1, .str c])) D (.lst (acc ++ [.ref t2])) D = some (.lst (acc ++ [.ref t2])) ∧
      PcAt K (upd (upd (upd H3 t1 (.tup [.str name, .int (n : Int)])) t2 (.tup [.ref t1, .str c])) D (.lst (acc ++ [.ref t2]))) (acc ++ [.ref t2]) (ps ++ [((name, n), c)]) := by
  have s1 := same_new (o := .tup [.str name, .int (n : Int)]) n1
  have s2 := same_new (o := .tup [.ref t1, .str c]) n2
  have eD2 := s2 _ _ (s1 _ _ eD)
  refine ⟨eD2, Same.over (s.trans (s1.trans s2)) nD, upd_same, PcAt.lst (PcAt.app (h.same (s1.trans s2)) (.cons ⟨t2, t1, rfl, .inl (.inl upd_same), s2 _ _ upd_same⟩ .nil)) eD2⟩
abbrev nDue : List Str := ["_law_shapes_here", "_law_joints", "_law_roots", "_law_found", "_law_name", "_law_word", "_law_branches", "_law_n", "_law_shape"]
theorem scDue : FnScope nDue ["_law_shapes_here", "_law_joints", "_law_roots"] (defScope sDue) := ⟨rfl, rfl, rfl, by decide +kernel, rfl, by decide +kernel, by decide +kernel⟩
def spDue (K : PySem.W.Frag) : Sp := fun vs H Q _ => ∃ (L J R : Addr) (xs ys : List V) (shs : List Shp) (js : List Jnt) (roots : List Str), vs = [.ref L, .ref J, .ref R] ∧ SqL K H L xs ∧ DqAll K H xs (shs.map dShape) ∧ SqL K H J ys ∧ DqAll K H ys (js.map dJoint) ∧ SqL K H R (roots.map V.str) ∧ OkPl shs js roots ∧
  ∀ p zs H', Same H H' → H p = none → H' p = some (.lst zs) → PcAt K H' zs (plcs shs roots js) → Q (.ref p) H'
section
variable {P : Program} {w : World} {K : PySem.W.Frag} {mg : Str → Option Value} {base : Heap}
theorem ok_due {f : Addr} {fd : FuncData} (F : Fun K "_law_places_due" "_law_places_due" sDue f fd) (B : Blt mg) (N : Nm mg) : FnOk P w K mg base CX0 1 f fd ["_law_shapes_here", "_law_joints", "_law_roots"] (spDue K) := by
  refine F.ok scDue (fun vs H Q E h => ?_) (fun cdv A outer s H vs Q E hr h => ?_)
  · obtain ⟨L, J, R, xs, ys, shs, js, roots, rfl, _⟩ := h
    rfl
  · obtain ⟨L, J, R, xs, ys, shs, js, roots, rfl, hL, hx, hJ, hy, hR, ok, k⟩ := h
    refine ⟨_, pss_cons (ps_setLc (i := 3) (own := [("_law_n", 7)]) (g := gName 7) (tt := tYes) rfl scDue.nd rfl rfl (sw_true rfl rfl rfl (by decide +kernel)) (pi_range1 (by rfl) N.rng (pa_cons (pe_callB call_len (by rfl) B.len (by decide +kernel) (pa_cons (pv 2) pa_nil)) pa_nil)) (blkOk_by (own := [("_law_n", 7)]) (N := nDue) (sc := defScope sDue) (by decide +kernel))
          (fun _ _ _ _ _ => pg_name (i := 7) scDue.nd rfl (.inl rfl)) (fun _ _ _ _ _ => pts_nil) (fun _ _ _ _ _ => pe_tup (pa_cons (pe_tup (pa_cons pe_str (pa_cons (pv 7) pa_nil))) (pa_cons (pe_ix (show IxR _ (rIxL K) from ix_list) (pv 2) (pv 7) (fun _ _ => rfl)) pa_nil))))
      (pss_cons (ps_for PassesOwn.never rfl (pi_list (pv 1)) (pg_tup rfl (pgs_cons (pg_name (i := 4) scDue.nd rfl (.inr rfl)) (pgs_cons (pg_name (i := 5) scDue.nd rfl (.inr rfl)) pgs_nil)))
        (pss_cons (ps_set (i := 6) scDue.nd rfl (.inr rfl) (pe_ix (show IxR _ (rIxL K) from ix_list) (pe_lc (own := [("_law_shape", 8)]) (g := gName 8) rfl scDue.nd (pi_list (pv 0)) (blkOk_by (own := [("_law_shape", 8)]) (N := nDue) (sc := defScope sDue) (by decide +kernel))
            (fun _ _ _ _ _ => pg_name (i := 8) scDue.nd rfl (.inl rfl)) (fun _ _ _ _ _ => pts_one (pt_cmpR op_eq (pe_ix (show IxR _ (rIxT K) from ix_tup) (pv 8) pe_int (fun _ _ => rfl)) (pv 5) (nomark _))) (fun _ _ _ _ _ => pe_ix (show IxR _ (rIxT K) from ix_tup) (pv 8) pe_int (fun _ _ => rfl))) pe_int (fun _ _ => rfl)))
        (pss_one (ps_set (i := 3) scDue.nd rfl (.inl rfl) (pe_op op_cat (pv 3) (pe_lc (own := [("_law_n", 7)]) (g := gName 7) (tt := tYes) rfl scDue.nd (pi_range1 (by rfl) N.rng (pa_cons (pe_callB call_len (by rfl) B.len (by decide +kernel) (pa_cons (pv 6) pa_nil)) pa_nil)) (blkOk_by (own := [("_law_n", 7)]) (N := nDue) (sc := defScope sDue) (by decide +kernel))
            (fun _ _ _ _ _ => pg_name (i := 7) scDue.nd rfl (.inl rfl)) (fun _ _ _ _ _ => pts_nil) (fun _ _ _ _ _ => pe_tup (pa_cons (pe_tup (pa_cons (pv 4) (pa_cons (pv 7) pa_nil))) (pa_cons (pe_ix (show IxR _ (rIxT K) from ix_tup) (pv 6) (pv 7) (fun _ _ => rfl)) pa_nil)))))))))
      (pss_one (ps_ret (pv 3)))), ?_⟩
    have six : ∀ {n : Nat}, n ≤ 40000 → n < sizeLine := small31
    have lp := fun i => plcs_len ok.l roots (js.take i)
    have lj := ok.g.ln
    have lr := ok.r
    refine ⟨_, rfl, _, roots.length, rfl, .inl ⟨_, hR, (List.length_map ..).symm⟩, (roots.length : Int), rfl, by omega, by omega, fun D hD => ?_⟩
    refine lc_range (lo := 0) (n := roots.length) (fun i H' => Same H H' ∧ ∃ acc, H' D = some (.lst acc) ∧ PcAt K H' acc (rowP "root" 0 (roots.take i))) ⟨same_new hD, [], upd_same, by rw [List.take_zero]; exact .nil⟩ ?_ ?_
    · rintro i H3 hi ⟨s3, acc, eD, pc⟩
      have hc : roots[i]? = some roots[i] := by simp [hi]
      have la := Paired.length pc
      rw [rowP_len, List.length_take] at la
      rw [show (0 : Int) + ((i : Nat) : Int) = ((i : Nat) : Int) from Int.zero_add _]
      refine ⟨rfl, lc_yes ?_⟩
      refine ⟨_, rfl, (by show 2 ≤ sizeLine; decide), fun t1 n1 => ?_⟩
      refine ⟨_, rfl, _, rfl, R, _, _, .str roots[i], rfl, rfl, ((s3.trans (same_new n1)).seq hR), L2.at_of (j := i) rfl (by rw [List.getElem?_map, hc]; rfl), (by show 2 ≤ sizeLine; decide), fun t2 n2 => ?_⟩
      obtain ⟨a1, a2, a3, a4⟩ := row_step s3 hD eD pc n1 n2
      refine ⟨acc, a1, six (by omega), a2, _, a3, ?_⟩
      rw [List.take_add_one, hc]
      show PcAt K _ _ (rowP "root" 0 (roots.take i ++ [roots[i]]))
      rw [rowP_snoc, List.length_take, Nat.min_eq_left (Nat.le_of_lt hi), Nat.zero_add]
      exact a4
    · rintro H3 ⟨s3, acc, eD, pc⟩
      rw [List.take_length] at pc
      refine ⟨_, rfl, J, rfl, ⟨_, s3.seq hJ⟩, for_it (walk_list (K := K) (a := J) (xs := ys)) (fun i σ H' => (∃ l v4 v5 v6 zs, σ = [some (.ref L), some (.ref J), some (.ref R), some (.ref l), v4, v5, v6, none, none] ∧ H' l = some (.lst zs) ∧ H l = none ∧ PcAt K H' zs (plcs shs roots (js.take i))) ∧ Same H H')
        ⟨⟨D, _, _, _, acc, rfl, eD, hD, by rw [List.take_zero, plcs_nil]; exact pc⟩, s3⟩ (fun i σ H' _ h => h.2.seq hJ) ?_ ?_⟩
      · rintro i x σ H4' H4 hi ⟨⟨l, v4, v5, v6, zs, rfl, el, nl, pc4⟩, s4⟩ ⟨rfl, hxi⟩
        obtain ⟨sd, e1, dq⟩ := DqAll.get i hy hxi
        obtain ⟨j, hj, rfl⟩ : ∃ j, js[i]? = some j ∧ sd = dJoint j := by
          rw [List.getElem?_map] at e1
          cases e : js[i]? with
          | none =>
            rw [e] at e1
            cases e1
          | some b =>
            rw [e] at e1
            exact ⟨b, rfl, (Option.some.inj e1).symm⟩
        obtain ⟨a, rfl, ha⟩ := joint_inv dq
        have hil : i < js.length := (List.getElem?_eq_some_iff.mp hj).1
        refine ⟨a, _, rfl, Same.sqT s4 ha, rfl, _, _, rfl, _, _, rfl, rfl, ?_⟩
        have hw : j.2 ∈ wordsS shs := (ok.g.word j (List.mem_of_getElem? hj)).2
        obtain ⟨sh, hsh, ew⟩ := List.mem_map.mp hw
        obtain ⟨m, hm⟩ := List.getElem?_of_mem hsh
        have hml : m < shs.length := (List.getElem?_eq_some_iff.mp hm).1
        have lx : xs.length = shs.length := by rw [hx.len, List.length_map]
        have hxm : xs[m]? = some (xs[m]'(by omega)) := by simp
        obtain ⟨sd, e2, dqm⟩ := DqAll.get m hx hxm
        rw [List.getElem?_map, hm] at e2
        cases (Option.some.inj e2)
        obtain ⟨rm, bm, erm, hrm, hbm⟩ := shape_inv dqm
        have ebr : brs shs j.2 = sh.2.2 := by rw [← ew, brs_of ok.b.nd hsh]
        refine ⟨_, rfl, L, rfl, ⟨_, s4.seq hL⟩, fun D2 hD2 => ?_⟩
        have nD2 : H D2 = none := s4.free hD2
        refine lc_list (K := K) (a := L) (xs := xs) (fun n H' => Same H4 H' ∧ H' D2 = some (.lst (if m < n then [.ref bm] else []))) ⟨same_new hD2, by rw [upd_same, if_neg (by omega)]⟩ (fun n H' _ h => (s4.trans h.1).seq hL) ?_ ?_
        · rintro n x H5 hx5 ⟨s5, e5⟩
          have hn : n < shs.length := by
            have := (List.getElem?_eq_some_iff.mp hx5).1
            omega
          by_cases e : n = m
          · subst e
            rw [hxm] at hx5
            cases hx5
            rw [erm]
            have hrm5 := Same.sqT (s4.trans s5) hrm
            refine ⟨rfl, ?_⟩
            refine ⟨_, rfl, rm, _, _, .str sh.1, rfl, rfl, hrm5, L2.at_of (j := 0) rfl rfl, _, rfl, rfl, _, rfl, ?_⟩
            refine ite_yes (by rw [ew, decide_eq_true rfl]) ?_
            refine ⟨_, rfl, rm, _, _, .ref bm, rfl, rfl, hrm5, L2.at_of (j := 2) rfl rfl, _, e5, ?_, Same.over s5 hD2, ?_⟩
            · rw [if_neg (by omega)]
              exact small31 (Nat.zero_le _)
            · rw [upd_same, if_neg (by omega), if_pos (by omega)]
              rfl
          · obtain ⟨sd, e3, dq3⟩ := DqAll.get n hx hx5
            obtain ⟨sh', hsh', rfl⟩ : ∃ sh', shs[n]? = some sh' ∧ sd = dShape sh' := by
              rw [List.getElem?_map] at e3
              cases e : shs[n]? with
              | none =>
                rw [e] at e3
                cases e3
              | some b =>
                rw [e] at e3
                exact ⟨b, rfl, (Option.some.inj e3).symm⟩
            obtain ⟨r', b', rfl, hr', _⟩ := shape_inv dq3
            have ne : ¬ (V.str sh'.1 = V.str j.2) := fun z => by
              injection z with z
              have a1 : (wordsS shs)[n]? = some j.2 := by
                unfold wordsS
                rw [List.getElem?_map, hsh', ← z]
                rfl
              have a2 : (wordsS shs)[m]? = some j.2 := by
                unfold wordsS
                rw [List.getElem?_map, hm, ← ew]
                rfl
              exact e (nd_ix ok.b.nd a1 a2)
            refine ⟨rfl, ?_⟩
            refine ⟨_, rfl, r', _, _, .str sh'.1, rfl, rfl, Same.sqT (s4.trans s5) hr', L2.at_of (j := 0) rfl rfl, _, rfl, rfl, _, rfl, ?_⟩
            refine ite_no (decide_eq_false ne) ⟨s5, ?_⟩
            rw [e5]
            by_cases z : m < n
            · rw [if_pos z, if_pos (by omega)]
            · rw [if_neg z, if_neg (by omega)]
        · rintro H5 ⟨s5, e5⟩
          rw [lx, if_pos hml] at e5
          have hb5 : SqT K H5 bm ((brs shs j.2).map V.str) := by
            rw [ebr]
            exact Same.sqT (s4.trans s5) hbm
          refine ⟨D2, _, _, .ref bm, rfl, rfl, .inl (.inl e5), L2.at_of (j := 0) rfl rfl, ?_⟩
          have lb := brs_len ok.l j.2
          refine ⟨_, rfl, _, rfl, _, (brs shs j.2).length, rfl, .inr ⟨_, hb5, (List.length_map ..).symm⟩, ((brs shs j.2).length : Int), rfl, by omega, by omega, fun D3 hD3 => ?_⟩
          have nD3 : H D3 = none := s4.free (s5.free hD3)
          have hD35 : H5 D3 = none := hD3
          refine lc_range (lo := 0) (n := (brs shs j.2).length) (fun i H' => Same H5 H' ∧ ∃ acc, H' D3 = some (.lst acc) ∧ PcAt K H' acc (rowP j.1 0 ((brs shs j.2).take i))) ⟨same_new hD3, [], upd_same, by rw [List.take_zero]; exact .nil⟩ ?_ ?_
          · rintro n H6 hn ⟨s6, acc, eD, pc⟩
            have hc : (brs shs j.2)[n]? = some (brs shs j.2)[n] := by simp [hn]
            have la := Paired.length pc
            rw [rowP_len, List.length_take] at la
            rw [show (0 : Int) + ((n : Nat) : Int) = ((n : Nat) : Int) from Int.zero_add _]
            refine ⟨rfl, lc_yes ?_⟩
            refine ⟨_, rfl, _, rfl, (by show 2 ≤ sizeLine; decide), fun t1 n1 => ?_⟩
            refine ⟨_, rfl, _, rfl, bm, _, _, .str (brs shs j.2)[n], rfl, rfl, Same.sqT (s6.trans (same_new n1)) hb5, L2.at_of (j := n) rfl (by rw [List.getElem?_map, hc]; rfl), (by show 2 ≤ sizeLine; decide), fun t2 n2 => ?_⟩
            obtain ⟨a1, a2, a3, a4⟩ := row_step s6 hD35 eD pc n1 n2
            refine ⟨acc, a1, six (by omega), a2, _, a3, ?_⟩
            rw [List.take_add_one, hc]
            show PcAt K _ _ (rowP j.1 0 ((brs shs j.2).take n ++ [(brs shs j.2)[n]]))
            rw [rowP_snoc, List.length_take, Nat.min_eq_left (Nat.le_of_lt hn), Nat.zero_add]
            exact a4
          · rintro H6 ⟨s6, acc, eD, pc⟩
            rw [List.take_length] at pc
            have s46 := s5.trans s6
            have lz := Paired.length pc4
            have la := Paired.length pc
            rw [rowP_len] at la
            have l4 := lp i
            rw [List.length_take] at l4
            refine ⟨l, D3, zs, acc, rfl, rfl, s46 _ _ el, eD, ?_, fun p hp => ?_⟩
            · rw [lz, la, sizeLine_eq]
              omega
            · have sp := same_new (o := .lst (zs ++ acc)) hp
              refine ⟨⟨p, _, _, _, zs ++ acc, rfl, upd_same, s4.free (s46.free hp), ?_⟩, s4.trans (s46.trans sp)⟩
              rw [List.take_add_one, hj]
              show PcAt K _ _ (plcs shs roots (js.take i ++ [j]))
              rw [plcs_snoc]
              exact PcAt.app (pc4.same (s46.trans sp)) (pc.same sp)
      · rintro σ H4 ⟨⟨l, v4, v5, v6, zs, rfl, el, nl, pc4⟩, s4⟩
        rw [hy.len, List.length_map, List.take_length] at pc4
        exact ⟨_, rfl, k l zs H4 s4 nl el pc4⟩
end
end Bc

namespace Bc
open PySem PySem.Spec PyProof.Rows L2
open PySem.MeetsSeq PySem.SeqAt
/-! ### equality of tuples with data in which dicts are -/
theorem subDT : isSubtype (.type "dict") (.type "tuple") = pure false := by kernel_rfl
theorem subTD : isSubtype (.type "tuple") (.type "dict") = pure false := by kernel_rfl
theorem subSD : isSubtype (.type "str") (.type "dict") = pure false := by kernel_rfl
theorem subDS : isSubtype (.type "dict") (.type "str") = pure false := by kernel_rfl
theorem tup_declines_dict (l b : Addr) (items : Array Value) (n : Nat) (dd : Option Addr) (sl : Array (Option Value)) (ob : Obj) (hb : ob.cls = .type "dict") :
    Meets (Builtin.«tuple.__eq__» ⟨[.ref l, .ref b], []⟩) (fun _ R s => s.heap.get? l = some { cls := .type "tuple", dict := dd, data := .seq items n, slots := sl } ∧ s.heap.get? b = some ob ∧ R (.ok (.ret .notImplemented)) s) :=
  .of_wp fun prog w A R s h => by
    obtain ⟨hp, g, d, tk, os⟩ := s
    obtain ⟨hl, hb', h⟩ := h
    obtain ⟨c, dd2, da, sl2⟩ := ob
    dsimp only at hb
    subst hb
    have f1 := subDT
    wp_walk using wpAny_loadPart' hl, wpAny_loadPart' hb'
    exact ⟨_, rfl, h⟩
theorem dict_declines_tup (l b : Addr) (items : Array Value) (n : Nat) (dd : Option Addr) (sl : Array (Option Value)) (ob : Obj) (es : Array DictEntry) (ep : Nat) (hb : ob.cls = .type "dict") (hd : ob.data = .dict es ep) :
    Meets (Builtin.«dict.__eq__» ⟨[.ref b, .ref l], []⟩) (fun _ R s => s.heap.get? l = some { cls := .type "tuple", dict := dd, data := .seq items n, slots := sl } ∧ s.heap.get? b = some ob ∧ R (.ok (.ret .notImplemented)) s) :=
  .of_wp fun prog w A R s h => by
    obtain ⟨hp, g, d, tk, os⟩ := s
    obtain ⟨hl, hb', h⟩ := h
    obtain ⟨c, dd2, da, sl2⟩ := ob
    dsimp only at hb hd
    subst hb hd
    have f1 := F.sub_tuple_dict
    wp_walk using wpAny_loadPart' hl, wpAny_loadPart' hb'
    exact ⟨_, rfl, h⟩
theorem dict_declines_str (b : Addr) (x : Str) (t : PySem.Tok) (ob : Obj) (es : Array DictEntry) (ep : Nat) (hb : ob.cls = .type "dict") (hd : ob.data = .dict es ep) :
    Meets (Builtin.«dict.__eq__» ⟨[.ref b, .str x t], []⟩) (fun _ R s => s.heap.get? b = some ob ∧ R (.ok (.ret .notImplemented)) s) :=
  .of_wp fun prog w A R s h => by
    obtain ⟨hp, g, d, tk, os⟩ := s
    obtain ⟨hb', h⟩ := h
    obtain ⟨c, dd2, da, sl2⟩ := ob
    dsimp only at hb hd
    subst hb hd
    have f1 := F.sub_str_dict
    wp_walk using wpAny_loadPart' hb'
    exact ⟨_, rfl, h⟩
theorem str_declines_dict (b : Addr) (x : Str) (t : PySem.Tok) (ob : Obj) (es : Array DictEntry) (ep : Nat) (hb : ob.cls = .type "dict") (hd : ob.data = .dict es ep) :
    Meets (Builtin.«str.__eq__» ⟨[.str x t, .ref b], []⟩) (fun _ R s => s.heap.get? b = some ob ∧ R (.ok (.ret .notImplemented)) s) :=
  .of_wp fun prog w A R s h => by
    obtain ⟨hp, g, d, tk, os⟩ := s
    obtain ⟨hb', h⟩ := h
    obtain ⟨c, dd2, da, sl2⟩ := ob
    dsimp only at hb hd
    subst hb hd
    have f1 := F.sub_dict_str
    wp_walk using wpAny_loadPart' hb', wpAny_load hb'
    exact ⟨_, rfl, h⟩
section
variable {A : Around} {s : Shared}
theorem eq_tup_dict {l b : Addr} {items : Array Value} {ob : Obj} {es : Array DictEntry} {ep : Nat} (hl : s.heap.IsTuple l items) (hb : s.heap.get? b = some ob) (hc : ob.cls = .type "dict") (hd : ob.data = .dict es ep) (hu : A.units < cLine) : EqAt A s (.ref l) (.ref b) false := by
  obtain ⟨⟨cls, dd, data, sl⟩, ho, hc1, n, hd1⟩ := id hl
  simp only at hc1 hd1
  subst hc1 hd1
  have hne : l ≠ b := fun e => by
    subst e
    rw [ho] at hb
    cases hb
    exact absurd hc (by simp)
  refine .of_refs hne fun prog w E Q h => ?_
  exact rc_eq_decline_or (k := false) ⟨_, ho, rfl⟩ ⟨_, hb, hc⟩ (by decide) F.sub_dict_tuple F.slot_tuple_eq F.slot_dict_eq_refl
    (fun _ hq => call_meets F.slot_tuple_eq ⟨_, ho, rfl⟩ F.entry_tuple_eq (F.args_tuple_eq_2 _ _) (tup_declines_dict l b items n dd sl ob hc) ⟨ho, hb, hq⟩)
    (fun _ hq => call_meets F.slot_dict_eq_refl ⟨_, hb, hc⟩ F.entry_dict_eq (F.args_dict_eq_2 _ _) (dict_declines_tup l b items n dd sl ob es ep hc hd) ⟨ho, hb, hq⟩)
    (fun _ hq => wpAny_isSame_ref_other' hne ho hb (by rw [hc]; simp) hq) (.inr hu) h
theorem eq_str_dict {b : Addr} {x : Str} {t : PySem.Tok} {ob : Obj} {es : Array DictEntry} {ep : Nat} (hb : s.heap.get? b = some ob) (hc : ob.cls = .type "dict") (hd : ob.data = .dict es ep) (hu : A.units < cLine) : EqAt A s (.str x t) (.ref b) false := fun prog w E Q h => by
  unfold eqBool
  refine wpAny_holding ?_
  refine wpAny_ite_split (fun hab => absurd (eq_of_beq hab) nofun) (fun _ => ?_)
  refine wpAny_bind ?_
  exact rc_eq_decline_or (k := false) (typeIs_str s x t) ⟨_, hb, hc⟩ (by decide) F.sub_dict_str F.slot_str_eq F.slot_dict_eq_refl
    (fun _ hq => call_meets F.slot_str_eq (typeIs_str s x t) F.entry_str_eq (F.args_str_eq_2 _ _) (str_declines_dict b x t ob es ep hc hd) ⟨hb, hq⟩)
    (fun _ hq => call_meets F.slot_dict_eq_refl ⟨_, hb, hc⟩ F.entry_dict_eq (F.args_dict_eq_2 _ _) (dict_declines_str b x t ob es ep hc hd) ⟨hb, hq⟩)
    (fun _ hq => wpAny_of_eq (rfl : isSame (.str x t) (.ref b) = pure false) hq) (.inr hu) (wpAny_truthy_bool h)
end
end Bc

namespace Bc
open PySem PySem.Spec PyProof.Rows L2
open PySem.MeetsSeq PySem.SeqAt
/-! ### odd in known -/
/-- no dict as a second part -/
def noD1 : PyData → Bool
  | .tuple ds => (match (ds[1]? : Option PyData) with
    | some (PyData.dict _) => false
    | _ => true)
  | _ => true
theorem vals_cons_inv {x : V} {xs : List V} {us : List Value} (h : Vals (x :: xs) us) : ∃ u us', us = u :: us' ∧ RelV x u ∧ Vals xs us' := by
  cases h with
  | cons h t => exact ⟨_, _, rfl, h, t⟩
theorem vals_nil_inv {us : List Value} (h : Vals [] us) : us = [] := by
  cases h
  rfl
theorem three_at {K : PySem.W.Frag} {H : Hp} {xs : List V} {ds : List PyData} {us : List Value} (h : DqAll K H xs ds) (r : Vals xs us) (i : Nat) (hi : i < us.length) : ∃ (y : V) (w : Value) (d : PyData), xs[i]? = some y ∧ us[i] = w ∧ ds[i]? = some d ∧ Dq K H y d ∧ RelV y w := by
  have l1 := Paired.length r
  have hx : xs[i]? = some (xs[i]'(by omega)) := by simp
  obtain ⟨d, e, dq⟩ := DqAll.get i h hx
  obtain ⟨u, e1, e2⟩ := r.get hx
  refine ⟨_, u, d, hx, (List.getElem?_eq_some_iff.mp e1).2, e, dq, e2⟩
theorem noD1_at {ds : List PyData} {d : PyData} (h : noD1 (.tuple ds) = true) (e : ds[1]? = some d) : ∀ kvs, d ≠ .dict kvs := by
  intro kvs z
  subst z
  have h : (match (ds[1]? : Option PyData) with
    | some (PyData.dict _) => false
    | _ => true) = true := h
  rw [e] at h
  exact Bool.noConfusion h
section
variable {X : Cx} {pins : List (Addr × Obj)} {σ : L2.St} {H : Hp} {s : Shared}
theorem str_any (I : Inv X pins σ H s) {A : Around} (hu : A.units < cLine) {n : Str} {t : PySem.Tok} {y : V} {w : Value} {d : PyData} (h : Dq X.K H y d) (r : RelV y w) : ∃ e, EqAt A s (.str n t) w e ∧ (d = .str n → e = true) := by
  cases h with
  | non => cases r; exact ⟨_, EqAt.str_none n t, fun z => by cases z⟩
  | bl b => cases r; exact ⟨_, EqAt.str_bool n t b, fun z => by cases z⟩
  | int i => obtain ⟨u, rfl⟩ := r; exact ⟨_, EqAt.str_int n t i u, fun z => by cases z⟩
  | str x => obtain ⟨u, rfl⟩ := r; exact ⟨_, EqAt.str_str n t x u, fun z => by cases z; exact beq_self_eq_true _⟩
  | lst hs _ _ =>
    cases r
    obtain ⟨its, rv, pl, _⟩ := I.list hs
    exact ⟨_, EqAt.str_list n t pl.isList hu, fun z => by cases z⟩
  | tup hs _ =>
    cases r
    obtain ⟨its, rv, pl, _⟩ := I.tuple hs
    exact ⟨_, EqAt.str_tuple n t pl hu, fun z => by cases z⟩
  | dic e _ =>
    cases r
    obtain ⟨_, nsys, vs, rel, o, es, ep, ho, hx, hd, _⟩ := dk_of I.hok e
    exact ⟨_, eq_str_dict ho hx.1 hd hu, fun z => by cases z⟩
theorem int_any (I : Inv X pins σ H s) {A : Around} (hu : A.units < cLine) {n : Int} {t : PySem.Tok} {y : V} {w : Value} {d : PyData} (h : Dq X.K H y d) (nd : ∀ kvs, d ≠ .dict kvs) (r : RelV y w) : ∃ e, EqAt A s (.int n t) w e ∧ (d = .int n → e = true) := by
  cases h with
  | non => cases r; exact ⟨_, EqAt.int_none n t, fun z => by cases z⟩
  | bl b => cases r; exact ⟨_, EqAt.int_bool n t b, fun z => by cases z⟩
  | int i => obtain ⟨u, rfl⟩ := r; exact ⟨_, EqAt.int_int n t i u, fun z => by cases z; exact beq_self_eq_true _⟩
  | str x => obtain ⟨u, rfl⟩ := r; exact ⟨_, EqAt.int_str n t x u, fun z => by cases z⟩
  | lst hs _ _ =>
    cases r
    obtain ⟨its, rv, pl, _⟩ := I.list hs
    exact ⟨_, EqAt.int_list n t pl.isList hu, fun z => by cases z⟩
  | tup hs _ =>
    cases r
    obtain ⟨its, rv, pl, _⟩ := I.tuple hs
    exact ⟨_, EqAt.int_tuple n t pl hu, fun z => by cases z⟩
  | dic e _ => exact absurd rfl (nd _)
theorem pl_any (I : Inv X pins σ H s) {A : Around} (hu : A.units + 1 < cLine) {b : Addr} {p : Plc} (hb : SqT X.K H b [.str p.1, .int (p.2 : Int)]) {y : V} {w : Value} {d : PyData} (h : Dq X.K H y d) (nd : noD1 d = true) (r : RelV y w) :
    ∃ e, EqAt A s (.ref b) w e ∧ (isTupD d = false → e = false) ∧ (d = dPl p → e = true) := by
  obtain ⟨its, rb, tb, _⟩ := I.tuple hb
  have hu0 : A.units < cLine := by omega
  cases h with
  | non => cases r; exact ⟨_, EqAt.tuple_none tb hu0, fun _ => rfl, fun z => by cases z⟩
  | bl b => cases r; exact ⟨_, EqAt.tuple_bool b tb hu0, fun _ => rfl, fun z => by cases z⟩
  | int i => obtain ⟨u, rfl⟩ := r; exact ⟨_, EqAt.tuple_int i u tb hu0, fun _ => rfl, fun z => by cases z⟩
  | str x => obtain ⟨u, rfl⟩ := r; exact ⟨_, EqAt.tuple_str x u tb hu0, fun _ => rfl, fun z => by cases z⟩
  | lst hs _ _ =>
    cases r
    obtain ⟨its2, rv, pl, _⟩ := I.list hs
    exact ⟨_, EqAt.tuple_list tb pl.isList hu0, fun _ => rfl, fun z => by cases z⟩
  | dic e _ =>
    cases r
    obtain ⟨_, nsys, vs, rel, o, es, ep, ho, hx, hd, _⟩ := dk_of I.hok e
    exact ⟨_, eq_tup_dict tb ho hx.1 hd hu0, fun _ => rfl, fun z => by cases z⟩
  | tup hs hall =>
    rename_i a xs ds
    cases r
    by_cases e : b = a
    · subst e
      exact ⟨true, EqAt.same _, fun z => Bool.noConfusion z, fun _ => rfl⟩
    · obtain ⟨its2, rv, pl, _⟩ := I.tuple hs
      obtain ⟨u1, rb', e1, r1, rb⟩ := vals_cons_inv rb
      obtain ⟨u2, rb'', e2, r2, rb⟩ := vals_cons_inv rb
      have e3 := vals_nil_inv rb
      subst e3 e2 e1
      obtain ⟨t1, rfl⟩ := (show ∃ t, u1 = Value.str p.1 t from r1)
      obtain ⟨t2, rfl⟩ := (show ∃ t, u2 = Value.int (p.2 : Int) t from r2)
      have hs2 : its2.length = ds.length := by rw [← Paired.length rv, hall.len]
      have E0 : ∃ e0 : Bool, (∀ h2 : 0 < its2.length, EqAt A.in1 s (.str p.1 t1) (its2[0]'h2) e0) ∧ (ds[0]? = some (.str p.1) → e0 = true) := by
        by_cases z : 0 < its2.length
        · obtain ⟨y0, w0, d0, a1, a2, a3, a4, a5⟩ := three_at hall rv 0 z
          obtain ⟨e0, f0, g0⟩ := str_any I (A := A.in1) hu (n := p.1) (t := t1) a4 a5
          refine ⟨e0, fun _ => by rw [a2]; exact f0, fun q => g0 ?_⟩
          rw [a3] at q
          exact Option.some.inj q
        · exact ⟨true, fun h2 => absurd h2 z, fun _ => rfl⟩
      have E1 : ∃ e0 : Bool, (∀ h2 : 1 < its2.length, EqAt A.in1 s (.int (p.2 : Int) t2) (its2[1]'h2) e0) ∧ (ds[1]? = some (.int (p.2 : Int)) → e0 = true) := by
        by_cases z : 1 < its2.length
        · obtain ⟨y0, w0, d0, a1, a2, a3, a4, a5⟩ := three_at hall rv 1 z
          obtain ⟨e0, f0, g0⟩ := int_any I (A := A.in1) hu (n := (p.2 : Int)) (t := t2) a4 (noD1_at nd a3) a5
          refine ⟨e0, fun _ => by rw [a2]; exact f0, fun q => g0 ?_⟩
          rw [a3] at q
          exact Option.some.inj q
        · exact ⟨true, fun h2 => absurd h2 z, fun _ => rfl⟩
      obtain ⟨e0, f0, g0⟩ := E0
      obtain ⟨e1, f1, g1⟩ := E1
      refine ⟨_, .of_refs e (RcAt.tuples (e := fun j => if j = 0 then e0 else e1) tb pl hu0 fun j h1 h2 => ?_), fun z => Bool.noConfusion z, fun z => ?_⟩
      · have h1 : j < 2 := h1
        have h2 : j < its2.length := by simpa using h2
        by_cases j0 : j = 0
        · subst j0
          exact f0 h2
        · have j1 : j = 1 := by omega
          subst j1
          exact f1 h2
      · injection z with z
        subst z
        rw [g0 rfl, g1 rfl]
        have l2 : its2.length = 2 := hs2
        simp [l2]
end
end Bc

namespace Bc
open PySem PySem.Spec PyProof.Rows L2
open PySem.MeetsSeq PySem.SeqAt
def rInPl (K : PySem.W.Frag) : R2 := fun x y H Q => ∃ (l : Addr) (xs : List V) (ps : List Plc) (pd : PyData), y = .ref l ∧ SqL K H l xs ∧ DqAll K H xs (ps.map dPl) ∧ Dq K H x pd ∧ noD1 pd = true ∧ ∀ e : Bool, (isTupD pd = false → e = false) → ((∃ p ∈ ps, pd = dPl p) → e = true) → Q (.bl e) H
theorem op_inPl {X : Cx} (hu : X.A.units + 2 < cLine) : OpR X (compareOp .In) (rInPl X.K) := by
  intro pins s σ H x y v u Q I rx ry h
  obtain ⟨l, xs, ps, pd, rfl, hl, hall, hx, nd, q⟩ := h
  cases ry
  obtain ⟨its, rv, pl, _⟩ := I.list hl
  have each : ∀ (i : Nat) (hi : i < its.length), ∃ e, EqAt X.A.in1 s (its[i]'hi) v e ∧ (isTupD pd = false → e = false) ∧ (ps[i]? = none ∨ ∃ p, ps[i]? = some p ∧ (pd = dPl p → e = true)) := fun i hi => by
    obtain ⟨y0, w0, d0, a1, a2, a3, a4, a5⟩ := three_at hall rv i hi
    rw [List.getElem?_map] at a3
    cases e : ps[i]? with
    | none =>
      rw [e] at a3
      cases a3
    | some p =>
      rw [e] at a3
      cases (Option.some.inj a3)
      obtain ⟨b, ys, rfl, hq, hy⟩ := a4.tup_inv
      obtain ⟨v1, _, rfl, h1, hy⟩ := hy.cons_inv
      obtain ⟨v2, _, rfl, h2, hy⟩ := hy.cons_inv
      cases hy.nil_inv
      cases h1.str_inv
      cases h2.int_inv
      obtain rfl : w0 = Value.ref b := a5
      obtain ⟨e, f0, g0, k0⟩ := pl_any I (A := X.A.in1) (show X.A.in1.units + 1 < cLine from hu) hq hx nd rx
      refine ⟨e, by rw [a2]; exact f0, g0, .inr ⟨p, rfl, k0⟩⟩
  have ex : ∃ E : ∀ i, i < its.length → Bool, ∀ i (hi : i < its.length), EqAt X.A.in1 s (its[i]'hi) v (E i hi) ∧ (isTupD pd = false → E i hi = false) ∧ (ps[i]? = none ∨ ∃ p, ps[i]? = some p ∧ (pd = dPl p → E i hi = true)) :=
    ⟨fun i hi => Classical.choose (each i hi), fun i hi => Classical.choose_spec (each i hi)⟩
  obtain ⟨E1, hE⟩ := ex
  have dec : ∃ e : Value → Bool, ∀ w, e w = true ↔ ∃ i, ∃ hi : i < its.length, its[i]'hi = w ∧ E1 i hi = true := ⟨fun w => @decide _ (Classical.propDecidable (∃ i, ∃ hi : i < its.length, its[i]'hi = w ∧ E1 i hi = true)), fun w => @decide_eq_true_iff _ (Classical.propDecidable _)⟩
  obtain ⟨e, he⟩ := dec
  have lps : ps.length = its.length := by
    have a1 := Paired.length rv
    have a2 := hall.len
    rw [List.length_map] at a2
    omega
  refine SeqAt.in_listAt e pl.isList (fun w hw => ?_) ⟨.bl _, H, I, rfl, q _ (fun z => ?_) (fun ⟨p, hp, ep⟩ => ?_)⟩
  · have hw : w ∈ its := by simpa using hw
    obtain ⟨i, hi, rfl⟩ := List.getElem_of_mem hw
    cases c : e its[i] with
    | true =>
      obtain ⟨j, hj, ej, Ej⟩ := (he _).mp c
      have z := (hE j hj).1
      rw [Ej, ej] at z
      exact z
    | false =>
      have z := (hE i hi).1
      cases d : E1 i hi with
      | true =>
        rw [(he its[i]).mpr ⟨i, hi, rfl, d⟩] at c
        cases c
      | false =>
        rw [d] at z
        exact z
  · refine Bool.eq_false_iff.mpr fun c => ?_
    obtain ⟨w, hw, ew⟩ := List.any_eq_true.mp (show its.any e = true by simpa using c)
    obtain ⟨j, hj, _, Ej⟩ := (he _).mp ew
    rw [(hE j hj).2.1 z] at Ej
    cases Ej
  · obtain ⟨i, hi⟩ := List.getElem?_of_mem hp
    have hlt : i < its.length := by
      have := (List.getElem?_eq_some_iff.mp hi).1
      omega
    rcases (hE i hlt).2.2 with z | ⟨p', z, k⟩
    · rw [hi] at z
      cases z
    · rw [hi] at z
      cases z
      have t : e its[i] = true := (he _).mpr ⟨i, hlt, rfl, k ep⟩
      simpa using ⟨_, List.getElem_mem hlt, t⟩
end Bc

namespace Bc
open PySem PySem.Spec PyProof.Rows L2
/-! ### odd places -/
section
variable {X : Cx}
/-- list(a tuple), the new list told apart -/
theorem call_listB : CallR X (.type "list") (fun xs H Q => ∃ p ys, xs = [.ref p] ∧ SqT X.K H p ys ∧ ∀ l, H l = none → l ≠ sysModules → Q (.ref l) (upd H l (.lst ys))) := by
  intro pins s σ H xs us Q I r h
  obtain ⟨p, ys, rfl, hq, q⟩ := h
  obtain ⟨u, rfl, rx⟩ := vals1 r
  cases rx
  obtain ⟨its, r', pl, hz⟩ := I.tuple hq
  have hlen := r'.length
  obtain ⟨o, ho, hc, n, hd⟩ := pl
  refine call_list_seq p (.inr rfl) ho hc hd (fun h' c' kp e => ?_) (by simp only [List.size_toArray] <;> omega)
  exact ⟨.ref s.heap.objs.size, _, I.laid (t' := s.toks) kp (Nat.le_refl _) (show ObjOk X.prog X.w _ h' _ (.lst ys) from ⟨hz, its, c', r', e⟩), rfl, q _ (I.hok.fresh (Nat.le_refl _)) (Nat.ne_of_gt I.big)⟩
end
def lenD : PyData → Bool
  | .tuple ds => decide (ds.length ≤ 1000)
  | _ => true
structure OddD (d : PyData) : Prop where
  sh : d.showable = true
  dp : d.depth ≤ 40
  lv : d.leavesShort 13 = true
  wt : d.weight ≤ 4000
  nd : noD1 d = true
  ln : lenD d = true
def oddB (d : PyData) : Bool := d.showable && (decide (d.depth ≤ 40) && (d.leavesShort 13 && (decide (d.weight ≤ 4000) && (noD1 d && lenD d))))
theorem OddD.of {d : PyData} (h : oddB d = true) : OddD d := by
  unfold oddB at h
  obtain ⟨h1, h⟩ := Bool.and_eq_true_iff.mp h
  obtain ⟨h2, h⟩ := Bool.and_eq_true_iff.mp h
  obtain ⟨h3, h⟩ := Bool.and_eq_true_iff.mp h
  obtain ⟨h4, h⟩ := Bool.and_eq_true_iff.mp h
  obtain ⟨h5, h6⟩ := Bool.and_eq_true_iff.mp h
  exact ⟨h1, of_decide_eq_true h2, h3, of_decide_eq_true h4, h5, h6⟩
/-- a short text without far-out signs -/
structure ShS (x : Str) : Prop where
  cs : (x.cps.toList.all fun c => decide (c < 16 ^ 8)) = true
  ln : x.cps.size ≤ 100
structure ShI (i : Int) : Prop where
  lg : i.natAbs.log2 < 1920
  sh : (PyData.shown (.int i)).length ≤ 13
  sm : i.natAbs < 10 ^ 12
theorem shI {i : Int} (h : i.natAbs < 10 ^ 12) : ShI i := by
  refine ⟨?_, PyData.shown_int_le h, h⟩
  by_cases z : i.natAbs = 0
  · rw [z]
    decide
  · have := (Nat.log2_lt z).mpr (show i.natAbs < 2 ^ 1920 from Nat.lt_trans h (by decide +kernel))
    exact this
theorem closed_odd : ([PyData.none, .bool true, .int 0, .str "root", .tuple [], .list [], .dict [], .tuple [.str "root"], .tuple [.str "root", .int (-1)], .tuple [.str "root", .str "0"], .tuple [.str "root", .bool true], .tuple [.str "root", .bool false],
    .tuple [.str "zz", .int 0], .tuple [.str "", .int 0], .tuple [.int 0, .int 0], .tuple [.none, .int 0], .tuple [.tuple [.str "root", .int 0], .int 0], .tuple [.list [.str "root"], .int 0], .tuple [.dict [], .int 0], .tuple [.str "root", .list []]].all oddB) = true := by decide +kernel
theorem odd_name {x : Str} (h : ShS x) : OddD (.str x) ∧ OddD (.tuple [.str x]) ∧ OddD (.list [.str x, .int 0]) ∧ OddD (.tuple [.str x, .int (-1)]) ∧ OddD (.tuple [.str x, .bool true]) ∧ OddD (.tuple [.str x, .none]) ∧ OddD (.tuple [.str x, .int 0, .int 0]) ∧ OddD (.tuple [.str x, .int 4]) := by
  have c := h.cs
  have l := h.ln
  have i0 := shI (i := 0) (by decide)
  have i1 := shI (i := -1) (by decide)
  have i4 := shI (i := 4) (by decide)
  have w1 : PyData.weight (.int (-1)) ≤ 10 := by decide +kernel
  have w0 : PyData.weight (.int 0) ≤ 10 := by decide +kernel
  have w4 : PyData.weight (.int 4) ≤ 10 := by decide +kernel
  refine ⟨?_, ?_, ?_, ?_, ?_, ?_, ?_, ?_⟩ <;> refine ⟨?_, ?_, ?_, ?_, ?_, ?_⟩
  all_goals first
    | rfl
    | (simp only [PyData.showable, PyData.showableAll, decide_eq_true i0.lg, decide_eq_true i1.lg, decide_eq_true i4.lg, Bool.and_self, Bool.and_true])
    | (simp only [PyData.depth, PyData.depthAll]; omega)
    | (simp only [PyData.leavesShort, PyData.leavesShortAll, c, decide_eq_true i0.sh, decide_eq_true i1.sh, decide_eq_true i4.sh, Bool.and_self, Bool.and_true])
    | (simp only [PyData.weight, PyData.weightAll] at w1 w0 w4 ⊢; omega)
    | skip
end Bc

namespace Bc
open PySem PySem.Spec PyProof.Rows L2
theorem odd_place {x : Str} {k : Nat} (h : ShS x) (hk : k < 40) : OddD (.list [.str x, .int (k : Int)]) ∧ OddD (.tuple [.str x, .int (k : Int), .int 0]) ∧ OddD (.tuple [.str x, .int ((k : Int) + 9)]) := by
  have c := h.cs
  have l := h.ln
  have i0 := shI (i := 0) (by decide)
  have ik := shI (i := (k : Int)) (by omega)
  have i9 := shI (i := (k : Int) + 9) (by omega)
  have w0 : PyData.weight (.int 0) ≤ 10 := by decide +kernel
  have wk : PyData.weight (.int (k : Int)) ≤ 10 := by
    have z : ∀ n : Fin 40, PyData.weight (.int ((n : Nat) : Int)) ≤ 10 := by decide +kernel
    exact z ⟨k, hk⟩
  have w9 : PyData.weight (.int ((k : Int) + 9)) ≤ 10 := by
    have z : ∀ n : Fin 40, PyData.weight (.int (((n : Nat) : Int) + 9)) ≤ 10 := by decide +kernel
    exact z ⟨k, hk⟩
  refine ⟨?_, ?_, ?_⟩ <;> refine ⟨?_, ?_, ?_, ?_, ?_, ?_⟩
  all_goals first
    | rfl
    | (simp only [PyData.showable, PyData.showableAll, decide_eq_true i0.lg, decide_eq_true ik.lg, decide_eq_true i9.lg, Bool.and_self, Bool.and_true])
    | (simp only [PyData.depth, PyData.depthAll]; omega)
    | (simp only [PyData.leavesShort, PyData.leavesShortAll, c, decide_eq_true i0.sh, decide_eq_true ik.sh, decide_eq_true i9.sh, Bool.and_self, Bool.and_true])
    | (simp only [PyData.weight, PyData.weightAll] at w0 wk w9 ⊢; omega)
theorem odd_two {x y : Str} (h : ShS x) (g : ShS y) : OddD (.tuple [.str x, .str y]) := by
  have c := h.cs
  have l := h.ln
  have c2 := g.cs
  have l2 := g.ln
  refine ⟨?_, ?_, ?_, ?_, ?_, ?_⟩
  all_goals first
    | rfl
    | (simp only [PyData.showable, PyData.showableAll, Bool.and_self, Bool.and_true])
    | (simp only [PyData.depth, PyData.depthAll]; omega)
    | (simp only [PyData.leavesShort, PyData.leavesShortAll, c, c2, Bool.and_self, Bool.and_true])
    | (simp only [PyData.weight, PyData.weightAll]; omega)
theorem shS_num {k : Nat} (hk : k < 40) : ShS (toString (k : Int) : String) := by
  have z : ∀ n : Fin 40, ((Str.ofString (toString ((n : Nat) : Int))).cps.toList.all fun c => decide (c < 16 ^ 8)) = true ∧ (Str.ofString (toString ((n : Nat) : Int))).cps.size ≤ 100 := by decide +kernel
  exact ⟨(z ⟨k, hk⟩).1, (z ⟨k, hk⟩).2⟩
def OddAt (K : PySem.W.Frag) (H : Hp) (x : V) : Prop := ∃ pd, Dq K H x pd ∧ OddD pd ∧ PairV H x pd
theorem OddAt.same {K : PySem.W.Frag} {H H' : Hp} {x : V} (h : OddAt K H x) (s : Same H H') : OddAt K H' x := by
  obtain ⟨pd, h1, h2, h3⟩ := h
  refine ⟨pd, Dq.same s h1, h2, fun k e => ?_⟩
  obtain ⟨b, e1, e2⟩ := h3 k e
  exact ⟨b, e1, s _ _ e2⟩
theorem OddAt.no {K : PySem.W.Frag} {H : Hp} {x : V} {pd : PyData} (h : Dq K H x pd) (o : OddD pd) (k : keyOf pd = none) : OddAt K H x := ⟨pd, h, o, fun k' e => by rw [k] at e; cases e⟩
theorem OddAt.pair {K : PySem.W.Frag} {H : Hp} {b : Addr} {x : Str} {i : Int} (h : H b = some (.tup [.str x, .int i])) (o : OddD (.tuple [.str x, .int i])) : OddAt K H (.ref b) := by
  refine ⟨_, .tup (.inl (.inl h)) (.cons (.str _) (.cons (.int _) .nil)), o, fun k e => ?_⟩
  cases (Option.some.inj e)
  exact ⟨b, rfl, h⟩
theorem acc_step {K : PySem.W.Frag} {H H' : Hp} {acc : List V} {y : V} (h : ∀ x ∈ acc, OddAt K H x) (s : Same H H') (o : OddAt K H' y) : ∀ x ∈ acc ++ [y], OddAt K H' x := fun x hx => by
  rcases List.mem_append.mp hx with z | z
  · exact (h x z).same s
  · rw [List.mem_singleton.mp z]
    exact o
theorem acc_up {K : PySem.W.Frag} {H H' : Hp} {acc : List V} (h : ∀ x ∈ acc, OddAt K H x) (s : Same H H') : ∀ x ∈ acc, OddAt K H' x := fun x hx => (h x hx).same s
theorem acc_two {K : PySem.W.Frag} {H : Hp} {acc ys : List V} (h : ∀ x ∈ acc, OddAt K H x) (g : ∀ x ∈ ys, OddAt K H x) : ∀ x ∈ acc ++ ys, OddAt K H x := fun x hx => (List.mem_append.mp hx).elim (h x) (g x)
theorem acc_nil {K : PySem.W.Frag} {H : Hp} : ∀ x ∈ ([] : List V), OddAt K H x := fun x hx => by cases hx
theorem pc_at {K : PySem.W.Frag} {H : Hp} : ∀ {zs : List V} {ps : List (Plc × Str)} {i : Nat} {x : V}, PcAt K H zs ps → zs[i]? = some x → ∃ q, ps[i]? = some q ∧ Pc1 K H x q
  | [], _, _, _, _, h => by cases h
  | z :: zs, _, i, x, h, e => by
    cases h with
    | cons h t =>
      cases i with
      | zero =>
        cases e
        exact ⟨_, rfl, h⟩
      | succ i =>
        have e' : zs[i]? = some x := e
        obtain ⟨q, a, b⟩ := pc_at (i := i) t e'
        exact ⟨q, a, b⟩
abbrev nOdd : List Str := ["_law_joints", "_law_due", "_law_found", "_law_name", "_law_word", "_law_place", "_law_colour"]
theorem scOdd : FnScope nOdd ["_law_joints", "_law_due"] (defScope sOdd) := ⟨rfl, rfl, rfl, by decide +kernel, rfl, by decide +kernel, by decide +kernel⟩
def spOdd (K : PySem.W.Frag) : Sp := fun vs H Q _ => ∃ (J U : Addr) (ys zs : List V) (js : List Jnt) (ps : List (Plc × Str)), vs = [.ref J, .ref U] ∧ SqL K H J ys ∧ DqAll K H ys (js.map dJoint) ∧ SqL K H U zs ∧ PcAt K H zs ps ∧ (∀ j ∈ js, ShS j.1) ∧ (∀ q ∈ ps, ShS q.1.1 ∧ ShS q.2 ∧ q.1.2 < 40) ∧ js.length ≤ 1000 ∧ ps.length ≤ 40000 ∧
  ∀ l os H', Same H H' → H l = none → H' l = some (.lst os) → (∀ x ∈ os, OddAt K H' x) → Q (.ref l) H'
section
variable {P : Program} {w : World} {K : PySem.W.Frag} {mg : Str → Option Value} {base : Heap}
theorem ok_odd {f : Addr} {fd : FuncData} (F : Fun K "_law_odd_places" "_law_odd_places" sOdd f fd) (N : Nm mg) (W : Wd mg) : FnOk P w K mg base CX0 1 f fd ["_law_joints", "_law_due"] (spOdd K) := by
  refine F.ok scOdd (fun vs H Q E h => ?_) (fun cdv A outer s H vs Q E hr h => ?_)
  · obtain ⟨J, U, ys, zs, js, ps, rfl, _⟩ := h
    rfl
  · obtain ⟨J, U, ys, zs, js, ps, rfl, hJ, hy, hU, hz, sj, sp, lj, lp, k⟩ := h
    refine ⟨_, pss_cons (ps_set (i := 2) scOdd.nd rfl (.inl rfl) (pe_lstB (pa_cons pe_non (pa_cons pe_bl (pa_cons pe_int (pa_cons pe_str (pa_cons (pe_tup pa_nil) (pa_cons (pe_lstB pa_nil) (pa_cons pe_dnewK (pa_cons (pe_tup (pa_cons pe_str pa_nil))
        (pa_cons (pe_tup (pa_cons pe_str (pa_cons (pe_un un_neg pe_int) pa_nil))) (pa_cons (pe_tup (pa_cons pe_str (pa_cons pe_str pa_nil))) (pa_cons (pe_tup (pa_cons pe_str (pa_cons pe_bl pa_nil))) (pa_cons (pe_tup (pa_cons pe_str (pa_cons pe_bl pa_nil))) pa_nil))))))))))))))
      (pss_cons (ps_set (i := 2) scOdd.nd rfl (.inl rfl) (pe_op op_cat (pv 2) (pe_lst (pa_cons (pe_tup (pa_cons pe_str (pa_cons pe_int pa_nil))) (pa_cons (pe_tup (pa_cons pe_str (pa_cons pe_int pa_nil))) (pa_cons (pe_tup (pa_cons pe_int (pa_cons pe_int pa_nil))) (pa_cons (pe_tup (pa_cons pe_non (pa_cons pe_int pa_nil)))
        (pa_cons (pe_tup (pa_cons (pe_tup (pa_cons pe_str (pa_cons pe_int pa_nil))) (pa_cons pe_int pa_nil))) (pa_cons (pe_tup (pa_cons (pe_lstB (pa_cons pe_str pa_nil)) (pa_cons pe_int pa_nil))) (pa_cons (pe_tup (pa_cons pe_dnewK (pa_cons pe_int pa_nil))) (pa_cons (pe_tup (pa_cons pe_str (pa_cons (pe_lstB pa_nil) pa_nil))) pa_nil)))))))))))
      (pss_cons (ps_for PassesOwn.never rfl (pi_list (pv 0)) (pg_tup rfl (pgs_cons (pg_name (i := 3) scOdd.nd rfl (.inl rfl)) (pgs_cons (pg_name (i := 4) scOdd.nd rfl (.inl rfl)) pgs_nil)))
        (pss_one (ps_set (i := 2) scOdd.nd rfl (.inl rfl) (pe_op op_cat (pv 2) (pe_lst (pa_cons (pv 3) (pa_cons (pe_tup (pa_cons (pv 3) pa_nil)) (pa_cons (pe_lstB (pa_cons (pv 3) (pa_cons pe_int pa_nil))) (pa_cons (pe_tup (pa_cons (pv 3) (pa_cons (pe_un un_neg pe_int) pa_nil))) (pa_cons (pe_tup (pa_cons (pv 3) (pa_cons pe_bl pa_nil)))
          (pa_cons (pe_tup (pa_cons (pv 3) (pa_cons pe_non pa_nil))) (pa_cons (pe_tup (pa_cons (pv 3) (pa_cons pe_int (pa_cons pe_int pa_nil)))) (pa_cons (pe_tup (pa_cons (pv 3) (pa_cons pe_int pa_nil))) pa_nil)))))))))))))
      (pss_cons (ps_for PassesOwn.never rfl (pi_list (pv 1)) (pg_tup rfl (pgs_cons (pg_name (i := 5) scOdd.nd rfl (.inl rfl)) (pgs_cons (pg_name (i := 6) scOdd.nd rfl (.inl rfl)) pgs_nil)))
        (pss_one (ps_set (i := 2) scOdd.nd rfl (.inl rfl) (pe_op op_cat (pv 2) (pe_lst (pa_cons (pe_callTy call_listB (by rfl) N.lst (by decide +kernel) (pa_cons (pv 5) pa_nil)) (pa_cons (pe_op op_catT (pv 5) (pe_tup (pa_cons pe_int pa_nil)))
          (pa_cons (pe_tup (pa_cons (pe_ix (show IxR _ (rIxT K) from ix_tup) (pv 5) pe_int (fun _ _ => rfl)) (pa_cons (pe_op op_add (pe_ix (show IxR _ (rIxT K) from ix_tup) (pv 5) pe_int (fun _ _ => rfl)) pe_int) pa_nil)))
          (pa_cons (pe_tup (pa_cons (pe_ix (show IxR _ (rIxT K) from ix_tup) (pv 5) pe_int (fun _ _ => rfl)) (pa_cons (pe_callTy call_str_int (by rfl) W.str (by decide +kernel) (pa_cons (pe_ix (show IxR _ (rIxT K) from ix_tup) (pv 5) pe_int (fun _ _ => rfl)) pa_nil)) pa_nil))) (pa_cons (pv 6) pa_nil))))))))))
      (pss_one (ps_ret (pv 2)))))), ?_⟩
    have cl := closed_odd
    simp only [List.all_cons, List.all_nil, Bool.and_eq_true] at cl
    obtain ⟨c0, c1, c2, c3, c4, c5, c6, c7, c8, c9, c10, c11, c12, c13, c14, c15, c16, c17, c18, c19, _⟩ := cl
    have z0 : 0 ≤ sizeLine := Nat.zero_le _
    have z1 : 1 ≤ sizeLine := by decide
    have z2 : 2 ≤ sizeLine := by decide
    have z3 : 3 ≤ sizeLine := by decide
    have z12 : 12 ≤ sizeLine := by decide
    have z8 : 8 ≤ sizeLine := by decide
    have z5 : 5 ≤ sizeLine := by decide
    refine ⟨z0, fun t1 n1 => ⟨z0, fun t2 n2 m2 => fun t3 n3 => ⟨z1, fun t4 n4 => ⟨_, rfl, z2, fun t5 n5 => ⟨z2, fun t6 n6 => ⟨z2, fun t7 n7 => ⟨z2, fun t8 n8 => ⟨z12, fun l nl ml => ?_⟩⟩⟩⟩⟩⟩⟩⟩
    have a0 : ∀ x ∈ [V.non, .bl true, .int 0, .str "root"], OddAt K H x := acc_step (acc_step (acc_step (acc_step acc_nil (Same.refl H) (.no .non (.of c0) rfl)) (Same.refl H) (.no (.bl _) (.of c1) rfl)) (Same.refl H) (.no (.int _) (.of c2) rfl)) (Same.refl H) (.no (.str _) (.of c3) rfl)
    have s1 := same_new (o := .tup []) n1
    have a1 := acc_step a0 s1 (.no (.tup (xs := []) (.inl (.inl upd_same)) .nil) (.of c4) rfl)
    generalize upd H t1 (.tup []) = H1 at n2 n3 n4 n5 n6 n7 n8 nl s1 a1 ⊢
    have s2 := same_new (o := .lst []) n2
    have a2 := acc_step a1 s2 (.no (.lst (xs := []) (.inl (.inl upd_same)) .nil m2) (.of c5) rfl)
    generalize upd H1 t2 (.lst []) = H2 at n3 n4 n5 n6 n7 n8 nl s2 a2 ⊢
    have s3 := same_new (o := .dK []) n3
    have a3 := acc_step a2 s3 (.no (.dic (kvs := []) (ds := []) upd_same .nil) (.of c6) rfl)
    generalize upd H2 t3 (.dK []) = H3 at n4 n5 n6 n7 n8 nl s3 a3 ⊢
    have s4 := same_new (o := .tup [.str "root"]) n4
    have a4 := acc_step a3 s4 (.no (.tup (xs := [.str "root"]) (.inl (.inl upd_same)) (.cons (.str _) .nil)) (.of c7) rfl)
    generalize upd H3 t4 (.tup [.str "root"]) = H4 at n5 n6 n7 n8 nl s4 a4 ⊢
    have s5 := same_new (o := .tup [.str "root", .int (-1)]) n5
    have a5 := acc_step a4 s5 (.pair upd_same (.of c8))
    generalize upd H4 t5 (.tup [.str "root", .int (-1)]) = H5 at n6 n7 n8 nl s5 a5 ⊢
    have s6 := same_new (o := .tup [.str "root", .str "0"]) n6
    have a6 := acc_step a5 s6 (.no (.tup (xs := [.str "root", .str "0"]) (.inl (.inl upd_same)) (.cons (.str _) (.cons (.str _) .nil))) (.of c9) rfl)
    generalize upd H5 t6 (.tup [.str "root", .str "0"]) = H6 at n7 n8 nl s6 a6 ⊢
    have s7 := same_new (o := .tup [.str "root", .bl true]) n7
    have a7 := acc_step a6 s7 (.no (.tup (xs := [.str "root", .bl true]) (.inl (.inl upd_same)) (.cons (.str _) (.cons (.bl _) .nil))) (.of c10) rfl)
    generalize upd H6 t7 (.tup [.str "root", .bl true]) = H7 at n8 nl s7 a7 ⊢
    have s8 := same_new (o := .tup [.str "root", .bl false]) n8
    have a8 := acc_step a7 s8 (.no (.tup (xs := [.str "root", .bl false]) (.inl (.inl upd_same)) (.cons (.str _) (.cons (.bl _) .nil))) (.of c11) rfl)
    generalize upd H7 t8 (.tup [.str "root", .bl false]) = H8 at nl s8 a8 ⊢
    have sl := same_new (o := .lst [V.non, .bl true, .int 0, .str "root", .ref t1, .ref t2, .ref t3, .ref t4, .ref t5, .ref t6, .ref t7, .ref t8]) nl
    have e1 : (upd H8 l (.lst [V.non, .bl true, .int 0, .str "root", .ref t1, .ref t2, .ref t3, .ref t4, .ref t5, .ref t6, .ref t7, .ref t8])) l = _ := upd_same
    have b1 : ∀ x ∈ [V.non, .bl true, .int 0, .str "root", .ref t1, .ref t2, .ref t3, .ref t4, .ref t5, .ref t6, .ref t7, .ref t8], OddAt K _ x := acc_up a8 sl
    have S1 := s1.trans (s2.trans (s3.trans (s4.trans (s5.trans (s6.trans (s7.trans (s8.trans sl)))))))
    have L1 : [V.non, .bl true, .int 0, .str "root", .ref t1, .ref t2, .ref t3, .ref t4, .ref t5, .ref t6, .ref t7, .ref t8].length = 12 := rfl
    generalize upd H8 l (.lst [V.non, .bl true, .int 0, .str "root", .ref t1, .ref t2, .ref t3, .ref t4, .ref t5, .ref t6, .ref t7, .ref t8]) = H9 at e1 b1 S1 ⊢
    generalize [V.non, .bl true, .int 0, .str "root", .ref t1, .ref t2, .ref t3, .ref t4, .ref t5, .ref t6, .ref t7, .ref t8] = os1 at e1 b1 L1
    clear s1 s2 s3 s4 s5 s6 s7 s8 sl a0 a1 a2 a3 a4 a5 a6 a7 a8
    refine ⟨_, rfl, z2, fun t1 n1 => ⟨z2, fun t2 n2 => ⟨z2, fun t3 n3 => ⟨z2, fun t4 n4 => ⟨z2, fun t5 n5 => ⟨z2, fun t6 n6 => ⟨z1, fun t7 n7 m7 => ⟨z2, fun t8 n8 => fun t9 n9 => ⟨z2, fun t10 n10 => ⟨z0, fun t11 n11 m11 => ⟨z2, fun t12 n12 => ⟨z8, fun l2 nl2 => ?_⟩⟩⟩⟩⟩⟩⟩⟩⟩⟩⟩⟩
    have a0 : ∀ x ∈ ([] : List V), OddAt K H9 x := acc_nil
    have s1 := same_new (o := .tup [.str "zz", .int 0]) n1
    have a1 := acc_step a0 s1 (.pair upd_same (.of c12))
    generalize upd H9 t1 (.tup [.str "zz", .int 0]) = G1 at n2 n3 n4 n5 n6 n7 n8 n9 n10 n11 n12 nl2 s1 a1 ⊢
    have s2 := same_new (o := .tup [.str "", .int 0]) n2
    have a2 := acc_step a1 s2 (.pair upd_same (.of c13))
    generalize upd G1 t2 (.tup [.str "", .int 0]) = G2 at n3 n4 n5 n6 n7 n8 n9 n10 n11 n12 nl2 s2 a2 ⊢
    have s3 := same_new (o := .tup [.int 0, .int 0]) n3
    have a3 := acc_step a2 s3 (.no (.tup (xs := [.int 0, .int 0]) (.inl (.inl upd_same)) (.cons (.int _) (.cons (.int _) .nil))) (.of c14) rfl)
    generalize upd G2 t3 (.tup [.int 0, .int 0]) = G3 at n4 n5 n6 n7 n8 n9 n10 n11 n12 nl2 s3 a3 ⊢
    have s4 := same_new (o := .tup [.non, .int 0]) n4
    have a4 := acc_step a3 s4 (.no (.tup (xs := [.non, .int 0]) (.inl (.inl upd_same)) (.cons .non (.cons (.int _) .nil))) (.of c15) rfl)
    generalize upd G3 t4 (.tup [.non, .int 0]) = G4 at n5 n6 n7 n8 n9 n10 n11 n12 nl2 s4 a4 ⊢
    have s5 := same_new (o := .tup [.str "root", .int 0]) n5
    have a5 := acc_up a4 s5
    have f5 : upd G4 t5 (.tup [.str "root", .int 0]) t5 = some (.tup [.str "root", .int 0]) := upd_same
    generalize upd G4 t5 (.tup [.str "root", .int 0]) = G5 at n6 n7 n8 n9 n10 n11 n12 nl2 s5 a5 f5 ⊢
    have s6 := same_new (o := .tup [.ref t5, .int 0]) n6
    have a6 := acc_step a5 s6 (.no (.tup (xs := [.ref t5, .int 0]) (.inl (.inl upd_same)) (.cons (.tup (xs := [.str "root", .int 0]) (.inl (.inl (s6 _ _ f5))) (.cons (.str _) (.cons (.int _) .nil))) (.cons (.int _) .nil))) (.of c16) rfl)
    generalize upd G5 t6 (.tup [.ref t5, .int 0]) = G6 at n7 n8 n9 n10 n11 n12 nl2 s6 a6 ⊢
    have s7 := same_new (o := .lst [.str "root"]) n7
    have a7 := acc_up a6 s7
    have f7 : upd G6 t7 (.lst [.str "root"]) t7 = some (.lst [.str "root"]) := upd_same
    generalize upd G6 t7 (.lst [.str "root"]) = G7 at n8 n9 n10 n11 n12 nl2 s7 a7 f7 ⊢
    have s8 := same_new (o := .tup [.ref t7, .int 0]) n8
    have a8 := acc_step a7 s8 (.no (.tup (xs := [.ref t7, .int 0]) (.inl (.inl upd_same)) (.cons (.lst (xs := [.str "root"]) (.inl (.inl (s8 _ _ f7))) (.cons (.str _) .nil) m7) (.cons (.int _) .nil))) (.of c17) rfl)
    generalize upd G7 t8 (.tup [.ref t7, .int 0]) = G8 at n9 n10 n11 n12 nl2 s8 a8 ⊢
    have s9 := same_new (o := .dK []) n9
    have a9 := acc_up a8 s9
    have f9 : upd G8 t9 (.dK []) t9 = some (.dK []) := upd_same
    generalize upd G8 t9 (.dK []) = G9 at n10 n11 n12 nl2 s9 a9 f9 ⊢
    have s10 := same_new (o := .tup [.ref t9, .int 0]) n10
    have a10 := acc_step a9 s10 (.no (.tup (xs := [.ref t9, .int 0]) (.inl (.inl upd_same)) (.cons (.dic (kvs := []) (ds := []) (s10 _ _ f9) .nil) (.cons (.int _) .nil))) (.of c18) rfl)
    generalize upd G9 t10 (.tup [.ref t9, .int 0]) = G10 at n11 n12 nl2 s10 a10 ⊢
    have s11 := same_new (o := .lst []) n11
    have a11 := acc_up a10 s11
    have f11 : upd G10 t11 (.lst []) t11 = some (.lst []) := upd_same
    generalize upd G10 t11 (.lst []) = G11 at n12 nl2 s11 a11 f11 ⊢
    have s12 := same_new (o := .tup [.str "root", .ref t11]) n12
    have a12 := acc_step a11 s12 (.no (.tup (xs := [.str "root", .ref t11]) (.inl (.inl upd_same)) (.cons (.str _) (.cons (.lst (xs := []) (.inl (.inl (s12 _ _ f11))) .nil m11) .nil))) (.of c19) rfl)
    generalize upd G11 t12 (.tup [.str "root", .ref t11]) = G12 at  nl2 s12 a12 ⊢
    have sl := same_new (o := .lst [V.ref t1, .ref t2, .ref t3, .ref t4, .ref t6, .ref t8, .ref t10, .ref t12]) nl2
    have S2 := s1.trans (s2.trans (s3.trans (s4.trans (s5.trans (s6.trans (s7.trans (s8.trans (s9.trans (s10.trans (s11.trans (s12.trans sl)))))))))))
    have b2 : ∀ x ∈ [V.ref t1, .ref t2, .ref t3, .ref t4, .ref t6, .ref t8, .ref t10, .ref t12], OddAt K _ x := acc_up a12 sl
    have e2 : (upd G12 l2 (.lst [V.ref t1, .ref t2, .ref t3, .ref t4, .ref t6, .ref t8, .ref t10, .ref t12])) l2 = _ := upd_same
    have L2' : [V.ref t1, .ref t2, .ref t3, .ref t4, .ref t6, .ref t8, .ref t10, .ref t12].length = 8 := rfl
    generalize upd G12 l2 (.lst [V.ref t1, .ref t2, .ref t3, .ref t4, .ref t6, .ref t8, .ref t10, .ref t12]) = H10 at e2 b2 S2 ⊢
    generalize [V.ref t1, .ref t2, .ref t3, .ref t4, .ref t6, .ref t8, .ref t10, .ref t12] = os2 at e2 b2 L2'
    clear s1 a1 s2 a2 s3 a3 s4 a4 s5 a5 s6 a6 s7 a7 s8 a8 s9 a9 s10 a10 s11 a11 s12 a12 sl a0
    refine ⟨l, l2, os1, os2, rfl, rfl, S2 _ _ e1, e2, (by rw [L1, L2']; decide), fun p hp => ?_⟩
    have sp1 := same_new (o := .lst (os1 ++ os2)) hp
    have b3 := acc_up (acc_two (acc_up b1 S2) b2) sp1
    have S3 := S1.trans (S2.trans sp1)
    have L3 : (os1 ++ os2).length = 20 := by rw [List.length_append, L1, L2']
    have e3 : upd H10 p (.lst (os1 ++ os2)) p = _ := upd_same
    have np3 : H p = none := (S1.trans S2).free hp
    generalize upd H10 p (.lst (os1 ++ os2)) = H11 at e3 b3 S3 ⊢
    generalize os1 ++ os2 = os at e3 b3 L3
    clear sp1
    refine ⟨_, rfl, J, rfl, ⟨_, S3.seq hJ⟩, for_it (walk_list (K := K) (a := J) (xs := ys)) (fun i σ H' => Same H H' ∧ ∃ p v3 v4 os, σ = [some (.ref J), some (.ref U), some (.ref p), v3, v4, none, none] ∧ H' p = some (.lst os) ∧ H p = none ∧ (∀ x ∈ os, OddAt K H' x) ∧ os.length = 20 + 8 * i)
      ⟨S3, p, _, _, os, rfl, e3, np3, b3, L3⟩ (fun i σ H' _ h => h.1.seq hJ) ?_ ?_⟩
    · clear e3 b3 L3 np3 e1 b1 e2 b2 L1 L2' S1 S2
      rintro i x σ H4' H4 hi ⟨sh, p', v3, v4, os', rfl, e4, np4, b4, L4⟩ ⟨rfl, hxi⟩
      obtain ⟨sd, ey, dq⟩ := DqAll.get i hy hxi
      obtain ⟨j, hj, rfl⟩ : ∃ j, js[i]? = some j ∧ sd = dJoint j := by
        rw [List.getElem?_map] at ey
        cases e : js[i]? with
        | none =>
          rw [e] at ey
          cases ey
        | some b =>
          rw [e] at ey
          exact ⟨b, rfl, (Option.some.inj ey).symm⟩
      obtain ⟨a, rfl, ha⟩ := joint_inv dq
      have hil : i < js.length := (List.getElem?_eq_some_iff.mp hj).1
      obtain ⟨q0, q1, q2, q3, q4, q5, q6, q7⟩ := odd_name (sj j (List.mem_of_getElem? hj))
      refine ⟨a, _, rfl, Same.sqT sh ha, rfl, _, _, rfl, _, _, rfl, rfl, ?_⟩
      refine ⟨_, rfl, _, rfl, _, rfl, z1, fun t1 n1 => ⟨_, rfl, z2, fun t2 n2 m2 => ⟨_, rfl, _, rfl, z2, fun t3 n3 => ⟨_, rfl, z2, fun t4 n4 => ⟨_, rfl, z2, fun t5 n5 => ⟨_, rfl, z3, fun t6 n6 => ⟨_, rfl, z2, fun t7 n7 => ⟨z8, fun l2 nl2 => ?_⟩⟩⟩⟩⟩⟩⟩⟩
      have a0 : ∀ x ∈ [V.str j.1], OddAt K H4 x := acc_step acc_nil (Same.refl H4) (.no (.str _) q0 rfl)
      have s1 := same_new (o := .tup [.str j.1]) n1
      have a1 := acc_step a0 s1 (.no (.tup (xs := [.str j.1]) (.inl (.inl upd_same)) (.cons (.str _) .nil)) q1 rfl)
      generalize upd H4 t1 (.tup [.str j.1]) = G1 at n2 n3 n4 n5 n6 n7 nl2 s1 a1 ⊢
      have s2 := same_new (o := .lst [.str j.1, .int 0]) n2
      have a2 := acc_step a1 s2 (.no (.lst (xs := [.str j.1, .int 0]) (.inl (.inl upd_same)) (.cons (.str _) (.cons (.int _) .nil)) m2) q2 rfl)
      generalize upd G1 t2 (.lst [.str j.1, .int 0]) = G2 at n3 n4 n5 n6 n7 nl2 s2 a2 ⊢
      have s3 := same_new (o := .tup [.str j.1, .int (-1)]) n3
      have a3 := acc_step a2 s3 (.pair upd_same q3)
      generalize upd G2 t3 (.tup [.str j.1, .int (-1)]) = G3 at n4 n5 n6 n7 nl2 s3 a3 ⊢
      have s4 := same_new (o := .tup [.str j.1, .bl true]) n4
      have a4 := acc_step a3 s4 (.no (.tup (xs := [.str j.1, .bl true]) (.inl (.inl upd_same)) (.cons (.str _) (.cons (.bl _) .nil))) q4 rfl)
      generalize upd G3 t4 (.tup [.str j.1, .bl true]) = G4 at n5 n6 n7 nl2 s4 a4 ⊢
      have s5 := same_new (o := .tup [.str j.1, .non]) n5
      have a5 := acc_step a4 s5 (.no (.tup (xs := [.str j.1, .non]) (.inl (.inl upd_same)) (.cons (.str _) (.cons .non .nil))) q5 rfl)
      generalize upd G4 t5 (.tup [.str j.1, .non]) = G5 at n6 n7 nl2 s5 a5 ⊢
      have s6 := same_new (o := .tup [.str j.1, .int 0, .int 0]) n6
      have a6 := acc_step a5 s6 (.no (.tup (xs := [.str j.1, .int 0, .int 0]) (.inl (.inl upd_same)) (.cons (.str _) (.cons (.int _) (.cons (.int _) .nil)))) q6 rfl)
      generalize upd G5 t6 (.tup [.str j.1, .int 0, .int 0]) = G6 at n7 nl2 s6 a6 ⊢
      have s7 := same_new (o := .tup [.str j.1, .int 4]) n7
      have a7 := acc_step a6 s7 (.pair upd_same q7)
      generalize upd G6 t7 (.tup [.str j.1, .int 4]) = G7 at  nl2 s7 a7 ⊢
      have sl := same_new (o := .lst [V.str j.1, .ref t1, .ref t2, .ref t3, .ref t4, .ref t5, .ref t6, .ref t7]) nl2
      have S2 := s1.trans (s2.trans (s3.trans (s4.trans (s5.trans (s6.trans (s7.trans sl))))))
      have b2 : ∀ x ∈ [V.str j.1, .ref t1, .ref t2, .ref t3, .ref t4, .ref t5, .ref t6, .ref t7], OddAt K _ x := acc_up a7 sl
      have e2 : (upd G7 l2 (.lst [V.str j.1, .ref t1, .ref t2, .ref t3, .ref t4, .ref t5, .ref t6, .ref t7])) l2 = _ := upd_same
      have L2' : [V.str j.1, .ref t1, .ref t2, .ref t3, .ref t4, .ref t5, .ref t6, .ref t7].length = 8 := rfl
      generalize upd G7 l2 (.lst [V.str j.1, .ref t1, .ref t2, .ref t3, .ref t4, .ref t5, .ref t6, .ref t7]) = H10 at e2 b2 S2 ⊢
      generalize [V.str j.1, .ref t1, .ref t2, .ref t3, .ref t4, .ref t5, .ref t6, .ref t7] = os2 at e2 b2 L2'
      refine ⟨p', l2, os', os2, rfl, rfl, S2 _ _ e4, e2, (by rw [L4, L2', sizeLine_eq]; omega), fun r hr => ?_⟩
      have sp1 := same_new (o := .lst (os' ++ os2)) hr
      exact ⟨sh.trans (S2.trans sp1), r, _, _, os' ++ os2, rfl, upd_same, sh.free (S2.free hr), acc_up (acc_two (acc_up b4 S2) b2) sp1, by rw [List.length_append, L4, L2']; omega⟩
    · rintro σ H4 ⟨s4, p', v3, v4, os', rfl, e4, np4, b4, L4⟩
      have lz := Paired.length hz
      have ly : ys.length = js.length := by rw [hy.len, List.length_map]
      rw [ly] at L4
      refine ⟨_, rfl, U, rfl, ⟨_, s4.seq hU⟩, for_it (walk_list (K := K) (a := U) (xs := zs)) (fun i σ H' => Same H H' ∧ ∃ p v5 v6 os, σ = [some (.ref J), some (.ref U), some (.ref p), v3, v4, v5, v6] ∧ H' p = some (.lst os) ∧ H p = none ∧ (∀ x ∈ os, OddAt K H' x) ∧ os.length = 20 + 8 * js.length + 5 * i)
        ⟨s4, p', _, _, os', rfl, e4, np4, b4, L4⟩ (fun i σ H' _ h => h.1.seq hU) ?_ ?_⟩
      · clear e4 b4 L4 np4 e3 b3 L3 np3 e1 b1 e2 b2 L1 L2' S1 S2
        rintro i x σ H5' H5 hi ⟨sh, p', v5, v6, os', rfl, e4, np4, b4, L4⟩ ⟨rfl, hxi⟩
        obtain ⟨q, hq, pq⟩ := pc_at hz hxi
        obtain ⟨t, b, rfl, hs, hb⟩ := pq.same sh
        have hil : i < ps.length := (List.getElem?_eq_some_iff.mp hq).1
        obtain ⟨k1, k2, k3⟩ := sp q (List.mem_of_getElem? hq)
        obtain ⟨q1, q2, q3⟩ := odd_place k1 k3
        have q4 := odd_two k1 (shS_num k3)
        refine ⟨t, _, rfl, hs, rfl, _, _, rfl, _, _, rfl, rfl, ?_⟩
        refine ⟨_, rfl, _, rfl, b, _, rfl, .inl (.inl hb), fun t1 n1 m1 => ?_⟩
        have lg : (q.1.2 : Int).natAbs.log2 < 1920 := (shI (i := (q.1.2 : Int)) (by omega)).lg
        have s1 := same_new (o := .lst [.str q.1.1, .int (q.1.2 : Int)]) n1
        have a1 : ∀ x ∈ [V.ref t1], OddAt K _ x := acc_step (acc_nil (H := H5)) s1 (.no (.lst (xs := [.str q.1.1, .int (q.1.2 : Int)]) (.inl (.inl upd_same)) (.cons (.str _) (.cons (.int _) .nil)) m1) q1 rfl)
        have hb1 := s1 _ _ hb
        generalize upd H5 t1 (.lst [.str q.1.1, .int (q.1.2 : Int)]) = G1 at s1 a1 hb1 ⊢
        refine ⟨_, rfl, z1, fun t2 n2 => ⟨b, t2, _, _, rfl, rfl, .inl (.inl ((same_new n2) _ _ hb1)), .inl (.inl upd_same), (fun e => by cases e), z3, (fun e => by cases e), fun _ t3 n3 => ?_⟩⟩
        have s2 := same_new (o := .tup [.int 0]) n2
        generalize upd G1 t2 (.tup [.int 0]) = G2 at n3 s2 ⊢
        have s3 := same_new (o := .tup [.str q.1.1, .int (q.1.2 : Int), .int 0]) n3
        have a3 : ∀ x ∈ [V.ref t1, .ref t3], OddAt K _ x := acc_step a1 (s2.trans s3) (.no (.tup (xs := [.str q.1.1, .int (q.1.2 : Int), .int 0]) (.inl (.inl upd_same)) (.cons (.str _) (.cons (.int _) (.cons (.int _) .nil)))) q2 rfl)
        have hb3 := s3 _ _ (s2 _ _ hb1)
        rw [show ([V.str q.1.1, V.int (q.1.2 : Int)] : List V) ++ [V.int 0] = [V.str q.1.1, V.int (q.1.2 : Int), V.int 0] from rfl]
        generalize upd G2 t3 (.tup [.str q.1.1, .int (q.1.2 : Int), .int 0]) = G3 at s3 a3 hb3 ⊢
        refine ⟨_, rfl, b, _, _, .str q.1.1, rfl, rfl, .inl (.inl hb3), L2.at_of (j := 0) rfl rfl, _, rfl, b, _, _, .int (q.1.2 : Int), rfl, rfl, .inl (.inl hb3), L2.at_of (j := 1) rfl rfl, _, _, rfl, rfl, z2, fun t4 n4 => ?_⟩
        have s4 := same_new (o := .tup [.str q.1.1, .int ((q.1.2 : Int) + 9)]) n4
        have a4 : ∀ x ∈ [V.ref t1, .ref t3, .ref t4], OddAt K _ x := acc_step a3 s4 (.pair upd_same q3)
        have hb4 := s4 _ _ hb3
        generalize upd G3 t4 (.tup [.str q.1.1, .int ((q.1.2 : Int) + 9)]) = G4 at s4 a4 hb4 ⊢
        refine ⟨_, rfl, b, _, _, .str q.1.1, rfl, rfl, .inl (.inl hb4), L2.at_of (j := 0) rfl rfl, _, rfl, b, _, _, .int (q.1.2 : Int), rfl, rfl, .inl (.inl hb4), L2.at_of (j := 1) rfl rfl, _, rfl, lg, z2, fun t5 n5 => ?_⟩
        have s5 := same_new (o := .tup [.str q.1.1, .str (Str.ofString (toString (q.1.2 : Int)))]) n5
        have a5 : ∀ x ∈ [V.ref t1, .ref t3, .ref t4, .ref t5], OddAt K _ x := acc_step a4 s5 (.no (.tup (xs := [.str q.1.1, .str (Str.ofString (toString (q.1.2 : Int)))]) (.inl (.inl upd_same)) (.cons (.str _) (.cons (.str _) .nil))) q4 rfl)
        generalize upd G4 t5 (.tup [.str q.1.1, .str (Str.ofString (toString (q.1.2 : Int)))]) = G5 at s5 a5 ⊢
        refine ⟨_, rfl, z5, fun l2 nl2 => ?_⟩
        have a6 : ∀ x ∈ [V.ref t1, .ref t3, .ref t4, .ref t5, .str q.2], OddAt K G5 x := acc_step a5 (Same.refl G5) (.no (.str _) (odd_name k2).1 rfl)
        have sl := same_new (o := .lst [V.ref t1, .ref t3, .ref t4, .ref t5, .str q.2]) nl2
        have S2 := s1.trans (s2.trans (s3.trans (s4.trans (s5.trans sl))))
        have b2 := acc_up a6 sl
        have e2 : (upd G5 l2 (.lst [V.ref t1, .ref t3, .ref t4, .ref t5, .str q.2])) l2 = _ := upd_same
        have L2' : [V.ref t1, .ref t3, .ref t4, .ref t5, .str q.2].length = 5 := rfl
        generalize upd G5 l2 (.lst [V.ref t1, .ref t3, .ref t4, .ref t5, .str q.2]) = H10 at e2 b2 S2 ⊢
        generalize [V.ref t1, .ref t3, .ref t4, .ref t5, .str q.2] = os2 at e2 b2 L2'
        refine ⟨p', l2, os', os2, rfl, rfl, S2 _ _ e4, e2, (by rw [L4, L2', sizeLine_eq]; omega), fun r hr => ?_⟩
        have sp1 := same_new (o := .lst (os' ++ os2)) hr
        exact ⟨sh.trans (S2.trans sp1), r, _, _, os' ++ os2, rfl, upd_same, sh.free (S2.free hr), acc_up (acc_two (acc_up b4 S2) b2) sp1, by rw [List.length_append, L4, L2']; omega⟩
      · rintro σ H5 ⟨s5, p', v5, v6, os', rfl, e5, np5, b5, L5⟩
        exact ⟨_, rfl, k p' os' H5 s5 np5 e5 b5⟩
end
end Bc

namespace Bc
open PySem PySem.Spec PyProof.Rows L2 LamX
/-! ### the end of a law by a guarded def, with a table of code objects -/
/-- nothing but the script and the table at P is tracked -/
def Only2 (P : Addr) (H : Hp) : Prop := ∀ b, H b = none ∨ b = P ∨ ∃ o xs, H b = some (.frz o (.lst xs))
theorem lawT_core {P : Program} {w : World} {K : PySem.W.Frag} {mg mb : Str → Option Value} {k : Nat} {fa a c T : Addr} {fd : FuncData} {x : Str} {sp : Sp} {s₁ : Shared} {vs : List Value} {H : Hp}
    (kin : K.In s₁.heap) (hns : s₁.heap.Ns mainGlobals mg) (hb : s₁.heap.Ns builtinsNs mb) (hbb : ∀ x : Str, x ≠ "__name__" → mb x = bootBuiltins x) (hlim : s₁.heap.NoLimit) (hg : s₁.gens = #[])
    (hT : s₁.heap.get? T = some { cls := .none, data := .fields #[] }) (nT : K.lookup T = none) (C : PySem.W.CodeHd s₁.heap c T)
    (hbm : ∃ (bm : Addr) (ob : Obj), mg "__builtins__" = some (.ref bm) ∧ bm ≠ builtinsNs ∧ s₁.heap.get? bm = some ob ∧ ob.cls = .type "module" ∧ ob.dict = some builtinsNs ∧ ob.data = .plain)
    (ha : s₁.heap.get? a = some { cls := .type "list", data := .seq vs.toArray }) (hr : Room k callerA)
    (hF : ∀ base : Heap, K.In base → base.Ns mainGlobals mg → TabB base mg c T → FnG P w K mg base k fa fd [x] sp) (hbd : ∀ (s : Shared) (u : Value), BindsTo s fd ⟨[u], []⟩ [(x, u)])
    (hsp : sp [.ref a] H (fun v _ => v = .bl true) E0) (eT : H T = some (.tbl #[])) (hO : Only2 T H) (hok : HOk P w H s₁.heap) (only : ∀ b, H b ≠ none → b = a ∨ b = T) (hK : H a ≠ none → K.lookup a = none) :
    codeAny (model P w) callerA (.call (.ref fa) ⟨[.ref a], []⟩) (LawEnd s₁) s₁ := by
  have down : ∀ {b : Addr} {o : Obj}, s₁.heap.get? b = some o → H b = none → (hidT s₁.heap H).get? b = some o := fun h1 h2 => hidT_get h1 h2
  -- what is neither a list nor an empty table is not tracked
  have apart : ∀ {b : Addr} {o : Obj}, s₁.heap.get? b = some o → (∀ vs n, o.data ≠ .seq vs n) → o.data ≠ .fields #[] → H b = none := by
    intro b o h1 h2 h3
    cases q : H b with
    | none => rfl
    | some u =>
      rcases only b (by rw [q]; exact Option.some_ne_none u) with z | z
      · subst z
        rw [ha] at h1
        cases h1
        exact absurd rfl (h2 _ _)
      · subst z
        rw [hT] at h1
        cases h1
        exact absurd rfl h3
  have nodict : ∀ {b : Addr} {o : Obj} {es : Array DictEntry} {ep : Nat}, s₁.heap.get? b = some o → o.data = .dict es ep → H b = none := fun {b o es ep} h1 h2 =>
    apart h1 (fun vs n z => by rw [h2] at z; cases z) (fun z => by rw [h2] at z; cases z)
  have nsd : ∀ {b : Addr} {m : Str → Option Value}, s₁.heap.Ns b m → (hidT s₁.heap H).Ns b m := by
    rintro b m ⟨o, es, ep, h1, h2, r⟩
    exact ⟨o, es, ep, down h1 (nodict h1 h2), h2, r⟩
  have kind : K.In (hidT s₁.heap H) := by
    intro b o e
    refine down (kin b o e) ?_
    cases q : H b with
    | none => rfl
    | some u =>
      rcases only b (by rw [q]; exact Option.some_ne_none u) with z | z
      · subst z
        rw [hK (by rw [q]; exact Option.some_ne_none u)] at e
        cases e
      · subst z
        rw [nT] at e
        cases e
  have md : Mod K mg (hidT s₁.heap H) := ⟨kind, nsd hns, ⟨mb, nsd hb, hbb⟩, by
    obtain ⟨mc, h1, h2⟩ := hlim
    exact ⟨mc, nsd h1, h2⟩⟩
  have TB : TabB (hidT s₁.heap H) mg c T := by
    refine ⟨?_, ?_, fun z => ?_⟩
    · obtain ⟨o, us, file, tf, flags, tg, inF, text, tt, e1, r1, r2, r3, rest⟩ := C
      refine ⟨o, us, file, tf, flags, tg, inF, text, tt, down e1 (apart e1 (fun vs n z => by rw [r2] at z; cases z) fun z => ?_), r1, r2, r3, rest⟩
      rw [r2] at z
      cases z
      simp at r3
    · obtain ⟨bm, ob, b1, b2, b3, b4, b5, b6⟩ := hbm
      refine ⟨bm, ob, b1, b2, fun q => ?_, fun q => ?_, down b3 (apart b3 (fun vs n z => by rw [b6] at z; cases z) fun z => by rw [b6] at z; cases z), b4, b5, b6⟩
      · obtain ⟨o, es, ep, e, hd, _⟩ := hns
        rw [q, e] at b3
        cases b3
        rw [hd] at b6
        cases b6
      · rw [q, hT] at b3
        cases b3
        cases b6
    · obtain ⟨o, es, ep, e, hd, _⟩ := hns
      rw [z, hT] at e
      cases e
      cases hd
  have env : Env0 P w K mg (hidT s₁.heap H) callerA [] s₁ H := ⟨rfl, md, fun b o e => of_hidT e, Nat.le_of_eq (hidT_size _ _), trivial, fun b z => absurd (show b ∈ ([] : List Addr) from z) (by simp), hok, .of_eq hg⟩
  refine codeAny_mono ((hF _ kind (nsd hns) TB).go callerA [] s₁ H ⟨[.ref a], []⟩ [.ref a] [.ref a] _ _ hr rfl env (hbd s₁ (.ref a)) (.cons rfl .nil) hsp) fun r s' h => ?_
  cases r with
  | error e => exact h.elim
  | ok fl =>
    cases fl with
    | next => exact h.elim
    | brk => exact h.elim
    | cont => exact h.elim
    | ret u =>
      obtain ⟨v, H', os, bare, un, hok', r', q⟩ := h
      have qv : v = .bl true := q
      subst qv
      obtain rfl : u = Value.bool true := r'
      have stays : ∀ b o, b ≠ T → s₁.heap.get? b = some o → s'.heap.get? b = some o := fun b o nb e => by
        cases q : H b with
        | none => exact un.keep b o e q (fun z => absurd (show b ∈ ([] : List Addr) from z) (by simp)) (by simp)
        | some u =>
          rcases hO b with z | z | ⟨ob, xs, z⟩
          · rw [q] at z
            cases z
          · exact absurd z nb
          · obtain ⟨e1, _⟩ := hok b _ z
            obtain ⟨e2, _⟩ := hok' b _ (un.frzs b ob _ z)
            rw [e] at e1
            cases e1
            exact e2
      obtain ⟨more, zm⟩ := un.tbls T #[] eT
      have hm := hok' T _ zm
      refine ⟨rfl, ⟨fun b o e => ?_, fun b o e => ?_⟩, os, bare⟩
      · by_cases hbT : b = T
        · subst hbT
          rw [hT] at e
          cases e
          exact .inr (.inl ⟨(C.tab hT).isCodeTable, rfl, #[], more, rfl, by rw [Array.empty_append]; rw [Array.empty_append] at hm; exact hm⟩)
        · exact .inl (stays b o hbT e)
      · by_cases hbT : b = T
        · subst hbT
          exact ⟨_, hm⟩
        · exact ⟨o, stays b o hbT e⟩
theorem lawT_call {P : Program} {w : World} {K : PySem.W.Frag} {mg mb : Str → Option Value} {k : Nat} {fa a c T : Addr} {fd : FuncData} {x : Str} {sp : Sp} {s₁ : Shared} {vs : List Value} {ns : List Int}
    (kin : K.In s₁.heap) (hns : s₁.heap.Ns mainGlobals mg) (hb : s₁.heap.Ns builtinsNs mb) (hbb : ∀ x : Str, x ≠ "__name__" → mb x = bootBuiltins x) (hlim : s₁.heap.NoLimit) (hg : s₁.gens = #[])
    (hT : s₁.heap.get? T = some { cls := .none, data := .fields #[] }) (nT : K.lookup T = none) (C : PySem.W.CodeHd s₁.heap c T)
    (hbm : ∃ (bm : Addr) (ob : Obj), mg "__builtins__" = some (.ref bm) ∧ bm ≠ builtinsNs ∧ s₁.heap.get? bm = some ob ∧ ob.cls = .type "module" ∧ ob.dict = some builtinsNs ∧ ob.data = .plain)
    (ha : s₁.heap.get? a = some { cls := .type "list", data := .seq vs.toArray }) (hi : IntsAre vs ns) (hl : ns.length ≤ sizeLine) (hr : Room k callerA)
    (hF : ∀ base : Heap, K.In base → base.Ns mainGlobals mg → TabB base mg c T → FnG P w K mg base k fa fd [x] sp) (hbd : ∀ (s : Shared) (u : Value), BindsTo s fd ⟨[u], []⟩ [(x, u)])
    (hsp : ∀ H : Hp, H T = some (.tbl #[]) → SqL K H a (ns.map V.int) → sp [.ref a] H (fun v _ => v = .bl true) E0) :
    codeAny (model P w) callerA (.call (.ref fa) ⟨[.ref a], []⟩) (LawEnd s₁) s₁ := by
  have rv := vals_ints hi
  have lenV := hi.length
  have aT : a ≠ T := fun z => by
    rw [z, hT] at ha
    cases ha
  cases hk : K.lookup a with
  | some o =>
    have e := kin a o hk
    rw [ha] at e
    cases e
    have hS : SqL K (fun b => if b = T then some (HO.tbl #[]) else none) a (ns.map V.int) := .inr ⟨_, vs.toArray, _, hk, rfl, rfl, rfl, by rw [List.size_toArray, lenV]; exact hl, by simpa using rv⟩
    refine lawT_core kin hns hb hbb hlim hg hT nT C hbm ha hr hF hbd (hsp _ (if_pos rfl) hS) (if_pos rfl) (fun b => ?_) (fun b u z => ?_) (fun b z => ?_) fun z => absurd (if_neg aT) z
    · by_cases y : b = T
      · exact .inr (.inl y)
      · exact .inl (if_neg y)
    · by_cases y : b = T
      · have z' := (if_pos y).symm.trans z
        cases z'
        subst y
        exact hT
      · have z' := (if_neg y).symm.trans z
        cases z'
    · by_cases y : b = T
      · exact .inr y
      · exact absurd (if_neg y) z
  | none =>
    have hS : SqL K (fun b => if b = a then some (HO.frz { cls := .type "list", data := .seq vs.toArray } (.lst (ns.map V.int))) else if b = T then some (HO.tbl #[]) else none) a (ns.map V.int) :=
      .inl (.inr ⟨{ cls := .type "list", data := .seq vs.toArray }, if_pos rfl⟩)
    have hTT : (fun b => if b = a then some (HO.frz { cls := .type "list", data := .seq vs.toArray } (.lst (ns.map V.int))) else if b = T then some (HO.tbl #[]) else none) T = some (HO.tbl #[]) := (if_neg (Ne.symm aT)).trans (if_pos rfl)
    refine lawT_core kin hns hb hbb hlim hg hT nT C hbm ha hr hF hbd (hsp _ hTT hS) hTT (fun b => ?_) (fun b u z => ?_) (fun b z => ?_) fun _ => hk
    · by_cases y : b = a
      · exact .inr (.inr ⟨_, _, if_pos y⟩)
      · by_cases y2 : b = T
        · exact .inr (.inl y2)
        · exact .inl ((if_neg y).trans (if_neg y2))
    · by_cases y : b = a
      · have z' := (if_pos y).symm.trans z
        cases z'
        subst y
        exact ⟨ha, by rw [List.length_map]; exact hl, vs, _, rv, ha⟩
      · have z1 := (if_neg y).symm.trans z
        by_cases y2 : b = T
        · have z' := (if_pos y2).symm.trans z1
          cases z'
          subst y2
          exact hT
        · have z' := (if_neg y2).symm.trans z1
          cases z'
    · by_cases y : b = a
      · exact .inl y
      · by_cases y2 : b = T
        · exact .inr y2
        · exact absurd ((if_neg y).trans (if_neg y2)) z
theorem walkT {l : PySem.W.OpenLaw} {n k : Nat} {q : Program} {loose : List Str} {XP : (Str → Option Value) → Heap → Prop} {YP : World → Heap → Prop} {d : DefRec} {K : Params → PySem.W.Frag} {sp : World → Addr → Sp} {x : Str}
    (hn : l.most = some n) (hn2 : n ≤ sizeLine) (hdf : d.params.defaults = []) (hr : Room k callerA) (hY : ∀ (w : World) (h : Heap), YP w h → (K w.params).In h)
    (F : ∀ (w : World) (mg : Str → Option Value) (fa : Addr) (h : Heap), YP w h → (K w.params).In h → h.Ns mainGlobals mg → mg d.name = some (.ref fa) →
      ∃ (fd : FuncData) (c T : Addr), h.get? T = some { cls := .none, data := .fields #[] } ∧ (K w.params).lookup T = none ∧ PySem.W.CodeHd h c T ∧ (∀ (s : Shared) (u : Value), BindsTo s fd ⟨[u], []⟩ [(x, u)]) ∧
        ∀ base : Heap, (K w.params).In base → base.Ns mainGlobals mg → TabB base mg c T → FnG l.prog w (K w.params) mg base k fa fd [x] (sp w T))
    (hsp : ∀ (w : World) (T : Addr) (H : Hp) (a : Addr) (ns : List Int), ns.length ≤ n → H T = some (.tbl #[]) → SqL (K w.params) H a (ns.map V.int) → sp w T [.ref a] H (fun v _ => v = .bl true) E0) :
    PySem.W.WalkO q loose XP YP l.row.toRowW d [] (fun f vs => PySem.call f vs) := by
  refine Att.attach_callB hn hdf fun w s₀ s₁ mg mb fa o pm cd doc a vs ns G Y ho hd hcd hmg hobj hints hlen hbits hg => ?_
  have KX := hY w _ Y
  obtain ⟨fd, c, T, hT, nT, C, hb, hF⟩ := F w mg fa _ Y KX G.T.g hmg
  exact lawT_call KX G.T.g G.T.b G.T.builtins G.T.nolimit hg hT nT C G.T.bmain hobj hints (Nat.le_trans hlen hn2) hr hF hb (fun H eT hS => hsp w T H a ns hlen eT hS)
end Bc

namespace Bc
open PySem PySem.Spec PyProof.Rows L2 LamX
/-! ### the law -/
abbrev nLaw : List Str := ["_law_script", "_law_source_here", "_law_turn", "_law_shapes_here", "_law_joints", "_law_colours", "_law_lap", "_law_roots", "_law_due", "_law_told", "_law_known", "_law_missing_here", "_law_bag", "_law_handed", "_law_odd", "_law_shape", "_law_place", "_law_colour"]
theorem scLaw : FnScope nLaw ["_law_script"] (defScope sLaw) := ⟨rfl, rfl, rfl, by decide +kernel, rfl, by decide +kernel, by decide +kernel⟩
def spLaw (K : PySem.W.Frag) (T : Addr) : Sp := fun vs H Q _ => ∃ (a : Addr) (ns : List Int), vs = [.ref a] ∧ SqL K H a (ns.map V.int) ∧ ns.length ≤ 63 ∧ H T = some (.tbl #[]) ∧ ∀ H', Q (.bl true) H'
structure Fns (P : Program) (w : World) (K : PySem.W.Frag) (mg : Str → Option Value) (base : Heap) (x : Str) (k : Nat) (ps : List Str) (sp : Sp) : Prop where
  ex : ∃ f fd, FnOk P w K mg base CX0 k f fd ps sp ∧ Binds K fd ps [] ∧ mg x = some (.ref f) ∧ PySem.W.keepIn K (.ref f) = true
structure FnsX (P : Program) (w : World) (K : PySem.W.Frag) (mg : Str → Option Value) (base : Heap) (x : Str) (k : Nat) (ps : List Str) (sp : Sp) : Prop where
  ex : ∃ f fd, FnOk P w K mg base (L2.CX P w) k f fd ps sp ∧ Binds K fd ps [] ∧ mg x = some (.ref f) ∧ PySem.W.keepIn K (.ref f) = true
structure Mts (P : Program) (w : World) (K : PySem.W.Frag) (mg : Str → Option Value) (base : Heap) (C : Addr) (x : Str) (k : Nat) (ps : List Str) (sp : Sp) : Prop where
  ex : ∃ f fd, FnOk P w K mg base CX0 k f fd ps sp ∧ Binds K fd ps [] ∧ Meth K C x f
structure Mks (P : Program) (w : World) (K : PySem.W.Frag) (mg : Str → Option Value) (base : Heap) (C : Addr) (x : Str) (k : Nat) (ps : List Str) (sp : Sp) : Prop where
  ex : ∃ f fd, FnOk P w K mg base CX0 k f fd ps sp ∧ Binds K fd ps [] ∧ Mk K C f
  gl : mg x = some (.ref C)
/-- a def whose code object is known -/
theorem FnG.bodyC {P : Program} {w : World} {K : PySem.W.Frag} {mg : Str → Option Value} {base : Heap} {x qual : Str} {st : Stmt} {f c : Addr} {N ps : List Str} {k : Nat} {sp : Sp} {oc kV doc pm ct : Value} {od an : Option Addr} {osl : Array (Option Value)}
    (lk : K.lookup f = some ⟨oc, od, .func (PySem.W.fnOf x qual (defArgs st) (defBody st) (defScope st) .none kV doc pm an (.ref c) ct), osl⟩) (hcd : PySem.W.codeIn K (.ref c) qual = true) (S : FnScope N ps (defScope st)) (hlen : ∀ vs H Q E, sp vs H Q E → vs.length = ps.length)
    (hb : ∀ (A : Around) (outer : List Env) (s : Shared) (H : Hp) (vs : List V) (Q : VK) (E : XK),
      Room k (A.deeper (envOfC qual (defScope st) s.heap.objs.size f (.ref c))) → (A.deeper (envOfC qual (defScope st) s.heap.objs.size f (.ref c))).guards = some [] → sp vs H Q E →
      ∃ t, PSs (cxOf CX0 P w K mg base N qual (defScope st) f (.ref c) A outer s H E).nox (defBody st) t ∧ t { nx := fun _ H' => Q .non H', rt := Q } (start N vs) H) :
    FnG P w K mg base (k + 1) f (PySem.W.fnOf x qual (defArgs st) (defBody st) (defScope st) .none kV doc pm an (.ref c) ct) ps sp := by
  refine ⟨hlen, fun A outer s H args us vs Q E hr hg e0 hbd r hsp => ?_⟩
  have hl := hlen _ _ _ _ hsp
  have KX : K.In s.heap := e0.mod.kin.keeps fun b o e => (e0.bs b o e).1
  have lim : s.heap.NoLimit := e0.mod.nolimit.keeps fun b o e => (e0.bs b o e).1
  have hkind : ∀ y ∈ ps.zip us, (defScope st).names.lookup y.1 = some .local ∨ ((defScope st).names.lookup y.1 = some .cell ∧ ((cellsFrom (s.heap.objs.size + 1) (defScope st).names []).lookup y.1).isSome = true) := fun y hy => by
    rcases S.par y.1 (List.of_mem_zip (a := y.1) (b := y.2) hy).1 with q | q
    · exact Or.inl q
    · exact Or.inr ⟨q, PySem.W.cellsFrom_some _ _ _ (Or.inl q)⟩
  refine codeAny_call_function hr.depth (KX _ _ lk) rfl S.co S.gen rfl (PySem.W.codeRec_of KX hcd) (hbd _ _ _ _ ?_)
  refine wpAny_newFunctionEnv_cells S.kind hkind fun env he s1 x => ?_
  subst he
  refine ⟨lim.keeps x.toInCall.keep, codeAny_func ?_⟩
  obtain ⟨t, ht, hq⟩ := hb A outer s H vs Q E (hr.deeper _) hg hsp
  have I := inv_start (E := E) (CX := CX0) S hr.hd e0 hl r x
  refine wpAny_mono (ht.nox.run [] s1 (start N vs) H _ I hq) (fun fl s' hs => ?_) fun e s' hs => hs
  cases fl with
  | ret u =>
    obtain ⟨v, σ', H', J, rv, q⟩ := hs
    exact ⟨v, H', J.os, J.bare, J.base, J.hok, rv, q⟩
  | next =>
    obtain ⟨σ', H', J, q⟩ := hs
    exact ⟨V.non, H', J.os, J.bare, J.base, J.hok, rfl, q⟩
  | brk =>
    obtain ⟨_, _, _, q⟩ := hs
    exact q.elim
  | cont =>
    obtain ⟨_, _, _, q⟩ := hs
    exact q.elim
end Bc

namespace Bc
open PySem PySem.Spec PyProof.Rows L2 LamX
/-! ### what stays where the table grows -/
section
variable {K : PySem.W.Frag} {H H' : Hp}
theorem sqL_ext {a : Addr} {xs : List V} (e : ExtN H H') (h : SqL K H a xs) : SqL K H' a xs := by
  rcases h with (h | ⟨o, h⟩) | h
  · exact .inl (.inl (e _ _ h fun ps z => by cases z))
  · exact .inl (.inr ⟨o, e _ _ h fun ps z => by cases z⟩)
  · exact .inr h
theorem sqT_ext {a : Addr} {xs : List V} (e : ExtN H H') (h : SqT K H a xs) : SqT K H' a xs := by
  rcases h with (h | ⟨o, h⟩) | h
  · exact .inl (.inl (e _ _ h fun ps z => by cases z))
  · exact .inl (.inr ⟨o, e _ _ h fun ps z => by cases z⟩)
  · exact .inr h
mutual
theorem Dq.ext (s : ExtN H H') : ∀ {v : V} {d : PyData}, Dq K H v d → Dq K H' v d
  | _, _, .non => .non
  | _, _, .bl b => .bl b
  | _, _, .int i => .int i
  | _, _, .str x => .str x
  | _, _, .lst h t n => .lst (sqL_ext s h) (DqAll.ext s t) n
  | _, _, .tup h t => .tup (sqT_ext s h) (DqAll.ext s t)
  | _, _, .dic h t => .dic (s _ _ h fun ps z => by cases z) (DqAll.ext s t)
theorem DqAll.ext (s : ExtN H H') : ∀ {vs : List V} {ds : List PyData}, DqAll K H vs ds → DqAll K H' vs ds
  | _, _, .nil => .nil
  | _, _, .cons h t => .cons (Dq.ext s h) (DqAll.ext s t)
end
theorem BookAt.ext {C b : Addr} {shs : List Shp} (h : BookAt K H C b shs) (s : ExtN H H') : BookAt K H' C b shs := by
  obtain ⟨dx, d, xs, h1, h2, h3⟩ := h
  exact ⟨dx, d, xs, s _ _ h1 (fun ps z => by cases z), s _ _ h2 (fun ps z => by cases z), DqAll.ext s h3⟩
theorem BagAt.ext {CB CG g : Addr} {shs : List Shp} {js : List Jnt} (h : BagAt K H CB CG g shs js) (s : ExtN H H') : BagAt K H' CB CG g shs js := by
  obtain ⟨dx, b, d, h1, h2, h3⟩ := h
  exact ⟨dx, b, d, s _ _ h1 (fun ps z => by cases z), h2.ext s, s _ _ h3 (fun ps z => by cases z)⟩
theorem RootsAt.ext {r : Addr} {roots : List Str} (h : RootsAt K H r roots) (s : ExtN H H') : RootsAt K H' r roots := h.elim (fun h => .inl (sqL_ext s h)) fun h => .inr (sqT_ext s h)
theorem RootsAt.same {r : Addr} {roots : List Str} (h : RootsAt K H r roots) (s : Same H H') : RootsAt K H' r roots := h.elim (fun h => .inl (s.seq h)) fun h => .inr (Same.sqT s h)
theorem OddAt.ext {x : V} (h : OddAt K H x) (s : ExtN H H') : OddAt K H' x := by
  obtain ⟨pd, h1, h2, h3⟩ := h
  refine ⟨pd, Dq.ext s h1, h2, fun k e => ?_⟩
  obtain ⟨b, e1, e2⟩ := h3 k e
  exact ⟨b, e1, s _ _ e2 fun ps z => by cases z⟩
end
/-- the table through which the lambda is made -/
theorem tabs_ext {T : List (Addr × Str)} {H H' : Hp} (t : Tabs T H) (s : Same H H') : Tabs T H' := t.ext s
theorem extN_same {H H' : Hp} (s : Same H H') : ExtN H H' := fun b o e _ => s b o e
/-- words are short texts -/
theorem isW_sh {x : Str} (h : isW x = true) : ShS x := by
  have l := isW_len h
  refine ⟨List.all_eq_true.mpr fun c hc => ?_, Nat.le_trans l (by decide)⟩
  have a := List.all_eq_true.mp (isW_all h) c hc
  unfold alnum inS at a
  have m := of_decide_eq_true a
  have all : ((sLetters ++ sDigits : Str).cps.toList.all fun c => decide (c < 16 ^ 8)) = true := by decide +kernel
  exact List.all_eq_true.mp all c m
end Bc

namespace Bc
open PySem PySem.Spec PyProof.Rows L2 LamX
/-! ### for the turn over the odd ones -/
theorem ifS_by {c : TT} {t u : TS} {D : Ends} {σ : L2.St} {H : Hp} (I : Bool → Hp → Prop) (h2 : ∀ Q : Bool → Hp → Prop, (∀ b H1, I b H1 → Q b H1) → c σ H Q) (h1 : ∀ b H1, I b H1 → if b = true then t D σ H1 else u D σ H1) : tIfS c t u D σ H := h2 _ h1
theorem shown_le {d : PyData} (o : OddD d) : d.shown.length ≤ sizeLine := PyData.shown_fits (B := 13) (by decide) (by decide) o.lv (Nat.le_trans o.wt (by decide))
theorem odd_dp {d : PyData} (o : OddD d) : d.depth ≤ 60 := Nat.le_trans o.dp (by decide)
theorem odd_lst {d : PyData} (o : OddD d) : (PyData.list [d]).showable = true ∧ (PyData.list [d]).depth ≤ 60 ∧ (PyData.list [d]).shown.length ≤ sizeLine := by
  have h1 := o.sh
  have h2 := o.dp
  have h3 := o.lv
  have h4 := o.wt
  refine ⟨?_, ?_, PyData.shown_fits (B := 13) (by decide) (by decide) ?_ ?_⟩
  · simp only [PyData.showable, PyData.showableAll, h1, Bool.and_self, Bool.and_true]
  · simp only [PyData.depth, PyData.depthAll]
    omega
  · simp only [PyData.leavesShort, PyData.leavesShortAll, h3, Bool.and_self, Bool.and_true]
  · simp only [PyData.weight, PyData.weightAll]
    have : (4002 : Nat) ≤ 2 ^ 20 := by decide
    omega
theorem odd_pl {x : Str} {k : Nat} (h : ShS x) (hk : k < 40) : OddD (.tuple [.str x, .int (k : Int)]) := by
  have c := h.cs
  have l := h.ln
  have ik := shI (i := (k : Int)) (by omega)
  have wk : PyData.weight (.int (k : Int)) ≤ 10 := by
    have z : ∀ n : Fin 40, PyData.weight (.int ((n : Nat) : Int)) ≤ 10 := by decide +kernel
    exact z ⟨k, hk⟩
  refine ⟨?_, ?_, ?_, ?_, ?_, ?_⟩
  all_goals first
    | rfl
    | (simp only [PyData.showable, PyData.showableAll, decide_eq_true ik.lg, Bool.and_self, Bool.and_true])
    | (simp only [PyData.depth, PyData.depthAll]; omega)
    | (simp only [PyData.leavesShort, PyData.leavesShortAll, c, decide_eq_true ik.sh, Bool.and_self, Bool.and_true])
    | (simp only [PyData.weight, PyData.weightAll] at wk ⊢; omega)
theorem PairV.ext {H H' : Hp} {x : V} {d : PyData} (h : PairV H x d) (s : ExtN H H') : PairV H' x d := fun k e => by
  obtain ⟨b, e1, e2⟩ := h k e
  exact ⟨b, e1, s _ _ e2 fun ps z => by cases z⟩
theorem lenD_le {d : PyData} (o : OddD d) : ∀ ds, d = .tuple ds → ds.length ≤ 1000 := fun ds e => by
  have z := o.ln
  rw [e] at z
  exact of_decide_eq_true z
theorem strs_flat : ∀ l : List Str, (l.map V.str).all flatV = true
  | [] => rfl
  | x :: l => by
    rw [List.map_cons, List.all_cons, strs_flat l]
    rfl
theorem inV_str {x : Str} {l : List Str} (h : x ∈ l) : inV (.str x) (l.map V.str) = true := by
  unfold inV
  rw [List.any_eq_true]
  refine ⟨.str x, List.mem_map.mpr ⟨x, h, rfl⟩, ?_⟩
  show decide (x = x) = true
  simp
theorem inV_map {α : Type} {f : α → Str} {l : List α} {q : α} (h : q ∈ l) : inV (.str (f q)) ((l.map f).map V.str) = true := inV_str (List.mem_map_of_mem h)
end Bc

namespace Bc
open PySem PySem.Spec PyProof.Rows L2 LamX
theorem alloc {d c p : Addr} {H : Hp} {o : HO} (src : SrcAt H d c) (hp : H p = none) : SrcAt (upd H p o) d c ∧ Same (hid d c H) (hid d c (upd H p o)) ∧ hid d c (upd H p o) p = some o := by
  obtain ⟨n1, n2, e⟩ := hid_new (o := o) src hp
  exact ⟨srcAt_upd src n1 n2, hid_up (same_new hp), e⟩
theorem make_same {H : Hp} {a dx C : Addr} (hx : H a = none) (hdx : H dx = none) : Same H (upd (upd H dx (.own a)) a (.ins C dx [])) := fun b o e => by
  rw [upd_ne (ne_of_none e hx), upd_ne (ne_of_none e hdx)]
  exact e
theorem sqT_hid {K : PySem.W.Frag} {H : Hp} {d c t : Addr} {xs : List V} (src : SrcAt H d c) (h : SqT K H t xs) : SqT K (hid d c H) t xs := by
  obtain ⟨n, hn, ne, cells, l, m, u, e1, e2, e3⟩ := src
  rcases h with (h | ⟨o, h⟩) | h
  · exact .inl (.inl (hid_put (fun z => by rw [z, e1] at h; cases h) (fun z => by rw [z, e2] at h; cases h) h))
  · exact .inl (.inr ⟨o, hid_put (fun z => by rw [z, e1] at h; cases h) (fun z => by rw [z, e2] at h; cases h) h⟩)
  · exact .inr h
theorem pcAt_hid {K : PySem.W.Frag} {H : Hp} {d c : Addr} {zs : List V} {ps : List (Plc × Str)} (src : SrcAt H d c) (h : PcAt K H zs ps) : PcAt K (hid d c H) zs ps := by
  induction h with
  | nil => exact .nil
  | cons h _ ih =>
    obtain ⟨t, b, e, h1, h2⟩ := h
    refine .cons ⟨t, b, e, sqT_hid src h1, ?_⟩ ih
    obtain ⟨n, hn, ne, cells, l, m, u, e1, e2, e3⟩ := src
    exact hid_put (fun z => by rw [z, e1] at h2; cases h2) (fun z => by rw [z, e2] at h2; cases h2) h2
theorem pls_lay : ∀ ps : List Plc, (∀ q ∈ ps, PyData.strOk q.1 = true) → PyData.canLayAll0 (ps.map dPl) = true
  | [], _ => rfl
  | q :: ps, h => by
    rw [List.map_cons, PyData.canLayAll0, pls_lay ps fun x hx => h x (List.mem_cons_of_mem _ hx), Bool.and_true]
    unfold dPl
    simp only [PyData.canLay0, PyData.canLayAll0, h q (List.mem_cons_self ..), Bool.and_self]
theorem pls_depth : ∀ ps : List Plc, PyData.depthAll (ps.map dPl) ≤ 1
  | [] => by simp [PyData.depthAll]
  | q :: ps => by
    have z := pls_depth ps
    have e : PyData.depth (dPl q) ≤ 1 := by simp [dPl, PyData.depth, PyData.depthAll]
    simp only [List.map_cons, PyData.depthAll]
    omega
theorem pls_shaped {ps : List Plc} (h : ∀ q ∈ ps, PyData.strOk q.1 = true) : SeqAt.shaped (.list (ps.map dPl)) = true := by
  unfold SeqAt.shaped
  have a := pls_lay ps h
  have b := pls_depth ps
  rw [PyData.canLay0, a, Bool.true_and]
  refine decide_eq_true ?_
  rw [PyData.depth]
  omega
/-- the place refs of pairs, one more -/
theorem pl_snoc {K : PySem.W.Frag} {H : Hp} {ps : List (Plc × Str)} {n : Nat} {q : Plc × Str} {b : Addr} {acc : List V} (hq : ps[n]? = some q) (hb : H b = some (.tup [.str q.1.1, .int (q.1.2 : Int)])) (h : DqAll K H acc ((ps.take n).map fun q => dPl q.1)) : DqAll K H (acc ++ [.ref b]) ((ps.take (n + 1)).map fun q => dPl q.1) := by
  rw [List.take_add_one, hq]
  show DqAll K H _ (((ps.take n) ++ [q]).map fun q => dPl q.1)
  rw [List.map_append]
  exact DqAll.app h (.cons (.tup (.inl (.inl hb)) (.cons (.str _) (.cons (.int _) .nil))) .nil)
theorem srcAt_ext {H H' : Hp} {d c : Addr} (src : SrcAt H d c) (e : ExtN H H') : SrcAt H' d c := by
  obtain ⟨n, hn, ne, cells, l, m, u, e1, e2, e3⟩ := src
  exact ⟨n, hn, ne, cells, l, m, u, e _ _ e1 (fun ps z => by cases z), e _ _ e2 (fun ps z => by cases z), e3⟩
theorem tabs_hid {H : Hp} {d c : Addr} {TL : List (Addr × Str)} (src : SrcAt H d c) (t : Tabs TL H) : Tabs TL (hid d c H) := fun p hp => by
  obtain ⟨n, hn, ne, cells, l, m, u, e1, e2, e3⟩ := src
  obtain ⟨ps, h1, h2, h3⟩ := t p hp
  refine ⟨ps, hid_put (fun z => by rw [z, e1] at h1; cases h1) (fun z => by rw [z, e2] at h1; cases h1) h1, h2, fun pos cv hc => ?_⟩
  obtain ⟨c', a1, a2⟩ := h3 pos cv hc
  refine ⟨c', a1, hid_put (fun z => ?_) (fun z => ?_) a2⟩
  · rw [z, e1] at a2
    unfold CodeO at a2
    cases a2
  · rw [z, e2] at a2
    unfold CodeO at a2
    cases a2
theorem among_no {ps : List (Plc × Str)} {pd : PyData} (nd : (ps.map (·.1)).Nodup) (h : ¬ ∃ p ∈ ps.map (·.1), pd = dPl p) : amongK (dctP ps) pd = false := by
  cases e : amongK (dctP ps) pd with
  | false => rfl
  | true =>
    exfalso
    unfold amongK at e
    cases k : keyOf pd with
    | none =>
      rw [k] at e
      cases e
    | some k' =>
      rw [k] at e
      obtain ⟨v, hv⟩ := Option.isSome_iff_exists.mp e
      obtain ⟨p, rfl, rfl⟩ := key_pl k hv
      obtain ⟨c, hm⟩ := dctP_in hv
      exact h ⟨p, List.mem_map.mpr ⟨_, hm, rfl⟩, rfl⟩
def colsOf (ss : List Shp) : List Str := (["a", "root", "zz"] : List Str) ++ ss.map (·.2.1)
section
variable {P : Program} {w : World} {K : PySem.W.Frag} {mg : Str → Option Value} {base : Heap} {CB CG CU : Addr}
theorem ok_law {f c T gM : Addr} {oc kV doc pm ct : Value} {od an : Option Addr} {osl : Array (Option Value)}
    (lk : K.lookup f = some ⟨oc, od, .func (PySem.W.fnOf "law" "law" (defArgs sLaw) (defBody sLaw) (defScope sLaw) .none kV doc pm an (.ref c) ct), osl⟩) (hcd : PySem.W.codeIn K (.ref c) "law" = true)
    (TB : TabB base mg c T) (N : Nm mg) (B : Blt mg) (mT : mg "tuple" = none) (mR : mg "repr" = none) (cB : Cls K CB) (cG : Cls K CG)
    (nS : Fns P w K mg base "_law_source" 1 ["_law_script"] (spSource K)) (nP : Fns P w K mg base "_law_pick" 1 ["_law_source_here", "_law_many"] spPick) (nO : Fns P w K mg base "_law_of" 2 ["_law_source_here", "_law_some"] (spOf K))
    (nD : Fns P w K mg base "_law_drawn_shapes" 4 ["_law_source_here"] (spDrawnS K)) (nE : Fns P w K mg base "_law_drawn_joints" 3 ["_law_source_here", "_law_shapes_here"] (spDrawnJ K)) (nU : Fns P w K mg base "_law_places_due" 1 ["_law_shapes_here", "_law_joints", "_law_roots"] (spDue K)) (nZ : Fns P w K mg base "_law_odd_places" 1 ["_law_joints", "_law_due"] (spOdd K))
    (nQ : Fns P w K mg base "places_of" 5 ["bag", "roots"] (spPlaces K CB CG)) (nC : FnsX P w K mg base "colour_of" 5 ["bag", "roots", "place"] (spColOf K CB CG CU))
    (mB : Mks P w K mg base CB "Book" 3 ["self", "shapes"] (spBookI K CB)) (mG : Mks P w K mg base CG "Bag" 3 ["self", "book", "joints"] (spBagI K CB CG)) (hJ : Mts P w K mg base CG "joints" 1 ["self"] (spBagJ K CB CG))
    {oM kM dM pM aM cM tM : Value} {odM anM : Option Addr} {slM : Array (Option Value)} (lkM : K.lookup gM = some ⟨oM, odM, .func (PySem.W.fnOf "_law_missing" "_law_missing" (defArgs sMissing) (defBody sMissing) (defScope sMissing) .none kM dM pM anM cM tM), slM⟩) (hcM : PySem.W.codeIn K cM "_law_missing" = true)
    (gMm : mg "_law_missing" = some (.ref gM)) (kMm : PySem.W.keepIn K (.ref gM) = true) (bM : L2.Binds K (PySem.W.fnOf "_law_missing" "_law_missing" (defArgs sMissing) (defBody sMissing) (defScope sMissing) .none kM dM pM anM cM tM) ["_law_call"] [])
    (gU : mg "UnknownName" = some (.ref CU)) (XU : XfC K CU) (noU : PySem.W.findIn K (.ref CU) "name" = some none) (teU : PySem.W.exmOne K (.ref CU) (.ref CU) = some true) :
    FnG P w K mg base 8 f (PySem.W.fnOf "law" "law" (defArgs sLaw) (defBody sLaw) (defScope sLaw) .none kV doc pm an (.ref c) ct) ["_law_script"] (spLaw K T) := by
  obtain ⟨_, _, GS, bS, gS, kS⟩ := nS.ex
  obtain ⟨_, _, GP, bP, gP, kP⟩ := nP.ex
  obtain ⟨_, _, GO, bO, gO, kO⟩ := nO.ex
  obtain ⟨_, _, GD, bD, gD, kD⟩ := nD.ex
  obtain ⟨_, _, GE, bE, gE, kE⟩ := nE.ex
  obtain ⟨_, _, GU, bU, gUu, kU⟩ := nU.ex
  obtain ⟨_, _, GZ, bZ, gZ, kZ⟩ := nZ.ex
  obtain ⟨_, _, GQ, bQ, gQ, kQ⟩ := nQ.ex
  obtain ⟨_, _, GC, bC, gC, kC⟩ := nC.ex
  obtain ⟨_, _, IB, iB, MB⟩ := mB.ex
  obtain ⟨_, _, IG, iG, MG⟩ := mG.ex
  obtain ⟨_, _, AJ, aJ, sJ⟩ := hJ.ex
  refine FnG.bodyC lk hcd scLaw (fun vs H Q E h => ?_) (fun A outer s H vs Q E hr hgd h => ?_)
  · obtain ⟨a, ns, rfl, _⟩ := h
    rfl
  · obtain ⟨a, ns, rfl, hS, hlen, hT, k⟩ := h
    have hu := hr.units
    have hu2 : (A.deeper (envOfC "law" (defScope sLaw) s.heap.objs.size f (.ref c))).units + 2 < cLine := by omega
    have hr1 : Room 1 _ := hr.mono (by decide)
    have hr2 : Room 2 _ := hr.mono (by decide)
    have hr3 : Room 3 _ := hr.mono (by decide)
    have hr4 : Room 4 _ := hr.mono (by decide)
    have hr5 : Room 5 _ := hr.mono (by decide)
    refine ⟨_, pss_cons (ps_set (i := 1) scLaw.nd rfl (.inr rfl) (pe_call GS hr1 (by rfl) gS kS bS .nil pass0 (pa_cons (pv 0) pa_nil)))
      (pss_cons (ps_for PassesOwn.never rfl (pi_range1 (by rfl) N.rng (pa_cons pe_int pa_nil)) (pg_name (i := 2) scLaw.nd rfl (.inl rfl))
        (pss_cons (ps_set (i := 3) scLaw.nd rfl (.inl rfl) (pe_call GD hr4 (by rfl) gD kD bD .nil pass0 (pa_cons (pv 1) pa_nil)))
        (pss_cons (ps_asg (pe_tup (pa_cons (pe_call GE hr3 (by rfl) gE kE bE .nil pass0 (pa_cons (pv 1) (pa_cons (pv 3) pa_nil))) (pa_cons (pe_op op_cat (pe_lst (pa_cons pe_str (pa_cons pe_str (pa_cons pe_str pa_nil)))) (pe_lc (own := [("_law_shape", 15)]) (g := gName 15) (tt := tYes) rfl scLaw.nd (pi_list (pv 3)) (blkOk_by (own := [("_law_shape", 15)]) (N := nLaw) (sc := defScope sLaw) (by decide +kernel))
              (fun _ _ _ _ _ => pg_name (i := 15) scLaw.nd rfl (.inl rfl)) (fun _ _ _ _ _ => pts_nil) (fun _ _ _ _ _ => pe_ix (show IxR _ (rIxT K) from ix_tup) (pv 15) pe_int (fun _ _ => rfl)))) pa_nil)))
            (pg_tup rfl (pgs_cons (pg_name (i := 4) scLaw.nd rfl (.inl rfl)) (pgs_cons (pg_name (i := 5) scLaw.nd rfl (.inr rfl)) pgs_nil))))
        (pss_cons (ps_setLc (i := 7) (own := [("_law_lap", 6)]) (g := gName 6) (tt := tYes) rfl scLaw.nd rfl rfl (sw_true rfl rfl rfl (by decide +kernel)) (pi_range1 (by rfl) N.rng (pa_cons (pe_call GP hr1 (by rfl) gP kP bP .nil pass0 (pa_cons (pv 1) (pa_cons pe_int pa_nil))) pa_nil)) (blkOk_by (own := [("_law_lap", 6)]) (N := nLaw) (sc := defScope sLaw) (by decide +kernel))
            (fun _ _ _ _ _ => pg_name (i := 6) scLaw.nd rfl (.inl rfl)) (fun _ _ _ _ _ => pts_nil) (fun _ _ _ _ _ => pe_call GO hr2 (by rfl) gO kO bO .nil pass0 (pa_cons (pv 1) (pa_cons (pv 5) pa_nil))))
        (pss_cons (ps_asg (pe_tup (pa_cons (pe_make MG IG hr4 (by rfl) mG.gl iG .nil pass0 (pa_cons (pe_make MB IB hr4 (by rfl) mB.gl iB .nil pass0 (pa_cons (pv 3) pa_nil)) (pa_cons (pv 4) pa_nil))) (pa_cons (pe_call GU hr1 (by rfl) gUu kU bU .nil pass0 (pa_cons (pv 3) (pa_cons (pv 4) (pa_cons (pv 7) pa_nil)))) pa_nil)))
            (pg_tup rfl (pgs_cons (pg_name (i := 12) scLaw.nd rfl (.inr rfl)) (pgs_cons (pg_name (i := 8) scLaw.nd rfl (.inl rfl)) pgs_nil))))
        (pss_cons (ps_set (i := 13) scLaw.nd rfl (.inr rfl) (pe_ix (show IxR _ (rIxL K) from ix_list) (pe_lst (pa_cons (pe_callTy call_list_of (by rfl) N.lst (by decide +kernel) (pa_cons (pv 7) pa_nil)) (pa_cons (pe_callTy call_tuple_of (by rfl) mT (by decide +kernel) (pa_cons (pv 7) pa_nil)) pa_nil))) (pe_call GP hr1 (by rfl) gP kP bP .nil pass0 (pa_cons (pv 1) (pa_cons pe_int pa_nil))) (fun _ _ => rfl)))
        (pss_cons (ps_for PassesOwn.never rfl (pi_range1 (by rfl) N.rng (pa_cons pe_int pa_nil)) (pg_name (i := 6) scLaw.nd rfl (.inl rfl))
          (pss_cons (ps_set (i := 9) scLaw.nd rfl (.inl rfl) (pe_call GQ hr5 (by rfl) gQ kQ bQ .nil pass0 (pa_cons (pv 12) (pa_cons (pv 13) pa_nil))))
          (pss_cons (ps_if (pt_cmpR (op_neD hu) (pv 9) (pe_lc (own := [("_law_place", 16), ("_law_colour", 17)]) (g := gTup K 2 (gCons (gName 16) (gCons (gName 17) gNil))) (tt := tYes) rfl scLaw.nd (pi_list (pv 8)) (blkOk_by (own := [("_law_place", 16), ("_law_colour", 17)]) (N := nLaw) (sc := defScope sLaw) (by decide +kernel))
              (fun _ _ _ _ _ => pg_tup rfl (pgs_cons (pg_name (i := 16) scLaw.nd rfl (.inl rfl)) (pgs_cons (pg_name (i := 17) scLaw.nd rfl (.inl rfl)) pgs_nil))) (fun _ _ _ _ _ => pts_nil) (fun _ _ _ _ _ => pv 16)) (nomark _)) (pss_one (ps_ret pe_bl)) pss_nil)
          (pss_one (ps_expr (pe_bm PySem.F.plainAttrs_list PySem.F.slot_list_append PySem.F.type_list_append mt_append (pv 9) (pa_cons pe_non pa_nil)))))))
        (pss_cons (ps_if (pt_cmpR (op_neD hu) (pe_lc (own := [("_law_place", 16), ("_law_colour", 17)]) (g := gTup K 2 (gCons (gName 16) (gCons (gName 17) gNil))) (tt := tYes) rfl scLaw.nd (pi_list (pv 8)) (blkOk_by (own := [("_law_place", 16), ("_law_colour", 17)]) (N := nLaw) (sc := defScope sLaw) (by decide +kernel))
              (fun _ _ _ _ _ => pg_tup rfl (pgs_cons (pg_name (i := 16) scLaw.nd rfl (.inl rfl)) (pgs_cons (pg_name (i := 17) scLaw.nd rfl (.inl rfl)) pgs_nil))) (fun _ _ _ _ _ => pts_nil) (fun _ _ _ _ _ => pe_callS GC hr5 (by rfl) gC kC bC (E := WE (fun _ _ _ _ => False)) (fun σ => passAt L2.takes0 σ) (pa_cons (pv 12) (pa_cons (pv 13) (pa_cons (pv 16) pa_nil)))))
            (pe_lc (own := [("_law_place", 16), ("_law_colour", 17)]) (g := gTup K 2 (gCons (gName 16) (gCons (gName 17) gNil))) (tt := tYes) rfl scLaw.nd (pi_list (pv 8)) (blkOk_by (own := [("_law_place", 16), ("_law_colour", 17)]) (N := nLaw) (sc := defScope sLaw) (by decide +kernel))
              (fun _ _ _ _ _ => pg_tup rfl (pgs_cons (pg_name (i := 16) scLaw.nd rfl (.inl rfl)) (pgs_cons (pg_name (i := 17) scLaw.nd rfl (.inl rfl)) pgs_nil))) (fun _ _ _ _ _ => pts_nil) (fun _ _ _ _ _ => pv 17)) (nomark _)) (pss_one (ps_ret pe_bl)) pss_nil)
        (pss_cons (ps_setLc (i := 10) (own := [("_law_place", 16), ("_law_colour", 17)]) (g := gTup K 2 (gCons (gName 16) (gCons (gName 17) gNil))) (tt := tYes) rfl scLaw.nd rfl rfl (sw_true rfl rfl rfl (by decide +kernel)) (pi_list (pv 8)) (blkOk_by (own := [("_law_place", 16), ("_law_colour", 17)]) (N := nLaw) (sc := defScope sLaw) (by decide +kernel))
              (fun _ _ _ _ _ => pg_tup rfl (pgs_cons (pg_name (i := 16) scLaw.nd rfl (.inl rfl)) (pgs_cons (pg_name (i := 17) scLaw.nd rfl (.inl rfl)) pgs_nil))) (fun _ _ _ _ _ => pts_nil) (fun _ _ _ _ _ => pv 16))
        (pss_cons (ps_for PassesOwn.never rfl (pi_list (pe_call GZ hr1 (by rfl) gZ kZ bZ .nil pass0 (pa_cons (pv 4) (pa_cons (pv 8) pa_nil)))) (pg_name (i := 14) scLaw.nd rfl (.inr rfl))
          (pss_cons (ps_if (PW.pt (pw_and (pt_cmpR (op_inPl hu2) (pv 14) (pv 10) (by rfl)) (pw_and1 (pt_cmpR op_in_seq (pe_callB (call_repr hgd hu) (by rfl) mR (by decide +kernel) (pa_cons (pv 14) pa_nil)) (pe_lc (own := [("_law_place", 16)]) (g := gName 16) (tt := tYes) rfl scLaw.nd (pi_list (pv 10)) (blkOk_by (own := [("_law_place", 16)]) (N := nLaw) (sc := defScope sLaw) (by decide +kernel))
              (fun _ _ _ _ _ => pg_name (i := 16) scLaw.nd rfl (.inl rfl)) (fun _ _ _ _ _ => pts_nil) (fun _ _ _ _ _ => pe_callB (show CallR _ (.builtin "repr") (rRepr K) from call_repr hgd hu) (by rfl) mR (by decide +kernel) (pa_cons (pv 16) pa_nil))) (by rfl))))) (pss_one ps_continue) pss_nil)
          (pss_cons (ps_set (i := 11) scLaw.nd rfl (.inl rfl) (pe_lamcall (T := [(T, (cxOf CX0 P w K mg base nLaw "law" (defScope sLaw) f (.ref c) A outer s H E).nox.env.qual ++ "<lambda>")]) (k := 5) (by rfl) gMm kMm lkM hcM bM scMissing rfl (.inl rfl) (missing_gives gU XU noU teU) TB rfl (List.mem_cons_self ..) (fun p hp _ => by rw [List.mem_singleton.mp hp]) hr (show LamS (defScope sLaw) _ from lamS_by (by decide +kernel)) rfl (fun _ _ _ _ _ => rfl)
              (fun A outer s H E f c' hr' => pe_callS GC hr' (by rfl) gC kC bC (E := WE (fun cls d _ H => E cls d H)) (fun σ => passAt (takes_of rfl rfl rfl rfl) σ) (pa_cons (pv 12) (pa_cons (pv 13) (pa_cons (pv 14) pa_nil))))))
          (pss_one (ps_if (pt_cmpR op_ne (pe_callB (call_repr hgd hu) (by rfl) mR (by decide +kernel) (pa_cons (pv 11) pa_nil)) (pe_callB (call_repr hgd hu) (by rfl) mR (by decide +kernel) (pa_cons (pe_lstB (pa_cons (pv 14) pa_nil)) pa_nil)) (nomark _)) (pss_one (ps_ret pe_bl)) pss_nil)))))
        (pss_one (ps_if (PW.pt (pw_or (pt_cmpR (op_neD hu) (pe_callTy call_list_of (by rfl) N.lst (by decide +kernel) (pa_cons (pv 13) pa_nil)) (pv 7) (nomark _)) (pw_or1 (pt_cmpR (op_neD hu) (pe_meth0 (pv 12) cG sJ AJ hr1 aJ .nil pass0) (pv 4) (nomark _))))) (pss_one (ps_ret pe_bl)) pss_nil))))))))))))
      (pss_one (ps_ret pe_bl))), ?_⟩
    have z3 : 3 ≤ sizeLine := by decide
    have z2 : 2 ≤ sizeLine := by decide
    refine ⟨_, rfl, a, ns, rfl, hS, by omega, fun d c0 H1 g1 g2 g3 src1 => ?_⟩
    have nTd : T ≠ d := fun e => by rw [e, g2] at hT; cases hT
    have nTc : T ≠ c0 := fun e => by rw [e, g3] at hT; cases hT
    have tb1 : Tabs [(T, (cxOf CX0 P w K mg base nLaw "law" (defScope sLaw) f (.ref c) A outer s H E).nox.env.qual ++ "<lambda>")] (hid d c0 H1) := fun p hp => by
      rw [List.mem_singleton.mp hp]
      exact TabS.nil (hid_put nTd nTc (g1 _ _ hT))
    generalize (cxOf CX0 P w K mg base nLaw "law" (defScope sLaw) f (.ref c) A outer s H E).nox.env.qual ++ ("<lambda>" : Str) = ql at tb1 ⊢
    refine ⟨4, rfl, by decide, by decide, for_range (lo := 0) (n := 4) (fun i σ H' => (∃ v2 v3 v4 v5 v6 v7 v8 v9 v10 v11 v12 v13 v14, σ = [some (.ref a), some (.ref d), v2, v3, v4, v5, v6, v7, v8, v9, v10, v11, v12, v13, v14, none, none, none]) ∧ SrcAt H' d c0 ∧ Tabs [(T, ql)] (hid d c0 H'))
      ⟨⟨_, _, _, _, _, _, _, _, _, _, _, _, _, rfl⟩, src1, tb1⟩ ?_ ?_⟩
    · clear tb1 src1 g1 g2 g3 nTd nTc hT
      rintro i σ H2 hi ⟨⟨v2, v3, v4, v5, v6, v7, v8, v9, v10, v11, v12, v13, v14, rfl⟩, src2, tb2⟩
      refine ⟨_, rfl, d, c0, rfl, src2, fun L xs ss H3 src3 s3 nL eL dx gs => ?_⟩
      have tb3 := tabs_ext tb2 s3
      refine ⟨_, rfl, _, rfl, d, c0, L, xs, ss, rfl, src3, .inl (.inl eL), dx, gs, fun J ys js H4 src4 s4 nJ eJ dj gj => ?_⟩
      have tb4 := tabs_ext tb3 s4
      have eL4 := s4 _ _ eL
      have dx4 := DqAll.same s4 dx
      clear eL dx tb3 tb2
      refine ⟨z3, fun q1 m1 => ?_⟩
      have src5 := src4.up (same_new (o := .lst [V.str "a", .str "root", .str "zz"]) m1)
      have u5 := hid_up (d := d) (c := c0) (same_new (o := .lst [V.str "a", .str "root", .str "zz"]) m1)
      have nq := src_ne src4 m1
      have eq5 : hid d c0 (upd H4 q1 (.lst [V.str "a", .str "root", .str "zz"])) q1 = some (.lst [V.str "a", .str "root", .str "zz"]) := hid_put nq.1 nq.2 upd_same
      have tb5 := tabs_ext tb4 u5
      have eL5 := u5 _ _ eL4
      have eJ5 := u5 _ _ eJ
      have dx5 := DqAll.same u5 dx4
      have dj5 := DqAll.same u5 dj
      generalize upd H4 q1 (.lst [V.str "a", .str "root", .str "zz"]) = H5 at src5 eq5 tb5 eL5 eJ5 dx5 dj5 ⊢
      clear u5 eL4 eJ dx4 dj tb4 s4 s3
      refine ⟨_, rfl, L, rfl, ⟨_, .inl (.inl (hid_get eL5).2.2)⟩, fun D hD => ?_⟩
      obtain ⟨srcD, sD, eD0⟩ := alloc (o := .lst []) src5 hD
      have lx : xs.length = ss.length := by rw [dx5.len, List.length_map]
      have lss := gs.ln
      refine lc_list (K := K) (a := L) (xs := xs) (fun n H' => SrcAt H' d c0 ∧ Same (hid d c0 H5) (hid d c0 H') ∧ (hid d c0 H') D = some (.lst ((ss.take n).map fun s => V.str s.2.1))) ⟨srcD, sD, eD0⟩ (fun n H' _ h => .inl (.inl (hid_get (h.2.1 _ _ eL5)).2.2)) ?_ ?_
      · rintro n x H6 hxn ⟨src6, s6, e6⟩
        obtain ⟨sd, ed, dq⟩ := DqAll.get n dx5 hxn
        obtain ⟨sh, hsh, rfl⟩ : ∃ sh, ss[n]? = some sh ∧ sd = dShape sh := by
          rw [List.getElem?_map] at ed
          cases e : ss[n]? with
          | none =>
            rw [e] at ed
            cases ed
          | some b =>
            rw [e] at ed
            exact ⟨b, rfl, (Option.some.inj ed).symm⟩
        obtain ⟨r, b, rfl, hr6, _⟩ := shape_inv (Dq.same s6 dq)
        have hn : n < ss.length := (List.getElem?_eq_some_iff.mp hsh).1
        have g6 := hid_get e6
        refine ⟨rfl, lc_yes ⟨_, rfl, r, _, _, .str sh.2.1, rfl, rfl, Same.sqT hid_all hr6, L2.at_of (j := 1) rfl rfl, _, g6.2.2, ?_, srcAt_upd src6 g6.1 g6.2.1, ?_, ?_⟩⟩
        · rw [List.length_map, List.length_take]
          exact small31 (by omega)
        · rw [hid_upd g6.1 g6.2.1]
          exact Same.over s6 (hid_none hD)
        · rw [hid_upd g6.1 g6.2.1, upd_same, List.take_add_one, hsh]
          rw [List.map_append]
          rfl
      · rintro H6 ⟨src6, s6, e6⟩
        rw [lx, List.take_length] at e6
        have tb6 := tabs_ext tb5 s6
        have eL6 := s6 _ _ eL5
        have eJ6 := s6 _ _ eJ5
        have dx6 := DqAll.same s6 dx5
        have dj6 := DqAll.same s6 dj5
        have eq6 := s6 _ _ eq5
        clear tb5 eL5 eJ5 dx5 dj5 eq5 s6 sD srcD eD0
        refine ⟨q1, D, _, _, rfl, rfl, (hid_get eq6).2.2, (hid_get e6).2.2, ?_, fun C hC => ?_⟩
        · rw [List.length_map]
          show 3 + ss.length ≤ sizeLine
          exact Nat.le_of_lt (small31 (by omega))
        obtain ⟨src7, s7, eC7⟩ := alloc (o := .lst ([V.str "a", .str "root", .str "zz"] ++ ss.map fun s => V.str s.2.1)) src6 hC
        have eC7' : hid d c0 (upd H6 C (.lst ([V.str "a", .str "root", .str "zz"] ++ ss.map fun s => V.str s.2.1))) C = some (.lst ((colsOf ss).map V.str)) := by
          rw [eC7]
          unfold colsOf
          rw [List.map_append, List.map_map]
          rfl
        generalize upd H6 C (.lst ([V.str "a", .str "root", .str "zz"] ++ ss.map fun s => V.str s.2.1)) = H7 at src7 s7 eC7' ⊢
        refine ⟨z2, fun tp ntp => ?_⟩
        obtain ⟨src8, s8, et8⟩ := alloc (o := .tup [.ref J, .ref C]) src7 ntp
        have s68 := s7.trans s8
        have tb8 := tabs_ext tb6 s68
        have eL8 := s68 _ _ eL6
        have eJ8 := s68 _ _ eJ6
        have dx8 := DqAll.same s68 dx6
        have dj8 := DqAll.same s68 dj6
        have eC8 := s8 _ _ eC7'
        generalize upd H7 tp (.tup [.ref J, .ref C]) = H8 at src8 et8 tb8 eL8 eJ8 dx8 dj8 eC8 ⊢
        clear s7 s8 s68 tb6 eL6 eJ6 dx6 dj6 eq6 e6 eC7 eC7'
        refine ⟨tp, _, rfl, .inl (.inl (hid_get et8).2.2), rfl, _, _, rfl, _, _, rfl, rfl, ?_⟩
        refine ⟨_, rfl, d, c0, 4, rfl, src8, by decide, by decide, fun rr H9 r0 r1 src9 el9 => ?_⟩
        obtain ⟨rn, rfl⟩ : ∃ n : Nat, rr = (n : Int) := ⟨rr.toNat, by omega⟩
        have hrn : rn < 4 := by
          have : max (1 : Int) 4 = 4 := by decide
          omega
        have e9 := hid_else el9
        rw [← e9] at tb8 eL8 eJ8 dx8 dj8 eC8
        refine ⟨(rn : Int), rfl, by omega, by omega, fun D2 hD2 => ?_⟩
        obtain ⟨srcE, sE, eE0⟩ := alloc (o := .lst []) src9 hD2
        have lcl : (colsOf ss).length = 3 + ss.length := by
          unfold colsOf
          rw [List.length_append, List.length_map]
          rfl
        refine lc_range (lo := 0) (n := rn) (fun n H' => SrcAt H' d c0 ∧ Same (hid d c0 H9) (hid d c0 H') ∧ ∃ rs : List Str, (hid d c0 H') D2 = some (.lst (rs.map V.str)) ∧ rs.length = n ∧ ∀ x ∈ rs, x ∈ colsOf ss) ⟨srcE, sE, [], eE0, rfl, fun x hx => by cases hx⟩ ?_ ?_
        · rintro n H10 hn ⟨src10, s10, rs, e10, l10, m10⟩
          refine ⟨rfl, lc_yes ?_⟩
          refine ⟨_, rfl, _, rfl, d, c0, C, _, rfl, src10, .inl (.inl (s10 _ _ eC8)), by rw [List.length_map]; omega, by rw [List.length_map]; omega, fun v H11 hv src11 el11 => ?_⟩
          obtain ⟨cl, hcl, rfl⟩ := List.mem_map.mp hv
          have e11 := hid_else el11
          rw [← e11] at e10 s10
          have g11 := hid_get e10
          refine ⟨_, g11.2.2, ?_, srcAt_upd src11 g11.1 g11.2.1, ?_, rs ++ [cl], ?_, by rw [List.length_append, l10]; rfl, fun x hx => ?_⟩
          · rw [List.length_map]
            exact small31 (by omega)
          · rw [hid_upd g11.1 g11.2.1]
            exact Same.over s10 (hid_none hD2)
          · rw [hid_upd g11.1 g11.2.1, upd_same, List.map_append]
            rfl
          · rcases List.mem_append.mp hx with z | z
            · exact m10 x z
            · rw [List.mem_singleton.mp z]
              exact hcl
        · rintro H10 ⟨src10, s10, rs, e10, l10, m10⟩
          have tb10 := tabs_ext tb8 s10
          have eL10 := s10 _ _ eL8
          have eJ10 := s10 _ _ eJ8
          have dx10 := DqAll.same s10 dx8
          have dj10 := DqAll.same s10 dj8
          clear tb8 eL8 eJ8 dx8 dj8 eC8 s10 sE srcE eE0 src9 el9 e9 src8
          have okp : OkPl ss js rs := ⟨gs.book, gj.bag, fun s hs => Nat.le_trans (gs.all s hs).2 (by decide), by omega⟩
          refine ⟨_, rfl, fun b dxb hxb hdxb _ => ⟨b, dxb, L, xs, ss, rfl, upd_same, (make_same hxb hdxb).seq (.inl (.inl (hid_get eL10).2.2)), DqAll.same (hid_all.trans (make_same hxb hdxb)) dx10, gs.book, fun p1 H11 h11 np1 eb ep1 => ⟨rfl, _, rfl, ?_⟩⟩⟩
          have s11 : Same H10 H11 := fun x o e => h11 x o (ne_of_none e hxb) ((make_same hxb hdxb) _ _ e)
          have nb := src_ne src10 hxb
          have np := src_ne src10 ((make_same hxb hdxb).free np1)
          have src11 := src10.up s11
          have u11 := hid_up (d := d) (c := c0) s11
          have tb11 := tabs_ext tb10 u11
          have eL11 := u11 _ _ eL10
          have eJ11 := u11 _ _ eJ10
          have eR11 := u11 _ _ e10
          have dx11 := DqAll.same u11 dx10
          have dj11 := DqAll.same u11 dj10
          have bk11 : BookAt K (hid d c0 H11) CB b ss := ⟨dxb, p1, xs, hid_put nb.1 nb.2 eb, hid_put np.1 np.2 ep1, dx11⟩
          clear h11 s11 u11 eL10 eJ10 dx10 dj10 eb ep1 np1 tb10 e10 hxb hdxb
          refine fun g dg hxg hdg _ => ⟨g, dg, b, J, ys, ss, js, rfl, upd_same, (bk11.same hid_all).same (make_same hxg hdg), gs.book.ln, (make_same hxg hdg).seq (.inl (.inl (hid_get eJ11).2.2)), DqAll.same (hid_all.trans (make_same hxg hdg)) dj11, gj.bag, fun p2 H12 h12 np2 eg ep2 => ⟨rfl, ?_⟩⟩
          have s12 : Same H11 H12 := fun x o e => h12 x o (ne_of_none e hxg) ((make_same hxg hdg) _ _ e)
          have ng := src_ne src11 hxg
          have nq := src_ne src11 ((make_same hxg hdg).free np2)
          have src12 := src11.up s12
          have u12 := hid_up (d := d) (c := c0) s12
          have tb12 := tabs_ext tb11 u12
          have eL12 := u12 _ _ eL11
          have eJ12 := u12 _ _ eJ11
          have eR12 := u12 _ _ eR11
          have dx12 := DqAll.same u12 dx11
          have dj12 := DqAll.same u12 dj11
          have bg12 : BagAt K (hid d c0 H12) CB CG g ss js := ⟨dg, b, p2, hid_put ng.1 ng.2 eg, bk11.same u12, hid_put nq.1 nq.2 ep2⟩
          clear h12 s12 u12 eL11 eJ11 dx11 dj11 eg ep2 np2 bk11 tb11 eR11 hxg hdg
          refine ⟨_, rfl, _, rfl, _, rfl, L, J, D2, xs, ys, ss, js, rs, rfl, .inl (.inl (hid_get eL12).2.2), DqAll.same hid_all dx12, .inl (.inl (hid_get eJ12).2.2), DqAll.same hid_all dj12, .inl (.inl (hid_get eR12).2.2), okp, fun U zs H13 s13 nU eU pc => ?_⟩
          have src13 := src12.up s13
          have u13 := hid_up (d := d) (c := c0) s13
          have tb13 := tabs_ext tb12 u13
          have eJ13 := u13 _ _ eJ12
          have eR13 := u13 _ _ eR12
          have dj13 := DqAll.same u13 dj12
          have bg13 := bg12.same u13
          have nUd := src_ne src12 nU
          have eU13 := hid_put nUd.1 nUd.2 eU
          have pc13 := pcAt_hid src13 pc
          clear eU pc nU nUd u13 s13 eJ12 eR12 dj12 bg12 tb12 eL12 dx12
          refine ⟨z2, fun tp ntp => ?_⟩
          obtain ⟨src14, s14, et14⟩ := alloc (o := .tup [.ref g, .ref U]) src13 ntp
          have tb14 := tabs_ext tb13 s14
          have eJ14 := s14 _ _ eJ13
          have eR14 := s14 _ _ eR13
          have dj14 := DqAll.same s14 dj13
          have bg14 := bg13.same s14
          have eU14 := s14 _ _ eU13
          have pc14 := pc13.same s14
          generalize upd H13 tp (.tup [.ref g, .ref U]) = H14 at src14 et14 tb14 eJ14 eR14 dj14 bg14 eU14 pc14 ⊢
          clear s14 eU13 pc13 bg13 dj13 eR13 eJ13 tb13
          refine ⟨tp, _, rfl, .inl (.inl (hid_get et14).2.2), rfl, _, _, rfl, _, _, rfl, rfl, ?_⟩
          refine ⟨_, rfl, D2, _, rfl, .inl (.inl (.inl (hid_get eR14).2.2)), fun l1 nl1 => ?_⟩
          obtain ⟨src15, s15, el15⟩ := alloc (o := .lst (rs.map V.str)) src14 nl1
          have tb15 := tabs_ext tb14 s15
          have eJ15 := s15 _ _ eJ14
          have eR15 := s15 _ _ eR14
          have dj15 := DqAll.same s15 dj14
          have bg15 := bg14.same s15
          have eU15 := s15 _ _ eU14
          have pc15 := pc14.same s15
          generalize upd H14 l1 (.lst (rs.map V.str)) = H15 at src15 el15 tb15 eJ15 eR15 dj15 bg15 eU15 pc15 ⊢
          clear s15 eU14 pc14 bg14 dj14 eR14 eJ14 tb14 et14
          refine ⟨_, rfl, D2, _, rfl, .inl ⟨.inl (.inl (hid_get eR15).2.2), fun l2 nl2 => ?_⟩⟩
          obtain ⟨src16, s16, el16⟩ := alloc (o := .tup (rs.map V.str)) src15 nl2
          have tb16 := tabs_ext tb15 s16
          have eJ16 := s16 _ _ eJ15
          have eR16 := s16 _ _ eR15
          have dj16 := DqAll.same s16 dj15
          have bg16 := bg15.same s16
          have eU16 := s16 _ _ eU15
          have pc16 := pc15.same s16
          have el16' := s16 _ _ el15
          generalize upd H15 l2 (.tup (rs.map V.str)) = H16 at src16 el16 el16' tb16 eJ16 eR16 dj16 bg16 eU16 pc16 ⊢
          clear s16 eU15 pc15 bg15 dj15 eR15 eJ15 tb15 el15
          refine ⟨z2, fun q nq => ?_⟩
          obtain ⟨src17, s17, eq17⟩ := alloc (o := .lst [.ref l1, .ref l2]) src16 nq
          have tb17 := tabs_ext tb16 s17
          have eJ17 := s17 _ _ eJ16
          have eR17 := s17 _ _ eR16
          have dj17 := DqAll.same s17 dj16
          have bg17 := bg16.same s17
          have eU17 := s17 _ _ eU16
          have pc17 := pc16.same s17
          have r1' := s17 _ _ el16'
          have r2' := s17 _ _ el16
          generalize upd H16 q (.lst [.ref l1, .ref l2]) = H17 at src17 eq17 r1' r2' tb17 eJ17 eR17 dj17 bg17 eU17 pc17 ⊢
          clear s17 eU16 pc16 bg16 dj16 eR16 eJ16 tb16 el16 el16'
          refine ⟨_, rfl, d, c0, 2, rfl, src17, by decide, by decide, fun rr H18 q0 q1' src18 el18 => ?_⟩
          have e18 := hid_else el18
          rw [← e18] at eq17 r1' r2' tb17 eJ17 eR17 dj17 bg17 eU17 pc17
          obtain ⟨hd, hix, hro⟩ : ∃ hd, atI [V.ref l1, .ref l2] rr = some (.ref hd) ∧ RootsAt K (hid d c0 H18) hd rs := by
            have z : max (1 : Int) 2 = 2 := by decide
            rw [z] at q1'
            by_cases e : rr = 0
            · subst e
              exact ⟨l1, rfl, .inl (.inl (.inl r1'))⟩
            · have e : rr = 1 := by omega
              subst e
              exact ⟨l2, rfl, .inr (.inl (.inl r2'))⟩
          refine ⟨q, _, rr, .ref hd, rfl, rfl, .inl (.inl (hid_get eq17).2.2), hix, ?_⟩
          clear eq17 r1' r2' src17 el18 e18 hix q0 q1'
          have bgA := bg17.same (hid_all (d := d) (c := c0))
          have hroA := hro.same (hid_all (d := d) (c := c0))
          have eUA := (hid_get eU17).2.2
          have pcA := pc17.same (hid_all (d := d) (c := c0))
          have lzp := Paired.length pc17
          have lpm := plcs_len okp.l rs js
          have lpj := gj.ln
          have lpr := okp.r
          have sto : ∀ q ∈ plcs ss rs js, PyData.strOk q.1.1 = true := fun q hq => by
            unfold plcs at hq
            rcases List.mem_append.mp hq with h | h
            · rw [(rowP_mem h).1]
              decide +kernel
            · obtain ⟨j, hj, hm⟩ := List.mem_flatMap.mp h
              rw [(rowP_mem hm).1]
              exact isW_strOk (gj.name j hj).1
          have shp : SeqAt.shaped (.list ((plcs ss rs js).map fun q => dPl q.1)) = true := by
            have z := pls_shaped (ps := (plcs ss rs js).map (·.1)) (fun q hq => by
              obtain ⟨r, hr, rfl⟩ := List.mem_map.mp hq
              exact sto r hr)
            rw [List.map_map] at z
            exact z
          have lay := SeqAt.canLay_of_shaped shp
          refine ⟨2, rfl, by decide, by decide, for_range (lo := 0) (n := 2) (fun i2 σ H' => (∃ v6 v9, σ = [some (.ref a), some (.ref d), some (.int (0 + (i : Nat))), some (.ref L), some (.ref J), some (.ref C), v6, some (.ref D2), some (.ref U), v9, v10, v11, some (.ref g), some (.ref hd), v14, none, none, none]) ∧ Same H18 H') ⟨⟨_, _, rfl⟩, Same.refl _⟩ ?_ ?_⟩
          · rintro i2 σ H20 hi2 ⟨⟨v6, v9, rfl⟩, s20⟩
            refine ⟨_, rfl, _, rfl, g, hd, ss, js, rs, rfl, bgA.same s20, hroA.same s20, okp, fun p xs2 H21 s21 np ep dq => ?_⟩
            have s21' := s20.trans s21
            refine ⟨_, rfl, _, rfl, U, rfl, ⟨_, .inl (.inl (s21' _ _ eUA))⟩, fun D3 hD3 => ?_⟩
            have pc21 := pcA.same s21'
            refine lc_list (K := K) (a := U) (xs := zs) (fun n H' => Same H21 H' ∧ ∃ acc, H' D3 = some (.lst acc) ∧ DqAll K H21 acc (((plcs ss rs js).take n).map fun q => dPl q.1)) ⟨same_new hD3, [], upd_same, .nil⟩ (fun n H' _ h => .inl (.inl (h.1 _ _ (s21' _ _ eUA)))) ?_ ?_
            · rintro n x H22 hxn ⟨s22, acc, e22, d22⟩
              obtain ⟨q, hq, t, b', rfl, ht, hb⟩ := pc_at pc21 hxn
              have hn := (List.getElem?_eq_some_iff.mp hq).1
              have la := d22.len
              rw [List.length_map, List.length_take] at la
              refine ⟨t, _, rfl, Same.sqT s22 ht, rfl, _, _, rfl, _, _, rfl, rfl, rfl, lc_yes ⟨_, rfl, acc, e22, small31 (by omega), Same.over s22 hD3, _, upd_same, pl_snoc hq hb d22⟩⟩
            · rintro H22 ⟨s22, acc, e22, d22⟩
              rw [lzp, List.take_length] at d22
              refine ⟨.list _, .list _, .lst (.inl (.inl (s22 _ _ ep))) (DqAll.dp (DqAll.same s22 dq) lay), .lst (.inl (.inl e22)) (DqAll.dp (DqAll.same s22 d22) lay), shp, shp, ?_⟩
              rw [SeqAt.eqv_refl _ lay]
              refine ⟨_, rfl, ?_⟩
              refine if_no rfl ?_
              refine ⟨_, rfl, .inl ⟨rfl, _, .inl (.inl (s22 _ _ ep))⟩, p, _, _, rfl, rfl, s22 _ _ ep, ?_, ⟨_, _, rfl⟩, Same.over (s21'.trans s22) (s20.free np)⟩
              rw [dq.len, List.length_map]
              exact small31 (by omega)
          · rintro σ H20 ⟨⟨v6, v9, rfl⟩, s20⟩
            have wl : Well rs js := ⟨okp.g.nd, fun j hj => (okp.g.name j hj).2⟩
            have nds := plcs_nd (shs := ss) (roots := rs) wl js.length (Nat.le_refl _)
            rw [List.take_length] at nds
            have pc20 := pcA.same s20
            refine ⟨_, rfl, U, rfl, ⟨_, .inl (.inl (s20 _ _ eUA))⟩, fun DA hDA => ?_⟩
            refine lc_list (K := K) (a := U) (xs := zs) (fun n H' => Same H20 H' ∧ H' DA = some (.lst (((plcs ss rs js).take n).map fun q => V.str q.2))) ⟨same_new hDA, upd_same⟩ (fun n H' _ h => .inl (.inl (h.1 _ _ (s20 _ _ eUA)))) ?_ ?_
            · rintro n x H22 hxn ⟨s22, e22⟩
              obtain ⟨q, hq, t, b', rfl, ht, hb⟩ := pc_at pc20 hxn
              have hn := (List.getElem?_eq_some_iff.mp hq).1
              have hqm := List.mem_of_getElem? hq
              refine ⟨t, _, rfl, Same.sqT s22 ht, rfl, _, _, rfl, _, _, rfl, rfl, rfl, lc_yes ?_⟩
              refine ⟨_, rfl, _, rfl, _, rfl, g, hd, .ref b', dPl q.1, ss, js, rs, rfl, bgA.same (s20.trans s22), hroA.same (s20.trans s22), okp, .tup (.inl (.inl (s22 _ _ hb))) (.cons (.str _) (.cons (.int _) .nil)), (fun ds e => by cases e; exact (by decide : 2 ≤ 1000)), (fun k' e => by cases (Option.some.inj e); exact ⟨b', rfl, s22 _ _ hb⟩), (fun H23 p c' s23 e hm => ?_), (fun na => ?_)⟩
              · have ep : q.1 = p := plK_inj (Option.some.inj (show some (plK q.1) = some (plK p) from congrArg keyOf e))
                have ec : c' = q.2 := by
                  have a1 := dctP_get nds hm
                  have a2 := dctP_get nds (show (q.1, q.2) ∈ plcs ss rs js from hqm)
                  rw [ep, a1] at a2
                  injection a2 with a2
                  injection a2
                subst ec
                refine ⟨_, s23 _ _ e22, ?_, Same.over (s22.trans s23) hDA, ?_⟩
                · rw [List.length_map, List.length_take]
                  exact small31 (by omega)
                · rw [upd_same, List.take_add_one, hq, List.map_append]
                  rfl
              · exfalso
                have a2 := dctP_get nds (show (q.1, q.2) ∈ plcs ss rs js from hqm)
                unfold amongK at na
                rw [keyOf_pl] at na
                simp only [] at na
                rw [a2] at na
                cases na
            · rintro H22 ⟨s22, e22⟩
              rw [lzp, List.take_length] at e22
              have pc22 := pcA.same (s20.trans s22)
              refine ⟨_, rfl, U, rfl, ⟨_, .inl (.inl (s22 _ _ (s20 _ _ eUA)))⟩, fun DB hDB => ?_⟩
              refine lc_list (K := K) (a := U) (xs := zs) (fun n H' => Same H22 H' ∧ H' DB = some (.lst (((plcs ss rs js).take n).map fun q => V.str q.2))) ⟨same_new hDB, upd_same⟩ (fun n H' _ h => .inl (.inl (h.1 _ _ (s22 _ _ (s20 _ _ eUA))))) ?_ ?_
              · rintro n x H23 hxn ⟨s23, e23⟩
                obtain ⟨q, hq, t, b', rfl, ht, hb⟩ := pc_at pc22 hxn
                have hn := (List.getElem?_eq_some_iff.mp hq).1
                refine ⟨t, _, rfl, Same.sqT s23 ht, rfl, _, _, rfl, _, _, rfl, rfl, rfl, lc_yes ⟨_, rfl, _, e23, ?_, Same.over s23 hDB, ?_⟩⟩
                · rw [List.length_map, List.length_take]
                  exact small31 (by omega)
                · rw [upd_same, List.take_add_one, hq, List.map_append]
                  rfl
              · rintro H23 ⟨s23, e23⟩
                rw [lzp, List.take_length] at e23
                have stc : ∀ b ∈ (plcs ss rs js).map (·.2), isW b = true := fun b hb => by
                  obtain ⟨q, hq, rfl⟩ := List.mem_map.mp hb
                  unfold plcs at hq
                  rcases List.mem_append.mp hq with h | h
                  · have hc := List.mem_of_getElem? (rowP_mem h).2.2.2
                    have hc := m10 _ hc
                    unfold colsOf at hc
                    rcases List.mem_append.mp hc with z | z
                    · have all : (["a", "root", "zz"] : List Str).all isW = true := by decide +kernel
                      exact List.all_eq_true.mp all _ z
                    · obtain ⟨sh, hsh, e⟩ := List.mem_map.mp z
                      rw [← e]
                      exact (gs.all sh hsh).1.st
                  · obtain ⟨j, hj, hm⟩ := List.mem_flatMap.mp h
                    have hc := List.mem_of_getElem? (rowP_mem hm).2.2.2
                    obtain ⟨sh, hsh, e⟩ := List.mem_map.mp (gj.word j hj).2
                    rw [← e, brs_of gs.book.nd hsh] at hc
                    exact (gs.all sh hsh).1.br _ hc
                have lay2 : PyData.canLay0 (.list (((plcs ss rs js).map (·.2)).map PyData.str)) = true := by
                  rw [PyData.canLay0]
                  exact strs_lay _ stc
                have shp2 : SeqAt.shaped (.list (((plcs ss rs js).map (·.2)).map PyData.str)) = true := by
                  unfold SeqAt.shaped
                  rw [lay2, Bool.true_and]
                  refine decide_eq_true ?_
                  rw [PyData.depth, strs_depth]
                  decide
                have dqs : ∀ H', DqAll K H' (((plcs ss rs js).map (·.2)).map V.str) (((plcs ss rs js).map (·.2)).map PyData.str) := fun H' => strs_dq _
                have em : ((plcs ss rs js).map fun q => V.str q.2) = ((plcs ss rs js).map (·.2)).map V.str := by
                  rw [List.map_map]
                  rfl
                rw [em] at e22 e23
                refine ⟨.list _, .list _, .lst (.inl (.inl (s23 _ _ e22))) (DqAll.dp (dqs H23) lay2), .lst (.inl (.inl e23)) (DqAll.dp (dqs H23) lay2), shp2, shp2, ?_⟩
                rw [SeqAt.eqv_refl _ lay2]
                refine ⟨_, rfl, ?_⟩
                refine if_no rfl ?_
                have s23' := s20.trans (s22.trans s23)
                have pc23 := pcA.same s23'
                refine ⟨_, rfl, U, rfl, ⟨_, .inl (.inl (s23' _ _ eUA))⟩, fun DC hDC => ?_⟩
                refine lc_list (K := K) (a := U) (xs := zs) (fun n H' => Same H23 H' ∧ ∃ acc, H' DC = some (.lst acc) ∧ DqAll K H23 acc (((plcs ss rs js).take n).map fun q => dPl q.1)) ⟨same_new hDC, [], upd_same, .nil⟩ (fun n H' _ h => .inl (.inl (h.1 _ _ (s23' _ _ eUA)))) ?_ ?_
                · rintro n x H24 hxn ⟨s24, acc, e24, d24⟩
                  obtain ⟨q, hq, t, b', rfl, ht, hb⟩ := pc_at pc23 hxn
                  have hn := (List.getElem?_eq_some_iff.mp hq).1
                  have la := d24.len
                  rw [List.length_map, List.length_take] at la
                  exact ⟨t, _, rfl, Same.sqT s24 ht, rfl, _, _, rfl, _, _, rfl, rfl, rfl, lc_yes ⟨_, rfl, acc, e24, small31 (by omega), Same.over s24 hDC, _, upd_same, pl_snoc hq hb d24⟩⟩
                · rintro H24 ⟨s24, acc, e24, d24⟩
                  rw [lzp, List.take_length] at d24
                  have s24' := s23'.trans s24
                  have shj : ∀ j ∈ js, ShS j.1 := fun j hj => isW_sh (gj.name j hj).1
                  have shq : ∀ q ∈ plcs ss rs js, ShS q.1.1 ∧ ShS q.2 ∧ q.1.2 < 40 := fun q hq => by
                    refine ⟨?_, isW_sh (stc _ (List.mem_map.mpr ⟨q, hq, rfl⟩)), ?_⟩
                    · unfold plcs at hq
                      rcases List.mem_append.mp hq with h | h
                      · rw [(rowP_mem h).1]
                        exact isW_sh (by decide +kernel)
                      · obtain ⟨j, hj, hm⟩ := List.mem_flatMap.mp h
                        rw [(rowP_mem hm).1]
                        exact shj j hj
                    · unfold plcs at hq
                      rcases List.mem_append.mp hq with h | h
                      · have := (rowP_mem h).2.2.1
                        omega
                      · obtain ⟨j, hj, hm⟩ := List.mem_flatMap.mp h
                        have := (rowP_mem hm).2.2.1
                        have := brs_len okp.l j.2
                        omega
                  refine ⟨_, rfl, _, rfl, J, U, ys, zs, js, plcs ss rs js, rfl, .inl (.inl (s24' _ _ (hid_get eJ17).2.2)), DqAll.same (hid_all.trans s24') dj17, .inl (.inl (s24' _ _ eUA)), pcA.same s24', shj, shq, by omega, by omega, fun l os H25 s25 nl el od => ?_⟩
                  have s25' := s24'.trans s25
                  have tb25 : Tabs [(T, ql)] H25 := tabs_ext tb17 (hid_all.trans s25')
                  refine ⟨l, rfl, ⟨_, .inl (.inl el)⟩, for_it (walk_list (K := K) (a := l) (xs := os)) (fun n σ H' => (∃ v6 v9 v11 v14, σ = [some (.ref a), some (.ref d), some (.int (0 + (i : Nat))), some (.ref L), some (.ref J), some (.ref C), v6, some (.ref D2), some (.ref U), v9, some (.ref DC), v11, some (.ref g), some (.ref hd), v14, none, none, none]) ∧ ExtN H25 H' ∧ Tabs [(T, ql)] H') ⟨⟨_, _, _, _, rfl⟩, ExtN.refl _, tb25⟩ (fun n σ H' _ h => .inl (.inl (h.2.1 _ _ el fun ps z => by cases z))) ?_ ?_⟩
                  · rintro n x σ H26' H26 hn ⟨⟨w6, w9, w11, w14, rfl⟩, x26, tb26⟩ ⟨rfl, hxn⟩
                    obtain ⟨pd, dq0, odd, pv0⟩ := (od x (List.mem_of_getElem? hxn)).ext x26
                    have d26 : DqAll K H26 acc ((plcs ss rs js).map fun q => dPl q.1) := DqAll.ext x26 (DqAll.same (s24.trans s25) d24)
                    refine ifS_by (fun b H1 => ExtN H26 H1 ∧ Tabs [(T, ql)] H1 ∧ (b = false → ¬ ∃ p ∈ (plcs ss rs js).map (·.1), pd = dPl p)) (fun Q1 hQ => ?_) ?_
                    · refine ⟨_, rfl, _, rfl, DC, acc, (plcs ss rs js).map (·.1), pd, rfl, .inl (.inl (x26 _ _ (s25 _ _ e24) fun ps z => by cases z)), ?_, dq0, odd.nd, fun e hf ht => ⟨e, rfl, ?_⟩⟩
                      · rw [List.map_map]
                        exact d26
                      cases e with
                      | false => exact ite_no rfl (hQ _ _ ⟨ExtN.refl _, tb26, fun _ hx => absurd (ht hx) Bool.false_ne_true⟩)
                      | true =>
                        refine ite_yes rfl ?_
                        obtain ⟨b0, rfl⟩ : ∃ b0, x = .ref b0 := by
                          cases z : isTupD pd with
                          | false => exact absurd (hf z).symm Bool.false_ne_true
                          | true =>
                            obtain ⟨ds, rfl⟩ : ∃ ds, pd = .tuple ds := by
                              cases pd <;> first | exact ⟨_, rfl⟩ | exact Bool.noConfusion z
                            obtain ⟨b0, _, rfl, _⟩ := dq0.tup_inv
                            exact ⟨b0, rfl⟩
                        refine ⟨_, rfl, b0, pd, rfl, dq0, odd.sh, odd_dp odd, shown_le odd, ?_⟩
                        refine ⟨_, rfl, DC, rfl, ⟨_, .inl (.inl (x26 _ _ (s25 _ _ e24) fun ps z => by cases z))⟩, fun DD hDD => ?_⟩
                        refine lc_list (K := K) (a := DC) (xs := acc) (fun n H' => Same H26 H' ∧ H' DD = some (.lst ((((plcs ss rs js).take n).map fun q => (dPl q.1).shown).map V.str))) ⟨same_new hDD, upd_same⟩ (fun n H' _ h => .inl (.inl (h.1 _ _ (x26 _ _ (s25 _ _ e24) fun ps z => by cases z)))) ?_ ?_
                        · rintro n2 x2 H27 hxn2 ⟨s27, e27⟩
                          obtain ⟨d2, ed2, dq2⟩ := DqAll.get n2 d26 hxn2
                          rw [List.getElem?_map] at ed2
                          obtain ⟨q2, hq2, rfl⟩ := Option.map_eq_some_iff.mp ed2
                          obtain ⟨b2, _, rfl, _⟩ := dq2.tup_inv
                          have k2 := shq _ (List.mem_of_getElem? hq2)
                          have o2 := odd_pl k2.1 k2.2.2
                          refine ⟨rfl, lc_yes ⟨_, rfl, b2, dPl q2.1, rfl, Dq.same s27 dq2, o2.sh, odd_dp o2, shown_le o2, _, e27, ?_, Same.over s27 hDD, ?_⟩⟩
                          · rw [List.length_map, List.length_map, List.length_take]
                            exact small31 (by omega)
                          · rw [upd_same, List.take_add_one, hq2, List.map_append, List.map_append]
                            rfl
                        · rintro H27 ⟨s27, e27⟩
                          refine ⟨DD, _, rfl, .inl (.inl (.inl e27)), rfl, strs_flat _, _, rfl, hQ _ _ ⟨extN_same s27, tabs_ext tb26 s27, fun hb hx => ?_⟩⟩
                          obtain ⟨p, hp, rfl⟩ := hx
                          rw [d26.len, List.length_map, List.take_length] at hb
                          obtain ⟨q, hq, rfl⟩ := List.mem_map.mp hp
                          have iv := inV_map (f := fun q : Plc × Str => (dPl q.1).shown) hq
                          rw [if_neg Bool.false_ne_true, iv] at hb
                          cases hb
                    · rintro b Ha ⟨xa, tba, hno⟩
                      cases b with
                      | true => exact ite_yes rfl ⟨⟨_, _, _, _, rfl⟩, x26.trans xa, tba⟩
                      | false =>
                        have hno := hno rfl
                        refine ite_no rfl ?_
                        refine ⟨tba, fun Hy xy tby => ?_⟩
                        have xz := (x26.trans xa).trans xy
                        have xzA := (extN_same s25').trans xz
                        have dqy := dq0.ext (xa.trans xy)
                        have L6 := odd_lst odd
                        refine ⟨_, rfl, _, rfl, _, rfl, g, hd, x, pd, ss, js, rs, rfl, bgA.ext xzA, hroA.ext xzA, okp, dqy, lenD_le odd, pv0.ext (xa.trans xy), (fun Hw p c' sw e hm => absurd ⟨p, List.mem_map.mpr ⟨_, hm, rfl⟩, e⟩ hno), (fun na dd Hw sw nd e => ⟨rfl, dd, x, rfl, e, fun l6 nl6 ml6 => ?_⟩)⟩
                        have s6 := same_new (o := .lst [x]) nl6
                        have dq6 := Dq.same (sw.trans s6) dqy
                        refine ⟨_, rfl, l6, .list [pd], rfl, .lst (.inl (.inl upd_same)) (.cons dq6 .nil) ml6, L6.1, L6.2.1, L6.2.2, ?_⟩
                        refine ⟨_, rfl, (by show 1 ≤ sizeLine; decide), fun p7 n7 m7 => ?_⟩
                        have s7 := same_new (o := .lst [x]) n7
                        refine ⟨p7, .list [pd], rfl, .lst (.inl (.inl upd_same)) (.cons (Dq.same s7 dq6) .nil) m7, L6.1, L6.2.1, L6.2.2, rfl, _, rfl, ite_no (by simp) ?_⟩
                        exact ⟨⟨_, _, _, _, rfl⟩, xz.trans (extN_same (sw.trans (s6.trans s7))), tabs_ext tby (sw.trans (s6.trans s7))⟩
                  · rintro σ H26 ⟨⟨w6, w9, w11, w14, rfl⟩, x26, tb26⟩
                    have xA : ExtN H18 H26 := (extN_same s25').trans x26
                    have stR : ∀ b ∈ rs, isW b = true := fun b hb => by
                      have hc := m10 b hb
                      unfold colsOf at hc
                      rcases List.mem_append.mp hc with z | z
                      · have all : (["a", "root", "zz"] : List Str).all isW = true := by decide +kernel
                        exact List.all_eq_true.mp all _ z
                      · obtain ⟨sh, hsh, e⟩ := List.mem_map.mp z
                        rw [← e]
                        exact (gs.all sh hsh).1.st
                    have lay3 : PyData.canLay0 (.list (rs.map PyData.str)) = true := by
                      rw [PyData.canLay0]
                      exact strs_lay _ stR
                    have shp3 : SeqAt.shaped (.list (rs.map PyData.str)) = true := by
                      unfold SeqAt.shaped
                      rw [lay3, Bool.true_and]
                      refine decide_eq_true ?_
                      rw [PyData.depth, strs_depth]
                      decide
                    have eRA := xA _ _ (hid_get eR17).2.2 fun ps z => by cases z
                    refine ⟨_, rfl, hd, _, rfl, hroA.ext xA, fun l9 n9 => ?_⟩
                    have s9 := same_new (o := .lst (rs.map V.str)) n9
                    have e9 : upd H26 l9 (.lst (rs.map V.str)) l9 = some (.lst (rs.map V.str)) := upd_same
                    refine ⟨_, rfl, .list _, .list _, .lst (.inl (.inl e9)) (DqAll.dp (strs_dq (H := upd H26 l9 (.lst (rs.map V.str))) rs) lay3), .lst (.inl (.inl (s9 _ _ eRA))) (DqAll.dp (strs_dq (H := upd H26 l9 (.lst (rs.map V.str))) rs) lay3), shp3, shp3, ?_⟩
                    rw [SeqAt.eqv_refl _ lay3]
                    refine ⟨_, rfl, ?_⟩
                    refine if_no rfl ?_
                    generalize upd H26 l9 (.lst (rs.map V.str)) = H27 at s9 ⊢
                    have xB := xA.trans (extN_same s9)
                    have bgB := bgA.ext xB
                    obtain ⟨dxg, bb, dd, i1, i2, i3⟩ := id bgB
                    refine ⟨_, rfl, g, dxg, _, rfl, i1, rfl, g, ss, js, rfl, bgB, fun p9 xs9 H28 s28 np9 ep9 dp9 => ?_⟩
                    have shpJ := joints_shaped (js := js) fun j hj => ⟨(gj.name j hj).1, (gj.word j hj).1⟩
                    have layJ := SeqAt.canLay_of_shaped shpJ
                    have xC := xB.trans (extN_same s28)
                    have eJC := xC _ _ (hid_get eJ17).2.2 fun ps z => by cases z
                    have djC := (DqAll.same (hid_all (d := d) (c := c0)) dj17).ext xC
                    refine ⟨_, rfl, .list _, .list _, .lst (.inl (.inl ep9)) (DqAll.dp dp9 layJ), .lst (.inl (.inl eJC)) (DqAll.dp djC layJ), shpJ, shpJ, ?_⟩
                    rw [SeqAt.eqv_refl _ layJ]
                    refine ⟨_, rfl, ?_⟩
                    refine if_no rfl ?_
                    have srcC := srcAt_ext src18 xC
                    exact ⟨⟨_, _, _, _, _, _, _, _, _, _, _, _, _, rfl⟩, srcC, tabs_hid srcC (tabs_ext tb26 (s9.trans s28))⟩
    · rintro σ H2 ⟨⟨v2, v3, v4, v5, v6, v7, v8, v9, v10, v11, v12, v13, v14, rfl⟩, _, _⟩
      exact k _
end
end Bc

namespace Bc
open PySem PySem.Spec PyProof.Rows L2 LamX
/-! ### what the top has written, by one look -/
abbrev leBm : List Value := [.type "LookupError", .type "Exception", .type "BaseException", .type "object"]
section
open PySem.W
def xcB (K : Frag) (C : Addr) : Bool := (findIn K (.ref C) "__getattribute__" == some (some (.builtin "BaseException.__getattribute__"))) && ((findIn K (.ref C) "__getattr__" == some none) && ((subIn K (.ref C) (.type "BaseException") == some true) && (hasDictIn K C &&
  ((findIn K (.ref C) "__class__" == some (some (.builtin "object.__class__"))) && ((specialIn K (.builtin "object.__class__") "__get__" == some (some (.builtin "getset_descriptor.__get__"))) && ((takesIn K (.builtin "object.__class__") == some true) && ((mroIn K C (.type "object") == some true) && keepIn K (.ref C))))))))
theorem xc_of {K : Frag} {C : Addr} (h : xcB K C = true) : XC K C := by
  unfold xcB at h
  simp only [Bool.and_eq_true, beq_iff_eq] at h
  obtain ⟨h1, h2, h3, h4, h5, h6, h7, h8, h9⟩ := h
  exact { hg := h1, hk := h2, hs := h3, hd := h4, ha := h5, hn := h6, ht := h7, hm := h8, kC := h9 }
def xiB (K : Frag) (C fI : Addr) (bmB : List Value) (newId : String) : Bool := excInitIn K C bmB newId && ((findIn K (.ref C) "__setattr__" == some (some (.builtin "object.__setattr__"))) && ((findIn K (.ref C) "__init__" == some (some (.ref fI))) && (typeIn K (.ref fI) == some (.type "function"))))
theorem init_look {K : Frag} {C : Addr} {bmB : List Value} {newId : String} (q : excInitIn K C bmB newId = true) (hd : hasDictIn K C = true) : ∃ nm q N bs bm sn sub ab col dd k0 k1 k2 k3 k5,
    excTail bmB bm = true ∧ K.lookup C = some (excClassObj nm q C N bs bm true sn sub ab col dd k0 k1 k2 k3 k5 newId) := by
  unfold hasDictIn clsIn at hd
  unfold excInitIn at q
  split at q
  · rename_i dd cd sl ho
    rw [ho] at hd
    split at q
    · rename_i C' bm k0 k1 k2 k3 n k5 hm hs
      simp only [Bool.and_eq_true, beq_iff_eq, Bool.not_eq_true'] at q
      obtain ⟨⟨⟨rfl, rfl⟩, hdel⟩, ht⟩ := q
      obtain ⟨nm, bs, mro, ns, qn, hdc, sn, sub, ab, col, del⟩ := cd
      dsimp only at hm hdel
      have hd' : hdc = true := by simpa using hd
      subst hm hdel hd'
      have hsl : sl = #[k0, k1, k2, k3, some (.builtin n), k5] := by
        obtain ⟨l⟩ := sl
        simp only at hs
        rw [hs]
      subst hsl
      exact ⟨nm, qn, ns, bs, bm, sn, sub, ab, col, dd, k0, k1, k2, k3, k5, ht, ho⟩
    · cases q
  · cases q
theorem xi_of {K : Frag} {C fI : Addr} {bmB : List Value} {B newId initId : String} (FB : ExcBaseFacts B newId initId bmB) (SF : StoreFacts B bmB "object.__setattr__" "object") (x : XC K C) (h : xiB K C fI bmB newId = true) : XI K C fI := by
  unfold xiB at h
  simp only [Bool.and_eq_true, beq_iff_eq] at h
  obtain ⟨h1, h2, h3, h4⟩ := h
  obtain ⟨nm, q, N, bs, bm, sn, sub, ab, col, dd, k0, k1, k2, k3, k5, ht, ho⟩ := init_look h1 x.hd
  exact { toXC := x, cls := ⟨nm, q, N, bs, bm, sn, sub, ab, col, dd, k0, k1, k2, k3, k5, B, newId, initId, bmB, FB, SF, ht, ho⟩, sa := h2, iC := h3, tI := h4 }
end
theorem walkT2 {l : PySem.W.OpenLaw} {n k : Nat} {q : Program} {loose : List Str} {XP : (Str → Option Value) → Heap → Prop} {YP : World → Heap → Prop} {d d' : DefRec} {K : Params → PySem.W.Frag} {sp : World → Addr → Sp} {x x0 : Str}
    (hn : l.most = some n) (hn2 : n ≤ sizeLine) (hdf : d.params.defaults = []) (hr : Room k callerA) (hY : ∀ (w : World) (h : Heap), YP w h → (K w.params).In h)
    (hrec : (recsOf q).find? (fun e => e.name == x0) = some d')
    (F : ∀ (w : World) (mg : Str → Option Value) (fa : Addr) (h : Heap), (K w.params).In h → h.Ns mainGlobals mg → mg d.name = some (.ref fa) →
      ∃ (fd : FuncData) (c T : Addr), PySem.W.tabIn (K w.params) x0 = some (c, T) ∧ (K w.params).lookup T = none ∧ (∀ (s : Shared) (u : Value), BindsTo s fd ⟨[u], []⟩ [(x, u)]) ∧
        ∀ base : Heap, (K w.params).In base → base.Ns mainGlobals mg → TabB base mg c T → FnG l.prog w (K w.params) mg base k fa fd [x] (sp w T))
    (hsp : ∀ (w : World) (T : Addr) (H : Hp) (a : Addr) (ns : List Int), ns.length ≤ n → H T = some (.tbl #[]) → SqL (K w.params) H a (ns.map V.int) → sp w T [.ref a] H (fun v _ => v = .bl true) E0) :
    PySem.W.WalkO q loose XP YP l.row.toRowW d [] (fun f vs => PySem.call f vs) := by
  refine Att.attach_callB hn hdf fun w s₀ s₁ mg mb fa o pm cd doc a vs ns G Y ho hd hcd hmg hobj hints hlen hbits hg => ?_
  have KX := hY w _ Y
  obtain ⟨fd, c, T, ht, nT, hb, hF⟩ := F w mg fa _ KX G.T.g hmg
  obtain ⟨C, hT⟩ := PySem.W.tab_of G.T KX hrec ht
  exact lawT_call KX G.T.g G.T.b G.T.builtins G.T.nolimit hg hT nT C G.T.bmain hobj hints (Nat.le_trans hlen hn2) hr hF hb (fun H eT hS => hsp w T H a ns hlen eT hS)
theorem all_mk {l : PySem.W.OpenLaw} {w : World} {K : PySem.W.Frag} {h : Heap} {mg : Str → Option Value} {fa CB CG CU cW tW fbI fbW fbH fbB fgI fgJ fgN fgW fgB fUI fIW fIN fWJ fWS fPL fCA fCO fAM fS fP fO fM fNM fSH fDS fMI fDJ fDU fOD fW : Addr} (KX : K.In h) (G : h.Ns mainGlobals mg) (hfa : mg "law" = some (.ref fa))
    {odbI anbI odbW anbW odbH anbH odbB anbB odgI angI odgJ angJ odgN angN odgW angW odgB angB odUI anUI odIW anIW odIN anIN odWJ anWJ odWS anWS odPL anPL odCA anCA odCO anCO odAM anAM odS anS odP anP odO anO odM anM odNM anNM odSH anSH odDS anDS odMI anMI odDJ anDJ odDU anDU odOD anOD odW anW : Option Addr} {slbI slbW slbH slbB slgI slgJ slgN slgW slgB slUI slIW slIN slWJ slWS slPL slCA slCO slAM slS slP slO slM slNM slSH slDS slMI slDJ slDU slOD slW : Array (Option Value)} {ocbI kVbI dcbI pmbI cdbI ctbI ocbW kVbW dcbW pmbW cdbW ctbW ocbH kVbH dcbH pmbH cdbH ctbH ocbB kVbB dcbB pmbB cdbB ctbB ocgI kVgI dcgI pmgI cdgI ctgI ocgJ kVgJ dcgJ pmgJ cdgJ ctgJ ocgN kVgN dcgN pmgN cdgN ctgN ocgW kVgW dcgW pmgW cdgW ctgW ocgB kVgB dcgB pmgB cdgB ctgB ocUI kVUI dcUI pmUI cdUI ctUI ocIW kVIW dcIW pmIW cdIW ctIW ocIN kVIN dcIN pmIN cdIN ctIN ocWJ kVWJ dcWJ pmWJ cdWJ ctWJ ocWS kVWS dcWS pmWS cdWS ctWS ocPL kVPL dcPL pmPL cdPL ctPL ocCA kVCA dcCA pmCA cdCA ctCA ocCO kVCO dcCO pmCO cdCO ctCO ocAM kVAM dcAM pmAM cdAM ctAM ocS kVS dcS pmS cdS ctS ocP kVP dcP pmP cdP ctP ocO kVO dcO pmO cdO ctO ocM kVM dcM pmM cdM ctM ocNM kVNM dcNM pmNM cdNM ctNM ocSH kVSH dcSH pmSH cdSH ctSH ocDS kVDS dcDS pmDS cdDS ctDS ocMI kVMI dcMI pmMI cdMI ctMI ocDJ kVDJ dcDJ pmDJ cdDJ ctDJ ocDU kVDU dcDU pmDU cdDU ctDU ocOD kVOD dcOD pmOD cdOD ctOD ocW kVW dcW pmW ctW : Value}
    {q1 q2 q5 q8 : PySem.Tok}
    (aCB : PySem.W.nsIn K mainGlobals "Book" = some (some (.ref CB)))
    (pgCB : PySem.W.plainGet K CB Str.empty = true)
    (hdCB : PySem.W.hasDictIn K CB = true)
    (poCB : PySem.W.plainOver K CB = true)
    (saCB : PySem.W.findIn K (.ref CB) "__setattr__" = some (some (.builtin "object.__setattr__")))
    (naCB0 : PySem.W.findIn K (.ref CB) "_shapes" = some none)
    (mkCB : PySem.W.makesIn K CB = true)
    (kpCB : PySem.W.keepIn K (.ref CB) = true)
    (abI : PySem.W.findIn K (.ref CB) "__init__" = some (some (.ref fbI)))
    (lbI : K.lookup fbI = some ⟨ocbI, odbI, .func (PySem.W.fnOf "__init__" "Book.__init__" (defArgs sBookI) (defBody sBookI) (defScope sBookI) .none kVbI dcbI pmbI anbI cdbI ctbI), slbI⟩)
    (dbI : PySem.W.codeIn K cdbI "Book.__init__" = true)
    (kbI : PySem.W.keepIn K (.ref fbI) = true)
    (vbI : PySem.W.isFn K (.ref fbI) = true)
    (abW : PySem.W.findIn K (.ref CB) "words" = some (some (.ref fbW)))
    (lbW : K.lookup fbW = some ⟨ocbW, odbW, .func (PySem.W.fnOf "words" "Book.words" (defArgs sBookW) (defBody sBookW) (defScope sBookW) .none kVbW dcbW pmbW anbW cdbW ctbW), slbW⟩)
    (dbW : PySem.W.codeIn K cdbW "Book.words" = true)
    (kbW : PySem.W.keepIn K (.ref fbW) = true)
    (vbW : PySem.W.isFn K (.ref fbW) = true)
    (abH : PySem.W.findIn K (.ref CB) "shape" = some (some (.ref fbH)))
    (lbH : K.lookup fbH = some ⟨ocbH, odbH, .func (PySem.W.fnOf "shape" "Book.shape" (defArgs sBookSh) (defBody sBookSh) (defScope sBookSh) .none kVbH dcbH pmbH anbH cdbH ctbH), slbH⟩)
    (dbH : PySem.W.codeIn K cdbH "Book.shape" = true)
    (kbH : PySem.W.keepIn K (.ref fbH) = true)
    (vbH : PySem.W.isFn K (.ref fbH) = true)
    (abB : PySem.W.findIn K (.ref CB) "branches" = some (some (.ref fbB)))
    (lbB : K.lookup fbB = some ⟨ocbB, odbB, .func (PySem.W.fnOf "branches" "Book.branches" (defArgs sBookB) (defBody sBookB) (defScope sBookB) .none kVbB dcbB pmbB anbB cdbB ctbB), slbB⟩)
    (dbB : PySem.W.codeIn K cdbB "Book.branches" = true)
    (kbB : PySem.W.keepIn K (.ref fbB) = true)
    (vbB : PySem.W.isFn K (.ref fbB) = true)
    (aCG : PySem.W.nsIn K mainGlobals "Bag" = some (some (.ref CG)))
    (pgCG : PySem.W.plainGet K CG Str.empty = true)
    (hdCG : PySem.W.hasDictIn K CG = true)
    (poCG : PySem.W.plainOver K CG = true)
    (saCG : PySem.W.findIn K (.ref CG) "__setattr__" = some (some (.builtin "object.__setattr__")))
    (naCG0 : PySem.W.findIn K (.ref CG) "_book" = some none)
    (naCG1 : PySem.W.findIn K (.ref CG) "_words" = some none)
    (mkCG : PySem.W.makesIn K CG = true)
    (kpCG : PySem.W.keepIn K (.ref CG) = true)
    (agI : PySem.W.findIn K (.ref CG) "__init__" = some (some (.ref fgI)))
    (lgI : K.lookup fgI = some ⟨ocgI, odgI, .func (PySem.W.fnOf "__init__" "Bag.__init__" (defArgs sBagI) (defBody sBagI) (defScope sBagI) .none kVgI dcgI pmgI angI cdgI ctgI), slgI⟩)
    (dgI : PySem.W.codeIn K cdgI "Bag.__init__" = true)
    (kgI : PySem.W.keepIn K (.ref fgI) = true)
    (vgI : PySem.W.isFn K (.ref fgI) = true)
    (agJ : PySem.W.findIn K (.ref CG) "joints" = some (some (.ref fgJ)))
    (lgJ : K.lookup fgJ = some ⟨ocgJ, odgJ, .func (PySem.W.fnOf "joints" "Bag.joints" (defArgs sBagJ) (defBody sBagJ) (defScope sBagJ) .none kVgJ dcgJ pmgJ angJ cdgJ ctgJ), slgJ⟩)
    (dgJ : PySem.W.codeIn K cdgJ "Bag.joints" = true)
    (kgJ : PySem.W.keepIn K (.ref fgJ) = true)
    (vgJ : PySem.W.isFn K (.ref fgJ) = true)
    (agN : PySem.W.findIn K (.ref CG) "names" = some (some (.ref fgN)))
    (lgN : K.lookup fgN = some ⟨ocgN, odgN, .func (PySem.W.fnOf "names" "Bag.names" (defArgs sBagN) (defBody sBagN) (defScope sBagN) .none kVgN dcgN pmgN angN cdgN ctgN), slgN⟩)
    (dgN : PySem.W.codeIn K cdgN "Bag.names" = true)
    (kgN : PySem.W.keepIn K (.ref fgN) = true)
    (vgN : PySem.W.isFn K (.ref fgN) = true)
    (agW : PySem.W.findIn K (.ref CG) "word" = some (some (.ref fgW)))
    (lgW : K.lookup fgW = some ⟨ocgW, odgW, .func (PySem.W.fnOf "word" "Bag.word" (defArgs sBagW) (defBody sBagW) (defScope sBagW) .none kVgW dcgW pmgW angW cdgW ctgW), slgW⟩)
    (dgW : PySem.W.codeIn K cdgW "Bag.word" = true)
    (kgW : PySem.W.keepIn K (.ref fgW) = true)
    (vgW : PySem.W.isFn K (.ref fgW) = true)
    (agB : PySem.W.findIn K (.ref CG) "branches" = some (some (.ref fgB)))
    (lgB : K.lookup fgB = some ⟨ocgB, odgB, .func (PySem.W.fnOf "branches" "Bag.branches" (defArgs sBagB) (defBody sBagB) (defScope sBagB) .none kVgB dcgB pmgB angB cdgB ctgB), slgB⟩)
    (dgB : PySem.W.codeIn K cdgB "Bag.branches" = true)
    (kgB : PySem.W.keepIn K (.ref fgB) = true)
    (vgB : PySem.W.isFn K (.ref fgB) = true)
    (aCU : PySem.W.nsIn K mainGlobals "UnknownName" = some (some (.ref CU)))
    (aUI : PySem.W.findIn K (.ref CU) "__init__" = some (some (.ref fUI)))
    (lUI : K.lookup fUI = some ⟨ocUI, odUI, .func (PySem.W.fnOf "__init__" "UnknownName.__init__" (defArgs sUnk) (defBody sUnk) (defScope sUnk) .none kVUI dcUI pmUI anUI cdUI ctUI), slUI⟩)
    (dUI : PySem.W.codeIn K cdUI "UnknownName.__init__" = true)
    (kUI : PySem.W.keepIn K (.ref fUI) = true)
    (xcU : xcB K CU = true)
    (xiU : xiB K CU fUI leBm "LookupError.__new__" = true)
    (noU : PySem.W.findIn K (.ref CU) "name" = some none)
    (tyU : PySem.W.typeIn K (.ref CU) = some (.type "type"))
    (teU : PySem.W.exmOne K (.ref CU) (.ref CU) = some true)
    (aIW : PySem.W.nsIn K mainGlobals "is_word" = some (some (.ref fIW)))
    (lIW : K.lookup fIW = some ⟨ocIW, odIW, .func (PySem.W.fnOf "is_word" "is_word" (defArgs sIsWord) (defBody sIsWord) (defScope sIsWord) .none kVIW dcIW pmIW anIW cdIW ctIW), slIW⟩)
    (dIW : PySem.W.codeIn K cdIW "is_word" = true)
    (kIW : PySem.W.keepIn K (.ref fIW) = true)
    (aIN : PySem.W.nsIn K mainGlobals "is_number" = some (some (.ref fIN)))
    (lIN : K.lookup fIN = some ⟨ocIN, odIN, .func (PySem.W.fnOf "is_number" "is_number" (defArgs sIsNum) (defBody sIsNum) (defScope sIsNum) .none kVIN dcIN pmIN anIN cdIN ctIN), slIN⟩)
    (dIN : PySem.W.codeIn K cdIN "is_number" = true)
    (kIN : PySem.W.keepIn K (.ref fIN) = true)
    (aWJ : PySem.W.nsIn K mainGlobals "wrong_in_joint" = some (some (.ref fWJ)))
    (lWJ : K.lookup fWJ = some ⟨ocWJ, odWJ, .func (PySem.W.fnOf "wrong_in_joint" "wrong_in_joint" (defArgs sWrongJ) (defBody sWrongJ) (defScope sWrongJ) .none kVWJ dcWJ pmWJ anWJ cdWJ ctWJ), slWJ⟩)
    (dWJ : PySem.W.codeIn K cdWJ "wrong_in_joint" = true)
    (kWJ : PySem.W.keepIn K (.ref fWJ) = true)
    (aWS : PySem.W.nsIn K mainGlobals "wrong_in_shape" = some (some (.ref fWS)))
    (lWS : K.lookup fWS = some ⟨ocWS, odWS, .func (PySem.W.fnOf "wrong_in_shape" "wrong_in_shape" (defArgs sWrongS) (defBody sWrongS) (defScope sWrongS) .none kVWS dcWS pmWS anWS cdWS ctWS), slWS⟩)
    (dWS : PySem.W.codeIn K cdWS "wrong_in_shape" = true)
    (kWS : PySem.W.keepIn K (.ref fWS) = true)
    (aPL : PySem.W.nsIn K mainGlobals "places_of" = some (some (.ref fPL)))
    (lPL : K.lookup fPL = some ⟨ocPL, odPL, .func (PySem.W.fnOf "places_of" "places_of" (defArgs sPlaces) (defBody sPlaces) (defScope sPlaces) .none kVPL dcPL pmPL anPL cdPL ctPL), slPL⟩)
    (dPL : PySem.W.codeIn K cdPL "places_of" = true)
    (kPL : PySem.W.keepIn K (.ref fPL) = true)
    (aCA : PySem.W.nsIn K mainGlobals "colours_at" = some (some (.ref fCA)))
    (lCA : K.lookup fCA = some ⟨ocCA, odCA, .func (PySem.W.fnOf "colours_at" "colours_at" (defArgs sColsAt) (defBody sColsAt) (defScope sColsAt) .none kVCA dcCA pmCA anCA cdCA ctCA), slCA⟩)
    (dCA : PySem.W.codeIn K cdCA "colours_at" = true)
    (kCA : PySem.W.keepIn K (.ref fCA) = true)
    (aCO : PySem.W.nsIn K mainGlobals "colour_of" = some (some (.ref fCO)))
    (lCO : K.lookup fCO = some ⟨ocCO, odCO, .func (PySem.W.fnOf "colour_of" "colour_of" (defArgs sColOf) (defBody sColOf) (defScope sColOf) .none kVCO dcCO pmCO anCO cdCO ctCO), slCO⟩)
    (dCO : PySem.W.codeIn K cdCO "colour_of" = true)
    (kCO : PySem.W.keepIn K (.ref fCO) = true)
    (aAM : PySem.W.nsIn K mainGlobals "is_among" = some (some (.ref fAM)))
    (lAM : K.lookup fAM = some ⟨ocAM, odAM, .func (PySem.W.fnOf "is_among" "is_among" (defArgs sAmong) (defBody sAmong) (defScope sAmong) .none kVAM dcAM pmAM anAM cdAM ctAM), slAM⟩)
    (dAM : PySem.W.codeIn K cdAM "is_among" = true)
    (kAM : PySem.W.keepIn K (.ref fAM) = true)
    (aS : PySem.W.nsIn K mainGlobals "_law_source" = some (some (.ref fS)))
    (lS : K.lookup fS = some ⟨ocS, odS, .func (PySem.W.fnOf "_law_source" "_law_source" (defArgs sSource) (defBody sSource) (defScope sSource) .none kVS dcS pmS anS cdS ctS), slS⟩)
    (dS : PySem.W.codeIn K cdS "_law_source" = true)
    (kS : PySem.W.keepIn K (.ref fS) = true)
    (aP : PySem.W.nsIn K mainGlobals "_law_pick" = some (some (.ref fP)))
    (lP : K.lookup fP = some ⟨ocP, odP, .func (PySem.W.fnOf "_law_pick" "_law_pick" (defArgs sPick) (defBody sPick) (defScope sPick) .none kVP dcP pmP anP cdP ctP), slP⟩)
    (dP : PySem.W.codeIn K cdP "_law_pick" = true)
    (kP : PySem.W.keepIn K (.ref fP) = true)
    (aO : PySem.W.nsIn K mainGlobals "_law_of" = some (some (.ref fO)))
    (lO : K.lookup fO = some ⟨ocO, odO, .func (PySem.W.fnOf "_law_of" "_law_of" (defArgs sOf) (defBody sOf) (defScope sOf) .none kVO dcO pmO anO cdO ctO), slO⟩)
    (dO : PySem.W.codeIn K cdO "_law_of" = true)
    (kO : PySem.W.keepIn K (.ref fO) = true)
    (aM : PySem.W.nsIn K mainGlobals "_law_mixed" = some (some (.ref fM)))
    (lM : K.lookup fM = some ⟨ocM, odM, .func (PySem.W.fnOf "_law_mixed" "_law_mixed" (defArgs sMixed) (defBody sMixed) (defScope sMixed) .none kVM dcM pmM anM cdM ctM), slM⟩)
    (dM : PySem.W.codeIn K cdM "_law_mixed" = true)
    (kM : PySem.W.keepIn K (.ref fM) = true)
    (aNM : PySem.W.nsIn K mainGlobals "_law_names" = some (some (.ref fNM)))
    (lNM : K.lookup fNM = some ⟨ocNM, odNM, .func (PySem.W.fnOf "_law_names" "_law_names" (defArgs sNames) (defBody sNames) (defScope sNames) .none kVNM dcNM pmNM anNM cdNM ctNM), slNM⟩)
    (dNM : PySem.W.codeIn K cdNM "_law_names" = true)
    (kNM : PySem.W.keepIn K (.ref fNM) = true)
    (aSH : PySem.W.nsIn K mainGlobals "_law_shapes" = some (some (.ref fSH)))
    (lSH : K.lookup fSH = some ⟨ocSH, odSH, .func (PySem.W.fnOf "_law_shapes" "_law_shapes" (defArgs sShapes) (defBody sShapes) (defScope sShapes) .none kVSH dcSH pmSH anSH cdSH ctSH), slSH⟩)
    (dSH : PySem.W.codeIn K cdSH "_law_shapes" = true)
    (kSH : PySem.W.keepIn K (.ref fSH) = true)
    (aDS : PySem.W.nsIn K mainGlobals "_law_drawn_shapes" = some (some (.ref fDS)))
    (lDS : K.lookup fDS = some ⟨ocDS, odDS, .func (PySem.W.fnOf "_law_drawn_shapes" "_law_drawn_shapes" (defArgs sDrawnS) (defBody sDrawnS) (defScope sDrawnS) .none kVDS dcDS pmDS anDS cdDS ctDS), slDS⟩)
    (dDS : PySem.W.codeIn K cdDS "_law_drawn_shapes" = true)
    (kDS : PySem.W.keepIn K (.ref fDS) = true)
    (aMI : PySem.W.nsIn K mainGlobals "_law_missing" = some (some (.ref fMI)))
    (lMI : K.lookup fMI = some ⟨ocMI, odMI, .func (PySem.W.fnOf "_law_missing" "_law_missing" (defArgs sMissing) (defBody sMissing) (defScope sMissing) .none kVMI dcMI pmMI anMI cdMI ctMI), slMI⟩)
    (dMI : PySem.W.codeIn K cdMI "_law_missing" = true)
    (kMI : PySem.W.keepIn K (.ref fMI) = true)
    (aDJ : PySem.W.nsIn K mainGlobals "_law_drawn_joints" = some (some (.ref fDJ)))
    (lDJ : K.lookup fDJ = some ⟨ocDJ, odDJ, .func (PySem.W.fnOf "_law_drawn_joints" "_law_drawn_joints" (defArgs sDrawnJ) (defBody sDrawnJ) (defScope sDrawnJ) .none kVDJ dcDJ pmDJ anDJ cdDJ ctDJ), slDJ⟩)
    (dDJ : PySem.W.codeIn K cdDJ "_law_drawn_joints" = true)
    (kDJ : PySem.W.keepIn K (.ref fDJ) = true)
    (aDU : PySem.W.nsIn K mainGlobals "_law_places_due" = some (some (.ref fDU)))
    (lDU : K.lookup fDU = some ⟨ocDU, odDU, .func (PySem.W.fnOf "_law_places_due" "_law_places_due" (defArgs sDue) (defBody sDue) (defScope sDue) .none kVDU dcDU pmDU anDU cdDU ctDU), slDU⟩)
    (dDU : PySem.W.codeIn K cdDU "_law_places_due" = true)
    (kDU : PySem.W.keepIn K (.ref fDU) = true)
    (aOD : PySem.W.nsIn K mainGlobals "_law_odd_places" = some (some (.ref fOD)))
    (lOD : K.lookup fOD = some ⟨ocOD, odOD, .func (PySem.W.fnOf "_law_odd_places" "_law_odd_places" (defArgs sOdd) (defBody sOdd) (defScope sOdd) .none kVOD dcOD pmOD anOD cdOD ctOD), slOD⟩)
    (dOD : PySem.W.codeIn K cdOD "_law_odd_places" = true)
    (kOD : PySem.W.keepIn K (.ref fOD) = true)
    (aW : PySem.W.nsIn K mainGlobals "law" = some (some (.ref fW)))
    (lW : K.lookup fW = some ⟨ocW, odW, .func (PySem.W.fnOf "law" "law" (defArgs sLaw) (defBody sLaw) (defScope sLaw) .none kVW dcW pmW anW (.ref cW) ctW), slW⟩)
    (dW : PySem.W.codeIn K (.ref cW) "law" = true)
    (kW : PySem.W.keepIn K (.ref fW) = true)
    (tabW : PySem.W.tabIn K "law" = some (cW, tW))
    (noT : K.lookup tW = none)
    (z_int : PySem.W.nsIn K mainGlobals "int" = some none)
    (z_abs : PySem.W.nsIn K mainGlobals "abs" = some none)
    (z_len : PySem.W.nsIn K mainGlobals "len" = some none)
    (z_max : PySem.W.nsIn K mainGlobals "max" = some none)
    (z_reversed : PySem.W.nsIn K mainGlobals "reversed" = some none)
    (z_range : PySem.W.nsIn K mainGlobals "range" = some none)
    (z_list : PySem.W.nsIn K mainGlobals "list" = some none)
    (z_tuple : PySem.W.nsIn K mainGlobals "tuple" = some none)
    (z_isinstance : PySem.W.nsIn K mainGlobals "isinstance" = some none)
    (z_str : PySem.W.nsIn K mainGlobals "str" = some none)
    (z_all : PySem.W.nsIn K mainGlobals "all" = some none)
    (z_enumerate : PySem.W.nsIn K mainGlobals "enumerate" = some none)
    (z_repr : PySem.W.nsIn K mainGlobals "repr" = some none)
    (z_bool : PySem.W.nsIn K mainGlobals "bool" = some none)
    (y_LETTERS : PySem.W.nsIn K mainGlobals "LETTERS" = some (some (.str sLetters q1)))
    (y_DIGITS : PySem.W.nsIn K mainGlobals "DIGITS" = some (some (.str sDigits q2)))
    (y_LONGEST : PySem.W.nsIn K mainGlobals "LONGEST" = some (some (.int 12 q5)))
    (y_ROOT : PySem.W.nsIn K mainGlobals "ROOT" = some (some (.str "root" q8))) :
    ∃ (fd : FuncData) (c T : Addr), PySem.W.tabIn K "law" = some (c, T) ∧ K.lookup T = none ∧ (∀ (s : Shared) (v : Value), BindsTo s fd ⟨[v], []⟩ [("_law_script", v)]) ∧ ∀ base : Heap, K.In base → base.Ns mainGlobals mg → TabB base mg c T → FnG l.prog w K mg base 8 fa fd ["_law_script"] (spLaw K T) := by
  have e := hfa.symm.trans (PySem.W.mg_of KX G aW)
  cases e
  have B : Blt mg := ⟨PySem.W.mg_none_of KX G z_int, PySem.W.mg_none_of KX G z_abs, PySem.W.mg_none_of KX G z_len, PySem.W.mg_none_of KX G z_max⟩
  have N : Nm mg := ⟨PySem.W.mg_none_of KX G z_reversed, PySem.W.mg_none_of KX G z_range, PySem.W.mg_none_of KX G z_list⟩
  have T : Cts mg := ⟨⟨_, PySem.W.mg_of KX G y_LETTERS⟩, ⟨_, PySem.W.mg_of KX G y_DIGITS⟩, ⟨_, PySem.W.mg_of KX G y_LONGEST⟩⟩
  have W0 : Wd mg := ⟨PySem.W.mg_none_of KX G z_isinstance, PySem.W.mg_none_of KX G z_str, PySem.W.mg_none_of KX G z_all⟩
  have W1 : Wt mg := ⟨PySem.W.mg_none_of KX G z_tuple, PySem.W.mg_none_of KX G z_enumerate⟩
  have gROOT : ∃ t, mg "ROOT" = some (.str "root" t) := ⟨_, PySem.W.mg_of KX G y_ROOT⟩
  have XC0 : XC K CU := xc_of xcU
  have XI0 : XI K CU fUI := xi_of F.excBase_LookupError F.store_LookupError XC0 xiU
  have XF0 : XfC K CU := ⟨XC0.hg, XC0.hk, XC0.hs, XC0.hd⟩
  have clB : Cls K CB := ⟨pgCB, hdCB, poCB, saCB⟩
  have MB : Mk K CB fbI := ⟨mkCB, abI, vbI, kpCB⟩
  have noB0 : NoAttr K CB "_shapes" := naCB0
  have mebW : Meth K CB "words" fbW := ⟨abW, vbW, kbW⟩
  have mebH : Meth K CB "shape" fbH := ⟨abH, vbH, kbH⟩
  have mebB : Meth K CB "branches" fbB := ⟨abB, vbB, kbB⟩
  have clG : Cls K CG := ⟨pgCG, hdCG, poCG, saCG⟩
  have MG : Mk K CG fgI := ⟨mkCG, agI, vgI, kpCG⟩
  have noG0 : NoAttr K CG "_book" := naCG0
  have noG1 : NoAttr K CG "_words" := naCG1
  have megJ : Meth K CG "joints" fgJ := ⟨agJ, vgJ, kgJ⟩
  have megN : Meth K CG "names" fgN := ⟨agN, vgN, kgN⟩
  have megW : Meth K CG "word" fgW := ⟨agW, vgW, kgW⟩
  have megB : Meth K CG "branches" fgB := ⟨agB, vgB, kgB⟩
  have FbI := fun_mk (st := sBookI) lbI dbI kbI
  have bbI := FbI.binds (ps := ["self", "shapes"]) fun _ _ _ _ _ _ us hl => match us, hl with | [_, _], _ => rfl
  have FbW := fun_mk (st := sBookW) lbW dbW kbW
  have bbW := FbW.binds (ps := ["self"]) fun _ _ _ _ _ _ us hl => match us, hl with | [_], _ => rfl
  have FbH := fun_mk (st := sBookSh) lbH dbH kbH
  have bbH := FbH.binds (ps := ["self", "word"]) fun _ _ _ _ _ _ us hl => match us, hl with | [_, _], _ => rfl
  have FbB := fun_mk (st := sBookB) lbB dbB kbB
  have bbB := FbB.binds (ps := ["self", "word"]) fun _ _ _ _ _ _ us hl => match us, hl with | [_, _], _ => rfl
  have FgI := fun_mk (st := sBagI) lgI dgI kgI
  have bgI := FgI.binds (ps := ["self", "book", "joints"]) fun _ _ _ _ _ _ us hl => match us, hl with | [_, _, _], _ => rfl
  have FgJ := fun_mk (st := sBagJ) lgJ dgJ kgJ
  have bgJ := FgJ.binds (ps := ["self"]) fun _ _ _ _ _ _ us hl => match us, hl with | [_], _ => rfl
  have FgN := fun_mk (st := sBagN) lgN dgN kgN
  have bgN := FgN.binds (ps := ["self"]) fun _ _ _ _ _ _ us hl => match us, hl with | [_], _ => rfl
  have FgW := fun_mk (st := sBagW) lgW dgW kgW
  have bgW := FgW.binds (ps := ["self", "name"]) fun _ _ _ _ _ _ us hl => match us, hl with | [_, _], _ => rfl
  have FgB := fun_mk (st := sBagB) lgB dgB kgB
  have bgB := FgB.binds (ps := ["self", "name"]) fun _ _ _ _ _ _ us hl => match us, hl with | [_, _], _ => rfl
  have FUI := fun_mk (st := sUnk) lUI dUI kUI
  have bUI := FUI.binds (ps := ["self", "name"]) fun _ _ _ _ _ _ us hl => match us, hl with | [_, _], _ => rfl
  have FIW := fun_mk (st := sIsWord) lIW dIW kIW
  have bIW := FIW.binds (ps := ["value"]) fun _ _ _ _ _ _ us hl => match us, hl with | [_], _ => rfl
  have FIN := fun_mk (st := sIsNum) lIN dIN kIN
  have bIN := FIN.binds (ps := ["value"]) fun _ _ _ _ _ _ us hl => match us, hl with | [_], _ => rfl
  have FWJ := fun_mk (st := sWrongJ) lWJ dWJ kWJ
  have bWJ := FWJ.binds (ps := ["joint", "k", "words", "earlier"]) fun _ _ _ _ _ _ us hl => match us, hl with | [_, _, _, _], _ => rfl
  have FWS := fun_mk (st := sWrongS) lWS dWS kWS
  have bWS := FWS.binds (ps := ["shape", "k", "earlier"]) fun _ _ _ _ _ _ us hl => match us, hl with | [_, _, _], _ => rfl
  have FPL := fun_mk (st := sPlaces) lPL dPL kPL
  have bPL := FPL.binds (ps := ["bag", "roots"]) fun _ _ _ _ _ _ us hl => match us, hl with | [_, _], _ => rfl
  have FCA := fun_mk (st := sColsAt) lCA dCA kCA
  have bCA := FCA.binds (ps := ["bag", "roots"]) fun _ _ _ _ _ _ us hl => match us, hl with | [_, _], _ => rfl
  have FCO := fun_mk (st := sColOf) lCO dCO kCO
  have bCO := FCO.binds (ps := ["bag", "roots", "place"]) fun _ _ _ _ _ _ us hl => match us, hl with | [_, _, _], _ => rfl
  have FAM := fun_mk (st := sAmong) lAM dAM kAM
  have bAM := FAM.binds (ps := ["places", "value"]) fun _ _ _ _ _ _ us hl => match us, hl with | [_, _], _ => rfl
  have FS := fun_mk (st := sSource) lS dS kS
  have bS := FS.binds (ps := ["_law_script"]) fun _ _ _ _ _ _ us hl => match us, hl with | [_], _ => rfl
  have FP := fun_mk (st := sPick) lP dP kP
  have bP := FP.binds (ps := ["_law_source_here", "_law_many"]) fun _ _ _ _ _ _ us hl => match us, hl with | [_, _], _ => rfl
  have FO := fun_mk (st := sOf) lO dO kO
  have bO := FO.binds (ps := ["_law_source_here", "_law_some"]) fun _ _ _ _ _ _ us hl => match us, hl with | [_, _], _ => rfl
  have FM := fun_mk (st := sMixed) lM dM kM
  have bM := FM.binds (ps := ["_law_source_here", "_law_things"]) fun _ _ _ _ _ _ us hl => match us, hl with | [_, _], _ => rfl
  have FNM := fun_mk (st := sNames) lNM dNM kNM
  have bNM := FNM.binds (ps := ["_law_source_here", "_law_many"]) fun _ _ _ _ _ _ us hl => match us, hl with | [_, _], _ => rfl
  have FSH := fun_mk (st := sShapes) lSH dSH kSH
  have bSH := FSH.binds (ps := ["_law_source_here", "_law_most"]) fun _ _ _ _ _ _ us hl => match us, hl with | [_, _], _ => rfl
  have FDS := fun_mk (st := sDrawnS) lDS dDS kDS
  have bDS := FDS.binds (ps := ["_law_source_here"]) fun _ _ _ _ _ _ us hl => match us, hl with | [_], _ => rfl
  have FMI := fun_mk (st := sMissing) lMI dMI kMI
  have bMI := FMI.binds (ps := ["_law_call"]) fun _ _ _ _ _ _ us hl => match us, hl with | [_], _ => rfl
  have FDJ := fun_mk (st := sDrawnJ) lDJ dDJ kDJ
  have bDJ := FDJ.binds (ps := ["_law_source_here", "_law_shapes_here"]) fun _ _ _ _ _ _ us hl => match us, hl with | [_, _], _ => rfl
  have FDU := fun_mk (st := sDue) lDU dDU kDU
  have bDU := FDU.binds (ps := ["_law_shapes_here", "_law_joints", "_law_roots"]) fun _ _ _ _ _ _ us hl => match us, hl with | [_, _, _], _ => rfl
  have FOD := fun_mk (st := sOdd) lOD dOD kOD
  have bOD := FOD.binds (ps := ["_law_joints", "_law_due"]) fun _ _ _ _ _ _ us hl => match us, hl with | [_, _], _ => rfl
  refine ⟨PySem.W.fnOf "law" "law" (defArgs sLaw) (defBody sLaw) (defScope sLaw) .none kVW dcW pmW anW (.ref cW) ctW, cW, tW, tabW, noT, fun s v => .of_eq rfl, fun base _ _ TB => ?_⟩
  have iS := ok_source (P := l.prog) (w := w) (base := base) FS B
  have iP := ok_pick (P := l.prog) (w := w) (K := K) (base := base) FP B
  have iO := ok_of FO B iP bP (PySem.W.mg_of KX G aP) kP
  have iIW := ok_isWord (P := l.prog) (w := w) (base := base) FIW B T W0
  have iIN := ok_num (P := l.prog) (w := w) (base := base) FIN B W0 (PySem.W.mg_none_of KX G z_bool)
  have iWS := ok_wrongS FWS B W0 N W1 iIW bIW (PySem.W.mg_of KX G aIW) kIW
  have ibI := ok_bookI FbI clB noB0 W0 N W1 iWS bWS (PySem.W.mg_of KX G aWS) kWS
  have ibW := ok_bookW (P := l.prog) (w := w) (base := base) FbW clB noB0 N
  have ibH := ok_bookSh (P := l.prog) (w := w) (base := base) FbH clB noB0 W0
  have ibB := ok_bookB FbB clB mebH ibH bbH
  have iWJ := ok_wrongJ FWJ B W0 W1 gROOT iIW bIW (PySem.W.mg_of KX G aIW) kIW
  have igI := ok_bagI FgI clB clG noG0 noG1 W0 N W1 iWJ bWJ (PySem.W.mg_of KX G aWJ) kWJ mebW ibW bbW
  have igJ := ok_bagJ (CB := CB) (P := l.prog) (w := w) (base := base) FgJ clG noG1 N
  have igN := ok_bagN (CB := CB) (P := l.prog) (w := w) (base := base) FgN clG noG1 N
  have igW := ok_bagW (CB := CB) (P := l.prog) (w := w) (base := base) FgW clG noG1 W0
  have igB := ok_bagB FgB clB clG noG0 mebB ibB bbB megW igW bgW
  have iCA := ok_cols FCA clG W1 gROOT megN igN bgN megB igB bgB
  have iAM := ok_among FAM B W0 W1 iIN bIN (PySem.W.mg_of KX G aIN) kIN
  have iPL := ok_places FPL N iCA bCA (PySem.W.mg_of KX G aCA) kCA
  have iUI := ok_unk (P := l.prog) (w := w) (mg := mg) (base := base) FUI XI0 noU
  have iCO := ok_colOf FCO iCA bCA (PySem.W.mg_of KX G aCA) kCA iAM bAM (PySem.W.mg_of KX G aAM) kAM XI0 tyU XC0.hs iUI bUI (PySem.W.mg_of KX G aCU)
  have iNM := ok_names FNM B W0 N iP bP (PySem.W.mg_of KX G aP) kP
  have iM := ok_mixed FM B N iP bP (PySem.W.mg_of KX G aP) kP
  have iSH := ok_shapes FSH N W1 iP bP (PySem.W.mg_of KX G aP) kP iNM bNM (PySem.W.mg_of KX G aNM) kNM iO bO (PySem.W.mg_of KX G aO) kO iM bM (PySem.W.mg_of KX G aM) kM
  have iDS := ok_drawnS FDS N W1 iP bP (PySem.W.mg_of KX G aP) kP iSH bSH (PySem.W.mg_of KX G aSH) kSH iO bO (PySem.W.mg_of KX G aO) kO iM bM (PySem.W.mg_of KX G aM) kM
  have iDJ := ok_drawnJ FDJ B N iP bP (PySem.W.mg_of KX G aP) kP iNM bNM (PySem.W.mg_of KX G aNM) kNM iO bO (PySem.W.mg_of KX G aO) kO iM bM (PySem.W.mg_of KX G aM) kM
  have iDU := ok_due (P := l.prog) (w := w) (base := base) FDU B N
  have iOD := ok_odd (P := l.prog) (w := w) (base := base) FOD N W0
  exact ok_law (aM := .none) lW dW TB N B (PySem.W.mg_none_of KX G z_tuple) (PySem.W.mg_none_of KX G z_repr) clB clG ⟨_, _, iS, bS, PySem.W.mg_of KX G aS, kS⟩ ⟨_, _, iP, bP, PySem.W.mg_of KX G aP, kP⟩ ⟨_, _, iO, bO, PySem.W.mg_of KX G aO, kO⟩ ⟨_, _, iDS, bDS, PySem.W.mg_of KX G aDS, kDS⟩ ⟨_, _, iDJ, bDJ, PySem.W.mg_of KX G aDJ, kDJ⟩ ⟨_, _, iDU, bDU, PySem.W.mg_of KX G aDU, kDU⟩ ⟨_, _, iOD, bOD, PySem.W.mg_of KX G aOD, kOD⟩ ⟨_, _, iPL, bPL, PySem.W.mg_of KX G aPL, kPL⟩ ⟨_, _, iCO, bCO, PySem.W.mg_of KX G aCO, kCO⟩
    ⟨⟨_, _, ibI, bbI, MB⟩, PySem.W.mg_of KX G aCB⟩ ⟨⟨_, _, igI, bgI, MG⟩, PySem.W.mg_of KX G aCG⟩ ⟨_, _, igJ, bgJ, megJ⟩ lMI dMI (PySem.W.mg_of KX G aMI) kMI bMI (PySem.W.mg_of KX G aCU) XF0 noU teU
end Bc

open PySem PySem.W PyProof.Rows
set_option maxRecDepth 100000 in
set_option maxHeartbeats 0 in
theorem PySem.Challenge.cw_bushcoins_k05_places_and_colours_holds : PySem.Challenge.rw_bushcoins_k05_places_and_colours.Holds := by
  w_on; o_law; k_head; (case hw => w_witness2)
  k_fill
  refine Bc.walkT2 (l := PySem.Challenge.rw_bushcoins_k05_places_and_colours) (n := 63) (k := 8) (x := "_law_script") (x0 := "law") (sp := fun w T => Bc.spLaw _ T) rfl (by decide) rfl ⟨rfl, by decide, by decide⟩ (fun w h Y => PySem.W.km_in_of Y) (by rfl) ?F (fun _ _ _ a ns hl eT hS => ⟨a, ns, rfl, hS, hl, eT, fun _ => rfl⟩)
  case F =>
    intro w mg fa h KX G hmg
    refine' Bc.all_mk KX G hmg ?aCB ?pgCB ?hdCB ?poCB ?saCB ?naCB0 ?mkCB ?kpCB ?abI ?lbI ?dbI ?kbI ?vbI ?abW ?lbW ?dbW ?kbW ?vbW ?abH ?lbH ?dbH ?kbH ?vbH ?abB ?lbB ?dbB ?kbB ?vbB ?aCG ?pgCG ?hdCG ?poCG ?saCG ?naCG0 ?naCG1 ?mkCG ?kpCG ?agI ?lgI ?dgI ?kgI ?vgI ?agJ ?lgJ ?dgJ ?kgJ ?vgJ ?agN ?lgN ?dgN ?kgN ?vgN ?agW ?lgW ?dgW ?kgW ?vgW ?agB ?lgB ?dgB ?kgB ?vgB ?aCU ?aUI ?lUI ?dUI ?kUI ?xcU ?xiU ?noU ?tyU ?teU ?aIW ?lIW ?dIW ?kIW ?aIN ?lIN ?dIN ?kIN ?aWJ ?lWJ ?dWJ ?kWJ ?aWS ?lWS ?dWS ?kWS ?aPL ?lPL ?dPL ?kPL ?aCA ?lCA ?dCA ?kCA ?aCO ?lCO ?dCO ?kCO ?aAM ?lAM ?dAM ?kAM ?aS ?lS ?dS ?kS ?aP ?lP ?dP ?kP ?aO ?lO ?dO ?kO ?aM ?lM ?dM ?kM ?aNM ?lNM ?dNM ?kNM ?aSH ?lSH ?dSH ?kSH ?aDS ?lDS ?dDS ?kDS ?aMI ?lMI ?dMI ?kMI ?aDJ ?lDJ ?dDJ ?kDJ ?aDU ?lDU ?dDU ?kDU ?aOD ?lOD ?dOD ?kOD ?aW ?lW ?dW ?kW ?tabW ?noT ?z_int ?z_abs ?z_len ?z_max ?z_reversed ?z_range ?z_list ?z_tuple ?z_isinstance ?z_str ?z_all ?z_enumerate ?z_repr ?z_bool ?y_LETTERS ?y_DIGITS ?y_LONGEST ?y_ROOT
    (case aCB => k_is)
    (case pgCB => kernel_rfl)
    (case hdCB => kernel_rfl)
    (case poCB => kernel_rfl)
    (case saCB => k_is)
    (case naCB0 => k_is)
    (case mkCB => kernel_rfl)
    (case kpCB => k_is)
    (case abI => k_is)
    (case lbI => k_is)
    (case dbI => k_is)
    (case kbI => k_is)
    (case vbI => kernel_rfl)
    (case abW => k_is)
    (case lbW => k_is)
    (case dbW => k_is)
    (case kbW => k_is)
    (case vbW => kernel_rfl)
    (case abH => k_is)
    (case lbH => k_is)
    (case dbH => k_is)
    (case kbH => k_is)
    (case vbH => kernel_rfl)
    (case abB => k_is)
    (case lbB => k_is)
    (case dbB => k_is)
    (case kbB => k_is)
    (case vbB => kernel_rfl)
    (case aCG => k_is)
    (case pgCG => kernel_rfl)
    (case hdCG => kernel_rfl)
    (case poCG => kernel_rfl)
    (case saCG => k_is)
    (case naCG0 => k_is)
    (case naCG1 => k_is)
    (case mkCG => kernel_rfl)
    (case kpCG => k_is)
    (case agI => k_is)
    (case lgI => k_is)
    (case dgI => k_is)
    (case kgI => k_is)
    (case vgI => kernel_rfl)
    (case agJ => k_is)
    (case lgJ => k_is)
    (case dgJ => k_is)
    (case kgJ => k_is)
    (case vgJ => kernel_rfl)
    (case agN => k_is)
    (case lgN => k_is)
    (case dgN => k_is)
    (case kgN => k_is)
    (case vgN => kernel_rfl)
    (case agW => k_is)
    (case lgW => k_is)
    (case dgW => k_is)
    (case kgW => k_is)
    (case vgW => kernel_rfl)
    (case agB => k_is)
    (case lgB => k_is)
    (case dgB => k_is)
    (case kgB => k_is)
    (case vgB => kernel_rfl)
    (case aCU => k_is)
    (case aUI => k_is)
    (case lUI => k_is)
    (case dUI => k_is)
    (case kUI => k_is)
    (case xcU => kernel_rfl)
    (case xiU => kernel_rfl)
    (case noU => k_is)
    (case tyU => k_is)
    (case teU => kernel_rfl)
    (case aIW => k_is)
    (case lIW => k_is)
    (case dIW => k_is)
    (case kIW => k_is)
    (case aIN => k_is)
    (case lIN => k_is)
    (case dIN => k_is)
    (case kIN => k_is)
    (case aWJ => k_is)
    (case lWJ => k_is)
    (case dWJ => k_is)
    (case kWJ => k_is)
    (case aWS => k_is)
    (case lWS => k_is)
    (case dWS => k_is)
    (case kWS => k_is)
    (case aPL => k_is)
    (case lPL => k_is)
    (case dPL => k_is)
    (case kPL => k_is)
    (case aCA => k_is)
    (case lCA => k_is)
    (case dCA => k_is)
    (case kCA => k_is)
    (case aCO => k_is)
    (case lCO => k_is)
    (case dCO => k_is)
    (case kCO => k_is)
    (case aAM => k_is)
    (case lAM => k_is)
    (case dAM => k_is)
    (case kAM => k_is)
    (case aS => k_is)
    (case lS => k_is)
    (case dS => k_is)
    (case kS => k_is)
    (case aP => k_is)
    (case lP => k_is)
    (case dP => k_is)
    (case kP => k_is)
    (case aO => k_is)
    (case lO => k_is)
    (case dO => k_is)
    (case kO => k_is)
    (case aM => k_is)
    (case lM => k_is)
    (case dM => k_is)
    (case kM => k_is)
    (case aNM => k_is)
    (case lNM => k_is)
    (case dNM => k_is)
    (case kNM => k_is)
    (case aSH => k_is)
    (case lSH => k_is)
    (case dSH => k_is)
    (case kSH => k_is)
    (case aDS => k_is)
    (case lDS => k_is)
    (case dDS => k_is)
    (case kDS => k_is)
    (case aMI => k_is)
    (case lMI => k_is)
    (case dMI => k_is)
    (case kMI => k_is)
    (case aDJ => k_is)
    (case lDJ => k_is)
    (case dDJ => k_is)
    (case kDJ => k_is)
    (case aDU => k_is)
    (case lDU => k_is)
    (case dDU => k_is)
    (case kDU => k_is)
    (case aOD => k_is)
    (case lOD => k_is)
    (case dOD => k_is)
    (case kOD => k_is)
    (case aW => k_is)
    (case lW => k_is)
    (case dW => k_is)
    (case kW => k_is)
    (case tabW => first | k_is | rfl)
    (case noT => kernel_rfl)
    (case z_int => k_is)
    (case z_abs => k_is)
    (case z_len => k_is)
    (case z_max => k_is)
    (case z_reversed => k_is)
    (case z_range => k_is)
    (case z_list => k_is)
    (case z_tuple => k_is)
    (case z_isinstance => k_is)
    (case z_str => k_is)
    (case z_all => k_is)
    (case z_enumerate => k_is)
    (case z_repr => k_is)
    (case z_bool => k_is)
    (case y_LETTERS => k_is)
    (case y_DIGITS => k_is)
    (case y_LONGEST => k_is)
    (case y_ROOT => k_is)

