import PyProof.Rows.All
import Wide.All
import OpenK.AllK
import Wide.FinOn
import PyProof.EqAt
import PyProof.EqKinds
import PyProof.TupleCall
import KE.KIsAll
import KE.KExcInit
import PyProof.Rows.ReprR
import HandS.Base
import HandS.Call
import HandS.List
import HandS.Comp
import HandS.Dict
import HandS.Iter
import HandS.Text
import HandS.Ends
import HandS.Exc
import HandS.ExcOwn
import HandS.ExcInit
import HandS.ExcIs
import HandS.ExcValue
import HandS.IsInst
import HandS.Style
import HandS.Conv
import HandS.Words
import HandS.WordsList
import HandS.WordsDict
import HandS.ExcField
import HandS.TryOnly
import HandS.WordsExc
import HandS.Walk
import HandS.StrMore
import HandS.Deep
import HandS.RevRange
import HandS.Rev
import HandS.Star
import PyProof.ListRange
import PyProof.ListNew
import HandS.FStr
import HandS.RaiseMore
import HandS.HeadHook3
import PySem.Challenge.RW_bushcoins_k14_texts_of_scripts
set_option Elab.async false
set_option linter.all false
set_option maxRecDepth 100000
set_option maxHeartbeats 4000000
/-! Guarded defs (nothing is being shown by repr), exceptions as values, repr of data. -/
namespace Bc
open PySem PySem.Spec PyProof.Rows L2

/-! ### a def's promise where no repr is under way -/
structure FnG (P : Program) (w : World) (K : PySem.W.Frag) (mg : Str → Option Value) (base : Heap) (k : Nat) (f : Addr) (fd : FuncData) (ps : List Str) (sp : Sp) : Prop where
  len : ∀ vs H Q E, sp vs H Q E → vs.length = ps.length
  go : ∀ (A : Around) (outer : List Env) (s : Shared) (H : Hp) (args : Args) (us : List Value) (vs : List V) (Q : VK) (E : XK), Room k A → A.guards = some [] →
    Env0 P w K mg base A outer s H → BindsTo s fd args (ps.zip us) → Vals vs us → sp vs H Q E →
    codeAny (model P w) A (.call (.ref f) args) (CR CX0 outer P w H s Q E) s

section
variable {P : Program} {w : World} {K : PySem.W.Frag} {mg : Str → Option Value} {base : Heap}
theorem FnG.body {x qual : Str} {st : Stmt} {f : Addr} {fd : FuncData} {N ps : List Str} {k : Nat} {sp : Sp}
    (F : Fun K x qual st f fd) (S : FnScope N ps (defScope st)) (hlen : ∀ vs H Q E, sp vs H Q E → vs.length = ps.length)
    (hb : ∀ (cdv : Value) (A : Around) (outer : List Env) (s : Shared) (H : Hp) (vs : List V) (Q : VK) (E : XK),
      Room k (A.deeper (envOfC qual (defScope st) s.heap.objs.size f cdv)) → (A.deeper (envOfC qual (defScope st) s.heap.objs.size f cdv)).guards = some [] → sp vs H Q E →
      ∃ t, PSs (cxOf CX0 P w K mg base N qual (defScope st) f cdv A outer s H E).nox (defBody st) t ∧ t { nx := fun _ H' => Q .non H', rt := Q } (start N vs) H) :
    FnG P w K mg base (k + 1) f fd ps sp := by
  obtain ⟨oc, od, kV, doc, pm, an, cdv, ct, osl, rfl, lk, hcd⟩ := F.ex
  refine ⟨hlen, fun A outer s H args us vs Q E hr hg e0 hbd r hsp => ?_⟩
  -- the promise of this one call, told of all calls with these arguments
  let sp1 : Sp := fun vs' H' Q' E' => vs' = vs ∧ H' = H ∧ sp vs' H' Q' E' ∧ True
  have hl := hlen _ _ _ _ hsp
  have KX : K.In s.heap := e0.mod.kin.keeps fun b o e => (e0.bs b o e).1
  have lim : s.heap.NoLimit := e0.mod.nolimit.keeps fun b o e => (e0.bs b o e).1
  have hkind : ∀ y ∈ ps.zip us, (defScope st).names.lookup y.1 = some .local ∨
      ((defScope st).names.lookup y.1 = some .cell ∧ ((cellsFrom (s.heap.objs.size + 1) (defScope st).names []).lookup y.1).isSome = true) := by
    intro y hy
    rcases S.par y.1 (List.of_mem_zip (a := y.1) (b := y.2) hy).1 with q | q
    · exact Or.inl q
    · exact Or.inr ⟨q, PySem.W.cellsFrom_some _ _ _ (Or.inl q)⟩
  refine codeAny_call_function hr.depth (KX _ _ lk) rfl S.co S.gen rfl (PySem.W.codeRec_of KX hcd) (hbd _ _ _ _ ?_)
  refine wpAny_newFunctionEnv_cells S.kind hkind fun env he s1 x => ?_
  subst he
  refine ⟨lim.keeps x.toInCall.keep, codeAny_func ?_⟩
  obtain ⟨t, ht, hq⟩ := hb cdv A outer s H vs Q E (hr.deeper _) hg hsp
  have I : Inv (cxOf CX0 P w K mg base N qual (defScope st) f cdv A outer s H E) [] (start N vs) H s1 := inv_start S hr.hd e0 hl r x
  refine wpAny_mono (ht.nox.run [] s1 (start N vs) H _ I hq) (fun fl s' hs => ?_) fun e s' hs => hs
  cases fl with
  | ret u =>
    obtain ⟨v, σ', H', J, rv, q⟩ := hs
    exact ⟨v, H', J.os, J.bare, J.base, J.hok, rv, q⟩
  | next =>
    obtain ⟨σ', H', J, q⟩ := hs
    exact ⟨V.non, H', J.os, J.bare, J.base, J.hok, rfl, q⟩
  | brk =>
    obtain ⟨_, _, _, q⟩ := hs
    exact q.elim
  | cont =>
    obtain ⟨_, _, _, q⟩ := hs
    exact q.elim
end
section
variable {X : Cx} {k : Nat} {f : Addr} {fd : FuncData} {ps : List Str} {sp : Sp} {x : Str} {p pos : Pos} {e : Expr} {es : List Expr} {t : TA}
/-- f(e, ..), f a guarded def -/
theorem pe_callG (F : FnG X.prog X.w X.K X.mg X.base k f fd ps sp) (hr : Room k X.A) (hgu : X.A.guards = some []) (hg : Gl X x) (hm : X.mg x = some (.ref f)) (hk : PySem.W.keepIn X.K (.ref f) = true)
    (hb : Binds X.K fd ps []) (ha : PA X (e :: es) t) (hdb : (x == ("__debug__" : Str)) = false := by decide)
    (he : starEach (e :: es) X.env = (false, eval e X.env) :: starEach es X.env := by rfl) (hpl : (backTo pos (starEach es X.env)).any (·.1) = false := by rfl) :
    PE X (.Call (.Name x p) (e :: es) [] pos) (tCall sp [] E0 t) := by
  refine ⟨fun pins s σ H Q I h => ?_⟩
  refine wpAny_Call_Name_kw (ld_glob I hg hm ?_ hdb)
  refine PySem.W.callWith_K (h₀ := X.base) I.ok.mod.kin hk (thn (ha.run pos pins s σ H _ I h) fun us s1 ⟨vs, H1, I1, r, q⟩ => ⟨I1.kIn, ?_⟩) he hpl
  have q' : sp vs H1 Q E0 := by
    have z : sp (vs ++ []) H1 Q E0 := q
    rwa [List.append_nil] at z
  have hl : (us ++ []).length = ps.length := by
    rw [List.append_nil, ← r.length]
    exact F.len _ _ _ _ q'
  have hbd := hb s1 us I1.kIn hl
  rw [List.append_nil] at hbd
  refine wpAny_call (codeAny_mono (F.go X.A X.stack s1 H1 ⟨us, []⟩ us vs Q E0 hr hgu I1.env0 hbd r q') fun r s' hq => ?_)
  cases r with
  | error e => exact hq.elim
  | ok fl =>
    cases fl with
    | ret u => exact I1.after hq
    | next => exact hq.elim
    | brk => exact hq.elim
    | cont => exact hq.elim
end
end Bc

namespace Bc
open PySem PySem.Spec PyProof.Rows L2

/-! ### the end of a law by a guarded def -/
/-- what a law's call has to come to -/
abbrev LawEnd (s₁ : Shared) : Result → Shared → Prop := fun r s' => r = .ok (.ret (.bool true)) ∧ OldK s₁.heap s'.heap ∧ s'.os = s₁.os ∧ AllBare s'.gens

theorem lawG_core {P : Program} {w : World} {K : PySem.W.Frag} {mg mb : Str → Option Value} {k : Nat} {fa a : Addr} {fd : FuncData} {x : Str} {sp : Sp} {s₁ : Shared} {vs : List Value} {H : Hp}
    (kin : K.In s₁.heap) (hns : s₁.heap.Ns mainGlobals mg) (hb : s₁.heap.Ns builtinsNs mb) (hbb : ∀ x : Str, x ≠ "__name__" → mb x = bootBuiltins x) (hlim : s₁.heap.NoLimit) (hg : s₁.gens = #[])
    (ha : s₁.heap.get? a = some { cls := .type "list", data := .seq vs.toArray }) (hr : Room k callerA)
    (hF : ∀ base : Heap, K.In base → base.Ns mainGlobals mg → FnG P w K mg base k fa fd [x] sp) (hbd : ∀ (s : Shared) (u : Value), BindsTo s fd ⟨[u], []⟩ [(x, u)])
    (hsp : sp [.ref a] H (fun v _ => v = .bl true) E0) (hO : Only H) (hok : HOk P w H s₁.heap) (only : ∀ b, H b ≠ none → b = a) (hK : H a ≠ none → K.lookup a = none) :
    codeAny (model P w) callerA (.call (.ref fa) ⟨[.ref a], []⟩) (LawEnd s₁) s₁ := by
  have down : ∀ {b : Addr} {o : Obj}, s₁.heap.get? b = some o → H b = none → (hidT s₁.heap H).get? b = some o := fun h1 h2 => hidT_get h1 h2
  have nodict : ∀ {b : Addr} {o : Obj} {es : Array DictEntry} {ep : Nat}, s₁.heap.get? b = some o → o.data = .dict es ep → H b = none := by
    intro b o es ep h1 h2
    cases q : H b with
    | none => rfl
    | some u =>
      have z : b = a := only b (by rw [q]; exact Option.some_ne_none u)
      subst z
      rw [ha] at h1
      cases h1
      cases h2
  have nsd : ∀ {b : Addr} {m : Str → Option Value}, s₁.heap.Ns b m → (hidT s₁.heap H).Ns b m := by
    rintro b m ⟨o, es, ep, h1, h2, r⟩
    exact ⟨o, es, ep, down h1 (nodict h1 h2), h2, r⟩
  have kind : K.In (hidT s₁.heap H) := by
    intro b o e
    refine down (kin b o e) ?_
    cases q : H b with
    | none => rfl
    | some u =>
      have z : b = a := only b (by rw [q]; exact Option.some_ne_none u)
      subst z
      rw [hK (by rw [q]; exact Option.some_ne_none u)] at e
      cases e
  have md : Mod K mg (hidT s₁.heap H) := ⟨kind, nsd hns, ⟨mb, nsd hb, hbb⟩, by
    obtain ⟨mc, h1, h2⟩ := hlim
    exact ⟨mc, nsd h1, h2⟩⟩
  have env : Env0 P w K mg (hidT s₁.heap H) callerA [] s₁ H := ⟨rfl, md, fun b o e => of_hidT e, Nat.le_of_eq (hidT_size _ _), trivial, fun b z => absurd (show b ∈ ([] : List Addr) from z) (by simp), hok, .of_eq hg⟩
  refine codeAny_mono ((hF _ kind (nsd hns)).go callerA [] s₁ H ⟨[.ref a], []⟩ [.ref a] [.ref a] _ _ hr rfl env (hbd s₁ (.ref a)) (.cons rfl .nil) hsp) fun r s' h => ?_
  cases r with
  | error e => exact h.elim
  | ok fl =>
    cases fl with
    | next => exact h.elim
    | brk => exact h.elim
    | cont => exact h.elim
    | ret u =>
      obtain ⟨v, H', os, bare, un, hok', r', q⟩ := h
      have qv : v = .bl true := q
      subst qv
      obtain rfl : u = Value.bool true := r'
      refine ⟨rfl, OldK.of_keep fun b o e => ?_, os, bare⟩
      cases q : H b with
      | none => exact un.keep b o e q (fun z => absurd (show b ∈ ([] : List Addr) from z) (by simp)) (by simp)
      | some u =>
        rcases hO b with z | ⟨ob, xs, z⟩
        · rw [q] at z
          cases z
        · obtain ⟨e1, _⟩ := hok b _ z
          obtain ⟨e2, _⟩ := hok' b _ (un.frzs b ob _ z)
          rw [e] at e1
          cases e1
          exact e2

theorem lawG_call {P : Program} {w : World} {K : PySem.W.Frag} {mg mb : Str → Option Value} {k : Nat} {fa a : Addr} {fd : FuncData} {x : Str} {sp : Sp} {s₁ : Shared} {vs : List Value} {ns : List Int}
    (kin : K.In s₁.heap) (hns : s₁.heap.Ns mainGlobals mg) (hb : s₁.heap.Ns builtinsNs mb) (hbb : ∀ x : Str, x ≠ "__name__" → mb x = bootBuiltins x) (hlim : s₁.heap.NoLimit) (hg : s₁.gens = #[])
    (ha : s₁.heap.get? a = some { cls := .type "list", data := .seq vs.toArray }) (hi : IntsAre vs ns) (hl : ns.length ≤ sizeLine) (hr : Room k callerA)
    (hF : ∀ base : Heap, K.In base → base.Ns mainGlobals mg → FnG P w K mg base k fa fd [x] sp) (hbd : ∀ (s : Shared) (u : Value), BindsTo s fd ⟨[u], []⟩ [(x, u)])
    (hsp : ∀ H : Hp, Only H → SqL K H a (ns.map V.int) → sp [.ref a] H (fun v _ => v = .bl true) E0) :
    codeAny (model P w) callerA (.call (.ref fa) ⟨[.ref a], []⟩) (LawEnd s₁) s₁ := by
  have rv := vals_ints hi
  have lenV := hi.length
  cases hk : K.lookup a with
  | some o =>
    have e := kin a o hk
    rw [ha] at e
    cases e
    have hO : Only (fun _ => none) := fun _ => Or.inl rfl
    have hS : SqL K (fun _ => none) a (ns.map V.int) := Or.inr ⟨_, vs.toArray, _, hk, rfl, rfl, rfl, by rw [List.size_toArray, lenV]; exact hl, by simpa using rv⟩
    exact lawG_core kin hns hb hbb hlim hg ha hr hF hbd (hsp _ hO hS) hO (fun b u z => nomatch (show (none : Option HO) = some u from z)) (fun b z => absurd rfl z) fun z => absurd rfl z
  | none =>
    have hS : SqL K (fun b => if b = a then some (HO.frz { cls := .type "list", data := .seq vs.toArray } (.lst (ns.map V.int))) else none) a (ns.map V.int) :=
      Or.inl (Or.inr ⟨{ cls := .type "list", data := .seq vs.toArray }, if_pos rfl⟩)
    have hO : Only (fun b => if b = a then some (HO.frz { cls := .type "list", data := .seq vs.toArray } (.lst (ns.map V.int))) else none) := by
      intro b
      by_cases z : b = a
      · exact Or.inr ⟨_, _, if_pos z⟩
      · exact Or.inl (if_neg z)
    refine lawG_core kin hns hb hbb hlim hg ha hr hF hbd (hsp _ hO hS) hO (fun b u z => ?_) (fun b z => ?_) fun _ => hk
    · by_cases y : b = a
      · have z' := (if_pos y).symm.trans z
        cases z'
        subst y
        exact ⟨ha, by rw [List.length_map]; exact hl, vs, _, rv, ha⟩
      · have z' := (if_neg y).symm.trans z
        cases z'
    · by_cases y : b = a
      · exact y
      · exact absurd (if_neg y) z

theorem walkG {l : PySem.W.OpenLaw} {n k : Nat} {q : Program} {loose : List Str} {XP : (Str → Option Value) → Heap → Prop} {YP : World → Heap → Prop} {d : DefRec} {K : Params → PySem.W.Frag} {sp : World → Sp} {x : Str}
    (hn : l.most = some n) (hn2 : n ≤ sizeLine) (hdf : d.params.defaults = []) (hr : Room k callerA)
    (hY : ∀ (w : World) (h : Heap), YP w h → (K w.params).In h)
    (F : ∀ (w : World) (mg : Str → Option Value) (fa : Addr) (h : Heap), (K w.params).In h → h.Ns mainGlobals mg → mg d.name = some (.ref fa) →
      ∃ fd : FuncData, (∀ (s : Shared) (u : Value), BindsTo s fd ⟨[u], []⟩ [(x, u)]) ∧
        ∀ base : Heap, (K w.params).In base → base.Ns mainGlobals mg → FnG l.prog w (K w.params) mg base k fa fd [x] (sp w))
    (hsp : ∀ (w : World) (H : Hp) (a : Addr) (ns : List Int), ns.length ≤ n → Only H → SqL (K w.params) H a (ns.map V.int) → sp w [.ref a] H (fun v _ => v = .bl true) E0) :
    PySem.W.WalkO q loose XP YP l.row.toRowW d [] (fun f vs => PySem.call f vs) := by
  refine Att.attach_call hn hdf fun w s₀ s₁ mg mb fa o pm cd doc a vs ns G Y ho hd hcd hmg hobj hints hlen hg => ?_
  have KX := hY w _ Y
  obtain ⟨fd, hb, hF⟩ := F w mg fa _ KX G.T.g hmg
  exact lawG_call KX G.T.g G.T.b G.T.builtins G.T.nolimit hg hobj hints (Nat.le_trans hlen hn2) hr hF hb (fun H hO hS => hsp w H a ns hlen hO hS)

/-! ### own exceptions as values -/
/-- what the written part says of an exception's class -/
structure XC (K : PySem.W.Frag) (C : Addr) : Prop extends ExcC K C where
  kC : PySem.W.keepIn K (.ref C) = true
/-- one whose __init__ is a def at fI -/
structure XI (K : PySem.W.Frag) (C fI : Addr) : Prop extends XC K C where
  cls : ∃ nm q N bs bm sn sub ab col dd k0 k1 k2 k3 k5 B newId initId bmB, ExcBaseFacts B newId initId bmB ∧ StoreFacts B bmB "object.__setattr__" "object" ∧ PySem.W.excTail bmB bm = true ∧
    K.lookup C = some (excClassObj nm q C N bs bm true sn sub ab col dd k0 k1 k2 k3 k5 newId)
  sa : PySem.W.findIn K (.ref C) "__setattr__" = some (some (.builtin "object.__setattr__"))
  iC : PySem.W.findIn K (.ref C) "__init__" = some (some (.ref fI))
  tI : PySem.W.typeIn K (.ref fI) = some (.type "function")

/-- at a stands an exception of the class at C, raised by nobody -/
def XAt (H : Hp) (a C : Addr) : Prop := H a = some (ExO (.ref C) a) ∨ H a = some (exo a C none) ∨ ∃ dx fs, H a = some (exo a C (some dx)) ∧ H dx = some (exd dx fs)
/-- .. with these attributes -/
def XFs (H : Hp) (a C : Addr) (fs : List (Str × V)) : Prop := ∃ dx, H a = some (exo a C (some dx)) ∧ H dx = some (exd dx fs)
theorem XFs.at {H : Hp} {a C : Addr} {fs : List (Str × V)} (x : XFs H a C fs) : XAt H a C := by
  obtain ⟨dx, h1, h2⟩ := x
  exact Or.inr (Or.inr ⟨dx, fs, h1, h2⟩)
theorem XAt.same {H H' : Hp} {a C : Addr} (x : XAt H a C) (s : Same H H') : XAt H' a C := by
  rcases x with x | x | ⟨dx, fs, x, y⟩
  · exact Or.inl (s _ _ x)
  · exact Or.inr (Or.inl (s _ _ x))
  · exact Or.inr (Or.inr ⟨dx, fs, s _ _ x, s _ _ y⟩)
theorem XFs.same {H H' : Hp} {a C : Addr} {fs : List (Str × V)} (x : XFs H a C fs) (s : Same H H') : XFs H' a C fs := by
  obtain ⟨dx, h1, h2⟩ := x
  exact ⟨dx, s _ _ h1, s _ _ h2⟩

section
variable {X : Cx} {pins : List (Addr × Obj)} {σ : L2.St} {H : Hp} {s : Shared} {a C : Addr}
theorem XAt.inst (x : XAt H a C) (I : Inv X pins σ H s) : ∃ oe od, PySem.W.InstAt s.heap a oe C od := by
  rcases x with x | x | ⟨dx, fs, x, y⟩
  · obtain ⟨⟨oe, vs, ho, hz, hd, _⟩, _⟩ := I.hok a _ x
    obtain ⟨oc, od, oda, osl⟩ := oe
    obtain ⟨z1, z2⟩ := hz
    dsimp only at z1 z2 hd
    subst z1 z2 hd
    exact ⟨_, none, ho, rfl, rfl, trivial⟩
  · obtain ⟨t1, ho⟩ := exo_at I.hok x
    exact ⟨_, none, ho, rfl, rfl, trivial⟩
  · obtain ⟨t1, ho⟩ := exo_at I.hok x
    obtain ⟨mA, hns, _⟩ := exd_at I.hok y
    obtain ⟨o, es, ep, e1, _⟩ := hns
    exact ⟨_, some o, ho, rfl, rfl, e1⟩
end

/-! ### isinstance of such -/
section
open PySem.W PySem.Calls
variable {prog : Program} {w : World} {A : Around} {E : Value → Shared → Prop} {s : Shared} {K : Frag} {x D : Addr} {ox : Obj} {od : Option Obj}
theorem found_data {C : Addr} {name : Str} {a g : Value} (hc : (clsIn K C).isSome = true) (ha : findIn K (.ref C) name = some (some a)) (hg : specialIn K a "__get__" = some (some g)) (ht : takesIn K a = some true) : findObj K C od name = some (.bind g a) := by
  cases h : clsIn K C with
  | none =>
    rw [h] at hc
    cases hc
  | some cd =>
    unfold findObj
    simp [h, ha, hg, ht]
theorem class_of_exc {Q : Option Value → Shared → Prop} (T : ExcC K D) (X : K.In s.heap) (I : InstAt s.heap x ox D od) (h : Q (some (.ref D)) { s with toks := s.toks + 1 }) :
    wpAny (model prog w) A (getAttr? (.ref x) "__class__") Q E s := by
  have hsome : (clsIn K D).isSome = true := by
    obtain ⟨cd, hc, _⟩ := any_some T.hd
    rw [hc]
    rfl
  have hf : findObj K D od "__class__" = some (.bind (.builtin "getset_descriptor.__get__") (.builtin "object.__class__")) := found_data hsome T.ha T.hn T.ht
  obtain ⟨hp, g, d, t, os⟩ := s
  have L0 := I.type (M := model prog w)
  have L1 := looks_findIn (M := model prog w) X T.hg
  have L2 := looks_findIn (M := model prog w) X T.hk
  have L3 := looks_find (M := model prog w) X I hf
  have isB : Looks (model prog w) hp (isInstance (.ref x) (.type "BaseException")) true := L0.andThen (looks_subIn X T.hs)
  have n0 : (false && onTheHeap (Value.builtin "BaseException.__getattribute__")) = false := rfl
  have n2 : (Value.builtin "BaseException.__getattribute__" == Value.builtin "object.__getattribute__") = false := by decide +kernel
  have n1 : (onTheHeap (Value.ref D) && Value.builtin "BaseException.__getattribute__" == Value.builtin "object.__getattribute__") = false := by
    rw [n2]
    rfl
  unfold getAttr? getAttrBy? getAttrBy
  refine wpAny_bind (wpAny_mkText (wpAny_bind (wpAny_attempt (wpAny_holding (wpAny_bind (L0.at (wpAny_bind (L1.at ?_))))))))
  show wpAny _ _ (if (onTheHeap (Value.ref D) && Value.builtin "BaseException.__getattribute__" == Value.builtin "object.__getattribute__") = true then _ else _) _ _ _
  rw [n1, if_neg Bool.false_ne_true]
  unfold getAttrByItsOwn hookBefore
  refine wpAny_bind ?_
  rw [if_pos (show onTheHeap (Value.ref D) = true from rfl)]
  refine L2.at (wpAny_bind (wpAny_attempt (wpAny_holding ?_)))
  unfold callGetattribute
  rw [n0, if_neg Bool.false_ne_true]
  unfold boundAndCalled
  rw [PySem.F.excAttr_ValueError.ga.bind (.ref x)]
  refine wpAny_bind (wpAny_pure ?_)
  show wpAny _ _ (call (.builtin "BaseException.__getattribute__") [.ref x, .str "__class__" t]) _ _ _
  refine wpAny_call (codeAny_call_builtin PySem.F.excAttr_ValueError.ga.plain PySem.F.entry_bexc_ga ?_)
  refine @check_slot (model prog w) _ _ ⟨hp, g, d, t + 1, os⟩ "BaseException.__getattribute__" "BaseException" "__getattribute__" (.ref x) [.str "__class__" t] [] _ (by decide +kernel) (by decide +kernel) isB (PySem.F.args_bexc_ga (.ref x) (.str "__class__" t)) ?_
  unfold Builtin.«object.__getattribute__»
  refine wpAny_bind (wpAny_of_eq (a := ((Value.ref x : Value), [Value.str "__class__" t])) (by first | rfl | (simp only [slotArgs]; rfl)) (wpAny_bind (wpAny_pure (wpAny_bind (L0.at (wpAny_bind (L3.at ?_)))))))
  show wpAny _ _ (holding [Value.builtin "object.__class__"] (call (.builtin "getset_descriptor.__get__") [.builtin "object.__class__", .ref x, .ref D]) >>= ret) _ _ _
  refine wpAny_bind (wpAny_holding (wpAny_call (class_get (s := ⟨hp, g, d, t + 1, os⟩) (ox := ox) (od := od) X I T.hm (wpAny_pure ?_))))
  show wpAny _ _ (handedOut (.ref D)) _ _ _
  rw [handedOut_of (v := .ref D) rfl]
  first
    | exact wpAny_pure (wpAny_pure h)
    | exact wpAny_pure h
    | exact wpAny_pure (wpAny_bind (wpAny_pure (wpAny_pure h)))
theorem kitx_exc (T : ExcC K D) : KitX K (.ref x) (.ref D) (fun h => InstAt h x ox D od) := by
  have look : ∃ c' d' cd' sl', K.lookup D = some ⟨c', d', .cls cd', sl'⟩ := by
    obtain ⟨cd, hc, _⟩ := any_some T.hd
    unfold clsIn at hc
    split at hc
    · rename_i c' d' cd' sl' ho
      exact ⟨c', d', cd', sl', ho⟩
    · cases hc
  obtain ⟨c', d', cd', sl', ho⟩ := look
  refine ⟨fun _ _ _ I => I.type, fun M h KX _ => ?_, fun h tp dd its n sl KX htp => ?_, fun KX I k => class_of_exc T KX I k⟩
  · intro A' Q' E' s' k q
    unfold isType loadHead
    exact wpAny_bind (wpAny_loadPart (k _ _ (KX _ _ ho)) (wpAny_pure q))
  · refine Bool.eq_false_iff.mpr fun q => ?_
    have e : D = tp := Value.ref.inj (beq_iff_eq.mp q)
    subst e
    have z := (KX _ _ ho).symm.trans htp
    cases z
end
/-- isinstance(e, c), e an exception's object -/
def rIsX (K : PySem.W.Frag) : List V → Hp → VK → Prop := fun xs H Q => ∃ (a C : Addr) (c : V) (cv : Value) (b : Bool), xs = [.ref a, c] ∧ XAt H a C ∧ ExcC K C ∧ ClsV c cv ∧ PySem.W.kitOne K (.ref C) cv = some b ∧ Q (.bl b) H
def rIsXT (K : PySem.W.Frag) : List V → Hp → VK → Prop := fun xs H Q => ∃ (a C tp : Addr) (cs : List V) (us : List Value) (b : Bool), xs = [.ref a, .ref tp] ∧ H tp = some (.tup cs) ∧ Paired ClsV cs us ∧ XAt H a C ∧ ExcC K C ∧ PySem.W.kitAny K (.ref C) us = some b ∧ Q (.bl b) H
section
variable {X : Cx}
theorem call_isX : CallR X (.builtin "isinstance") (rIsX X.K) := by
  intro pins s σ H xs us Q I r h
  obtain ⟨a, C, c, cv, b, rfl, hx, T, hc, e, q⟩ := h
  obtain ⟨u1, u2, rfl, r1, r2⟩ := vals2 r
  cases (show u1 = Value.ref a from r1)
  have e2 := hc.eq r2
  subst e2
  obtain ⟨oe, od, J⟩ := hx.inst I
  exact PySem.W.kia_one (kitx_exc T) I.kIn J e (fun z => nomatch z) fun tk => ⟨.bl b, H, I.tok tk, rfl, q⟩
theorem call_isXT : CallR X (.builtin "isinstance") (rIsXT X.K) := by
  intro pins s σ H xs us Q I r h
  obtain ⟨a, C, tp, cs, ws, b, rfl, hT, hc, hx, T, e, q⟩ := h
  obtain ⟨u1, u2, rfl, r1, r2⟩ := vals2 r
  cases (show u1 = Value.ref a from r1)
  cases (show u2 = Value.ref tp from r2)
  obtain ⟨oe, od, J⟩ := hx.inst I
  obtain ⟨_, its, rv, o, h1, h2, n, h3⟩ := (show ObjOk X.prog X.w H s.heap tp (.tup cs) from I.hok tp _ hT)
  have e3 := ClsV.all hc rv
  subst e3
  obtain ⟨oc, od', dt, sl⟩ := o
  simp only at h2 h3
  subst h2 h3
  exact PySem.W.kia_tup (kitx_exc T) I.kIn J h1 e (fun z => nomatch z) fun tk => ⟨.bl b, H, I.tok tk, rfl, q⟩
end

/-! ### an attribute of such -/
def tXF (K : PySem.W.Frag) (f : Str) (te : TE) : TE := fun σ H Q => te σ H fun x H1 => ∃ (a C : Addr) (fs : List (Str × V)) (v : V), x = .ref a ∧ XFs H1 a C fs ∧ ExcC K C ∧ PySem.W.findIn K (.ref C) f = some none ∧ fs.lookup f = some v ∧ Q v H1
theorem pe_xF {X : Cx} {e : Expr} {te : TE} {f : Str} {pos : Pos} (he : PE X e te) (hb : attributeBase e f X.env (eval e X.env) = eval e X.env := by rfl) : PE X (.Attribute e f pos) (tXF X.K f te) := by
  refine ⟨fun pins s σ H Q I h => ?_⟩
  refine attr_of hb (thn (he.run pins s σ H _ I h) fun u s1 hh => ?_)
  obtain ⟨x, H1, I1, rx, a, C, fs, v, ex, ⟨dx, ea, ed⟩, T, hno, hl, q⟩ := hh
  subst ex
  obtain rfl : u = Value.ref a := rx
  obtain ⟨t1, ho⟩ := exo_at I1.hok ea
  obtain ⟨mA, hns, hr⟩ := exd_at I1.hok ed
  have hns1 := hns
  obtain ⟨od, hod, hlk⟩ := lookIn_ns hns
  obtain ⟨u, hu, ru⟩ := RelO.some_of (v := v) (o := mA f) (by rw [← hl]; exact hr f)
  have J : PySem.W.InstAt s1.heap a _ C (some od) := ⟨ho, rfl, rfl, hod⟩
  exact HandSPX.exc_get I1.kIn J T.hg T.hk T.hs (PySem.W.findObj_own T.hd hno rfl (by rw [hlk, hu])) (handed_of ru) ⟨v, H1, I1.tok _, ru, q⟩

/-! ### own exceptions made as values -/
/-- C(), no __init__ of its own -/
theorem pe_x0 {X : Cx} {C : Addr} {bmB : List Value} {B newId initId : String} {x : Str} {p pos : Pos} (F : ExcBaseFacts B newId initId bmB) (q : PySem.W.excIn X.K C bmB newId = true) (gC : X.mg x = some (.ref C)) (kC : PySem.W.keepIn X.K (.ref C) = true) (hg : Gl X x)
    (hdb : (x == ("__debug__" : Str)) = false := by decide) :
    PE X (.Call (.Name x p) [] [] pos) (fun σ H Q => ∀ a, H a = none → Q (.ref a) (upd H a (ExO (.ref C) a))) := by
  refine ⟨fun pins s σ H Q I h => ?_⟩
  refine wpAny_Call_Name_kw (ld_glob I hg gC ?_ hdb)
  refine PySem.W.callWith_K0 I.kIn kC ?_
  show wpAny _ _ (call (.ref C) []) _ _ _
  obtain ⟨bm, N, nm, qn, bs, hdct, sn, sub, ab, col, dd, k0, k1, k2, k3, k5, mN, hC, hN, hni, T⟩ := exc_obj I.kIn q
  refine wpAny_call_exc_subT F T hC hN hni (fun h' a hm => ?_) (Nat.zero_le _)
  have hn : H a = none := I.hok.gone hm.new
  obtain ⟨t, ht, _, _⟩ := hm.there
  exact ⟨.ref a, upd H a (ExO (.ref C) a), I.laidN hm.keeps hm.new hn (exO_ok ht ⟨rfl, rfl⟩ rfl rfl rfl (show 4 < 6 by decide)), rfl, h a hn⟩

/-- C(e, ..), C's own __init__ keeping sp -/
def tMkX (C : Addr) (sp : Sp) (ta : TA) : TE := fun σ H Q => ta σ H fun vs H1 => vs.length ≤ 1000 ∧ ∀ a, H1 a = none → sp (.ref a :: vs) (upd H1 a (exo a C none)) (fun v H2 => v = .non ∧ Q (.ref a) H2) E0
theorem pe_mkX {X : Cx} {x : Str} {C fI : Addr} {k : Nat} {fd : FuncData} {ps : List Str} {sp : Sp} {e : Expr} {es : List Expr} {ta : TA} {p pos : Pos} (T : XI X.K C fI)
    (F1 : FnOk X.prog X.w X.K X.mg X.base CX0 k fI fd ps sp) (hr : Room (k + 1) X.A) (hb : Binds X.K fd ps []) (hg : Gl X x) (hm : X.mg x = some (.ref C)) (ha : PA X (e :: es) ta)
    (hdb : (x == ("__debug__" : Str)) = false := by decide) (he : starEach (e :: es) X.env = (false, eval e X.env) :: starEach es X.env := by rfl) (hpl : (backTo pos (starEach es X.env)).any (·.1) = false := by rfl) :
    PE X (.Call (.Name x p) (e :: es) [] pos) (tMkX C sp ta) := by
  refine ⟨fun pins s σ H Q I h => ?_⟩
  obtain ⟨nm, q, N, bs, bm, sn, sub, ab, col, dd, k0, k1, k2, k3, k5, B, newId, initId, bmB, FB, SF, hbm, hC⟩ := T.cls
  refine wpAny_Call_Name_kw (ld_glob I hg hm ?_ hdb)
  refine PySem.W.callWith_K (h₀ := X.base) I.ok.mod.kin T.kC (thn (ha.run pos pins s σ H _ I h) fun us s1 ⟨vs, H1, I1, r1, hz, q1⟩ => ⟨I1.kIn, ?_⟩) he hpl
  show wpAny _ _ (call (.ref C) us) _ _ _
  obtain ⟨hp, g, dr, tk, os⟩ := s1
  have up1 : hp.objs.size ≤ hp.objs.size + 1 := Nat.le_succ _
  have hq := q1 (hp.objs.size + 1) (I1.hok.fresh up1)
  have kk : ∀ b o, hp.get? b = some o → ((hp.push (PySem.W.kdv_tup us)).push (PySem.HandSPX.excO C hp.objs.size)).get? b = some o := fun b o e => Heap.get?_push_of_some _ (Heap.get?_push_of_some _ e)
  have made : ((hp.push (PySem.W.kdv_tup us)).push (PySem.HandSPX.excO C hp.objs.size)).get? (hp.objs.size + 1) = some (PySem.HandSPX.excO C hp.objs.size) := by heap_get
  have I2 : Inv X pins σ (upd H1 (hp.objs.size + 1) (exo (hp.objs.size + 1) C none)) ⟨(hp.push (PySem.W.kdv_tup us)).push (PySem.HandSPX.excO C hp.objs.size), g, dr, tk, os⟩ :=
    I1.laid (t' := tk) (a := hp.objs.size + 1) (o := exo (hp.objs.size + 1) C none) (h' := (hp.push (PySem.W.kdv_tup us)).push (PySem.HandSPX.excO C hp.objs.size)) kk up1 (exo_ok made)
  have r2 : Vals (V.ref (hp.objs.size + 1) :: vs) (Value.ref (hp.objs.size + 1) :: us) := .cons rfl r1
  have hl : (Value.ref (hp.objs.size + 1) :: us ++ []).length = ps.length := by
    rw [List.append_nil, ← r2.length]
    exact F1.len _ _ _ _ hq
  have hus : us.length ≤ sizeLine := by
    rw [← Paired.length r1, sizeLine_eq]
    omega
  have hbd := hb ⟨(hp.push (PySem.W.kdv_tup us)).push (PySem.HandSPX.excO C hp.objs.size), g, dr, tk, os⟩ (Value.ref (hp.objs.size + 1) :: us) I2.kIn hl
  rw [List.append_nil] at hbd
  refine wpAny_call (PySem.HandSPX.call_own FB (fun Y => PySem.W.excTail_contains Y bm hbm) (I1.kIn _ _ hC) (PySem.W.looks_findIn I1.kIn T.iC) (fun self => PySem.W.bind_fn I1.kIn self T.tI) hus
    (codeAny_mono (F1.run _ X.stack _ _ ⟨Value.ref (hp.objs.size + 1) :: us, []⟩ (Value.ref (hp.objs.size + 1) :: us) _ _ E0 (hr.make C us []) (I2.env0.make C us []) hbd r2 hq) fun r s' hq' => ?_))
  cases r with
  | error er => exact hq'.elim
  | ok fl =>
    cases fl with
    | ret u =>
      obtain ⟨v, H2, os2, bare2, un2, hok2, rv, ev, q2⟩ := hq'
      subst ev
      exact ⟨rv, .ref (hp.objs.size + 1), H2, I2.call' (ch := []) os2 un2 hok2 bare2 (fun b z => absurd z (by simp)), rfl, q2⟩
    | next => exact hq'.elim
    | brk => exact hq'.elim
    | cont => exact hq'.elim
end Bc

namespace Bc
open PySem PySem.Spec PyProof.Rows L2

/-! ### data of any depth, dicts among them -/
def keyD : Key → PyData
  | .inl i => .int i
  | .inr x => .str x
mutual
inductive Dq (K : PySem.W.Frag) (H : Hp) : V → PyData → Prop
  | non : Dq K H .non .none
  | bl (b : Bool) : Dq K H (.bl b) (.bool b)
  | int (i : Int) : Dq K H (.int i) (.int i)
  | str (x : Str) : Dq K H (.str x) (.str x)
  | lst {a : Addr} {xs : List V} {ds : List PyData} : SqL K H a xs → DqAll K H xs ds → a ≠ sysModules → Dq K H (.ref a) (.list ds)
  | tup {a : Addr} {xs : List V} {ds : List PyData} : SqT K H a xs → DqAll K H xs ds → Dq K H (.ref a) (.tuple ds)
  | dic {a : Addr} {kvs : List (Key × V)} {ds : List PyData} : H a = some (.dK kvs) → DqAll K H (kvs.map (·.2)) ds → Dq K H (.ref a) (.dict ((kvs.map fun p => keyD p.1).zip ds))
inductive DqAll (K : PySem.W.Frag) (H : Hp) : List V → List PyData → Prop
  | nil : DqAll K H [] []
  | cons {v : V} {vs : List V} {d : PyData} {ds : List PyData} : Dq K H v d → DqAll K H vs ds → DqAll K H (v :: vs) (d :: ds)
end
theorem DqAll.len {K : PySem.W.Frag} {H : Hp} : ∀ {vs : List V} {ds : List PyData}, DqAll K H vs ds → vs.length = ds.length
  | _, _, .nil => rfl
  | _, _, .cons _ t => congrArg (· + 1) (DqAll.len t)
theorem Same.sqT {K : PySem.W.Frag} {H H' : Hp} {a : Addr} {xs : List V} (e : Same H H') (h : SqT K H a xs) : SqT K H' a xs := by
  rcases h with (h | ⟨o, h⟩) | h
  · exact .inl (.inl (e _ _ h))
  · exact .inl (.inr ⟨o, e _ _ h⟩)
  · exact .inr h
mutual
theorem Dq.same {K : PySem.W.Frag} {H H' : Hp} (s : Same H H') : ∀ {v : V} {d : PyData}, Dq K H v d → Dq K H' v d
  | _, _, .non => .non
  | _, _, .bl b => .bl b
  | _, _, .int i => .int i
  | _, _, .str x => .str x
  | _, _, .lst h t n => .lst (s.seq h) (DqAll.same s t) n
  | _, _, .tup h t => .tup (Same.sqT s h) (DqAll.same s t)
  | _, _, .dic h t => .dic (s _ _ h) (DqAll.same s t)
theorem DqAll.same {K : PySem.W.Frag} {H H' : Hp} (s : Same H H') : ∀ {vs : List V} {ds : List PyData}, DqAll K H vs ds → DqAll K H' vs ds
  | _, _, .nil => .nil
  | _, _, .cons h t => .cons (Dq.same s h) (DqAll.same s t)
end
theorem reads_keys {prog : Program} {w : World} {h : Heap} : ∀ {es : List DictEntry} {kvs : List (Key × Value)}, Pairs (mixKind prog w) es kvs → ReadsAll h (es.map (·.key)) (kvs.map fun p => keyD p.1) [] ∧ es.map (·.val) = kvs.map (·.2)
  | _, _, .nil => ⟨.nil, rfl⟩
  | _, _, .cons (e := e) (kv := kv) hk hv t => by
    obtain ⟨h1, h2⟩ := reads_keys t
    refine ⟨?_, by rw [List.map_cons, List.map_cons, h2, hv]⟩
    obtain ⟨k, v⟩ := kv
    rcases keyIs_shape (show keyIs k e.key = true from hk) with ⟨i, u, rfl, q⟩ | ⟨y, u, rfl, q⟩
    · show ReadsAll h (e.key :: _) (PyData.int i :: _) ([] ++ [])
      rw [q]
      exact .cons (.int i u) h1
    · show ReadsAll h (e.key :: _) (PyData.str y :: _) ([] ++ [])
      rw [q]
      exact .cons (.str y u) h1
theorem kv_keys {kvs : List (Key × V)} {vs : List (Key × Value)} (r : KV kvs vs) : (vs.map fun p => keyD p.1) = kvs.map fun p => keyD p.1 := by
  induction r with
  | nil => rfl
  | cons h t ih =>
    rw [List.map_cons, List.map_cons, ih, h.1]
theorem kv_vals {kvs : List (Key × V)} {vs : List (Key × Value)} (r : KV kvs vs) : Vals (kvs.map (·.2)) (vs.map (·.2)) := by
  induction r with
  | nil => exact .nil
  | cons h t ih => exact .cons h.2 ih
theorem zip_fst {α β : Type} : ∀ {l : List α} {m : List β}, l.length = m.length → (l.zip m).map (·.1) = l
  | [], _, _ => rfl
  | a :: l, b :: m, h => by
    rw [List.zip_cons_cons, List.map_cons, zip_fst (Nat.succ.inj h)]
theorem zip_snd {α β : Type} : ∀ {l : List α} {m : List β}, l.length = m.length → (l.zip m).map (·.2) = m
  | [], [], _ => rfl
  | a :: l, b :: m, h => by
    rw [List.zip_cons_cons, List.map_cons, zip_snd (Nat.succ.inj h)]
section
variable {X : Cx} {pins : List (Addr × Obj)} {σ : L2.St} {H : Hp} {s : Shared}
mutual
theorem Dq.reads (I : Inv X pins σ H s) : ∀ {v : V} {d : PyData} (u : Value), Dq X.K H v d → RelV v u → ∃ as, Reads s.heap u d as ∧ sysModules ∉ as
  | _, _, _, .non, r => by
    cases r
    exact ⟨_, .none, by simp⟩
  | _, _, _, .bl b, r => by
    cases r
    exact ⟨_, .bool b, by simp⟩
  | _, _, _, .int i, r => by
    obtain ⟨t, rfl⟩ := r
    exact ⟨_, .int i t, by simp⟩
  | _, _, _, .str x, r => by
    obtain ⟨t, rfl⟩ := r
    exact ⟨_, .str x t, by simp⟩
  | _, _, _, .lst (a := a) hs ha hn, r => by
    cases r
    obtain ⟨its, rv, ⟨o, n, ho, hc, _, hd⟩, _⟩ := I.list hs
    obtain ⟨as, hr, hm⟩ := DqAll.reads I its ha rv
    refine ⟨_, .list ho hc hd hr, fun y => ?_⟩
    rcases List.mem_cons.mp y with q | q
    · exact hn q.symm
    · exact hm q
  | _, _, _, .tup hs ha, r => by
    cases r
    obtain ⟨its, rv, ⟨o, ho, hc, n, hd⟩, _⟩ := I.tuple hs
    obtain ⟨as, hr, hm⟩ := DqAll.reads I its ha rv
    exact ⟨_, .tuple ho hc hd hr, hm⟩
  | _, _, _, .dic (a := a) (kvs := kvs) (ds := ds) hs ha, r => by
    cases r
    obtain ⟨_, nsys, vs, rel, o, es, ep, ho, hx, hd, _, hp, _⟩ := dk_of I.hok hs
    obtain ⟨h1, h2⟩ := reads_keys (h := s.heap) hp
    obtain ⟨bs, hr, hm⟩ := DqAll.reads I _ ha (kv_vals rel)
    have hlen : (kvs.map fun p => keyD p.1).length = ds.length := by
      rw [List.length_map, ← ha.len, List.length_map]
    refine ⟨_, .dict ho hx.1 hd (as := []) (bs := bs) ?_ ?_, fun y => ?_⟩
    · rw [zip_fst hlen, ← kv_keys rel]
      exact h1
    · rw [zip_snd hlen, h2]
      exact hr
    · rcases List.mem_append.mp y with q | q
      · rcases List.mem_cons.mp q with q | q
        · rw [q] at nsys
          simp at nsys
        · cases q
      · exact hm q
theorem DqAll.reads (I : Inv X pins σ H s) : ∀ {vs : List V} {ds : List PyData} (us : List Value), DqAll X.K H vs ds → Vals vs us → ∃ as, ReadsAll s.heap us ds as ∧ sysModules ∉ as
  | _, _, _, .nil, r => by
    cases r
    exact ⟨_, .nil, by simp⟩
  | _, _, _, .cons h t, r => by
    cases r with
    | cons r1 r2 =>
      obtain ⟨as, q1, m1⟩ := Dq.reads I _ h r1
      obtain ⟨bs, q2, m2⟩ := DqAll.reads I _ t r2
      refine ⟨_, .cons q1 q2, fun y => ?_⟩
      rcases List.mem_append.mp y with q | q
      · exact m1 q
      · exact m2 q
end
/-- repr(x), x a list, a tuple or a dict of data -/
def rRepr (K : PySem.W.Frag) : List V → Hp → VK → Prop := fun xs H Q => ∃ (a : Addr) (d : PyData), xs = [.ref a] ∧ Dq K H (.ref a) d ∧ d.showable = true ∧ d.depth ≤ 60 ∧ d.shown.length ≤ sizeLine ∧ Q (.str d.shown) H
theorem call_repr (hg : X.A.guards = some []) (hu : X.A.units + 64 < cLine) : CallR X (.builtin "repr") (rRepr X.K) := by
  intro pins s σ H xs us Q I r h
  obtain ⟨a, d, rfl, hd, hs, hdep, hz, q⟩ := h
  obtain ⟨u, rfl, ru⟩ := vals1 r
  obtain ⟨as, hr, hm⟩ := Dq.reads I u hd ru
  cases (show u = Value.ref a from ru)
  exact repr_of_reads' hr hs (fun _ => hm) hg (by omega) (fun _ _ e => e) (fun h' u tk hk => ⟨.str d.shown, H, I.kept (t' := tk) hk, ⟨_, rfl⟩, q⟩) hz
end

/-! ### displays, told apart from the import table -/
def tLstB (t : TA) : TE := fun σ H Q => t σ H fun xs H1 => xs.length ≤ sizeLine ∧ ∀ p, H1 p = none → p ≠ sysModules → Q (.ref p) (upd H1 p (.lst xs))
section
variable {X : Cx} {es : List Expr} {t : TA} {pos : Pos}
theorem pe_lstB (h : PA X es t) : PE X (.List es pos) (tLstB t) := by
  refine ⟨fun pins s σ H Q I hq => ?_⟩
  refine wpAny_List_spliced (thn (h.run pos pins s σ H _ I hq) fun us s1 ⟨xs, H1, I1, r, z, q⟩ => ⟨by rw [← r.length]; exact z, ?_⟩)
  have hf : H1 s1.heap.objs.size = none := I1.hok.fresh (Nat.le_refl _)
  have hn : s1.heap.objs.size ≠ sysModules := Nat.ne_of_gt I1.big
  exact ⟨.ref s1.heap.objs.size, upd H1 s1.heap.objs.size (.lst xs), I1.laid (t' := s1.toks) (fun b u e => Heap.get?_push_of_some _ e) (Nat.le_refl _) ⟨z, us, 0, r, Heap.get?_push_size _ rfl⟩, rfl, q _ hf hn⟩
end
/-- xs * k, the new list told apart -/
def rRepB : R2 := fun x y H Q => ∃ l k xs, x = .ref l ∧ y = .int k ∧ H l = some (.lst xs) ∧ -(2 ^ 63) ≤ k ∧ k < 2 ^ 63 ∧ xs.length * k.toNat ≤ sizeLine ∧ ∀ p, H p = none → p ≠ sysModules → Q (.ref p) (upd H p (.lst (List.replicate k.toNat xs).flatten))
theorem op_repB {X : Cx} : OpR X (binaryOp .Mult) rRepB := by
  intro pins s σ H x y v u Q I rx ry h
  obtain ⟨l, k, xs, rfl, rfl, hH, h1, h2, hz, q⟩ := h
  cases rx
  obtain ⟨t, rfl⟩ := ry
  obtain ⟨z, its, n, r, hl, e⟩ := I.lstM hH
  have short : its.toArray.size * k.toNat ≤ sizeLine := by
    rw [List.size_toArray, ← hl]
    exact hz
  have cap : ¬ its.toArray.size * k.toNat > (2 ^ 63 - 1) / 8 := by
    have z2 : (sizeLine : Nat) ≤ (2 ^ 63 - 1) / 8 := by decide
    omega
  have fit : ¬ (!Builtin.List.listFitsIndex k) = true := by
    rw [fitsIndex_both h1 h2]
    decide
  have long : ¬ Builtin.List.listTooLong (its.toArray.size * k.toNat) = true := by
    rw [notLongL short]
    decide
  have made : List.foldl (fun x1 x2 => x1 ++ x2) #[] (List.replicate (if its.toArray.isEmpty = true then 0 else k.toNat) its.toArray) = (List.replicate k.toNat its).flatten.toArray := by
    have all : ∀ m : Nat, List.foldl (fun x1 x2 => x1 ++ x2) #[] (List.replicate m its.toArray) = (List.replicate m its).flatten.toArray := by
      intro m
      simpa using foldl_rep its m []
    rw [all]
    cases its with
    | nil => simp
    | cons a r' => rw [if_neg (by simp)]
  refine wpAny_binaryOp_repeat_ref (T := "list") (U := "int") (by decide) ⟨_, e, rfl⟩ (fun s' => typeIs_int s' k t) noFill_list_mul F.fills_int_mul F.slot_int_rmul repeat_list F.slot_int_index.lookup ?_
  refine call_meets F.slot_int_rmul (typeIs_int s k t) F.entry_int_rmul (F.args_int_rmul_2 _ _) (int___rmul___int_list k t l its.toArray n) ⟨e, rfl, ⟨_, e, rfl⟩, ?_⟩
  refine call_meets F.slot_list_mul ⟨_, e, rfl⟩ F.entry_list_mul (F.args_list_mul_2 _ _) (AutoListH.list___mul___list_int_3 l its.toArray n k t fit cap long) ⟨e, ?_⟩
  rw [made]
  exact ⟨.ref _, _, I.lnew (t' := s.toks) (r.rep k.toNat) (by rw [PyProof.Rows.lm_len_rep_flat, Nat.mul_comm]; exact hz), rfl, q _ I.fresh (Nat.ne_of_gt I.big)⟩
/-- s * n -/
theorem op_mul_str {X : Cx} : OpR X (binaryOp .Mult) (fun x y H Q => ∃ z n, x = .str z ∧ y = .int n ∧ MulOk z n ∧ Q (.str (Txt.mul z n)) H) := by
  intro pins s σ H x y v u Q I rx ry h
  obtain ⟨z, n, rfl, rfl, hm, q⟩ := h
  obtain ⟨t, rfl⟩ := rx
  obtain ⟨t', rfl⟩ := ry
  exact SB.mul hm fun _ _ => ⟨.str _, H, I.tok _, ⟨_, rfl⟩, q⟩

/-! ### what an exception's __init__ stores -/
section
open PySem.W PySem.Calls
open Builtin Builtin.ObjectAttr
variable {prog : Program} {w : World} {A : Around} {R : Result → Shared → Prop} {hp : Heap} {g : Array GenState} {d : Drawn} {t : Nat} {os : OsState}
/-- the classes along which a store is looked at let it pass -/
structure Lets (K : Frag) (C : Addr) : Prop where
  ex : ∃ cd, clsIn K C = some cd ∧ (∀ self, refuseLoop self "__setattr__" cd.mro = pure ()) ∧ cd.mro.isEmpty = false ∧ cd.mro.contains (.type "object") = true ∧ cd.hasDict = true
theorem XI.lets {K : Frag} {C fI : Addr} (T : XI K C fI) : Lets K C := by
  obtain ⟨nm, q, N, bs, bm, sn, sub, ab, col, dd, k0, k1, k2, k3, k5, B, newId, initId, bmB, FB, SF, hbm, hC⟩ := T.cls
  refine ⟨{ name := nm, bases := bs, mro := .ref C :: bm, ns := N, qualname := q, hasDict := true, slotNames := sn, subclasses := sub, abstract := ab, collection := col, hasDel := false }, ?_, fun self => ?_, rfl, ?_, rfl⟩
  · unfold clsIn
    rw [hC] <;> rfl
  · show refuseLoop self "__setattr__" (.ref C :: bm) = pure ()
    rw [refuseLoop_ref]
    exact excTail_pass self (SF.passes self) bm hbm
  · show (Value.ref C :: bm).contains (.type "object") = true
    rw [List.contains_cons, excTail_contains "object" bm hbm, SF.hasOwner, Bool.or_true]
theorem store_first {K : Frag} {name : Str} {tk : Tok} {v : Value} {x C : Addr} {fv : Array Value} (T : Lets K C)
    (X : K.In hp) (hx : hp.get? x = some { cls := .ref C, data := .fields fv }) (ha : findIn K (.ref C) name = some none)
    (hq : ∀ h' tk' dx, (∀ b o, b ≠ x → hp.get? b = some o → h'.get? b = some o) → hp.objs.size ≤ dx → dx ≠ x → h'.get? x = some { cls := .ref C, dict := some dx, data := .fields fv } →
      h'.Ns1 dx (fun y => if y = name then some v else none) → R (.ok (.ret .none)) ⟨h', g, d, tk', os⟩) :
    codeAny (model prog w) A (.call (.builtin "object.__setattr__") ⟨[.ref x, .str name tk, v], []⟩) R ⟨hp, g, d, t, os⟩ := by
  obtain ⟨cd, hcd, hpass, ne, hob, hh⟩ := T.ex
  have I : InstAt hp x { cls := .ref C, data := .fields fv } C none := ⟨hx, rfl, rfl, trivial⟩
  have SF := F.store_object
  have apart : x ≠ hp.objs.size := Nat.ne_of_lt (Heap.lt_size hx)
  have isO : Looks (model prog w) hp (isInstance (.ref x) (.type "object")) true :=
    I.type.andThen (looks_mroIn X (by unfold mroIn; rw [hcd, Option.bind_some, if_neg (by rw [ne]; decide), hob]))
  refine codeAny_call_builtin SF.slot.plain SF.entry (@check_slot (model prog w) _ _ ⟨hp, g, d, t, os⟩ "object.__setattr__" "object" "__setattr__" (.ref x) [.str name tk, v] [] _ SF.kind SF.split isO (SF.args (.ref x) (.str name tk) v) ?_)
  have along : Looks (model prog w) hp (mroOf (.ref C)) cd.mro := (looks_clsIn X hcd).andThen .now
  have taker : Looks (model prog w) hp (storeTaker? none) none := .now
  have theCls : Looks (model prog w) hp (classData C) cd := looks_clsIn X hcd
  rw [osa_eq, refuse_eq]
  refine wpAny_bind (wpAny_bind (I.type.at (wpAny_bind (along.at ?_))))
  rw [hpass]
  refine wpAny_pure (wpAny_bind (I.type.at (wpAny_bind ((looks_findIn X ha).at (wpAny_bind (taker.at ?_))))))
  show wpAny _ _ (storeInOwnDict (.ref x) (.ref C) (.str name tk) name v false) _ _ _
  obtain ⟨nm, bs, mro, ns, qn, hd, sn, sb, ab, col, del⟩ := cd
  dsimp only at hh
  subst hh
  unfold storeInOwnDict ownDictForStores
  repeat (first | with_reducible refine HandSPX.store_in_new ?_ ?_ | with_reducible refine wpAny_loadPart_at hx ?_ | with_reducible refine theCls.at ?_ | wp_step)
  · exact ⟨_, #[], _, (Heap.get?_update_ne _ _ _ _ apart.symm).trans (Heap.get?_push_at rfl rfl), rfl, fun e he => absurd he (by simp), fun _ => rfl⟩
  · intro h' tk' hn' hs
    have held : (hp.push { cls := .type "dict", data := .dict #[] }).get? x = some { cls := .ref C, data := .fields fv } := Heap.get?_push_of_some _ hx
    refine hq h' tk' hp.objs.size (fun b o hb ho => ?_) (Nat.le_refl _) apart.symm ((hs.2 x apart).trans (Heap.get?_update_self _ held rfl)) hn'
    exact (hs.2 b (Nat.ne_of_lt (Heap.lt_size ho))).trans ((Heap.get?_update_ne _ _ _ _ hb).trans (Heap.get?_push_of_some _ ho))
theorem store_more {K : Frag} {name : Str} {tk : Tok} {v : Value} {x C dx : Addr} {fv : Array Value} {m0 : Str → Option Value} {nl : List Str} (T : Lets K C)
    (X : K.In hp) (hx : hp.get? x = some { cls := .ref C, dict := some dx, data := .fields fv }) (hns : hp.Ns1 dx m0) (hw : Within m0 nl) (hz : nl.length ≤ 1000) (ha : findIn K (.ref C) name = some none)
    (hq : ∀ h' tk', (∀ b o, b ≠ dx → hp.get? b = some o → h'.get? b = some o) → h'.Ns1 dx (fun y => if y = name then some v else m0 y) → R (.ok (.ret .none)) ⟨h', g, d, tk', os⟩) :
    codeAny (model prog w) A (.call (.builtin "object.__setattr__") ⟨[.ref x, .str name tk, v], []⟩) R ⟨hp, g, d, t, os⟩ := by
  obtain ⟨cd, hcd, hpass, ne, hob, hh⟩ := T.ex
  obtain ⟨oD, esD, epD, hoD, hdD, _⟩ := hns.count hw
  have I : InstAt hp x { cls := .ref C, dict := some dx, data := .fields fv } C (some oD) := ⟨hx, rfl, rfl, hoD⟩
  have SF := F.store_object
  have isO : Looks (model prog w) hp (isInstance (.ref x) (.type "object")) true :=
    I.type.andThen (looks_mroIn X (by unfold mroIn; rw [hcd, Option.bind_some, if_neg (by rw [ne]; decide), hob]))
  refine codeAny_call_builtin SF.slot.plain SF.entry (@check_slot (model prog w) _ _ ⟨hp, g, d, t, os⟩ "object.__setattr__" "object" "__setattr__" (.ref x) [.str name tk, v] [] _ SF.kind SF.split isO (SF.args (.ref x) (.str name tk) v) ?_)
  have along : Looks (model prog w) hp (mroOf (.ref C)) cd.mro := (looks_clsIn X hcd).andThen .now
  have taker : Looks (model prog w) hp (storeTaker? none) none := .now
  have theCls : Looks (model prog w) hp (classData C) cd := looks_clsIn X hcd
  rw [osa_eq, refuse_eq]
  refine wpAny_bind (wpAny_bind (I.type.at (wpAny_bind (along.at ?_))))
  rw [hpass]
  refine wpAny_pure (wpAny_bind (I.type.at (wpAny_bind ((looks_findIn X ha).at (wpAny_bind (taker.at ?_))))))
  show wpAny _ _ (storeInOwnDict (.ref x) (.ref C) (.str name tk) name v false) _ _ _
  obtain ⟨nm, bs, mro, ns, qn, hd, sn, sb, ab, col, del⟩ := cd
  dsimp only at hh
  subst hh
  unfold storeInOwnDict ownDictForStores
  repeat (first | with_reducible refine OEX.store_in_old hns hw hz ?_ | with_reducible refine wpAny_loadPart_at hx ?_ | with_reducible refine theCls.at ?_ | wp_step)
  intro h' tk' hn' hs
  exact hq h' tk' (fun b o hb ho => (hs.2 b hb).trans ho) hn'
end
section
variable {X : Cx} {pins : List (Addr × Obj)} {σ : L2.St} {H : Hp} {s : Shared} {a C fI dx : Addr} {f : Str} {y : V} {u : Value} {fs : List (Str × V)} {Q : Unit → Shared → Prop} {E : Value → Shared → Prop} {A : Around}
theorem xst_first (T : XI X.K C fI) (I : Inv X pins σ H s) (e : H a = some (exo a C none)) (hno : PySem.W.findIn X.K (.ref C) f = some none) (ry : RelV y u)
    (h : ∀ dx s', H dx = none → dx ≠ a → Inv X pins σ (upd (upd H dx (exd dx [(f, y)])) a (exo a C (some dx))) s' → Q () s') : wpAny (model X.prog X.w) A (setAttr (.ref a) f u) Q E s := by
  obtain ⟨t1, ho⟩ := exo_at I.hok e
  obtain ⟨hp, g, d, t, os⟩ := s
  refine PySem.W.set_plain I.kIn (ox := { cls := .ref C, dict := none, data := .fields #[.ref t1, .none, .none, .none, .bool false, .none] }) (od := none) ⟨ho, rfl, rfl, trivial⟩ T.sa ?_
  refine store_first T.lets I.kIn ho hno fun h' tk' dx k dn dne hx hn => ?_
  have fresh : H dx = none := I.hok.fresh dn
  have ned : ∀ {b : Addr} {o : Obj}, hp.get? b = some o → b ≠ dx := fun {b o} q => Nat.ne_of_lt (Nat.lt_of_lt_of_le (Heap.lt_size q) dn)
  have nea : ∀ {b : Addr}, H b = none → b ≠ a := by
    intro b n z
    rw [z, e] at n
    cases n
  have un : Un X.fs [] H (upd (upd H dx (exd dx [(f, y)])) a (exo a C (some dx))) hp h' := by
    refine ⟨fun b o q n _ _ => k b o (nea n) q, fun b o q n _ _ => ⟨o.slots, k b o (nea n) q⟩, fun b o q n _ => ?_, fun b o q _ => ?_, fun b xs q => ?_, fun b o v q => ?_, fun b ps q => ⟨#[], ?_⟩⟩
    · rw [upd_ne (nea n), upd_ne (ned q)]
      exact n
    · by_cases hb : b = a
      · exact ⟨_, by rw [hb]; exact hx⟩
      · exact ⟨o, k b o hb q⟩
    · rw [upd_ne (at_ne e q exo_tup), upd_ne (ne_of_none q fresh)]
      exact q
    · rw [upd_ne (at_ne e q exo_frz), upd_ne (ne_of_none q fresh)]
      exact q
    · rw [upd_ne (at_ne e q exo_tbl), upd_ne (ne_of_none q fresh), q]
      simp
  refine h dx _ fresh dne (I.un (t' := tk') un fun b o q => ?_)
  by_cases hb : b = a
  · subst hb
    rw [upd_same] at q
    cases q
    exact exo_ok hx
  · rw [upd_ne hb] at q
    by_cases hd : b = dx
    · subst hd
      rw [upd_same] at q
      cases q
      exact exd_ok hn (relO_put (fs := []) ry fun g => True.intro)
    · rw [upd_ne hd] at q
      refine (I.hok b o q).stay (fun c v hc z => k c v ?_ z) (fun c hc => ?_) (fun c xs hc => ?_)
      · rcases hc with hc | hc
        · rw [hc]
          exact hb
        · exact at_ne e hc exo_own
      · rw [upd_ne (at_ne e hc exo_own), upd_ne (ne_of_none hc fresh)]
        exact hc
      · rw [upd_ne (at_ne e hc exo_tup), upd_ne (ne_of_none hc fresh)]
        exact hc
theorem xst_more (T : XI X.K C fI) (I : Inv X pins σ H s) (e : H a = some (exo a C (some dx))) (ed : H dx = some (exd dx fs)) (hl : fs.length ≤ 900) (hno : PySem.W.findIn X.K (.ref C) f = some none) (ry : RelV y u)
    (h : ∀ s', Inv X pins σ (upd H dx (exd dx ((f, y) :: fs))) s' → Q () s') : wpAny (model X.prog X.w) A (setAttr (.ref a) f u) Q E s := by
  obtain ⟨t1, ho⟩ := exo_at I.hok e
  obtain ⟨mA, hns, rel⟩ := exd_at I.hok ed
  have hw := within_of rel
  obtain ⟨hp, g, d, t, os⟩ := s
  obtain ⟨oD, _, _, hoD, _, _⟩ := hns.count hw
  refine PySem.W.set_plain I.kIn (ox := { cls := .ref C, dict := some dx, data := .fields #[.ref t1, .none, .none, .none, .bool false, .none] }) (od := some oD) ⟨ho, rfl, rfl, hoD⟩ T.sa ?_
  refine store_more T.lets I.kIn ho hns hw (by rw [List.length_map]; omega) hno fun h' tk' k hn => ?_
  have there : ∃ o, h'.get? dx = some o := by
    obtain ⟨o, _, _, e', _⟩ := hn
    exact ⟨o, e'⟩
  exact h _ (I.write (t' := tk') (x := dx) (e := dx) (o := exd dx ((f, y) :: fs)) (by rw [ed]; exact True.intro) (.inl rfl) k there (exd_ok hn (relO_put ry rel)))
end
/-- self.f = e, self an exception that is being made -/
def tXst (K : PySem.W.Frag) (f : Str) (to te : TE) : TS := fun D σ H => te σ H fun y H1 => to σ H1 fun x H2 => ∃ a C fI : Addr, x = .ref a ∧ XI K C fI ∧ PySem.W.findIn K (.ref C) f = some none ∧
  ((H2 a = some (exo a C none) ∧ ∀ dx, H2 dx = none → dx ≠ a → D.nx σ (upd (upd H2 dx (exd dx [(f, y)])) a (exo a C (some dx)))) ∨
    ∃ (dx : Addr) (fs : List (Str × V)), H2 a = some (exo a C (some dx)) ∧ H2 dx = some (exd dx fs) ∧ fs.length ≤ 900 ∧ D.nx σ (upd H2 dx (exd dx ((f, y) :: fs))))
theorem ps_xst {X : Cx} {o e : Expr} {to te : TE} {f : Str} {p' pos : Pos} (ho : PE X o to) (he : PE X e te) (hs : swapsWith e (some (.Attribute o f p')) pos.line X.env = pure false := by rfl) : PS X (.Assign [.Attribute o f p'] e pos) (tXst X.K f to te) := by
  refine ⟨fun pins s σ H D I h => ?_⟩
  refine plainObj_wpAny_Assign_Attribute (thn (he.run pins s σ H _ I h) fun v s1 ⟨y, H1, I1, r1, q1⟩ => thn (ho.run pins s1 σ H1 _ I1 q1) fun u s2 ⟨x, H2, I2, r2, a, C, fI, ex, T, hno, q⟩ => ?_) hs
  subst ex
  obtain rfl : u = Value.ref a := r2
  rcases q with ⟨ea, q⟩ | ⟨dx, fs, ea, ed, hl, q⟩
  · exact xst_first T I2 ea hno r1 fun dx s' n ne J => ⟨σ, _, J, q dx n ne⟩
  · exact xst_more T I2 ea ed hl hno r1 fun s' J => ⟨σ, _, J, q⟩
end Bc

namespace Bc
open PySem PySem.Spec PyProof.Rows L2

/-! ### the law's source of numbers: a dict at d, its cells in a list at c -/
def srcKV (c : Addr) (l m t : Int) : List (Key × V) := [(.inr "cells", .ref c), (.inr "left", .int l), (.inr "mixed", .int m), (.inr "turn", .int t)]
theorem src_cells (c : Addr) (l m t : Int) : valV (srcKV c l m t) (Sum.inr "cells" : Key) = some (.ref c) := by rfl
theorem src_left (c : Addr) (l m t : Int) : valV (srcKV c l m t) (Sum.inr "left" : Key) = some (.int l) := by rfl
theorem src_mixed (c : Addr) (l m t : Int) : valV (srcKV c l m t) (Sum.inr "mixed" : Key) = some (.int m) := by rfl
theorem src_turn (c : Addr) (l m t : Int) : valV (srcKV c l m t) (Sum.inr "turn" : Key) = some (.int t) := by rfl
theorem put_left (c : Addr) (l m t x : Int) : putK (srcKV c l m t) (Sum.inr "left" : Key) (.int x) = srcKV c x m t := by rfl
theorem put_mixed (c : Addr) (l m t x : Int) : putK (srcKV c l m t) (Sum.inr "mixed" : Key) (.int x) = srcKV c l x t := by rfl
theorem put_turn (c : Addr) (l m t x : Int) : putK (srcKV c l m t) (Sum.inr "turn" : Key) (.int x) = srcKV c l m x := by rfl
theorem src_new (c : Addr) (l m t : Int) : mergeK [] (srcKV c l m t) = srcKV c l m t := by rfl
/-- the source stands at d and c, with n cells left -/
def SrcN (H : Hp) (d c : Addr) (n : Nat) : Prop := d ≠ c ∧ ∃ (cells : List Int) (l m t : Int), H d = some (.dK (srcKV c l m t)) ∧ H c = some (.lst (cells.map V.int)) ∧ cells.length = n
def SrcAt (H : Hp) (d c : Addr) : Prop := ∃ n, n ≤ 100 ∧ SrcN H d c n
/-- all but the source is as it was -/
def Else (d c : Addr) (H H' : Hp) : Prop := ∀ b, b ≠ d → b ≠ c → H' b = H b
theorem Else.refl {d c : Addr} {H : Hp} : Else d c H H := fun _ _ _ => rfl
theorem Else.trans {d c : Addr} {H H1 H2 : Hp} (a : Else d c H H1) (b : Else d c H1 H2) : Else d c H H2 := fun x h1 h2 => (b x h1 h2).trans (a x h1 h2)
theorem Else.updD {d c : Addr} {H : Hp} {o : HO} : Else d c H (upd H d o) := fun x h1 _ => upd_ne h1
theorem Else.updC {d c : Addr} {H : Hp} {o : HO} : Else d c H (upd H c o) := fun x _ h2 => upd_ne h2
/-- the source's promises -/
def spSource (K : PySem.W.Frag) : Sp := fun vs H Q _ => ∃ (a : Addr) (ns : List Int), vs = [.ref a] ∧ SqL K H a (ns.map V.int) ∧ ns.length ≤ 100 ∧
  ∀ (d c : Addr) (H' : Hp), Same H H' → H d = none → H c = none → SrcAt H' d c → Q (.ref d) H'
def spPick : Sp := fun vs H Q _ => ∃ (d c : Addr) (many : Int), vs = [.ref d, .int many] ∧ SrcAt H d c ∧ 0 ≤ many ∧ many ≤ 1000000 ∧
  ∀ (r : Int) (H' : Hp), 0 ≤ r → r < max 1 many → SrcAt H' d c → Else d c H H' → Q (.int r) H'
/-- a while by its measure: what follows is shown once, for every state that the invariant holds of -/
theorem while_of {c : TT} {tb : TS} {D : Ends} {σ : L2.St} {H : Hp} (W : Nat → L2.St → Hp → Prop) (h0 : ∃ m, W m σ H) (fin : ∀ m σ H, W m σ H → D.nx σ H)
    (turn : ∀ m σ H, W m σ H → D.nx σ H → c σ H fun b H1 => if b = true then ∃ N : L2.St → Hp → Prop, (∀ σ' H', N σ' H' → ∃ m', m' < m ∧ W m' σ' H') ∧ tb { D with nx := N, ct := N, bk := D.nx } σ H1 else D.nx σ H1) : tWhile c tb D σ H :=
  ⟨W, h0, fun m σ H w => turn m σ H w (fin m σ H w)⟩
/-- .. where what follows leans on how the loop ended -/
theorem while_ex {c : TT} {tb : TS} {D : Ends} {σ : L2.St} {H : Hp} (W : Nat → L2.St → Hp → Prop) (Z : L2.St → Hp → Prop) (h0 : ∃ m, W m σ H) (fin : ∀ σ H, Z σ H → D.nx σ H)
    (turn : ∀ m σ H, W m σ H → (∀ σ H, Z σ H → D.nx σ H) → c σ H fun b H1 => if b = true then ∃ N : L2.St → Hp → Prop, (∀ σ' H', N σ' H' → ∃ m', m' < m ∧ W m' σ' H') ∧ tb { D with nx := N, ct := N, bk := D.nx } σ H1 else D.nx σ H1) : tWhile c tb D σ H :=
  ⟨W, h0, fun m σ H w => turn m σ H w fin⟩
theorem lc_yes {σ : L2.St} {H : Hp} {A B : Hp → Prop} (h : A H) : tYes σ H (fun b H3 => if b = true then A H3 else B H3) := by
  show (if true = true then A H else B H)
  rw [if_pos rfl]
  exact h
theorem pop_last {cells : List Int} {x : Int} (h : cells.getLast? = some x) : (cells.map V.int)[(cells.map V.int).length - 1]? = some (.int x) := by
  rw [List.length_map, List.getElem?_map, ← List.getLast?_eq_getElem?, h]
  rfl
theorem same_new {H : Hp} {p : Addr} {o : HO} (h : H p = none) : Same H (upd H p o) := fun b x e => by
  rw [upd_ne (ne_of_none e h)]
  exact e
end Bc

namespace Bc
open PySem PySem.Spec PyProof.Rows L2

/-! ### written data: a display whose value lies in new objects alone -/
def newOf (H H' : Hp) : Hp := fun b => if H b = none then H' b else none
theorem newOf_up {H H1 H2 : Hp} (s : Same H1 H2) : Same (newOf H H1) (newOf H H2) := fun b o e => by
  unfold newOf at e ⊢
  by_cases h : H b = none
  · rw [if_pos h] at e ⊢
    exact s b o e
  · rw [if_neg h] at e
    cases e
theorem newOf_down {H H1 H2 : Hp} (s : Same H H1) : Same (newOf H1 H2) (newOf H H2) := fun b o e => by
  unfold newOf at e ⊢
  by_cases h : H1 b = none
  · rw [if_pos h] at e
    rw [if_pos (s.free h)]
    exact e
  · rw [if_neg h] at e
    cases e
theorem newOf_upd {H H1 : Hp} {p : Addr} {o : HO} (s : Same H H1) (hp : H1 p = none) : newOf H (upd H1 p o) p = some o := by
  unfold newOf
  rw [if_pos (s.free hp), upd_same]
theorem newOf_all {H H1 : Hp} : Same (newOf H H1) H1 := fun b o e => by
  unfold newOf at e
  by_cases h : H b = none
  · rw [if_pos h] at e
    exact e
  · rw [if_neg h] at e
    cases e
def tD (K : PySem.W.Frag) (c : L2.St → Prop) (d : PyData) : TE := fun σ H Q => c σ ∧ ∀ v H', Same H H' → Dq K (newOf H H') v d → Q v H'
def tDs (K : PySem.W.Frag) (c : L2.St → Prop) (ds : List PyData) : TA := fun σ H Q => c σ ∧ ∀ vs H', Same H H' → DqAll K (newOf H H') vs ds → Q vs H'
abbrev cT : L2.St → Prop := fun _ => True
abbrev cAnd (c c' : L2.St → Prop) : L2.St → Prop := fun σ => c σ ∧ c' σ
theorem PE.imp {X : Cx} {e : Expr} {t t' : TE} (h : PE X e t) (f : ∀ σ H Q, t' σ H Q → t σ H Q) : PE X e t' := ⟨fun pins s σ H Q I q => h.run pins s σ H Q I (f σ H Q q)⟩
theorem PA.imp {X : Cx} {es : List Expr} {t t' : TA} (h : PA X es t) (f : ∀ σ H Q, t' σ H Q → t σ H Q) : PA X es t' := ⟨fun pos pins s σ H Q I q => h.run pos pins s σ H Q I (f σ H Q q)⟩
section
variable {X : Cx} {e : Expr} {es : List Expr} {c c' : L2.St → Prop} {d : PyData} {ds : List PyData} {pos : Pos}
theorem pd_of {v : V} {d : PyData} {e : Expr} (h : PE X e (tC v)) (f : ∀ H, Dq X.K H v d) : PE X e (tD X.K cT d) := PE.imp h fun σ H Q q => q.2 v H (Same.refl H) (f _)
theorem pd_int {i : Int} {j : Nat} : PE X (.Constant (.int i) j pos) (tD X.K cT (.int i)) := pd_of pe_int fun _ => .int i
theorem pd_str {x : Str} {j : Nat} : PE X (.Constant (.str x) j pos) (tD X.K cT (.str x)) := pd_of pe_str fun _ => .str x
theorem pd_non {j : Nat} : PE X (.Constant .none j pos) (tD X.K cT .none) := pd_of pe_non fun _ => .non
theorem pd_bl {b : Bool} {j : Nat} : PE X (.Constant (.bool b) j pos) (tD X.K cT (.bool b)) := pd_of pe_bl fun _ => .bl b
theorem pd_neg {i : Int} {j : Nat} {p : Pos} : PE X (.UnaryOp .USub (.Constant (.int i) j p) pos) (tD X.K cT (.int (-i))) := PE.imp (pe_un un_neg pe_int) fun σ H Q q => ⟨i, rfl, q.2 _ H (Same.refl H) (.int _)⟩
theorem pd_mul {x : Str} {n : Int} {j j' : Nat} {p p' : Pos} (hm : MulOk x n) : PE X (.BinOp (.Constant (.str x) j p) .Mult (.Constant (.int n) j' p') pos) (tD X.K cT (.str (Txt.mul x n))) :=
  PE.imp (pe_op op_mul_str pe_str pe_int) fun σ H Q q => ⟨x, n, rfl, rfl, hm, q.2 _ H (Same.refl H) (.str _)⟩
/-- a name that holds a number -/
theorem pd_var {i : Nat} {z : Int} {x : Str} (h : PE X (.Name x pos) (tVar i)) : PE X (.Name x pos) (tD X.K (fun σ => σ[i]? = some (some (.int z))) (.int z)) :=
  PE.imp h fun σ H Q q => ⟨_, q.1, q.2 _ H (Same.refl H) (.int z)⟩
theorem pds_nil : PA X [] (tDs X.K cT []) := PA.imp pa_nil fun σ H Q q => q.2 [] H (Same.refl H) .nil
theorem pds_cons (h : PE X e (tD X.K c d)) (hr : PA X es (tDs X.K c' ds)) (hs : starEach (e :: es) X.env = (false, eval e X.env) :: starEach es X.env := by rfl) : PA X (e :: es) (tDs X.K (cAnd c c') (d :: ds)) :=
  PA.imp (pa_cons h hr hs) fun σ H Q q => ⟨q.1.1, fun v H1 s1 d1 => ⟨q.1.2, fun vs H2 s2 d2 => q.2 (v :: vs) H2 (s1.trans s2) (.cons (Dq.same (newOf_up s2) d1) (DqAll.same (newOf_down s1) d2))⟩⟩
theorem pd_lst (h : PA X es (tDs X.K c ds)) (hz : ds.length ≤ sizeLine := by decide) : PE X (.List es pos) (tD X.K c (.list ds)) :=
  PE.imp (pe_lstB h) fun σ H Q q => ⟨q.1, fun vs H1 s1 d1 => ⟨by rw [d1.len]; exact hz, fun p hp np => q.2 _ _ (s1.trans (same_new hp)) (.lst (.inl (.inl (newOf_upd s1 hp))) (DqAll.same (newOf_up (same_new hp)) d1) np)⟩⟩
theorem pd_tup {x1} (h : PA X es (tDs X.K c ds)) (hz : ds.length ≤ sizeLine := by decide) : PE X (.Tuple es x1 pos) (tD X.K c (.tuple ds)) :=
  PE.imp (pe_tup h) fun σ H Q q => ⟨q.1, fun vs H1 s1 d1 => ⟨by rw [d1.len]; exact hz, fun p hp => q.2 _ _ (s1.trans (same_new hp)) (.tup (.inl (.inl (newOf_upd s1 hp))) (DqAll.same (newOf_up (same_new hp)) d1))⟩⟩
theorem pd_dict0 : PE X (.Dict [] [] pos) (tD X.K cT (.dict [])) :=
  PE.imp pe_dnewK fun σ H Q q => fun p hp => q.2 _ _ (same_new hp) (.dic (kvs := []) (ds := []) (newOf_upd (Same.refl H) hp) .nil)
theorem pd_dict1 {x : Str} {i : Int} {j j' : Nat} {p1 p2 : Pos} : PE X (.Dict [some (.Constant (.str x) j p1)] [.Constant (.int i) j' p2] pos) (tD X.K cT (.dict [(.str x, .int i)])) :=
  PE.imp (pe_disp (pps_cons pe_str pe_int pps_nil) rfl rfl (by simp) (by simp)) fun σ H Q q => fun p hp => ⟨upd_same, [(.inr x, .int i)], rfl, (by show 1 ≤ 15; decide), by
    rw [upd_upd]
    refine q.2 _ _ (same_new hp) ?_
    exact Dq.dic (kvs := [(.inr x, .int i)]) (ds := [.int i]) (newOf_upd (Same.refl H) hp) (.cons (.int i) .nil)⟩
end

/-! ### what lies apart from the source -/
def hid (d c : Addr) (H : Hp) : Hp := fun b => if b = d ∨ b = c then none else H b
theorem hid_all {d c : Addr} {H : Hp} : Same (hid d c H) H := fun b o e => by
  unfold hid at e
  by_cases h : b = d ∨ b = c
  · rw [if_pos h] at e
    cases e
  · rw [if_neg h] at e
    exact e
theorem hid_else {d c : Addr} {H H' : Hp} (e : Else d c H H') : hid d c H' = hid d c H := by
  funext b
  unfold hid
  by_cases h : b = d ∨ b = c
  · rw [if_pos h, if_pos h]
  · rw [if_neg h, if_neg h]
    exact e b (fun z => h (.inl z)) (fun z => h (.inr z))
theorem hid_up {d c : Addr} {H H' : Hp} (s : Same H H') : Same (hid d c H) (hid d c H') := fun b o e => by
  unfold hid at e ⊢
  by_cases h : b = d ∨ b = c
  · rw [if_pos h] at e
    cases e
  · rw [if_neg h] at e ⊢
    exact s b o e
theorem SrcAt.two {H : Hp} {d c : Addr} (x : SrcAt H d c) : H d ≠ none ∧ H c ≠ none := by
  obtain ⟨n, _, _, cells, l, m, t, h1, h2, _⟩ := x
  exact ⟨by rw [h1]; exact Option.some_ne_none _, by rw [h2]; exact Option.some_ne_none _⟩
theorem SrcAt.up {H H' : Hp} {d c : Addr} (x : SrcAt H d c) (s : Same H H') : SrcAt H' d c := by
  obtain ⟨n, hn, ne, cells, l, m, t, h1, h2, hl⟩ := x
  exact ⟨n, hn, ne, cells, l, m, t, s _ _ h1, s _ _ h2, hl⟩
theorem newOf_hid {d c : Addr} {H H' : Hp} (x : SrcAt H d c) : Same (newOf H H') (hid d c H') := fun b o e => by
  unfold newOf at e
  by_cases h : H b = none
  · rw [if_pos h] at e
    unfold hid
    rw [if_neg (fun z => by
      rcases z with z | z
      · rw [z] at h
        exact x.two.1 h
      · rw [z] at h
        exact x.two.2 h)]
    exact e
  · rw [if_neg h] at e
    cases e
/-- an item of written data, by a number that lies in it -/
theorem pick_of {K : PySem.W.Frag} {H : Hp} : ∀ {vs : List V} {ds : List PyData} (n : Nat), DqAll K H vs ds → n < ds.length → ∃ v d, vs[n]? = some v ∧ d ∈ ds ∧ Dq K H v d
  | _, _, _, .nil, h => absurd h (Nat.not_lt_zero _)
  | _, _, 0, .cons a _, _ => ⟨_, _, rfl, List.mem_cons_self .., a⟩
  | _, _, n + 1, .cons _ t, h => by
    obtain ⟨v, d, h1, h2, h3⟩ := pick_of n t (Nat.lt_of_succ_lt_succ h)
    exact ⟨v, d, h1, List.mem_cons_of_mem _ h2, h3⟩
end Bc

namespace Bc
open PySem PySem.Spec PyProof.Rows L2

/-! ### lexemes, in plain Lean: texts are lists of codes -/
abbrev sLetters : Str := "abcdefghijklmnopqrstuvwxyz"
abbrev sDigits : Str := "0123456789"
abbrev sSigns : Str := "(){},;"
abbrev sBlanks : Str := " \n"
def inS (z : Str) (c : Nat) : Bool := decide (c ∈ z.cps.toList)
def alnum (c : Nat) : Bool := inS (sLetters ++ sDigits) c
/-- the lexeme with which a text begins: its sort, its length -/
def tokS : List Nat → Option (Str × Nat)
  | [] => none
  | c :: t => if inS sSigns c = true then some ("sign", 1) else if inS sLetters c = true then (if ((c :: t).takeWhile alnum).length ≤ 12 then some ("word", ((c :: t).takeWhile alnum).length) else none)
    else if c = 48 then some ("number", 1) else if inS sDigits c = true then some ("number", ((c :: t).takeWhile (inS sDigits)).length) else none
theorem tokS_cons (c : Nat) (t : List Nat) : tokS (c :: t) = if inS sSigns c = true then some (("sign" : Str), 1) else if inS sLetters c = true then (if ((c :: t).takeWhile alnum).length ≤ 12 then some (("word" : Str), ((c :: t).takeWhile alnum).length) else none)
    else if c = 48 then some (("number" : Str), 1) else if inS sDigits c = true then some (("number" : Str), ((c :: t).takeWhile (inS sDigits)).length) else none := rfl
abbrev Tok := Str × List Nat × Nat
def lexS : Nat → List Nat → Nat → List Tok × Option Nat
  | 0, _, _ => ([], none)
  | _ + 1, [], _ => ([], none)
  | n + 1, c :: t, i => if inS sBlanks c = true then lexS n t (i + 1) else match tokS (c :: t) with
    | none => ([], some i)
    | some (k, m) => ((k, (c :: t).take m, i) :: (lexS n ((c :: t).drop m) (i + m)).1, (lexS n ((c :: t).drop m) (i + m)).2)
theorem let_alnum {c : Nat} (h : inS sLetters c = true) : alnum c = true := by
  unfold alnum inS at *
  rw [decide_eq_true_eq] at *
  rw [show (sLetters ++ sDigits).cps.toList = sLetters.cps.toList ++ sDigits.cps.toList by decide +kernel]
  exact List.mem_append_left _ h
theorem tok_pos {s : List Nat} {k : Str} {m : Nat} (h : tokS s = some (k, m)) : 1 ≤ m ∧ m ≤ s.length := by
  cases s with
  | nil => cases h
  | cons c t =>
    have tw : ∀ {p : Nat → Bool}, p c = true → 1 ≤ ((c :: t).takeWhile p).length ∧ ((c :: t).takeWhile p).length ≤ (c :: t).length := fun {p} hp => by
      refine ⟨?_, (List.takeWhile_sublist p).length_le⟩
      rw [List.takeWhile_cons, if_pos hp, List.length_cons]
      omega
    rw [tokS_cons] at h
    by_cases h1 : inS sSigns c = true
    · rw [if_pos h1] at h
      have e := (Prod.mk.inj (Option.some.inj h)).2
      rw [← e, List.length_cons]
      omega
    · rw [if_neg h1] at h
      by_cases h2 : inS sLetters c = true
      · rw [if_pos h2] at h
        by_cases h3 : ((c :: t).takeWhile alnum).length ≤ 12
        · rw [if_pos h3] at h
          have e := (Prod.mk.inj (Option.some.inj h)).2
          rw [← e]
          exact tw (let_alnum h2)
        · rw [if_neg h3] at h
          cases h
      · rw [if_neg h2] at h
        by_cases h3 : c = 48
        · rw [if_pos h3] at h
          have e := (Prod.mk.inj (Option.some.inj h)).2
          rw [← e, List.length_cons]
          omega
        · rw [if_neg h3] at h
          by_cases h4 : inS sDigits c = true
          · rw [if_pos h4] at h
            have e := (Prod.mk.inj (Option.some.inj h)).2
            rw [← e]
            exact tw h4
          · rw [if_neg h4] at h
            cases h
theorem lex_fuel : ∀ (n m : Nat) (s : List Nat) (i : Nat), s.length < n → s.length < m → lexS n s i = lexS m s i
  | 0, _, _, _, h, _ => absurd h (Nat.not_lt_zero _)
  | _ + 1, 0, _, _, _, h => absurd h (Nat.not_lt_zero _)
  | n + 1, m + 1, [], _, _, _ => rfl
  | n + 1, m + 1, c :: t, i, h1, h2 => by
    have l1 : t.length < n := Nat.lt_of_succ_lt_succ h1
    have l2 : t.length < m := Nat.lt_of_succ_lt_succ h2
    unfold lexS
    rw [lex_fuel n m t (i + 1) l1 l2]
    cases e : tokS (c :: t) with
    | none => rfl
    | some q =>
      obtain ⟨k, j⟩ := q
      have hp := tok_pos e
      have hd : ((c :: t).drop j).length ≤ t.length := by
        rw [List.length_drop, List.length_cons]
        omega
      dsimp only
      rw [lex_fuel n m ((c :: t).drop j) (i + j) (Nat.lt_of_le_of_lt hd l1) (Nat.lt_of_le_of_lt hd l2)]
/-- the lexemes of a text that begins at the place i, and the place where none begins -/
def Lx (s : List Nat) (i : Nat) : List Tok × Option Nat := lexS (s.length + 1) s i
theorem Lx_nil (i : Nat) : Lx [] i = ([], none) := rfl
theorem Lx_blank {c : Nat} {t : List Nat} {i : Nat} (h : inS sBlanks c = true) : Lx (c :: t) i = Lx t (i + 1) := by
  show lexS (t.length + 1 + 1) (c :: t) i = lexS (t.length + 1) t (i + 1)
  rw [lexS, if_pos h]
theorem Lx_bad {c : Nat} {t : List Nat} {i : Nat} (h : inS sBlanks c = false) (e : tokS (c :: t) = none) : Lx (c :: t) i = ([], some i) := by
  show lexS (t.length + 1 + 1) (c :: t) i = _
  rw [lexS, h, e]
  rfl
theorem Lx_tok {c : Nat} {t : List Nat} {i m : Nat} {k : Str} (h : inS sBlanks c = false) (e : tokS (c :: t) = some (k, m)) :
    Lx (c :: t) i = ((k, (c :: t).take m, i) :: (Lx ((c :: t).drop m) (i + m)).1, (Lx ((c :: t).drop m) (i + m)).2) := by
  have hp := tok_pos e
  have hf : lexS (t.length + 1) ((c :: t).drop m) (i + m) = Lx ((c :: t).drop m) (i + m) := by
    refine lex_fuel _ _ _ _ ?_ (Nat.lt_succ_self _)
    rw [List.length_drop, List.length_cons]
    omega
  show lexS (t.length + 1 + 1) (c :: t) i = _
  rw [lexS, h, e]
  simp only [Bool.false_eq_true, if_false]
  rw [hf]
theorem Lx_skip : ∀ (s : List Nat) (i : Nat), Lx s i = Lx (s.drop ((s.takeWhile (inS sBlanks)).length)) (i + (s.takeWhile (inS sBlanks)).length)
  | [], _ => rfl
  | c :: t, i => by
    by_cases h : inS sBlanks c = true
    · rw [Lx_blank h, List.takeWhile_cons, if_pos h, List.length_cons, List.drop_succ_cons, Lx_skip t (i + 1)]
      congr 1
      omega
    · rw [List.takeWhile_cons, if_neg h]
      rfl
/-! ### spaced lexemes -/
def codes (z : Str) : List Nat := z.cps.toList
/-- the lexemes that the law draws -/
def menuL : List Str := ["a", "x1", "abcdefghijkl", "root", "0", "7", "10", "305", "1000000000000000000000000000000", "(", ")", "{", "}", ",", ";"]
/-- whether a sign behind the lexeme goes on with it -/
def ext (w : Str) (h : Option Nat) : Bool := match h with
  | none => false
  | some c => match (codes w) with
    | [] => false
    | a :: _ => (inS sLetters a && alnum c) || (inS sDigits a && !(decide (a = 48)) && inS sDigits c)
def kindOf (w : Str) : Str := match (codes w) with
  | [] => "none"
  | a :: _ => if inS sSigns a = true then "sign" else if inS sLetters a = true then "word" else "number"
theorem tw_app {p : Nat → Bool} {w r : List Nat} (hw : w.all p = true) (hr : ∀ c, r.head? = some c → p c = false) : (w ++ r).takeWhile p = w := by
  rw [List.takeWhile_append_of_pos (fun a ha => List.all_eq_true.mp hw a ha)]
  cases r with
  | nil => simp
  | cons c t => rw [List.takeWhile_cons, hr c rfl, if_neg Bool.false_ne_true, List.append_nil]
/-- a lexeme of the menu is one of three kinds -/
def goodTok (w : Str) : Bool := match codes w with
  | [] => false
  | a :: t => if inS sSigns a = true then decide (t = []) else if inS sLetters a = true then (codes w).all alnum && decide ((codes w).length ≤ 12) else if a = 48 then decide (t = []) else inS sDigits a && (codes w).all (inS sDigits)
theorem menu_good : ∀ w ∈ menuL, goodTok w = true := fun w hw => List.all_eq_true.mp (show (menuL.all goodTok) = true by decide +kernel) w hw
theorem tok_menu {w : Str} {r : List Nat} (g : goodTok w = true) (he : ext w r.head? = false) : tokS (codes w ++ r) = some (kindOf w, (codes w).length) := by
  unfold goodTok at g
  unfold kindOf
  cases e : codes w with
  | nil =>
    rw [e] at g
    cases g
  | cons a t =>
    rw [e] at g
    dsimp only at g ⊢
    show tokS (a :: (t ++ r)) = _
    rw [tokS_cons]
    by_cases h1 : inS sSigns a = true
    · rw [if_pos h1] at g
      have ht : t = [] := of_decide_eq_true g
      rw [if_pos h1, if_pos h1, ht]
      rfl
    · rw [if_neg h1] at g
      rw [if_neg h1, if_neg h1]
      by_cases h2 : inS sLetters a = true
      · rw [if_pos h2] at g
        rw [if_pos h2, if_pos h2]
        rw [Bool.and_eq_true, decide_eq_true_eq] at g
        have tw : (a :: (t ++ r)).takeWhile alnum = a :: t := by
          refine tw_app (w := a :: t) (r := r) g.1 fun c hc => ?_
          unfold ext at he
          rw [hc, e] at he
          dsimp only at he
          rw [h2, Bool.true_and, Bool.or_eq_false_iff] at he
          exact he.1
        rw [tw, if_pos g.2]
      · rw [if_neg h2] at g
        rw [if_neg h2, if_neg h2]
        by_cases h3 : a = 48
        · rw [if_pos h3] at g
          have ht : t = [] := of_decide_eq_true g
          rw [if_pos h3, ht]
          rfl
        · rw [if_neg h3] at g
          rw [if_neg h3]
          rw [Bool.and_eq_true] at g
          rw [if_pos g.1]
          have tw : (a :: (t ++ r)).takeWhile (inS sDigits) = a :: t := by
            refine tw_app (w := a :: t) (r := r) g.2 fun c hc => ?_
            unfold ext at he
            rw [hc, e] at he
            dsimp only at he
            rw [Bool.or_eq_false_iff] at he
            have h5 := he.2
            rw [g.1, decide_eq_false h3] at h5
            simpa using h5
          rw [tw]
/-- what the law asks of two lexemes without a gap -/
def mayTouch (last one : Str) : Bool := !(Txt.isalnum (last ++ one)) || (decide (last = "0") || (Txt.isdigit last && !(match codes one with | [] => false | c :: _ => Txt.isdigit ⟨#[c]⟩)))
theorem touch_ext : ∀ w ∈ menuL, ∀ v ∈ menuL, mayTouch w v = true → ext w (codes v).head? = false := fun w hw v hv h => by
  have q := List.all_eq_true.mp (List.all_eq_true.mp (show (menuL.all fun w => menuL.all fun v => !(mayTouch w v) || !(ext w (codes v).head?)) = true by decide +kernel) w hw) v hv
  rw [h] at q
  simpa using q
theorem blank_ext : ∀ w ∈ menuL, ∀ c, inS sBlanks c = true → ext w (some c) = false := fun w hw c hc => by
  have hm : c ∈ sBlanks.cps.toList := of_decide_eq_true hc
  have q := List.all_eq_true.mp (List.all_eq_true.mp (show (menuL.all fun w => sBlanks.cps.toList.all fun c => !(ext w (some c))) = true by decide +kernel) w hw) c hm
  simpa using q
end Bc

namespace Bc
open PySem PySem.Spec PyProof.Rows L2
/-- gaps and lexemes in turn -/
def flatP : List (Str × Str) → List Nat
  | [] => []
  | (g, w) :: r => codes g ++ (codes w ++ flatP r)
def allBlank (z : Str) : Bool := (codes z).all (inS sBlanks)
/-- each gap is blank, and not empty where two lexemes may not touch -/
def Spaced : Str → List (Str × Str) → Prop
  | _, [] => True
  | last, (g, w) :: r => allBlank g = true ∧ (codes g = [] → mayTouch last w = true) ∧ Spaced w r
theorem Spaced.snoc : ∀ {last : Str} {ps : List (Str × Str)} {g w : Str}, Spaced last ps → allBlank g = true → (codes g = [] → mayTouch ((ps.map (·.2)).getLastD last) w = true) → Spaced last (ps ++ [(g, w)])
  | _, [], _, _, _, h1, h2 => ⟨h1, h2, trivial⟩
  | _, (g0, w0) :: r, _, _, ⟨a, b, c⟩, h1, h2 => ⟨a, b, Spaced.snoc c h1 (by
      intro e
      have q := h2 e
      cases r with
      | nil => exact q
      | cons p r' => exact q)⟩
theorem flatP_snoc : ∀ (ps : List (Str × Str)) (g w : Str), flatP (ps ++ [(g, w)]) = flatP ps ++ (codes g ++ codes w)
  | [], g, w => by simp [flatP]
  | (g0, w0) :: r, g, w => by
    show codes g0 ++ (codes w0 ++ flatP (r ++ [(g, w)])) = codes g0 ++ (codes w0 ++ flatP r) ++ (codes g ++ codes w)
    rw [flatP_snoc r g w]
    simp [List.append_assoc]
theorem Lx_gap : ∀ (b : List Nat) (s : List Nat) (i : Nat), b.all (inS sBlanks) = true → Lx (b ++ s) i = Lx s (i + b.length)
  | [], _, _, _ => rfl
  | c :: t, s, i, h => by
    rw [List.all_cons, Bool.and_eq_true] at h
    rw [List.cons_append, Lx_blank h.1, Lx_gap t s (i + 1) h.2, List.length_cons]
    congr 1
    omega
theorem good_ne {w : Str} (g : goodTok w = true) : codes w ≠ [] := fun e => by
  unfold goodTok at g
  rw [e] at g
  cases g
theorem menu_head : ∀ w ∈ menuL, ∀ c, (codes w).head? = some c → inS sBlanks c = false := fun w hw c hc => by
  have q := List.all_eq_true.mp (show (menuL.all fun w => match (codes w).head? with | none => true | some c => !(inS sBlanks c)) = true by decide +kernel) w hw
  rw [hc] at q
  simpa using q
theorem lex_spaced : ∀ (ps : List (Str × Str)) (last : Str) (tail : List Nat) (i : Nat), Spaced last ps → (∀ p ∈ ps, p.2 ∈ menuL) → tail.all (inS sBlanks) = true →
    (Lx (flatP ps ++ tail) i).2 = none ∧ (Lx (flatP ps ++ tail) i).1.map (·.2.1) = ps.map fun p => codes p.2
  | [], _, tail, i, _, _, ht => by
    have e := Lx_gap tail [] i ht
    rw [List.append_nil, Lx_nil] at e
    have e2 : Lx (flatP [] ++ tail) i = ([], none) := e
    rw [e2]
    exact ⟨rfl, rfl⟩
  | (g, w) :: r, last, tail, i, ⟨h1, h2, h3⟩, hm, ht => by
    have hw : w ∈ menuL := hm (g, w) (List.mem_cons_self ..)
    have hr : ∀ p ∈ r, p.2 ∈ menuL := fun p hp => hm p (List.mem_cons_of_mem _ hp)
    have gw := menu_good w hw
    obtain ⟨c, t, ec⟩ : ∃ c t, codes w = c :: t := by
      cases e : codes w with
      | nil => exact absurd e (good_ne gw)
      | cons c t => exact ⟨c, t, rfl⟩
    have hx : ext w (flatP r ++ tail).head? = false := by
      cases r with
      | nil =>
        show ext w ([] ++ tail).head? = false
        rw [List.nil_append]
        cases tail with
        | nil => rfl
        | cons b tl =>
          rw [List.all_cons, Bool.and_eq_true] at ht
          exact blank_ext w hw b ht.1
      | cons p r' =>
        obtain ⟨g', w'⟩ := p
        obtain ⟨k1, k2, k3⟩ := h3
        have hw' : w' ∈ menuL := hr (g', w') (List.mem_cons_self ..)
        show ext w (codes g' ++ (codes w' ++ flatP r') ++ tail).head? = false
        cases eg : codes g' with
        | nil =>
          rw [List.nil_append]
          have q := touch_ext w hw w' hw' (k2 eg)
          cases ew : codes w' with
          | nil => exact absurd ew (good_ne (menu_good w' hw'))
          | cons b tl =>
            rw [ew] at q
            exact q
        | cons b tl =>
          unfold allBlank at k1
          rw [eg, List.all_cons, Bool.and_eq_true] at k1
          exact blank_ext w hw b k1.1
    have tk := tok_menu (r := flatP r ++ tail) gw hx
    have hb : inS sBlanks c = false := menu_head w hw c (by rw [ec]; rfl)
    have step : Lx (flatP ((g, w) :: r) ++ tail) i = Lx (codes w ++ (flatP r ++ tail)) (i + (codes g).length) := by
      show Lx (codes g ++ (codes w ++ flatP r) ++ tail) i = _
      rw [List.append_assoc, List.append_assoc]
      exact Lx_gap (codes g) _ i h1
    have ih := lex_spaced r w tail (i + (codes g).length + (codes w).length) h3 hr ht
    have e2 : Lx (codes w ++ (flatP r ++ tail)) (i + (codes g).length) = ((kindOf w, codes w, i + (codes g).length) :: (Lx (flatP r ++ tail) (i + (codes g).length + (codes w).length)).1, (Lx (flatP r ++ tail) (i + (codes g).length + (codes w).length)).2) := by
      have tk' := tk
      rw [ec, List.cons_append] at tk'
      have q := Lx_tok (i := i + (codes g).length) hb tk'
      have e3 : (c :: (t ++ (flatP r ++ tail))) = codes w ++ (flatP r ++ tail) := by rw [ec]; rfl
      rw [e3, ← ec] at q
      rw [q, List.take_left, List.drop_left]
    rw [step, e2]
    exact ⟨ih.1, by rw [List.map_cons, List.map_cons, ih.2]⟩
end Bc

namespace Bc
open PySem PySem.Spec PyProof.Rows L2
theorem Dq.tup_inv {K : PySem.W.Frag} {H : Hp} {v : V} {ds : List PyData} (h : Dq K H v (.tuple ds)) : ∃ a xs, v = .ref a ∧ SqT K H a xs ∧ DqAll K H xs ds := by
  cases h with
  | tup h1 h2 => exact ⟨_, _, rfl, h1, h2⟩
theorem Dq.lst_inv {K : PySem.W.Frag} {H : Hp} {v : V} {ds : List PyData} (h : Dq K H v (.list ds)) : ∃ a xs, v = .ref a ∧ SqL K H a xs ∧ DqAll K H xs ds ∧ a ≠ sysModules := by
  cases h with
  | lst h1 h2 h3 => exact ⟨_, _, rfl, h1, h2, h3⟩
theorem Dq.str_inv {K : PySem.W.Frag} {H : Hp} {v : V} {x : Str} (h : Dq K H v (.str x)) : v = .str x := by
  cases h
  rfl
theorem Dq.int_inv {K : PySem.W.Frag} {H : Hp} {v : V} {x : Int} (h : Dq K H v (.int x)) : v = .int x := by
  cases h
  rfl
theorem DqAll.cons_inv {K : PySem.W.Frag} {H : Hp} {vs : List V} {d : PyData} {ds : List PyData} (h : DqAll K H vs (d :: ds)) : ∃ v vs', vs = v :: vs' ∧ Dq K H v d ∧ DqAll K H vs' ds := by
  cases h with
  | cons h1 h2 => exact ⟨_, _, rfl, h1, h2⟩
theorem DqAll.nil_inv {K : PySem.W.Frag} {H : Hp} {vs : List V} (h : DqAll K H vs []) : vs = [] := by
  cases h
  rfl
theorem DqAll.app {K : PySem.W.Frag} {H : Hp} : ∀ {vs ws : List V} {ds es : List PyData}, DqAll K H vs ds → DqAll K H ws es → DqAll K H (vs ++ ws) (ds ++ es)
  | _, _, _, _, .nil, h => h
  | _, _, _, _, .cons a b, h => .cons a (DqAll.app b h)
theorem DqAll.get {K : PySem.W.Frag} {H : Hp} : ∀ {vs : List V} {ds : List PyData} (i : Nat) {x : V}, DqAll K H vs ds → vs[i]? = some x → ∃ d, ds[i]? = some d ∧ Dq K H x d
  | _, _, _, _, .nil, h => by cases h
  | _, _, 0, x, .cons a b, h => ⟨_, rfl, by
      cases (Option.some.inj h)
      exact a⟩
  | _, _, i + 1, x, .cons a b, h => DqAll.get i b h
mutual
theorem Dq.dp {K : PySem.W.Frag} {H : Hp} : ∀ {v : V} {d : PyData}, Dq K H v d → d.canLay0 = true → Dp K H v d
  | _, _, .non, _ => .non
  | _, _, .bl b, _ => .bl b
  | _, _, .int i, _ => .int i
  | _, _, .str x, _ => .str x
  | _, _, .lst h t _, c => .lst h (DqAll.dp t c)
  | _, _, .tup h t, c => .tup h (DqAll.dp t c)
  | _, _, .dic _ _, c => by cases c
theorem DqAll.dp {K : PySem.W.Frag} {H : Hp} : ∀ {vs : List V} {ds : List PyData}, DqAll K H vs ds → PyData.canLayAll0 ds = true → DpAll K H vs ds
  | _, _, .nil, _ => .nil
  | _, _, .cons h t, c => by
    rw [PyData.canLayAll0, Bool.and_eq_true] at c
    exact .cons (Dq.dp h c.1) (DqAll.dp t c.2)
end
theorem Dq.dps {K : PySem.W.Frag} {H : Hp} {v : V} {d : PyData} (h : Dq K H v d) (c : SeqAt.shaped d = true) : Dp K H v d := Dq.dp h (SeqAt.canLay_of_shaped c)
/-! written data with names in it -/
def tF (K : PySem.W.Frag) (c : L2.St → Hp → Prop) (d : PyData) : TE := fun σ H Q => (∀ H', Same H H' → c σ H') ∧ ∀ v H', Same H H' → Dq K H' v d → Q v H'
def tFs (K : PySem.W.Frag) (c : L2.St → Hp → Prop) (ds : List PyData) : TA := fun σ H Q => (∀ H', Same H H' → c σ H') ∧ ∀ vs H', Same H H' → DqAll K H' vs ds → Q vs H'
section
variable {X : Cx} {e : Expr} {es : List Expr} {c c' : L2.St → Hp → Prop} {d : PyData} {ds : List PyData} {pos : Pos}
theorem pf_of {c0 : L2.St → Prop} (h : PE X e (tD X.K c0 d)) : PE X e (tF X.K (fun σ _ => c0 σ) d) := PE.imp h fun σ H Q q => ⟨q.1 H (Same.refl H), fun v H' s dq => q.2 v H' s (Dq.same newOf_all dq)⟩
theorem pf_var {i : Nat} {x : Str} (h : PE X (.Name x pos) (tVar i)) : PE X (.Name x pos) (tF X.K (fun σ H => ∃ v, σ[i]? = some (some v) ∧ Dq X.K H v d) d) :=
  PE.imp h fun σ H Q q => by
    obtain ⟨v, e, dq⟩ := q.1 H (Same.refl H)
    exact ⟨v, e, q.2 v H (Same.refl H) dq⟩
theorem pfs_nil : PA X [] (tFs X.K (fun _ _ => True) []) := PA.imp pa_nil fun σ H Q q => q.2 [] H (Same.refl H) .nil
theorem pfs_cons (h : PE X e (tF X.K c d)) (hr : PA X es (tFs X.K c' ds)) (hs : starEach (e :: es) X.env = (false, eval e X.env) :: starEach es X.env := by rfl) : PA X (e :: es) (tFs X.K (fun σ H => c σ H ∧ c' σ H) (d :: ds)) :=
  PA.imp (pa_cons h hr hs) fun σ H Q q => ⟨fun H' s => (q.1 H' s).1, fun v H1 s1 d1 => ⟨fun H' s => (q.1 H' (s1.trans s)).2, fun vs H2 s2 d2 => q.2 (v :: vs) H2 (s1.trans s2) (.cons (Dq.same s2 d1) d2)⟩⟩
theorem pf_lst (h : PA X es (tFs X.K c ds)) (hz : ds.length ≤ sizeLine := by decide) : PE X (.List es pos) (tF X.K c (.list ds)) :=
  PE.imp (pe_lstB h) fun σ H Q q => ⟨q.1, fun vs H1 s1 d1 => ⟨by rw [d1.len]; exact hz, fun p hp np => q.2 _ _ (s1.trans (same_new hp)) (.lst (.inl (.inl upd_same)) (DqAll.same (same_new hp) d1) np)⟩⟩
end
end Bc

namespace Bc
open PySem PySem.Spec PyProof.Rows L2
def topS (i : Nat) : Stmt := PySem.Challenge.pw_bushcoins_k14_texts_of_scripts.main.body.getD i (.Pass ⟨0, 0, 0, 0⟩)
abbrev sSource : Stmt := topS 30
abbrev sPick : Stmt := topS 31
theorem scSource : FnScope ["_law_script", "_law_mixed", "_law_cell"] ["_law_script"] (defScope sSource) := ⟨rfl, rfl, rfl, by decide +kernel, rfl, by decide +kernel, by decide +kernel⟩
theorem scPick : FnScope ["_law_source_here", "_law_many", "_law_left", "_law_mixed"] ["_law_source_here", "_law_many"] (defScope sPick) := ⟨rfl, rfl, rfl, by decide +kernel, rfl, by decide +kernel, by decide +kernel⟩
structure Blt (mg : Str → Option Value) : Prop where
  int : mg "int" = none
  abs : mg "abs" = none
  len : mg "len" = none
  max : mg "max" = none
section
variable {P : Program} {w : World} {K : PySem.W.Frag} {mg : Str → Option Value} {base : Heap}
theorem ok_source {f : Addr} {fd : FuncData} (F : Fun K "_law_source" "_law_source" sSource f fd) (T : Blt mg) : FnOk P w K mg base CX0 1 f fd ["_law_script"] (spSource K) := by
  refine F.ok scSource (fun vs H Q E h => ?_) (fun cdv A outer s H vs Q E hr h => ?_)
  · obtain ⟨a, ns, rfl, _⟩ := h
    rfl
  · obtain ⟨a, ns, rfl, hS, hlen, k⟩ := h
    refine ⟨_, pss_cons (ps_set (i := 1) scSource.nd rfl (.inl rfl) pe_int)
      (pss_cons (ps_for PassesOwn.never rfl (pi_list (pv 0)) (pg_name (i := 2) scSource.nd rfl (.inl rfl))
        (pss_one (ps_set (i := 1) scSource.nd rfl (.inl rfl) (pe_op op_mod (pe_callTy call_int1 (by rfl) T.int (by decide +kernel) (pa_cons (pe_op op_add (pe_op op_add (pe_op op_mul (pv 1) pe_int) (pe_op op_mul (pv 2) pe_int)) pe_int) pa_nil)) pe_int))))
      (pss_one (ps_ret (pe_disp (pps_cons pe_str (pe_revL (pe_lc (own := [("_law_cell", 2)]) (g := gName 2) (tt := tYes) (by rfl) scSource.nd (pi_list (pv 0))
            (blkOk_by (own := [("_law_cell", 2)]) (N := ["_law_script", "_law_mixed", "_law_cell"]) (sc := defScope sSource) (by decide +kernel)) (fun _ _ _ _ _ => pg_name (i := 2) scSource.nd rfl (.inl rfl)) (fun _ _ _ _ _ => pts_nil)
            (fun _ _ _ _ _ => pe_callB call_abs (by rfl) T.abs (by decide +kernel) (pa_cons (pv 2) pa_nil))))
          (pps_cons pe_str pe_int (pps_cons pe_str (pv 1) (pps_cons pe_str pe_int pps_nil)))) rfl rfl (by simp) (by simp))))), ?_⟩
    refine ⟨_, rfl, a, rfl, ⟨_, hS⟩, for_list (K := K) (a := a) (xs := ns.map V.int) (fun i σ H' => ∃ (m : Int) (v : Option V), σ = [some (.ref a), some (.int m), v] ∧ H' = H) ⟨11, none, rfl, rfl⟩ (fun i σ H' _ ⟨_, _, _, e⟩ => by rw [e]; exact hS) ?_ ?_⟩
    · rintro i y σ H' hi ⟨m, v, rfl, rfl⟩
      obtain ⟨z, rfl⟩ : ∃ z, y = V.int z := by
        obtain ⟨z, _, e⟩ := List.mem_map.mp (List.mem_of_getElem? hi)
        exact ⟨z, e.symm⟩
      refine ⟨_, rfl, _, _, rfl, rfl, .inr ⟨by decide, by decide⟩, _, rfl, _, _, rfl, rfl, .inr ⟨by decide, by decide⟩, _, _, rfl, rfl, _, _, rfl, rfl, .inl ⟨_, rfl, _, _, rfl, rfl, (by show (0 : Int) < 2147483629; decide), ?_⟩⟩
      exact ⟨_, _, rfl, rfl⟩
    · rintro σ H' ⟨m, v, rfl, rfl⟩
      intro d hd
      have s1 : Same H' (upd H' d (.dK [])) := same_new hd
      refine ⟨_, rfl, a, rfl, ⟨_, s1.seq hS⟩, fun D hD => lc_list (K := K) (a := a) (xs := ns.map V.int) (fun i H2 => Same (upd H' d (.dK [])) H2 ∧ H2 D = some (.lst (((ns.take i).map fun z => if z < 0 then -z else z).map V.int)))
        ⟨same_new hD, upd_same⟩ (fun i H2 _ h => (s1.trans h.1).seq hS) ?_ ?_⟩
      · rintro i y H2 hi ⟨s2, eD⟩
        obtain ⟨z, hz, rfl⟩ : ∃ z, ns[i]? = some z ∧ y = V.int z := by
          rw [List.getElem?_map] at hi
          cases e : ns[i]? with
          | none =>
            rw [e] at hi
            cases hi
          | some z =>
            rw [e] at hi
            exact ⟨z, rfl, (Option.some.inj hi).symm⟩
        have hil : i < ns.length := (List.getElem?_eq_some_iff.mp hz).1
        refine ⟨rfl, ?_⟩
        refine lc_yes ?_
        refine ⟨_, rfl, _, rfl, _, eD, ?_, fun b o e => ?_, ?_⟩
        · rw [List.length_map, List.length_map, List.length_take]
          exact small1000 (by omega)
        · rw [upd_ne (ne_of_none e hD)]
          exact s2 b o e
        · rw [upd_same, List.take_add_one, hz, List.map_append, List.map_append]
          rfl
      · rintro H2 ⟨s2, eD⟩
        refine ⟨D, _, rfl, .inl (.inl eD), fun p hp => ?_⟩
        have npD : p ≠ D := fun e => by
          rw [e, eD] at hp
          cases hp
        have ed : H2 d = some (.dK []) := s2 _ _ upd_same
        have npd : d ≠ p := fun e => by
          rw [← e, ed] at hp
          cases hp
        refine ⟨_, rfl, ?_, srcKV p 1 m 0, rfl, (by show 4 ≤ 15; decide), ?_⟩
        · rw [upd_ne npd]
          exact ed
        · rw [src_new]
          refine k d p _ (fun b o e => ?_) hd ((s1.trans s2).free hp) ⟨ns.length, hlen, npd, (ns.map fun z => if z < 0 then -z else z).reverse, 1, m, 0, upd_same, ?_, ?_⟩
          · have nb : b ≠ d := ne_of_none e hd
            rw [upd_ne nb]
            have e2 := s2 _ _ (s1 _ _ e)
            rw [upd_ne (ne_of_none e2 hp)]
            exact e2
          · rw [upd_ne npd.symm, upd_same, List.map_reverse, List.length_map, List.take_length]
          · rw [List.length_reverse, List.length_map]
theorem ok_pick {f : Addr} {fd : FuncData} (F : Fun K "_law_pick" "_law_pick" sPick f fd) (T : Blt mg) : FnOk P w K mg base CX0 1 f fd ["_law_source_here", "_law_many"] spPick := by
  refine F.ok scPick (fun vs H Q E h => ?_) (fun cdv A outer s H vs Q E hr h => ?_)
  · obtain ⟨d, c, many, rfl, _⟩ := h
    rfl
  · obtain ⟨d, c, many, rfl, ⟨n, hn, S⟩, hm0, hm1, k⟩ := h
    have hu := hu_of hr
    refine ⟨_, pss_cons (ps_while PassesOwn.never (PW.pt (pw_and (pt_cmpR op_gt (pv 1) pe_int (nomark _)) (pw_and (pt_cmpR op_lt (pe_dget hu (pv 0) pe_str (fun _ _ => rfl)) pe_int (nomark _))
          (pw_and1 (pt_cmpR op_gt (pe_callB call_len (by rfl) T.len (by decide +kernel) (pa_cons (pe_dget hu (pv 0) pe_str (fun _ _ => rfl)) pa_nil)) pe_int (nomark _))))))
        (pss_one (ps_dput hu (pv 0) pe_str (pe_bm0 PySem.F.plainAttrs_list PySem.F.slot_list_pop PySem.F.type_list_pop mt_pop (pe_dget hu (pv 0) pe_str (fun _ _ => rfl))) rfl)))
      (pss_cons (ps_set (i := 2) scPick.nd rfl (.inl rfl) (pe_dget hu (pv 0) pe_str (fun _ _ => rfl)))
      (pss_cons (ps_if (PW.pt (pw_or (pt_cmpR op_lt (pv 1) pe_int (nomark _)) (pw_or1 (pt_cmpR op_gt (pv 2) pe_int (nomark _)))))
        (pss_cons (ps_dput hu (pv 0) pe_str (pe_op op_fdiv (pv 2) (pe_callB (call_max2 rfl) (by rfl) T.max (by decide +kernel) (pa_cons pe_int (pa_cons (pv 1) pa_nil)))) rfl)
          (pss_one (ps_ret (pe_op op_mod (pe_callTy call_int1 (by rfl) T.int (by decide +kernel) (pa_cons (pv 2) pa_nil)) (pe_callB (call_max2 rfl) (by rfl) T.max (by decide +kernel) (pa_cons pe_int (pa_cons (pv 1) pa_nil)))))))
        pss_nil)
      (pss_cons (ps_dput hu (pv 0) pe_str (pe_op op_add (pe_dget hu (pv 0) pe_str (fun _ _ => rfl)) pe_int) rfl)
      (pss_cons (ps_set (i := 3) scPick.nd rfl (.inl rfl) (pe_op op_mod (pe_callTy call_int1 (by rfl) T.int (by decide +kernel) (pa_cons (pe_op op_add (pe_dget hu (pv 0) pe_str (fun _ _ => rfl)) (pe_op op_mul (pe_dget hu (pv 0) pe_str (fun _ _ => rfl)) pe_int)) pa_nil)) pe_int))
      (pss_cons (ps_set (i := 3) scPick.nd rfl (.inl rfl) (pe_op op_mod (pe_callTy call_int1 (by rfl) T.int (by decide +kernel) (pa_cons (pe_op op_add (pe_op op_mul (pv 3) (pv 3)) (pe_op op_mul (pe_dget hu (pv 0) pe_str (fun _ _ => rfl)) pe_int)) pa_nil)) pe_int))
      (pss_cons (ps_dput hu (pv 0) pe_str (pv 3) rfl)
      (pss_one (ps_ret (pe_op op_mod (pe_callTy call_int1 (by rfl) T.int (by decide +kernel) (pa_cons (pe_op op_fdiv (pv 3) pe_int) pa_nil)) (pv 1)))))))))), ?_⟩
    refine while_of (fun m σ H1 => σ = [some (.ref d), some (.int many), none, none] ∧ SrcN H1 d c m ∧ m ≤ 100 ∧ Else d c H H1) ⟨n, rfl, S, hn, Else.refl⟩ ?_ ?_
    · rintro m σ H1 ⟨rfl, ⟨ne, cells, l, mx, t, hd, hc, hl⟩, hm, hE⟩
      have small : ∀ c l m t, (srcKV c l m t).length < sizeLine := fun _ _ _ _ => small1000 (show 4 ≤ 1000 by decide)
      have again : ∀ l' mx' t', SrcAt (upd H1 d (.dK (srcKV c l' mx' t'))) d c := fun l' mx' t' => ⟨m, hm, ne, cells, l', mx', t', upd_same, by rw [upd_ne ne.symm]; exact hc, hl⟩
      have hmax : (if many > 1 then many else 1) = max 1 many := by omega
      -- left
      refine ⟨_, rfl, d, _, rfl, DGet.k (k := Sum.inr "left") hd, ?_⟩
      -- many < 2 or left > 1
      have early : (2 : Int) > many ∨ l > 1 → (sDPut (tVar 0) (tC (V.str "left")) (tOp (rI CDiv fun i j => V.int (i / j)) (tVar 2) (tCB (fun xs H Q => ∃ i j, xs = [V.int i, V.int j] ∧ Q (V.int (if j > i then j else i)) H) (tCons (tC (V.int 1)) (tCons (tVar 1) tNil)))))
          { nx := fun σ H => (tRet (tOp (rI (fun x j => 0 < j) fun i j => V.int (i % j)) (tCB (fun xs H Q => (∃ i, xs = [V.int i] ∧ Q (V.int i) H) ∨ ∃ k, xs = [V.bl k] ∧ Q (V.int (if k = true then 1 else 0)) H) (tCons (tVar 2) tNil))
              (tCB (fun xs H Q => ∃ i j, xs = [V.int i, V.int j] ∧ Q (V.int (if j > i then j else i)) H) (tCons (tC (V.int 1)) (tCons (tVar 1) tNil))))) { nx := fun _ H' => Q .non H', rt := Q } σ H, rt := Q }
          [some (.ref d), some (.int many), some (.int l), none] H1 := by
        intro _
        refine ⟨_, rfl, _, rfl, 1, many, rfl, _, _, rfl, rfl, ⟨by omega, by omega⟩, ?_⟩
        refine ⟨_, rfl, d, _, rfl, DPut.k (k := Sum.inr "left") hd (small _ _ _ _), ?_⟩
        rw [put_left]
        refine ⟨_, rfl, .inl ⟨_, rfl, _, rfl, 1, many, rfl, _, _, rfl, rfl, (by rw [hmax]; omega), ?_⟩⟩
        rw [hmax]
        exact k _ _ (Int.emod_nonneg _ (by omega)) (Int.emod_lt_of_pos _ (by omega)) (again _ _ _) (hE.trans Else.updD)
      refine ⟨_, rfl, _, _, rfl, rfl, _, rfl, ?_⟩
      refine ite2 (fun h => ?_) (fun h1 => ?_)
      · exact early (.inl (of_decide_eq_true h))
      · refine ⟨_, rfl, _, _, rfl, rfl, _, rfl, ?_⟩
        refine ite2 (fun h => ?_) (fun h2 => ?_)
        · exact early (.inr (of_decide_eq_true h))
        · have g1 : ¬ many < 2 := fun z => h1 (decide_eq_true z)
          -- turn
          refine ⟨_, rfl, d, _, rfl, DGet.k (k := Sum.inr "turn") hd, _, _, rfl, rfl, _, rfl, d, _, rfl, DPut.k (k := Sum.inr "turn") hd (small _ _ _ _), ?_⟩
          rw [put_turn]
          have hd2 : (upd H1 d (.dK (srcKV c l mx (t + 1)))) d = some (.dK (srcKV c l mx (t + 1))) := upd_same
          -- mixed
          refine ⟨_, rfl, d, _, rfl, DGet.k (k := Sum.inr "mixed") hd2, _, rfl, d, _, rfl, DGet.k (k := Sum.inr "turn") hd2, _, _, rfl, rfl, .inr ⟨by decide, by decide⟩, _, _, rfl, rfl, .inl ⟨_, rfl, _, _, rfl, rfl, (by show (0 : Int) < 998244353; decide), ?_⟩⟩
          -- mixed again
          refine ⟨_, rfl, _, rfl, _, _, rfl, rfl, .inl ⟨?_, ?_⟩, _, rfl, d, _, rfl, DGet.k (k := Sum.inr "turn") hd2, _, _, rfl, rfl, .inr ⟨by decide, by decide⟩, _, _, rfl, rfl, .inl ⟨_, rfl, _, _, rfl, rfl, (by show (0 : Int) < 2147483647; decide), ?_⟩⟩
          · omega
          · omega
          refine ⟨_, rfl, _, rfl, d, _, rfl, DPut.k (k := Sum.inr "mixed") hd2 (small _ _ _ _), ?_⟩
          rw [put_mixed, upd_upd]
          refine ⟨_, rfl, _, _, rfl, rfl, ⟨by decide, by decide⟩, .inl ⟨_, rfl, _, rfl, _, _, rfl, rfl, (by show (0 : Int) < many; omega), ?_⟩⟩
          exact k _ _ (Int.emod_nonneg _ (by omega)) (by have := Int.emod_lt_of_pos (((((mx + (t + 1) * 104729) % 998244353) * ((mx + (t + 1) * 104729) % 998244353) + (t + 1) * 17) % 2147483647) / 16) (show (0 : Int) < many by omega); omega) (again _ _ _) (hE.trans Else.updD)
    · rintro m σ H1 ⟨rfl, ⟨ne, cells, l, mx, t, hd, hc, hl⟩, hm, hE⟩ fin
      -- many > 1
      refine ⟨_, rfl, _, _, rfl, rfl, _, rfl, ?_⟩
      refine ite2 (fun _ => ?_) (fun _ => fin)
      -- left < 2
      refine ⟨_, rfl, d, _, rfl, DGet.k (k := Sum.inr "left") hd, _, _, rfl, rfl, _, rfl, ?_⟩
      refine ite2 (fun _ => ?_) (fun _ => fin)
      -- len(cells) > 0
      refine ⟨_, rfl, d, _, rfl, DGet.k (k := Sum.inr "cells") hd, _, cells.length, rfl, .inl ⟨_, .inl (.inl hc), (by rw [List.length_map])⟩, _, _, rfl, rfl, _, rfl, ?_⟩
      refine ite2 (fun hpos => ?_) (fun _ => fin)
      have hp : (0 : Int) < (cells.length : Int) := of_decide_eq_true hpos
      obtain ⟨x, hx⟩ : ∃ x, cells.getLast? = some x := by
        cases cells with
        | nil => exact absurd hp (by decide)
        | cons a r => exact ⟨_, List.getLast?_eq_some_getLast (by simp)⟩
      refine ⟨fun σ' H' => σ' = [some (.ref d), some (.int many), none, none] ∧ SrcN H' d c (m - 1) ∧ m - 1 ≤ 100 ∧ Else d c H H', fun σ' H' h => ⟨m - 1, by omega, h⟩, ?_⟩
      refine ⟨_, rfl, d, _, rfl, DGet.k (k := Sum.inr "cells") hd, .inl ⟨rfl, _, .inl (.inl hc)⟩, c, _, _, rfl, rfl, hc, pop_last hx, ?_⟩
      have hd3 : (upd H1 c (.lst (cells.map V.int).dropLast)) d = some (.dK (srcKV c l mx t)) := by
        rw [upd_ne ne]
        exact hd
      refine ⟨_, rfl, d, _, rfl, DPut.k (k := Sum.inr "left") hd3 (small1000 (show 4 ≤ 1000 by decide)), ?_⟩
      refine ⟨rfl, ⟨ne, cells.dropLast, x, mx, t, ?_, ?_, ?_⟩, by omega, (hE.trans Else.updC).trans Else.updD⟩
      · rw [upd_same, put_left]
      · rw [upd_ne ne.symm, upd_same, List.map_dropLast]
      · rw [List.length_dropLast, hl]
end
end Bc

namespace Bc
open PySem PySem.Spec PyProof.Rows L2
abbrev sRun : Stmt := topS 17
abbrev sLexAt : Stmt := topS 18
abbrev sScan : Stmt := topS 19
theorem scRun : FnScope ["text", "place", "letters"] ["text", "place", "letters"] (defScope sRun) := ⟨rfl, rfl, rfl, by decide +kernel, rfl, by decide +kernel, by decide +kernel⟩
theorem scLexAt : FnScope ["text", "place", "first", "end"] ["text", "place"] (defScope sLexAt) := ⟨rfl, rfl, rfl, by decide +kernel, rfl, by decide +kernel, by decide +kernel⟩
theorem scScan : FnScope ["text", "found", "place", "sort", "end"] ["text"] (defScope sScan) := ⟨rfl, rfl, rfl, by decide +kernel, rfl, by decide +kernel, by decide +kernel⟩
/-- the module's constants -/
structure Cts (mg : Str → Option Value) : Prop where
  le : ∃ t, mg "LETTERS" = some (.str sLetters t)
  di : ∃ t, mg "DIGITS" = some (.str sDigits t)
  si : ∃ t, mg "SIGNS" = some (.str sSigns t)
  bl : ∃ t, mg "BLANKS" = some (.str sBlanks t)
  lo : ∃ t, mg "LONGEST" = some (.int 12 t)
theorem pe_cstr {X : Cx} {x z : Str} {pos : Pos} (hg : Gl X x) (hm : ∃ t, X.mg x = some (.str z t)) (hd : (x == ("__debug__" : Str)) = false := by decide) : PE X (.Name x pos) (tC (.str z)) := by
  obtain ⟨t, hm⟩ := hm
  exact pe_glob (v := .str z) hg hm ⟨t, rfl⟩ hd
theorem pe_cint {X : Cx} {x : Str} {z : Int} {pos : Pos} (hg : Gl X x) (hm : ∃ t, X.mg x = some (.int z t)) (hd : (x == ("__debug__" : Str)) = false := by decide) : PE X (.Name x pos) (tC (.int z)) := by
  obtain ⟨t, hm⟩ := hm
  exact pe_glob (v := .int z) hg hm ⟨t, rfl⟩ hd
/-- how far a run goes -/
def runTo (z ls : Str) (p : Nat) : Nat := p + (((codes z).drop p).takeWhile (inS ls)).length
theorem drop_at {z : Str} {p : Nat} (h : p < z.length) : ∃ c, (codes z)[p]? = some c ∧ (codes z).drop p = c :: (codes z).drop (p + 1) := by
  have hl : p < (codes z).length := by
    show p < z.cps.toList.length
    rw [Array.length_toList]
    exact h
  exact ⟨(codes z)[p], List.getElem?_eq_getElem hl, List.drop_eq_getElem_cons hl⟩
theorem runTo_on {z ls : Str} {p c : Nat} (e : (codes z).drop p = c :: (codes z).drop (p + 1)) (h : inS ls c = true) : runTo z ls p = runTo z ls (p + 1) := by
  unfold runTo
  rw [e, List.takeWhile_cons, if_pos h, List.length_cons]
  omega
theorem runTo_off {z ls : Str} {p c : Nat} (e : (codes z).drop p = c :: (codes z).drop (p + 1)) (h : ¬ inS ls c = true) : runTo z ls p = p := by
  unfold runTo
  rw [e, List.takeWhile_cons, if_neg h]
  rfl
theorem runTo_end {z ls : Str} {p : Nat} (h : z.length ≤ p) : runTo z ls p = p := by
  unfold runTo
  rw [List.drop_eq_nil_of_le (by show z.cps.toList.length ≤ p; rw [Array.length_toList]; exact h)]
  rfl
theorem runTo_le {z ls : Str} {p : Nat} (h : p ≤ z.length) : runTo z ls p ≤ z.length := by
  have q := (List.takeWhile_sublist (inS ls) (l := (codes z).drop p)).length_le
  rw [List.length_drop] at q
  have e : (codes z).length = z.length := Array.length_toList
  unfold runTo
  omega
def spRun : Sp := fun vs H Q _ => ∃ (z ls : Str) (p : Nat), vs = [.str z, .int p, .str ls] ∧ p ≤ z.length ∧ z.length ≤ 20000 ∧ Q (.int (runTo z ls p : Nat)) H
theorem sz20 {n : Nat} (h : n ≤ 20000) : n ≤ sizeLine := Nat.le_trans h (by decide)
section
variable {P : Program} {w : World} {K : PySem.W.Frag} {mg : Str → Option Value} {base : Heap}
theorem ok_run {f : Addr} {fd : FuncData} (F : Fun K "run_end" "run_end" sRun f fd) (T : Blt mg) : FnOk P w K mg base CX0 1 f fd ["text", "place", "letters"] spRun := by
  refine F.ok scRun (fun vs H Q E h => ?_) (fun cdv A outer s H vs Q E hr h => ?_)
  · obtain ⟨z, ls, p, rfl, _⟩ := h
    rfl
  · obtain ⟨z, ls, p, rfl, hp, hz, k⟩ := h
    refine ⟨_, pss_cons (ps_while PassesOwn.never (PW.pt (pw_and (pt_cmpR op_lt (pv 1) (pe_callB call_len (by rfl) T.len (by decide +kernel) (pa_cons (pv 0) pa_nil)) (nomark _))
        (pw_and1 (pt_cmpR op_in_sign (pe_ix ix_str (pv 0) (pv 1) (fun _ _ => rfl)) (pv 2) (by rfl))))) (pss_one (ps_aug (i := 1) scRun.nd rfl (.inl rfl) pe_int ip_add)))
      (pss_one (ps_ret (pv 1))), ?_⟩
    refine while_ex (fun m σ H1 => H1 = H ∧ ∃ q : Nat, σ = [some (.str z), some (.int q), some (.str ls)] ∧ q ≤ z.length ∧ m = z.length - q ∧ runTo z ls q = runTo z ls p)
      (fun σ H1 => H1 = H ∧ σ = [some (.str z), some (.int (runTo z ls p : Nat)), some (.str ls)]) ⟨_, rfl, p, rfl, hp, rfl, rfl⟩ ?_ ?_
    · rintro σ H1 ⟨rfl, rfl⟩
      exact ⟨_, rfl, k⟩
    · rintro m σ H1 ⟨rfl, q, rfl, hq, hm, he⟩ fin
      refine ⟨_, rfl, _, rfl, .str z, z.length, rfl, ⟨sz20 hz, rfl⟩, _, _, rfl, rfl, _, rfl, ?_⟩
      refine ite2 (fun h1 => ?_) (fun h1 => fin _ _ ⟨rfl, ?_⟩)
      · have hq1 : q < z.length := by
          have := of_decide_eq_true h1
          omega
        obtain ⟨c, hc, hd⟩ := drop_at hq1
        refine ⟨_, rfl, _, rfl, z, _, c, rfl, rfl, sz20 hz, atI_nat hc, _, rfl, c, ls, rfl, rfl, _, rfl, ?_⟩
        refine ite2 (fun h2 => ?_) (fun h2 => fin _ _ ⟨rfl, ?_⟩)
        · refine ⟨fun σ' H' => H' = H1 ∧ ∃ q' : Nat, σ' = [some (.str z), some (.int q'), some (.str ls)] ∧ q' ≤ z.length ∧ m - 1 = z.length - q' ∧ runTo z ls q' = runTo z ls p, fun σ' H' h => ⟨m - 1, by omega, h⟩, ?_⟩
          exact ⟨_, rfl, _, _, rfl, rfl, rfl, q + 1, rfl, by omega, by omega, (runTo_on hd h2).symm.trans he⟩
        · rw [← he, runTo_off hd h2]
      · have hq1 : z.length ≤ q := by
          have : ¬ ((q : Int) < (z.length : Int)) := fun y => h1 (decide_eq_true y)
          omega
        rw [← he, runTo_end hq1]
/-- the lexeme at a place, as values -/
def tokV (z : Str) (i : Nat) : List V := match tokS ((codes z).drop i) with
  | none => [.non, .int i]
  | some (k, m) => [.str k, .int (i + m : Nat)]
def spLexAt (K : PySem.W.Frag) : Sp := fun vs H Q _ => ∃ (z : Str) (i : Nat), vs = [.str z, .int i] ∧ i < z.length ∧ z.length ≤ 20000 ∧ ∀ q, H q = none → Q (.ref q) (upd H q (.tup (tokV z i)))
theorem run_len {z ls : Str} {p : Nat} : runTo z ls p = p + (((codes z).drop p).takeWhile (inS ls)).length := rfl
theorem dec_zero {c : Nat} : decide (V.str ⟨#[c]⟩ = V.str "0") = decide (c = 48) := by
  refine decide_eq_decide.mpr ⟨fun h => ?_, fun h => by rw [h]; rfl⟩
  have e := V.str.inj h
  have e2 : ([c] : List Nat) = [48] := congrArg (fun z : Str => z.cps.toList) e
  exact (List.cons.inj e2).1
theorem ok_lexAt {f fR : Addr} {fd fdR : FuncData} (F : Fun K "lexeme_at" "lexeme_at" sLexAt f fd) (T : Cts mg) (GR : FnOk P w K mg base CX0 1 fR fdR ["text", "place", "letters"] spRun) (bR : Binds K fdR ["text", "place", "letters"] [])
    (gR : mg "run_end" = some (.ref fR)) (kR : PySem.W.keepIn K (.ref fR) = true) : FnOk P w K mg base CX0 2 f fd ["text", "place"] (spLexAt K) := by
  refine F.ok scLexAt (fun vs H Q E h => ?_) (fun cdv A outer s H vs Q E hr h => ?_)
  · obtain ⟨z, i, rfl, _⟩ := h
    rfl
  · obtain ⟨z, i, rfl, hi, hz, k⟩ := h
    obtain ⟨c, hc, hd⟩ := drop_at hi
    have two : 2 ≤ sizeLine := by decide
    have res : ∀ {vs : List V} {H1 : Hp}, H1 = H → vs = tokV z i → vs.length ≤ sizeLine ∧ ∀ p, H1 p = none → Q (.ref p) (upd H1 p (.tup vs)) := fun {vs H1} e1 e2 => by
      subst e1 e2
      refine ⟨?_, fun p hp => k p hp⟩
      unfold tokV
      split <;> exact two
    refine ⟨_, pss_cons (ps_set (i := 2) scLexAt.nd rfl (.inl rfl) (pe_ix ix_str (pv 0) (pv 1) (fun _ _ => rfl)))
      (pss_cons (ps_if (pt_cmpR op_in_sign (pv 2) (pe_cstr (by rfl) T.si) (by rfl)) (pss_one (ps_ret (pe_tup (pa_cons pe_str (pa_cons (pe_op op_add (pv 1) pe_int) pa_nil))))) pss_nil)
      (pss_cons (ps_if (pt_cmpR op_in_sign (pv 2) (pe_cstr (by rfl) T.le) (by rfl))
        (pss_cons (ps_set (i := 3) scLexAt.nd rfl (.inl rfl) (pe_call GR hr (by rfl) gR kR bR .nil pass0 (pa_cons (pv 0) (pa_cons (pv 1) (pa_cons (pe_op op_add_str (pe_cstr (by rfl) T.le) (pe_cstr (by rfl) T.di)) pa_nil)))))
        (pss_one (ps_ret (pe_ifExp (pt_cmpR op_le (pe_op op_sub (pv 3) (pv 1)) (pe_cint (by rfl) T.lo) (nomark _)) (pe_tup (pa_cons pe_str (pa_cons (pv 3) pa_nil))) (pe_tup (pa_cons pe_non (pa_cons (pv 1) pa_nil))))))) pss_nil)
      (pss_cons (ps_if (pt_cmpR op_eq (pv 2) pe_str (nomark _)) (pss_one (ps_ret (pe_tup (pa_cons pe_str (pa_cons (pe_op op_add (pv 1) pe_int) pa_nil))))) pss_nil)
      (pss_cons (ps_if (pt_cmpR op_in_sign (pv 2) (pe_cstr (by rfl) T.di) (by rfl)) (pss_one (ps_ret (pe_tup (pa_cons pe_str (pa_cons (pe_call GR hr (by rfl) gR kR bR .nil pass0 (pa_cons (pv 0) (pa_cons (pv 1) (pa_cons (pe_cstr (by rfl) T.di) pa_nil)))) pa_nil))))) pss_nil)
      (pss_one (ps_ret (pe_tup (pa_cons pe_non (pa_cons (pv 1) pa_nil))))))))), ?_⟩
    refine ⟨_, rfl, _, rfl, z, _, c, rfl, rfl, sz20 hz, atI_nat hc, ?_⟩
    have tk := tokS_cons c ((codes z).drop (i + 1))
    rw [← hd] at tk
    -- in SIGNS
    refine ⟨_, rfl, c, sSigns, rfl, rfl, _, rfl, ?_⟩
    refine ite2 (fun h1 => ?_) (fun h1 => ?_)
    · have h1' : inS sSigns c = true := h1
      rw [if_pos h1'] at tk
      refine ⟨_, rfl, _, _, rfl, rfl, res rfl ?_⟩
      unfold tokV
      rw [tk]
      rfl
    have h1' : ¬ inS sSigns c = true := h1
    rw [if_neg h1'] at tk
    -- in LETTERS
    refine ⟨_, rfl, c, sLetters, rfl, rfl, _, rfl, ?_⟩
    refine ite2 (fun h2 => ?_) (fun h2 => ?_)
    · have h2' : inS sLetters c = true := h2
      rw [if_pos h2'] at tk
      refine ⟨_, rfl, _, rfl, _, _, rfl, rfl, (by decide +kernel), z, sLetters ++ sDigits, i, rfl, by omega, hz, ?_⟩
      refine ⟨_, rfl, _, rfl, _, _, rfl, rfl, _, _, rfl, rfl, _, rfl, ?_⟩
      have hl : runTo z (sLetters ++ sDigits) i = i + (((codes z).drop i).takeWhile alnum).length := rfl
      refine ite2 (fun h3 => ?_) (fun h3 => ?_)
      · have h3' : (((codes z).drop i).takeWhile alnum).length ≤ 12 := by
          have := of_decide_eq_true h3
          omega
        rw [if_pos h3'] at tk
        refine ⟨_, rfl, res rfl ?_⟩
        unfold tokV
        rw [tk]
        rfl
      · have h3' : ¬ (((codes z).drop i).takeWhile alnum).length ≤ 12 := fun y => h3 (decide_eq_true (by omega))
        rw [if_neg h3'] at tk
        refine ⟨_, rfl, res rfl ?_⟩
        unfold tokV
        rw [tk]
    have h2' : ¬ inS sLetters c = true := h2
    rw [if_neg h2'] at tk
    -- == "0"
    refine ⟨_, rfl, rfl, _, rfl, ?_⟩
    rw [dec_zero]
    refine ite2 (fun h3 => ?_) (fun h3 => ?_)
    · rw [if_pos (of_decide_eq_true h3)] at tk
      refine ⟨_, rfl, _, _, rfl, rfl, res rfl ?_⟩
      unfold tokV
      rw [tk]
      rfl
    rw [if_neg (fun y => h3 (decide_eq_true y))] at tk
    -- in DIGITS
    refine ⟨_, rfl, c, sDigits, rfl, rfl, _, rfl, ?_⟩
    refine ite2 (fun h4 => ?_) (fun h4 => ?_)
    · have h4' : inS sDigits c = true := h4
      rw [if_pos h4'] at tk
      refine ⟨_, rfl, _, rfl, z, sDigits, i, rfl, by omega, hz, res rfl ?_⟩
      unfold tokV
      rw [tk]
      rfl
    have h4' : ¬ inS sDigits c = true := h4
    rw [if_neg h4'] at tk
    refine ⟨_, rfl, res rfl ?_⟩
    unfold tokV
    rw [tk]
end
end Bc

namespace Bc
open PySem PySem.Spec PyProof.Rows L2
theorem iteD {c A B : Prop} [Decidable c] (hc : c) (h : A) : if decide c = true then A else B := by
  rw [decide_eq_true hc]
  exact iteT h
/-- a lexeme as data -/
def tokD (t : Tok) : PyData := .tuple [.str t.1, .str ⟨t.2.1.toArray⟩, .int t.2.2]
def wrongV (z : Str) : V := match (Lx (codes z) 0).2 with
  | none => .non
  | some j => .int j
theorem DqAll.snoc {K : PySem.W.Frag} {H : Hp} : ∀ {vs : List V} {ds : List PyData} {v : V} {d : PyData}, DqAll K H vs ds → Dq K H v d → DqAll K H (vs ++ [v]) (ds ++ [d])
  | _, _, _, _, .nil, h => .cons h .nil
  | _, _, _, _, .cons a t, h => .cons a (DqAll.snoc t h)
theorem cut_tok {z : Str} {i m : Nat} (h : i + m ≤ z.length) : cutS z (some (i : Int)) (some ((i + m : Nat) : Int)) = ⟨(((codes z).drop i).take m).toArray⟩ := by
  unfold cutS
  rw [HT.sIx_nat, HT.sIx_nat, Nat.min_eq_left h, Nat.min_eq_left (show i ≤ z.length by omega), Nat.add_sub_cancel_left]
  rfl
def spScan (K : PySem.W.Frag) : Sp := fun vs H Q _ => ∃ z : Str, vs = [.str z] ∧ z.length ≤ 20000 ∧ ∀ (q l : Addr) (H' : Hp) (ws : List V), Same H H' → H l = none → l ≠ sysModules → SqT K H' q [.ref l, wrongV z] → H' l = some (.lst ws) →
  DqAll K (hid l l H') ws ((Lx (codes z) 0).1.map tokD) → Q (.ref q) H'
theorem hid1_same {f : Addr} {H H' : Hp} (h : ∀ b o, b ≠ f → H b = some o → H' b = some o) : Same (hid f f H) (hid f f H') := fun b o e => by
  unfold hid at e ⊢
  by_cases q : b = f ∨ b = f
  · rw [if_pos q] at e
    cases e
  · rw [if_neg q] at e ⊢
    exact h b o (fun z => q (.inl z)) e
theorem Same.over {H H1 : Hp} {f : Addr} {o : HO} (s : Same H H1) (n : H f = none) : Same H (upd H1 f o) := fun b u e => by
  rw [upd_ne (ne_of_none e n)]
  exact s b u e
section
variable {P : Program} {w : World} {K : PySem.W.Frag} {mg : Str → Option Value} {base : Heap}
theorem ok_scan {f fL : Addr} {fd fdL : FuncData} (F : Fun K "scan" "scan" sScan f fd) (B : Blt mg) (T : Cts mg) (GL : FnOk P w K mg base CX0 2 fL fdL ["text", "place"] (spLexAt K)) (bL : Binds K fdL ["text", "place"] [])
    (gL : mg "lexeme_at" = some (.ref fL)) (kL : PySem.W.keepIn K (.ref fL) = true) : FnOk P w K mg base CX0 3 f fd ["text"] (spScan K) := by
  refine F.ok scScan (fun vs H Q E h => ?_) (fun cdv A outer s H vs Q E hr h => ?_)
  · obtain ⟨z, rfl, _⟩ := h
    rfl
  · obtain ⟨z, rfl, hz, k⟩ := h
    refine ⟨_, pss_cons (ps_set (i := 1) scScan.nd rfl (.inl rfl) (pe_lstB pa_nil))
      (pss_cons (ps_set (i := 2) scScan.nd rfl (.inl rfl) pe_int)
      (pss_cons (ps_while PassesOwn.never (pt_cmpR op_lt (pv 2) (pe_callB call_len (by rfl) B.len (by decide +kernel) (pa_cons (pv 0) pa_nil)) (nomark _))
        (pss_one (ps_if (pt_cmpR op_in_sign (pe_ix ix_str (pv 0) (pv 2) (fun _ _ => rfl)) (pe_cstr (by rfl) T.bl) (by rfl)) (pss_one (ps_aug (i := 2) scScan.nd rfl (.inl rfl) pe_int ip_add))
          (pss_cons (ps_asg (pe_call GL hr (by rfl) gL kL bL .nil pass0 (pa_cons (pv 0) (pa_cons (pv 2) pa_nil))) (pg_tup rfl (pgs_cons (pg_name (i := 3) scScan.nd rfl (.inl rfl)) (pgs_cons (pg_name (i := 4) scScan.nd rfl (.inl rfl)) pgs_nil))))
          (pss_cons (ps_if (pt_cmpR op_isN (pv 3) pe_non (nomark _)) (pss_one (ps_ret (pe_tup (pa_cons (pv 1) (pa_cons (pv 2) pa_nil))))) pss_nil)
          (pss_cons (ps_expr (pe_bm PySem.F.plainAttrs_list PySem.F.slot_list_append PySem.F.type_list_append mt_append (pv 1) (pa_cons (pe_tup (pa_cons (pv 3) (pa_cons (pe_slice sl_str (pv 0) (po_some (pv 2)) (po_some (pv 4))) (pa_cons (pv 2) pa_nil)))) pa_nil)))
          (pss_one (ps_set (i := 2) scScan.nd rfl (.inl rfl) (pv 4)))))))))
      (pss_one (ps_ret (pe_tup (pa_cons (pv 1) (pa_cons pe_non pa_nil))))))), ?_⟩
    refine ⟨Nat.zero_le _, fun g hg gs => ?_⟩
    refine while_ex (fun m σ H1 => ∃ (i : Nat) (vs : List V) (done : List Tok) (v3 v4 : Option V), σ = [some (.str z), some (.ref g), some (.int i), v3, v4] ∧ i ≤ z.length ∧ m = z.length - i ∧ H1 g = some (.lst vs) ∧ DqAll K (hid g g H1) vs (done.map tokD) ∧ Same H H1 ∧ done.length ≤ i ∧
        done ++ (Lx ((codes z).drop i) i).1 = (Lx (codes z) 0).1 ∧ (Lx ((codes z).drop i) i).2 = (Lx (codes z) 0).2)
      (fun σ H1 => ∃ (v2 : V) (vs : List V) (v3 v4 : Option V), σ = [some (.str z), some (.ref g), some v2, v3, v4] ∧ H1 g = some (.lst vs) ∧ DqAll K (hid g g H1) vs ((Lx (codes z) 0).1.map tokD) ∧ Same H H1 ∧ (Lx (codes z) 0).2 = none)
      ⟨_, 0, [], [], none, none, rfl, Nat.zero_le _, rfl, upd_same, .nil, same_new hg, Nat.le_refl _, rfl, rfl⟩ ?_ ?_
    · rintro σ H1 ⟨v2, vs, v3, v4, rfl, eg, dq, sm, hw⟩
      refine ⟨_, rfl, (by show 2 ≤ sizeLine; decide), fun q hq => ?_⟩
      have nq : q ≠ g := fun e => by
        rw [e, eg] at hq
        cases hq
      refine k q g _ vs (sm.trans (same_new hq)) hg gs (.inl (.inl ?_)) (by rw [upd_ne nq.symm]; exact eg) (DqAll.same (hid_up (same_new hq)) dq)
      rw [upd_same]
      unfold wrongV
      rw [hw]
    · rintro m σ H1 ⟨i, vs, done, v3, v4, rfl, hi, hm, eg, dq, sm, hdl, e1, e2⟩ fin
      refine ⟨_, rfl, _, rfl, .str z, z.length, rfl, ⟨sz20 hz, rfl⟩, _, _, rfl, rfl, _, rfl, ?_⟩
      refine ite2 (fun h1 => ?_) (fun h1 => fin _ _ ?_)
      · have hi1 : i < z.length := by
          have := of_decide_eq_true h1
          omega
        obtain ⟨c, hc, hd⟩ := drop_at hi1
        refine ⟨fun σ' H' => ∃ m', m' < m ∧ ∃ (i : Nat) (vs : List V) (done : List Tok) (v3 v4 : Option V), σ' = [some (.str z), some (.ref g), some (.int i), v3, v4] ∧ i ≤ z.length ∧ m' = z.length - i ∧ H' g = some (.lst vs) ∧ DqAll K (hid g g H') vs (done.map tokD) ∧ Same H H' ∧ done.length ≤ i ∧
          done ++ (Lx ((codes z).drop i) i).1 = (Lx (codes z) 0).1 ∧ (Lx ((codes z).drop i) i).2 = (Lx (codes z) 0).2, fun σ' H' h => h, ?_⟩
        -- text[place] in BLANKS
        refine ⟨_, rfl, _, rfl, z, _, c, rfl, rfl, sz20 hz, atI_nat hc, c, sBlanks, rfl, rfl, _, rfl, ?_⟩
        refine ite2 (fun h2 => ?_) (fun h2 => ?_)
        · have h2' : inS sBlanks c = true := h2
          refine ⟨_, rfl, _, _, rfl, rfl, m - 1, by omega, i + 1, vs, done, v3, v4, rfl, by omega, by omega, eg, dq, sm, by omega, ?_, ?_⟩
          · rw [← e1, hd, Lx_blank h2']
          · rw [← e2, hd, Lx_blank h2']
        · have h2' : inS sBlanks c = false := by
            have q : ¬ inS sBlanks c = true := h2
            simpa using q
          refine ⟨_, rfl, _, rfl, z, i, rfl, hi1, hz, fun q hq => ?_⟩
          have nqg : q ≠ g := fun e => by
            rw [e, eg] at hq
            cases hq
          have sq : Same H1 (upd H1 q (.tup (tokV z i))) := same_new hq
          cases et : tokS ((codes z).drop i) with
          | none =>
            have ev : tokV z i = [.non, .int i] := by
              unfold tokV
              rw [et]
            rw [ev] at sq ⊢
            refine ⟨q, _, rfl, .inl (.inl upd_same), rfl, _, _, rfl, _, _, rfl, rfl, ?_⟩
            refine ⟨_, rfl, rfl, _, rfl, ?_⟩
            refine iteD rfl ?_
            have et' := et
            rw [hd] at et'
            have bad := Lx_bad (i := i) h2' et'
            rw [← hd] at bad
            rw [bad, List.append_nil] at e1
            rw [bad] at e2
            refine ⟨_, rfl, _, rfl, (by show 2 ≤ sizeLine; decide), fun p hp => ?_⟩
            have eg2 := sq _ _ eg
            have npg : p ≠ g := fun e => by
              rw [e, eg2] at hp
              cases hp
            refine k p g _ vs ((sm.trans sq).trans (same_new hp)) hg gs (.inl (.inl ?_)) (by rw [upd_ne npg.symm]; exact eg2) ?_
            · rw [upd_same]
              unfold wrongV
              rw [← e2]
            · rw [← e1]
              exact DqAll.same (hid_up (sq.trans (same_new hp))) dq
          | some km =>
            obtain ⟨kd, mm⟩ := km
            have ev : tokV z i = [.str kd, .int (i + mm : Nat)] := by
              unfold tokV
              rw [et]
            rw [ev] at sq ⊢
            have hpos := tok_pos et
            have hlen : i + mm ≤ z.length := by
              have e : (codes z).length = z.length := Array.length_toList
              have h3 := hpos.2
              rw [List.length_drop] at h3
              omega
            refine ⟨q, _, rfl, .inl (.inl upd_same), rfl, _, _, rfl, _, _, rfl, rfl, ?_⟩
            refine ⟨_, rfl, rfl, _, rfl, ?_⟩
            refine iteF ?_
            have et' := et
            rw [hd] at et'
            have good := Lx_tok (i := i) h2' et'
            rw [← hd] at good
            have eg2 := sq _ _ eg
            -- found.append((sort, text[place:end], place))
            refine ⟨_, rfl, .inl ⟨rfl, _, .inl (.inl eg2)⟩, _, rfl, _, rfl, _, rfl, _, rfl, _, rfl, _, rfl, z, rfl, sz20 hz, _, rfl, (by show 3 ≤ sizeLine; decide), fun t ht => ?_⟩
            have ngt : g ≠ t := ne_of_none eg2 ht
            refine ⟨g, _, _, rfl, rfl, (by rw [upd_ne ngt]; exact eg2), ?_, ?_⟩
            · rw [dq.len, List.length_map]
              exact Nat.lt_of_le_of_lt hdl (Nat.lt_of_lt_of_le hi1 (sz20 hz))
            · refine ⟨_, rfl, m - mm, by omega, i + mm, _, done ++ [(kd, ((codes z).drop i).take mm, i)], _, _, rfl, hlen, by omega, upd_same, ?_, Same.over ((sm.trans sq).trans (same_new ht)) hg, ?_, ?_, ?_⟩
              · rw [List.map_append]
                refine DqAll.snoc (DqAll.same (hid1_same fun b o nb e => ?_) dq) ?_
                · rw [upd_ne nb]
                  exact (sq.trans (same_new ht)) b o e
                · refine .tup (xs := [.str kd, .str (cutS z (some (i : Int)) (some ((i + mm : Nat) : Int))), .int i]) (.inl (.inl ?_)) (.cons (.str _) (.cons ?_ (.cons (.int _) .nil)))
                  · unfold hid
                    rw [if_neg (fun y => by rcases y with y | y <;> exact ngt y.symm), upd_ne ngt.symm, upd_same]
                  · rw [cut_tok hlen]
                    exact .str _
              · rw [List.length_append]
                show done.length + 1 ≤ i + mm
                omega
              · rw [← e1, good, List.append_assoc, List.drop_drop]
                rfl
              · rw [← e2, good, List.drop_drop]
      · have hi1 : z.length ≤ i := by
          have : ¬ ((i : Int) < (z.length : Int)) := fun y => h1 (decide_eq_true y)
          omega
        have nil : (codes z).drop i = [] := List.drop_eq_nil_of_le (by
          have e : (codes z).length = z.length := Array.length_toList
          omega)
        rw [nil, Lx_nil] at e1 e2
        rw [List.append_nil] at e1
        exact ⟨_, vs, v3, v4, rfl, eg, by rw [← e1]; exact dq, sm, e2.symm⟩
end
end Bc

namespace Bc
open PySem PySem.Spec PyProof.Rows L2
theorem if_known {c : Bool} {A B : Prop} (hc : c = true) (h : A) : if c = true then A else B := by
  rw [if_pos hc]
  exact h
theorem if_no {c : Bool} {A B : Prop} (hc : c = false) (h : B) : if c = true then A else B := by
  rw [hc, if_neg (by decide)]
  exact h
abbrev sOf : Stmt := topS 32
theorem scOf : FnScope ["_law_source_here", "_law_some"] ["_law_source_here", "_law_some"] (defScope sOf) := ⟨rfl, rfl, rfl, by decide +kernel, rfl, by decide +kernel, by decide +kernel⟩
def spOf (K : PySem.W.Frag) : Sp := fun vs H Q _ => ∃ (d c l : Addr) (xs : List V), vs = [.ref d, .ref l] ∧ SrcAt H d c ∧ SqL K (hid d c H) l xs ∧ 0 < xs.length ∧ xs.length ≤ 1000 ∧
  ∀ (v : V) (H' : Hp), v ∈ xs → SrcAt H' d c → Else d c H H' → Q v H'
section
variable {P : Program} {w : World} {K : PySem.W.Frag} {mg : Str → Option Value} {base : Heap}
theorem ok_of {f fP : Addr} {fd fdP : FuncData} (F : Fun K "_law_of" "_law_of" sOf f fd) (B : Blt mg) (GP : FnOk P w K mg base CX0 1 fP fdP ["_law_source_here", "_law_many"] spPick) (bP : Binds K fdP ["_law_source_here", "_law_many"] [])
    (gP : mg "_law_pick" = some (.ref fP)) (kP : PySem.W.keepIn K (.ref fP) = true) : FnOk P w K mg base CX0 2 f fd ["_law_source_here", "_law_some"] (spOf K) := by
  refine F.ok scOf (fun vs H Q E h => ?_) (fun cdv A outer s H vs Q E hr h => ?_)
  · obtain ⟨d, c, l, xs, rfl, _⟩ := h
    rfl
  · obtain ⟨d, c, l, xs, rfl, src, hl, h0, h1, k⟩ := h
    refine ⟨_, pss_one (ps_ret (pe_ix ix_list (pv 1) (pe_call GP hr (by rfl) gP kP bP .nil pass0 (pa_cons (pv 0) (pa_cons (pe_callB call_len (by rfl) B.len (by decide +kernel) (pa_cons (pv 1) pa_nil)) pa_nil))) (fun _ _ => rfl))), ?_⟩
    refine ⟨_, rfl, _, rfl, _, rfl, _, xs.length, rfl, .inl ⟨xs, hid_all.seq hl, rfl⟩, d, c, xs.length, rfl, src, by omega, by omega, fun r H' r0 r1 src' el => ?_⟩
    have hr2 : r.toNat < xs.length := by omega
    refine ⟨l, xs, r, xs[r.toNat], rfl, rfl, ?_, at_of (by omega) (List.getElem?_eq_getElem hr2), k _ H' (List.getElem_mem hr2) src' el⟩
    have e := hid_else el
    exact hid_all.seq (e ▸ hl)
end
abbrev sSpaced : Stmt := topS 34
theorem scSpaced : FnScope ["_law_source_here", "_law_signs", "_law_text", "_law_last", "_law_one", "_law_gaps"] ["_law_source_here", "_law_signs"] (defScope sSpaced) := ⟨rfl, rfl, rfl, by decide +kernel, rfl, by decide +kernel, by decide +kernel⟩
def okWord (w : Str) : Bool := decide (Txt.stripChars w "^" = w) && (!(codes w).isEmpty && decide (w.length ≤ 40))
def spSpaced (K : PySem.W.Frag) : Sp := fun vs H Q _ => ∃ (d c l : Addr) (ws : List Str), vs = [.ref d, .ref l] ∧ SrcAt H d c ∧ SqL K (hid d c H) l (ws.map V.str) ∧ ws.length ≤ 100 ∧ (∀ w ∈ ws, okWord w = true) ∧
  ∀ (z g0 tl : Str) (ps : List (Str × Str)) (H' : Hp), allBlank g0 = true → allBlank tl = true → codes z = codes g0 ++ (flatP ps ++ codes tl) → Spaced "(" ps → ps.map (·.2) = ws → z.length ≤ 6000 → SrcAt H' d c → Same (hid d c H) (hid d c H') → Q (.str z) H'
theorem codes_app (a b : Str) : codes (a ++ b) = codes a ++ codes b := Array.toList_append
theorem len_app (a b : Str) : (a ++ b).length = a.length + b.length := Array.size_append
theorem dec_str {a b : Str} : decide (V.str a = V.str b) = decide (a = b) := decide_eq_decide.mpr ⟨fun h => V.str.inj h, fun h => by rw [h]⟩
theorem hid_new {d c p : Addr} {H : Hp} {o : HO} (src : SrcAt H d c) (hp : H p = none) : p ≠ d ∧ p ≠ c ∧ hid d c (upd H p o) p = some o := by
  have n1 : p ≠ d := fun e => src.two.1 (e ▸ hp)
  have n2 : p ≠ c := fun e => src.two.2 (e ▸ hp)
  refine ⟨n1, n2, ?_⟩
  unfold hid
  rw [if_neg (fun y => by rcases y with y | y <;> contradiction), upd_same]
abbrev gaps3 : List Str := [" ", "\n", " \n  "]
abbrev gaps6 : List Str := [" ", "\n", " \n  ", "", "", ""]
theorem PT.imp {X : Cx} {e : Expr} {t t' : TT} (h : PT X e t) (f : ∀ σ H Q, t' σ H Q → t σ H Q) : PT X e t' := ⟨fun pins s σ H Q I q => h.run pins s σ H Q I (f σ H Q q)⟩
theorem PS.imp {X : Cx} {e : Stmt} {t t' : TS} (h : PS X e t) (f : ∀ D σ H, t' D σ H → t D σ H) : PS X e t' := ⟨fun pins s σ H D I q => h.run pins s σ H D I (f D σ H q)⟩
def tMay : TT := fun σ H Q => ∃ v0 v1 v2 last w v5, σ = [v0, v1, v2, some (.str last), some (.str w), v5] ∧ last.length ≤ 1000 ∧ w.length ≤ 1000 ∧ codes w ≠ [] ∧ Q (mayTouch last w) H
def tGaps : TS := fun D σ H => ∃ v0 v1 v2 last w p, σ = [v0, v1, v2, some (.str last), some (.str w), some (.ref p)] ∧ last.length ≤ 1000 ∧ w.length ≤ 1000 ∧ codes w ≠ [] ∧ H p = some (.lst (gaps3.map V.str)) ∧
  ∀ p' gs H', (mayTouch last w = true ∧ gs = gaps6) ∨ gs = gaps3 → Same H H' → H' p' = some (.lst (gs.map V.str)) → (p' = p ∨ H p' = none) → D.nx [v0, v1, v2, some (.str last), some (.str w), some (.ref p')] H'
section
variable {P : Program} {w : World} {K : PySem.W.Frag} {mg : Str → Option Value} {base : Heap}
theorem ok_spaced {f fO : Addr} {fd fdO : FuncData} (F : Fun K "_law_spaced" "_law_spaced" sSpaced f fd) (GO : FnOk P w K mg base CX0 2 fO fdO ["_law_source_here", "_law_some"] (spOf K)) (bO : Binds K fdO ["_law_source_here", "_law_some"] []) (gO : mg "_law_of" = some (.ref fO)) (kO : PySem.W.keepIn K (.ref fO) = true) :
    FnOk P w K mg base CX0 3 f fd ["_law_source_here", "_law_signs"] (spSpaced K) := by
  refine F.ok scSpaced (fun vs H Q E h => ?_) (fun cdv A outer s H vs Q E hr h => ?_)
  · obtain ⟨d, c, l, ws, rfl, _⟩ := h
    rfl
  · obtain ⟨d, c, l, ws, rfl, src, hl, hn, hw, k⟩ := h
    have three : ∀ {a b c : V}, [a, b, c].length ≤ sizeLine := fun {_ _ _} => (by show 3 ≤ sizeLine; decide)
    refine ⟨_, pss_cons (ps_par (i := 2) (j := 3) rfl scSpaced.nd rfl rfl (by decide) rfl rfl (pa_cons (pe_call GO hr (by rfl) gO kO bO .nil pass0 (pa_cons (pv 0) (pa_cons (pe_lst (pa_cons pe_str (pa_cons pe_str (pa_cons pe_str pa_nil)))) pa_nil))) (pa_cons pe_str pa_nil)) rfl)
      (pss_cons (ps_for PassesOwn.never rfl (pi_list (pv 1)) (pg_name (i := 4) scSpaced.nd rfl (.inl rfl))
        (pss_cons (ps_set (i := 4) scSpaced.nd rfl (.inl rfl) (pe_m1 PySem.F.slot_str_strip PySem.F.type_str_strip mt_stripChars (pv 4) pe_str))
        (pss_cons (ps_set (i := 5) scSpaced.nd rfl (.inl rfl) (pe_lst (pa_cons pe_str (pa_cons pe_str (pa_cons pe_str pa_nil)))))
        (pss_cons (PS.imp (t' := tGaps) (ps_if (PT.imp (t' := tMay) (PW.pt (pw_or (pt_not (pt_val (pe_m0 PySem.F.slot_str_isalnum PySem.F.type_str_isalnum mt_isalnum (pe_op op_add_str (pv 3) (pv 4))))) (pw_or (pt_cmpR op_eq (pv 3) pe_str (nomark _))
            (pw_or1 (PW.pt (pw_and (pt_val (pe_m0 PySem.F.slot_str_isdigit PySem.F.type_str_isdigit mt_isdigit (pv 3))) (pw_and1 (pt_not (pt_val (pe_m0 PySem.F.slot_str_isdigit PySem.F.type_str_isdigit mt_isdigit (pe_ix ix_str (pv 4) pe_int (fun _ _ => rfl)))))))))))) (fun σ H Q h => by
          obtain ⟨v0, v1, v2, last, w, v5, rfl, hl, hw, ne, q⟩ := h
          have small : 10000 ≤ sizeLine := by decide
          refine ⟨_, rfl, _, rfl, _, _, rfl, rfl, Nat.le_trans (show last.length + w.length ≤ 10000 by omega) small, ⟨_, rfl⟩, _, rfl, rfl, trivial, _, rfl, ?_⟩
          unfold mayTouch at q
          refine ite2 (fun h1 => ?_) (fun h1 => ?_)
          · rw [h1, Bool.true_or] at q
            exact q
          · rw [show (!(Txt.isalnum (last ++ w))) = false by simpa using h1, Bool.false_or] at q
            refine ⟨_, rfl, rfl, _, rfl, ?_⟩
            rw [dec_str]
            refine ite2 (fun h2 => ?_) (fun h2 => ?_)
            · rw [h2, Bool.true_or] at q
              exact q
            · rw [show decide (last = "0") = false by simpa using h2, Bool.false_or] at q
              refine ⟨_, rfl, ⟨_, rfl⟩, _, rfl, rfl, trivial, _, rfl, ?_⟩
              refine ite2 (fun h3 => ?_) (fun h3 => ?_)
              · rw [h3, Bool.true_and] at q
                obtain ⟨c, t, ec⟩ : ∃ c t, codes w = c :: t := by
                  cases e : codes w with
                  | nil => exact absurd e ne
                  | cons c t => exact ⟨c, t, rfl⟩
                rw [ec] at q
                exact ⟨_, rfl, w, 0, c, rfl, rfl, Nat.le_trans (show w.length ≤ 10000 by omega) small, atI_nat (j := 0) (show (codes w)[0]? = some c by rw [ec]; rfl), ⟨_, rfl⟩, _, rfl, rfl, trivial, _, rfl, q⟩
              · rw [show Txt.isdigit last = false by simpa using h3, Bool.false_and] at q
                exact q)) (pss_one (ps_set (i := 5) scSpaced.nd rfl (.inl rfl) (pe_op op_cat (pv 5) (pe_lst (pa_cons pe_str (pa_cons pe_str (pa_cons pe_str pa_nil))))))) pss_nil) (fun D σ H h => by
          obtain ⟨v0, v1, v2, last, w, p, rfl, hl, hw, ne, hp, q⟩ := h
          refine ⟨_, _, _, _, _, _, rfl, hl, hw, ne, ?_⟩
          refine ite2 (fun h1 => ?_) (fun h1 => ?_)
          · refine ⟨_, rfl, (by show 3 ≤ sizeLine; decide), fun p2 hp2 => ⟨p, p2, _, _, rfl, rfl, (by rw [upd_ne (ne_of_none hp hp2)]; exact hp), upd_same, (by decide), fun p3 hp3 => ?_⟩⟩
            exact q p3 gaps6 _ (.inl ⟨h1, rfl⟩) ((same_new hp2).trans (same_new hp3)) upd_same (.inr ((same_new hp2).free hp3))
          · exact q p gaps3 H (.inr rfl) (Same.refl _) hp (.inl rfl)))
        (pss_one (ps_par (i := 2) (j := 3) rfl scSpaced.nd rfl rfl (by decide) rfl rfl (pa_cons (pe_op op_add_str (pe_op op_add_str (pv 2) (pe_call GO hr (by rfl) gO kO bO .nil pass0 (pa_cons (pv 0) (pa_cons (pv 5) pa_nil)))) (pv 4)) (pa_cons (pv 4) pa_nil)) rfl))))))
      (pss_one (ps_ret (pe_op op_add_str (pv 2) (pe_call GO hr (by rfl) gO kO bO .nil pass0 (pa_cons (pv 0) (pa_cons (pe_lst (pa_cons pe_str (pa_cons pe_str (pa_cons pe_str pa_nil)))) pa_nil))))))), ?_⟩
    have noSrc : ∀ {H1 : Hp} {p : Addr} {xs : List V}, SrcAt H1 d c → p ≠ d → p ≠ c → H1 p = some (.lst xs) → SqL K (hid d c H1) p xs := fun {H1 p xs} s n1 n2 e => .inl (.inl (by
      unfold hid
      rw [if_neg (fun y => by rcases y with y | y <;> contradiction)]
      exact e))
    refine ⟨_, rfl, three, fun p hp => ⟨d, c, p, _, rfl, src.up (same_new hp), .inl (.inl (hid_new src hp).2.2), by decide, by decide, fun v H1 hv src1 el1 => ?_⟩⟩
    have hv' : v ∈ (["", " ", "\n\n"] : List Str).map V.str := hv
    obtain ⟨g0, mg0, rfl⟩ := List.mem_map.mp hv'
    obtain ⟨b0, l0⟩ : allBlank g0 = true ∧ g0.length ≤ 2 := by
      have q := List.all_eq_true.mp (show ((["", " ", "\n\n"] : List Str).all fun g => allBlank g && decide (g.length ≤ 2)) = true by decide +kernel) g0 mg0
      simpa using q
    have sH1 : Same (hid d c H) (hid d c H1) := by
      rw [hid_else el1]
      exact hid_up (same_new hp)
    refine ⟨_, _, rfl, ?_⟩
    refine ⟨_, rfl, l, rfl, ⟨_, hid_all.seq (sH1.seq hl)⟩, for_list (K := K) (a := l) (xs := ws.map V.str) (fun i σ H' => ∃ (ps : List (Str × Str)) (text last : Str) (v4 v5 : Option V), σ = [some (.ref d), some (.ref l), some (.str text), some (.str last), v4, v5] ∧
      codes text = codes g0 ++ flatP ps ∧ Spaced "(" ps ∧ ps.map (·.2) = ws.take i ∧ last = (ps.map fun p : Str × Str => p.2).getLastD ("(" : Str) ∧ text.length ≤ 2 + 45 * i ∧ last.length ≤ 40 ∧ SrcAt H' d c ∧ Same (hid d c H) (hid d c H'))
      ⟨[], g0, "(", none, none, rfl, (List.append_nil _).symm, trivial, rfl, rfl, l0, by decide, src1, sH1⟩ (fun i σ H' _ ⟨_, _, _, _, _, _, _, _, _, _, _, _, _, e⟩ => hid_all.seq (e.seq hl)) ?_ ?_⟩
    · rintro i y σ H2 hi ⟨ps, text, last, v4, v5, rfl, ht, hs, hps, hlast, hlen, hll, src2, s2⟩
      obtain ⟨w, hwi, rfl⟩ : ∃ w, ws[i]? = some w ∧ y = V.str w := by
        rw [List.getElem?_map] at hi
        cases e : ws[i]? with
        | none =>
          rw [e] at hi
          cases hi
        | some z =>
          rw [e] at hi
          exact ⟨z, rfl, (Option.some.inj hi).symm⟩
      have hil : i < ws.length := (List.getElem?_eq_some_iff.mp hwi).1
      have okw := hw w (List.mem_of_getElem? hwi)
      unfold okWord at okw
      simp only [Bool.and_eq_true, decide_eq_true_eq, Bool.not_eq_true'] at okw
      obtain ⟨e1, e2, e3⟩ := okw
      have ne : codes w ≠ [] := fun y => by
        rw [y] at e2
        cases e2
      refine ⟨_, rfl, ⟨_, rfl⟩, _, _, rfl, rfl, Nat.le_trans e3 (by decide), ?_⟩
      rw [e1]
      refine ⟨three, fun p hp => ?_⟩
      have src3 := src2.up (same_new (o := .lst (gaps3.map V.str)) hp)
      refine ⟨_, _, _, last, w, p, rfl, by omega, by omega, ne, upd_same, fun p' gs H3 hgs s3 ep hpp => ?_⟩
      have src4 := src3.up s3
      have np : p' ≠ d ∧ p' ≠ c := by
        rcases hpp with e | e
        · rw [e]
          exact ⟨(hid_new (o := .lst []) src2 hp).1, (hid_new (o := .lst []) src2 hp).2.1⟩
        · exact ⟨(hid_new (o := .lst []) src3 e).1, (hid_new (o := .lst []) src3 e).2.1⟩
      have gl : 0 < (gs.map V.str).length ∧ (gs.map V.str).length ≤ 1000 := by
        rcases hgs with ⟨_, e⟩ | e <;> rw [e] <;> decide
      refine ⟨_, rfl, _, rfl, _, rfl, d, c, p', _, rfl, src4, noSrc src4 np.1 np.2 ep, gl.1, gl.2, fun v H4 hv4 src5 el4 => ?_⟩
      obtain ⟨g, mg4, rfl⟩ := List.mem_map.mp hv4
      obtain ⟨bg, lg, tg⟩ : allBlank g = true ∧ g.length ≤ 4 ∧ (codes g = [] → mayTouch last w = true) := by
        rcases hgs with ⟨e, e'⟩ | e
        · rw [e'] at mg4
          have q := List.all_eq_true.mp (show (gaps6.all fun g => allBlank g && decide (g.length ≤ 4)) = true by decide +kernel) g mg4
          rw [Bool.and_eq_true, decide_eq_true_eq] at q
          exact ⟨q.1, q.2, fun _ => e⟩
        · rw [e] at mg4
          have q := List.all_eq_true.mp (show (gaps3.all fun g => allBlank g && (decide (g.length ≤ 4) && !((codes g).isEmpty))) = true by decide +kernel) g mg4
          rw [Bool.and_eq_true, Bool.and_eq_true, decide_eq_true_eq] at q
          exact ⟨q.1, q.2.1, fun y => by
            have q2 := q.2.2
            rw [y] at q2
            cases q2⟩
      have hi12 : i ≤ 100 := by omega
      have small : 10000 ≤ sizeLine := by decide
      refine ⟨_, _, rfl, rfl, Nat.le_trans (show text.length + g.length ≤ 10000 by omega) small, _, rfl, _, _, rfl, rfl, ?_, _, rfl, _, _, rfl, ?_⟩
      · rw [len_app]
        exact Nat.le_trans (show text.length + g.length + w.length ≤ 10000 by omega) small
      · refine ⟨ps ++ [(g, w)], _, w, _, _, rfl, ?_, hs.snoc bg (by rw [← hlast]; exact tg), ?_, ?_, ?_, e3, src5, ?_⟩
        · rw [codes_app, codes_app, ht, flatP_snoc]
          simp only [List.append_assoc]
        · rw [List.map_append, hps, List.take_add_one, hwi]
          rfl
        · rw [List.map_append]
          show w = (List.map (fun p : Str × Str => p.2) ps ++ [w]).getLastD _
          rw [List.getLastD_eq_getLast?, List.getLast?_concat]
          rfl
        · rw [len_app, len_app]
          omega
        · refine s2.trans ((hid_up ((same_new hp).trans s3)).trans ?_)
          rw [hid_else el4]
          exact Same.refl _
    · rintro σ H2 ⟨ps, text, last, v4, v5, rfl, ht, hs, hps, hlast, hlen, hll, src2, s2⟩
      rw [List.length_map] at hps hlen
      rw [List.take_length] at hps
      refine ⟨_, rfl, _, rfl, three, fun p hp => ⟨d, c, p, _, rfl, src2.up (same_new hp), .inl (.inl (hid_new src2 hp).2.2), by decide, by decide, fun v H3 hv src3 el3 => ?_⟩⟩
      have hv' : v ∈ (["", " ", "\n"] : List Str).map V.str := hv
      obtain ⟨tl, mtl, rfl⟩ := List.mem_map.mp hv'
      obtain ⟨bt, lt⟩ : allBlank tl = true ∧ tl.length ≤ 2 := by
        have q := List.all_eq_true.mp (show ((["", " ", "\n"] : List Str).all fun g => allBlank g && decide (g.length ≤ 2)) = true by decide +kernel) tl mtl
        simpa using q
      have small : 10000 ≤ sizeLine := by decide
      refine ⟨_, _, rfl, rfl, Nat.le_trans (show text.length + tl.length ≤ 10000 by omega) small, ?_⟩
      refine k _ g0 tl ps H3 b0 bt ?_ hs hps ?_ src3 ?_
      · rw [codes_app, ht, List.append_assoc]
      · rw [len_app]
        omega
      · rw [hid_else el3]
        exact s2.trans (hid_up (same_new hp))
end
end Bc

namespace Bc
open PySem PySem.Spec PyProof.Rows L2
/-! ### data in a tuple; a kept dict's get with a default -/
section
variable {X : Cx}
def rNotInDT (K : PySem.W.Frag) : R2 := fun x y H Q => ∃ d ds, Dp K H x d ∧ Dp K H y (.tuple ds) ∧ SeqAt.shaped d = true ∧ SeqAt.shaped (.tuple ds) = true ∧ Q (.bl (!ds.any fun z => PyData.eqv z d)) H
theorem op_notInDT (hu : X.A.units + 65 < cLine) : OpR X (compareOp .NotIn) (rNotInDT X.K) := by
  intro pins s σ H x y v u Q I rx ry h
  obtain ⟨d, ds, hd, he, sd, se, q⟩ := h
  obtain ⟨as, r1⟩ := Dp.reads I d x v hd rx
  obtain ⟨bs, r2⟩ := Dp.reads I (.tuple ds) y u he ry
  exact SeqAt.notIn_tuple_reads r2 r1 (SeqAt.canLay_of_shaped se) (SeqAt.canLay_of_shaped sd) (room_in_shaped sd hu) ⟨.bl _, H, I, rfl, q⟩
/-- a kept dict with texts as keys: what it has at one of them -/
def KAt (K : PySem.W.Frag) (w : World) (a : Addr) (z : Str) (o : Option V) : Prop :=
  ∃ es n r, K.lookup a = some ⟨.type "dict", none, .dict es n, #[]⟩ ∧ PySem.W.KeysLit w.params es.toList ∧ (a == sysModules) = false ∧ PySem.W.nsIn K a z = some r ∧ RelO o r
def tKGet2 (K : PySem.W.Frag) (w : World) (td ty tx : TE) : TE := fun σ H Q => td σ H fun x H1 => ∃ a es n, x = .ref a ∧ K.lookup a = some ⟨.type "dict", none, .dict es n, #[]⟩ ∧ ty σ H1 fun y H2 => ∃ z, y = .str z ∧ tx σ H2 fun d H3 => ∃ o, KAt K w a z o ∧ Q (o.getD d) H3
variable {o e f : Expr} {apos cpos : Pos} {td ty tx : TE}
theorem pe_kget2 (ho : PE X o td) (he : PE X e ty) (hf : PE X f tx) (m : M2 X o "get" apos e f cpos) : PE X (.Call (.Attribute o "get" apos) [e, f] [] cpos) (tKGet2 X.K X.w td ty tx) := by
  refine ⟨fun pins s σ H Q I h => ?_⟩
  refine wpAny_Call_method m.base m.few m.line PySem.F.plainAttrs_dict PySem.F.slot_dict_get PySem.F.type_dict_get (thn (ho.run pins s σ H _ I h) fun u s1 ⟨x, H1, I1, rx, a, es, n, ex, ha, q1⟩ => ?_)
  subst ex
  obtain rfl : u = Value.ref a := rx
  have hg := I1.kIn _ _ ha
  refine ⟨⟨_, hg, rfl⟩, (fun b eb => by cases eb; exact ⟨_, hg, rfl⟩), ?_⟩
  rw [m.trees]
  refine Calls.callWith_builtin rfl (Calls.evalArgs_plain (Calls.spliced_cons (thn (he.run pins s1 σ H1 _ I1 q1) fun iv s2 ⟨y, H2, I2, ry, z, ey, q2⟩ =>
    Calls.spliced_cons (thn (hf.run pins s2 σ H2 _ I2 q2) fun fv s3 ⟨d, H3, I3, rz, ov, ⟨es', n', r, hl, hk, low, e1, ro⟩, q3⟩ => Calls.spliced_nil ?_))))
  subst ey
  obtain ⟨t, rfl⟩ := (show ∃ t, iv = Value.str z t from ry)
  have hm := PySem.W.mapOf_K (prog := X.prog) (w := X.w) I3.kIn hl hk
  refine call_meetsIn PySem.F.slot_dict_get hm.typeIs PySem.F.entry_dict_get (PySem.F.args_dict_get_3 _ _ _) (meets_dict_get_default (strKind X.prog X.w) a (strKind_is X.prog X.w z t) low fv) ⟨_, hm, ?_⟩
  rw [PySem.W.find_K hl e1]
  refine ⟨_, H3, I3.tok _, ?_, q3⟩
  cases ov with
  | none =>
    cases r with
    | none => exact rz
    | some u => exact absurd ro (fun z => by cases z)
  | some v =>
    cases r with
    | none => exact absurd ro (fun z => by cases z)
    | some u => exact ro
end
abbrev sIsTold : Stmt := topS 13
theorem scIsTold : FnScope ["awaited", "sort", "lexeme"] ["awaited", "sort", "lexeme"] (defScope sIsTold) := ⟨rfl, rfl, rfl, by decide +kernel, rfl, by decide +kernel, by decide +kernel⟩
def toldB (a s l : Str) : Bool := if a = "NAME" then decide (s = "word") else if a = "NUMBER" then decide (s = "number") else decide (a = l)
def spIsTold : Sp := fun vs H Q _ => ∃ a s l : Str, vs = [.str a, .str s, .str l] ∧ Q (.bl (toldB a s l)) H
structure Nm (mg : Str → Option Value) : Prop where
  na : ∃ t, mg "NAME" = some (.str "NAME" t)
  nu : ∃ t, mg "NUMBER" = some (.str "NUMBER" t)
  rev : mg "reversed" = none
  rng : mg "range" = none
  lst : mg "list" = none
section
variable {P : Program} {w : World} {K : PySem.W.Frag} {mg : Str → Option Value} {base : Heap}
theorem ok_isTold {f : Addr} {fd : FuncData} (F : Fun K "is_told" "is_told" sIsTold f fd) (N : Nm mg) : FnOk P w K mg base CX0 1 f fd ["awaited", "sort", "lexeme"] spIsTold := by
  refine F.ok scIsTold (fun vs H Q E h => ?_) (fun cdv A outer s H vs Q E hr h => ?_)
  · obtain ⟨a, s, l, rfl, _⟩ := h
    rfl
  · obtain ⟨a, s', l, rfl, q⟩ := h
    refine ⟨_, pss_cons (ps_if (pt_cmpR op_eq (pv 0) (pe_cstr (by rfl) N.na) (nomark _)) (pss_one (ps_ret (pe_cmpR op_eq (pv 1) pe_str (nomark _)))) pss_nil)
      (pss_cons (ps_if (pt_cmpR op_eq (pv 0) (pe_cstr (by rfl) N.nu) (nomark _)) (pss_one (ps_ret (pe_cmpR op_eq (pv 1) pe_str (nomark _)))) pss_nil)
      (pss_one (ps_ret (pe_cmpR op_eq (pv 0) (pv 2) (nomark _))))), ?_⟩
    unfold toldB at q
    refine ⟨_, rfl, rfl, _, rfl, ?_⟩
    rw [show decide (V.str a = V.str "NAME") = decide (a = "NAME") from dec_str]
    refine ite2 (fun h1 => ?_) (fun h1 => ?_)
    · rw [if_pos (of_decide_eq_true h1)] at q
      refine ⟨_, rfl, rfl, ?_⟩
      rw [dec_str]
      exact q
    rw [if_neg (fun y => h1 (decide_eq_true y))] at q
    refine ⟨_, rfl, rfl, _, rfl, ?_⟩
    rw [show decide (V.str a = V.str "NUMBER") = decide (a = "NUMBER") from dec_str]
    refine ite2 (fun h2 => ?_) (fun h2 => ?_)
    · rw [if_pos (of_decide_eq_true h2)] at q
      refine ⟨_, rfl, rfl, ?_⟩
      rw [dec_str]
      exact q
    rw [if_neg (fun y => h2 (decide_eq_true y))] at q
    refine ⟨_, rfl, _, rfl, rfl, ?_⟩
    rw [dec_str]
    exact q
end
end Bc

set_option maxHeartbeats 1000000
namespace RT
open PySem PySem.Spec PyProof.Rows L2
theorem nolen_rt : typeLookup (.type "reversed") "__len__" = pure none := by rw [typeLookup_type, builtinLookup_eq_fast]; kernel_rfl
theorem slot_rt_hint : Slot "reversed" "__length_hint__" "reversed.__length_hint__" :=
  .of (owner := "reversed") (n := "__length_hint__") (by rw [typeLookup_type, builtinLookup_eq_fast]; kernel_rfl) (by decide +kernel) (by decide +kernel) (by decide +kernel)
    (by first | exact .inl (by decide +kernel) | exact .inr (by decide +kernel)) (by rw [isSubtype_type]; kernel_rfl)
theorem entry_rt_hint : entryFor table "reversed.__length_hint__" = some Builtin.«reversed.__length_hint__» := entryFor_of_tree (by kernel_rfl)
theorem args_rt_hint (a : Value) : argsOk "reversed.__length_hint__" ⟨[a], []⟩ := by
  unfold argsOk; rw [signature?_of (id := "reversed.__length_hint__") (n := ['_', '_', 't', 'n', 'i', 'h', '_', 'h', 't', 'g', 'n', 'e', 'l', '_', '_']) (o := ['d', 'e', 's', 'r', 'e', 'v', 'e', 'r']) (by kernel_rfl) owner_rt]; kernel_rfl
theorem isTup_at {h h' : Heap} {t : Addr} {items : Array Value} (x : IsTup h t items) (e : ∀ o, h.get? t = some o → h'.get? t = some o) : IsTup h' t items := let ⟨o, ho, r⟩ := x; ⟨o, e _ ho, r⟩
theorem walks_rt {prog : Program} {w : World} {A : Around} (hh : A.handled = none) (I t : Addr) (hne : t ≠ I) (items : Array Value) (hn : items.size ≤ sizeLine) :
    Walks prog w A I [I, t] [I] items.size (fun i v => items[items.size - 1 - i]? = some v) (fun i h => i ≤ items.size ∧ IsRt h I t ((items.size : Int) - 1 - (i : Int)) ∧ IsTup h t items) where
  sub := fun b hb => by simp at hb; simp [hb]
  frame := fun _ _ _ x hk => ⟨x.1, x.2.1.at fun o e => hk I (by simp) o e, isTup_at x.2.2 fun o e => hk t (by simp) o e⟩
  item := fun i s Q E hi x hQ => by
    have e : (items.size : Int) - 1 - (i : Int) = ((items.size - 1 - i : Nat) : Int) := by omega
    have hit := x.2.1
    rw [e] at hit
    have hx : items[items.size - 1 - i]? = some (items[items.size - 1 - i]'(by omega)) := Array.getElem?_eq_getElem (by omega)
    refine next_rt_item hit x.2.2 hx hn fun h' hit' hs' => ?_
    have e2 : ((items.size - 1 - i : Nat) : Int) - 1 = (items.size : Int) - 1 - ((i + 1 : Nat) : Int) := by omega
    rw [e2] at hit'
    exact hQ _ h' (s.toks + 1) hx ⟨hi, hit', isTup_at x.2.2 fun o eo => (hs'.2 t hne).trans eo⟩ fun b o hb eo => hs'.extBut b o (fun h => hb (by simp [h])) eo
  done := fun s Q E x hQ => by
    have e : (items.size : Int) - 1 - (items.size : Int) = -1 := by omega
    have hit := x.2.1
    rw [e] at hit
    exact next_rt_end hh hit fun h' hs' => hQ h' s.toks fun b o hb eo => hs' b o (fun h => hb (by simp [h])) eo
  self := fun i s Q E x h => iter_rt x.2.1 h
section
variable {prog : Program} {w : World} {A : Around} {E : Value → Shared → Prop} {s : Shared}
theorem hint_rt {it t : Addr} {items : Array Value} {Q : Value → Shared → Prop} (hit : IsRt s.heap it t ((items.size : Int) - 1)) (ht : IsTup s.heap t items) (hsz : items.size ≤ 2 ^ 62)
    (h : ∀ tk u, Q (.int items.size u) { s with toks := tk }) : wpAny (model prog w) A (call (.builtin "reversed.__length_hint__") [.ref it]) Q E s := by
  obtain ⟨o, ho, hc, hd⟩ := id hit
  refine wpAny_call_entry slot_rt_hint hit.typeIs entry_rt_hint ?_ (args_rt_hint _)
  unfold Builtin.«reversed.__length_hint__»
  refine wpAny_bind (wpAny_of_eq (a := Value.ref it) rfl ?_)
  try dsimp only
  refine wpAny_bind (wpAny_field ho hd (x := .ref t) rfl ?_)
  try dsimp only
  rw [if_neg (fun y => by cases y)]
  refine wpAny_bind (PyProof.Rows.len_tuple ht (by omega) ?_)
  refine wpAny_bind (wpAny_of_eq (a := some ((items.size : Nat) : Int)) rfl ?_)
  dsimp only
  refine wpAny_bind (wpAny_field (s := { s with toks := s.toks + 1 + 1 }) ho hd (x := rawInt ((items.size : Int) - 1)) rfl ?_)
  show wpAny _ _ (if ((items.size : Nat) : Int) < (items.size : Int) - 1 + 1 then _ else retInt ((items.size : Int) - 1 + 1)) _ _ _
  rw [if_neg (by omega), show (items.size : Int) - 1 + 1 = items.size by omega]
  unfold retInt
  refine wpAny_bind (wpAny_mkInt ?_)
  exact wpAny_pure ⟨_, rfl, h _ _⟩
/-- list.__init__ of a reversed tuple: the new list S takes the items from the end -/
theorem extend_rt {R : Result → Shared → Prop} {it t S : Addr} {items : Array Value} {c₀ : Nat} (hh : A.handled = none) (hit : IsRt s.heap it t ((items.size : Int) - 1)) (ht : IsTup s.heap t items) (hne : t ≠ it) (hn : items.size ≤ sizeLine) (hSi : S ≠ it) (hSt : S ≠ t)
    (hS : s.heap.get? S = some { cls := .type "list", data := .seq #[] c₀ })
    (hR : ∀ h' tk acc' c', (∀ b o, b ≠ S → b ≠ it → s.heap.get? b = some o → h'.get? b = some o) → h'.get? S = some { cls := .type "list", dict := none, data := .seq acc' c', slots := #[] } →
      ItemsOf (fun i v => items[items.size - 1 - i]? = some v) acc' items.size → R (.ok (.ret .none)) { s with heap := h', toks := tk }) :
    wpAny (model prog w) A.in1 (Builtin.List.listExtendWith (.ref S) (.ref it) .none)
      (fun fin s' => match fin with | .done f => R (.ok f) s' | .again c' => c'.quiet = true ∧ codeAny (model prog w) A c' R s') (fun e s' => R (.error e) s') s := by
  have hSf : S ∉ [it, t] := by simp only [List.mem_cons, List.not_mem_nil, or_false, not_or]; exact ⟨hSi, hSt⟩
  have W := (walks_rt (prog := prog) (w := w) (A := A.in1) hh it t hne items hn).toS
  have e0 : ((items.size : Nat) : Int) - 1 - ((0 : Nat) : Int) = (items.size : Int) - 1 := by omega
  have key : ∀ (h : Heap) (c₁ tk : Nat), (∀ b o, b ≠ S → s.heap.get? b = some o → h.get? b = some o) →
      h.get? S = some { cls := .type "list", data := .seq #[] c₁ } → codeAny (model prog w) A (.builtin "list.extend.loop" ⟨[.ref S, .ref it, .none], []⟩) R { s with heap := h, toks := tk } := by
    intro h c₁ tk hk hS₁
    refine codeAny_extend_loopS W hn S hSf .none items.size 0 _ #[] c₁ rfl (Nat.zero_le _) ⟨Nat.zero_le _, by rw [e0]; exact hit.at (hk it · (Ne.symm hSi)), isTup_at ht (hk t · (Ne.symm hSt))⟩ hS₁ (ItemsOf.nil _) fun s' acc' c' hm hS' hacc => ?_
    rw [Moved.eq_with hm]
    refine hR s'.heap s'.toks acc' c' (fun b o hb hb2 e => hm.heap b o (fun hmem => ?_) (hk b o hb e)) hS' hacc
    rcases List.mem_cons.mp hmem with e' | hmem
    · exact hb e'
    · exact hb2 (List.mem_singleton.mp hmem)
  unfold Builtin.List.listExtendWith
  refine wpAny_bind (wpAny_typeOf hit.typeIs ?_)
  have h1 : Builtin.List.listSameRef (.ref S) (.ref it) = false := by simp [Builtin.List.listSameRef, hSi]
  have h2 : (Value.type "reversed" == Value.type "list") = false := by decide
  have h3 : (Value.type "reversed" == Value.type "tuple") = false := by decide
  simp only [h1, h2, h3, Bool.or_false, Bool.false_eq_true, if_false]
  refine wpAny_bind (iter_rt hit ?_)
  refine wpAny_bind (wpAny_holding ?_)
  unfold Builtin.List.listLengthHint
  refine wpAny_bind (wpAny_specialOf hit.typeIs nolen_rt ?_)
  show wpAny _ A.in1 (specialOf (Value.ref it) (Str.ofString "__length_hint__") >>= _) _ _ _
  refine wpAny_bind (wpAny_specialOf hit.typeIs slot_rt_hint.lookup ?_)
  generalize hid : ("reversed.__length_hint__" : String) = id0
  wp_delta
  rw [show splitId id0 = some ("reversed", "__length_hint__") from by subst hid; decide +kernel]
  subst hid
  refine wpAny_bind (wpAny_isInstance (b := true) hit.typeIs (by rw [isSubtype_type]; kernel_rfl) ?_)
  rw [if_neg (by decide)]
  dsimp only
  rw [if_neg (by decide +kernel)]
  refine wpAny_bind (wpAny_rule ?_)
  refine wpAny_bind ?_
  rw [slot_rt_hint.bind]
  refine wpAny_pure ?_
  dsimp only
  have hz : items.size ≤ 2 ^ 62 := Nat.le_trans hn (by rw [sizeLine_eq]; decide)
  refine wpAny_bind (wpAny_attempt (hint_rt hit ht hz fun tk u => ?_))
  show wpAny _ _ (asInt? (Value.int ((items.size : Nat) : Int) u) >>= _) _ _ _
  refine wpAny_bind ?_
  show wpAny _ _ (pure (some ((items.size : Nat) : Int))) _ _ _
  refine wpAny_pure ?_
  dsimp only
  have fit : ¬ (!Builtin.List.listFitsIndex ((items.size : Nat) : Int)) = true := by
    rw [fitsIndex_both (by omega) (by omega)]
    decide
  have long : ¬ Builtin.List.listTooLong ((items.size : Nat) : Int).toNat = true := by
    rw [Int.toNat_natCast, notLongL hn]
    decide
  rw [if_neg fit, if_neg (show ¬ ((items.size : Nat) : Int) < 0 by omega), if_neg long]
  refine wpAny_pure ?_
  refine wpAny_ite_split (fun _ => ?_) (fun _ => wpAny_pure ⟨plainId_quiet F.plain_extend_loop _, key _ _ _ (fun b o _ e => e) hS⟩)
  refine wpAny_bind (wpAny_rule ?_)
  refine wpAny_bind ?_
  show wpAny _ _ (updateSeq S (·.push .none) >>= fun _ => updateSeq S (·.pop)) _ _ _
  refine wpAny_bind (wpAny_updateSeq hS rfl ?_)
  have hS₂ := Heap.get?_update_self (Obj.mapSeq (·.push Value.none)) hS rfl
  refine wpAny_updateSeq (hz := by seq_fits) hS₂ rfl ?_
  have hS₃ := Heap.get?_update_self (Obj.mapSeq (·.pop)) hS₂ rfl
  exact wpAny_pure ⟨plainId_quiet F.plain_extend_loop _, key _ _ _ (fun b o hb e => (Heap.get?_update_other _ _ (Ne.symm hb)).trans ((Heap.get?_update_other _ _ (Ne.symm hb)).trans e)) hS₃⟩
theorem call_list_rt {Q : Value → Shared → Prop} {it t : Addr} {items : Array Value} (hh : A.handled = none) (hit : IsRt s.heap it t ((items.size : Int) - 1)) (ht : IsTup s.heap t items) (hne : t ≠ it) (hn : items.size ≤ sizeLine)
    (hQ : ∀ h' tk acc' c', (∀ b o, b ≠ it → s.heap.get? b = some o → h'.get? b = some o) →
      h'.get? s.heap.objs.size = some { cls := .type "list", dict := none, data := .seq acc' c', slots := #[] } → ItemsOf (fun i v => items[items.size - 1 - i]? = some v) acc' items.size → Q (.ref s.heap.objs.size) { s with heap := h', toks := tk }) :
    wpAny (model prog w) A (call (.type "list") [.ref it]) Q E s := by
  refine callType_codes (Q₁ := fun obj s₁ => obj = .ref s.heap.objs.size ∧ s₁ = { s with heap := s.heap.push { cls := .type "list", data := .seq #[] } }) F.called_list (F.typeCall_list_1 _) F.entry_list_init
    (code_list_new _ ⟨rfl, rfl⟩) fun obj s₁ h₁ => ?_
  obtain ⟨rfl, rfl⟩ := h₁
  have hS : (s.heap.push { cls := .type "list", data := .seq #[] }).get? s.heap.objs.size = some { cls := .type "list", data := .seq #[] } := Heap.get?_push_size _ rfl
  have hSi : s.heap.objs.size ≠ it := by
    obtain ⟨o, ho, _⟩ := hit
    exact Nat.ne_of_gt (Heap.lt_size ho)
  have hSt : s.heap.objs.size ≠ t := by
    obtain ⟨o, ho, _⟩ := ht
    exact Nat.ne_of_gt (Heap.lt_size ho)
  refine ⟨⟨_, hS, rfl⟩, F.args_list_init_2 _ _, ?_⟩
  show wpAny _ A.in1.in1 (do let old ← Builtin.List.listItems (.ref s.heap.objs.size); Builtin.List.listUpdate (.ref s.heap.objs.size) (fun _ => #[]); letGo old.toList.reverse; Builtin.List.listExtendWith (.ref s.heap.objs.size) (.ref it) .none) _ _ _
  refine wpAny_bind ?_
  unfold Builtin.List.listItems
  refine wpAny_bind (wpAny_seqItems hS rfl (wpAny_pure ?_))
  show wpAny _ A.in1.in1 (updateSeq s.heap.objs.size (fun _ => #[]) >>= fun _ => letGo (#[] : Array Value).toList.reverse >>= fun _ => Builtin.List.listExtendWith (.ref s.heap.objs.size) (.ref it) .none) _ _ _
  refine wpAny_bind (wpAny_updateSeq hS rfl ?_)
  have hS₂ := Heap.get?_update_self (Obj.mapSeq (fun _ => (#[] : Array Value))) hS rfl
  refine wpAny_bind (wpAny_letGo ?_)
  have oth : ∀ b o, b ≠ s.heap.objs.size → s.heap.get? b = some o → ((s.heap.push { cls := .type "list", data := .seq #[] }).update s.heap.objs.size (Obj.mapSeq (fun _ => (#[] : Array Value)))).get? b = some o :=
    fun b o hb e => (Heap.get?_update_other _ _ (Ne.symm hb)).trans (Heap.get?_push_of_some _ e)
  refine extend_rt (A := A.in1) hh (hit.at fun o e => oth it o (Ne.symm hSi) e) (isTup_at ht fun o e => oth t o (Ne.symm hSt) e) hne hn hSi hSt hS₂ fun h' tk acc' c' hk hS' hacc => ?_
  exact ⟨rfl, hQ h' tk acc' c' (fun b o hb e => hk b o (Nat.ne_of_lt (Heap.lt_size e)) hb (oth b o (Nat.ne_of_lt (Heap.lt_size e)) e)) hS' hacc⟩
end
end RT
namespace Bc
open PySem PySem.Spec PyProof.Rows L2 RT
def tListRevT (K : PySem.W.Frag) (te : TE) : TE := fun σ H Q => te σ H fun v H1 => ∃ (a : Addr) (xs : List V), v = .ref a ∧ SqT K H1 a xs ∧ ∀ q, H1 q = none → Q (.ref q) (upd H1 q (.lst xs.reverse))
/-- list(reversed(e)), e a tuple -/
theorem pe_listRevT {X : Cx} {e : Expr} {te : TE} {p p2 pos pos2 : Pos} (hc : X.calm = true) (hg : Gl X "list") (hm : X.mg "list" = none) (hg2 : Gl X "reversed") (hm2 : X.mg "reversed" = none) (he : PE X e te)
    (hs : starEach [e] X.env = (false, eval e X.env) :: starEach [] X.env := by rfl)
    (hs2 : starEach [.Call (.Name "reversed" p2) [e] [] pos2] X.env = (false, eval (.Call (.Name "reversed" p2) [e] [] pos2) X.env) :: starEach [] X.env := by rfl) :
    PE X (.Call (.Name "list" p) [.Call (.Name "reversed" p2) [e] [] pos2] [] pos) (tListRevT X.K te) := by
  refine ⟨fun pins s σ H Q I h => ?_⟩
  refine Call_ (ld_blt I hg hm boot_list (PyProof.Rows.callWith_type1 (args_cons (Call_ (ld_blt I hg2 hm2 PyProof.Rows.boot_reversed (PyProof.Rows.callWith_type1 (args_cons (thn (he.run pins s σ H _ I h) fun u s1 ⟨v, H1, I1, r1, q1⟩ => args_nil ?_) hs) hs rfl))) hs2) hs2 rfl))
  obtain ⟨a, xs, ev, hq, q⟩ := q1
  subst ev
  obtain rfl : u = Value.ref a := r1
  obtain ⟨its, rv, p', hz⟩ := I1.tuple hq
  have hn := line63
  have hl := rv.length
  have hn2 : its.toArray.size ≤ sizeLine := by rw [List.size_toArray, ← hl]; exact hz
  refine call_reversed_tup p' (fun A E Q k => PyProof.Rows.len_tuple p' (by simp only [List.size_toArray] <;> omega) k) (args_nil ?_)
  have hne : a ≠ s1.heap.objs.size := by
    obtain ⟨o, ho, _⟩ := p'
    exact Nat.ne_of_lt (Heap.lt_size ho)
  refine call_list_rt (s := { s1 with heap := s1.heap.push (rtObj a ((its.toArray.size : Int) - 1)), toks := s1.toks + 1 + 1 }) (I1.ok.hd hc) ⟨_, Heap.get?_push_size _ rfl, rfl, rfl⟩ (isTup_at p' fun o e => Heap.get?_push_of_some _ e) hne hn2 fun h' tk acc c' hk e hi => ?_
  have sz : s1.heap.objs.size ≤ (s1.heap.push (rtObj a ((its.toArray.size : Int) - 1))).objs.size := by
    simp [Heap.push]
  refine ⟨.ref _, upd H1 _ (.lst xs.reverse), I1.laid (t' := tk) (fun b o eb => hk b o (Nat.ne_of_lt (Heap.lt_size eb)) (Heap.get?_push_of_some _ eb)) sz ⟨by rw [List.length_reverse]; exact hz, acc.toList, c', vals_rev rv hi, by rw [Array.toArray_toList]; exact e⟩, rfl, q _ (I1.hok.fresh sz)⟩
end Bc

namespace Bc
open PySem PySem.Spec PyProof.Rows L2
abbrev sInit : Stmt := inClass (topS 12) 0
abbrev sOpen : Stmt := inClass (topS 12) 1
abbrev sTakes : Stmt := inClass (topS 12) 4
abbrev sDone : Stmt := inClass (topS 12) 5
abbrev nOpen : List Str := ["self", "found", "k", "rules", "rule"]
abbrev nTakes : List Str := ["self", "sort", "lexeme", "k", "rule", "rules"]
theorem scInit : FnScope ["self", "form"] ["self", "form"] (defScope sInit) := ⟨rfl, rfl, rfl, by decide +kernel, rfl, by decide +kernel, by decide +kernel⟩
theorem scOpen : FnScope nOpen ["self"] (defScope sOpen) := ⟨rfl, rfl, rfl, by decide +kernel, rfl, by decide +kernel, by decide +kernel⟩
theorem scTakes : FnScope nTakes ["self", "sort", "lexeme"] (defScope sTakes) := ⟨rfl, rfl, rfl, by decide +kernel, rfl, by decide +kernel, by decide +kernel⟩
theorem scDone : FnScope ["self"] ["self"] (defScope sDone) := ⟨rfl, rfl, rfl, by decide +kernel, rfl, by decide +kernel, by decide +kernel⟩
/-- the ways to write what is awaited -/
def rulesOf (z : Str) : List (List Str) :=
  if z = "SCRIPT" then [["script", "{", "DEEDS"]] else if z = "DEEDS" then [["hang", "PLACE", "PLACE", ";", "DEEDS"], ["stretch", "PLACE", "PLACE", "PLACE", "PLACE", ";", "DEEDS"], ["}"]]
  else if z = "PLACE" then [["NAME", "NUMBER"]] else [[z]]
abbrev forms : List Str := ["SCRIPT", "DEEDS", "PLACE"]
abbrev signsW : List Str := ["{", ";", "NUMBER"]
abbrev tops : List Str := ["SCRIPT", "DEEDS", "PLACE", "{", ";", "NUMBER"]
def dRule (l : List Str) : PyData := .tuple (l.map .str)
def RuleAt (K : PySem.W.Frag) (H : Hp) (r : Addr) (l : List Str) : Prop := SqT K H r (l.map V.str)
def RulesAt (K : PySem.W.Frag) (H : Hp) (t : Addr) (ls : List (List Str)) : Prop := ∃ rs : List Addr, SqT K H t (rs.map V.ref) ∧ rs.length = ls.length ∧ ∀ (i : Nat) (r : Addr) (l : List Str), rs[i]? = some r → ls[i]? = some l → RuleAt K H r l
structure Rul (K : PySem.W.Frag) (w : World) (mg : Str → Option Value) (aR aN : Addr) : Prop where
  gR : mg "RULES" = some (.ref aR)
  gN : mg "NOTHING" = some (.ref aN)
  no : ∀ H, SqT K H aN []
  dict : ∃ es n, K.lookup aR = some ⟨.type "dict", none, .dict es n, #[]⟩
  at_ : ∀ z ∈ forms, ∃ t, KAt K w aR z (some (.ref t)) ∧ ∀ H, RulesAt K H t (rulesOf z)
  els : ∀ z ∈ signsW, KAt K w aR z none
def RowsAt (K : PySem.W.Frag) (H : Hp) (g : Addr) (k : Int) (ls : List (List Str)) : Prop := ∃ ps : List Addr, H g = some (.lst (ps.map V.ref)) ∧ ps.length = ls.length ∧ ∀ i l, ls[i]? = some l → ∃ r, SqT K H (ps.getD i 0) [.int k, .ref r] ∧ RuleAt K H r l
def InsAt (H : Hp) (C a dx l : Addr) (A : List Str) : Prop := H a = some (.ins C dx [("_awaited", .ref l)]) ∧ H l = some (.lst (A.map V.str))
def spInit (C : Addr) : Sp := fun vs H Q _ => ∃ (a dx : Addr) (v : V), vs = [.ref a, v] ∧ H a = some (.ins C dx []) ∧ ∀ p, H p = none → Q .non (upd (upd H p (.lst [v])) a (.ins C dx [("_awaited", .ref p)]))
def spOpen (K : PySem.W.Frag) (C : Addr) : Sp := fun vs H Q _ => ∃ (a dx l : Addr) (B : List Str) (z : Str), vs = [.ref a] ∧ InsAt H C a dx l (B ++ [z]) ∧ z ∈ tops ∧ B.length ≤ 10 ∧
  ∀ g H', Same H H' → H g = none → RowsAt K H' g (B.length : Int) (rulesOf z) → Q (.ref g) H'
def spDone (C : Addr) : Sp := fun vs H Q _ => ∃ (a dx l : Addr) (A : List Str), vs = [.ref a] ∧ InsAt H C a dx l A ∧ A.length ≤ 10 ∧ Q (.bl (decide (A.length = 0))) H
theorem sqT_upd {K : PySem.W.Frag} {H : Hp} {g : Addr} {ys : List V} {o : HO} (e : H g = some (.lst ys)) {a : Addr} {xs : List V} (h : SqT K H a xs) : SqT K (upd H g o) a xs := by
  rcases h with (h | ⟨u, h⟩) | h
  · exact .inl (.inl (by rw [upd_ne (fun y => by rw [y, e] at h; cases h)]; exact h))
  · exact .inl (.inr ⟨u, by rw [upd_ne (fun y => by rw [y, e] at h; cases h)]; exact h⟩)
  · exact .inr h
theorem sqT_keep {K : PySem.W.Frag} {H H' : Hp} {g : Addr} {ys : List V} (e : H g = some (.lst ys)) (h : ∀ b o, b ≠ g → H b = some o → H' b = some o) {a : Addr} {xs : List V} (q : SqT K H a xs) : SqT K H' a xs := by
  rcases q with (q | ⟨u, q⟩) | q
  · exact .inl (.inl (h _ _ (fun y => by rw [y, e] at q; cases q) q))
  · exact .inl (.inr ⟨u, h _ _ (fun y => by rw [y, e] at q; cases q) q⟩)
  · exact .inr q
theorem tops_ok : (tops.all fun z => ((rulesOf z).all fun l => SeqAt.shaped (dRule l) && !(PyData.eqv (dRule l) (.tuple []))) && (SeqAt.shaped (.tuple ((rulesOf z).map dRule)) && (!(((rulesOf z).map dRule).any fun d => PyData.eqv d (.tuple [])) && decide ((rulesOf z).length ≤ 3)))) = true := by decide +kernel
theorem rule_dp {K : PySem.W.Frag} {H : Hp} : ∀ (l : List Str), DpAll K H (l.map V.str) (l.map PyData.str)
  | [] => .nil
  | x :: l => .cons (.str x) (rule_dp l)
theorem rules_dp {K : PySem.W.Frag} {H : Hp} : ∀ (rs : List Addr) (ls : List (List Str)), rs.length = ls.length → (∀ (i : Nat) (r : Addr) (l : List Str), rs[i]? = some r → ls[i]? = some l → RuleAt K H r l) → DpAll K H (rs.map V.ref) (ls.map dRule)
  | [], [], _, _ => .nil
  | r :: rs, l :: ls, h, k => .cons (.tup (k 0 r l rfl rfl) (rule_dp l)) (rules_dp rs ls (Nat.succ.inj h) fun i r l a b => k (i + 1) r l a b)
theorem hu65 {k : Nat} {A : Around} (r : Room k A) : A.units + 65 < cLine := by have := r.un; omega
section
variable {P : Program} {w : World} {K : PySem.W.Frag} {mg : Str → Option Value} {base : Heap} {C aR aN : Addr}
theorem ok_rInit {f : Addr} {fd : FuncData} (F : Fun K "__init__" "Reading.__init__" sInit f fd) (c : Cls K C) (na : NoAttr K C "_awaited") : FnOk P w K mg base CX0 1 f fd ["self", "form"] (spInit C) := by
  refine F.ok scInit (fun vs H Q E h => ?_) (fun cdv A outer s H vs Q E hr h => ?_)
  · obtain ⟨a, dx, v, rfl, _⟩ := h
    rfl
  · obtain ⟨a, dx, v, rfl, ha, k⟩ := h
    refine ⟨_, pss_one (ps_fld (pv 0) (pe_lst (pa_cons (pv 1) pa_nil)) rfl), ?_⟩
    refine ⟨_, rfl, (by show 1 ≤ sizeLine; decide), fun p hp => ⟨_, rfl, a, C, dx, [], rfl, ?_, c, na, by decide, ?_⟩⟩
    · rw [upd_ne (ne_of_none ha hp)]
      exact ha
    · exact k p hp
theorem ok_rDone {f : Addr} {fd : FuncData} (F : Fun K "is_complete" "Reading.is_complete" sDone f fd) (B : Blt mg) (c : Cls K C) (na : NoAttr K C "_awaited") : FnOk P w K mg base CX0 1 f fd ["self"] (spDone C) := by
  refine F.ok scDone (fun vs H Q E h => ?_) (fun cdv A outer s H vs Q E hr h => ?_)
  · obtain ⟨a, dx, l, A, rfl, _⟩ := h
    rfl
  · obtain ⟨a, dx, l, aw, rfl, ⟨ha, hl⟩, hz, k⟩ := h
    refine ⟨_, pss_one (ps_ret (pe_cmpR op_eq (pe_callB call_len (by rfl) B.len (by decide +kernel) (pa_cons (pe_fld (pv 0) rfl) pa_nil)) pe_int (nomark _))), ?_⟩
    refine ⟨_, rfl, a, C, dx, _, .ref l, rfl, ha, c, na, rfl, _, aw.length, rfl, .inl ⟨_, .inl (.inl hl), (by rw [List.length_map])⟩, rfl, ?_⟩
    rw [show decide (V.int (aw.length : Int) = V.int 0) = decide (aw.length = 0) from decide_eq_decide.mpr ⟨fun h => by have := V.int.inj h; omega, fun h => by rw [h]; rfl⟩]
    exact k
theorem ok_open {f : Addr} {fd : FuncData} (F : Fun K "_open_rules" "Reading._open_rules" sOpen f fd) (B : Blt mg) (N : Nm mg) (R : Rul K w mg aR aN) (c : Cls K C) (na : NoAttr K C "_awaited") : FnOk P w K mg base CX0 1 f fd ["self"] (spOpen K C) := by
  refine F.ok scOpen (fun vs H Q E h => ?_) (fun cdv A outer s H vs Q E hr h => ?_)
  · obtain ⟨a, dx, l, B, z, rfl, _⟩ := h
    rfl
  · obtain ⟨a, dx, l, bs, z, rfl, ⟨ha, hl⟩, hz, hb, k⟩ := h
    have hu := hr.units
    have hu5 := hu65 hr
    refine ⟨_, pss_cons (ps_set (i := 1) scOpen.nd rfl (.inl rfl) (pe_lst pa_nil))
      (pss_cons (ps_for PassesOwn.never rfl (pi_revR (by rfl) N.rev (prg_1 (by rfl) N.rng (pe_callB call_len (by rfl) B.len (by decide +kernel) (pa_cons (pe_fld (pv 0) rfl) pa_nil)))) (pg_name (i := 2) scOpen.nd rfl (.inl rfl))
        (pss_cons (ps_set (i := 3) scOpen.nd rfl (.inl rfl) (pe_kget2 (pe_glob (v := .ref aR) (by rfl) R.gR rfl) (pe_ix ix_list (pe_fld (pv 0) rfl) (pv 2) (fun _ _ => rfl)) (pe_tup (pa_cons (pe_tup (pa_cons (pe_ix ix_list (pe_fld (pv 0) rfl) (pv 2) (fun _ _ => rfl)) pa_nil)) pa_nil)) ⟨rfl, rfl, rfl, rfl⟩))
        (pss_cons (ps_for PassesOwn.never rfl (pi_tup (pv 3)) (pg_name (i := 4) scOpen.nd rfl (.inl rfl))
          (pss_one (ps_if (pt_cmpR (op_neD hu) (pv 4) (pe_glob (v := .ref aN) (by rfl) R.gN rfl) (nomark _)) (pss_one (ps_expr (pe_bm PySem.F.plainAttrs_list PySem.F.slot_list_append PySem.F.type_list_append mt_append (pv 1) (pa_cons (pe_tup (pa_cons (pv 2) (pa_cons (pv 4) pa_nil))) pa_nil)))) pss_nil)))
        (pss_one (ps_if (pt_cmpR (op_notInDT hu5) (pe_glob (v := .ref aN) (by rfl) R.gN rfl) (pv 3) (by rfl)) (pss_one (ps_ret (pv 1))) pss_nil)))))
      (pss_one (ps_ret (pv 1)))), ?_⟩
    have sm := List.all_eq_true.mp tops_ok z hz
    simp only [Bool.and_eq_true, decide_eq_true_eq] at sm
    obtain ⟨sm1, sm2, sm3, sm4⟩ := sm
    refine ⟨Nat.zero_le _, fun g hg => ?_⟩
    have ha1 : (upd H g (.lst [])) a = some (.ins C dx [("_awaited", .ref l)]) := by rw [upd_ne (ne_of_none ha hg)]; exact ha
    have hl1 : (upd H g (.lst [])) l = some (.lst ((bs ++ [z]).map V.str)) := by rw [upd_ne (ne_of_none hl hg)]; exact hl
    have len1 : (bs ++ [z]).length = bs.length + 1 := by simp
    refine ⟨_, rfl, a, C, dx, _, .ref l, rfl, ha1, c, na, rfl, _, (bs ++ [z]).length, rfl, .inl ⟨_, .inl (.inl hl1), (by rw [List.length_map])⟩, _, rfl, by decide, by decide, by omega, by omega, for_rangeC (fun i σ H' => i = 0 ∧ σ = [some (.ref a), some (.ref g), none, none, none] ∧ H' = upd H g (.lst [])) ⟨rfl, rfl, rfl⟩ ?_ ?_⟩
    rotate_left
    · rintro σ H' ⟨h0, _, _⟩
      omega
    rintro i σ H' hi ⟨rfl, rfl, rfl⟩
    have ek : (0 : Int) + ((((((bs ++ [z]).length : Nat) : Int) - 0).toNat : Nat) : Int) - 1 + ((0 : Nat) : Int) * (-1) = (bs.length : Int) := by omega
    rw [ek]
    have hat : atI ((bs ++ [z]).map V.str) (bs.length : Int) = some (.str z) := L2.at_of rfl (by rw [List.map_append, List.getElem?_append_right (by rw [List.length_map]; exact Nat.le_refl _), List.length_map, Nat.sub_self]; rfl)
    obtain ⟨es, n, hd⟩ := R.dict
    refine ⟨aR, es, n, rfl, hd, _, rfl, a, C, dx, _, .ref l, rfl, ha1, c, na, rfl, _, rfl, l, _, _, _, rfl, rfl, .inl (.inl hl1), hat, z, rfl, ?_⟩
    refine ⟨_, rfl, a, C, dx, _, .ref l, rfl, ha1, c, na, rfl, _, rfl, l, _, _, _, rfl, rfl, .inl (.inl hl1), hat, (by show 1 ≤ sizeLine; decide), fun p1 hp1 => ⟨(by show 1 ≤ sizeLine; decide), fun p2 hp2 => ?_⟩⟩
    have s3 : Same (upd H g (.lst [])) (upd (upd (upd H g (.lst [])) p1 (.tup [.str z])) p2 (.tup [.ref p1])) := (same_new hp1).trans (same_new hp2)
    obtain ⟨o, hk, t, et, rs, hrs, hlen, hall⟩ : ∃ o, KAt K w aR z o ∧ ∃ t, o.getD (.ref p2) = .ref t ∧ RulesAt K (upd (upd (upd H g (.lst [])) p1 (.tup [.str z])) p2 (.tup [.ref p1])) t (rulesOf z) := by
      by_cases hf : z ∈ forms
      · obtain ⟨t, h1, h2⟩ := R.at_ z hf
        exact ⟨_, h1, t, rfl, h2 _⟩
      · have hs : z ∈ signsW := by
          simp only [tops, forms, signsW, List.mem_cons, List.not_mem_nil, or_false] at hz hf ⊢
          rcases hz with h | h | h | h | h | h
          · exact absurd (.inl h) hf
          · exact absurd (.inr (.inl h)) hf
          · exact absurd (.inr (.inr h)) hf
          · exact .inl h
          · exact .inr (.inl h)
          · exact .inr (.inr h)
        have er : rulesOf z = [[z]] := by
          simp only [forms, List.mem_cons, List.not_mem_nil, or_false, not_or] at hf
          unfold rulesOf
          rw [if_neg hf.1, if_neg hf.2.1, if_neg hf.2.2]
        refine ⟨_, R.els z hs, p2, rfl, [p1], .inl (.inl upd_same), by rw [er]; rfl, ?_⟩
        rw [er]
        intro i r l h1 h2
        cases i with
        | succ i => cases h2
        | zero =>
          cases (Option.some.inj h1)
          cases (Option.some.inj h2)
          exact .inl (.inl ((same_new hp2) _ _ upd_same))
    refine ⟨o, hk, ?_⟩
    rw [et]
    have eg3 := s3 _ _ (upd_same (H := H) (a := g) (o := .lst []))
    generalize upd (upd (upd H g (.lst [])) p1 (.tup [.str z])) p2 (.tup [.ref p1]) = H3 at s3 hrs hall eg3 ⊢
    refine ⟨_, rfl, t, rfl, ⟨_, hrs⟩, for_tup (K := K) (a := t) (xs := rs.map V.ref) (fun i σ H' => ∃ v4 ps, σ = [some (.ref a), some (.ref g), some (.int bs.length), some (.ref t), v4] ∧ (∀ b o, b ≠ g → H3 b = some o → H' b = some o) ∧ H' g = some (.lst (ps.map V.ref)) ∧ ps.length = i ∧
      ∀ j l, j < i → (rulesOf z)[j]? = some l → ∃ r, SqT K H' (ps.getD j 0) [.int bs.length, .ref r] ∧ RuleAt K H' r l) ⟨none, [], rfl, fun _ _ _ e => e, eg3, rfl, fun j l h _ => absurd h (Nat.not_lt_zero _)⟩ (fun i σ H' _ ⟨v4, ps, _, h2, _⟩ => sqT_keep eg3 h2 hrs) ?_ ?_⟩
    · rintro i x σ H4 hi ⟨v4, ps, rfl, h2, h3, h4, h5⟩
      obtain ⟨r, hr1, rfl⟩ : ∃ r, rs[i]? = some r ∧ x = V.ref r := by
        rw [List.getElem?_map] at hi
        cases e : rs[i]? with
        | none =>
          rw [e] at hi
          cases hi
        | some r =>
          rw [e] at hi
          exact ⟨r, rfl, (Option.some.inj hi).symm⟩
      have hil : i < rs.length := (List.getElem?_eq_some_iff.mp hr1).1
      obtain ⟨lr, hlr⟩ : ∃ lr, (rulesOf z)[i]? = some lr := ⟨_, List.getElem?_eq_getElem (by omega)⟩
      have hrule := sqT_keep eg3 h2 (hall i r lr hr1 hlr)
      have sr := List.all_eq_true.mp sm1 lr (List.mem_of_getElem? hlr)
      simp only [Bool.and_eq_true] at sr
      refine ⟨_, rfl, dRule lr, .tuple [], .tup hrule (rule_dp lr), .tup (R.no _) .nil, sr.1, by decide +kernel, _, rfl, ?_⟩
      refine if_known sr.2 ?_
      refine ⟨_, rfl, .inl ⟨rfl, _, .inl (.inl h3)⟩, _, rfl, _, rfl, (by show 2 ≤ sizeLine; decide), fun q hq => ?_⟩
      have ngq : g ≠ q := ne_of_none h3 hq
      refine ⟨g, _, _, rfl, rfl, (by rw [upd_ne ngq]; exact h3), ?_, ?_⟩
      · rw [List.length_map, h4]
        exact small1000 (by omega)
      · have keep : ∀ {a : Addr} {xs : List V}, SqT K H4 a xs → SqT K (upd (upd H4 q (.tup [.int bs.length, .ref r])) g (.lst (ps.map V.ref ++ [.ref q]))) a xs := fun {a xs} h => sqT_upd (ys := ps.map V.ref) (by rw [upd_ne ngq]; exact h3) (Same.sqT (same_new hq) h)
        refine ⟨_, ps ++ [q], rfl, fun b o nb e => ?_, ?_, by rw [List.length_append, h4]; rfl, fun j l' hj hl' => ?_⟩
        · rw [upd_ne nb, upd_ne (ne_of_none (h2 b o nb e) hq)]
          exact h2 b o nb e
        · rw [upd_same, List.map_append]
          rfl
        · by_cases ej : j = i
          · subst ej
            rw [hlr] at hl'
            cases (Option.some.inj hl')
            refine ⟨r, ?_, keep hrule⟩
            rw [List.getD_eq_getElem?_getD, List.getElem?_append_right (by omega), h4, Nat.sub_self]
            exact .inl (.inl (by show upd (upd H4 q _) g _ q = _; rw [upd_ne (Ne.symm ngq)]; exact upd_same))
          · obtain ⟨r', q1, q2⟩ := h5 j l' (by omega) hl'
            refine ⟨r', ?_, keep q2⟩
            rw [List.getD_eq_getElem?_getD, List.getElem?_append_left (by omega), ← List.getD_eq_getElem?_getD]
            exact keep q1
    · rintro σ H4 ⟨v4, ps, rfl, h2, h3, h4, h5⟩
      rw [List.length_map] at h4 h5
      have hall4 : ∀ (i : Nat) (r : Addr) (l : List Str), rs[i]? = some r → (rulesOf z)[i]? = some l → RuleAt K H4 r l := fun i r l e1 e2 => sqT_keep eg3 h2 (hall i r l e1 e2)
      refine ⟨_, rfl, .tuple [], (rulesOf z).map dRule, .tup (R.no _) .nil, .tup (sqT_keep eg3 h2 hrs) (rules_dp rs _ hlen hall4), by decide +kernel, sm2, _, rfl, ?_⟩
      refine if_known sm3 ?_
      refine ⟨_, rfl, k g H4 (fun b o e => ?_) hg ⟨ps, h3, by omega, fun i l e => h5 i l ?_ e⟩⟩
      · have nb : b ≠ g := ne_of_none e hg
        exact h2 b o nb (s3 b o (by rw [upd_ne nb]; exact e))
      · have := (List.getElem?_eq_some_iff.mp e).1
        omega
end
end Bc

namespace Bc
open PySem PySem.Spec PyProof.Rows L2
def firstOf (z s x : Str) : Option (List Str) := (rulesOf z).find? fun r => toldB (r.headD "") s x
def spTakes (C : Addr) : Sp := fun vs H Q _ => ∃ (a dx l : Addr) (B : List Str) (z s x : Str) (l0 : List Str), vs = [.ref a, .str s, .str x] ∧ InsAt H C a dx l (B ++ [z]) ∧ z ∈ tops ∧ B.length ≤ 10 ∧ firstOf z s x = some l0 ∧
  ∀ l' H', (∀ b o, b ≠ a → H b = some o → H' b = some o) → H l' = none → InsAt H' C a dx l' (B ++ l0.tail.reverse) → Q (.bl true) H'
theorem tops_len : (tops.all fun z => (rulesOf z).all fun l => decide (1 ≤ l.length) && decide (l.length ≤ 9)) = true := by decide +kernel
theorem cut_to {B : List Str} {z : Str} : cutV ((B ++ [z]).map V.str) none (some (B.length : Int)) = B.map V.str := by
  unfold cutV
  rw [HT.sIx_none, HT.sIx_nat, List.drop_zero, List.length_map, List.length_append, Nat.min_eq_left (by simp), Nat.sub_zero, List.map_append, List.take_append_of_le_length (by rw [List.length_map]; exact Nat.le_refl _)]
  rw [← List.length_map (f := V.str), List.take_length]
theorem cut_tail {l : List Str} (h : 1 ≤ l.length) : cutV (l.map V.str) (some 1) none = l.tail.map V.str := by
  unfold cutV
  rw [show (some (1 : Int)) = some ((1 : Nat) : Int) from rfl, HT.sIx_none, HT.sIx_nat, List.length_map, Nat.min_eq_left h]
  rw [List.take_of_length_le (by rw [List.length_drop, List.length_map]; exact Nat.le_refl _)]
  cases l with
  | nil => cases h
  | cons a r => rfl
section
variable {P : Program} {w : World} {K : PySem.W.Frag} {mg : Str → Option Value} {base : Heap} {C : Addr}
theorem ok_takes {f fO fT : Addr} {fd fdO fdT : FuncData} (F : Fun K "takes" "Reading.takes" sTakes f fd) (N : Nm mg) (c : Cls K C) (na : NoAttr K C "_awaited")
    (mO : Meth K C "_open_rules" fO) (GO : FnOk P w K mg base CX0 1 fO fdO ["self"] (spOpen K C)) (bO : Binds K fdO ["self"] [])
    (GT : FnOk P w K mg base CX0 1 fT fdT ["awaited", "sort", "lexeme"] spIsTold) (bT : Binds K fdT ["awaited", "sort", "lexeme"] []) (gT : mg "is_told" = some (.ref fT)) (kT : PySem.W.keepIn K (.ref fT) = true) :
    FnOk P w K mg base CX0 2 f fd ["self", "sort", "lexeme"] (spTakes C) := by
  refine F.ok scTakes (fun vs H Q E h => ?_) (fun cdv A outer s H vs Q E hr h => ?_)
  · obtain ⟨a, dx, l, B, z, s, x, l0, rfl, _⟩ := h
    rfl
  · obtain ⟨a, dx, l, bs, z, so, x, l0, rfl, ⟨ha, hl⟩, hz, hb, hf, k⟩ := h
    have hu := hr.units
    refine ⟨_, pss_cons (ps_setLc (i := 5) (own := [("k", 3), ("rule", 4)]) rfl scTakes.nd rfl rfl rfl (pi_list (pe_meth0 (pv 0) c mO GO hr bO .nil pass0)) (blkOk_by (own := [("k", 3), ("rule", 4)]) (N := nTakes) (sc := defScope sTakes) (by decide +kernel))
          (fun _ _ _ _ _ => (show PG _ _ (gTup K 2 _) from pg_tup rfl (pgs_cons (pg_name (i := 3) scTakes.nd rfl (.inl rfl)) (pgs_cons (pg_name (i := 4) scTakes.nd rfl (.inl rfl)) pgs_nil))))
          (fun _ _ _ _ _ => pts_one (pt_val (pe_call GT hr (by rfl) gT kT bT .nil pass0 (pa_cons (pe_ix (show IxR _ (rIxT K) from ix_tup) (pv 4) pe_int (fun _ _ => rfl)) (pa_cons (pv 1) (pa_cons (pv 2) pa_nil))))))
          (fun _ _ _ _ _ => pe_tup (pa_cons (pv 3) (pa_cons (pv 4) pa_nil))))
      (pss_cons (ps_if (pt_not (pt_truth (pv 5) (fun _ => rfl))) (pss_one (ps_ret pe_bl)) pss_nil)
      (pss_cons (ps_asg (pe_ix ix_list (pv 5) pe_int (fun _ _ => rfl)) (pg_tup rfl (pgs_cons (pg_name (i := 3) scTakes.nd rfl (.inl rfl)) (pgs_cons (pg_name (i := 4) scTakes.nd rfl (.inl rfl)) pgs_nil))))
      (pss_cons (ps_fld (pv 0) (pe_op op_cat (pe_slice sl_list (pe_fld (pv 0) rfl) po_none (po_some (pv 3))) (pe_listRevT rfl (by rfl) N.lst (by rfl) N.rev (pe_slice sl_tup (pv 4) (po_some pe_int) po_none))) rfl)
      (pss_one (ps_ret pe_bl))))), ?_⟩
    have two : ∀ {a b : V}, [a, b].length ≤ sizeLine := fun {_ _} => (by show 2 ≤ sizeLine; decide)
    have sm := List.all_eq_true.mp tops_ok z hz
    simp only [Bool.and_eq_true, decide_eq_true_eq] at sm
    have sm4 := sm.2.2.2
    have lens := List.all_eq_true.mp tops_len z hz
    have len_of : ∀ {l : List Str}, l ∈ rulesOf z → 1 ≤ l.length ∧ l.length ≤ 9 := fun {l} h => by
      have q := List.all_eq_true.mp lens l h
      simpa using q
    refine ⟨_, rfl, a, dx, _, rfl, ha, rfl, a, dx, l, bs, z, rfl, ⟨ha, hl⟩, hz, hb, fun g H1 s1 hg rows => ?_⟩
    obtain ⟨ps, eg, hps, hrow⟩ := rows
    refine ⟨g, rfl, ⟨_, .inl (.inl eg)⟩, fun D hD => lc_list (K := K) (a := g) (xs := ps.map V.ref) (fun i H' => Same H1 H' ∧ ∃ qs : List Addr, H' D = some (.lst (qs.map V.ref)) ∧ qs.length ≤ i ∧ (((rulesOf z).take i).find? (fun r => toldB (r.headD "") so x) = none → qs = []) ∧
      ∀ lf, ((rulesOf z).take i).find? (fun r => toldB (r.headD "") so x) = some lf → ∃ q r rest, qs = q :: rest ∧ SqT K H' q [.int bs.length, .ref r] ∧ RuleAt K H' r lf)
      ⟨same_new hD, [], upd_same, Nat.le_refl _, fun _ => rfl, fun lf e => by rw [List.take_zero] at e; cases e⟩ (fun i H' _ h => h.1.seq (.inl (.inl eg))) ?_ ?_⟩
    · rintro i y H2 hi ⟨s2, qs, eD, hq, hno, hfnd⟩
      obtain ⟨p, hp1, rfl⟩ : ∃ p, ps[i]? = some p ∧ y = V.ref p := by
        rw [List.getElem?_map] at hi
        cases e : ps[i]? with
        | none =>
          rw [e] at hi
          cases hi
        | some r =>
          rw [e] at hi
          exact ⟨r, rfl, (Option.some.inj hi).symm⟩
      have hil : i < ps.length := (List.getElem?_eq_some_iff.mp hp1).1
      obtain ⟨lr, hlr⟩ : ∃ lr, (rulesOf z)[i]? = some lr := ⟨_, List.getElem?_eq_getElem (by omega)⟩
      obtain ⟨r, q1, q2⟩ := hrow i lr hlr
      rw [List.getD_eq_getElem?_getD, hp1] at q1
      have q1' : SqT K H2 p [.int bs.length, .ref r] := Same.sqT s2 q1
      have q2' : SqT K H2 r (lr.map V.str) := Same.sqT s2 q2
      obtain ⟨h1, h9⟩ := len_of (List.mem_of_getElem? hlr)
      obtain ⟨hd, tl, el⟩ : ∃ hd tl, lr = hd :: tl := by
        cases lr with
        | nil => cases h1
        | cons a b => exact ⟨a, b, rfl⟩
      subst el
      refine ⟨p, _, rfl, q1', rfl, _, _, rfl, _, _, rfl, rfl, rfl, ?_⟩
      refine ⟨_, rfl, r, _, _, .str hd, rfl, rfl, q2', L2.at_of (j := 0) rfl rfl, _, rfl, _, rfl, _, _, _, rfl, _, rfl, ?_⟩
      have ftake : ((rulesOf z).take (i + 1)).find? (fun r => toldB (r.headD "") so x) = (((rulesOf z).take i).find? (fun r => toldB (r.headD "") so x)).or (if toldB hd so x = true then some (hd :: tl) else none) := by
        rw [List.take_add_one, hlr, List.find?_append]
        congr 1
        show (List.find? _ [hd :: tl]) = _
        rw [List.find?_cons, List.headD_cons]
        cases toldB hd so x <;> rfl
      refine ite2 (fun ht => ?_) (fun ht => ?_)
      · refine ⟨_, rfl, _, rfl, two, fun q hq0 => ⟨_, (same_new hq0) _ _ eD, ?_, ?_, qs ++ [q], ?_, ?_, ?_, ?_⟩⟩
        · rw [List.length_map]
          exact small1000 (by omega)
        · exact Same.over (s2.trans (same_new hq0)) hD
        · rw [upd_same, List.map_append]
          rfl
        · rw [List.length_append]
          show qs.length + 1 ≤ i + 1
          omega
        · intro e
          rw [ftake, if_pos ht] at e
          cases ef : ((rulesOf z).take i).find? (fun r => toldB (r.headD "") so x) with
          | none =>
            rw [ef] at e
            cases e
          | some l1 =>
            rw [ef] at e
            cases e
        · intro lf e
          have keep : ∀ {a : Addr} {xs : List V}, SqT K H2 a xs → SqT K (upd (upd H2 q (.tup [.int bs.length, .ref r])) D (.lst (qs.map V.ref ++ [.ref q]))) a xs := fun {a xs} h => sqT_upd (ys := qs.map V.ref) ((same_new hq0) _ _ eD) (Same.sqT (same_new hq0) h)
          have nqD : q ≠ D := fun y => by rw [y, eD] at hq0; cases hq0
          cases ef : ((rulesOf z).take i).find? (fun r => toldB (r.headD "") so x) with
          | some l1 =>
            rw [ftake, ef] at e
            cases (Option.some.inj e)
            obtain ⟨q', r', rest, e1, e2, e3⟩ := hfnd _ ef
            exact ⟨q', r', rest ++ [q], by rw [e1]; rfl, keep e2, keep e3⟩
          | none =>
            rw [ftake, ef, if_pos ht] at e
            cases (Option.some.inj e)
            have e0 := hno ef
            subst e0
            exact ⟨q, r, [], rfl, .inl (.inl (by rw [upd_ne nqD]; exact upd_same)), keep q2'⟩
      · refine ⟨s2, qs, eD, by omega, fun e => ?_, fun lf e => ?_⟩
        · rw [ftake, if_neg ht, Option.or_none] at e
          exact hno e
        · rw [ftake, if_neg ht, Option.or_none] at e
          exact hfnd lf e
    · rintro H2 ⟨s2, qs, eD, hq, hno, hfnd⟩
      rw [List.length_map, hps, List.take_length] at hno hfnd
      obtain ⟨q, r, rest, rfl, q1, q2⟩ := hfnd l0 hf
      obtain ⟨h1, h9⟩ := len_of (List.mem_of_find?_eq_some hf)
      refine ⟨_, rfl, true, .inl ⟨_, .inl (.inl eD), rfl⟩, ?_⟩
      refine iteF ?_
      refine ⟨_, rfl, D, _, _, .ref q, rfl, rfl, .inl (.inl eD), L2.at_of (j := 0) rfl rfl, ?_⟩
      refine ⟨q, _, rfl, q1, rfl, _, _, rfl, _, _, rfl, rfl, ?_⟩
      -- the store
      have sA : Same H H2 := (s1.trans s2)
      have ha2 := sA _ _ ha
      have hl2 := sA _ _ hl
      refine ⟨_, rfl, a, C, dx, _, .ref l, rfl, ha2, c, na, rfl, _, rfl, _, rfl, l, _, rfl, .inl (.inl hl2), fun p hp => ?_⟩
      rw [cut_to]
      refine ⟨_, rfl, _, rfl, r, _, rfl, Same.sqT (same_new hp) q2, ?_, fun p2 hp2 => ?_⟩
      · rintro ⟨e0, _⟩
        rw [show (some (1 : Int)) = some ((1 : Nat) : Int) from rfl, HT.sIx_nat, List.length_map, Nat.min_eq_left h1] at e0
        cases e0
      rw [cut_tail h1]
      refine ⟨p2, _, rfl, .inl (.inl upd_same), fun p3 hp3 => ?_⟩
      have ep : (upd (upd (upd H2 p (.lst (bs.map V.str))) p2 (.tup (l0.tail.map V.str))) p3 (.lst (l0.tail.map V.str).reverse)) p = some (.lst (bs.map V.str)) := ((same_new hp2).trans (same_new hp3)) _ _ upd_same
      refine ⟨p, p3, _, _, rfl, rfl, ep, upd_same, ?_, fun p4 hp4 => ?_⟩
      · rw [List.length_map, List.length_reverse, List.length_map, List.length_tail]
        exact Nat.le_of_lt (small1000 (by omega))
      have s4 := (same_new (o := .lst (bs.map V.str)) hp).trans ((same_new (o := .tup (l0.tail.map V.str)) hp2).trans ((same_new (o := .lst (l0.tail.map V.str).reverse) hp3).trans (same_new (o := .lst (bs.map V.str ++ (l0.tail.map V.str).reverse)) hp4)))
      refine ⟨_, rfl, a, C, dx, _, rfl, s4 _ _ ha2, c, na, (by show 1 < 1000; decide), ?_⟩
      have nap : a ≠ p4 := ne_of_none (((same_new (o := .lst (bs.map V.str)) hp).trans ((same_new (o := .tup (l0.tail.map V.str)) hp2).trans (same_new (o := .lst (l0.tail.map V.str).reverse) hp3))) _ _ ha2) hp4
      refine k p4 _ (fun b o nb e => ?_) ?_ ⟨by rw [upd_same]; rfl, ?_⟩
      · rw [upd_ne nb]
        exact s4 _ _ (sA _ _ e)
      · exact (sA.trans ((same_new hp).trans ((same_new hp2).trans (same_new hp3)))).free hp4
      · rw [upd_ne nap.symm, upd_same, List.map_append, List.map_reverse]
end
end Bc

namespace Bc
open PySem PySem.Spec PyProof.Rows L2
abbrev sLexOf : Stmt := topS 21
abbrev nLexOf : List Str := ["form", "text", "found", "wrong", "reading", "sort", "lexeme", "place", "row"]
theorem scLexOf : FnScope nLexOf ["form", "text"] (defScope sLexOf) := ⟨rfl, rfl, rfl, by decide +kernel, rfl, by decide +kernel, by decide +kernel⟩
/-- a statement that is never come to -/
theorem ps_never {X : Cx} {st : Stmt} : PS X st (fun _ _ _ => False) := ⟨fun _ _ _ _ _ _ h => h.elim⟩
abbrev txtT (t : Tok) : Str := ⟨t.2.1.toArray⟩
inductive Goes : List Str → List Tok → List Str → Prop
  | nil (A : List Str) : Goes A [] A
  | cons {B : List Str} {z : Str} {t : Tok} {l0 : List Str} {ts : List Tok} {A : List Str} : z ∈ tops → B.length ≤ 10 → firstOf z t.1 (txtT t) = some l0 → Goes (B ++ l0.tail.reverse) ts A → Goes (B ++ [z]) (t :: ts) A
theorem Goes.inv {A1 A : List Str} {t : Tok} {ts : List Tok} (h : Goes A1 (t :: ts) A) : ∃ B z l0, A1 = B ++ [z] ∧ z ∈ tops ∧ B.length ≤ 10 ∧ firstOf z t.1 (txtT t) = some l0 ∧ Goes (B ++ l0.tail.reverse) ts A := by
  cases h with
  | cons h1 h2 h3 h4 => exact ⟨_, _, _, rfl, h1, h2, h3, h4⟩
theorem Goes.inv0 {A1 A : List Str} (h : Goes A1 [] A) : A1 = A := by
  cases h
  rfl
theorem sqT_ins {K : PySem.W.Frag} {H H' : Hp} {g C dx : Addr} {fs : List (Str × V)} (e : H g = some (.ins C dx fs)) (h : ∀ b o, b ≠ g → H b = some o → H' b = some o) {a : Addr} {xs : List V} (q : SqT K H a xs) : SqT K H' a xs := by
  rcases q with (q | ⟨u, q⟩) | q
  · exact .inl (.inl (h _ _ (fun y => by rw [y, e] at q; cases q) q))
  · exact .inl (.inr ⟨u, h _ _ (fun y => by rw [y, e] at q; cases q) q⟩)
  · exact .inr q
theorem tok_inv {K : PySem.W.Frag} {H : Hp} {v : V} {t : Tok} (h : Dq K H v (tokD t)) : ∃ u, v = .ref u ∧ SqT K H u [.str t.1, .str (txtT t), .int t.2.2] := by
  obtain ⟨a, xs, rfl, hq, hall⟩ := h.tup_inv
  obtain ⟨v1, _, rfl, h1, hall⟩ := hall.cons_inv
  obtain ⟨v2, _, rfl, h2, hall⟩ := hall.cons_inv
  obtain ⟨v3, _, rfl, h3, hall⟩ := hall.cons_inv
  cases hall.nil_inv
  cases h1.str_inv
  cases h2.str_inv
  cases h3.int_inv
  exact ⟨a, rfl, hq⟩
def spLexOf : Sp := fun vs H Q _ => ∃ z : Str, vs = [.str "SCRIPT", .str z] ∧ z.length ≤ 20000 ∧ (Lx (codes z) 0).2 = none ∧ Goes ["SCRIPT"] (Lx (codes z) 0).1 [] ∧ (Lx (codes z) 0).1.length ≤ 20000 ∧
  ∀ g H', Same H H' → H g = none → H' g = some (.lst ((Lx (codes z) 0).1.map fun t => V.str (txtT t))) → Q (.ref g) H'
section
variable {P : Program} {w : World} {K : PySem.W.Frag} {mg : Str → Option Value} {base : Heap} {C : Addr}
theorem ok_lexOf {f fS fI fT fD : Addr} {fd fdS fdI fdT fdD : FuncData} (F : Fun K "lexemes_of" "lexemes_of" sLexOf f fd) (c : Cls K C) (M : Mk K C fI) (gC : mg "Reading" = some (.ref C))
    (GS : FnOk P w K mg base CX0 3 fS fdS ["text"] (spScan K)) (bS : Binds K fdS ["text"] []) (gS : mg "scan" = some (.ref fS)) (kS : PySem.W.keepIn K (.ref fS) = true)
    (GI : FnOk P w K mg base CX0 1 fI fdI ["self", "form"] (spInit C)) (bI : Binds K fdI ["self", "form"] [])
    (mT : Meth K C "takes" fT) (GT : FnOk P w K mg base CX0 2 fT fdT ["self", "sort", "lexeme"] (spTakes C)) (bT : Binds K fdT ["self", "sort", "lexeme"] [])
    (mD : Meth K C "is_complete" fD) (GD : FnOk P w K mg base CX0 1 fD fdD ["self"] (spDone C)) (bD : Binds K fdD ["self"] []) : FnOk P w K mg base CX0 4 f fd ["form", "text"] spLexOf := by
  refine F.ok scLexOf (fun vs H Q E h => ?_) (fun cdv A outer s H vs Q E hr h => ?_)
  · obtain ⟨z, rfl, _⟩ := h
    rfl
  · obtain ⟨z, rfl, hz, hw, hgo, hn, k⟩ := h
    have hr1 : Room 1 _ := hr.mono (by decide)
    have hr2 : Room 2 _ := hr.mono (by decide)
    have three : ∀ {a b c : V}, [a, b, c].length = 3 := fun {_ _ _} => rfl
    refine ⟨_, pss_cons (ps_asg (pe_call GS hr (by rfl) gS kS bS .nil pass0 (pa_cons (pv 1) pa_nil)) (pg_tup rfl (pgs_cons (pg_name (i := 2) scLexOf.nd rfl (.inl rfl)) (pgs_cons (pg_name (i := 3) scLexOf.nd rfl (.inl rfl)) pgs_nil))))
      (pss_cons (ps_set (i := 4) scLexOf.nd rfl (.inl rfl) (pe_make M GI hr2 (by rfl) gC bI .nil pass0 (pa_cons (pv 0) pa_nil)))
      (pss_cons (ps_for PassesOwn.never rfl (pi_list (pv 2)) (pg_tup rfl (pgs_cons (pg_name (i := 5) scLexOf.nd rfl (.inl rfl)) (pgs_cons (pg_name (i := 6) scLexOf.nd rfl (.inl rfl)) (pgs_cons (pg_name (i := 7) scLexOf.nd rfl (.inl rfl)) pgs_nil))))
        (pss_one (ps_if (pt_not (pt_val (pe_meth (pv 4) c mT GT hr2 bT .nil pass0 (pa_cons (pv 5) (pa_cons (pv 6) pa_nil))))) (pss_one ps_never) pss_nil)))
      (pss_cons (ps_if (pt_cmpR op_notN (pv 3) pe_non (nomark _)) (pss_one ps_never) pss_nil)
      (pss_cons (ps_if (pt_not (pt_val (pe_meth0 (pv 4) c mD GD hr1 bD .nil pass0))) (pss_one ps_never) pss_nil)
      (pss_one (ps_ret (pe_lc (own := [("row", 8)]) (g := gName 8) (tt := tYes) (by rfl) scLexOf.nd (pi_list (pv 2)) (blkOk_by (own := [("row", 8)]) (N := nLexOf) (sc := defScope sLexOf) (by decide +kernel)) (fun _ _ _ _ _ => pg_name (i := 8) scLexOf.nd rfl (.inl rfl)) (fun _ _ _ _ _ => pts_nil)
          (fun _ _ _ _ _ => pe_ix (show IxR _ (rIxT K) from ix_tup) (pv 8) pe_int (fun _ _ => rfl))))))))), ?_⟩
    refine ⟨_, rfl, z, rfl, hz, fun q fl H1 ws s1 nl _ hq el dq => ?_⟩
    have ew : wrongV z = .non := by
      unfold wrongV
      rw [hw]
    rw [ew] at hq
    refine ⟨q, _, rfl, hq, rfl, _, _, rfl, _, _, rfl, rfl, ?_⟩
    -- the reading
    refine ⟨_, rfl, fun a dx hx hdx ne => ⟨a, dx, _, rfl, upd_same, fun p hp => ⟨rfl, ?_⟩⟩⟩
    have nap : p ≠ a := fun e => by
      rw [e, upd_same] at hp
      cases hp
    have s2 : Same H1 (upd (upd (upd (upd H1 dx (.own a)) a (.ins C dx [])) p (.lst [.str "SCRIPT"])) a (.ins C dx [("_awaited", .ref p)])) := fun b o e => by
      have n1 : b ≠ a := ne_of_none e hx
      have n2 : b ≠ dx := ne_of_none e hdx
      have n3 : b ≠ p := fun y => by
        rw [y] at n1 n2 e
        rw [upd_ne n1, upd_ne n2, e] at hp
        cases hp
      rw [upd_ne n1, upd_ne n3, upd_ne n1, upd_ne n2]
      exact e
    have ia : InsAt (upd (upd (upd (upd H1 dx (.own a)) a (.ins C dx [])) p (.lst [.str "SCRIPT"])) a (.ins C dx [("_awaited", .ref p)])) C a dx p ["SCRIPT"] := ⟨upd_same, by rw [upd_ne nap, upd_same]; rfl⟩
    generalize upd (upd (upd (upd H1 dx (.own a)) a (.ins C dx [])) p (.lst [.str "SCRIPT"])) a (.ins C dx [("_awaited", .ref p)]) = H2 at s2 ia ⊢
    have el2 := s2 _ _ el
    have dq2 := DqAll.same (hid_all.trans s2) dq
    have nfa : fl ≠ a := ne_of_none el hx
    have Ha : H a = none := s1.free hx
    refine ⟨_, rfl, fl, rfl, ⟨_, .inl (.inl el2)⟩, for_list (K := K) (a := fl) (xs := ws) (fun i σ H' => ∃ v5 v6 v7 l A, σ = [some (.str "SCRIPT"), some (.str z), some (.ref fl), some .non, some (.ref a), v5, v6, v7, none] ∧ (∀ b o, b ≠ a → H2 b = some o → H' b = some o) ∧ InsAt H' C a dx l A ∧ Goes A ((Lx (codes z) 0).1.drop i) [])
      ⟨none, none, none, p, _, rfl, fun _ _ _ e => e, ia, hgo⟩ (fun i σ H' _ ⟨_, _, _, _, _, _, h2, _⟩ => .inl (.inl (h2 _ _ nfa el2))) ?_ ?_⟩
    · rintro i x σ H3 hi ⟨v5, v6, v7, l, A, rfl, h2, ha, hg⟩
      obtain ⟨d, hd, dqx⟩ := DqAll.get i dq2 hi
      obtain ⟨t, ht, rfl⟩ : ∃ t, (Lx (codes z) 0).1[i]? = some t ∧ d = tokD t := by
        rw [List.getElem?_map] at hd
        cases e : (Lx (codes z) 0).1[i]? with
        | none =>
          rw [e] at hd
          cases hd
        | some b =>
          rw [e] at hd
          exact ⟨b, rfl, (Option.some.inj hd).symm⟩
      obtain ⟨u, rfl, hu⟩ := tok_inv dqx
      obtain ⟨hlt, het⟩ := List.getElem?_eq_some_iff.mp ht
      rw [List.drop_eq_getElem_cons hlt, het] at hg
      obtain ⟨B, zz, l0, rfl, g1, g2, g3, g4⟩ := hg.inv
      refine ⟨u, _, rfl, sqT_ins ia.1 h2 hu, rfl, _, _, rfl, _, _, rfl, _, _, rfl, rfl, ?_⟩
      refine ⟨_, rfl, a, dx, _, rfl, ha.1, rfl, _, rfl, _, rfl, a, dx, l, B, zz, t.1, txtT t, l0, rfl, ha, g1, g2, g3, fun l' H4 h4 n4 ia4 => ⟨_, rfl, ?_⟩⟩
      refine if_no rfl ?_
      exact ⟨_, _, _, l', _, rfl, fun b o nb e => h4 b o nb (h2 b o nb e), ia4, g4⟩
    · rintro σ H3 ⟨v5, v6, v7, l, A, rfl, h2, ha, hg⟩
      have hlen : ws.length = (Lx (codes z) 0).1.length := by rw [dq2.len, List.length_map]
      rw [hlen, List.drop_length] at hg
      cases hg.inv0
      refine ⟨_, rfl, rfl, _, rfl, ?_⟩
      refine iteNS rfl ?_
      refine ⟨_, rfl, a, dx, _, rfl, ha.1, rfl, a, dx, l, [], rfl, ha, Nat.zero_le _, _, rfl, ?_⟩
      refine if_no rfl ?_
      have sA : Same H H3 := fun b o e => h2 b o (ne_of_none e Ha) (s2 _ _ (s1 _ _ e))
      have el3 := h2 _ _ nfa el2
      refine ⟨_, rfl, fl, rfl, ⟨_, .inl (.inl el3)⟩, fun D hD => lc_list (K := K) (a := fl) (xs := ws) (fun i H' => Same H3 H' ∧ H' D = some (.lst (((Lx (codes z) 0).1.take i).map fun t => V.str (txtT t))))
        ⟨same_new hD, upd_same⟩ (fun i H' _ h => h.1.seq (.inl (.inl el3))) ?_ ?_⟩
      · rintro i x H4 hi ⟨s4, eD⟩
        obtain ⟨d, hd, dqx⟩ := DqAll.get i dq2 hi
        obtain ⟨t, ht, rfl⟩ : ∃ t, (Lx (codes z) 0).1[i]? = some t ∧ d = tokD t := by
          rw [List.getElem?_map] at hd
          cases e : (Lx (codes z) 0).1[i]? with
          | none =>
            rw [e] at hd
            cases hd
          | some b =>
            rw [e] at hd
            exact ⟨b, rfl, (Option.some.inj hd).symm⟩
        obtain ⟨u, rfl, hu⟩ := tok_inv dqx
        have hu4 : SqT K H4 u _ := Same.sqT s4 (sqT_ins ia.1 h2 hu)
        refine ⟨rfl, ?_⟩
        refine lc_yes ?_
        refine ⟨_, rfl, u, _, _, .str (txtT t), rfl, rfl, hu4, L2.at_of (j := 1) rfl rfl, _, eD, ?_, Same.over s4 hD, ?_⟩
        · rw [List.length_map, List.length_take]
          refine Nat.lt_of_le_of_lt (Nat.min_le_left _ _) ?_
          have := (List.getElem?_eq_some_iff.mp hi).1
          exact Nat.lt_of_lt_of_le (show i < 20000 by omega) (by decide)
        · rw [upd_same, List.take_add_one, ht, List.map_append]
          rfl
      · rintro H4 ⟨s4, eD⟩
        rw [hlen, List.take_length] at eD
        exact k D H4 (sA.trans s4) (sA.free hD) eD
end
end Bc

namespace Bc
open PySem PySem.Spec PyProof.Rows L2
abbrev sHead : Stmt := topS 22
abbrev nHead : List Str := ["form", "text", "read", "start", "rows", "row", "lexeme"]
theorem scHead : FnScope nHead ["form", "text"] (defScope sHead) := ⟨rfl, rfl, rfl, by decide +kernel, rfl, by decide +kernel, by decide +kernel⟩
def bodyOf (ds : List (List Str)) : List Str := ds.flatMap fun d => d ++ [(";" : Str)]
/-- a text that is read: its lexemes -/
structure LexOk (z : Str) (ws : List Str) : Prop where
  len : z.length ≤ 20000
  fine : (Lx (codes z) 0).2 = none
  goes : Goes ["SCRIPT"] (Lx (codes z) 0).1 []
  many : (Lx (codes z) 0).1.length ≤ 20000
  is : (Lx (codes z) 0).1.map txtT = ws
def stp (p : List (List Str) × List Str) (x : Str) : List (List Str) × List Str := if x = ";" then (p.1 ++ [p.2], []) else (p.1, p.2 ++ [x])
theorem fold_row : ∀ (d : List Str) (acc : List (List Str)) (cur : List Str), (∀ x ∈ d, x ≠ ";") → d.foldl stp (acc, cur) = (acc, cur ++ d)
  | [], acc, cur, _ => by rw [List.append_nil]; rfl
  | x :: d, acc, cur, h => by
    rw [List.foldl_cons, show stp (acc, cur) x = (acc, cur ++ [x]) from if_neg (h x (List.mem_cons_self ..)), fold_row d acc _ fun y hy => h y (List.mem_cons_of_mem _ hy), List.append_assoc]
    rfl
theorem fold_body : ∀ (ds : List (List Str)) (acc : List (List Str)), (∀ d ∈ ds, ∀ x ∈ d, x ≠ ";") → (bodyOf ds).foldl stp (acc, []) = (acc ++ ds, [])
  | [], acc, _ => by rw [List.append_nil]; rfl
  | d :: ds, acc, h => by
    show ((d ++ [(";" : Str)]) ++ bodyOf ds).foldl stp (acc, []) = _
    rw [List.foldl_append, List.foldl_append, fold_row d acc [] (h d (List.mem_cons_self ..)), List.nil_append]
    show (bodyOf ds).foldl stp (acc ++ [d], []) = _
    rw [fold_body ds _ fun e he => h e (List.mem_cons_of_mem _ he), List.append_assoc]
    rfl
def spHead (K : PySem.W.Frag) : Sp := fun vs H Q _ => ∃ (z : Str) (ds : List (List Str)), vs = [.str "SCRIPT", .str z] ∧ LexOk z ("script" :: "{" :: (bodyOf ds ++ [("}" : Str)])) ∧ (∀ d ∈ ds, ∀ x ∈ d, x ≠ ";") ∧
  ∀ (q h g : Addr) (rs : List Addr) (H' : Hp), Same H H' → SqT K H' q [.ref h, .ref g] → H' g = some (.lst (rs.map V.ref)) → rs.length = ds.length → (∀ (i : Nat) (r : Addr) (d : List Str), rs[i]? = some r → ds[i]? = some d → H' r = some (.lst (d.map V.str))) → Q (.ref q) H'
section
variable {P : Program} {w : World} {K : PySem.W.Frag} {mg : Str → Option Value} {base : Heap} {C : Addr}
theorem ok_head {f fL : Addr} {fd fdL : FuncData} (F : Fun K "head_and_rows" "head_and_rows" sHead f fd) (GL : FnOk P w K mg base CX0 4 fL fdL ["form", "text"] spLexOf) (bL : Binds K fdL ["form", "text"] []) (gL : mg "lexemes_of" = some (.ref fL)) (kL : PySem.W.keepIn K (.ref fL) = true) :
    FnOk P w K mg base CX0 5 f fd ["form", "text"] (spHead K) := by
  refine F.ok scHead (fun vs H Q E h => ?_) (fun cdv A outer s H vs Q E hr h => ?_)
  · obtain ⟨z, ds, rfl, _⟩ := h
    rfl
  · obtain ⟨z, ds, rfl, lx, hds, k⟩ := h
    refine ⟨_, pss_cons (ps_set (i := 2) scHead.nd rfl (.inl rfl) (pe_call GL hr (by rfl) gL kL bL .nil pass0 (pa_cons (pv 0) (pa_cons (pv 1) pa_nil))))
      (pss_cons (ps_set (i := 3) scHead.nd rfl (.inl rfl) (pe_bm PySem.F.plainAttrs_list PySem.F.slot_list_index PySem.F.type_list_index mt_index (pv 2) (pa_cons pe_str pa_nil)))
      (pss_cons (ps_set (i := 4) scHead.nd rfl (.inl rfl) (pe_lst pa_nil))
      (pss_cons (ps_set (i := 5) scHead.nd rfl (.inl rfl) (pe_lst pa_nil))
      (pss_cons (ps_for PassesOwn.never rfl (pi_list (pe_slice sl_list (pv 2) (po_some (pe_op op_add (pv 3) pe_int)) (po_some (pe_un un_neg pe_int)))) (pg_name (i := 6) scHead.nd rfl (.inl rfl))
        (pss_one (ps_if (pt_cmpR op_eq (pv 6) pe_str (nomark _))
          (pss_cons (ps_expr (pe_bm PySem.F.plainAttrs_list PySem.F.slot_list_append PySem.F.type_list_append mt_append (pv 4) (pa_cons (pv 5) pa_nil))) (pss_one (ps_set (i := 5) scHead.nd rfl (.inl rfl) (pe_lst pa_nil))))
          (pss_one (ps_expr (pe_bm PySem.F.plainAttrs_list PySem.F.slot_list_append PySem.F.type_list_append mt_append (pv 5) (pa_cons (pv 6) pa_nil)))))))
      (pss_one (ps_ret (pe_tup (pa_cons (pe_slice sl_list (pv 2) po_none (po_some (pv 3))) (pa_cons (pv 4) pa_nil))))))))), ?_⟩
    have TL : (Lx (codes z) 0).1.map (fun t => V.str (txtT t)) = (("script" : Str) :: "{" :: (bodyOf ds ++ [("}" : Str)])).map V.str := by
      rw [← lx.is, List.map_map]
      rfl
    have NL : (Lx (codes z) 0).1.length = (bodyOf ds).length + 3 := by
      have e := congrArg List.length lx.is
      rw [List.length_map] at e
      rw [e]
      simp
    have many := lx.many
    refine ⟨_, rfl, _, rfl, z, rfl, lx.len, lx.fine, lx.goes, lx.many, fun r H1 s1 hr0 er => ?_⟩
    rw [TL] at er
    -- the brace
    refine ⟨_, rfl, .inl ⟨rfl, _, .inl (.inl er)⟩, r, _, .str "{", 1, .str "{", rfl, rfl, .inl (.inl er), rfl, ?_, rfl, by decide +kernel, ?_, ?_⟩
    · rw [List.all_eq_true]
      intro v hv
      obtain ⟨x, _, rfl⟩ := List.mem_map.mp hv
      rfl
    · intro m z' hm hz'
      have e0 : m = 0 := by omega
      rw [e0] at hz'
      cases (Option.some.inj hz')
      decide +kernel
    refine ⟨Nat.zero_le _, fun g hg => ⟨Nat.zero_le _, fun c0 hc0 => ?_⟩⟩
    have er2 := ((same_new (o := .lst []) hg).trans (same_new (o := .lst []) hc0)) _ _ er
    refine ⟨_, rfl, _, rfl, _, _, rfl, rfl, _, rfl, 1, rfl, _, rfl, r, _, rfl, .inl (.inl er2), fun L hL => ?_⟩
    have cutB : cutV ((("script" : Str) :: "{" :: (bodyOf ds ++ [("}" : Str)])).map V.str) (some (((1 : Nat) : Int) + 1)) (some (-1)) = (bodyOf ds).map V.str := by
      have e1 : ∀ n, 3 ≤ n → HT.sIx n 0 (some (((1 : Nat) : Int) + 1)) = 2 := fun n h => by
        rw [show ((1 : Nat) : Int) + 1 = ((2 : Nat) : Int) from rfl, HT.sIx_nat]
        omega
      have e2 : ∀ n : Nat, HT.sIx n n (some (-1)) = n - 1 := fun n => by
        unfold HT.sIx
        simp only []
        rw [if_pos (by decide)]
        omega
      unfold cutV
      have hn : (((("script" : Str) :: "{" :: (bodyOf ds ++ [("}" : Str)])).map V.str)).length = (bodyOf ds).length + 3 := by simp
      rw [hn, e1 _ (by omega), e2 _]
      show (((bodyOf ds ++ [("}" : Str)])).map V.str).take _ = _
      rw [List.map_append, List.take_append_of_le_length (by rw [List.length_map]; omega), List.take_of_length_le (by rw [List.length_map]; omega)]
    rw [cutB]
    have sB : Same H1 (upd (upd (upd H1 g (.lst [])) c0 (.lst [])) L (.lst ((bodyOf ds).map V.str))) := (same_new hg).trans ((same_new hc0).trans (same_new hL))
    have ngc : g ≠ c0 := fun e => by
      rw [← e, upd_same] at hc0
      cases hc0
    have eg : (upd (upd (upd H1 g (.lst [])) c0 (.lst [])) L (.lst ((bodyOf ds).map V.str))) g = some (.lst []) := ((same_new hc0).trans (same_new hL)) _ _ upd_same
    have ec : (upd (upd (upd H1 g (.lst [])) c0 (.lst [])) L (.lst ((bodyOf ds).map V.str))) c0 = some (.lst []) := (same_new hL) _ _ upd_same
    have eL : (upd (upd (upd H1 g (.lst [])) c0 (.lst [])) L (.lst ((bodyOf ds).map V.str))) L = some (.lst ((bodyOf ds).map V.str)) := upd_same
    have nLg : L ≠ g := fun e => by
      have q := (same_new (o := .lst []) hc0) _ _ (upd_same (H := H1) (a := g) (o := .lst []))
      rw [e] at hL
      rw [hL] at q
      cases q
    have nLc : L ≠ c0 := fun e => by
      rw [e, upd_same] at hL
      cases hL
    generalize upd (upd (upd H1 g (.lst [])) c0 (.lst [])) L (.lst ((bodyOf ds).map V.str)) = H2 at sB eg ec eL ⊢
    refine ⟨L, rfl, ⟨_, .inl (.inl eL)⟩, for_list (K := K) (a := L) (xs := (bodyOf ds).map V.str) (fun i σ H' => ∃ v6 c rs, σ = [some (.str "SCRIPT"), some (.str z), some (.ref r), some (.int ((1 : Nat) : Int)), some (.ref g), some (.ref c), v6] ∧ (∀ b o, b ≠ g → b ≠ c0 → H2 b = some o → H' b = some o) ∧
      H' g = some (.lst (rs.map V.ref)) ∧ H' c = some (.lst ((((bodyOf ds).take i).foldl stp ([], [])).2.map V.str)) ∧ c ≠ g ∧ c ∉ rs ∧ (c = c0 ∨ H2 c = none) ∧ rs.length = (((bodyOf ds).take i).foldl stp ([], [])).1.length ∧ rs.length ≤ i ∧ (((bodyOf ds).take i).foldl stp ([], [])).2.length ≤ i ∧
      ∀ (j : Nat) (r' : Addr) (d : List Str), rs[j]? = some r' → (((bodyOf ds).take i).foldl stp ([], [])).1[j]? = some d → r' ≠ g ∧ H' r' = some (.lst (d.map V.str)))
      ⟨none, c0, [], rfl, fun _ _ _ _ e => e, eg, ec, Ne.symm ngc, (by simp), .inl rfl, rfl, Nat.le_refl _, Nat.le_refl _, fun j r' d h _ => (by simp at h)⟩ (fun i σ H' _ ⟨_, _, _, _, h, _⟩ => .inl (.inl (h L _ nLg nLc eL))) ?_ ?_⟩
    · rintro i x σ H3 hi ⟨v6, c, rs, rfl, h1, h2, h3, h4, h5, h6, h7, h8, h9, h10⟩
      obtain ⟨y, hy, rfl⟩ : ∃ y, (bodyOf ds)[i]? = some y ∧ x = V.str y := by
        rw [List.getElem?_map] at hi
        cases e : (bodyOf ds)[i]? with
        | none =>
          rw [e] at hi
          cases hi
        | some b =>
          rw [e] at hi
          exact ⟨b, rfl, (Option.some.inj hi).symm⟩
      have hil : i < (bodyOf ds).length := (List.getElem?_eq_some_iff.mp hy).1
      have small : i < sizeLine := Nat.lt_of_lt_of_le (show i < 20000 by omega) (by decide)
      have ft : ((bodyOf ds).take (i + 1)).foldl stp ([], []) = stp (((bodyOf ds).take i).foldl stp ([], [])) y := by
        rw [List.take_add_one, hy, List.foldl_append]
        rfl
      rw [ft]
      generalize ((bodyOf ds).take i).foldl stp ([], []) = p at h3 h7 h9 h10 ⊢
      refine ⟨_, rfl, rfl, _, rfl, ?_⟩
      rw [dec_str]
      refine ite2 (fun hs => ?_) (fun hs => ?_)
      · have hs' : stp p y = (p.1 ++ [p.2], []) := if_pos (of_decide_eq_true hs)
        rw [hs']
        refine ⟨_, rfl, .inl ⟨rfl, _, .inl (.inl h2)⟩, _, rfl, g, _, _, rfl, rfl, h2, ?_, ?_⟩
        · rw [List.length_map]
          omega
        refine ⟨Nat.zero_le _, fun c' hc' => ?_⟩
        have ng' : c' ≠ g := fun e => by
          rw [e, upd_same] at hc'
          cases hc'
        have hc3 : H3 c' = none := by
          rw [upd_ne ng'] at hc'
          exact hc'
        have ncc : c' ≠ c := fun e => by
          rw [e, h3] at hc3
          cases hc3
        refine ⟨_, c', rs ++ [c], rfl, fun b o n1 n2 e => ?_, ?_, upd_same, ng', ?_, ?_, ?_, ?_, Nat.zero_le _, fun j r' d e1 e2 => ?_⟩
        · have q := h1 b o n1 n2 e
          rw [upd_ne (ne_of_none q hc3), upd_ne n1]
          exact q
        · rw [upd_ne (Ne.symm ng'), upd_same, List.map_append]
          rfl
        · intro hm
          rcases List.mem_append.mp hm with hm | hm
          · obtain ⟨j, hj⟩ := List.getElem?_of_mem hm
            have hj1 := (List.getElem?_eq_some_iff.mp hj).1
            obtain ⟨_, q⟩ := h10 j c' _ hj (List.getElem?_eq_getElem (by omega))
            rw [q] at hc3
            cases hc3
          · exact ncc (List.mem_singleton.mp hm)
        · by_cases hcc : c' = c0
          · exact .inl hcc
          · refine .inr ?_
            cases e : H2 c' with
            | none => rfl
            | some o =>
              have q := h1 c' o ng' hcc e
              rw [q] at hc3
              cases hc3
        · rw [List.length_append, List.length_append, h7]
          rfl
        · rw [List.length_append]
          show rs.length + 1 ≤ i + 1
          omega
        · by_cases hj : j < rs.length
          · rw [List.getElem?_append_left hj] at e1
            rw [List.getElem?_append_left (by omega)] at e2
            obtain ⟨q1, q2⟩ := h10 j r' d e1 e2
            refine ⟨q1, ?_⟩
            rw [upd_ne (ne_of_none q2 hc3), upd_ne q1]
            exact q2
          · have hj2 : j = rs.length := by
              have := (List.getElem?_eq_some_iff.mp e1).1
              rw [List.length_append] at this
              have h1l : ([c] : List Addr).length = 1 := rfl
              omega
            rw [List.getElem?_append_right (by omega), hj2, Nat.sub_self] at e1
            rw [List.getElem?_append_right (by omega), hj2, h7, Nat.sub_self] at e2
            cases (Option.some.inj e1)
            cases (Option.some.inj e2)
            refine ⟨h4, ?_⟩
            rw [upd_ne (ne_of_none h3 hc3), upd_ne h4]
            exact h3
      · have hs' : stp p y = (p.1, p.2 ++ [y]) := if_neg (fun e => hs (decide_eq_true e))
        rw [hs']
        refine ⟨_, rfl, .inl ⟨rfl, _, .inl (.inl h3)⟩, _, rfl, c, _, _, rfl, rfl, h3, ?_, ?_⟩
        · rw [List.length_map]
          omega
        refine ⟨_, c, rs, rfl, fun b o n1 n2 e => ?_, ?_, ?_, h4, h5, h6, h7, by omega, ?_, fun j r' d e1 e2 => ?_⟩
        · have nbc : b ≠ c := fun eb => by
            rcases h6 with q | q
            · exact n2 (eb.trans q)
            · rw [eb, q] at e
              cases e
          rw [upd_ne nbc]
          exact h1 b o n1 n2 e
        · rw [upd_ne (Ne.symm h4)]
          exact h2
        · rw [upd_same, List.map_append]
          rfl
        · rw [List.length_append]
          show p.2.length + 1 ≤ i + 1
          omega
        · obtain ⟨q1, q2⟩ := h10 j r' d e1 e2
          refine ⟨q1, ?_⟩
          rw [upd_ne (fun e => h5 (by rw [← e]; exact List.mem_of_getElem? e1))]
          exact q2
    · rintro σ H3 ⟨v6, c, rs, rfl, h1, h2, h3, h4, h5, h6, h7, h8, h9, h10⟩
      rw [List.length_map, List.take_length, fold_body ds [] hds, List.nil_append] at h7 h10
      have nrg : r ≠ g := ne_of_none er hg
      have nrc : r ≠ c0 := ne_of_none ((same_new (o := .lst []) hg) _ _ er) hc0
      have sC : Same H H3 := fun b o e => by
        have e1 := s1 _ _ e
        exact h1 b o (ne_of_none e1 hg) (ne_of_none ((same_new (o := .lst []) hg) _ _ e1) hc0) (sB _ _ e1)
      have er3 := h1 r _ nrg nrc (sB _ _ er)
      refine ⟨_, rfl, _, rfl, _, rfl, r, _, rfl, .inl (.inl er3), fun h hh => ?_⟩
      refine ⟨_, rfl, (by show 2 ≤ sizeLine; decide), fun q hq => ?_⟩
      refine k q h g rs _ (sC.trans ((same_new hh).trans (same_new hq))) (.inl (.inl upd_same)) (((same_new hh).trans (same_new hq)) _ _ h2) h7 fun i r' d e1 e2 => ((same_new hh).trans (same_new hq)) _ _ (h10 i r' d e1 e2).2
end
end Bc

namespace Bc
open PySem PySem.Spec PyProof.Rows L2
abbrev sDeed : Stmt := topS 23
abbrev sRead : Stmt := topS 24
abbrev nDeed : List Str := ["row", "places", "k"]
abbrev nRead : List Str := ["text", "_", "rows", "row"]
theorem scDeed : FnScope nDeed ["row"] (defScope sDeed) := ⟨rfl, rfl, rfl, by decide +kernel, rfl, by decide +kernel, by decide +kernel⟩
theorem scRead : FnScope nRead ["text"] (defScope sRead) := ⟨rfl, rfl, rfl, by decide +kernel, rfl, by decide +kernel, by decide +kernel⟩
abbrev Deed := Str × List (Str × Nat)
def numT (n : Nat) : Str := Str.ofString (toString ((n : Nat) : Int))
def rowPs : List (Str × Nat) → List Str
  | [] => []
  | p :: ps => p.1 :: numT p.2 :: rowPs ps
def rowOf (d : Deed) : List Str := d.1 :: rowPs d.2
def dPlace (p : Str × Nat) : PyData := .tuple [.str p.1, .int (p.2 : Int)]
def dDeed (d : Deed) : PyData := .tuple (.str d.1 :: d.2.map dPlace)
def fitNum (n : Nat) : Prop := intText? (numT n) = some (n : Int) ∧ (numT n).length ≤ 640
theorem rowPs_at : ∀ (ps : List (Str × Nat)) (i : Nat) (p : Str × Nat), ps[i]? = some p → (rowPs ps)[2 * i]? = some p.1 ∧ (rowPs ps)[2 * i + 1]? = some (numT p.2)
  | [], i, p, h => by simp at h
  | q :: ps, 0, p, h => by
    cases (Option.some.inj h)
    exact ⟨rfl, rfl⟩
  | q :: ps, i + 1, p, h => rowPs_at ps i p h
theorem rowPs_len : ∀ (ps : List (Str × Nat)), (rowPs ps).length = 2 * ps.length
  | [] => rfl
  | p :: ps => by
    show (rowPs ps).length + 1 + 1 = 2 * (ps.length + 1)
    rw [rowPs_len ps]
    omega
theorem row_atI {d : Deed} {i : Nat} {p : Str × Nat} (h : d.2[i]? = some p) : atI ((rowOf d).map V.str) (1 + (i : Int) * 2) = some (.str p.1) ∧ atI ((rowOf d).map V.str) (1 + (i : Int) * 2 + 1) = some (.str (numT p.2)) := by
  obtain ⟨h1, h2⟩ := rowPs_at d.2 i p h
  refine ⟨L2.at_of (j := 2 * i + 1) (by omega) ?_, L2.at_of (j := 2 * i + 1 + 1) (by omega) ?_⟩
  · rw [List.getElem?_map]
    show ((rowPs d.2)[2 * i]?).map V.str = _
    rw [h1]
    rfl
  · rw [List.getElem?_map]
    show ((rowPs d.2)[2 * i + 1]?).map V.str = _
    rw [h2]
    rfl
def okDeed (d : Deed) : Prop := (d.2.length = 2 ∨ d.2.length = 4) ∧ ∀ p ∈ d.2, fitNum p.2
def spDeed (K : PySem.W.Frag) : Sp := fun vs H Q _ => ∃ (r : Addr) (d : Deed), vs = [.ref r] ∧ H r = some (.lst ((rowOf d).map V.str)) ∧ okDeed d ∧ ∀ q H', Same H H' → H q = none → Dq K H' (.ref q) (dDeed d) → Q (.ref q) H'
theorem place_keep {K : PySem.W.Frag} {H1 H2 : Hp} (h : ∀ a xs, SqT K H1 a xs → SqT K H2 a xs) {v : V} {p : Str × Nat} (q : Dq K H1 v (dPlace p)) : Dq K H2 v (dPlace p) := by
  obtain ⟨a, xs, rfl, hq, hall⟩ := q.tup_inv
  obtain ⟨v1, _, rfl, h1, hall⟩ := hall.cons_inv
  obtain ⟨v2, _, rfl, h2, hall⟩ := hall.cons_inv
  cases hall.nil_inv
  cases h1.str_inv
  cases h2.int_inv
  exact .tup (h _ _ hq) (.cons (.str _) (.cons (.int _) .nil))
theorem places_keep {K : PySem.W.Frag} {H1 H2 : Hp} (h : ∀ a xs, SqT K H1 a xs → SqT K H2 a xs) : ∀ {vs : List V} (ps : List (Str × Nat)), DqAll K H1 vs (ps.map dPlace) → DqAll K H2 vs (ps.map dPlace)
  | _, [], q => by
    cases q.nil_inv
    exact .nil
  | _, p :: ps, q => by
    rw [List.map_cons] at q ⊢
    obtain ⟨v, _, rfl, h1, h2⟩ := q.cons_inv
    exact .cons (place_keep h h1) (places_keep h ps h2)
theorem deed_keep {K : PySem.W.Frag} {H1 H2 : Hp} (h : ∀ a xs, SqT K H1 a xs → SqT K H2 a xs) {v : V} {d : Deed} (q : Dq K H1 v (dDeed d)) : Dq K H2 v (dDeed d) := by
  obtain ⟨a, xs, rfl, hq, hall0⟩ := q.tup_inv
  obtain ⟨v1, _, rfl, h1, hall⟩ := hall0.cons_inv
  cases h1.str_inv
  exact .tup (h _ _ hq) (.cons (.str _) (places_keep h _ hall))
theorem deeds_keep {K : PySem.W.Frag} {H1 H2 : Hp} (h : ∀ a xs, SqT K H1 a xs → SqT K H2 a xs) : ∀ {vs : List V} (ds : List Deed), DqAll K H1 vs (ds.map dDeed) → DqAll K H2 vs (ds.map dDeed)
  | _, [], q => by
    cases q.nil_inv
    exact .nil
  | _, p :: ps, q => by
    rw [List.map_cons] at q ⊢
    obtain ⟨v, _, rfl, h1, h2⟩ := q.cons_inv
    exact .cons (deed_keep h h1) (deeds_keep h ps h2)
theorem DqAll.snoc' {K : PySem.W.Frag} {H : Hp} {vs : List V} {ds : List PyData} {v : V} {d : PyData} (h : DqAll K H vs ds) (g : Dq K H v d) : DqAll K H (vs ++ [v]) (ds ++ [d]) := DqAll.app h (.cons g .nil)
section
variable {P : Program} {w : World} {K : PySem.W.Frag} {mg : Str → Option Value} {base : Heap}
theorem ok_deed {f : Addr} {fd : FuncData} (F : Fun K "deed_of" "deed_of" sDeed f fd) (B : Blt mg) (N : Nm mg) : FnOk P w K mg base CX0 1 f fd ["row"] (spDeed K) := by
  refine F.ok scDeed (fun vs H Q E h => ?_) (fun cdv A outer s H vs Q E hr h => ?_)
  · obtain ⟨r, d, rfl, _⟩ := h
    rfl
  · obtain ⟨r, d, rfl, hrow, ⟨hlen, hnum⟩, k⟩ := h
    have two : ∀ {a b : V}, [a, b].length ≤ sizeLine := fun {_ _} => (by show 2 ≤ sizeLine; decide)
    refine ⟨_, pss_cons (ps_setLc (i := 1) (own := [("k", 2)]) (tt := tYes) rfl scDeed.nd rfl rfl rfl (pi_range3 (by rfl) N.rng (pa_cons pe_int (pa_cons (pe_callB call_len (by rfl) B.len (by decide +kernel) (pa_cons (pv 0) pa_nil)) (pa_cons pe_int pa_nil)))) (blkOk_by (own := [("k", 2)]) (N := nDeed) (sc := defScope sDeed) (by decide +kernel))
          (fun _ _ _ _ _ => pg_name (i := 2) scDeed.nd rfl (.inl rfl)) (fun _ _ _ _ _ => pts_nil)
          (fun _ _ _ _ _ => pe_tup (pa_cons (pe_ix (show IxR _ (rIxL K) from ix_list) (pv 0) (pv 2) (fun _ _ => rfl)) (pa_cons (pe_callTy call_int_str (by rfl) B.int (by decide +kernel) (pa_cons (pe_ix (show IxR _ (rIxL K) from ix_list) (pv 0) (pe_op op_add (pv 2) pe_int) (fun _ _ => rfl)) pa_nil)) pa_nil))))
      (pss_one (ps_ret (pe_tup (pa_cons (pe_ix ix_list (pv 0) pe_int (fun _ _ => rfl)) (StX.pa_star (pv 1) pa_nil))))), ?_⟩
    have rl : (rowOf d).length = 1 + 2 * d.2.length := by
      show (rowPs d.2).length + 1 = _
      rw [rowPs_len]
      omega
    have rg : RgC 1 (((rowOf d).length : Nat) : Int) 2 d.2.length := by
      rw [rl]
      rcases hlen with e | e <;> rw [e] <;> exact ⟨by decide, by decide, by decide +kernel, by decide +kernel⟩
    refine ⟨_, rfl, _, (rowOf d).length, rfl, .inl ⟨_, .inl (.inl hrow), (by rw [List.length_map])⟩, 1, _, 2, d.2.length, rfl, rg, fun D hD => lc_it walk_rangeC (fun i H' => Same H H' ∧ ∃ vs, H' D = some (.lst vs) ∧ DqAll K (hid D D H') vs ((d.2.take i).map dPlace)) ⟨same_new hD, [], upd_same, .nil⟩ (fun _ _ _ _ => trivial) ?_ ?_⟩
    · rintro i x H1 H2 hi ⟨s1, vs, eD, dq⟩ ⟨rfl, rfl⟩
      obtain ⟨p, hp⟩ : ∃ p, d.2[i]? = some p := ⟨_, List.getElem?_eq_getElem hi⟩
      obtain ⟨a1, a2⟩ := row_atI hp
      obtain ⟨n1, n2⟩ := hnum p (List.mem_of_getElem? hp)
      have hr1 := s1 _ _ hrow
      refine ⟨rfl, ?_⟩
      refine lc_yes ?_
      refine ⟨_, rfl, _, rfl, r, _, _, _, rfl, rfl, .inl (.inl hr1), a1, _, rfl, _, rfl, _, _, rfl, rfl, r, _, _, _, rfl, rfl, .inl (.inl hr1), a2, _, _, rfl, n1, n2, two, fun q hq => ?_⟩
      have nqD : q ≠ D := fun e => by
        rw [e, eD] at hq
        cases hq
      refine ⟨vs, (same_new hq) _ _ eD, ?_, Same.over (s1.trans (same_new hq)) hD, _, upd_same, ?_⟩
      · rw [dq.len, List.length_map, List.length_take]
        exact small1000 (by omega)
      · rw [List.take_add_one, hp, List.map_append]
        refine DqAll.snoc' (DqAll.same (hid1_same fun b o nb e => ?_) dq) ?_
        · rw [upd_ne nb]
          exact (same_new hq) b o e
        · refine .tup (xs := [.str p.1, .int p.2]) (.inl (.inl ?_)) (.cons (.str _) (.cons (.int _) .nil))
          unfold hid
          rw [if_neg (fun y => by rcases y with y | y <;> exact nqD y), upd_ne nqD, upd_same]
    · rintro H1 ⟨s1, vs, eD, dq⟩
      rw [List.take_length] at dq
      have hr1 := s1 _ _ hrow
      refine ⟨_, rfl, r, _, _, .str d.1, rfl, rfl, .inl (.inl hr1), L2.at_of (j := 0) rfl rfl, _, rfl, D, vs, rfl, .inr (.inl (.inl eD)), ?_, fun q hq => ?_⟩
      · show (vs ++ []).length + 1 ≤ sizeLine
        rw [List.append_nil, dq.len, List.length_map]
        exact Nat.le_of_lt (small1000 (by omega))
      · refine k q _ (s1.trans (same_new hq)) (s1.free hq) ?_
        refine .tup (xs := .str d.1 :: (vs ++ [])) (.inl (.inl upd_same)) (.cons (.str _) ?_)
        rw [List.append_nil]
        exact DqAll.same (hid_all.trans (same_new hq)) dq
end
end Bc

namespace Bc
open PySem PySem.Spec PyProof.Rows L2
def spRead (K : PySem.W.Frag) : Sp := fun vs H Q _ => ∃ (z : Str) (ds : List Deed), vs = [.str z] ∧ LexOk z ("script" :: "{" :: (bodyOf (ds.map rowOf) ++ [("}" : Str)])) ∧ (∀ d ∈ ds, okDeed d ∧ ∀ x ∈ rowOf d, x ≠ ";") ∧ ds.length ≤ 1000 ∧
  ∀ D H' vs, Same H H' → H D = none → H' D = some (.lst vs) → DqAll K (hid D D H') vs (ds.map dDeed) → Q (.ref D) H'
theorem sqT_hid {K : PySem.W.Frag} {H1 : Hp} {D : Addr} {ys : List V} (e : H1 D = some (.lst ys)) {a : Addr} {xs : List V} (h : SqT K H1 a xs) : SqT K (hid D D H1) a xs := by
  have ne : ∀ {o : HO}, H1 a = some o → (∀ zs, o ≠ .lst zs) → hid D D H1 a = some o := fun {o} e1 nl => by
    unfold hid
    rw [if_neg (fun y => by
      have ea : a = D := by rcases y with y | y <;> exact y
      rw [ea, e] at e1
      exact nl ys (Option.some.inj e1).symm)]
    exact e1
  rcases h with (q | ⟨o, q⟩) | q
  · exact .inl (.inl (ne q (fun _ y => by cases y)))
  · exact .inl (.inr ⟨o, ne q (fun _ y => by cases y)⟩)
  · exact .inr q
section
variable {P : Program} {w : World} {K : PySem.W.Frag} {mg : Str → Option Value} {base : Heap}
theorem ok_read {f fH fD : Addr} {fd fdH fdD : FuncData} (F : Fun K "read_script" "read_script" sRead f fd) (GH : FnOk P w K mg base CX0 5 fH fdH ["form", "text"] (spHead K)) (bH : Binds K fdH ["form", "text"] []) (gH : mg "head_and_rows" = some (.ref fH)) (kH : PySem.W.keepIn K (.ref fH) = true)
    (GD : FnOk P w K mg base CX0 1 fD fdD ["row"] (spDeed K)) (bD : Binds K fdD ["row"] []) (gD : mg "deed_of" = some (.ref fD)) (kD : PySem.W.keepIn K (.ref fD) = true) : FnOk P w K mg base CX0 6 f fd ["text"] (spRead K) := by
  refine F.ok scRead (fun vs H Q E h => ?_) (fun cdv A outer s H vs Q E hr h => ?_)
  · obtain ⟨z, ds, rfl, _⟩ := h
    rfl
  · obtain ⟨z, ds, rfl, lx, hds, hmany, k⟩ := h
    have hr1 : Room 1 _ := hr.mono (by decide)
    refine ⟨_, pss_cons (ps_asg (pe_call GH hr (by rfl) gH kH bH .nil pass0 (pa_cons pe_str (pa_cons (pv 0) pa_nil))) (pg_tup rfl (pgs_cons (pg_name (i := 1) scRead.nd rfl (.inl rfl)) (pgs_cons (pg_name (i := 2) scRead.nd rfl (.inl rfl)) pgs_nil))))
      (pss_one (ps_ret (pe_lc (own := [("row", 3)]) (g := gName 3) (tt := tYes) (by rfl) scRead.nd (pi_list (pv 2)) (blkOk_by (own := [("row", 3)]) (N := nRead) (sc := defScope sRead) (by decide +kernel)) (fun _ _ _ _ _ => pg_name (i := 3) scRead.nd rfl (.inl rfl)) (fun _ _ _ _ _ => pts_nil)
          (fun _ _ _ _ _ => pe_call GD hr1 (by rfl) gD kD bD .nil pass0 (pa_cons (pv 3) pa_nil))))), ?_⟩
    refine ⟨_, rfl, z, ds.map rowOf, rfl, lx, fun d hd => ?_, fun q h g rs H1 s1 hq eg hl hrs => ?_⟩
    · obtain ⟨e, he, rfl⟩ := List.mem_map.mp hd
      exact (hds e he).2
    refine ⟨q, _, rfl, hq, rfl, _, _, rfl, _, _, rfl, rfl, ?_⟩
    refine ⟨_, rfl, g, rfl, ⟨_, .inl (.inl eg)⟩, fun D hD => lc_list (K := K) (a := g) (xs := rs.map V.ref) (fun i H' => Same H1 H' ∧ ∃ vs, H' D = some (.lst vs) ∧ DqAll K (hid D D H') vs ((ds.take i).map dDeed)) ⟨same_new hD, [], upd_same, .nil⟩ (fun i H' _ h => h.1.seq (.inl (.inl eg))) ?_ ?_⟩
    · rintro i x H2 hi ⟨s2, vs, eD, dq⟩
      obtain ⟨r, hr', rfl⟩ : ∃ r, rs[i]? = some r ∧ x = V.ref r := by
        rw [List.getElem?_map] at hi
        cases e : rs[i]? with
        | none =>
          rw [e] at hi
          cases hi
        | some b =>
          rw [e] at hi
          exact ⟨b, rfl, (Option.some.inj hi).symm⟩
      have hil : i < rs.length := (List.getElem?_eq_some_iff.mp hr').1
      rw [List.length_map] at hl
      obtain ⟨d, hd⟩ : ∃ d, ds[i]? = some d := ⟨_, List.getElem?_eq_getElem (by omega)⟩
      have erow := s2 _ _ (hrs i r (rowOf d) hr' (by rw [List.getElem?_map, hd]; rfl))
      refine ⟨rfl, ?_⟩
      refine lc_yes ?_
      refine ⟨_, rfl, ?_⟩
      refine ⟨r, d, rfl, erow, (hds d (List.mem_of_getElem? hd)).1, fun q' H3 s3 hq' dq' => ?_⟩
      refine ⟨vs, s3 _ _ eD, ?_, Same.over (s2.trans s3) hD, _, upd_same, ?_⟩
      · rw [dq.len, List.length_map, List.length_take]
        exact small1000 (by omega)
      · rw [List.take_add_one, hd, List.map_append]
        refine DqAll.snoc' (DqAll.same (hid1_same fun b o nb e => ?_) dq) ?_
        · rw [upd_ne nb]
          exact s3 b o e
        · exact deed_keep (fun a xs h => sqT_hid upd_same (sqT_upd (s3 _ _ eD) h)) dq'
    · rintro H2 ⟨s2, vs, eD, dq⟩
      rw [List.length_map] at dq
      rw [List.length_map] at hl
      rw [hl, List.take_length] at dq
      exact k D H2 vs (s1.trans s2) (s1.free hD) eD dq
end
end Bc

namespace Bc
open PySem PySem.Spec PyProof.Rows L2
abbrev sRowsT : Stmt := topS 26
abbrev sDeedT : Stmt := topS 27
abbrev sScrT : Stmt := topS 28
abbrev nRowsT : List Str := ["head", "rows", "lines", "row"]
abbrev nDeedT : List Str := ["deed", "name", "number"]
abbrev nScrT : List Str := ["script", "deed"]
theorem scRowsT : FnScope nRowsT ["head", "rows"] (defScope sRowsT) := ⟨rfl, rfl, rfl, by decide +kernel, rfl, by decide +kernel, by decide +kernel⟩
theorem scDeedT : FnScope nDeedT ["deed"] (defScope sDeedT) := ⟨rfl, rfl, rfl, by decide +kernel, rfl, by decide +kernel, by decide +kernel⟩
theorem scScrT : FnScope nScrT ["script"] (defScope sScrT) := ⟨rfl, rfl, rfl, by decide +kernel, rfl, by decide +kernel, by decide +kernel⟩
def rowsT (h : Str) (rs : List Str) : Str := Txt.join "\n" ((h ++ " {") :: (rs.map (· ++ (";" : Str)) ++ [("}" : Str)])) ++ "\n"
def placeT (p : Str × Nat) : Str := ((Str.empty ++ p.1) ++ " ") ++ numT p.2
def deedT (d : Deed) : Str := Txt.join " " (d.1 :: d.2.map placeT)
def scriptT (ds : List Deed) : Str := rowsT "script" (ds.map deedT)
theorem sum_le {xs : List Nat} {b : Nat} (h : ∀ x ∈ xs, x ≤ b) : xs.sum ≤ xs.length * b := by
  induction xs with
  | nil => simp
  | cons a r ih =>
    rw [List.sum_cons, List.length_cons, Nat.succ_mul, Nat.add_comm]
    exact Nat.add_le_add (ih fun x hx => h x (List.mem_cons_of_mem _ hx)) (h a (List.mem_cons_self ..))
theorem join_le {y : Str} {xs : List Str} {b : Nat} (h : ∀ x ∈ xs, x.length ≤ b) : (Txt.join y xs).length ≤ xs.length * b + xs.length * y.length := by
  rw [show Txt.join y xs = Str.join y xs from StrLaws.glued_eq_join y xs]
  refine Nat.le_trans (StrLaws.join_length_le y xs) (Nat.add_le_add_right ?_ _)
  have q := sum_le (xs := xs.map (·.length)) (b := b) fun n hn => by
    obtain ⟨x, hx, rfl⟩ := List.mem_map.mp hn
    exact h x hx
  rwa [List.length_map] at q
/-- short names and numbers -/
def shortDeed (d : Deed) : Prop := d.1.length ≤ 20 ∧ d.2.length ≤ 4 ∧ ∀ p ∈ d.2, p.1.length ≤ 20 ∧ (numT p.2).length ≤ 60 ∧ ((p.2 : Nat) : Int).natAbs.log2 < 1920
theorem placeT_len (p : Str × Nat) : (placeT p).length = p.1.length + 1 + (numT p.2).length := by
  unfold placeT
  rw [len_app, len_app, len_app]
  show 0 + p.1.length + 1 + _ = _
  omega
theorem deedT_le {d : Deed} (h : shortDeed d) : (deedT d).length ≤ 500 := by
  obtain ⟨h1, h2, h3⟩ := h
  have q := join_le (y := " ") (xs := d.1 :: d.2.map placeT) (b := 81) fun x hx => by
    rcases List.mem_cons.mp hx with e | hx
    · rw [e]
      omega
    · obtain ⟨p, hp, rfl⟩ := List.mem_map.mp hx
      obtain ⟨a, b, _⟩ := h3 p hp
      rw [placeT_len]
      omega
  rw [List.length_cons, List.length_map] at q
  have e1 : (" " : Str).length = 1 := by decide +kernel
  rw [e1] at q
  unfold deedT
  omega
def spRowsT (K : PySem.W.Frag) : Sp := fun vs H Q _ => ∃ (h : Str) (l : Addr) (rs : List Str), vs = [.str h, .ref l] ∧ SqL K H l (rs.map V.str) ∧ h.length ≤ 100 ∧ rs.length ≤ 1000 ∧ (∀ r ∈ rs, r.length ≤ 500) ∧ ∀ H', Same H H' → Q (.str (rowsT h rs)) H'
def spDeedT (K : PySem.W.Frag) : Sp := fun vs H Q _ => ∃ (v : V) (d : Deed), vs = [v] ∧ Dq K H v (dDeed d) ∧ shortDeed d ∧ ∀ H', Same H H' → Q (.str (deedT d)) H'
section
variable {P : Program} {w : World} {K : PySem.W.Frag} {mg : Str → Option Value} {base : Heap}
theorem ok_rowsT {f : Addr} {fd : FuncData} (F : Fun K "rows_text" "rows_text" sRowsT f fd) : FnOk P w K mg base CX0 1 f fd ["head", "rows"] (spRowsT K) := by
  refine F.ok scRowsT (fun vs H Q E h => ?_) (fun cdv A outer s H vs Q E hr h => ?_)
  · obtain ⟨h, l, rs, rfl, _⟩ := h
    rfl
  · obtain ⟨h, l, rs, rfl, hl, hh, hm, hrs, k⟩ := h
    refine ⟨_, pss_cons (ps_set (i := 2) scRowsT.nd rfl (.inl rfl) (pe_lst (pa_cons (pe_op op_add_str (pv 0) pe_str) pa_nil)))
      (pss_cons (ps_for PassesOwn.never rfl (pi_list (pv 1)) (pg_name (i := 3) scRowsT.nd rfl (.inl rfl))
        (pss_one (ps_expr (pe_bm PySem.F.plainAttrs_list PySem.F.slot_list_append PySem.F.type_list_append mt_append (pv 2) (pa_cons (pe_op op_add_str (pv 3) pe_str) pa_nil)))))
      (pss_cons (ps_expr (pe_bm PySem.F.plainAttrs_list PySem.F.slot_list_append PySem.F.type_list_append mt_append (pv 2) (pa_cons pe_str pa_nil)))
      (pss_one (ps_ret (pe_op op_add_str (pe_m1 PySem.F.slot_str_join PySem.F.type_str_join mt_join pe_str (pv 2)) pe_str))))), ?_⟩
    have hh2 : ∀ {n : Nat}, n ≤ 1000000 → n ≤ sizeLine := fun {n} h => Nat.le_trans h (by decide)
    have e2 : (" {" : Str).length = 2 := by decide +kernel
    have e1 : (";" : Str).length = 1 := by decide +kernel
    have e3 : ("}" : Str).length = 1 := by decide +kernel
    have e4 : ("\n" : Str).length = 1 := by decide +kernel
    refine ⟨_, rfl, _, _, rfl, rfl, hh2 (by rw [e2]; omega), (by show 1 ≤ sizeLine; decide), fun g hg => ?_⟩
    refine ⟨_, rfl, l, rfl, ⟨_, (same_new hg).seq hl⟩, for_list (K := K) (a := l) (xs := rs.map V.str) (fun i σ H' => ∃ v3, σ = [some (.str h), some (.ref l), some (.ref g), v3] ∧ Same H H' ∧ H' g = some (.lst (((h ++ " {") :: (rs.take i).map (· ++ (";" : Str))).map V.str)))
      ⟨none, rfl, same_new hg, upd_same⟩ (fun i σ H' _ ⟨_, _, q, _⟩ => q.seq hl) ?_ ?_⟩
    · rintro i x σ H1 hi ⟨v3, rfl, s1, eg⟩
      obtain ⟨r, hr', rfl⟩ : ∃ r, rs[i]? = some r ∧ x = V.str r := by
        rw [List.getElem?_map] at hi
        cases e : rs[i]? with
        | none =>
          rw [e] at hi
          cases hi
        | some b =>
          rw [e] at hi
          exact ⟨b, rfl, (Option.some.inj hi).symm⟩
      have hil : i < rs.length := (List.getElem?_eq_some_iff.mp hr').1
      have hrl := hrs r (List.mem_of_getElem? hr')
      refine ⟨_, rfl, .inl ⟨rfl, _, .inl (.inl eg)⟩, _, rfl, _, _, rfl, rfl, hh2 (by rw [e1]; omega), g, _, _, rfl, rfl, eg, ?_, ?_⟩
      · rw [List.length_map, List.length_cons, List.length_map, List.length_take]
        exact Nat.lt_of_lt_of_le (show min i rs.length + 1 < 20000 by omega) (by decide)
      · refine ⟨_, rfl, Same.over s1 hg, ?_⟩
        rw [upd_same, List.take_add_one, hr', List.map_append, List.map_cons, List.map_cons, List.map_append]
        rfl
    · rintro σ H1 ⟨v3, rfl, s1, eg⟩
      rw [List.length_map, List.take_length] at eg
      refine ⟨_, rfl, .inl ⟨rfl, _, .inl (.inl eg)⟩, g, _, _, rfl, rfl, eg, ?_, ?_⟩
      · rw [List.length_map, List.length_cons, List.length_map]
        exact Nat.lt_of_lt_of_le (show rs.length + 1 < 20000 by omega) (by decide)
      have ew : ((h ++ " {") :: rs.map (· ++ (";" : Str))).map V.str ++ [.str "}"] = ((h ++ " {") :: (rs.map (· ++ (";" : Str)) ++ [("}" : Str)])).map V.str := by
        rw [List.map_cons, List.map_cons, List.map_append, List.cons_append]
        rfl
      rw [ew]
      have wl : ∀ x ∈ ((h ++ " {") :: (rs.map (· ++ (";" : Str)) ++ [("}" : Str)])), x.length ≤ 501 := fun x hx => by
        rcases List.mem_cons.mp hx with e | hx
        · rw [e, len_app, e2]
          omega
        · rcases List.mem_append.mp hx with hx | hx
          · obtain ⟨r, hr', rfl⟩ := List.mem_map.mp hx
            have := hrs r hr'
            show (r ++ (";" : Str)).length ≤ 501
            rw [len_app, e1]
            omega
          · rw [List.mem_singleton.mp hx, e3]
            omega
      have nl : ((h ++ " {") :: (rs.map (· ++ (";" : Str)) ++ [("}" : Str)])).length = rs.length + 2 := by simp
      refine ⟨⟨_, rfl⟩, _, rfl, _, g, _, rfl, rfl, .inl (.inl (.inl upd_same)), ?_, ?_⟩
      · have q := sum_le (xs := ((h ++ " {") :: (rs.map (· ++ (";" : Str)) ++ [("}" : Str)])).map (·.length)) (b := 501) fun n hn => by
          obtain ⟨x, hx, rfl⟩ := List.mem_map.mp hn
          exact wl x hx
        rw [List.length_map, nl] at q
        rw [nl, e4]
        omega
      · have q := join_le (y := "\n") wl
        rw [nl, e4] at q
        refine ⟨_, _, rfl, rfl, hh2 ?_, k _ (Same.over s1 hg)⟩
        rw [e4]
        omega
theorem ok_deedT {f : Addr} {fd : FuncData} (F : Fun K "deed_text" "deed_text" sDeedT f fd) : FnOk P w K mg base CX0 1 f fd ["deed"] (spDeedT K) := by
  refine F.ok scDeedT (fun vs H Q E h => ?_) (fun cdv A outer s H vs Q E hr h => ?_)
  · obtain ⟨v, d, rfl, _⟩ := h
    rfl
  · obtain ⟨v, d, rfl, hd, hs, k⟩ := h
    refine ⟨_, pss_one (ps_ret (pe_m1 PySem.F.slot_str_join PySem.F.type_str_join mt_join pe_str (pe_op op_cat (pe_lst (pa_cons (pe_ix ix_tup (pv 0) pe_int (fun _ _ => rfl)) pa_nil))
        (pe_lc (own := [("name", 1), ("number", 2)]) (tt := tYes) (by rfl) scDeedT.nd (pi_tup (pe_slice sl_tup (pv 0) (po_some pe_int) po_none)) (blkOk_by (own := [("name", 1), ("number", 2)]) (N := nDeedT) (sc := defScope sDeedT) (by decide +kernel))
          (fun _ _ _ _ _ => (show PG _ _ (gTup K 2 _) from pg_tup rfl (pgs_cons (pg_name (i := 1) scDeedT.nd rfl (.inl rfl)) (pgs_cons (pg_name (i := 2) scDeedT.nd rfl (.inl rfl)) pgs_nil)))) (fun _ _ _ _ _ => pts_nil)
          (fun _ _ _ _ _ => pe_joined (.cons (pe_fmt (pv 1)) (.cons pe_str (.cons (pe_fmt (pv 2)) .nil)))))))), ?_⟩
    have two : ∀ {a b : V}, [a, b].length ≤ sizeLine := fun {_ _} => (by show 2 ≤ sizeLine; decide)
    obtain ⟨h1, h2, h3⟩ := hs
    obtain ⟨a, xs, rfl, hq, hall0⟩ := hd.tup_inv
    obtain ⟨v1, vs, rfl, hv1, hall⟩ := hall0.cons_inv
    cases hv1.str_inv
    have lv : vs.length = d.2.length := by rw [hall.len, List.length_map]
    have hh2 : ∀ {n : Nat}, n ≤ 1000000 → n ≤ sizeLine := fun {n} h => Nat.le_trans h (by decide)
    have e1 : (" " : Str).length = 1 := by decide +kernel
    refine ⟨⟨_, rfl⟩, _, rfl, a, _, _, .str d.1, rfl, rfl, hq, L2.at_of (j := 0) rfl rfl, (by show 1 ≤ sizeLine; decide), fun p hp => ?_⟩
    refine ⟨_, rfl, _, rfl, a, _, rfl, Same.sqT (same_new hp) hq, ?_, fun p2 hp2 => ?_⟩
    · rintro ⟨e0, _⟩
      rw [show (some (1 : Int)) = some ((1 : Nat) : Int) from rfl, HT.sIx_nat, List.length_cons, Nat.min_eq_left (by omega)] at e0
      cases e0
    have cut1 : cutV (.str d.1 :: vs) (some 1) none = vs := by
      unfold cutV
      rw [show (some (1 : Int)) = some ((1 : Nat) : Int) from rfl, HT.sIx_none, HT.sIx_nat, List.length_cons, Nat.min_eq_left (by omega)]
      show vs.take _ = vs
      exact List.take_of_length_le (by omega)
    rw [cut1]
    have s2 : Same H (upd (upd H p (.lst [.str d.1])) p2 (.tup vs)) := (same_new hp).trans (same_new hp2)
    have ep : (upd (upd H p (.lst [.str d.1])) p2 (.tup vs)) p = some (.lst [.str d.1]) := (same_new hp2) _ _ upd_same
    have ep2 : (upd (upd H p (.lst [.str d.1])) p2 (.tup vs)) p2 = some (.tup vs) := upd_same
    generalize upd (upd H p (.lst [.str d.1])) p2 (.tup vs) = H2 at s2 ep ep2 ⊢
    refine ⟨p2, rfl, ⟨_, .inl (.inl ep2)⟩, fun D hD => ?_⟩
    refine lc_tup (K := K) (a := p2) (xs := vs) (g := gTup K 2 (gCons (gName 1) (gCons (gName 2) gNil))) (tt := tYes) (te := fun σ H Q => tJs [tFmt (tVar 1), tC (.str " "), tFmt (tVar 2)] Str.empty σ H fun out H1 => Q (.str out) H1) (fun i H' => Same H2 H' ∧ H' D = some (.lst (((d.2.take i).map placeT).map V.str))) ⟨same_new hD, upd_same⟩ (fun i H' _ h => .inl (.inl (h.1 _ _ ep2))) ?_ ?_
    · rintro i x H3 hx ⟨s3, eD⟩
      obtain ⟨dp, hdp, dqx⟩ := DqAll.get i hall hx
      obtain ⟨q, hq', rfl⟩ : ∃ q, d.2[i]? = some q ∧ dp = dPlace q := by
        rw [List.getElem?_map] at hdp
        cases e : d.2[i]? with
        | none =>
          rw [e] at hdp
          cases hdp
        | some b =>
          rw [e] at hdp
          exact ⟨b, rfl, (Option.some.inj hdp).symm⟩
      obtain ⟨u, xs, rfl, hu, ha⟩ := dqx.tup_inv
      obtain ⟨_, _, rfl, k1, ha⟩ := ha.cons_inv
      obtain ⟨_, _, rfl, k2, ha⟩ := ha.cons_inv
      cases ha.nil_inv
      cases k1.str_inv
      cases k2.int_inv
      obtain ⟨l1, l2, l3⟩ := h3 q (List.mem_of_getElem? hq')
      have il : i < d.2.length := (List.getElem?_eq_some_iff.mp hq').1
      refine ⟨u, _, rfl, Same.sqT (s2.trans s3) hu, rfl, _, _, rfl, _, _, rfl, rfl, rfl, ?_⟩
      refine lc_yes ?_
      have z0 : (Str.empty : Str).length = 0 := rfl
      refine ⟨_, rfl, .inl ⟨q.1, rfl, hh2 (by omega), q.1, rfl, hh2 (by rw [len_app, z0]; omega), " ", rfl, hh2 (by rw [len_app, len_app, z0, e1]; omega), ?_⟩⟩
      refine ⟨_, rfl, .inr ⟨(q.2 : Int), rfl, l3, numT q.2, rfl, hh2 (by rw [len_app, len_app, len_app, z0, e1]; omega), ?_⟩⟩
      refine ⟨_, eD, ?_, Same.over s3 hD, ?_⟩
      · rw [List.length_map, List.length_map, List.length_take]
        exact small1000 (by omega)
      · rw [upd_same, List.take_add_one, hq', List.map_append, List.map_append]
        rfl
    · rintro H3 ⟨s3, eD⟩
      rw [lv, List.take_length] at eD
      have npD : p ≠ D := ne_of_none ep hD
      refine ⟨p, D, _, _, rfl, rfl, s3 _ _ ep, eD, ?_, fun j hj => ?_⟩
      · rw [List.length_map, List.length_map]
        exact hh2 (show 1 + d.2.length ≤ 1000000 by omega)
      refine ⟨_, j, d.1 :: d.2.map placeT, rfl, rfl, .inl (.inl (.inl upd_same)), ?_, ?_⟩
      · have q := sum_le (xs := (d.1 :: d.2.map placeT).map (·.length)) (b := 81) fun n hn => by
          obtain ⟨x, hx, rfl⟩ := List.mem_map.mp hn
          rcases List.mem_cons.mp hx with e | hx
          · rw [e]
            omega
          · obtain ⟨p, hp, rfl⟩ := List.mem_map.mp hx
            obtain ⟨a, b, _⟩ := h3 p hp
            rw [placeT_len]
            omega
        rw [List.length_map, List.length_cons, List.length_map] at q
        rw [List.length_cons, List.length_map, e1]
        omega
      · exact k _ (s2.trans (s3.trans (same_new hj)))
end
end Bc

namespace Bc
open PySem PySem.Spec PyProof.Rows L2
/-- a loop over a name that holds a list or a tuple -/
theorem pi_either {X : Cx} {tg l : Expr} {i : Nat} (h : PE X l (tVar i)) : PI X tg l (fun σ H R => iList X.K (tVar i) σ H R ∨ iTup X.K (tVar i) σ H R) :=
  ⟨fun pins s σ H R I q => q.elim (fun q => (pi_list h).run pins s σ H R I q) (fun q => (pi_tup h).run pins s σ H R I q)⟩
def spScrT (K : PySem.W.Frag) : Sp := fun vs H Q _ => ∃ (a : Addr) (xs : List V) (ds : List Deed), vs = [.ref a] ∧ (SqL K H a xs ∨ SqT K H a xs) ∧ DqAll K H xs (ds.map dDeed) ∧ (∀ d ∈ ds, shortDeed d) ∧ ds.length ≤ 1000 ∧ ∀ H', Same H H' → Q (.str (scriptT ds)) H'
section
variable {P : Program} {w : World} {K : PySem.W.Frag} {mg : Str → Option Value} {base : Heap}
theorem ok_scrT {f fR fD : Addr} {fd fdR fdD : FuncData} (F : Fun K "script_text" "script_text" sScrT f fd) (GR : FnOk P w K mg base CX0 1 fR fdR ["head", "rows"] (spRowsT K)) (bR : Binds K fdR ["head", "rows"] []) (gR : mg "rows_text" = some (.ref fR)) (kR : PySem.W.keepIn K (.ref fR) = true)
    (GD : FnOk P w K mg base CX0 1 fD fdD ["deed"] (spDeedT K)) (bD : Binds K fdD ["deed"] []) (gD : mg "deed_text" = some (.ref fD)) (kD : PySem.W.keepIn K (.ref fD) = true) : FnOk P w K mg base CX0 2 f fd ["script"] (spScrT K) := by
  refine F.ok scScrT (fun vs H Q E h => ?_) (fun cdv A outer s H vs Q E hr h => ?_)
  · obtain ⟨a, xs, ds, rfl, _⟩ := h
    rfl
  · obtain ⟨a, xs, ds, rfl, hx, hall, hsh, hm, k⟩ := h
    refine ⟨_, pss_one (ps_ret (pe_call GR hr (by rfl) gR kR bR .nil pass0 (pa_cons pe_str (pa_cons (pe_lc (own := [("deed", 1)]) (g := gName 1) (tt := tYes) (by rfl) scScrT.nd (pi_either (pv 0)) (blkOk_by (own := [("deed", 1)]) (N := nScrT) (sc := defScope sScrT) (by decide +kernel)) (fun _ _ _ _ _ => pg_name (i := 1) scScrT.nd rfl (.inl rfl)) (fun _ _ _ _ _ => pts_nil)
          (fun _ _ _ _ _ => pe_call GD hr (by rfl) gD kD bD .nil pass0 (pa_cons (pv 1) pa_nil))) pa_nil)))), ?_⟩
    have lx : xs.length = ds.length := by rw [hall.len, List.length_map]
    have fin : ∀ (D : Addr) (H1 : Hp), Same H H1 → H1 D = some (.lst ((ds.map deedT).map V.str)) → spRowsT K [.str "script", .ref D] H1 (fun v H' => Q v H') E0 := fun D H1 s1 eD => by
      refine ⟨"script", D, ds.map deedT, rfl, .inl (.inl eD), by decide +kernel, by rw [List.length_map]; exact hm, fun r hr' => ?_, fun H' s' => k H' (s1.trans s')⟩
      obtain ⟨d, hd, rfl⟩ := List.mem_map.mp hr'
      exact deedT_le (hsh d hd)
    rcases hx with hx | hx
    · refine .inl ⟨_, rfl, a, rfl, ⟨_, hx⟩, fun D hD => lc_list (K := K) (a := a) (xs := xs) (fun i H' => Same H H' ∧ H' D = some (.lst (((ds.take i).map deedT).map V.str))) ⟨same_new hD, upd_same⟩ (fun i H' _ h => h.1.seq hx) ?_ ?_⟩
      · rintro i x H1 hi ⟨s1, eD⟩
        obtain ⟨dp, hdp, dqx⟩ := DqAll.get i hall hi
        obtain ⟨d, hd, rfl⟩ : ∃ q, ds[i]? = some q ∧ dp = dDeed q := by
          rw [List.getElem?_map] at hdp
          cases e : ds[i]? with
          | none =>
            rw [e] at hdp
            cases hdp
          | some b =>
            rw [e] at hdp
            exact ⟨b, rfl, (Option.some.inj hdp).symm⟩
        have il : i < ds.length := (List.getElem?_eq_some_iff.mp hd).1
        refine ⟨rfl, ?_⟩
        refine lc_yes ?_
        refine ⟨_, rfl, ?_⟩
        refine ⟨x, d, rfl, Dq.same s1 dqx, hsh d (List.mem_of_getElem? hd), fun H2 s2 => ?_⟩
        refine ⟨_, s2 _ _ eD, ?_, Same.over (s1.trans s2) hD, ?_⟩
        · rw [List.length_map, List.length_map, List.length_take]
          exact small1000 (by omega)
        · rw [upd_same, List.take_add_one, hd, List.map_append, List.map_append]
          rfl
      · rintro H1 ⟨s1, eD⟩
        rw [lx, List.take_length] at eD
        exact fin D H1 s1 eD
    · refine .inr ⟨_, rfl, a, rfl, ⟨_, hx⟩, fun D hD => lc_tup (K := K) (a := a) (xs := xs) (fun i H' => Same H H' ∧ H' D = some (.lst (((ds.take i).map deedT).map V.str))) ⟨same_new hD, upd_same⟩ (fun i H' _ h => Same.sqT h.1 hx) ?_ ?_⟩
      · rintro i x H1 hi ⟨s1, eD⟩
        obtain ⟨dp, hdp, dqx⟩ := DqAll.get i hall hi
        obtain ⟨d, hd, rfl⟩ : ∃ q, ds[i]? = some q ∧ dp = dDeed q := by
          rw [List.getElem?_map] at hdp
          cases e : ds[i]? with
          | none =>
            rw [e] at hdp
            cases hdp
          | some b =>
            rw [e] at hdp
            exact ⟨b, rfl, (Option.some.inj hdp).symm⟩
        have il : i < ds.length := (List.getElem?_eq_some_iff.mp hd).1
        refine ⟨rfl, ?_⟩
        refine lc_yes ?_
        refine ⟨_, rfl, ?_⟩
        refine ⟨x, d, rfl, Dq.same s1 dqx, hsh d (List.mem_of_getElem? hd), fun H2 s2 => ?_⟩
        refine ⟨_, s2 _ _ eD, ?_, Same.over (s1.trans s2) hD, ?_⟩
        · rw [List.length_map, List.length_map, List.length_take]
          exact small1000 (by omega)
        · rw [upd_same, List.take_add_one, hd, List.map_append, List.map_append]
          rfl
      · rintro H1 ⟨s1, eD⟩
        rw [lx, List.take_length] at eD
        exact fin D H1 s1 eD
end
end Bc

namespace Bc
open PySem PySem.Spec PyProof.Rows L2
abbrev sJoined : Stmt := topS 33
abbrev sSLex : Stmt := topS 35
abbrev nJoined : List Str := ["_law_signs", "_law_text", "_law_last", "_law_one", "_law_gap"]
abbrev nSLex : List Str := ["_law_script", "_law_found", "_law_deed", "_law_place"]
theorem scJoined : FnScope nJoined ["_law_signs"] (defScope sJoined) := ⟨rfl, rfl, rfl, by decide +kernel, rfl, by decide +kernel, by decide +kernel⟩
theorem scSLex : FnScope nSLex ["_law_script"] (defScope sSLex) := ⟨rfl, rfl, rfl, by decide +kernel, rfl, by decide +kernel, by decide +kernel⟩
abbrev closes : List Str := [")", ",", ";", "^("]
abbrev opens3 : List Str := [";", "{", "}"]
def gapOf (last one : Str) : Str := if last = "(" then "" else if inV (.str one) (closes.map V.str) = true then "" else if inV (.str last) (opens3.map V.str) = true then "\n" else " "
def jStep (p : Str × Str) (one : Str) : Str × Str := (p.1 ++ gapOf p.2 one ++ one, one)
def joinedT (ws : List Str) : Str := (ws.foldl jStep ("", "(")).1 ++ "\n"
def tGap : TS := fun D σ H => ∃ v0 v1 last one, σ = [v0, v1, some (.str last), some (.str one), some (.str " ")] ∧ ∀ H', Same H H' → D.nx [v0, v1, some (.str last), some (.str one), some (.str (gapOf last one))] H'
theorem gapOf_len (a b : Str) : (gapOf a b).length ≤ 1 := by
  unfold gapOf
  split
  · decide +kernel
  · split
    · decide +kernel
    · split <;> decide +kernel
def spJoined (K : PySem.W.Frag) : Sp := fun vs H Q _ => ∃ (l : Addr) (ws : List Str), vs = [.ref l] ∧ SqL K H l (ws.map V.str) ∧ ws.length ≤ 5000 ∧ (∀ w ∈ ws, w.length ≤ 60 ∧ Txt.stripChars w "^" = w) ∧ ∀ H', Same H H' → Q (.str (joinedT ws)) H'
section
variable {P : Program} {w : World} {K : PySem.W.Frag} {mg : Str → Option Value} {base : Heap}
theorem ok_joined {f : Addr} {fd : FuncData} (F : Fun K "_law_joined" "_law_joined" sJoined f fd) : FnOk P w K mg base CX0 1 f fd ["_law_signs"] (spJoined K) := by
  refine F.ok scJoined (fun vs H Q E h => ?_) (fun cdv A outer s H vs Q E hr h => ?_)
  · obtain ⟨l, ws, rfl, _⟩ := h
    rfl
  · obtain ⟨l, ws, rfl, hl, hm, hw, k⟩ := h
    refine ⟨_, pss_cons (ps_asg (pe_tup (pa_cons pe_str (pa_cons pe_str pa_nil))) (pg_tup rfl (pgs_cons (pg_name (i := 1) scJoined.nd rfl (.inl rfl)) (pgs_cons (pg_name (i := 2) scJoined.nd rfl (.inl rfl)) pgs_nil))))
      (pss_cons (ps_for PassesOwn.never rfl (pi_list (pv 0)) (pg_name (i := 3) scJoined.nd rfl (.inl rfl))
        (pss_cons (ps_set (i := 4) scJoined.nd rfl (.inl rfl) pe_str)
        (pss_cons (PS.imp (t' := tGap) (ps_if (PW.pt (pw_or (pt_cmpR op_eq (pv 2) pe_str (nomark _)) (pw_or1 (pt_cmpR op_in_seq (pv 3) (pe_lst (pa_cons pe_str (pa_cons pe_str (pa_cons pe_str (pa_cons pe_str pa_nil))))) (by rfl)))))
            (pss_one (ps_set (i := 4) scJoined.nd rfl (.inl rfl) pe_str))
            (pss_one (ps_if (pt_cmpR op_in_seq (pv 2) (pe_lst (pa_cons pe_str (pa_cons pe_str (pa_cons pe_str pa_nil)))) (by rfl)) (pss_one (ps_set (i := 4) scJoined.nd rfl (.inl rfl) pe_str)) pss_nil))) (fun D σ H h => by
          obtain ⟨v0, v1, last, one, rfl, q⟩ := h
          refine ⟨_, rfl, rfl, _, rfl, ?_⟩
          rw [dec_str]
          refine ite2 (fun h1 => ?_) (fun h1 => ?_)
          · have q1 := q H (Same.refl H)
            rw [show gapOf last one = "" from if_pos (of_decide_eq_true h1)] at q1
            exact q1
          · have e1 : ¬ last = "(" := fun y => h1 (decide_eq_true y)
            refine ⟨_, rfl, (by show 4 ≤ sizeLine; decide), fun p hp => ⟨p, _, rfl, .inl (.inl (.inl upd_same)), rfl, rfl, _, rfl, ?_⟩⟩
            refine ite2 (fun h2 => ?_) (fun h2 => ?_)
            · have q1 := q _ (same_new (o := .lst (closes.map V.str)) hp)
              rw [show gapOf last one = "" by unfold gapOf; rw [if_neg e1]; exact if_pos h2] at q1
              exact q1
            · refine ⟨_, rfl, (by show 3 ≤ sizeLine; decide), fun p2 hp2 => ⟨p2, _, rfl, .inl (.inl (.inl upd_same)), rfl, rfl, _, rfl, ?_⟩⟩
              have s2 := (same_new (o := .lst (closes.map V.str)) hp).trans (same_new (o := .lst (opens3.map V.str)) hp2)
              refine ite2 (fun h3 => ?_) (fun h3 => ?_)
              · have q1 := q _ s2
                rw [show gapOf last one = "\n" by unfold gapOf; rw [if_neg e1, if_neg (show ¬ inV (.str one) (closes.map V.str) = true from h2)]; exact if_pos h3] at q1
                exact q1
              · have q1 := q _ s2
                rw [show gapOf last one = " " by unfold gapOf; rw [if_neg e1, if_neg (show ¬ inV (.str one) (closes.map V.str) = true from h2)]; exact if_neg h3] at q1
                exact q1))
        (pss_cons (ps_set (i := 2) scJoined.nd rfl (.inl rfl) (pe_m1 PySem.F.slot_str_strip PySem.F.type_str_strip mt_stripChars (pv 3) pe_str))
        (pss_one (ps_set (i := 1) scJoined.nd rfl (.inl rfl) (pe_op op_add_str (pe_op op_add_str (pv 1) (pv 4)) (pv 2))))))))
      (pss_one (ps_ret (pe_op op_add_str (pv 1) pe_str)))), ?_⟩
    have hh2 : ∀ {n : Nat}, n ≤ 1000000 → n ≤ sizeLine := fun {n} h => Nat.le_trans h (by decide)
    refine ⟨(by show 2 ≤ sizeLine; decide), fun q0 hq0 => ⟨q0, _, rfl, .inl (.inl upd_same), rfl, _, _, rfl, _, _, rfl, rfl, ?_⟩⟩
    refine ⟨_, rfl, l, rfl, ⟨_, (same_new hq0).seq hl⟩, for_list (K := K) (a := l) (xs := ws.map V.str) (fun i σ H' => ∃ v3 v4, σ = [some (.ref l), some (.str ((ws.take i).foldl jStep ("", "(")).1), some (.str ((ws.take i).foldl jStep ("", "(")).2), v3, v4] ∧ ((ws.take i).foldl jStep ("", "(")).1.length ≤ 61 * i ∧ Same H H')
      ⟨none, none, rfl, Nat.le_refl _, same_new hq0⟩ (fun i σ H' _ ⟨_, _, _, _, q⟩ => q.seq hl) ?_ ?_⟩
    · rintro i x σ H1 hi ⟨v3, v4, rfl, hlen, s1⟩
      obtain ⟨wd, hwi, rfl⟩ : ∃ r, ws[i]? = some r ∧ x = V.str r := by
        rw [List.getElem?_map] at hi
        cases e : ws[i]? with
        | none =>
          rw [e] at hi
          cases hi
        | some b =>
          rw [e] at hi
          exact ⟨b, rfl, (Option.some.inj hi).symm⟩
      have il : i < ws.length := (List.getElem?_eq_some_iff.mp hwi).1
      obtain ⟨w1, w2⟩ := hw wd (List.mem_of_getElem? hwi)
      have ft : (ws.take (i + 1)).foldl jStep ("", "(") = jStep ((ws.take i).foldl jStep ("", "(")) wd := by
        rw [List.take_add_one, hwi, List.foldl_append]
        rfl
      rw [ft]
      generalize (ws.take i).foldl jStep ("", "(") = p at hlen ⊢
      have gl := gapOf_len p.2 wd
      refine ⟨_, _, p.2, wd, rfl, fun H2 s2 => ?_⟩
      refine ⟨_, rfl, ⟨_, rfl⟩, _, _, rfl, rfl, hh2 (by omega), ?_⟩
      rw [w2]
      refine ⟨_, rfl, _, rfl, _, _, rfl, rfl, hh2 (by omega), _, rfl, _, _, rfl, rfl, hh2 (by rw [len_app]; omega), ?_⟩
      refine ⟨_, _, rfl, ?_, s1.trans s2⟩
      show (p.1 ++ gapOf p.2 wd ++ wd).length ≤ _
      rw [len_app, len_app]
      omega
    · rintro σ H1 ⟨v3, v4, rfl, hlen, s1⟩
      rw [List.length_map, List.take_length] at hlen
      refine ⟨_, rfl, _, _, rfl, rfl, hh2 ?_, ?_⟩
      · rw [List.length_map, List.take_length]
        have : ("\n" : Str).length = 1 := by decide +kernel
        rw [this]
        omega
      · rw [List.length_map, List.take_length]
        exact k H1 s1
end
end Bc

namespace Bc
open PySem PySem.Spec PyProof.Rows L2
def lexOf (ds : List Deed) : List Str := "script" :: "{" :: (bodyOf (ds.map rowOf) ++ [("}" : Str)])
def spSLex (K : PySem.W.Frag) : Sp := fun vs H Q _ => ∃ (a : Addr) (xs : List V) (ds : List Deed), vs = [.ref a] ∧ SqL K H a xs ∧ DqAll K H xs (ds.map dDeed) ∧ (∀ d ∈ ds, shortDeed d) ∧ ds.length ≤ 400 ∧ ∀ g H', Same H H' → H g = none → H' g = some (.lst ((lexOf ds).map V.str)) → Q (.ref g) H'
theorem body_snoc (rs : List (List Str)) (r : List Str) : bodyOf (rs ++ [r]) = bodyOf rs ++ (r ++ [(";" : Str)]) := by
  unfold bodyOf
  rw [List.flatMap_append]
  simp
theorem rowPs_snoc : ∀ (ps : List (Str × Nat)) (p : Str × Nat), rowPs (ps ++ [p]) = rowPs ps ++ [p.1, numT p.2]
  | [], _ => rfl
  | q :: ps, p => by
    show q.1 :: numT q.2 :: rowPs (ps ++ [p]) = _
    rw [rowPs_snoc ps p]
    rfl
theorem body_len : ∀ (ds : List Deed), (∀ d ∈ ds, shortDeed d) → (bodyOf (ds.map rowOf)).length ≤ 10 * ds.length
  | [], _ => Nat.le_refl _
  | d :: ds, h => by
    have q := body_len ds fun e he => h e (List.mem_cons_of_mem _ he)
    have q2 := (h d (List.mem_cons_self ..)).2.1
    show ((rowOf d ++ [(";" : Str)]) ++ bodyOf (ds.map rowOf)).length ≤ _
    rw [List.length_append, List.length_append, List.length_cons]
    have e : (rowOf d).length = 1 + 2 * d.2.length := by
      show (rowPs d.2).length + 1 = _
      rw [rowPs_len]
      omega
    rw [e]
    show 1 + 2 * d.2.length + 1 + _ ≤ 10 * (ds.length + 1)
    omega
section
variable {P : Program} {w : World} {K : PySem.W.Frag} {mg : Str → Option Value} {base : Heap}
theorem ok_slex {f : Addr} {fd : FuncData} (F : Fun K "_law_script_lexemes" "_law_script_lexemes" sSLex f fd) (mR : mg "repr" = none) : FnOk P w K mg base CX0 1 f fd ["_law_script"] (spSLex K) := by
  refine F.ok scSLex (fun vs H Q E h => ?_) (fun cdv A outer s H vs Q E hr h => ?_)
  · obtain ⟨a, xs, ds, rfl, _⟩ := h
    rfl
  · obtain ⟨a, xs, ds, rfl, hx, hall, hsh, hm, k⟩ := h
    have two : ∀ {a b : V}, [a, b].length ≤ sizeLine := fun {_ _} => (by show 2 ≤ sizeLine; decide)
    refine ⟨_, pss_cons (ps_set (i := 1) scSLex.nd rfl (.inl rfl) (pe_lst (pa_cons pe_str (pa_cons pe_str pa_nil))))
      (pss_cons (ps_for PassesOwn.never rfl (pi_list (pv 0)) (pg_name (i := 2) scSLex.nd rfl (.inl rfl))
        (pss_cons (ps_expr (pe_bm PySem.F.plainAttrs_list PySem.F.slot_list_append PySem.F.type_list_append mt_append (pv 1) (pa_cons (pe_ix ix_tup (pv 2) pe_int (fun _ _ => rfl)) pa_nil)))
        (pss_cons (ps_for PassesOwn.never rfl (pi_tup (pe_slice sl_tup (pv 2) (po_some pe_int) po_none)) (pg_name (i := 3) scSLex.nd rfl (.inl rfl))
          (pss_one (ps_set (i := 1) scSLex.nd rfl (.inl rfl) (pe_op op_cat (pv 1) (pe_lst (pa_cons (pe_ix ix_tup (pv 3) pe_int (fun _ _ => rfl)) (pa_cons (pe_callB SkE.call_repr_int (by rfl) mR (by decide +kernel) (pa_cons (pe_ix ix_tup (pv 3) pe_int (fun _ _ => rfl)) pa_nil)) pa_nil)))))))
        (pss_one (ps_expr (pe_bm PySem.F.plainAttrs_list PySem.F.slot_list_append PySem.F.type_list_append mt_append (pv 1) (pa_cons pe_str pa_nil)))))))
      (pss_one (ps_ret (pe_op op_cat (pv 1) (pe_lst (pa_cons pe_str pa_nil)))))), ?_⟩
    have big : ∀ {n : Nat}, n ≤ 100000 → n < sizeLine := fun {n} h => Nat.lt_of_le_of_lt h (by decide)
    refine ⟨two, fun g hg => ?_⟩
    refine ⟨_, rfl, a, rfl, ⟨_, (same_new hg).seq hx⟩, for_list (K := K) (a := a) (xs := xs) (fun i σ H' => ∃ v2 v3 g, σ = [some (.ref a), some (.ref g), v2, v3] ∧ Same H H' ∧ H g = none ∧ H' g = some (.lst ((("script" : Str) :: "{" :: bodyOf ((ds.take i).map rowOf)).map V.str)))
      ⟨none, none, g, rfl, same_new hg, hg, upd_same⟩ (fun i σ H' _ ⟨_, _, _, _, q, _⟩ => q.seq hx) ?_ ?_⟩
    · rintro i x σ H1 hi ⟨v2, v3, g, rfl, s1, ng, eg⟩
      obtain ⟨dp, hdp, dqx⟩ := DqAll.get i hall hi
      obtain ⟨d, hd, rfl⟩ : ∃ q, ds[i]? = some q ∧ dp = dDeed q := by
        rw [List.getElem?_map] at hdp
        cases e : ds[i]? with
        | none =>
          rw [e] at hdp
          cases hdp
        | some b =>
          rw [e] at hdp
          exact ⟨b, rfl, (Option.some.inj hdp).symm⟩
      have il : i < ds.length := (List.getElem?_eq_some_iff.mp hd).1
      obtain ⟨h1, h2, h3⟩ := hsh d (List.mem_of_getElem? hd)
      obtain ⟨u, us, rfl, hu, hall0⟩ := dqx.tup_inv
      obtain ⟨w1, vs, rfl, hw1, hpl⟩ := hall0.cons_inv
      cases hw1.str_inv
      have lv : vs.length = d.2.length := by rw [hpl.len, List.length_map]
      have blen := body_len (ds.take i) fun e he => hsh e (List.mem_of_mem_take he)
      rw [List.length_take] at blen
      generalize hB : bodyOf ((ds.take i).map rowOf) = bd at eg blen
      refine ⟨_, rfl, .inl ⟨rfl, _, .inl (.inl eg)⟩, _, rfl, u, _, _, .str d.1, rfl, rfl, Same.sqT s1 hu, L2.at_of (j := 0) rfl rfl, g, _, _, rfl, rfl, eg, big ?_, ?_⟩
      · rw [List.length_map]
        show bd.length + 1 + 1 ≤ _
        omega
      have s2 : Same H (upd H1 g (.lst ((("script" : Str) :: "{" :: bd).map V.str ++ [.str d.1]))) := Same.over s1 ng
      have eg2 : (upd H1 g (.lst ((("script" : Str) :: "{" :: bd).map V.str ++ [.str d.1]))) g = some (.lst ((("script" : Str) :: "{" :: (bd ++ [d.1])).map V.str)) := by
        rw [upd_same, List.map_cons, List.map_cons, List.map_cons, List.map_cons, List.map_append]
        rfl
      generalize upd H1 g (.lst ((("script" : Str) :: "{" :: bd).map V.str ++ [.str d.1])) = H2 at s2 eg2 ⊢
      refine ⟨_, rfl, _, rfl, u, _, rfl, Same.sqT s2 hu, ?_, fun p2 hp2 => ?_⟩
      · rintro ⟨e0, _⟩
        rw [show (some (1 : Int)) = some ((1 : Nat) : Int) from rfl, HT.sIx_nat, List.length_cons, Nat.min_eq_left (by omega)] at e0
        cases e0
      have cut1 : cutV (.str d.1 :: vs) (some 1) none = vs := by
        unfold cutV
        rw [show (some (1 : Int)) = some ((1 : Nat) : Int) from rfl, HT.sIx_none, HT.sIx_nat, List.length_cons, Nat.min_eq_left (by omega)]
        show vs.take _ = vs
        exact List.take_of_length_le (by omega)
      rw [cut1]
      have s3 : Same H2 (upd H2 p2 (.tup vs)) := same_new hp2
      refine ⟨p2, rfl, ⟨_, .inl (.inl upd_same)⟩, for_tup (K := K) (a := p2) (xs := vs) (fun j σ H' => ∃ v3 g', σ = [some (.ref a), some (.ref g'), some (.ref u), v3] ∧ Same H H' ∧ H g' = none ∧ H' p2 = some (.tup vs) ∧ H' g' = some (.lst ((("script" : Str) :: "{" :: (bd ++ (d.1 :: rowPs (d.2.take j)))).map V.str)))
        ⟨_, g, rfl, s2.trans s3, ng, upd_same, s3 _ _ eg2⟩ (fun j σ H' _ ⟨_, _, _, _, _, q, _⟩ => .inl (.inl q)) ?_ ?_⟩
      · rintro j x σ H3 hj ⟨v3', g', rfl, s4, ng', ep2, eg'⟩
        obtain ⟨dpl, hdpl, dqp⟩ := DqAll.get j hpl hj
        obtain ⟨q, hq, rfl⟩ : ∃ q, d.2[j]? = some q ∧ dpl = dPlace q := by
          rw [List.getElem?_map] at hdpl
          cases e : d.2[j]? with
          | none =>
            rw [e] at hdpl
            cases hdpl
          | some b =>
            rw [e] at hdpl
            exact ⟨b, rfl, (Option.some.inj hdpl).symm⟩
        have jl : j < d.2.length := (List.getElem?_eq_some_iff.mp hq).1
        obtain ⟨l1, l2, l3⟩ := h3 q (List.mem_of_getElem? hq)
        obtain ⟨u', xs', rfl, hu', ha⟩ := dqp.tup_inv
        obtain ⟨_, _, rfl, k1, ha⟩ := ha.cons_inv
        obtain ⟨_, _, rfl, k2, ha⟩ := ha.cons_inv
        cases ha.nil_inv
        cases k1.str_inv
        cases k2.int_inv
        have hu4 := Same.sqT s4 hu'
        refine ⟨_, rfl, _, rfl, u', _, _, .str q.1, rfl, rfl, hu4, L2.at_of (j := 0) rfl rfl, _, rfl, u', _, _, .int q.2, rfl, rfl, hu4, L2.at_of (j := 1) rfl rfl, _, rfl, l3, two, fun p hp => ?_⟩
        refine ⟨g', p, _, _, rfl, rfl, (same_new hp) _ _ eg', upd_same, Nat.le_of_lt (big ?_), fun p3 hp3 => ?_⟩
        · rw [List.length_map]
          show (bd ++ (d.1 :: rowPs (d.2.take j))).length + 1 + 1 + 2 ≤ _
          rw [List.length_append, List.length_cons, rowPs_len, List.length_take]
          omega
        · refine ⟨_, p3, rfl, s4.trans ((same_new hp).trans (same_new hp3)), s4.free ((same_new hp).free hp3), ((same_new hp).trans (same_new hp3)) _ _ ep2, ?_⟩
          rw [upd_same, List.take_add_one, hq]
          show some (HO.lst ((("script" : Str) :: "{" :: (bd ++ (d.1 :: rowPs (d.2.take j)))).map V.str ++ [V.str q.1, V.str (numT q.2)])) = some (HO.lst ((("script" : Str) :: "{" :: (bd ++ (d.1 :: rowPs (d.2.take j ++ [q])))).map V.str))
          rw [rowPs_snoc]
          simp only [List.map_cons, List.map_append, List.map_nil, List.cons_append, List.append_assoc]
      · rintro σ H3 ⟨v3', g', rfl, s4, ng', ep2, eg'⟩
        rw [lv, List.take_length] at eg'
        refine ⟨_, rfl, .inl ⟨rfl, _, .inl (.inl eg')⟩, g', _, _, rfl, rfl, eg', big ?_, ?_⟩
        · rw [List.length_map]
          show (bd ++ (d.1 :: rowPs d.2)).length + 1 + 1 ≤ _
          rw [List.length_append, List.length_cons, rowPs_len]
          omega
        · refine ⟨_, _, g', rfl, Same.over s4 ng', ng', ?_⟩
          rw [upd_same, List.take_add_one, hd, List.map_append]
          show _ = some (HO.lst ((("script" : Str) :: "{" :: bodyOf ((ds.take i).map rowOf ++ [rowOf d])).map V.str))
          rw [body_snoc, hB]
          show some (HO.lst ((("script" : Str) :: "{" :: (bd ++ (d.1 :: rowPs d.2))).map V.str ++ [V.str ";"])) = _
          unfold rowOf
          simp only [List.map_cons, List.map_append, List.map_nil, List.cons_append, List.append_assoc]
    · rintro σ H1 ⟨v2, v3, g, rfl, s1, ng, eg⟩
      have lx : xs.length = ds.length := by rw [hall.len, List.length_map]
      rw [lx, List.take_length] at eg
      have blen := body_len ds hsh
      refine ⟨_, rfl, (by show 1 ≤ sizeLine; decide), fun p hp => ⟨g, p, _, _, rfl, rfl, (same_new hp) _ _ eg, upd_same, Nat.le_of_lt (big ?_), fun p3 hp3 => ?_⟩⟩
      · rw [List.length_map]
        show (bodyOf (ds.map rowOf)).length + 1 + 1 + 1 ≤ _
        omega
      · refine k p3 _ (s1.trans ((same_new hp).trans (same_new hp3))) (s1.free ((same_new hp).free hp3)) ?_
        rw [upd_same]
        unfold lexOf
        simp only [List.map_cons, List.map_append, List.map_nil, List.cons_append, List.append_assoc]
end
end Bc

namespace Bc
open PySem PySem.Spec PyProof.Rows L2
abbrev sDrawn : Stmt := topS 36
abbrev nDrawn : List Str := ["_law_source_here", "_law_names", "_law_numbers", "_law_places", "_law_many", "_law_lap"]
theorem scDrawn : FnScope nDrawn ["_law_source_here"] (defScope sDrawn) := ⟨rfl, rfl, rfl, by decide +kernel, rfl, by decide +kernel, by decide +kernel⟩
abbrev namesM : List Str := ["root", "a", "hang", "stretch", "x1", "abcdefghijkl"]
abbrev numsM : List Nat := [0, 0, 1, 2, 3, 10, 305, 10 ^ 30]
def drawn (d : Deed) : Prop := ((d.1 = "hang" ∧ d.2.length = 2) ∨ (d.1 = "stretch" ∧ d.2.length = 4)) ∧ ∀ p ∈ d.2, p.1 ∈ namesM ∧ p.2 ∈ numsM
def spDrawn (K : PySem.W.Frag) : Sp := fun vs H Q _ => ∃ (d c : Addr), vs = [.ref d] ∧ SrcAt H d c ∧ ∀ (q : Addr) (H' : Hp) (dd : Deed), drawn dd → SrcAt H' d c → Same (hid d c H) (hid d c H') → Dq K (hid d c H') (.ref q) (dDeed dd) → Q (.ref q) H'
theorem srcAt_upd {H : Hp} {d c D : Addr} {o : HO} (s : SrcAt H d c) (h1 : D ≠ d) (h2 : D ≠ c) : SrcAt (upd H D o) d c := by
  obtain ⟨n, hn, ne, cells, l, m, t, e1, e2, e3⟩ := s
  exact ⟨n, hn, ne, cells, l, m, t, by rw [upd_ne (Ne.symm h1)]; exact e1, by rw [upd_ne (Ne.symm h2)]; exact e2, e3⟩
theorem hid_get {d c D : Addr} {H : Hp} {o : HO} (h : hid d c H D = some o) : D ≠ d ∧ D ≠ c ∧ H D = some o := by
  unfold hid at h
  by_cases q : D = d ∨ D = c
  · rw [if_pos q] at h
    cases h
  · rw [if_neg q] at h
    exact ⟨fun e => q (.inl e), fun e => q (.inr e), h⟩
theorem hid_put {d c D : Addr} {H : Hp} {o : HO} (h1 : D ≠ d) (h2 : D ≠ c) (h : H D = some o) : hid d c H D = some o := by
  unfold hid
  rw [if_neg (fun y => by rcases y with y | y <;> contradiction)]
  exact h
theorem DqAll.take {K : PySem.W.Frag} {H : Hp} : ∀ {vs : List V} {ds : List PyData} (n : Nat), DqAll K H vs ds → DqAll K H (vs.take n) (ds.take n)
  | _, _, 0, h => .nil
  | _, _, _ + 1, .nil => .nil
  | _, _, n + 1, .cons a t => .cons a (DqAll.take n t)
theorem cut_k {vs : List V} {k : Nat} (h : k ≤ vs.length) : cutV vs none (some (k : Int)) = vs.take k := by
  unfold cutV
  rw [HT.sIx_none, HT.sIx_nat, Nat.min_eq_left h]
  rfl
section
variable {P : Program} {w : World} {K : PySem.W.Frag} {mg : Str → Option Value} {base : Heap}
theorem ok_drawn {f fO fP : Addr} {fd fdO fdP : FuncData} (F : Fun K "_law_drawn_deed" "_law_drawn_deed" sDrawn f fd) (N : Nm mg) (mT : mg "tuple" = none)
    (GO : FnOk P w K mg base CX0 2 fO fdO ["_law_source_here", "_law_some"] (spOf K)) (bO : Binds K fdO ["_law_source_here", "_law_some"] []) (gO : mg "_law_of" = some (.ref fO)) (kO : PySem.W.keepIn K (.ref fO) = true)
    (GP : FnOk P w K mg base CX0 1 fP fdP ["_law_source_here", "_law_many"] spPick) (bP : Binds K fdP ["_law_source_here", "_law_many"] []) (gP : mg "_law_pick" = some (.ref fP)) (kP : PySem.W.keepIn K (.ref fP) = true) :
    FnOk P w K mg base CX0 3 f fd ["_law_source_here"] (spDrawn K) := by
  refine F.ok scDrawn (fun vs H Q E h => ?_) (fun cdv A outer s H vs Q E hr h => ?_)
  · obtain ⟨d, c, rfl, _⟩ := h
    rfl
  · obtain ⟨d, c, rfl, src, k⟩ := h
    have hr1 : Room 1 _ := hr.mono (by decide)
    have two : ∀ {a b : V}, [a, b].length ≤ sizeLine := fun {_ _} => (by show 2 ≤ sizeLine; decide)
    refine ⟨_, pss_cons (ps_asg (pe_tup (pa_cons (pe_lst (pa_cons pe_str (pa_cons pe_str (pa_cons pe_str (pa_cons pe_str (pa_cons pe_str (pa_cons pe_str pa_nil))))))) (pa_cons (pe_lst (pa_cons pe_int (pa_cons pe_int (pa_cons pe_int (pa_cons pe_int (pa_cons pe_int (pa_cons pe_int (pa_cons pe_int (pa_cons (pe_op op_pow pe_int pe_int) pa_nil))))))))) pa_nil)))
        (pg_tup rfl (pgs_cons (pg_name (i := 1) scDrawn.nd rfl (.inr rfl)) (pgs_cons (pg_name (i := 2) scDrawn.nd rfl (.inr rfl)) pgs_nil))))
      (pss_cons (ps_setLc (i := 3) (own := [("_law_lap", 5)]) (tt := tYes) rfl scDrawn.nd rfl rfl rfl (pi_range1 (by rfl) N.rng (pa_cons pe_int pa_nil)) (blkOk_by (own := [("_law_lap", 5)]) (N := nDrawn) (sc := defScope sDrawn) (by decide +kernel))
          (fun _ _ _ _ _ => pg_name (i := 5) scDrawn.nd rfl (.inl rfl)) (fun _ _ _ _ _ => pts_nil)
          (fun _ _ _ _ _ => pe_tup (pa_cons (pe_call GO hr (by rfl) gO kO bO .nil pass0 (pa_cons (pv 0) (pa_cons (pv 1) pa_nil))) (pa_cons (pe_call GO hr (by rfl) gO kO bO .nil pass0 (pa_cons (pv 0) (pa_cons (pv 2) pa_nil))) pa_nil))))
      (pss_cons (ps_set (i := 4) scDrawn.nd rfl (.inl rfl) (pe_op op_add pe_int (pe_op op_mul pe_int (pe_call GP hr1 (by rfl) gP kP bP .nil pass0 (pa_cons (pv 0) (pa_cons pe_int pa_nil))))))
      (pss_one (ps_ret (pe_op op_catT (pe_tup (pa_cons (pe_ix ix_list (pe_lst (pa_cons pe_str (pa_cons pe_str pa_nil))) (pe_op op_fdiv (pv 4) pe_int) (fun _ _ => rfl)) pa_nil))
        (pe_callTy call_tuple_of (by rfl) mT (by decide +kernel) (pa_cons (pe_slice sl_list (pv 3) po_none (po_some (pv 4))) pa_nil))))))), ?_⟩
    have eN : ([.int 0, .int 0, .int 1, .int 2, .int 3, .int 10, .int 305, .int ((10 : Int) ^ (30 : Int).toNat)] : List V) = numsM.map fun k : Nat => V.int (k : Int) := by decide +kernel
    refine ⟨(by show 6 ≤ sizeLine; decide), fun n hn => ⟨_, _, rfl, rfl, ⟨by decide, by decide, by decide⟩, (by show 8 ≤ sizeLine; decide), fun m hm => ⟨two, fun q0 hq0 => ⟨q0, _, rfl, .inl (.inl upd_same), rfl, _, _, rfl, _, _, rfl, rfl, ?_⟩⟩⟩⟩
    rw [eN, show ([.str "root", .str "a", .str "hang", .str "stretch", .str "x1", .str "abcdefghijkl"] : List V) = namesM.map V.str from rfl]
    have sB : Same H (upd (upd (upd H n (.lst (namesM.map V.str))) m (.lst (numsM.map fun k : Nat => V.int (k : Int)))) q0 (.tup [.ref n, .ref m])) := (same_new hn).trans ((same_new hm).trans (same_new hq0))
    have en : (upd (upd (upd H n (.lst (namesM.map V.str))) m (.lst (numsM.map fun k : Nat => V.int (k : Int)))) q0 (.tup [.ref n, .ref m])) n = some (.lst (namesM.map V.str)) := ((same_new hm).trans (same_new hq0)) _ _ upd_same
    have em : (upd (upd (upd H n (.lst (namesM.map V.str))) m (.lst (numsM.map fun k : Nat => V.int (k : Int)))) q0 (.tup [.ref n, .ref m])) m = some (.lst (numsM.map fun k : Nat => V.int (k : Int))) := (same_new hq0) _ _ upd_same
    have hn2 := hid_new (o := .lst (namesM.map V.str)) src hn
    have hm2 := hid_new (o := .lst (numsM.map fun k : Nat => V.int (k : Int))) (src.up (same_new hn)) hm
    generalize upd (upd (upd H n (.lst (namesM.map V.str))) m (.lst (numsM.map fun k : Nat => V.int (k : Int)))) q0 (.tup [.ref n, .ref m]) = H1 at sB en em ⊢
    have src1 := src.up sB
    have hen := hid_put hn2.1 hn2.2.1 en
    have hem := hid_put hm2.1 hm2.2.1 em
    refine ⟨4, rfl, by decide, by decide, fun D hD => ?_⟩
    have hD2 := hid_new (o := .lst []) src1 hD
    refine lc_range (lo := 0) (n := 4) (fun i H' => SrcAt H' d c ∧ Same (hid d c H1) (hid d c H') ∧ ∃ vs ps, (hid d c H') D = some (.lst vs) ∧ DqAll K (hid D D (hid d c H')) vs (ps.map dPlace) ∧ ps.length = i ∧ ∀ p ∈ ps, p.1 ∈ namesM ∧ p.2 ∈ numsM)
      ⟨src1.up (same_new hD), hid_up (same_new hD), [], [], hD2.2.2, .nil, rfl, fun p h => by cases h⟩ ?_ ?_
    · rintro i H2 hi ⟨src2, s2, vs, ps, eD, dq, hl, hps⟩
      refine ⟨rfl, ?_⟩
      refine lc_yes ?_
      refine ⟨_, rfl, _, rfl, d, c, n, _, rfl, src2, .inl (.inl (s2 _ _ hen)), by decide, by decide, fun v H3 hv src3 el3 => ?_⟩
      obtain ⟨nm, mnm, rfl⟩ := List.mem_map.mp (show v ∈ namesM.map V.str from hv)
      have h3 := hid_else el3
      refine ⟨_, rfl, _, rfl, d, c, m, _, rfl, src3, .inl (.inl (by rw [h3]; exact s2 _ _ hem)), by decide, by decide, fun v2 H4 hv2 src4 el4 => ?_⟩
      obtain ⟨kk, mkk, rfl⟩ := List.mem_map.mp hv2
      have h4 := (hid_else el4).trans h3
      refine ⟨two, fun q hq => ?_⟩
      have hq2 := hid_new (o := .tup [.str nm, .int (kk : Int)]) src4 hq
      have eD4 : (hid d c H4) D = some (.lst vs) := by rw [h4]; exact eD
      have eD5 := hid_up (d := d) (c := c) (same_new (o := .tup [.str nm, .int (kk : Int)]) hq) _ _ eD4
      have g5 := hid_get eD5
      have nqD : q ≠ D := fun e => by
        have := (hid_get eD4).2.2
        rw [← e, hq] at this
        cases this
      refine ⟨vs, g5.2.2, ?_, srcAt_upd (src4.up (same_new hq)) g5.1 g5.2.1, ?_, vs ++ [.ref q], ps ++ [(nm, kk)], hid_put g5.1 g5.2.1 upd_same, ?_, by rw [List.length_append, hl]; rfl, fun p hp => ?_⟩
      · rw [dq.len, List.length_map, hl]
        exact small1000 (by omega)
      · have hDn : (hid d c H1) D = none := by
          unfold hid
          split
          · rfl
          · exact hD
        intro b o e
        have nb : b ≠ D := ne_of_none e hDn
        have e2 := s2 b o e
        rw [← h4] at e2
        have e5 := hid_up (d := d) (c := c) (same_new (o := .tup [.str nm, .int (kk : Int)]) hq) _ _ e2
        have g := hid_get e5
        exact hid_put g.1 g.2.1 (by rw [upd_ne nb]; exact g.2.2)
      · rw [List.map_append]
        refine DqAll.snoc' (DqAll.same (hid1_same fun b o nb e => ?_) dq) ?_
        · rw [← h4] at e
          have e5 := hid_up (d := d) (c := c) (same_new (o := .tup [.str nm, .int (kk : Int)]) hq) _ _ e
          have g := hid_get e5
          exact hid_put g.1 g.2.1 (by rw [upd_ne nb]; exact g.2.2)
        · refine .tup (xs := [.str nm, .int (kk : Int)]) (.inl (.inl ?_)) (.cons (.str _) (.cons (.int _) .nil))
          have e6 : (upd (upd H4 q (.tup [.str nm, .int (kk : Int)])) D (.lst (vs ++ [.ref q]))) q = some (.tup [.str nm, .int (kk : Int)]) := by rw [upd_ne nqD, upd_same]
          exact hid_put nqD nqD (hid_put hq2.1 hq2.2.1 e6)
      · rcases List.mem_append.mp hp with hp | hp
        · exact hps p hp
        · cases (List.mem_singleton.mp hp)
          exact ⟨mnm, mkk⟩
    · rintro H2 ⟨src2, s2, vs, ps, eD, dq, hl, hps⟩
      have lv : vs.length = 4 := by rw [dq.len, List.length_map, hl]
      refine ⟨_, rfl, d, c, 2, rfl, src2, by decide, by decide, fun r H3 r0 r1 src3 el3 => ⟨_, _, rfl, rfl, .inl ⟨by decide, by decide⟩, _, _, rfl, rfl, ?_⟩⟩
      have h3 := hid_else el3
      rw [← h3] at eD dq s2
      have gD := hid_get eD
      have s13 : Same (hid d c H) (hid d c H3) := (hid_up sB).trans s2
      obtain ⟨rk, kn, wd, e1, e2, e3, e4, e5⟩ : ∃ (rk kn : Nat) (wd : Str), (2 : Int) + 2 * r = (kn : Int) ∧ ((2 : Int) + 2 * r) / 4 = (rk : Int) ∧ ([.str "hang", .str "stretch"] : List V)[rk]? = some (.str wd) ∧ kn ≤ 4 ∧ ((wd = "hang" ∧ kn = 2) ∨ (wd = "stretch" ∧ kn = 4)) := by
        have hr2 : r = 0 ∨ r = 1 := by
          have : max (1 : Int) 2 = 2 := by decide
          omega
        rcases hr2 with rfl | rfl
        · exact ⟨0, 2, "hang", rfl, rfl, rfl, by decide, .inl ⟨rfl, rfl⟩⟩
        · exact ⟨1, 4, "stretch", rfl, rfl, rfl, by decide, .inr ⟨rfl, rfl⟩⟩
      refine ⟨two, fun j hj => ⟨_, rfl, _, _, rfl, rfl, ⟨by decide, by decide⟩, j, _, _, .str wd, rfl, rfl, .inl (.inl upd_same), L2.at_of e2 e3, (by show 1 ≤ sizeLine; decide), fun q1 hq1 => ?_⟩⟩
      have sj := (same_new (o := .lst [.str "hang", .str "stretch"]) hj).trans (same_new (o := .tup [.str wd]) hq1)
      refine ⟨_, rfl, _, rfl, _, rfl, D, _, rfl, .inl (.inl (sj _ _ gD.2.2)), fun p hp => ?_⟩
      rw [e1, cut_k (by omega)]
      refine ⟨p, _, rfl, .inl ⟨.inl (.inl upd_same), fun l hl' => ?_⟩⟩
      have s7 := (same_new (o := .lst (vs.take kn)) hp).trans (same_new (o := .tup (vs.take kn)) hl')
      have tn : vs.take kn ≠ [] := fun e => by
        have := congrArg List.length e
        rw [List.length_take, lv] at this
        rcases e5 with ⟨_, e⟩ | ⟨_, e⟩ <;> rw [e] at this <;> cases this
      refine ⟨q1, l, _, _, rfl, rfl, .inl (.inl (s7 _ _ upd_same)), .inl (.inl upd_same), by simp, ?_, fun e => absurd e tn, fun _ q hq => ?_⟩
      · rw [List.length_take]
        exact Nat.le_of_lt (Nat.lt_of_le_of_lt (show 1 + min kn vs.length ≤ 5 by omega) (by decide))
      have sA := sj.trans (s7.trans (same_new (o := .tup ([.str wd] ++ vs.take kn)) hq))
      have hqd := hid_new (o := .tup ([.str wd] ++ vs.take kn)) (src3.up (sj.trans s7)) hq
      refine k q _ (wd, ps.take kn) ⟨?_, fun p' hp' => hps p' (List.mem_of_mem_take hp')⟩ (src3.up sA) (s13.trans (hid_up sA)) ?_
      · have lt : (ps.take kn).length = kn := by rw [List.length_take, hl]; omega
        rcases e5 with ⟨a, b⟩ | ⟨a, b⟩
        · exact .inl ⟨a, by rw [← b]; exact lt⟩
        · exact .inr ⟨a, by rw [← b]; exact lt⟩
      · refine .tup (xs := [.str wd] ++ vs.take kn) (.inl (.inl hqd.2.2)) (.cons (.str _) ?_)
        show DqAll K _ (vs.take kn) ((ps.take kn).map dPlace)
        rw [List.map_take]
        exact DqAll.take kn (DqAll.same (hid_all.trans (hid_up sA)) dq)
end
end Bc

namespace Bc
open PySem PySem.Spec PyProof.Rows L2
/-! ### spaced lexemes of any words -/
def startsWell (w : Str) : Bool := match codes w with | [] => true | c :: _ => !(inS sBlanks c)
theorem Lx_word {w : Str} {r : List Nat} {i : Nat} (g : goodTok w = true) (he : ext w r.head? = false) (hb : startsWell w = true) :
    Lx (codes w ++ r) i = ((kindOf w, codes w, i) :: (Lx r (i + (codes w).length)).1, (Lx r (i + (codes w).length)).2) := by
  have tk := tok_menu g he
  have q : (codes w ++ r).take (codes w).length = codes w := List.take_left
  have q2 : (codes w ++ r).drop (codes w).length = r := List.drop_left
  obtain ⟨c, t, ec⟩ : ∃ c t, codes w = c :: t := by
    cases e : codes w with
    | nil => exact absurd e (good_ne g)
    | cons c t => exact ⟨c, t, rfl⟩
  have hb' : inS sBlanks c = false := by
    unfold startsWell at hb
    rw [ec] at hb
    simpa using hb
  have e2 : codes w ++ r = c :: (t ++ r) := by rw [ec]; rfl
  rw [e2] at tk q q2 ⊢
  rw [Lx_tok hb' tk, q, q2]
theorem ext_blank (w : Str) {c : Nat} (hc : inS sBlanks c = true) : ext w (some c) = false := by
  have q : c ∈ sBlanks.cps.toList := of_decide_eq_true hc
  have all := List.all_eq_true.mp (show (sBlanks.cps.toList.all fun c => !(alnum c) && !(inS sDigits c)) = true by decide +kernel) c q
  simp only [Bool.and_eq_true, Bool.not_eq_true'] at all
  unfold ext
  dsimp only
  cases codes w with
  | nil => rfl
  | cons a t =>
    dsimp only
    rw [all.1, all.2]
    simp
def SpE : Str → List (Str × Str) → Prop
  | _, [] => True
  | last, (g, w) :: r => allBlank g = true ∧ (codes g = [] → ext last (codes w).head? = false) ∧ SpE w r
theorem lex_gen : ∀ (ps : List (Str × Str)) (last : Str) (tail : List Nat) (i : Nat), SpE last ps → (∀ p ∈ ps, goodTok p.2 = true ∧ startsWell p.2 = true) → tail.all (inS sBlanks) = true →
    (Lx (flatP ps ++ tail) i).2 = none ∧ (Lx (flatP ps ++ tail) i).1.map (fun t => (t.1, txtT t)) = ps.map fun p => (kindOf p.2, p.2)
  | [], _, tail, i, _, _, ht => by
    have e := Lx_gap tail [] i ht
    rw [List.append_nil, Lx_nil] at e
    have e2 : Lx (flatP [] ++ tail) i = ([], none) := e
    rw [e2]
    exact ⟨rfl, rfl⟩
  | (g, w) :: r, last, tail, i, ⟨h1, h2, h3⟩, hm, ht => by
    obtain ⟨gw, sw⟩ := hm (g, w) (List.mem_cons_self ..)
    have hr : ∀ p ∈ r, goodTok p.2 = true ∧ startsWell p.2 = true := fun p hp => hm p (List.mem_cons_of_mem _ hp)
    have hx : ext w (flatP r ++ tail).head? = false := by
      cases r with
      | nil =>
        show ext w ([] ++ tail).head? = false
        rw [List.nil_append]
        cases tail with
        | nil => rfl
        | cons b tl =>
          rw [List.all_cons, Bool.and_eq_true] at ht
          exact ext_blank w ht.1
      | cons p r' =>
        obtain ⟨g', w'⟩ := p
        obtain ⟨k1, k2, k3⟩ := h3
        show ext w (codes g' ++ (codes w' ++ flatP r') ++ tail).head? = false
        cases eg : codes g' with
        | nil =>
          have ne := good_ne (hr (g', w') (List.mem_cons_self ..)).1
          rw [List.nil_append, List.append_assoc]
          have q := k2 eg
          cases ew : codes w' with
          | nil => exact absurd ew ne
          | cons c t =>
            rw [ew] at q
            exact q
        | cons c t =>
          unfold allBlank at k1
          rw [eg, List.all_cons, Bool.and_eq_true] at k1
          exact ext_blank w k1.1
    have ih := fun j => lex_gen r w tail j h3 hr ht
    have e : flatP ((g, w) :: r) ++ tail = codes g ++ (codes w ++ (flatP r ++ tail)) := by
      show codes g ++ (codes w ++ flatP r) ++ tail = _
      simp only [List.append_assoc]
    rw [e, Lx_gap (codes g) _ i h1, Lx_word gw hx sw]
    obtain ⟨a, b⟩ := ih (i + (codes g).length + (codes w).length)
    refine ⟨a, ?_⟩
    rw [List.map_cons, List.map_cons, b]
    rfl
theorem lex_text {z g0 tl : Str} {ps : List (Str × Str)} (h0 : allBlank g0 = true) (h1 : allBlank tl = true) (e : codes z = codes g0 ++ (flatP ps ++ codes tl)) (hs : SpE "(" ps) (hg : ∀ p ∈ ps, goodTok p.2 = true ∧ startsWell p.2 = true) :
    (Lx (codes z) 0).2 = none ∧ (Lx (codes z) 0).1.map (fun t => (t.1, txtT t)) = ps.map fun p => (kindOf p.2, p.2) := by
  rw [e, Lx_gap (codes g0) _ 0 h0]
  exact lex_gen ps "(" (codes tl) _ hs hg h1
end Bc

namespace Bc
open PySem PySem.Spec PyProof.Rows L2
inductive GoesP : List Str → List (Str × Str) → List Str → Prop
  | nil (A : List Str) : GoesP A [] A
  | cons {B : List Str} {z : Str} {t : Str × Str} {l0 : List Str} {ts : List (Str × Str)} {A : List Str} : z ∈ tops → B.length ≤ 10 → firstOf z t.1 t.2 = some l0 → GoesP (B ++ l0.tail.reverse) ts A → GoesP (B ++ [z]) (t :: ts) A
theorem goes_of {toks : List Tok} : ∀ {A A' : List Str} {l : List (Str × Str)}, GoesP A l A' → toks.map (fun t => (t.1, txtT t)) = l → Goes A toks A' := by
  induction toks with
  | nil =>
    intro A A' l h e
    subst e
    cases h
    exact .nil _
  | cons t ts ih =>
    intro A A' l h e
    subst e
    cases h with
    | cons h1 h2 h3 h4 => exact .cons h1 h2 h3 (ih h4 rfl)
theorem GoesP.app {A B C : List Str} {l1 l2 : List (Str × Str)} (h : GoesP A l1 B) (g : GoesP B l2 C) : GoesP A (l1 ++ l2) C := by
  induction h with
  | nil => exact g
  | cons h1 h2 h3 _ ih => exact .cons h1 h2 h3 (ih g)
theorem GoesP.one {B : List Str} {z s x : Str} {l0 : List Str} (h1 : z ∈ tops) (h2 : B.length ≤ 10) (h3 : firstOf z s x = some l0) : GoesP (B ++ [z]) [(s, x)] (B ++ l0.tail.reverse) := .cons h1 h2 h3 (.nil _)
theorem first_place (x : Str) : firstOf "PLACE" "word" x = some (["NAME", "NUMBER"] : List Str) := by
  unfold firstOf
  rw [show rulesOf "PLACE" = ([["NAME", "NUMBER"]] : List (List Str)) by decide +kernel, List.find?_cons]
  have e : toldB ((["NAME", "NUMBER"] : List Str).headD "") "word" x = true := by
    unfold toldB
    rw [if_pos (by rfl)]
    rfl
  rw [e]
theorem first_number (x : Str) : firstOf "NUMBER" "number" x = some (["NUMBER"] : List Str) := by
  unfold firstOf
  rw [show rulesOf "NUMBER" = ([["NUMBER"]] : List (List Str)) by decide +kernel, List.find?_cons]
  have e : toldB ((["NUMBER"] : List Str).headD "") "number" x = true := by
    unfold toldB
    rw [if_neg (by decide +kernel), if_pos (by rfl)]
    rfl
  rw [e]
theorem goes_place {B : List Str} (h : B.length ≤ 10) (n k : Str) : GoesP (B ++ [("PLACE" : Str)]) [("word", n), ("number", k)] B := by
  have a := GoesP.one (B := B) (z := "PLACE") (s := "word") (x := n) (by decide +kernel) h (first_place n)
  have b := GoesP.one (B := B) (z := "NUMBER") (s := "number") (x := k) (by decide +kernel) h (first_number k)
  have c := a.app b
  rw [show (["NUMBER"] : List Str).tail.reverse = [] from rfl, List.append_nil] at c
  exact c
def pr (w : Str) : Str × Str := (kindOf w, w)
def lawful (d : Deed) : Prop := ((d.1 = "hang" ∧ d.2.length = 2) ∨ (d.1 = "stretch" ∧ d.2.length = 4)) ∧ ∀ p ∈ d.2, kindOf p.1 = "word" ∧ kindOf (numT p.2) = "number"
theorem goes_deed {d : Deed} (h : lawful d) : GoesP ["DEEDS"] ((rowOf d ++ [(";" : Str)]).map pr) ["DEEDS"] := by
  obtain ⟨h1, h2⟩ := h
  have semi : GoesP ((["DEEDS"] : List Str) ++ [(";" : Str)]) [pr ";"] ["DEEDS"] := by
    have q := GoesP.one (B := ["DEEDS"]) (z := ";") (s := (pr ";").1) (x := (pr ";").2) (l0 := [";"]) (by decide +kernel) (by decide) (by decide +kernel)
    exact q
  obtain ⟨wd, ps⟩ := d
  have pl : ∀ {B : List Str} (p : Str × Nat), B.length ≤ 10 → kindOf p.1 = "word" → kindOf (numT p.2) = "number" → GoesP (B ++ [("PLACE" : Str)]) [pr p.1, pr (numT p.2)] B := fun {B} p hb a b => by
    unfold pr
    rw [a, b]
    exact goes_place hb _ _
  rcases h1 with ⟨a, b⟩ | ⟨a, b⟩
  · dsimp only at a b h2
    subst a
    obtain ⟨p, q, rfl⟩ : ∃ p q, ps = [p, q] := by
      match ps, b with
      | [p, q], _ => exact ⟨p, q, rfl⟩
    have e0 := GoesP.one (B := []) (z := "DEEDS") (s := (pr "hang").1) (x := (pr "hang").2) (l0 := ["hang", "PLACE", "PLACE", ";", "DEEDS"]) (by decide +kernel) (by decide) (by decide +kernel)
    have e1 := pl (B := ["DEEDS", ";", "PLACE"]) p (by decide) (h2 p (by simp)).1 (h2 p (by simp)).2
    have e2 := pl (B := ["DEEDS", ";"]) q (by decide) (h2 q (by simp)).1 (h2 q (by simp)).2
    exact e0.app (e1.app (e2.app semi))
  · dsimp only at a b h2
    subst a
    obtain ⟨p, q, r, s, rfl⟩ : ∃ p q r s, ps = [p, q, r, s] := by
      match ps, b with
      | [p, q, r, s], _ => exact ⟨p, q, r, s, rfl⟩
    have e0 := GoesP.one (B := []) (z := "DEEDS") (s := (pr "stretch").1) (x := (pr "stretch").2) (l0 := ["stretch", "PLACE", "PLACE", "PLACE", "PLACE", ";", "DEEDS"]) (by decide +kernel) (by decide) (by decide +kernel)
    have e1 := pl (B := ["DEEDS", ";", "PLACE", "PLACE", "PLACE"]) p (by decide) (h2 p (by simp)).1 (h2 p (by simp)).2
    have e2 := pl (B := ["DEEDS", ";", "PLACE", "PLACE"]) q (by decide) (h2 q (by simp)).1 (h2 q (by simp)).2
    have e3 := pl (B := ["DEEDS", ";", "PLACE"]) r (by decide) (h2 r (by simp)).1 (h2 r (by simp)).2
    have e4 := pl (B := ["DEEDS", ";"]) s (by decide) (h2 s (by simp)).1 (h2 s (by simp)).2
    exact e0.app (e1.app (e2.app (e3.app (e4.app semi))))
theorem goes_body : ∀ (ds : List Deed), (∀ d ∈ ds, lawful d) → GoesP ["DEEDS"] ((bodyOf (ds.map rowOf)).map pr) ["DEEDS"]
  | [], _ => .nil _
  | d :: ds, h => by
    have a := goes_deed (h d (List.mem_cons_self ..))
    have b := goes_body ds fun e he => h e (List.mem_cons_of_mem _ he)
    have c := a.app b
    rw [← List.map_append] at c
    exact c
theorem goes_script (ds : List Deed) (h : ∀ d ∈ ds, lawful d) : GoesP ["SCRIPT"] ((lexOf ds).map pr) [] := by
  have a := GoesP.one (B := []) (z := "SCRIPT") (s := (pr "script").1) (x := (pr "script").2) (l0 := ["script", "{", "DEEDS"]) (by decide +kernel) (by decide) (by decide +kernel)
  have b := GoesP.one (B := ["DEEDS"]) (z := "{") (s := (pr "{").1) (x := (pr "{").2) (l0 := ["{"]) (by decide +kernel) (by decide) (by decide +kernel)
  have c := GoesP.one (B := []) (z := "DEEDS") (s := (pr "}").1) (x := (pr "}").2) (l0 := ["}"]) (by decide +kernel) (by decide) (by decide +kernel)
  have q := a.app (b.app ((goes_body ds h).app c))
  unfold lexOf
  rw [List.map_cons, List.map_cons, List.map_append]
  exact q
end Bc

namespace Bc
open PySem PySem.Spec PyProof.Rows L2
def jc : Str → List Str → List Nat
  | _, [] => []
  | last, w :: ws => codes (gapOf last w) ++ (codes w ++ jc w ws)
def gp : Str → List Str → List (Str × Str)
  | _, [] => []
  | last, w :: ws => (gapOf last w, w) :: gp w ws
theorem gp_flat : ∀ (ws : List Str) (last : Str), flatP (gp last ws) = jc last ws
  | [], _ => rfl
  | w :: ws, last => by
    show codes (gapOf last w) ++ (codes w ++ flatP (gp w ws)) = _
    rw [gp_flat ws w]
    rfl
theorem gp_snd : ∀ (ws : List Str) (last : Str), (gp last ws).map (·.2) = ws
  | [], _ => rfl
  | w :: ws, last => by
    show w :: (gp w ws).map (·.2) = _
    rw [gp_snd ws w]
theorem fold_jc : ∀ (ws : List Str) (t last : Str), codes (ws.foldl jStep (t, last)).1 = codes t ++ jc last ws
  | [], t, last => by
    show codes t = codes t ++ []
    rw [List.append_nil]
  | w :: ws, t, last => by
    show codes (ws.foldl jStep (t ++ gapOf last w ++ w, w)).1 = _
    rw [fold_jc ws, codes_app, codes_app]
    show _ = codes t ++ (codes (gapOf last w) ++ (codes w ++ jc w ws))
    simp only [List.append_assoc]
theorem joined_codes (ws : List Str) : codes (joinedT ws) = jc "(" ws ++ [10] := by
  unfold joinedT
  rw [codes_app, fold_jc]
  rfl
theorem gap_blank (a b : Str) : allBlank (gapOf a b) = true := by
  unfold gapOf
  split
  · rfl
  · split
    · rfl
    · split
      · decide +kernel
      · decide +kernel
theorem ext_open (h : Option Nat) : ext "(" h = false := by
  cases h with
  | none => rfl
  | some c =>
    unfold ext
    dsimp only
    rw [show codes "(" = [40] by decide +kernel]
    dsimp only
    rw [show inS sLetters 40 = false by decide +kernel, show inS sDigits 40 = false by decide +kernel]
    rfl
theorem in_closes {w : Str} (h : inV (.str w) (closes.map V.str) = true) : w ∈ closes := by
  unfold inV at h
  obtain ⟨y, hy, e⟩ := List.any_eq_true.mp h
  obtain ⟨x, hx, rfl⟩ := List.mem_map.mp hy
  have e2 : decide (V.str x = V.str w) = true := by
    first | exact e | simpa [eqV] using e
  rw [dec_str] at e2
  rw [← of_decide_eq_true e2]
  exact hx
theorem ext_close (a : Str) {w : Str} (h : w ∈ closes) : ext a (codes w).head? = false := by
  have all := List.all_eq_true.mp (show (closes.all fun w => match (codes w).head? with | none => true | some c => !(alnum c) && !(inS sDigits c)) = true by decide +kernel) w h
  cases e : (codes w).head? with
  | none => rfl
  | some c =>
    rw [e] at all
    simp only [Bool.and_eq_true, Bool.not_eq_true'] at all
    unfold ext
    dsimp only
    cases codes a with
    | nil => rfl
    | cons b t =>
      dsimp only
      rw [all.1, all.2]
      simp
theorem gp_spE : ∀ (ws : List Str) (last : Str), SpE last (gp last ws)
  | [], _ => trivial
  | w :: ws, last => by
    refine ⟨gap_blank _ _, fun e => ?_, gp_spE ws w⟩
    by_cases h1 : last = "("
    · rw [h1]
      exact ext_open _
    · by_cases h2 : inV (.str w) (closes.map V.str) = true
      · exact ext_close last (in_closes h2)
      · unfold gapOf at e
        rw [if_neg h1, if_neg h2] at e
        split at e
        · exact absurd e (by decide +kernel)
        · exact absurd e (by decide +kernel)
/-! the written text is the joined one -/
def plainW (w : Str) : Bool := !(decide (w = "(")) && (!(inV (.str w) (closes.map V.str)) && !(inV (.str w) (opens3.map V.str)))
theorem gap_plain {a b : Str} (ha : plainW a = true) (hb : plainW b = true) : gapOf a b = " " := by
  unfold plainW at ha hb
  simp only [Bool.and_eq_true, Bool.not_eq_true', decide_eq_false_iff_not] at ha hb
  unfold gapOf
  rw [if_neg ha.1, if_neg (by rw [hb.2.1]; decide), if_neg (by rw [ha.2.2]; decide)]
theorem gap_semi (a : Str) : gapOf a ";" = "" := by
  unfold gapOf
  split
  · rfl
  · rw [if_pos (by decide +kernel)]
theorem join_codes (sep : Str) : ∀ (xs : List Str) (x : Str), codes (Str.join sep (x :: xs)) = codes x ++ xs.flatMap fun y => codes sep ++ codes y
  | [], x => by
    show codes x = codes x ++ []
    rw [List.append_nil]
  | y :: xs, x => by
    show codes (x ++ sep ++ Str.join sep (y :: xs)) = _
    rw [codes_app, codes_app, join_codes sep xs y]
    simp [List.append_assoc]
def plainD (d : Deed) : Prop := (d.1 = "hang" ∨ d.1 = "stretch") ∧ ∀ p ∈ d.2, plainW p.1 = true ∧ plainW (numT p.2) = true
theorem codes_place (p : Str × Nat) : codes (placeT p) = codes p.1 ++ (32 :: codes (numT p.2)) := by
  unfold placeT
  rw [codes_app, codes_app, codes_app]
  simp [show codes Str.empty = [] from rfl, show codes " " = [32] from rfl]
theorem codes_deed (d : Deed) : codes (deedT d) = codes d.1 ++ d.2.flatMap fun p => 32 :: (codes p.1 ++ (32 :: codes (numT p.2))) := by
  unfold deedT
  rw [show Txt.join " " (d.1 :: d.2.map placeT) = Str.join " " (d.1 :: d.2.map placeT) from StrLaws.glued_eq_join _ _, join_codes, List.flatMap_map]
  congr 1
  congr 1
  funext p
  rw [codes_place]
  rfl
theorem jc_places : ∀ (ps : List (Str × Nat)) (prev : Str) (rest : List Str), plainW prev = true → (∀ p ∈ ps, plainW p.1 = true ∧ plainW (numT p.2) = true) →
    jc prev (rowPs ps ++ ((";" : Str) :: rest)) = (ps.flatMap fun p => 32 :: (codes p.1 ++ (32 :: codes (numT p.2)))) ++ (59 :: jc ";" rest)
  | [], prev, rest, _, _ => by
    show codes (gapOf prev ";") ++ (codes ";" ++ jc ";" rest) = _
    rw [gap_semi]
    rfl
  | p :: ps, prev, rest, h, hp => by
    obtain ⟨h1, h2⟩ := hp p (List.mem_cons_self ..)
    show codes (gapOf prev p.1) ++ (codes p.1 ++ (codes (gapOf p.1 (numT p.2)) ++ (codes (numT p.2) ++ jc (numT p.2) (rowPs ps ++ ((";" : Str) :: rest))))) = _
    rw [gap_plain h h1, gap_plain h1 h2, jc_places ps (numT p.2) rest h2 fun q hq => hp q (List.mem_cons_of_mem _ hq)]
    simp [show codes " " = [32] from rfl, List.append_assoc]
theorem jc_deed {d : Deed} (h : plainD d) {last : Str} (hl : last = "{" ∨ last = ";") (rest : List Str) : jc last ((rowOf d ++ [(";" : Str)]) ++ rest) = 10 :: (codes (deedT d ++ ";") ++ jc ";" rest) := by
  obtain ⟨h1, h2⟩ := h
  have pw : plainW d.1 = true := by rcases h1 with e | e <;> rw [e] <;> decide +kernel
  have g : gapOf last d.1 = "\n" := by rcases h1 with e | e <;> rcases hl with e' | e' <;> rw [e, e'] <;> decide +kernel
  show codes (gapOf last d.1) ++ (codes d.1 ++ jc d.1 ((rowPs d.2 ++ [(";" : Str)]) ++ rest)) = _
  rw [List.append_assoc]
  show codes (gapOf last d.1) ++ (codes d.1 ++ jc d.1 (rowPs d.2 ++ ((";" : Str) :: rest))) = _
  rw [g, jc_places d.2 d.1 rest pw h2, codes_app, codes_deed]
  simp [show codes "\n" = [10] from rfl, show codes ";" = [59] from rfl, List.append_assoc]
theorem jc_body : ∀ (ds : List Deed) (last : Str), (∀ d ∈ ds, plainD d) → (last = "{" ∨ last = ";") → jc last (bodyOf (ds.map rowOf) ++ [("}" : Str)]) = (ds.flatMap fun d => 10 :: codes (deedT d ++ ";")) ++ (10 :: codes "}")
  | [], last, _, hl => by
    show codes (gapOf last "}") ++ (codes "}" ++ []) = _
    have g : gapOf last "}" = "\n" := by rcases hl with e | e <;> rw [e] <;> decide +kernel
    rw [g, List.append_nil]
    rfl
  | d :: ds, last, h, hl => by
    show jc last (((rowOf d ++ [(";" : Str)]) ++ bodyOf (ds.map rowOf)) ++ [("}" : Str)]) = _
    rw [List.append_assoc, jc_deed (h d (List.mem_cons_self ..)) hl, jc_body ds ";" (fun e he => h e (List.mem_cons_of_mem _ he)) (.inr rfl)]
    simp [List.append_assoc]
theorem str_eq {a b : Str} (h : codes a = codes b) : a = b := by
  obtain ⟨x⟩ := a
  obtain ⟨y⟩ := b
  have e : x = y := Array.toList_inj.mp h
  rw [e]
theorem script_joined (ds : List Deed) (h : ∀ d ∈ ds, plainD d) : scriptT ds = joinedT (lexOf ds) := by
  refine str_eq ?_
  rw [joined_codes]
  unfold scriptT rowsT lexOf
  rw [codes_app, show Txt.join "\n" (("script" ++ " {" : Str) :: ((ds.map deedT).map (· ++ (";" : Str)) ++ [("}" : Str)])) = Str.join "\n" (("script" ++ " {" : Str) :: ((ds.map deedT).map (· ++ (";" : Str)) ++ [("}" : Str)])) from StrLaws.glued_eq_join _ _, join_codes]
  show _ = codes (gapOf "(" "script") ++ (codes "script" ++ (codes (gapOf "script" "{") ++ (codes "{" ++ jc "{" (bodyOf (ds.map rowOf) ++ [("}" : Str)])))) ++ [10]
  rw [jc_body ds "{" h (.inl rfl), show gapOf "(" "script" = "" by decide +kernel, show gapOf "script" "{" = " " by decide +kernel, codes_app]
  simp [List.append_assoc, List.flatMap_map, show codes "\n" = [10] from rfl, show codes " {" = [32, 123] from rfl, show codes " " = [32] from rfl, show codes "{" = [123] from rfl, show codes "" = [] from rfl]
end Bc

namespace Bc
open PySem PySem.Spec PyProof.Rows L2
def wordB (x : Str) : Bool := !(decide (x = ";")) && (goodTok x && (startsWell x && (decide (x.length ≤ 40) && (decide (Txt.stripChars x "^" = x) && PyData.strOk x))))
def placeB (n : Str) (k : Nat) : Bool := decide (kindOf n = "word") && (decide (kindOf (numT k) = "number") && (plainW n && (plainW (numT k) && (wordB n && (wordB (numT k) && (decide (n.length ≤ 20) && (decide (intText? (numT k) = some (k : Int)) && decide (((k : Nat) : Int).natAbs.log2 < 1920))))))))
structure DeedOk (d : Deed) : Prop where
  form : (d.1 = "hang" ∧ d.2.length = 2) ∨ (d.1 = "stretch" ∧ d.2.length = 4)
  place : ∀ p ∈ d.2, placeB p.1 p.2 = true
structure PlaceOk (n : Str) (k : Nat) : Prop where
  kn : kindOf n = "word"
  kk : kindOf (numT k) = "number"
  pn : plainW n = true
  pk : plainW (numT k) = true
  wn : wordB n = true
  wk : wordB (numT k) = true
  ln : n.length ≤ 20
  it : intText? (numT k) = some (k : Int)
  lg : ((k : Nat) : Int).natAbs.log2 < 1920
theorem placeOk {n : Str} {k : Nat} (h : placeB n k = true) : PlaceOk n k := by
  unfold placeB at h
  simp only [Bool.and_eq_true, decide_eq_true_eq] at h
  obtain ⟨a, b, c, d, e, f, g, i, j⟩ := h
  exact ⟨a, b, c, d, e, f, g, i, j⟩
structure WordOk (x : Str) : Prop where
  ne : x ≠ ";"
  gd : goodTok x = true
  st : startsWell x = true
  ln : x.length ≤ 40
  sp : Txt.stripChars x "^" = x
  lay : PyData.strOk x = true
theorem wordOk {x : Str} (h : wordB x = true) : WordOk x := by
  unfold wordB at h
  simp only [Bool.and_eq_true, decide_eq_true_eq, Bool.not_eq_true', decide_eq_false_iff_not] at h
  obtain ⟨a, b, c, d, e, f⟩ := h
  exact ⟨a, b, c, d, e, f⟩
theorem head_word {d : Deed} (h : DeedOk d) : wordB d.1 = true := by
  rcases h.form with ⟨e, _⟩ | ⟨e, _⟩ <;> rw [e] <;> decide +kernel
theorem len4 {d : Deed} (h : DeedOk d) : d.2.length ≤ 4 ∧ 2 ≤ d.2.length := by
  rcases h.form with ⟨_, e⟩ | ⟨_, e⟩ <;> omega
theorem DeedOk.lawful {d : Deed} (h : DeedOk d) : Bc.lawful d := ⟨h.form, fun p hp => ⟨(placeOk (h.place p hp)).kn, (placeOk (h.place p hp)).kk⟩⟩
theorem DeedOk.plain {d : Deed} (h : DeedOk d) : plainD d := ⟨h.form.elim (fun a => .inl a.1) (fun a => .inr a.1), fun p hp => ⟨(placeOk (h.place p hp)).pn, (placeOk (h.place p hp)).pk⟩⟩
theorem DeedOk.short {d : Deed} (h : DeedOk d) : shortDeed d := by
  refine ⟨?_, (len4 h).1, fun p hp => ⟨(placeOk (h.place p hp)).ln, Nat.le_trans (wordOk (placeOk (h.place p hp)).wk).ln (by decide), (placeOk (h.place p hp)).lg⟩⟩
  rcases h.form with ⟨e, _⟩ | ⟨e, _⟩ <;> rw [e] <;> decide +kernel
theorem DeedOk.ok {d : Deed} (h : DeedOk d) : okDeed d := ⟨h.form.elim (fun a => .inl a.2) (fun a => .inr a.2), fun p hp => ⟨(placeOk (h.place p hp)).it, Nat.le_trans (wordOk (placeOk (h.place p hp)).wk).ln (by decide)⟩⟩
theorem rowPs_words : ∀ (ps : List (Str × Nat)), (∀ p ∈ ps, placeB p.1 p.2 = true) → ∀ x ∈ rowPs ps, wordB x = true
  | [], _, x, hx => by cases hx
  | p :: ps, h, x, hx => by
    have q := placeOk (h p (List.mem_cons_self ..))
    rcases List.mem_cons.mp hx with e | hx
    · rw [e]
      exact q.wn
    · rcases List.mem_cons.mp hx with e | hx
      · rw [e]
        exact q.wk
      · exact rowPs_words ps (fun p hp => h p (List.mem_cons_of_mem _ hp)) x hx
theorem DeedOk.words {d : Deed} (h : DeedOk d) : ∀ x ∈ rowOf d, wordB x = true := fun x hx => by
  rcases List.mem_cons.mp hx with e | hx
  · rw [e]
    exact head_word h
  · exact rowPs_words d.2 h.place x hx
/-- every lexeme of a script is a good one -/
theorem lex_words {ds : List Deed} (h : ∀ d ∈ ds, DeedOk d) : ∀ x ∈ lexOf ds, goodTok x = true ∧ startsWell x = true ∧ x.length ≤ 40 ∧ Txt.stripChars x "^" = x := fun x hx => by
  have fix : ∀ y ∈ (["script", "{", "}", ";"] : List Str), goodTok y = true ∧ startsWell y = true ∧ y.length ≤ 40 ∧ Txt.stripChars y "^" = y := fun y hy => by
    have q := List.all_eq_true.mp (show (["script", "{", "}", ";"] : List Str).all (fun y => goodTok y && (startsWell y && (decide (y.length ≤ 40) && decide (Txt.stripChars y "^" = y)))) = true by decide +kernel) y hy
    simpa using q
  rcases List.mem_cons.mp hx with e | hx
  · exact fix x (by rw [e]; simp)
  rcases List.mem_cons.mp hx with e | hx
  · exact fix x (by rw [e]; simp)
  rcases List.mem_append.mp hx with hx | hx
  · unfold bodyOf at hx
    obtain ⟨r, hr, hx⟩ := List.mem_flatMap.mp hx
    obtain ⟨d, hd, rfl⟩ := List.mem_map.mp hr
    rcases List.mem_append.mp hx with hx | hx
    · have q := wordOk ((h d hd).words x hx)
      exact ⟨q.gd, q.st, q.ln, q.sp⟩
    · exact fix x (by rw [List.mem_singleton.mp hx]; simp)
  · exact fix x (by rw [List.mem_singleton.mp hx]; simp)
theorem lex_len {ds : List Deed} (h : ∀ d ∈ ds, DeedOk d) : (lexOf ds).length ≤ 10 * ds.length + 3 := by
  have q := body_len ds fun d hd => (h d hd).short
  show ((bodyOf (ds.map rowOf)) ++ [("}" : Str)]).length + 1 + 1 ≤ _
  rw [List.length_append]
  show (bodyOf (ds.map rowOf)).length + 1 + 1 + 1 ≤ _
  omega
theorem lexOk_of {z g0 tl : Str} {ps : List (Str × Str)} {ds : List Deed} (h : ∀ d ∈ ds, DeedOk d) (hm : ds.length ≤ 400) (hz : z.length ≤ 20000) (h0 : allBlank g0 = true) (h1 : allBlank tl = true) (e : codes z = codes g0 ++ (flatP ps ++ codes tl)) (hs : SpE "(" ps) (hp : ps.map (·.2) = lexOf ds) : LexOk z (lexOf ds) := by
  have good : ∀ p ∈ ps, goodTok p.2 = true ∧ startsWell p.2 = true := fun p hp' => by
    have m : p.2 ∈ lexOf ds := by
      rw [← hp]
      exact List.mem_map.mpr ⟨p, hp', rfl⟩
    exact ⟨(lex_words h p.2 m).1, (lex_words h p.2 m).2.1⟩
  obtain ⟨a, b⟩ := lex_text h0 h1 e hs good
  have b2 : (Lx (codes z) 0).1.map (fun t => (t.1, txtT t)) = (lexOf ds).map pr := by
    rw [b, ← hp, List.map_map]
    rfl
  have b3 : (Lx (codes z) 0).1.map txtT = lexOf ds := by
    have q := congrArg (List.map Prod.snd) b2
    rw [List.map_map, List.map_map] at q
    have q2 : (lexOf ds).map (Prod.snd ∘ pr) = lexOf ds := by
      show (lexOf ds).map (fun w => w) = _
      exact List.map_id' _
    rw [q2] at q
    exact q
  have ll := lex_len h
  have nl : (Lx (codes z) 0).1.length = (lexOf ds).length := by rw [← b3, List.length_map]
  exact ⟨hz, a, goes_of (goes_script ds fun d hd => (h d hd).lawful) b2, by omega, b3⟩
theorem joined_len : ∀ (ws : List Str) (last : Str), (∀ x ∈ ws, x.length ≤ 40) → (jc last ws).length ≤ 41 * ws.length
  | [], _, _ => Nat.le_refl _
  | w :: ws, last, h => by
    have q := joined_len ws w fun x hx => h x (List.mem_cons_of_mem _ hx)
    have g := gapOf_len last w
    have hw := h w (List.mem_cons_self ..)
    have c1 : (codes (gapOf last w)).length = (gapOf last w).length := Array.length_toList
    have c2 : (codes w).length = w.length := Array.length_toList
    show (codes (gapOf last w) ++ (codes w ++ jc w ws)).length ≤ _
    rw [List.length_append, List.length_append, List.length_cons, c1, c2]
    omega
theorem lexOk_joined {ds : List Deed} (h : ∀ d ∈ ds, DeedOk d) (hm : ds.length ≤ 400) (hz : (joinedT (lexOf ds)).length ≤ 20000) : LexOk (joinedT (lexOf ds)) (lexOf ds) :=
  lexOk_of (g0 := "") (tl := "\n") (ps := gp "(" (lexOf ds)) h hm hz (by decide +kernel) (by decide +kernel) (by rw [joined_codes, gp_flat]; rfl) (gp_spE _ _) (gp_snd _ _)
theorem joined_short {ds : List Deed} (h : ∀ d ∈ ds, DeedOk d) : (joinedT (lexOf ds)).length ≤ 41 * (10 * ds.length + 3) + 1 := by
  have e : (codes (joinedT (lexOf ds))).length = (joinedT (lexOf ds)).length := Array.length_toList
  rw [← e, joined_codes, List.length_append]
  have q := joined_len (lexOf ds) "(" fun x hx => (lex_words h x hx).2.2.1
  have ll := lex_len h
  have m : 41 * (lexOf ds).length ≤ 41 * (10 * ds.length + 3) := Nat.mul_le_mul_left _ ll
  show _ + 1 ≤ _
  omega
/-! the drawn ones -/
theorem drawn_place : (namesM.all fun n => numsM.all fun k => placeB n k) = true := by decide +kernel
theorem drawn_ok {d : Deed} (h : drawn d) : DeedOk d := ⟨h.1, fun p hp => List.all_eq_true.mp (List.all_eq_true.mp drawn_place p.1 (h.2 p hp).1) p.2 (h.2 p hp).2⟩
abbrev menuD : List Str := ((["(", "script", "{", "hang", "stretch", ";", "}"] : List Str) ++ namesM) ++ numsM.map numT
theorem menuD_touch : (menuD.all fun w => menuD.all fun v => !(mayTouch w v) || !(ext w (codes v).head?)) = true := by decide +kernel
theorem spaced_spE : ∀ (ps : List (Str × Str)) (last : Str), Spaced last ps → last ∈ menuD → (∀ p ∈ ps, p.2 ∈ menuD) → SpE last ps
  | [], _, _, _, _ => trivial
  | (g, w) :: r, last, ⟨h1, h2, h3⟩, hl, hm => by
    have hw := hm (g, w) (List.mem_cons_self ..)
    refine ⟨h1, fun e => ?_, spaced_spE r w h3 hw fun p hp => hm p (List.mem_cons_of_mem _ hp)⟩
    have q := List.all_eq_true.mp (List.all_eq_true.mp menuD_touch last hl) w hw
    rw [h2 e] at q
    simpa using q
theorem drawn_menu {ds : List Deed} (h : ∀ d ∈ ds, drawn d) : ∀ x ∈ lexOf ds, x ∈ menuD := fun x hx => by
  have rowm : ∀ (ps : List (Str × Nat)), (∀ p ∈ ps, p.1 ∈ namesM ∧ p.2 ∈ numsM) → ∀ x ∈ rowPs ps, x ∈ menuD := fun ps => by
    induction ps with
    | nil =>
      intro _ x hx
      cases hx
    | cons p ps ih =>
      intro hp x hx
      obtain ⟨a, b⟩ := hp p (List.mem_cons_self ..)
      rcases List.mem_cons.mp hx with e | hx
      · rw [e]
        exact List.mem_append_left _ (List.mem_append_right _ a)
      · rcases List.mem_cons.mp hx with e | hx
        · rw [e]
          exact List.mem_append_right _ (List.mem_map.mpr ⟨_, b, rfl⟩)
        · exact ih (fun q hq => hp q (List.mem_cons_of_mem _ hq)) x hx
  have fix : ∀ y ∈ (["script", "{", "hang", "stretch", ";", "}"] : List Str), y ∈ menuD := fun y hy => List.mem_append_left _ (List.mem_append_left _ (List.mem_cons_of_mem _ hy))
  rcases List.mem_cons.mp hx with e | hx
  · exact fix x (by rw [e]; simp)
  rcases List.mem_cons.mp hx with e | hx
  · exact fix x (by rw [e]; simp)
  rcases List.mem_append.mp hx with hx | hx
  · unfold bodyOf at hx
    obtain ⟨r, hr, hx⟩ := List.mem_flatMap.mp hx
    obtain ⟨d, hd, rfl⟩ := List.mem_map.mp hr
    rcases List.mem_append.mp hx with hx | hx
    · rcases List.mem_cons.mp hx with e | hx
      · rcases (h d hd).1 with ⟨e', _⟩ | ⟨e', _⟩ <;> exact fix x (by rw [e, e']; simp)
      · exact rowm d.2 (h d hd).2 x hx
    · exact fix x (by rw [List.mem_singleton.mp hx]; simp)
  · exact fix x (by rw [List.mem_singleton.mp hx]; simp)
end Bc

namespace Bc
open PySem PySem.Spec PyProof.Rows L2
/-! repr of data without dicts -/
def rReprP (K : PySem.W.Frag) : List V → Hp → VK → Prop := fun xs H Q => ∃ (a : Addr) (d : PyData), xs = [.ref a] ∧ Dp K H (.ref a) d ∧ d.hasDict = false ∧ d.showable = true ∧ d.depth ≤ 60 ∧ d.shown.length ≤ sizeLine ∧ Q (.str d.shown) H
theorem call_reprP {X : Cx} (hg : X.A.guards = some []) (hu : X.A.units + 64 < cLine) : CallR X (.builtin "repr") (rReprP X.K) := by
  intro pins s σ H xs us Q I r h
  obtain ⟨a, d, rfl, hd, hno, hs, hdep, hz, q⟩ := h
  obtain ⟨u, rfl, ru⟩ := vals1 r
  obtain ⟨as, hr⟩ := Dp.reads I d (.ref a) u hd ru
  cases (show u = Value.ref a from ru)
  exact repr_of_reads' hr hs (fun h => by rw [hno] at h; cases h) hg (by omega) (fun _ _ e => e) (fun h' u tk hk => ⟨.str d.shown, H, I.kept (t' := tk) hk, ⟨_, rfl⟩, q⟩) hz
theorem deeds_canLay : ∀ (ds : List Deed), (∀ d ∈ ds, DeedOk d) → PyData.canLayAll0 (ds.map dDeed) = true
  | [], _ => rfl
  | d :: ds, h => by
    have hd := h d (List.mem_cons_self ..)
    have pl : ∀ (ps : List (Str × Nat)), (∀ p ∈ ps, placeB p.1 p.2 = true) → PyData.canLayAll0 (ps.map dPlace) = true := fun ps => by
      induction ps with
      | nil => intro _; rfl
      | cons p ps ih =>
        intro hp
        have q := (wordOk (placeOk (hp p (List.mem_cons_self ..))).wn).lay
        rw [List.map_cons, PyData.canLayAll0, ih fun x hx => hp x (List.mem_cons_of_mem _ hx), Bool.and_true]
        unfold dPlace
        simp only [PyData.canLay0, PyData.canLayAll0, q, Bool.and_self]
    rw [List.map_cons, PyData.canLayAll0, deeds_canLay ds fun x hx => h x (List.mem_cons_of_mem _ hx), Bool.and_true]
    unfold dDeed
    rw [PyData.canLay0, PyData.canLayAll0, pl d.2 hd.place, Bool.and_true, PyData.canLay0]
    exact (wordOk (head_word hd)).lay
theorem places_depth : ∀ (ps : List (Str × Nat)), PyData.depthAll (ps.map dPlace) ≤ 1
  | [] => by simp [PyData.depthAll]
  | p :: ps => by
    have q := places_depth ps
    have e : PyData.depth (dPlace p) = 1 := by simp [dPlace, PyData.depth, PyData.depthAll]
    simp only [List.map_cons, PyData.depthAll, e]
    omega
theorem deeds_depth : ∀ (ds : List Deed), PyData.depthAll (ds.map dDeed) ≤ 2
  | [] => by simp [PyData.depthAll]
  | d :: ds => by
    have q := deeds_depth ds
    have p := places_depth d.2
    have e : PyData.depth (dDeed d) ≤ 2 := by
      simp only [dDeed, PyData.depth, PyData.depthAll]
      omega
    simp only [List.map_cons, PyData.depthAll]
    omega
theorem deeds_shaped {ds : List Deed} (h : ∀ d ∈ ds, DeedOk d) : SeqAt.shaped (.list (ds.map dDeed)) = true := by
  unfold SeqAt.shaped
  have a := deeds_canLay ds h
  have b := deeds_depth ds
  rw [PyData.canLay0, a, Bool.true_and]
  refine decide_eq_true ?_
  rw [PyData.depth]
  omega
theorem deeds_nodict : ∀ (ds : List Deed), PyData.hasDictAll (ds.map dDeed) = false
  | [] => rfl
  | d :: ds => by
    have pl : ∀ (ps : List (Str × Nat)), PyData.hasDictAll (ps.map dPlace) = false := fun ps => by
      induction ps with
      | nil => rfl
      | cons p ps ih =>
        rw [List.map_cons, PyData.hasDictAll, ih]
        simp [dPlace, PyData.hasDict, PyData.hasDictAll]
    rw [List.map_cons, PyData.hasDictAll, deeds_nodict ds]
    simp [dDeed, PyData.hasDict, PyData.hasDictAll, pl d.2]
theorem deeds_show : ∀ (ds : List Deed), (∀ d ∈ ds, DeedOk d) → PyData.showableAll (ds.map dDeed) = true
  | [], _ => rfl
  | d :: ds, h => by
    have pl : ∀ (ps : List (Str × Nat)), (∀ p ∈ ps, placeB p.1 p.2 = true) → PyData.showableAll (ps.map dPlace) = true := fun ps => by
      induction ps with
      | nil => intro _; rfl
      | cons p ps ih =>
        intro hp
        have q := (placeOk (hp p (List.mem_cons_self ..))).lg
        rw [List.map_cons, PyData.showableAll, ih fun x hx => hp x (List.mem_cons_of_mem _ hx), Bool.and_true]
        unfold dPlace
        simp only [PyData.showable, PyData.showableAll, decide_eq_true q, Bool.and_self]
    rw [List.map_cons, PyData.showableAll, deeds_show ds fun x hx => h x (List.mem_cons_of_mem _ hx), Bool.and_true]
    unfold dDeed
    rw [PyData.showable, PyData.showableAll, pl d.2 (h d (List.mem_cons_self ..)).place, Bool.and_true, PyData.showable]
theorem textFrom_le {b : Nat} : ∀ (ts : List Str) (k : Nat) (acc : Str), (∀ t ∈ ts, t.length ≤ b) → (textFrom k acc ts).length ≤ acc.length + ts.length * (b + 2)
  | [], k, acc, _ => by
    show acc.length ≤ _
    omega
  | t :: r, k, acc, h => by
    have ht := h t (List.mem_cons_self ..)
    rw [List.length_cons, Nat.succ_mul]
    have c2 : (", " : Str).length = 2 := by decide +kernel
    unfold textFrom
    refine Nat.le_trans (textFrom_le r _ _ fun x hx => h x (List.mem_cons_of_mem _ hx)) ?_
    have c0 : ("" : Str).length = 0 := by decide +kernel
    split <;> simp only [len_app, c2, c0] <;> omega
theorem shownAll_le {b : Nat} : ∀ (ds : List PyData), (∀ d ∈ ds, d.shown.length ≤ b) → ∀ t ∈ PyData.shownAll ds, t.length ≤ b
  | [], _, t, h => by
    simp only [PyData.shownAll] at h
    cases h
  | d :: ds, k, t, h => by
    rw [PyData.shownAll] at h
    rcases List.mem_cons.mp h with e | h
    · rw [e]
      exact k d (List.mem_cons_self ..)
    · exact shownAll_le ds (fun x hx => k x (List.mem_cons_of_mem _ hx)) t h
theorem shownAll_len : ∀ (ds : List PyData), (PyData.shownAll ds).length = ds.length
  | [] => rfl
  | d :: ds => by
    rw [PyData.shownAll, List.length_cons, List.length_cons, shownAll_len ds]
theorem shown_list_le {b : Nat} {ds : List PyData} (h : ∀ d ∈ ds, d.shown.length ≤ b) : (PyData.shown (.list ds)).length ≤ 2 + ds.length * (b + 2) := by
  rw [PyData.shown]
  unfold listText
  have q := textFrom_le (PyData.shownAll ds) 0 "[" (shownAll_le ds h)
  rw [shownAll_len] at q
  rw [len_app, show ("]" : Str).length = 1 by decide +kernel]
  rw [show ("[" : Str).length = 1 by decide +kernel] at q
  omega
theorem shown_tuple_le {b : Nat} {ds : List PyData} (h : ∀ d ∈ ds, d.shown.length ≤ b) : (PyData.shown (.tuple ds)).length ≤ 3 + ds.length * (b + 2) := by
  rw [PyData.shown]
  unfold tupleText
  have q := StrLaws.join_length_le ", " (PyData.shownAll ds)
  have q2 := sum_le (xs := (PyData.shownAll ds).map (·.length)) (b := b) fun n hn => by
    obtain ⟨x, hx, rfl⟩ := List.mem_map.mp hn
    exact shownAll_le ds h x hx
  rw [List.length_map, shownAll_len] at q2
  rw [shownAll_len, show (", " : Str).length = 2 by decide +kernel] at q
  rw [len_app, len_app, show ("(" : Str).length = 1 by decide +kernel]
  have e : ((if (PyData.shownAll ds).length == 1 then ",)" else ")" : String) : Str).length ≤ 2 := by split <;> decide +kernel
  rw [Nat.mul_add]
  omega
theorem drawn_shown : (namesM.all fun n => numsM.all fun k => decide ((dPlace (n, k)).shown.length ≤ 100)) = true := by decide +kernel
theorem shown_drawn {d : Deed} (h : drawn d) : (dDeed d).shown.length ≤ 600 := by
  have l4 : d.2.length ≤ 4 := by rcases h.1 with ⟨_, e⟩ | ⟨_, e⟩ <;> omega
  have q := shown_tuple_le (b := 100) (ds := .str d.1 :: d.2.map dPlace) fun x hx => by
    rcases List.mem_cons.mp hx with e | hx
    · rw [e]
      rcases h.1 with ⟨e', _⟩ | ⟨e', _⟩ <;> rw [e'] <;> decide +kernel
    · obtain ⟨p, hp, rfl⟩ := List.mem_map.mp hx
      have q := List.all_eq_true.mp (List.all_eq_true.mp drawn_shown p.1 (h.2 p hp).1) p.2 (h.2 p hp).2
      exact of_decide_eq_true q
  rw [List.length_cons, List.length_map] at q
  unfold dDeed
  omega
theorem shown_deeds {ds : List Deed} (h : ∀ d ∈ ds, drawn d) (hm : ds.length ≤ 10) : (PyData.shown (.list (ds.map dDeed))).length ≤ sizeLine := by
  have q := shown_list_le (b := 600) (ds := ds.map dDeed) fun x hx => by
    obtain ⟨d, hd, rfl⟩ := List.mem_map.mp hx
    exact shown_drawn (h d hd)
  rw [List.length_map] at q
  refine Nat.le_trans (show _ ≤ 10000 by omega) (by decide)
end Bc

namespace Bc
open PySem PySem.Spec PyProof.Rows L2
abbrev sLong : Stmt := topS 37
abbrev nLong : List Str := ["_law_far", "_law_deeds", "_law_text", "_law_k"]
theorem scLong : FnScope nLong [] (defScope sLong) := ⟨rfl, rfl, rfl, by decide +kernel, rfl, by decide +kernel, by decide +kernel⟩
def farN : Nat := 10 ^ 39 + 7
def longD (k : Nat) : Deed := ("hang", [("root", k), ("a" ++ numT k, farN)])
def longDs : List Deed := (List.range 120).map longD
theorem long_place : ((List.range 120).all fun k => placeB "root" k && (placeB ("a" ++ numT k) farN && decide ((numT k).length ≤ 10))) = true := by decide +kernel
theorem long_ok : ∀ d ∈ longDs, DeedOk d := fun d hd => by
  obtain ⟨k, hk, rfl⟩ := List.mem_map.mp hd
  have q := List.all_eq_true.mp long_place k hk
  simp only [Bool.and_eq_true] at q
  refine ⟨.inl ⟨rfl, rfl⟩, fun p hp => ?_⟩
  rcases List.mem_cons.mp hp with e | hp
  · rw [e]
    exact q.1
  · rw [List.mem_singleton.mp hp]
    exact q.2.1
theorem long_jc : decide ((jc "(" (lexOf longDs)).length ≤ 19000) = true := by decide +kernel
theorem long_short : (joinedT (lexOf longDs)).length ≤ 20000 := by
  have e : (codes (joinedT (lexOf longDs))).length = (joinedT (lexOf longDs)).length := Array.length_toList
  have q := of_decide_eq_true long_jc
  rw [← e, joined_codes, List.length_append]
  show _ + 1 ≤ _
  omega
theorem long_len : longDs.length = 120 := by decide +kernel
def spYes : Sp := fun vs H Q _ => vs = [] ∧ ∀ H', Same H H' → Q (.bl true) H'
theorem Dq.int' {K : PySem.W.Frag} {H : Hp} {z z' : Int} (e : z = z') : Dq K H (.int z) (.int z') := e ▸ .int z
end Bc

namespace Bc
open PySem PySem.Spec PyProof.Rows L2
section
variable {P : Program} {w : World} {K : PySem.W.Frag} {mg : Str → Option Value} {base : Heap}
theorem ok_longR {f fS fJ fL fR : Addr} {fd fdS fdJ fdL fdR : FuncData} (F : Fun K "_law_long_right" "_law_long_right" sLong f fd) (N : Nm mg) (mR : mg "repr" = none)
    (GS : FnOk P w K mg base CX0 2 fS fdS ["script"] (spScrT K)) (bS : Binds K fdS ["script"] []) (gS : mg "script_text" = some (.ref fS)) (kS : PySem.W.keepIn K (.ref fS) = true)
    (GJ : FnOk P w K mg base CX0 1 fJ fdJ ["_law_signs"] (spJoined K)) (bJ : Binds K fdJ ["_law_signs"] []) (gJ : mg "_law_joined" = some (.ref fJ)) (kJ : PySem.W.keepIn K (.ref fJ) = true)
    (GL : FnOk P w K mg base CX0 1 fL fdL ["_law_script"] (spSLex K)) (bL : Binds K fdL ["_law_script"] []) (gL : mg "_law_script_lexemes" = some (.ref fL)) (kL : PySem.W.keepIn K (.ref fL) = true)
    (GR : FnOk P w K mg base CX0 6 fR fdR ["text"] (spRead K)) (bR : Binds K fdR ["text"] []) (gR : mg "read_script" = some (.ref fR)) (kR : PySem.W.keepIn K (.ref fR) = true) : FnOk P w K mg base CX0 7 f fd [] spYes := by
  refine F.ok scLong (fun vs H Q E h => ?_) (fun cdv A outer s H vs Q E hr h => ?_)
  · obtain ⟨rfl, _⟩ := h
    rfl
  · obtain ⟨rfl, k⟩ := h
    have hu := hr.units
    have hr1 : Room 1 _ := hr.mono (by decide)
    have hr2 : Room 2 _ := hr.mono (by decide)
    have two : ∀ {a b : V}, [a, b].length ≤ sizeLine := fun {_ _} => (by show 2 ≤ sizeLine; decide)
    refine ⟨_, pss_cons (ps_set (i := 0) scLong.nd rfl (.inr rfl) (pe_op op_add (pe_op op_pow pe_int pe_int) pe_int))
      (pss_cons (ps_setLc (i := 1) (own := [("_law_k", 3)]) (tt := tYes) rfl scLong.nd rfl rfl rfl (pi_range1 (by rfl) N.rng (pa_cons pe_int pa_nil)) (blkOk_by (own := [("_law_k", 3)]) (N := nLong) (sc := defScope sLong) (by decide +kernel))
          (fun _ _ _ _ _ => pg_name (i := 3) scLong.nd rfl (.inl rfl)) (fun _ _ _ _ _ => pts_nil)
          (fun _ _ _ _ _ => pe_tup (pa_cons pe_str (pa_cons (pe_tup (pa_cons pe_str (pa_cons (pv 3) pa_nil))) (pa_cons (pe_tup (pa_cons (pe_op op_add_str pe_str (pe_callB SkE.call_repr_int (by rfl) mR (by decide +kernel) (pa_cons (pv 3) pa_nil))) (pa_cons (pv 0) pa_nil))) pa_nil)))))
      (pss_cons (ps_set (i := 2) scLong.nd rfl (.inl rfl) (pe_call GS hr2 (by rfl) gS kS bS .nil pass0 (pa_cons (pv 1) pa_nil)))
      (pss_one (ps_ret (pe_and (pe_cmpR op_eq (pv 2) (pe_call GJ hr1 (by rfl) gJ kJ bJ .nil pass0 (pa_cons (pe_call GL hr1 (by rfl) gL kL bL .nil pass0 (pa_cons (pv 1) pa_nil)) pa_nil)) (nomark _))
        (pe_one (pe_cmpR (op_eqD hu) (pe_call GR hr (by rfl) gR kR bR .nil pass0 (pa_cons (pv 2) pa_nil)) (pv 1) (nomark _)))))))), ?_⟩
    refine ⟨_, _, rfl, rfl, ⟨by decide, by decide, by decide⟩, _, _, rfl, rfl, ?_⟩
    show gName 0 (V.int ((10 : Int) ^ (39 : Int).toNat + 7)) _ H _
    rw [show (10 : Int) ^ (39 : Int).toNat + 7 = (farN : Int) by decide +kernel]
    refine ⟨120, rfl, by decide, by decide, fun D hD => ?_⟩
    refine lc_range (lo := 0) (n := 120) (fun i H' => Same H H' ∧ ∃ vs, H' D = some (.lst vs) ∧ DqAll K (hid D D H') vs (((List.range i).map longD).map dDeed)) ⟨same_new hD, [], upd_same, .nil⟩ ?_ ?_
    · rintro i H1 hi ⟨s1, vs, eD, dq⟩
      have hl := List.all_eq_true.mp long_place i (List.mem_range.mpr hi)
      simp only [Bool.and_eq_true, decide_eq_true_eq] at hl
      have lg := (placeOk hl.1).lg
      refine ⟨rfl, ?_⟩
      refine lc_yes ?_
      refine ⟨_, rfl, two, fun t1 h1 => ?_⟩
      refine ⟨_, rfl, _, rfl, (by rw [Int.zero_add]; exact lg), _, _, rfl, rfl, ?_, _, rfl, two, fun t2 h2 => ?_⟩
      · rw [Int.zero_add]
        show (("a" : Str).length + (numT i).length) ≤ sizeLine
        have ea : ("a" : Str).length = 1 := by decide +kernel
        have e100 : ("a" : Str).length + (numT i).length ≤ 100 := by
          rw [ea]
          omega
        exact Nat.le_trans e100 (by decide)
      refine ⟨(by show 3 ≤ sizeLine; decide), fun q hq => ?_⟩
      have sQ := (same_new h1).trans ((same_new h2).trans (same_new (o := .tup [.str "hang", .ref t1, .ref t2]) hq))
      have nD : ∀ {x : Addr}, H1 x = none → x ≠ D := fun {x} hx e => by
        rw [e, eD] at hx
        cases hx
      have n1 := nD h1
      have n2 := nD ((same_new h1).free h2)
      have n3 := nD (((same_new h1).trans (same_new h2)).free hq)
      refine ⟨vs, sQ _ _ eD, ?_, Same.over (s1.trans sQ) hD, _, upd_same, ?_⟩
      · rw [dq.len, List.length_map, List.length_map, List.length_range]
        exact small1000 (by omega)
      · rw [List.range_succ, List.map_append, List.map_append]
        refine DqAll.snoc' (DqAll.same (hid1_same fun b o nb e => ?_) dq) ?_
        · rw [upd_ne nb]
          exact sQ b o e
        · have e1 := ((same_new (o := .tup [.str ("a" ++ toString (0 + (i : Int))), .int (farN : Int)]) h2).trans (same_new (o := .tup [.str "hang", .ref t1, .ref t2]) hq)) _ _ (upd_same (H := H1) (a := t1) (o := .tup [.str "root", .int (0 + (i : Int))]))
          have e2 := (same_new (o := .tup [.str "hang", .ref t1, .ref t2]) hq) _ _ (upd_same (H := upd H1 t1 (.tup [.str "root", .int (0 + (i : Int))])) (a := t2) (o := .tup [.str ("a" ++ toString (0 + (i : Int))), .int (farN : Int)]))
          refine .tup (.inl (.inl (hid_put n3 n3 (by rw [upd_ne n3]; exact upd_same)))) (.cons (.str _) (.cons ?_ (.cons ?_ .nil)))
          · exact .tup (.inl (.inl (hid_put n1 n1 (by rw [upd_ne n1]; exact e1)))) (.cons (.str _) (.cons (.int' (Int.zero_add _)) .nil))
          · refine .tup (.inl (.inl (hid_put n2 n2 (by rw [upd_ne n2]; exact e2)))) ?_
            rw [Int.zero_add]
            exact .cons (.str _) (.cons (.int _) .nil)
    · rintro H1 ⟨s1, vs, eD, dq⟩
      obtain ⟨ds, dok, nl, lj, dq⟩ : ∃ ds, (∀ d ∈ ds, DeedOk d) ∧ ds.length = 120 ∧ (joinedT (lexOf ds)).length ≤ 20000 ∧ DqAll K (hid D D H1) vs (ds.map dDeed) := ⟨longDs, long_ok, long_len, long_short, dq⟩
      have short : ∀ d ∈ ds, shortDeed d := fun d hd => (dok d hd).short
      refine ⟨_, rfl, D, vs, ds, rfl, .inl (.inl (.inl eD)), DqAll.same hid_all dq, short, by rw [nl]; decide, fun H2 s2 => ?_⟩
      refine ⟨_, rfl, _, rfl, D, vs, ds, rfl, .inl (.inl (s2 _ _ eD)), DqAll.same (hid_all.trans s2) dq, short, by rw [nl]; decide, fun g H3 s3 ng eg => ?_⟩
      refine ⟨g, lexOf ds, rfl, .inl (.inl eg), ?_, fun x hx => ?_, fun H4 s4 => ⟨rfl, _, rfl, ?_⟩⟩
      · have := lex_len dok
        rw [nl] at this
        omega
      · have q := lex_words dok x hx
        exact ⟨Nat.le_trans q.2.2.1 (by decide), q.2.2.2⟩
      have ej := script_joined ds fun d hd => (dok d hd).plain
      refine if_known (by rw [ej]; exact decide_eq_true rfl) ?_
      refine ⟨_, rfl, scriptT ds, ds, rfl, ?_, fun d hd => ⟨(dok d hd).ok, fun x hx => (wordOk ((dok d hd).words x hx)).ne⟩, by rw [nl]; decide, fun D2 H5 vs2 s5 n5 e5 dq5 => ?_⟩
      · rw [ej]
        exact lexOk_joined dok (by rw [nl]; decide) lj
      have sh := deeds_shaped dok
      have sT := s2.trans (s3.trans (s4.trans s5))
      refine ⟨_, rfl, .list (ds.map dDeed), .list (ds.map dDeed), .lst (.inl (.inl e5)) (DqAll.dp (DqAll.same hid_all dq5) (SeqAt.canLay_of_shaped sh)), .lst (.inl (.inl (sT _ _ eD))) (DqAll.dp (DqAll.same (hid_all.trans sT) dq) (SeqAt.canLay_of_shaped sh)), sh, sh, ?_⟩
      rw [SeqAt.eqv_refl _ (SeqAt.canLay_of_shaped sh)]
      exact k _ (s1.trans sT)
end
end Bc

namespace Bc
open PySem PySem.Spec PyProof.Rows L2
abbrev sLaw : Stmt := topS 38
abbrev nLaw : List Str := ["_law_script", "_law_source_here", "_law_turn", "_law_lap", "_law_deeds", "_law_due", "_law_handed", "_law_text", "_law_some", "_law_told"]
theorem scLaw : FnScope nLaw ["_law_script"] (defScope sLaw) := ⟨rfl, rfl, rfl, by decide +kernel, rfl, by decide +kernel, by decide +kernel⟩
def spLaw (K : PySem.W.Frag) : Sp := fun vs H Q _ => ∃ (a : Addr) (ns : List Int), vs = [.ref a] ∧ SqL K H a (ns.map V.int) ∧ ns.length ≤ 63 ∧ ∀ H', Q (.bl true) H'
structure Fns (P : Program) (w : World) (K : PySem.W.Frag) (mg : Str → Option Value) (base : Heap) (x : Str) (k : Nat) (ps : List Str) (sp : Sp) : Prop where
  ex : ∃ f fd, FnOk P w K mg base CX0 k f fd ps sp ∧ Binds K fd ps [] ∧ mg x = some (.ref f) ∧ PySem.W.keepIn K (.ref f) = true
def lastD : List Deed := [("hang", [("a", 0), ("b", 1)])]
theorem last_ok : ∀ d ∈ lastD, DeedOk d := fun d hd => by
  rw [List.mem_singleton.mp hd]
  refine ⟨.inl ⟨rfl, rfl⟩, fun p hp => ?_⟩
  exact List.all_eq_true.mp (show (([("a", 0), ("b", 1)] : List (Str × Nat)).all fun p => placeB p.1 p.2) = true by decide +kernel) p hp
theorem last_lex : LexOk "script{hang a 0b 1;}" (lexOf lastD) := by
  refine ⟨by decide +kernel, by decide +kernel, goes_of (goes_script lastD fun d hd => (last_ok d hd).lawful) (by decide +kernel), by decide +kernel, by decide +kernel⟩
theorem last_text : scriptT [] = "script {\n}\n" := by decide +kernel
section
variable {P : Program} {w : World} {K : PySem.W.Frag} {mg : Str → Option Value} {base : Heap}
theorem ok_law {f : Addr} {fd : FuncData} (F : Fun K "law" "law" sLaw f fd) (N : Nm mg) (mT : mg "tuple" = none) (mR : mg "repr" = none)
    (nS : Fns P w K mg base "_law_source" 1 ["_law_script"] (spSource K)) (nP : Fns P w K mg base "_law_pick" 1 ["_law_source_here", "_law_many"] spPick) (nL : Fns P w K mg base "_law_long_right" 7 [] spYes)
    (nD : Fns P w K mg base "_law_drawn_deed" 3 ["_law_source_here"] (spDrawn K)) (nX : Fns P w K mg base "_law_script_lexemes" 1 ["_law_script"] (spSLex K)) (nT : Fns P w K mg base "script_text" 2 ["script"] (spScrT K))
    (nJ : Fns P w K mg base "_law_joined" 1 ["_law_signs"] (spJoined K)) (nG : Fns P w K mg base "_law_spaced" 3 ["_law_source_here", "_law_signs"] (spSpaced K)) (nR : Fns P w K mg base "read_script" 6 ["text"] (spRead K)) :
    FnG P w K mg base 8 f fd ["_law_script"] (spLaw K) := by
  obtain ⟨_, _, GS, bS, gS, kS⟩ := nS.ex
  obtain ⟨_, _, GP, bP, gP, kP⟩ := nP.ex
  obtain ⟨_, _, GL, bL, gL, kL⟩ := nL.ex
  obtain ⟨_, _, GD, bD, gD, kD⟩ := nD.ex
  obtain ⟨_, _, GX, bX, gX, kX⟩ := nX.ex
  obtain ⟨_, _, GT, bT, gT, kT⟩ := nT.ex
  obtain ⟨_, _, GJ, bJ, gJ, kJ⟩ := nJ.ex
  obtain ⟨_, _, GG, bG, gG, kG⟩ := nG.ex
  obtain ⟨_, _, GR, bR, gR, kR⟩ := nR.ex
  refine FnG.body F scLaw (fun vs H Q E h => ?_) (fun cdv A outer s H vs Q E hr hg h => ?_)
  · obtain ⟨a, ns, rfl, _⟩ := h
    rfl
  · obtain ⟨a, ns, rfl, hS, hlen, k⟩ := h
    have hu := hr.units
    have hr1 : Room 1 _ := hr.mono (by decide)
    have hr2 : Room 2 _ := hr.mono (by decide)
    have hr3 : Room 3 _ := hr.mono (by decide)
    have hr6 : Room 6 _ := hr.mono (by decide)
    refine ⟨_, pss_cons (ps_set (i := 1) scLaw.nd rfl (.inr rfl) (pe_call GS hr1 (by rfl) gS kS bS .nil pass0 (pa_cons (pv 0) pa_nil)))
      (pss_cons (ps_if (PW.pt (pw_and (pt_cmpR op_eq (pe_call GP hr1 (by rfl) gP kP bP .nil pass0 (pa_cons (pv 1) (pa_cons pe_int pa_nil))) pe_int (nomark _)) (pw_and1 (pt_not (pt_val (pe_call0 GL hr (by rfl) gL kL bL .nil pass0)))))) (pss_one (ps_ret pe_bl)) pss_nil)
      (pss_cons (ps_for PassesOwn.never rfl (pi_range1 (by rfl) N.rng (pa_cons pe_int pa_nil)) (pg_name (i := 2) scLaw.nd rfl (.inl rfl))
        (pss_cons (ps_setLc (i := 4) (own := [("_law_lap", 3)]) (tt := tYes) rfl scLaw.nd rfl rfl rfl (pi_range1 (by rfl) N.rng (pa_cons (pe_call GP hr1 (by rfl) gP kP bP .nil pass0 (pa_cons (pv 1) (pa_cons pe_int pa_nil))) pa_nil)) (blkOk_by (own := [("_law_lap", 3)]) (N := nLaw) (sc := defScope sLaw) (by decide +kernel))
            (fun _ _ _ _ _ => pg_name (i := 3) scLaw.nd rfl (.inl rfl)) (fun _ _ _ _ _ => pts_nil) (fun _ _ _ _ _ => pe_call GD hr3 (by rfl) gD kD bD .nil pass0 (pa_cons (pv 1) pa_nil)))
        (pss_cons (ps_par (i := 5) (j := 6) rfl scLaw.nd rfl rfl (by decide) rfl rfl (pa_cons (pe_call GX hr1 (by rfl) gX kX bX .nil pass0 (pa_cons (pv 4) pa_nil)) (pa_cons (pe_callTy call_list_of (by rfl) N.lst (by decide +kernel) (pa_cons (pv 4) pa_nil)) pa_nil)) rfl)
        (pss_cons (ps_set (i := 7) scLaw.nd rfl (.inl rfl) (pe_call GT hr2 (by rfl) gT kT bT .nil pass0 (pa_cons (pv 6) pa_nil)))
        (pss_cons (ps_if (PW.pt (pw_or (pt_cmpR op_ne (pv 7) (pe_call GJ hr1 (by rfl) gJ kJ bJ .nil pass0 (pa_cons (pv 5) pa_nil)) (nomark _)) (pw_or (pt_cmpR op_ne (pe_call GT hr2 (by rfl) gT kT bT .nil pass0 (pa_cons (pe_callTy call_tuple_of (by rfl) mT (by decide +kernel) (pa_cons (pv 4) pa_nil)) pa_nil)) (pv 7) (nomark _))
            (pw_or1 (pt_cmpR (op_neD hu) (pv 6) (pv 4) (nomark _)))))) (pss_one (ps_ret pe_bl)) pss_nil)
        (pss_one (ps_for PassesOwn.never rfl (pi_list (pe_lst (pa_cons (pv 7) (pa_cons (pe_call GG hr3 (by rfl) gG kG bG .nil pass0 (pa_cons (pv 1) (pa_cons (pv 5) pa_nil))) (pa_cons (pe_call GG hr3 (by rfl) gG kG bG .nil pass0 (pa_cons (pv 1) (pa_cons (pv 5) pa_nil))) pa_nil))))) (pg_name (i := 8) scLaw.nd rfl (.inl rfl))
          (pss_one (ps_for PassesOwn.never rfl (pi_range1 (by rfl) N.rng (pa_cons pe_int pa_nil)) (pg_name (i := 3) scLaw.nd rfl (.inl rfl))
            (pss_cons (ps_set (i := 9) scLaw.nd rfl (.inl rfl) (pe_call GR hr6 (by rfl) gR kR bR .nil pass0 (pa_cons (pv 8) pa_nil)))
            (pss_cons (ps_if (pt_cmpR op_ne (pe_callB (call_reprP hg hu) (by rfl) mR (by decide +kernel) (pa_cons (pv 9) pa_nil)) (pe_callB (call_reprP hg hu) (by rfl) mR (by decide +kernel) (pa_cons (pv 4) pa_nil)) (nomark _)) (pss_one (ps_ret pe_bl)) pss_nil)
            (pss_one (ps_expr (pe_bm PySem.F.plainAttrs_list PySem.F.slot_list_append PySem.F.type_list_append mt_append (pv 9) (pa_cons pe_non pa_nil)))))))))))))))
      (pss_one (ps_ret (pe_and (pe_cmpR op_eq (pe_call GT hr2 (by rfl) gT kT bT .nil pass0 (pa_cons (pe_lst pa_nil) pa_nil)) pe_str (nomark _))
        (pe_one (pe_cmpR (op_eqD hu) (pe_call GR hr6 (by rfl) gR kR bR .nil pass0 (pa_cons pe_str pa_nil)) (pf_of (pd_lst (pds_cons (pd_tup (pds_cons pd_str (pds_cons (pd_tup (pds_cons pd_str (pds_cons pd_int pds_nil))) (pds_cons (pd_tup (pds_cons pd_str (pds_cons pd_int pds_nil))) pds_nil)))) pds_nil))) (nomark _)))))))), ?_⟩
    refine ⟨_, rfl, a, ns, rfl, hS, by omega, fun d c H1 s1 _ _ src1 => ?_⟩
    refine ⟨_, rfl, d, c, 8, rfl, src1, by decide, by decide, fun r H2 _ _ src2 _ => ⟨rfl, _, rfl, ?_⟩⟩
    refine ite2 (fun _ => ⟨rfl, fun H3 s3 => ⟨_, rfl, if_no rfl ?_⟩⟩) (fun _ => ?_)
    · refine ⟨4, rfl, by decide, by decide, for_range (lo := 0) (n := 4) (fun i σ H' => (∃ v2 v3 v4 v5 v6 v7 v8 v9, σ = [some (.ref a), some (.ref d), v2, v3, v4, v5, v6, v7, v8, v9]) ∧ SrcAt H' d c) ⟨⟨_, _, _, _, _, _, _, _, rfl⟩, src2.up s3⟩ ?_ ?_⟩
      · rintro i σ H3 hi ⟨⟨v2, v3, v4, v5, v6, v7, v8, v9, rfl⟩, src3⟩
        refine ⟨_, rfl, d, c, 7, rfl, src3, by decide, by decide, fun rr H4 r0 r1 src4 _ => ?_⟩
        have hrr : rr < 7 := by
          have : max (1 : Int) 7 = 7 := by decide
          omega
        obtain ⟨rn, rfl⟩ : ∃ n : Nat, rr = (n : Int) := ⟨rr.toNat, by omega⟩
        refine ⟨(rn : Int), rfl, by omega, by omega, fun D hD => ?_⟩
        have hD2 := hid_new (o := .lst []) src4 hD
        have hDn : (hid d c H4) D = none := by
          unfold hid
          split
          · rfl
          · exact hD
        refine lc_range (lo := 0) (n := rn) (fun i H' => SrcAt H' d c ∧ Same (hid d c H4) (hid d c H') ∧ ∃ vs ds, (hid d c H') D = some (.lst vs) ∧ DqAll K (hid D D (hid d c H')) vs (ds.map dDeed) ∧ ds.length = i ∧ ∀ x ∈ ds, drawn x)
          ⟨src4.up (same_new hD), hid_up (same_new hD), [], [], hD2.2.2, .nil, rfl, fun p h => by cases h⟩ ?_ ?_
        · rintro i H5 hi5 ⟨src5, s5, vs, ds, eD, dq, hl, hds⟩
          refine ⟨rfl, ?_⟩
          refine lc_yes ?_
          refine ⟨_, rfl, d, c, rfl, src5, fun q H6 dd hdd src6 s6 dq6 => ?_⟩
          have eD6 := s6 _ _ eD
          have g6 := hid_get eD6
          have up : ∀ {b : Addr} {o : HO}, b ≠ D → (hid d c H6) b = some o → (hid d c (upd H6 D (.lst (vs ++ [.ref q])))) b = some o := fun {b o} nb e => by
            have g := hid_get e
            exact hid_put g.1 g.2.1 (by rw [upd_ne nb]; exact g.2.2)
          refine ⟨vs, g6.2.2, ?_, srcAt_upd src6 g6.1 g6.2.1, fun b o e => up (ne_of_none e hDn) (s6 _ _ (s5 _ _ e)), vs ++ [.ref q], ds ++ [dd], hid_put g6.1 g6.2.1 upd_same, ?_, by rw [List.length_append, hl]; rfl, fun x hx => ?_⟩
          · rw [dq.len, List.length_map, hl]
            exact small1000 (by omega)
          · rw [List.map_append]
            refine DqAll.snoc' (DqAll.same (hid1_same fun b o nb e => up nb (s6 _ _ e)) dq) ?_
            refine deed_keep (fun b xs h => ?_) dq6
            have h2 : SqT K (hid D D (hid d c H6)) b xs := sqT_hid eD6 h
            exact Same.sqT (hid1_same fun b o nb e => up nb e) h2
          · rcases List.mem_append.mp hx with hx | hx
            · exact hds x hx
            · rw [List.mem_singleton.mp hx]
              exact hdd
        · rintro H5 ⟨src5, s5, vs, ds, eD, dq0, hl, hds⟩
          have dq : DqAll K (hid d c H5) vs (ds.map dDeed) := DqAll.same hid_all dq0
          have ok : ∀ x ∈ ds, DeedOk x := fun x hx => drawn_ok (hds x hx)
          have sh : ∀ x ∈ ds, shortDeed x := fun x hx => (ok x hx).short
          have l6 : ds.length ≤ 6 := by omega
          have lw := lex_len ok
          have words := lex_words ok
          have shp := deeds_shaped ok
          have lay := SeqAt.canLay_of_shaped shp
          have ej := script_joined ds fun x hx => (ok x hx).plain
          have gD := hid_get eD
          refine ⟨_, rfl, D, vs, ds, rfl, .inl (.inl gD.2.2), DqAll.same hid_all dq, sh, by omega, fun g H6 s6 ng eg => ?_⟩
          refine ⟨_, rfl, D, vs, rfl, .inl (.inl (.inl (s6 _ _ gD.2.2))), fun hh hhn => ⟨_, _, rfl, ?_⟩⟩
          have s7 := s6.trans (same_new (o := .lst vs) hhn)
          refine ⟨_, rfl, hh, vs, ds, rfl, .inl (.inl (.inl upd_same)), DqAll.same (hid_all.trans s7) dq, sh, by omega, fun H7 s8 => ?_⟩
          have eh := s8 _ _ (upd_same (H := H6) (a := hh) (o := .lst vs))
          have s9 := s7.trans s8
          have eg7 := s8 _ _ ((same_new (o := .lst vs) hhn) _ _ eg)
          refine ⟨_, rfl, _, rfl, g, lexOf ds, rfl, .inl (.inl eg7), by omega, fun x hx => ⟨Nat.le_trans (words x hx).2.2.1 (by decide), (words x hx).2.2.2⟩, fun H8 s10 => ⟨rfl, _, rfl, ?_⟩⟩
          refine if_no (by rw [ej, decide_eq_true rfl]; rfl) ?_
          have sA := s9.trans s10
          refine ⟨_, rfl, D, vs, rfl, .inl ⟨.inl (.inl (sA _ _ gD.2.2)), fun l hl' => ?_⟩⟩
          have sB := sA.trans (same_new (o := .tup vs) hl')
          refine ⟨l, vs, ds, rfl, .inr (.inl (.inl upd_same)), DqAll.same (hid_all.trans sB) dq, sh, by omega, fun H9 s11 => ⟨_, rfl, rfl, _, rfl, ?_⟩⟩
          refine if_no (by rw [decide_eq_true rfl]; rfl) ?_
          have sC := sB.trans s11
          have dpD : DpAll K H9 vs (ds.map dDeed) := DqAll.dp (DqAll.same (hid_all.trans sC) dq) lay
          refine ⟨_, rfl, _, rfl, .list (ds.map dDeed), .list (ds.map dDeed), .lst (.inl (.inl (s11 _ _ ((same_new (o := .tup vs) hl') _ _ (s10 _ _ eh))))) dpD, .lst (.inl (.inl (sC _ _ gD.2.2))) dpD, shp, shp, _, rfl, ?_⟩
          refine if_no (by rw [SeqAt.eqv_refl _ lay]; rfl) ?_
          -- the three texts
          have src9 := src5.up sC
          have hg9 : (hid d c H9) g = some (.lst ((lexOf ds).map V.str)) := by
            have n1 : g ≠ d := fun e => src5.two.1 (e ▸ ng)
            have n2 : g ≠ c := fun e => src5.two.2 (e ▸ ng)
            exact hid_put n1 n2 (s11 _ _ ((same_new (o := .tup vs) hl') _ _ (s10 _ _ eg7)))
          have okw : ∀ x ∈ lexOf ds, okWord x = true := fun x hx => by
            obtain ⟨w1, w2, w3, w4⟩ := words x hx
            unfold okWord
            rw [decide_eq_true w4, decide_eq_true w3]
            cases e : codes x with
            | nil => exact absurd e (good_ne w1)
            | cons a t => rfl
          have menu := drawn_menu hds
          have lexS : ∀ {z g0 tl : Str} {ps : List (Str × Str)}, allBlank g0 = true → allBlank tl = true → codes z = codes g0 ++ (flatP ps ++ codes tl) → Spaced "(" ps → ps.map (·.2) = lexOf ds → z.length ≤ 6000 → LexOk z (lexOf ds) := fun {z g0 tl ps} b0 b1 e hs hp hz =>
            lexOk_of ok (by omega) (by omega) b0 b1 e (spaced_spE ps "(" hs (by decide +kernel) fun p hp' => menu _ (by rw [← hp]; exact List.mem_map.mpr ⟨p, hp', rfl⟩)) hp
          refine ⟨_, rfl, _, rfl, _, rfl, d, c, g, lexOf ds, rfl, src9, .inl (.inl hg9), by omega, okw, fun z1 g1 t1 ps1 HA a1 a2 a3 a4 a5 a6 srcA sHA => ?_⟩
          refine ⟨_, rfl, _, rfl, d, c, g, lexOf ds, rfl, srcA, .inl (.inl (sHA _ _ hg9)), by omega, okw, fun z2 g2 t2 ps2 HB b1 b2 b3 b4 b5 b6 srcB sHB => ?_⟩
          refine ⟨(by show 3 ≤ sizeLine; decide), fun L hL => ?_⟩
          have lx0 : LexOk (scriptT ds) (lexOf ds) := by
            rw [ej]
            refine lexOk_joined ok (by omega) ?_
            have := joined_short ok
            omega
          have lx1 := lexS a1 a2 a3 a4 a5 a6
          have lx2 := lexS b1 b2 b3 b4 b5 b6
          have sT : Same (hid d c H5) (hid d c HB) := (hid_up sC).trans (sHA.trans sHB)
          have all3 : ∀ x ∈ ([.str (scriptT ds), .str z1, .str z2] : List V), ∃ z, x = .str z ∧ LexOk z (lexOf ds) := fun x hx => by
            rcases List.mem_cons.mp hx with e | hx
            · exact ⟨_, e, lx0⟩
            rcases List.mem_cons.mp hx with e | hx
            · exact ⟨_, e, lx1⟩
            · exact ⟨_, List.mem_singleton.mp hx, lx2⟩
          have srcL := srcB.up (same_new (o := .lst [.str (scriptT ds), .str z1, .str z2]) hL)
          have eDL : (upd HB L (.lst [.str (scriptT ds), .str z1, .str z2])) D = some (.lst vs) := (same_new hL) _ _ (hid_get (sT _ _ eD)).2.2
          have dqL : DqAll K (upd HB L (.lst [.str (scriptT ds), .str z1, .str z2])) vs (ds.map dDeed) := DqAll.same (sT.trans (hid_all.trans (same_new hL))) dq
          have eL : (upd HB L (.lst [.str (scriptT ds), .str z1, .str z2])) L = some (.lst [.str (scriptT ds), .str z1, .str z2]) := upd_same
          generalize upd HB L (.lst [.str (scriptT ds), .str z1, .str z2]) = HL at srcL eDL dqL eL ⊢
          generalize ([.str (scriptT ds), .str z1, .str z2] : List V) = xs3 at all3 eL ⊢
          refine ⟨L, rfl, ⟨_, .inl (.inl eL)⟩, for_list (K := K) (a := L) (xs := xs3) (fun i σ H' => (∃ v2 v3 v8 v9, σ = [some (.ref a), some (.ref d), v2, v3, some (.ref D), some (.ref g), some (.ref hh), some (.str (scriptT ds)), v8, v9]) ∧ Same HL H') ⟨⟨_, _, _, _, rfl⟩, Same.refl _⟩ (fun i σ H' _ h => h.2.seq (.inl (.inl eL))) ?_ ?_⟩
          · rintro j x σ HC hj ⟨⟨w2, w3, w8, w9, rfl⟩, sHC⟩
            obtain ⟨z, rfl, lxz⟩ := all3 x (List.mem_of_getElem? hj)
            refine ⟨2, rfl, by decide, by decide, for_range (lo := 0) (n := 2) (fun i σ H' => (∃ v2 v3 v9, σ = [some (.ref a), some (.ref d), v2, v3, some (.ref D), some (.ref g), some (.ref hh), some (.str (scriptT ds)), some (.str z), v9]) ∧ Same HL H') ⟨⟨_, _, _, rfl⟩, sHC⟩ ?_ ?_⟩
            · rintro i2 σ HE hi2 ⟨⟨u2, u3, u9, rfl⟩, sHE⟩
              refine ⟨_, rfl, z, ds, rfl, lxz, fun x hx => ⟨(ok x hx).ok, fun y hy => (wordOk ((ok x hx).words y hy)).ne⟩, by omega, fun D2 HF vs2 sHF nF eF dqF => ?_⟩
              have sh6 := shown_deeds hds (by omega)
              have nod : PyData.hasDict (.list (ds.map dDeed)) = false := deeds_nodict ds
              have shw : PyData.showable (.list (ds.map dDeed)) = true := deeds_show ds ok
              have dep : PyData.depth (.list (ds.map dDeed)) ≤ 60 := by
                have := deeds_depth ds
                rw [PyData.depth]
                omega
              have sDF := sHE.trans sHF
              refine ⟨_, rfl, D2, .list (ds.map dDeed), rfl, .lst (.inl (.inl eF)) (DqAll.dp (DqAll.same hid_all dqF) lay), nod, shw, dep, sh6, ?_⟩
              refine ⟨_, rfl, D, .list (ds.map dDeed), rfl, .lst (.inl (.inl (sDF _ _ eDL))) (DqAll.dp (DqAll.same sDF dqL) lay), nod, shw, dep, sh6, rfl, _, rfl, ?_⟩
              refine if_no (by rw [decide_eq_true rfl]; rfl) ?_
              refine ⟨_, rfl, .inl ⟨rfl, _, .inl (.inl eF)⟩, D2, _, _, rfl, rfl, eF, ?_, ?_⟩
              · rw [dqF.len, List.length_map]
                exact small1000 (by omega)
              · exact ⟨⟨_, _, _, rfl⟩, sHE.trans (Same.over sHF nF)⟩
            · rintro σ HE ⟨⟨u2, u3, u9, rfl⟩, sHE⟩
              exact ⟨⟨_, _, _, _, rfl⟩, sHE⟩
          · rintro σ HC ⟨⟨w2, w3, w8, w9, rfl⟩, sHC⟩
            exact ⟨⟨_, _, _, _, _, _, _, _, rfl⟩, srcL.up sHC⟩
      · rintro σ H3 ⟨⟨v2, v3, v4, v5, v6, v7, v8, v9, rfl⟩, src3⟩
        refine ⟨Nat.zero_le _, fun p hp => ⟨p, [], [], rfl, .inl (.inl (.inl upd_same)), .nil, (fun x hx => absurd hx (by simp)), Nat.zero_le _, fun H4 s4 => ⟨rfl, _, rfl, ?_⟩⟩⟩
        refine if_known (by rw [last_text]; exact decide_eq_true rfl) ?_
        refine ⟨"script{hang a 0b 1;}", lastD, rfl, last_lex, fun x hx => ⟨(last_ok x hx).ok, fun y hy => (wordOk ((last_ok x hx).words y hy)).ne⟩, by decide, fun D2 H5 vs2 s5 n5 e5 dq5 => ?_⟩
        refine ⟨by simp [cAnd, cT], fun v H6 s6 dq6 => ?_⟩
        have shp := deeds_shaped last_ok
        have lay := SeqAt.canLay_of_shaped shp
        refine ⟨.list (lastD.map dDeed), .list (lastD.map dDeed), .lst (.inl (.inl (s6 _ _ e5))) (DqAll.dp (DqAll.same (hid_all.trans s6) dq5) lay), Dq.dp dq6 lay, shp, shp, ?_⟩
        rw [SeqAt.eqv_refl _ lay]
        exact k _
    · refine ⟨4, rfl, by decide, by decide, for_range (lo := 0) (n := 4) (fun i σ H' => (∃ v2 v3 v4 v5 v6 v7 v8 v9, σ = [some (.ref a), some (.ref d), v2, v3, v4, v5, v6, v7, v8, v9]) ∧ SrcAt H' d c) ⟨⟨_, _, _, _, _, _, _, _, rfl⟩, src2⟩ ?_ ?_⟩
      · rintro i σ H3 hi ⟨⟨v2, v3, v4, v5, v6, v7, v8, v9, rfl⟩, src3⟩
        refine ⟨_, rfl, d, c, 7, rfl, src3, by decide, by decide, fun rr H4 r0 r1 src4 _ => ?_⟩
        have hrr : rr < 7 := by
          have : max (1 : Int) 7 = 7 := by decide
          omega
        obtain ⟨rn, rfl⟩ : ∃ n : Nat, rr = (n : Int) := ⟨rr.toNat, by omega⟩
        refine ⟨(rn : Int), rfl, by omega, by omega, fun D hD => ?_⟩
        have hD2 := hid_new (o := .lst []) src4 hD
        have hDn : (hid d c H4) D = none := by
          unfold hid
          split
          · rfl
          · exact hD
        refine lc_range (lo := 0) (n := rn) (fun i H' => SrcAt H' d c ∧ Same (hid d c H4) (hid d c H') ∧ ∃ vs ds, (hid d c H') D = some (.lst vs) ∧ DqAll K (hid D D (hid d c H')) vs (ds.map dDeed) ∧ ds.length = i ∧ ∀ x ∈ ds, drawn x)
          ⟨src4.up (same_new hD), hid_up (same_new hD), [], [], hD2.2.2, .nil, rfl, fun p h => by cases h⟩ ?_ ?_
        · rintro i H5 hi5 ⟨src5, s5, vs, ds, eD, dq, hl, hds⟩
          refine ⟨rfl, ?_⟩
          refine lc_yes ?_
          refine ⟨_, rfl, d, c, rfl, src5, fun q H6 dd hdd src6 s6 dq6 => ?_⟩
          have eD6 := s6 _ _ eD
          have g6 := hid_get eD6
          have up : ∀ {b : Addr} {o : HO}, b ≠ D → (hid d c H6) b = some o → (hid d c (upd H6 D (.lst (vs ++ [.ref q])))) b = some o := fun {b o} nb e => by
            have g := hid_get e
            exact hid_put g.1 g.2.1 (by rw [upd_ne nb]; exact g.2.2)
          refine ⟨vs, g6.2.2, ?_, srcAt_upd src6 g6.1 g6.2.1, fun b o e => up (ne_of_none e hDn) (s6 _ _ (s5 _ _ e)), vs ++ [.ref q], ds ++ [dd], hid_put g6.1 g6.2.1 upd_same, ?_, by rw [List.length_append, hl]; rfl, fun x hx => ?_⟩
          · rw [dq.len, List.length_map, hl]
            exact small1000 (by omega)
          · rw [List.map_append]
            refine DqAll.snoc' (DqAll.same (hid1_same fun b o nb e => up nb (s6 _ _ e)) dq) ?_
            refine deed_keep (fun b xs h => ?_) dq6
            have h2 : SqT K (hid D D (hid d c H6)) b xs := sqT_hid eD6 h
            exact Same.sqT (hid1_same fun b o nb e => up nb e) h2
          · rcases List.mem_append.mp hx with hx | hx
            · exact hds x hx
            · rw [List.mem_singleton.mp hx]
              exact hdd
        · rintro H5 ⟨src5, s5, vs, ds, eD, dq0, hl, hds⟩
          have dq : DqAll K (hid d c H5) vs (ds.map dDeed) := DqAll.same hid_all dq0
          have ok : ∀ x ∈ ds, DeedOk x := fun x hx => drawn_ok (hds x hx)
          have sh : ∀ x ∈ ds, shortDeed x := fun x hx => (ok x hx).short
          have l6 : ds.length ≤ 6 := by omega
          have lw := lex_len ok
          have words := lex_words ok
          have shp := deeds_shaped ok
          have lay := SeqAt.canLay_of_shaped shp
          have ej := script_joined ds fun x hx => (ok x hx).plain
          have gD := hid_get eD
          refine ⟨_, rfl, D, vs, ds, rfl, .inl (.inl gD.2.2), DqAll.same hid_all dq, sh, by omega, fun g H6 s6 ng eg => ?_⟩
          refine ⟨_, rfl, D, vs, rfl, .inl (.inl (.inl (s6 _ _ gD.2.2))), fun hh hhn => ⟨_, _, rfl, ?_⟩⟩
          have s7 := s6.trans (same_new (o := .lst vs) hhn)
          refine ⟨_, rfl, hh, vs, ds, rfl, .inl (.inl (.inl upd_same)), DqAll.same (hid_all.trans s7) dq, sh, by omega, fun H7 s8 => ?_⟩
          have eh := s8 _ _ (upd_same (H := H6) (a := hh) (o := .lst vs))
          have s9 := s7.trans s8
          have eg7 := s8 _ _ ((same_new (o := .lst vs) hhn) _ _ eg)
          refine ⟨_, rfl, _, rfl, g, lexOf ds, rfl, .inl (.inl eg7), by omega, fun x hx => ⟨Nat.le_trans (words x hx).2.2.1 (by decide), (words x hx).2.2.2⟩, fun H8 s10 => ⟨rfl, _, rfl, ?_⟩⟩
          refine if_no (by rw [ej, decide_eq_true rfl]; rfl) ?_
          have sA := s9.trans s10
          refine ⟨_, rfl, D, vs, rfl, .inl ⟨.inl (.inl (sA _ _ gD.2.2)), fun l hl' => ?_⟩⟩
          have sB := sA.trans (same_new (o := .tup vs) hl')
          refine ⟨l, vs, ds, rfl, .inr (.inl (.inl upd_same)), DqAll.same (hid_all.trans sB) dq, sh, by omega, fun H9 s11 => ⟨_, rfl, rfl, _, rfl, ?_⟩⟩
          refine if_no (by rw [decide_eq_true rfl]; rfl) ?_
          have sC := sB.trans s11
          have dpD : DpAll K H9 vs (ds.map dDeed) := DqAll.dp (DqAll.same (hid_all.trans sC) dq) lay
          refine ⟨_, rfl, _, rfl, .list (ds.map dDeed), .list (ds.map dDeed), .lst (.inl (.inl (s11 _ _ ((same_new (o := .tup vs) hl') _ _ (s10 _ _ eh))))) dpD, .lst (.inl (.inl (sC _ _ gD.2.2))) dpD, shp, shp, _, rfl, ?_⟩
          refine if_no (by rw [SeqAt.eqv_refl _ lay]; rfl) ?_
          -- the three texts
          have src9 := src5.up sC
          have hg9 : (hid d c H9) g = some (.lst ((lexOf ds).map V.str)) := by
            have n1 : g ≠ d := fun e => src5.two.1 (e ▸ ng)
            have n2 : g ≠ c := fun e => src5.two.2 (e ▸ ng)
            exact hid_put n1 n2 (s11 _ _ ((same_new (o := .tup vs) hl') _ _ (s10 _ _ eg7)))
          have okw : ∀ x ∈ lexOf ds, okWord x = true := fun x hx => by
            obtain ⟨w1, w2, w3, w4⟩ := words x hx
            unfold okWord
            rw [decide_eq_true w4, decide_eq_true w3]
            cases e : codes x with
            | nil => exact absurd e (good_ne w1)
            | cons a t => rfl
          have menu := drawn_menu hds
          have lexS : ∀ {z g0 tl : Str} {ps : List (Str × Str)}, allBlank g0 = true → allBlank tl = true → codes z = codes g0 ++ (flatP ps ++ codes tl) → Spaced "(" ps → ps.map (·.2) = lexOf ds → z.length ≤ 6000 → LexOk z (lexOf ds) := fun {z g0 tl ps} b0 b1 e hs hp hz =>
            lexOk_of ok (by omega) (by omega) b0 b1 e (spaced_spE ps "(" hs (by decide +kernel) fun p hp' => menu _ (by rw [← hp]; exact List.mem_map.mpr ⟨p, hp', rfl⟩)) hp
          refine ⟨_, rfl, _, rfl, _, rfl, d, c, g, lexOf ds, rfl, src9, .inl (.inl hg9), by omega, okw, fun z1 g1 t1 ps1 HA a1 a2 a3 a4 a5 a6 srcA sHA => ?_⟩
          refine ⟨_, rfl, _, rfl, d, c, g, lexOf ds, rfl, srcA, .inl (.inl (sHA _ _ hg9)), by omega, okw, fun z2 g2 t2 ps2 HB b1 b2 b3 b4 b5 b6 srcB sHB => ?_⟩
          refine ⟨(by show 3 ≤ sizeLine; decide), fun L hL => ?_⟩
          have lx0 : LexOk (scriptT ds) (lexOf ds) := by
            rw [ej]
            refine lexOk_joined ok (by omega) ?_
            have := joined_short ok
            omega
          have lx1 := lexS a1 a2 a3 a4 a5 a6
          have lx2 := lexS b1 b2 b3 b4 b5 b6
          have sT : Same (hid d c H5) (hid d c HB) := (hid_up sC).trans (sHA.trans sHB)
          have all3 : ∀ x ∈ ([.str (scriptT ds), .str z1, .str z2] : List V), ∃ z, x = .str z ∧ LexOk z (lexOf ds) := fun x hx => by
            rcases List.mem_cons.mp hx with e | hx
            · exact ⟨_, e, lx0⟩
            rcases List.mem_cons.mp hx with e | hx
            · exact ⟨_, e, lx1⟩
            · exact ⟨_, List.mem_singleton.mp hx, lx2⟩
          have srcL := srcB.up (same_new (o := .lst [.str (scriptT ds), .str z1, .str z2]) hL)
          have eDL : (upd HB L (.lst [.str (scriptT ds), .str z1, .str z2])) D = some (.lst vs) := (same_new hL) _ _ (hid_get (sT _ _ eD)).2.2
          have dqL : DqAll K (upd HB L (.lst [.str (scriptT ds), .str z1, .str z2])) vs (ds.map dDeed) := DqAll.same (sT.trans (hid_all.trans (same_new hL))) dq
          have eL : (upd HB L (.lst [.str (scriptT ds), .str z1, .str z2])) L = some (.lst [.str (scriptT ds), .str z1, .str z2]) := upd_same
          generalize upd HB L (.lst [.str (scriptT ds), .str z1, .str z2]) = HL at srcL eDL dqL eL ⊢
          generalize ([.str (scriptT ds), .str z1, .str z2] : List V) = xs3 at all3 eL ⊢
          refine ⟨L, rfl, ⟨_, .inl (.inl eL)⟩, for_list (K := K) (a := L) (xs := xs3) (fun i σ H' => (∃ v2 v3 v8 v9, σ = [some (.ref a), some (.ref d), v2, v3, some (.ref D), some (.ref g), some (.ref hh), some (.str (scriptT ds)), v8, v9]) ∧ Same HL H') ⟨⟨_, _, _, _, rfl⟩, Same.refl _⟩ (fun i σ H' _ h => h.2.seq (.inl (.inl eL))) ?_ ?_⟩
          · rintro j x σ HC hj ⟨⟨w2, w3, w8, w9, rfl⟩, sHC⟩
            obtain ⟨z, rfl, lxz⟩ := all3 x (List.mem_of_getElem? hj)
            refine ⟨2, rfl, by decide, by decide, for_range (lo := 0) (n := 2) (fun i σ H' => (∃ v2 v3 v9, σ = [some (.ref a), some (.ref d), v2, v3, some (.ref D), some (.ref g), some (.ref hh), some (.str (scriptT ds)), some (.str z), v9]) ∧ Same HL H') ⟨⟨_, _, _, rfl⟩, sHC⟩ ?_ ?_⟩
            · rintro i2 σ HE hi2 ⟨⟨u2, u3, u9, rfl⟩, sHE⟩
              refine ⟨_, rfl, z, ds, rfl, lxz, fun x hx => ⟨(ok x hx).ok, fun y hy => (wordOk ((ok x hx).words y hy)).ne⟩, by omega, fun D2 HF vs2 sHF nF eF dqF => ?_⟩
              have sh6 := shown_deeds hds (by omega)
              have nod : PyData.hasDict (.list (ds.map dDeed)) = false := deeds_nodict ds
              have shw : PyData.showable (.list (ds.map dDeed)) = true := deeds_show ds ok
              have dep : PyData.depth (.list (ds.map dDeed)) ≤ 60 := by
                have := deeds_depth ds
                rw [PyData.depth]
                omega
              have sDF := sHE.trans sHF
              refine ⟨_, rfl, D2, .list (ds.map dDeed), rfl, .lst (.inl (.inl eF)) (DqAll.dp (DqAll.same hid_all dqF) lay), nod, shw, dep, sh6, ?_⟩
              refine ⟨_, rfl, D, .list (ds.map dDeed), rfl, .lst (.inl (.inl (sDF _ _ eDL))) (DqAll.dp (DqAll.same sDF dqL) lay), nod, shw, dep, sh6, rfl, _, rfl, ?_⟩
              refine if_no (by rw [decide_eq_true rfl]; rfl) ?_
              refine ⟨_, rfl, .inl ⟨rfl, _, .inl (.inl eF)⟩, D2, _, _, rfl, rfl, eF, ?_, ?_⟩
              · rw [dqF.len, List.length_map]
                exact small1000 (by omega)
              · exact ⟨⟨_, _, _, rfl⟩, sHE.trans (Same.over sHF nF)⟩
            · rintro σ HE ⟨⟨u2, u3, u9, rfl⟩, sHE⟩
              exact ⟨⟨_, _, _, _, rfl⟩, sHE⟩
          · rintro σ HC ⟨⟨w2, w3, w8, w9, rfl⟩, sHC⟩
            exact ⟨⟨_, _, _, _, _, _, _, _, rfl⟩, srcL.up sHC⟩
      · rintro σ H3 ⟨⟨v2, v3, v4, v5, v6, v7, v8, v9, rfl⟩, src3⟩
        refine ⟨Nat.zero_le _, fun p hp => ⟨p, [], [], rfl, .inl (.inl (.inl upd_same)), .nil, (fun x hx => absurd hx (by simp)), Nat.zero_le _, fun H4 s4 => ⟨rfl, _, rfl, ?_⟩⟩⟩
        refine if_known (by rw [last_text]; exact decide_eq_true rfl) ?_
        refine ⟨"script{hang a 0b 1;}", lastD, rfl, last_lex, fun x hx => ⟨(last_ok x hx).ok, fun y hy => (wordOk ((last_ok x hx).words y hy)).ne⟩, by decide, fun D2 H5 vs2 s5 n5 e5 dq5 => ?_⟩
        refine ⟨by simp [cAnd, cT], fun v H6 s6 dq6 => ?_⟩
        have shp := deeds_shaped last_ok
        have lay := SeqAt.canLay_of_shaped shp
        refine ⟨.list (lastD.map dDeed), .list (lastD.map dDeed), .lst (.inl (.inl (s6 _ _ e5))) (DqAll.dp (DqAll.same (hid_all.trans s6) dq5) lay), Dq.dp dq6 lay, shp, shp, ?_⟩
        rw [SeqAt.eqv_refl _ lay]
        exact k _
end
end Bc

namespace Bc
open PySem PySem.Spec PyProof.Rows L2
theorem sqT_of {K : PySem.W.Frag} {t : Addr} {dd : Option Addr} {its : Array Value} {n : Nat} {sl : Array (Option Value)} {xs : List V} (h : K.lookup t = some ⟨.type "tuple", dd, .seq its n, sl⟩) (hz : its.size ≤ 100) (hv : Vals xs its.toList) (H : Hp) : SqT K H t xs :=
  .inr ⟨_, its, n, h, rfl, rfl, Nat.le_trans hz (by decide), hv⟩
theorem v1 {x : Str} {t : PySem.Tok} : RelV (.str x) (.str x t) := ⟨t, rfl⟩
theorem vr {a : Addr} : RelV (.ref a) (.ref a) := rfl
theorem rows1 {K : PySem.W.Frag} {t r : Addr} {l : List Str} {H : Hp} (a : SqT K H t [.ref r]) (b : SqT K H r (l.map V.str)) : RulesAt K H t [l] := by
  refine ⟨[r], a, rfl, fun i r' l' h1 h2 => ?_⟩
  match i, h1, h2 with
  | 0, h1, h2 =>
    cases (Option.some.inj h1)
    cases (Option.some.inj h2)
    exact b
  | n + 1, h1, h2 => cases h1
theorem rows3 {K : PySem.W.Frag} {t r1 r2 r3 : Addr} {l1 l2 l3 : List Str} {H : Hp} (a : SqT K H t [.ref r1, .ref r2, .ref r3]) (b1 : SqT K H r1 (l1.map V.str)) (b2 : SqT K H r2 (l2.map V.str)) (b3 : SqT K H r3 (l3.map V.str)) : RulesAt K H t [l1, l2, l3] := by
  refine ⟨[r1, r2, r3], a, rfl, fun i r' l' h1 h2 => ?_⟩
  match i, h1, h2 with
  | 0, h1, h2 =>
    cases (Option.some.inj h1)
    cases (Option.some.inj h2)
    exact b1
  | 1, h1, h2 =>
    cases (Option.some.inj h1)
    cases (Option.some.inj h2)
    exact b2
  | 2, h1, h2 =>
    cases (Option.some.inj h1)
    cases (Option.some.inj h2)
    exact b3
  | n + 3, h1, h2 => cases h1
theorem all_mk {l : PySem.W.OpenLaw} {w : World} {K : PySem.W.Frag} {h : Heap} {mg : Str → Option Value} {fa C aR aN t0 t1 t2 u0 u1 u2 u3 u4 fmI fmO fmT fmD fT fRE fLA fSC fLO fHR fDO fRS fRT fDT fST fS fP fO fJ fG fX fD fL fW : Addr} (KX : K.In h) (G : h.Ns mainGlobals mg) (hfa : mg "law" = some (.ref fa))
    {odmI anmI odmO anmO odmT anmT odmD anmD odT anT odRE anRE odLA anLA odSC anSC odLO anLO odHR anHR odDO anDO odRS anRS odRT anRT odDT anDT odST anST odS anS odP anP odO anO odJ anJ odG anG odX anX odD anD odL anL odW anW dN dd0 dd1 dd2 dd3 dd4 dd5 dd6 dd7 : Option Addr} {slmI slmO slmT slmD slT slRE slLA slSC slLO slHR slDO slRS slRT slDT slST slS slP slO slJ slG slX slD slL slW sN ss0 ss1 ss2 ss3 ss4 ss5 ss6 ss7 : Array (Option Value)} {ocmI kVmI dcmI pmmI cdmI ctmI ocmO kVmO dcmO pmmO cdmO ctmO ocmT kVmT dcmT pmmT cdmT ctmT ocmD kVmD dcmD pmmD cdmD ctmD ocT kVT dcT pmT cdT ctT ocRE kVRE dcRE pmRE cdRE ctRE ocLA kVLA dcLA pmLA cdLA ctLA ocSC kVSC dcSC pmSC cdSC ctSC ocLO kVLO dcLO pmLO cdLO ctLO ocHR kVHR dcHR pmHR cdHR ctHR ocDO kVDO dcDO pmDO cdDO ctDO ocRS kVRS dcRS pmRS cdRS ctRS ocRT kVRT dcRT pmRT cdRT ctRT ocDT kVDT dcDT pmDT cdDT ctDT ocST kVST dcST pmST cdST ctST ocS kVS dcS pmS cdS ctS ocP kVP dcP pmP cdP ctP ocO kVO dcO pmO cdO ctO ocJ kVJ dcJ pmJ cdJ ctJ ocG kVG dcG pmG cdG ctG ocX kVX dcX pmX cdX ctX ocD kVD dcD pmD cdD ctD ocL kVL dcL pmL cdL ctL ocW kVW dcW pmW cdW ctW : Value}
    {esR : Array DictEntry} {nR nN nn0 nn1 nn2 nn3 nn4 nn5 nn6 nn7 : Nat} {q1 q2 q3 q4 q5 q6 q7 g0_0 g0_1 g0_2 g1_0 g1_1 g1_2 g1_3 g1_4 g2_0 g2_1 g2_2 g2_3 g2_4 g2_5 g2_6 g3_0 g4_0 g4_1 : PySem.Tok}
    (aC : PySem.W.nsIn K mainGlobals "Reading" = some (some (.ref C)))
    (cpg : PySem.W.plainGet K C Str.empty = true)
    (chd : PySem.W.hasDictIn K C = true)
    (cpo : PySem.W.plainOver K C = true)
    (csa : PySem.W.findIn K (.ref C) "__setattr__" = some (some (.builtin "object.__setattr__")))
    (cna : PySem.W.findIn K (.ref C) "_awaited" = some none)
    (cmk : PySem.W.makesIn K C = true)
    (ckp : PySem.W.keepIn K (.ref C) = true)
    (amI : PySem.W.findIn K (.ref C) "__init__" = some (some (.ref fmI)))
    (lmI : K.lookup fmI = some ⟨ocmI, odmI, .func (PySem.W.fnOf "__init__" "Reading.__init__" (defArgs sInit) (defBody sInit) (defScope sInit) .none kVmI dcmI pmmI anmI cdmI ctmI), slmI⟩)
    (dmI : PySem.W.codeIn K cdmI "Reading.__init__" = true)
    (kmI : PySem.W.keepIn K (.ref fmI) = true)
    (imI : PySem.W.isFn K (.ref fmI) = true)
    (amO : PySem.W.findIn K (.ref C) "_open_rules" = some (some (.ref fmO)))
    (lmO : K.lookup fmO = some ⟨ocmO, odmO, .func (PySem.W.fnOf "_open_rules" "Reading._open_rules" (defArgs sOpen) (defBody sOpen) (defScope sOpen) .none kVmO dcmO pmmO anmO cdmO ctmO), slmO⟩)
    (dmO : PySem.W.codeIn K cdmO "Reading._open_rules" = true)
    (kmO : PySem.W.keepIn K (.ref fmO) = true)
    (imO : PySem.W.isFn K (.ref fmO) = true)
    (amT : PySem.W.findIn K (.ref C) "takes" = some (some (.ref fmT)))
    (lmT : K.lookup fmT = some ⟨ocmT, odmT, .func (PySem.W.fnOf "takes" "Reading.takes" (defArgs sTakes) (defBody sTakes) (defScope sTakes) .none kVmT dcmT pmmT anmT cdmT ctmT), slmT⟩)
    (dmT : PySem.W.codeIn K cdmT "Reading.takes" = true)
    (kmT : PySem.W.keepIn K (.ref fmT) = true)
    (imT : PySem.W.isFn K (.ref fmT) = true)
    (amD : PySem.W.findIn K (.ref C) "is_complete" = some (some (.ref fmD)))
    (lmD : K.lookup fmD = some ⟨ocmD, odmD, .func (PySem.W.fnOf "is_complete" "Reading.is_complete" (defArgs sDone) (defBody sDone) (defScope sDone) .none kVmD dcmD pmmD anmD cdmD ctmD), slmD⟩)
    (dmD : PySem.W.codeIn K cdmD "Reading.is_complete" = true)
    (kmD : PySem.W.keepIn K (.ref fmD) = true)
    (imD : PySem.W.isFn K (.ref fmD) = true)
    (aT : PySem.W.nsIn K mainGlobals "is_told" = some (some (.ref fT)))
    (lT : K.lookup fT = some ⟨ocT, odT, .func (PySem.W.fnOf "is_told" "is_told" (defArgs sIsTold) (defBody sIsTold) (defScope sIsTold) .none kVT dcT pmT anT cdT ctT), slT⟩)
    (dT : PySem.W.codeIn K cdT "is_told" = true)
    (kT : PySem.W.keepIn K (.ref fT) = true)
    (aRE : PySem.W.nsIn K mainGlobals "run_end" = some (some (.ref fRE)))
    (lRE : K.lookup fRE = some ⟨ocRE, odRE, .func (PySem.W.fnOf "run_end" "run_end" (defArgs sRun) (defBody sRun) (defScope sRun) .none kVRE dcRE pmRE anRE cdRE ctRE), slRE⟩)
    (dRE : PySem.W.codeIn K cdRE "run_end" = true)
    (kRE : PySem.W.keepIn K (.ref fRE) = true)
    (aLA : PySem.W.nsIn K mainGlobals "lexeme_at" = some (some (.ref fLA)))
    (lLA : K.lookup fLA = some ⟨ocLA, odLA, .func (PySem.W.fnOf "lexeme_at" "lexeme_at" (defArgs sLexAt) (defBody sLexAt) (defScope sLexAt) .none kVLA dcLA pmLA anLA cdLA ctLA), slLA⟩)
    (dLA : PySem.W.codeIn K cdLA "lexeme_at" = true)
    (kLA : PySem.W.keepIn K (.ref fLA) = true)
    (aSC : PySem.W.nsIn K mainGlobals "scan" = some (some (.ref fSC)))
    (lSC : K.lookup fSC = some ⟨ocSC, odSC, .func (PySem.W.fnOf "scan" "scan" (defArgs sScan) (defBody sScan) (defScope sScan) .none kVSC dcSC pmSC anSC cdSC ctSC), slSC⟩)
    (dSC : PySem.W.codeIn K cdSC "scan" = true)
    (kSC : PySem.W.keepIn K (.ref fSC) = true)
    (aLO : PySem.W.nsIn K mainGlobals "lexemes_of" = some (some (.ref fLO)))
    (lLO : K.lookup fLO = some ⟨ocLO, odLO, .func (PySem.W.fnOf "lexemes_of" "lexemes_of" (defArgs sLexOf) (defBody sLexOf) (defScope sLexOf) .none kVLO dcLO pmLO anLO cdLO ctLO), slLO⟩)
    (dLO : PySem.W.codeIn K cdLO "lexemes_of" = true)
    (kLO : PySem.W.keepIn K (.ref fLO) = true)
    (aHR : PySem.W.nsIn K mainGlobals "head_and_rows" = some (some (.ref fHR)))
    (lHR : K.lookup fHR = some ⟨ocHR, odHR, .func (PySem.W.fnOf "head_and_rows" "head_and_rows" (defArgs sHead) (defBody sHead) (defScope sHead) .none kVHR dcHR pmHR anHR cdHR ctHR), slHR⟩)
    (dHR : PySem.W.codeIn K cdHR "head_and_rows" = true)
    (kHR : PySem.W.keepIn K (.ref fHR) = true)
    (aDO : PySem.W.nsIn K mainGlobals "deed_of" = some (some (.ref fDO)))
    (lDO : K.lookup fDO = some ⟨ocDO, odDO, .func (PySem.W.fnOf "deed_of" "deed_of" (defArgs sDeed) (defBody sDeed) (defScope sDeed) .none kVDO dcDO pmDO anDO cdDO ctDO), slDO⟩)
    (dDO : PySem.W.codeIn K cdDO "deed_of" = true)
    (kDO : PySem.W.keepIn K (.ref fDO) = true)
    (aRS : PySem.W.nsIn K mainGlobals "read_script" = some (some (.ref fRS)))
    (lRS : K.lookup fRS = some ⟨ocRS, odRS, .func (PySem.W.fnOf "read_script" "read_script" (defArgs sRead) (defBody sRead) (defScope sRead) .none kVRS dcRS pmRS anRS cdRS ctRS), slRS⟩)
    (dRS : PySem.W.codeIn K cdRS "read_script" = true)
    (kRS : PySem.W.keepIn K (.ref fRS) = true)
    (aRT : PySem.W.nsIn K mainGlobals "rows_text" = some (some (.ref fRT)))
    (lRT : K.lookup fRT = some ⟨ocRT, odRT, .func (PySem.W.fnOf "rows_text" "rows_text" (defArgs sRowsT) (defBody sRowsT) (defScope sRowsT) .none kVRT dcRT pmRT anRT cdRT ctRT), slRT⟩)
    (dRT : PySem.W.codeIn K cdRT "rows_text" = true)
    (kRT : PySem.W.keepIn K (.ref fRT) = true)
    (aDT : PySem.W.nsIn K mainGlobals "deed_text" = some (some (.ref fDT)))
    (lDT : K.lookup fDT = some ⟨ocDT, odDT, .func (PySem.W.fnOf "deed_text" "deed_text" (defArgs sDeedT) (defBody sDeedT) (defScope sDeedT) .none kVDT dcDT pmDT anDT cdDT ctDT), slDT⟩)
    (dDT : PySem.W.codeIn K cdDT "deed_text" = true)
    (kDT : PySem.W.keepIn K (.ref fDT) = true)
    (aST : PySem.W.nsIn K mainGlobals "script_text" = some (some (.ref fST)))
    (lST : K.lookup fST = some ⟨ocST, odST, .func (PySem.W.fnOf "script_text" "script_text" (defArgs sScrT) (defBody sScrT) (defScope sScrT) .none kVST dcST pmST anST cdST ctST), slST⟩)
    (dST : PySem.W.codeIn K cdST "script_text" = true)
    (kST : PySem.W.keepIn K (.ref fST) = true)
    (aS : PySem.W.nsIn K mainGlobals "_law_source" = some (some (.ref fS)))
    (lS : K.lookup fS = some ⟨ocS, odS, .func (PySem.W.fnOf "_law_source" "_law_source" (defArgs sSource) (defBody sSource) (defScope sSource) .none kVS dcS pmS anS cdS ctS), slS⟩)
    (dS : PySem.W.codeIn K cdS "_law_source" = true)
    (kS : PySem.W.keepIn K (.ref fS) = true)
    (aP : PySem.W.nsIn K mainGlobals "_law_pick" = some (some (.ref fP)))
    (lP : K.lookup fP = some ⟨ocP, odP, .func (PySem.W.fnOf "_law_pick" "_law_pick" (defArgs sPick) (defBody sPick) (defScope sPick) .none kVP dcP pmP anP cdP ctP), slP⟩)
    (dP : PySem.W.codeIn K cdP "_law_pick" = true)
    (kP : PySem.W.keepIn K (.ref fP) = true)
    (aO : PySem.W.nsIn K mainGlobals "_law_of" = some (some (.ref fO)))
    (lO : K.lookup fO = some ⟨ocO, odO, .func (PySem.W.fnOf "_law_of" "_law_of" (defArgs sOf) (defBody sOf) (defScope sOf) .none kVO dcO pmO anO cdO ctO), slO⟩)
    (dO : PySem.W.codeIn K cdO "_law_of" = true)
    (kO : PySem.W.keepIn K (.ref fO) = true)
    (aJ : PySem.W.nsIn K mainGlobals "_law_joined" = some (some (.ref fJ)))
    (lJ : K.lookup fJ = some ⟨ocJ, odJ, .func (PySem.W.fnOf "_law_joined" "_law_joined" (defArgs sJoined) (defBody sJoined) (defScope sJoined) .none kVJ dcJ pmJ anJ cdJ ctJ), slJ⟩)
    (dJ : PySem.W.codeIn K cdJ "_law_joined" = true)
    (kJ : PySem.W.keepIn K (.ref fJ) = true)
    (aG : PySem.W.nsIn K mainGlobals "_law_spaced" = some (some (.ref fG)))
    (lG : K.lookup fG = some ⟨ocG, odG, .func (PySem.W.fnOf "_law_spaced" "_law_spaced" (defArgs sSpaced) (defBody sSpaced) (defScope sSpaced) .none kVG dcG pmG anG cdG ctG), slG⟩)
    (dG : PySem.W.codeIn K cdG "_law_spaced" = true)
    (kG : PySem.W.keepIn K (.ref fG) = true)
    (aX : PySem.W.nsIn K mainGlobals "_law_script_lexemes" = some (some (.ref fX)))
    (lX : K.lookup fX = some ⟨ocX, odX, .func (PySem.W.fnOf "_law_script_lexemes" "_law_script_lexemes" (defArgs sSLex) (defBody sSLex) (defScope sSLex) .none kVX dcX pmX anX cdX ctX), slX⟩)
    (dX : PySem.W.codeIn K cdX "_law_script_lexemes" = true)
    (kX : PySem.W.keepIn K (.ref fX) = true)
    (aD : PySem.W.nsIn K mainGlobals "_law_drawn_deed" = some (some (.ref fD)))
    (lD : K.lookup fD = some ⟨ocD, odD, .func (PySem.W.fnOf "_law_drawn_deed" "_law_drawn_deed" (defArgs sDrawn) (defBody sDrawn) (defScope sDrawn) .none kVD dcD pmD anD cdD ctD), slD⟩)
    (dD : PySem.W.codeIn K cdD "_law_drawn_deed" = true)
    (kD : PySem.W.keepIn K (.ref fD) = true)
    (aL : PySem.W.nsIn K mainGlobals "_law_long_right" = some (some (.ref fL)))
    (lL : K.lookup fL = some ⟨ocL, odL, .func (PySem.W.fnOf "_law_long_right" "_law_long_right" (defArgs sLong) (defBody sLong) (defScope sLong) .none kVL dcL pmL anL cdL ctL), slL⟩)
    (dL : PySem.W.codeIn K cdL "_law_long_right" = true)
    (kL : PySem.W.keepIn K (.ref fL) = true)
    (aW : PySem.W.nsIn K mainGlobals "law" = some (some (.ref fW)))
    (lW : K.lookup fW = some ⟨ocW, odW, .func (PySem.W.fnOf "law" "law" (defArgs sLaw) (defBody sLaw) (defScope sLaw) .none kVW dcW pmW anW cdW ctW), slW⟩)
    (dW : PySem.W.codeIn K cdW "law" = true)
    (kW : PySem.W.keepIn K (.ref fW) = true)
    (z_int : PySem.W.nsIn K mainGlobals "int" = some none)
    (z_abs : PySem.W.nsIn K mainGlobals "abs" = some none)
    (z_len : PySem.W.nsIn K mainGlobals "len" = some none)
    (z_max : PySem.W.nsIn K mainGlobals "max" = some none)
    (z_reversed : PySem.W.nsIn K mainGlobals "reversed" = some none)
    (z_range : PySem.W.nsIn K mainGlobals "range" = some none)
    (z_list : PySem.W.nsIn K mainGlobals "list" = some none)
    (z_tuple : PySem.W.nsIn K mainGlobals "tuple" = some none)
    (z_repr : PySem.W.nsIn K mainGlobals "repr" = some none)
    (y_LETTERS : PySem.W.nsIn K mainGlobals "LETTERS" = some (some (.str sLetters q1)))
    (y_DIGITS : PySem.W.nsIn K mainGlobals "DIGITS" = some (some (.str sDigits q2)))
    (y_SIGNS : PySem.W.nsIn K mainGlobals "SIGNS" = some (some (.str sSigns q3)))
    (y_BLANKS : PySem.W.nsIn K mainGlobals "BLANKS" = some (some (.str sBlanks q4)))
    (y_LONGEST : PySem.W.nsIn K mainGlobals "LONGEST" = some (some (.int 12 q5)))
    (y_NAME : PySem.W.nsIn K mainGlobals "NAME" = some (some (.str "NAME" q6)))
    (y_NUMBER : PySem.W.nsIn K mainGlobals "NUMBER" = some (some (.str "NUMBER" q7)))
    (aR_ : PySem.W.nsIn K mainGlobals "RULES" = some (some (.ref aR)))
    (aN_ : PySem.W.nsIn K mainGlobals "NOTHING" = some (some (.ref aN)))
    (lR : K.lookup aR = some ⟨.type "dict", none, .dict esR nR, #[]⟩)
    (lN : K.lookup aN = some ⟨.type "tuple", dN, .seq #[] nN, sN⟩)
    (lowR : (aR == sysModules) = false)
    (keys : PySem.W.KeysLit w.params esR.toList)
    (r0 : PySem.W.nsIn K aR "SCRIPT" = some (some (.ref t0)))
    (r1 : PySem.W.nsIn K aR "DEEDS" = some (some (.ref t1)))
    (r2 : PySem.W.nsIn K aR "PLACE" = some (some (.ref t2)))
    (r3 : PySem.W.nsIn K aR "{" = some none)
    (r4 : PySem.W.nsIn K aR ";" = some none)
    (r5 : PySem.W.nsIn K aR "NUMBER" = some none)
    (h0 : K.lookup t0 = some ⟨.type "tuple", dd0, .seq #[.ref u0] nn0, ss0⟩)
    (h1 : K.lookup t1 = some ⟨.type "tuple", dd1, .seq #[.ref u1, .ref u2, .ref u3] nn1, ss1⟩)
    (h2 : K.lookup t2 = some ⟨.type "tuple", dd2, .seq #[.ref u4] nn2, ss2⟩)
    (e0 : K.lookup u0 = some ⟨.type "tuple", dd3, .seq #[.str "script" g0_0, .str "{" g0_1, .str "DEEDS" g0_2] nn3, ss3⟩)
    (e1 : K.lookup u1 = some ⟨.type "tuple", dd4, .seq #[.str "hang" g1_0, .str "PLACE" g1_1, .str "PLACE" g1_2, .str ";" g1_3, .str "DEEDS" g1_4] nn4, ss4⟩)
    (e2 : K.lookup u2 = some ⟨.type "tuple", dd5, .seq #[.str "stretch" g2_0, .str "PLACE" g2_1, .str "PLACE" g2_2, .str "PLACE" g2_3, .str "PLACE" g2_4, .str ";" g2_5, .str "DEEDS" g2_6] nn5, ss5⟩)
    (e3 : K.lookup u3 = some ⟨.type "tuple", dd6, .seq #[.str "}" g3_0] nn6, ss6⟩)
    (e4 : K.lookup u4 = some ⟨.type "tuple", dd7, .seq #[.str "NAME" g4_0, .str "NUMBER" g4_1] nn7, ss7⟩) :
    ∃ fd : FuncData, (∀ (s : Shared) (v : Value), BindsTo s fd ⟨[v], []⟩ [("_law_script", v)]) ∧ ∀ base : Heap, K.In base → base.Ns mainGlobals mg → FnG l.prog w K mg base 8 fa fd ["_law_script"] (spLaw K) := by
  have e := hfa.symm.trans (PySem.W.mg_of KX G aW)
  cases e
  have B : Blt mg := ⟨PySem.W.mg_none_of KX G z_int, PySem.W.mg_none_of KX G z_abs, PySem.W.mg_none_of KX G z_len, PySem.W.mg_none_of KX G z_max⟩
  have N : Nm mg := ⟨⟨_, PySem.W.mg_of KX G y_NAME⟩, ⟨_, PySem.W.mg_of KX G y_NUMBER⟩, PySem.W.mg_none_of KX G z_reversed, PySem.W.mg_none_of KX G z_range, PySem.W.mg_none_of KX G z_list⟩
  have mTu := PySem.W.mg_none_of KX G z_tuple
  have mRe := PySem.W.mg_none_of KX G z_repr
  have T : Cts mg := ⟨⟨_, PySem.W.mg_of KX G y_LETTERS⟩, ⟨_, PySem.W.mg_of KX G y_DIGITS⟩, ⟨_, PySem.W.mg_of KX G y_SIGNS⟩, ⟨_, PySem.W.mg_of KX G y_BLANKS⟩, ⟨_, PySem.W.mg_of KX G y_LONGEST⟩⟩
  have cl : Cls K C := ⟨cpg, chd, cpo, csa⟩
  have na : NoAttr K C "_awaited" := cna
  have M : Mk K C fmI := ⟨cmk, amI, imI, ckp⟩
  have meO : Meth K C "_open_rules" fmO := ⟨amO, imO, kmO⟩
  have meT : Meth K C "takes" fmT := ⟨amT, imT, kmT⟩
  have meD : Meth K C "is_complete" fmD := ⟨amD, imD, kmD⟩
  have q0 : ∀ H, SqT K H u0 ((["script", "{", "DEEDS"] : List Str).map V.str) := sqT_of e0 (by simp) (.cons v1 (.cons v1 (.cons v1 .nil)))
  have q1' : ∀ H, SqT K H u1 ((["hang", "PLACE", "PLACE", ";", "DEEDS"] : List Str).map V.str) := sqT_of e1 (by simp) (.cons v1 (.cons v1 (.cons v1 (.cons v1 (.cons v1 .nil)))))
  have q2' : ∀ H, SqT K H u2 ((["stretch", "PLACE", "PLACE", "PLACE", "PLACE", ";", "DEEDS"] : List Str).map V.str) := sqT_of e2 (by simp) (.cons v1 (.cons v1 (.cons v1 (.cons v1 (.cons v1 (.cons v1 (.cons v1 .nil)))))))
  have q3' : ∀ H, SqT K H u3 ((["}"] : List Str).map V.str) := sqT_of e3 (by simp) (.cons v1 .nil)
  have q4' : ∀ H, SqT K H u4 ((["NAME", "NUMBER"] : List Str).map V.str) := sqT_of e4 (by simp) (.cons v1 (.cons v1 .nil))
  have R : Rul K w mg aR aN := by
    refine ⟨PySem.W.mg_of KX G aR_, PySem.W.mg_of KX G aN_, fun H => sqT_of lN (by decide) .nil H, ⟨_, _, lR⟩, fun z hz => ?_, fun z hz => ?_⟩
    · simp only [forms, List.mem_cons, List.not_mem_nil, or_false] at hz
      rcases hz with rfl | rfl | rfl
      · exact ⟨t0, ⟨_, _, _, lR, keys, lowR, r0, rfl⟩, fun H => by rw [show rulesOf "SCRIPT" = ([["script", "{", "DEEDS"]] : List (List Str)) by decide +kernel]; exact rows1 (sqT_of h0 (by simp) (.cons vr .nil) H) (q0 H)⟩
      · exact ⟨t1, ⟨_, _, _, lR, keys, lowR, r1, rfl⟩, fun H => by rw [show rulesOf "DEEDS" = ([["hang", "PLACE", "PLACE", ";", "DEEDS"], ["stretch", "PLACE", "PLACE", "PLACE", "PLACE", ";", "DEEDS"], ["}"]] : List (List Str)) by decide +kernel]; exact rows3 (sqT_of h1 (by simp) (.cons vr (.cons vr (.cons vr .nil))) H) (q1' H) (q2' H) (q3' H)⟩
      · exact ⟨t2, ⟨_, _, _, lR, keys, lowR, r2, rfl⟩, fun H => by rw [show rulesOf "PLACE" = ([["NAME", "NUMBER"]] : List (List Str)) by decide +kernel]; exact rows1 (sqT_of h2 (by simp) (.cons vr .nil) H) (q4' H)⟩
    · simp only [signsW, List.mem_cons, List.not_mem_nil, or_false] at hz
      rcases hz with rfl | rfl | rfl
      · exact ⟨_, _, _, lR, keys, lowR, r3, trivial⟩
      · exact ⟨_, _, _, lR, keys, lowR, r4, trivial⟩
      · exact ⟨_, _, _, lR, keys, lowR, r5, trivial⟩
  have FmI := fun_mk (st := sInit) lmI dmI kmI
  have bmI := FmI.binds (ps := ["self", "form"]) fun _ _ _ _ _ _ us hl => match us, hl with | [_, _], _ => rfl
  have FmO := fun_mk (st := sOpen) lmO dmO kmO
  have bmO := FmO.binds (ps := ["self"]) fun _ _ _ _ _ _ us hl => match us, hl with | [_], _ => rfl
  have FmT := fun_mk (st := sTakes) lmT dmT kmT
  have bmT := FmT.binds (ps := ["self", "sort", "lexeme"]) fun _ _ _ _ _ _ us hl => match us, hl with | [_, _, _], _ => rfl
  have FmD := fun_mk (st := sDone) lmD dmD kmD
  have bmD := FmD.binds (ps := ["self"]) fun _ _ _ _ _ _ us hl => match us, hl with | [_], _ => rfl
  have FT := fun_mk (st := sIsTold) lT dT kT
  have bT := FT.binds (ps := ["awaited", "sort", "lexeme"]) fun _ _ _ _ _ _ us hl => match us, hl with | [_, _, _], _ => rfl
  have FRE := fun_mk (st := sRun) lRE dRE kRE
  have bRE := FRE.binds (ps := ["text", "place", "letters"]) fun _ _ _ _ _ _ us hl => match us, hl with | [_, _, _], _ => rfl
  have FLA := fun_mk (st := sLexAt) lLA dLA kLA
  have bLA := FLA.binds (ps := ["text", "place"]) fun _ _ _ _ _ _ us hl => match us, hl with | [_, _], _ => rfl
  have FSC := fun_mk (st := sScan) lSC dSC kSC
  have bSC := FSC.binds (ps := ["text"]) fun _ _ _ _ _ _ us hl => match us, hl with | [_], _ => rfl
  have FLO := fun_mk (st := sLexOf) lLO dLO kLO
  have bLO := FLO.binds (ps := ["form", "text"]) fun _ _ _ _ _ _ us hl => match us, hl with | [_, _], _ => rfl
  have FHR := fun_mk (st := sHead) lHR dHR kHR
  have bHR := FHR.binds (ps := ["form", "text"]) fun _ _ _ _ _ _ us hl => match us, hl with | [_, _], _ => rfl
  have FDO := fun_mk (st := sDeed) lDO dDO kDO
  have bDO := FDO.binds (ps := ["row"]) fun _ _ _ _ _ _ us hl => match us, hl with | [_], _ => rfl
  have FRS := fun_mk (st := sRead) lRS dRS kRS
  have bRS := FRS.binds (ps := ["text"]) fun _ _ _ _ _ _ us hl => match us, hl with | [_], _ => rfl
  have FRT := fun_mk (st := sRowsT) lRT dRT kRT
  have bRT := FRT.binds (ps := ["head", "rows"]) fun _ _ _ _ _ _ us hl => match us, hl with | [_, _], _ => rfl
  have FDT := fun_mk (st := sDeedT) lDT dDT kDT
  have bDT := FDT.binds (ps := ["deed"]) fun _ _ _ _ _ _ us hl => match us, hl with | [_], _ => rfl
  have FST := fun_mk (st := sScrT) lST dST kST
  have bST := FST.binds (ps := ["script"]) fun _ _ _ _ _ _ us hl => match us, hl with | [_], _ => rfl
  have FS := fun_mk (st := sSource) lS dS kS
  have bS := FS.binds (ps := ["_law_script"]) fun _ _ _ _ _ _ us hl => match us, hl with | [_], _ => rfl
  have FP := fun_mk (st := sPick) lP dP kP
  have bP := FP.binds (ps := ["_law_source_here", "_law_many"]) fun _ _ _ _ _ _ us hl => match us, hl with | [_, _], _ => rfl
  have FO := fun_mk (st := sOf) lO dO kO
  have bO := FO.binds (ps := ["_law_source_here", "_law_some"]) fun _ _ _ _ _ _ us hl => match us, hl with | [_, _], _ => rfl
  have FJ := fun_mk (st := sJoined) lJ dJ kJ
  have bJ := FJ.binds (ps := ["_law_signs"]) fun _ _ _ _ _ _ us hl => match us, hl with | [_], _ => rfl
  have FG := fun_mk (st := sSpaced) lG dG kG
  have bG := FG.binds (ps := ["_law_source_here", "_law_signs"]) fun _ _ _ _ _ _ us hl => match us, hl with | [_, _], _ => rfl
  have FX := fun_mk (st := sSLex) lX dX kX
  have bX := FX.binds (ps := ["_law_script"]) fun _ _ _ _ _ _ us hl => match us, hl with | [_], _ => rfl
  have FD := fun_mk (st := sDrawn) lD dD kD
  have bD := FD.binds (ps := ["_law_source_here"]) fun _ _ _ _ _ _ us hl => match us, hl with | [_], _ => rfl
  have FL := fun_mk (st := sLong) lL dL kL
  have bL := FL.binds (ps := []) fun _ _ _ _ _ _ us hl => match us, hl with | [], _ => rfl
  have FW := fun_mk (st := sLaw) lW dW kW
  have bW := FW.binds (ps := ["_law_script"]) fun _ _ _ _ _ _ us hl => match us, hl with | [_], _ => rfl
  refine ⟨PySem.W.fnOf "law" "law" (defArgs sLaw) (defBody sLaw) (defScope sLaw) .none kVW dcW pmW anW cdW ctW, fun s v => .of_eq rfl, fun base _ _ => ?_⟩
  have iS := ok_source (P := l.prog) (w := w) (base := base) FS B
  have iP := ok_pick (P := l.prog) (w := w) (K := K) (base := base) FP B
  have iO := ok_of FO B iP bP (PySem.W.mg_of KX G aP) kP
  have iG := ok_spaced FG iO bO (PySem.W.mg_of KX G aO) kO
  have iRE := ok_run (P := l.prog) (w := w) (base := base) FRE B
  have iLA := ok_lexAt FLA T iRE bRE (PySem.W.mg_of KX G aRE) kRE
  have iSC := ok_scan FSC B T iLA bLA (PySem.W.mg_of KX G aLA) kLA
  have iI := ok_rInit (P := l.prog) (w := w) (mg := mg) (base := base) FmI cl na
  have iD := ok_rDone (P := l.prog) (w := w) (base := base) FmD B cl na
  have iOp := ok_open (P := l.prog) (base := base) FmO B N R cl na
  have iT := ok_isTold (P := l.prog) (w := w) (base := base) FT N
  have iTk := ok_takes FmT N cl na meO iOp bmO iT bT (PySem.W.mg_of KX G aT) kT
  have iLO := ok_lexOf FLO cl M (PySem.W.mg_of KX G aC) iSC bSC (PySem.W.mg_of KX G aSC) kSC iI bmI meT iTk bmT meD iD bmD
  have iHR := ok_head FHR iLO bLO (PySem.W.mg_of KX G aLO) kLO
  have iDO := ok_deed (P := l.prog) (w := w) (base := base) FDO B N
  have iRS := ok_read FRS iHR bHR (PySem.W.mg_of KX G aHR) kHR iDO bDO (PySem.W.mg_of KX G aDO) kDO
  have iRT := ok_rowsT (P := l.prog) (w := w) (mg := mg) (base := base) FRT
  have iDT := ok_deedT (P := l.prog) (w := w) (mg := mg) (base := base) FDT
  have iST := ok_scrT FST iRT bRT (PySem.W.mg_of KX G aRT) kRT iDT bDT (PySem.W.mg_of KX G aDT) kDT
  have iJ := ok_joined (P := l.prog) (w := w) (mg := mg) (base := base) FJ
  have iX := ok_slex (P := l.prog) (w := w) (base := base) FX mRe
  have iDr := ok_drawn FD N mTu iO bO (PySem.W.mg_of KX G aO) kO iP bP (PySem.W.mg_of KX G aP) kP
  have iL := ok_longR FL N mRe iST bST (PySem.W.mg_of KX G aST) kST iJ bJ (PySem.W.mg_of KX G aJ) kJ iX bX (PySem.W.mg_of KX G aX) kX iRS bRS (PySem.W.mg_of KX G aRS) kRS
  exact ok_law FW N mTu mRe ⟨_, _, iS, bS, (PySem.W.mg_of KX G aS), kS⟩ ⟨_, _, iP, bP, (PySem.W.mg_of KX G aP), kP⟩ ⟨_, _, iL, bL, (PySem.W.mg_of KX G aL), kL⟩ ⟨_, _, iDr, bD, (PySem.W.mg_of KX G aD), kD⟩ ⟨_, _, iX, bX, (PySem.W.mg_of KX G aX), kX⟩ ⟨_, _, iST, bST, (PySem.W.mg_of KX G aST), kST⟩
    ⟨_, _, iJ, bJ, (PySem.W.mg_of KX G aJ), kJ⟩ ⟨_, _, iG, bG, (PySem.W.mg_of KX G aG), kG⟩ ⟨_, _, iRS, bRS, (PySem.W.mg_of KX G aRS), kRS⟩
end Bc
open PySem PySem.W PyProof.Rows
set_option maxRecDepth 100000 in
set_option maxHeartbeats 0 in
theorem PySem.Challenge.cw_bushcoins_k14_texts_of_scripts_holds : PySem.Challenge.rw_bushcoins_k14_texts_of_scripts.Holds := by
  w_on; o_law; k_head; (case hw => w_witness2)
  k_fill
  refine Bc.walkG (l := PySem.Challenge.rw_bushcoins_k14_texts_of_scripts) (n := 63) (k := 8) (x := "_law_script") (sp := fun w => Bc.spLaw _) rfl (by decide) rfl ⟨rfl, by decide, by decide⟩ (fun w h Y => PySem.W.kIn_of Y) ?F (fun _ _ a ns hl _ hS => ⟨a, ns, rfl, hS, hl, fun _ => rfl⟩)
  case F =>
    intro w mg fa h KX G hmg
    refine' Bc.all_mk KX G hmg ?aC ?cpg ?chd ?cpo ?csa ?cna ?cmk ?ckp ?amI ?lmI ?dmI ?kmI ?imI ?amO ?lmO ?dmO ?kmO ?imO ?amT ?lmT ?dmT ?kmT ?imT ?amD ?lmD ?dmD ?kmD ?imD ?aT ?lT ?dT ?kT ?aRE ?lRE ?dRE ?kRE ?aLA ?lLA ?dLA ?kLA ?aSC ?lSC ?dSC ?kSC ?aLO ?lLO ?dLO ?kLO ?aHR ?lHR ?dHR ?kHR ?aDO ?lDO ?dDO ?kDO ?aRS ?lRS ?dRS ?kRS ?aRT ?lRT ?dRT ?kRT ?aDT ?lDT ?dDT ?kDT ?aST ?lST ?dST ?kST ?aS ?lS ?dS ?kS ?aP ?lP ?dP ?kP ?aO ?lO ?dO ?kO ?aJ ?lJ ?dJ ?kJ ?aG ?lG ?dG ?kG ?aX ?lX ?dX ?kX ?aD ?lD ?dD ?kD ?aL ?lL ?dL ?kL ?aW ?lW ?dW ?kW ?z_int ?z_abs ?z_len ?z_max ?z_reversed ?z_range ?z_list ?z_tuple ?z_repr ?y_LETTERS ?y_DIGITS ?y_SIGNS ?y_BLANKS ?y_LONGEST ?y_NAME ?y_NUMBER ?aR_ ?aN_ ?lR ?lN ?lowR ?keys ?r0 ?r1 ?r2 ?r3 ?r4 ?r5 ?h0 ?h1 ?h2 ?e0 ?e1 ?e2 ?e3 ?e4
    (case aC => k_is)
    (case cpg => kernel_rfl)
    (case chd => kernel_rfl)
    (case cpo => kernel_rfl)
    (case csa => k_is)
    (case cna => k_is)
    (case cmk => kernel_rfl)
    (case ckp => kernel_rfl)
    (case amI => k_is)
    (case lmI => k_is)
    (case dmI => k_is)
    (case kmI => k_is)
    (case imI => kernel_rfl)
    (case amO => k_is)
    (case lmO => k_is)
    (case dmO => k_is)
    (case kmO => k_is)
    (case imO => kernel_rfl)
    (case amT => k_is)
    (case lmT => k_is)
    (case dmT => k_is)
    (case kmT => k_is)
    (case imT => kernel_rfl)
    (case amD => k_is)
    (case lmD => k_is)
    (case dmD => k_is)
    (case kmD => k_is)
    (case imD => kernel_rfl)
    (case aT => k_is)
    (case lT => k_is)
    (case dT => k_is)
    (case kT => k_is)
    (case aRE => k_is)
    (case lRE => k_is)
    (case dRE => k_is)
    (case kRE => k_is)
    (case aLA => k_is)
    (case lLA => k_is)
    (case dLA => k_is)
    (case kLA => k_is)
    (case aSC => k_is)
    (case lSC => k_is)
    (case dSC => k_is)
    (case kSC => k_is)
    (case aLO => k_is)
    (case lLO => k_is)
    (case dLO => k_is)
    (case kLO => k_is)
    (case aHR => k_is)
    (case lHR => k_is)
    (case dHR => k_is)
    (case kHR => k_is)
    (case aDO => k_is)
    (case lDO => k_is)
    (case dDO => k_is)
    (case kDO => k_is)
    (case aRS => k_is)
    (case lRS => k_is)
    (case dRS => k_is)
    (case kRS => k_is)
    (case aRT => k_is)
    (case lRT => k_is)
    (case dRT => k_is)
    (case kRT => k_is)
    (case aDT => k_is)
    (case lDT => k_is)
    (case dDT => k_is)
    (case kDT => k_is)
    (case aST => k_is)
    (case lST => k_is)
    (case dST => k_is)
    (case kST => k_is)
    (case aS => k_is)
    (case lS => k_is)
    (case dS => k_is)
    (case kS => k_is)
    (case aP => k_is)
    (case lP => k_is)
    (case dP => k_is)
    (case kP => k_is)
    (case aO => k_is)
    (case lO => k_is)
    (case dO => k_is)
    (case kO => k_is)
    (case aJ => k_is)
    (case lJ => k_is)
    (case dJ => k_is)
    (case kJ => k_is)
    (case aG => k_is)
    (case lG => k_is)
    (case dG => k_is)
    (case kG => k_is)
    (case aX => k_is)
    (case lX => k_is)
    (case dX => k_is)
    (case kX => k_is)
    (case aD => k_is)
    (case lD => k_is)
    (case dD => k_is)
    (case kD => k_is)
    (case aL => k_is)
    (case lL => k_is)
    (case dL => k_is)
    (case kL => k_is)
    (case aW => k_is)
    (case lW => k_is)
    (case dW => k_is)
    (case kW => k_is)
    (case z_int => k_is)
    (case z_abs => k_is)
    (case z_len => k_is)
    (case z_max => k_is)
    (case z_reversed => k_is)
    (case z_range => k_is)
    (case z_list => k_is)
    (case z_tuple => k_is)
    (case z_repr => k_is)
    (case y_LETTERS => k_is)
    (case y_DIGITS => k_is)
    (case y_SIGNS => k_is)
    (case y_BLANKS => k_is)
    (case y_LONGEST => k_is)
    (case y_NAME => k_is)
    (case y_NUMBER => k_is)
    (case aR_ => k_is)
    (case aN_ => k_is)
    (case lR => k_is)
    (case lN => k_is)
    (case lowR => decide)
    (case keys => exact ⟨⟨_, _, rfl, rfl⟩, ⟨_, _, rfl, rfl⟩, ⟨_, _, rfl, rfl⟩, ⟨_, _, rfl, rfl⟩, ⟨_, _, rfl, rfl⟩, ⟨_, _, rfl, rfl⟩, ⟨_, _, rfl, rfl⟩, ⟨_, _, rfl, rfl⟩, ⟨_, _, rfl, rfl⟩, ⟨_, _, rfl, rfl⟩, ⟨_, _, rfl, rfl⟩, ⟨_, _, rfl, rfl⟩, ⟨_, _, rfl, rfl⟩, ⟨_, _, rfl, rfl⟩, ⟨_, _, rfl, rfl⟩, trivial⟩)
    (case r0 => k_is)
    (case r1 => k_is)
    (case r2 => k_is)
    (case r3 => k_is)
    (case r4 => k_is)
    (case r5 => k_is)
    (case h0 => k_is)
    (case h1 => k_is)
    (case h2 => k_is)
    (case e0 => k_is)
    (case e1 => k_is)
    (case e2 => k_is)
    (case e3 => k_is)
    (case e4 => k_is)
#print axioms PySem.Challenge.cw_bushcoins_k14_texts_of_scripts_holds

