import PyProof.Rows.All
import Wide.All
import OpenK.AllK
import Wide.FinOn
import PyProof.EqAt
import PyProof.EqKinds
import PyProof.TupleCall
import KE.KIsAll
import KE.KExcInit
import PyProof.Rows.ReprR
import HandS.Base
import HandS.Call
import HandS.List
import HandS.Comp
import HandS.Dict
import HandS.Iter
import HandS.Text
import HandS.Ends
import HandS.Exc
import HandS.ExcOwn
import HandS.ExcInit
import HandS.ExcIs
import HandS.ExcValue
import HandS.IsInst
import HandS.Style
import HandS.Conv
import HandS.Words
import HandS.WordsList
import HandS.WordsDict
import PySem.Challenge.RW_bushcoins_k00_errors
set_option Elab.async false
set_option linter.all false
set_option maxRecDepth 100000
set_option maxHeartbeats 4000000
/-! Guarded defs (nothing is being shown by repr), exceptions as values, repr of data. -/
namespace Bc
open PySem PySem.Spec PyProof.Rows L2

/-! ### a def's promise where no repr is under way -/
structure FnG (P : Program) (w : World) (K : PySem.W.Frag) (mg : Str → Option Value) (base : Heap) (k : Nat) (f : Addr) (fd : FuncData) (ps : List Str) (sp : Sp) : Prop where
  len : ∀ vs H Q E, sp vs H Q E → vs.length = ps.length
  go : ∀ (A : Around) (outer : List Env) (s : Shared) (H : Hp) (args : Args) (us : List Value) (vs : List V) (Q : VK) (E : XK), Room k A → A.guards = some [] →
    Env0 P w K mg base A outer s H → BindsTo s fd args (ps.zip us) → Vals vs us → sp vs H Q E →
    codeAny (model P w) A (.call (.ref f) args) (CR CX0 outer P w H s Q E) s

section
variable {P : Program} {w : World} {K : PySem.W.Frag} {mg : Str → Option Value} {base : Heap}
theorem FnG.body {x qual : Str} {st : Stmt} {f : Addr} {fd : FuncData} {N ps : List Str} {k : Nat} {sp : Sp}
    (F : Fun K x qual st f fd) (S : FnScope N ps (defScope st)) (hlen : ∀ vs H Q E, sp vs H Q E → vs.length = ps.length)
    (hb : ∀ (cdv : Value) (A : Around) (outer : List Env) (s : Shared) (H : Hp) (vs : List V) (Q : VK) (E : XK),
      Room k (A.deeper (envOfC qual (defScope st) s.heap.objs.size f cdv)) → (A.deeper (envOfC qual (defScope st) s.heap.objs.size f cdv)).guards = some [] → sp vs H Q E →
      ∃ t, PSs (cxOf CX0 P w K mg base N qual (defScope st) f cdv A outer s H E).nox (defBody st) t ∧ t { nx := fun _ H' => Q .non H', rt := Q } (start N vs) H) :
    FnG P w K mg base (k + 1) f fd ps sp := by
  obtain ⟨oc, od, kV, doc, pm, an, cdv, ct, osl, rfl, lk, hcd⟩ := F.ex
  refine ⟨hlen, fun A outer s H args us vs Q E hr hg e0 hbd r hsp => ?_⟩
  -- the promise of this one call, told of all calls with these arguments
  let sp1 : Sp := fun vs' H' Q' E' => vs' = vs ∧ H' = H ∧ sp vs' H' Q' E' ∧ True
  have hl := hlen _ _ _ _ hsp
  have KX : K.In s.heap := e0.mod.kin.keeps fun b o e => (e0.bs b o e).1
  have lim : s.heap.NoLimit := e0.mod.nolimit.keeps fun b o e => (e0.bs b o e).1
  have hkind : ∀ y ∈ ps.zip us, (defScope st).names.lookup y.1 = some .local ∨
      ((defScope st).names.lookup y.1 = some .cell ∧ ((cellsFrom (s.heap.objs.size + 1) (defScope st).names []).lookup y.1).isSome = true) := by
    intro y hy
    rcases S.par y.1 (List.of_mem_zip (a := y.1) (b := y.2) hy).1 with q | q
    · exact Or.inl q
    · exact Or.inr ⟨q, PySem.W.cellsFrom_some _ _ _ (Or.inl q)⟩
  refine codeAny_call_function hr.depth (KX _ _ lk) rfl S.co S.gen rfl (PySem.W.codeRec_of KX hcd) (hbd _ _ _ _ ?_)
  refine wpAny_newFunctionEnv_cells S.kind hkind fun env he s1 x => ?_
  subst he
  refine ⟨lim.keeps x.toInCall.keep, codeAny_func ?_⟩
  obtain ⟨t, ht, hq⟩ := hb cdv A outer s H vs Q E (hr.deeper _) hg hsp
  have I : Inv (cxOf CX0 P w K mg base N qual (defScope st) f cdv A outer s H E) [] (start N vs) H s1 := inv_start S hr.hd e0 hl r x
  refine wpAny_mono (ht.nox.run [] s1 (start N vs) H _ I hq) (fun fl s' hs => ?_) fun e s' hs => hs
  cases fl with
  | ret u =>
    obtain ⟨v, σ', H', J, rv, q⟩ := hs
    exact ⟨v, H', J.os, J.bare, J.base, J.hok, rv, q⟩
  | next =>
    obtain ⟨σ', H', J, q⟩ := hs
    exact ⟨V.non, H', J.os, J.bare, J.base, J.hok, rfl, q⟩
  | brk =>
    obtain ⟨_, _, _, q⟩ := hs
    exact q.elim
  | cont =>
    obtain ⟨_, _, _, q⟩ := hs
    exact q.elim
end
section
variable {X : Cx} {k : Nat} {f : Addr} {fd : FuncData} {ps : List Str} {sp : Sp} {x : Str} {p pos : Pos} {e : Expr} {es : List Expr} {t : TA}
/-- f(e, ..), f a guarded def -/
theorem pe_callG (F : FnG X.prog X.w X.K X.mg X.base k f fd ps sp) (hr : Room k X.A) (hgu : X.A.guards = some []) (hg : Gl X x) (hm : X.mg x = some (.ref f)) (hk : PySem.W.keepIn X.K (.ref f) = true)
    (hb : Binds X.K fd ps []) (ha : PA X (e :: es) t) (hdb : (x == ("__debug__" : Str)) = false := by decide)
    (he : starEach (e :: es) X.env = (false, eval e X.env) :: starEach es X.env := by rfl) (hpl : (backTo pos (starEach es X.env)).any (·.1) = false := by rfl) :
    PE X (.Call (.Name x p) (e :: es) [] pos) (tCall sp [] E0 t) := by
  refine ⟨fun pins s σ H Q I h => ?_⟩
  refine wpAny_Call_Name_kw (ld_glob I hg hm ?_ hdb)
  refine PySem.W.callWith_K (h₀ := X.base) I.ok.mod.kin hk (thn (ha.run pos pins s σ H _ I h) fun us s1 ⟨vs, H1, I1, r, q⟩ => ⟨I1.kIn, ?_⟩) he hpl
  have q' : sp vs H1 Q E0 := by
    have z : sp (vs ++ []) H1 Q E0 := q
    rwa [List.append_nil] at z
  have hl : (us ++ []).length = ps.length := by
    rw [List.append_nil, ← r.length]
    exact F.len _ _ _ _ q'
  have hbd := hb s1 us I1.kIn hl
  rw [List.append_nil] at hbd
  refine wpAny_call (codeAny_mono (F.go X.A X.stack s1 H1 ⟨us, []⟩ us vs Q E0 hr hgu I1.env0 hbd r q') fun r s' hq => ?_)
  cases r with
  | error e => exact hq.elim
  | ok fl =>
    cases fl with
    | ret u => exact I1.after hq
    | next => exact hq.elim
    | brk => exact hq.elim
    | cont => exact hq.elim
end
end Bc

namespace Bc
open PySem PySem.Spec PyProof.Rows L2

/-! ### the end of a law by a guarded def -/
/-- what a law's call has to come to -/
abbrev LawEnd (s₁ : Shared) : Result → Shared → Prop := fun r s' => r = .ok (.ret (.bool true)) ∧ OldK s₁.heap s'.heap ∧ s'.os = s₁.os ∧ AllBare s'.gens

theorem lawG_core {P : Program} {w : World} {K : PySem.W.Frag} {mg mb : Str → Option Value} {k : Nat} {fa a : Addr} {fd : FuncData} {x : Str} {sp : Sp} {s₁ : Shared} {vs : List Value} {H : Hp}
    (kin : K.In s₁.heap) (hns : s₁.heap.Ns mainGlobals mg) (hb : s₁.heap.Ns builtinsNs mb) (hbb : ∀ x : Str, x ≠ "__name__" → mb x = bootBuiltins x) (hlim : s₁.heap.NoLimit) (hg : s₁.gens = #[])
    (ha : s₁.heap.get? a = some { cls := .type "list", data := .seq vs.toArray }) (hr : Room k callerA)
    (hF : ∀ base : Heap, K.In base → base.Ns mainGlobals mg → FnG P w K mg base k fa fd [x] sp) (hbd : ∀ (s : Shared) (u : Value), BindsTo s fd ⟨[u], []⟩ [(x, u)])
    (hsp : sp [.ref a] H (fun v _ => v = .bl true) E0) (hO : Only H) (hok : HOk P w H s₁.heap) (only : ∀ b, H b ≠ none → b = a) (hK : H a ≠ none → K.lookup a = none) :
    codeAny (model P w) callerA (.call (.ref fa) ⟨[.ref a], []⟩) (LawEnd s₁) s₁ := by
  have down : ∀ {b : Addr} {o : Obj}, s₁.heap.get? b = some o → H b = none → (hidT s₁.heap H).get? b = some o := fun h1 h2 => hidT_get h1 h2
  have nodict : ∀ {b : Addr} {o : Obj} {es : Array DictEntry} {ep : Nat}, s₁.heap.get? b = some o → o.data = .dict es ep → H b = none := by
    intro b o es ep h1 h2
    cases q : H b with
    | none => rfl
    | some u =>
      have z : b = a := only b (by rw [q]; exact Option.some_ne_none u)
      subst z
      rw [ha] at h1
      cases h1
      cases h2
  have nsd : ∀ {b : Addr} {m : Str → Option Value}, s₁.heap.Ns b m → (hidT s₁.heap H).Ns b m := by
    rintro b m ⟨o, es, ep, h1, h2, r⟩
    exact ⟨o, es, ep, down h1 (nodict h1 h2), h2, r⟩
  have kind : K.In (hidT s₁.heap H) := by
    intro b o e
    refine down (kin b o e) ?_
    cases q : H b with
    | none => rfl
    | some u =>
      have z : b = a := only b (by rw [q]; exact Option.some_ne_none u)
      subst z
      rw [hK (by rw [q]; exact Option.some_ne_none u)] at e
      cases e
  have md : Mod K mg (hidT s₁.heap H) := ⟨kind, nsd hns, ⟨mb, nsd hb, hbb⟩, by
    obtain ⟨mc, h1, h2⟩ := hlim
    exact ⟨mc, nsd h1, h2⟩⟩
  have env : Env0 P w K mg (hidT s₁.heap H) callerA [] s₁ H := ⟨rfl, md, fun b o e => of_hidT e, Nat.le_of_eq (hidT_size _ _), trivial, fun b z => absurd (show b ∈ ([] : List Addr) from z) (by simp), hok, .of_eq hg⟩
  refine codeAny_mono ((hF _ kind (nsd hns)).go callerA [] s₁ H ⟨[.ref a], []⟩ [.ref a] [.ref a] _ _ hr rfl env (hbd s₁ (.ref a)) (.cons rfl .nil) hsp) fun r s' h => ?_
  cases r with
  | error e => exact h.elim
  | ok fl =>
    cases fl with
    | next => exact h.elim
    | brk => exact h.elim
    | cont => exact h.elim
    | ret u =>
      obtain ⟨v, H', os, bare, un, hok', r', q⟩ := h
      have qv : v = .bl true := q
      subst qv
      obtain rfl : u = Value.bool true := r'
      refine ⟨rfl, OldK.of_keep fun b o e => ?_, os, bare⟩
      cases q : H b with
      | none => exact un.keep b o e q (fun z => absurd (show b ∈ ([] : List Addr) from z) (by simp)) (by simp)
      | some u =>
        rcases hO b with z | ⟨ob, xs, z⟩
        · rw [q] at z
          cases z
        · obtain ⟨e1, _⟩ := hok b _ z
          obtain ⟨e2, _⟩ := hok' b _ (un.frzs b ob _ z)
          rw [e] at e1
          cases e1
          exact e2

theorem lawG_call {P : Program} {w : World} {K : PySem.W.Frag} {mg mb : Str → Option Value} {k : Nat} {fa a : Addr} {fd : FuncData} {x : Str} {sp : Sp} {s₁ : Shared} {vs : List Value} {ns : List Int}
    (kin : K.In s₁.heap) (hns : s₁.heap.Ns mainGlobals mg) (hb : s₁.heap.Ns builtinsNs mb) (hbb : ∀ x : Str, x ≠ "__name__" → mb x = bootBuiltins x) (hlim : s₁.heap.NoLimit) (hg : s₁.gens = #[])
    (ha : s₁.heap.get? a = some { cls := .type "list", data := .seq vs.toArray }) (hi : IntsAre vs ns) (hl : ns.length ≤ sizeLine) (hr : Room k callerA)
    (hF : ∀ base : Heap, K.In base → base.Ns mainGlobals mg → FnG P w K mg base k fa fd [x] sp) (hbd : ∀ (s : Shared) (u : Value), BindsTo s fd ⟨[u], []⟩ [(x, u)])
    (hsp : ∀ H : Hp, Only H → SqL K H a (ns.map V.int) → sp [.ref a] H (fun v _ => v = .bl true) E0) :
    codeAny (model P w) callerA (.call (.ref fa) ⟨[.ref a], []⟩) (LawEnd s₁) s₁ := by
  have rv := vals_ints hi
  have lenV := hi.length
  cases hk : K.lookup a with
  | some o =>
    have e := kin a o hk
    rw [ha] at e
    cases e
    have hO : Only (fun _ => none) := fun _ => Or.inl rfl
    have hS : SqL K (fun _ => none) a (ns.map V.int) := Or.inr ⟨_, vs.toArray, _, hk, rfl, rfl, rfl, by rw [List.size_toArray, lenV]; exact hl, by simpa using rv⟩
    exact lawG_core kin hns hb hbb hlim hg ha hr hF hbd (hsp _ hO hS) hO (fun b u z => nomatch (show (none : Option HO) = some u from z)) (fun b z => absurd rfl z) fun z => absurd rfl z
  | none =>
    have hS : SqL K (fun b => if b = a then some (HO.frz { cls := .type "list", data := .seq vs.toArray } (.lst (ns.map V.int))) else none) a (ns.map V.int) :=
      Or.inl (Or.inr ⟨{ cls := .type "list", data := .seq vs.toArray }, if_pos rfl⟩)
    have hO : Only (fun b => if b = a then some (HO.frz { cls := .type "list", data := .seq vs.toArray } (.lst (ns.map V.int))) else none) := by
      intro b
      by_cases z : b = a
      · exact Or.inr ⟨_, _, if_pos z⟩
      · exact Or.inl (if_neg z)
    refine lawG_core kin hns hb hbb hlim hg ha hr hF hbd (hsp _ hO hS) hO (fun b u z => ?_) (fun b z => ?_) fun _ => hk
    · by_cases y : b = a
      · have z' := (if_pos y).symm.trans z
        cases z'
        subst y
        exact ⟨ha, by rw [List.length_map]; exact hl, vs, _, rv, ha⟩
      · have z' := (if_neg y).symm.trans z
        cases z'
    · by_cases y : b = a
      · exact y
      · exact absurd (if_neg y) z

theorem walkG {l : PySem.W.OpenLaw} {n k : Nat} {q : Program} {loose : List Str} {XP : (Str → Option Value) → Heap → Prop} {YP : World → Heap → Prop} {d : DefRec} {K : Params → PySem.W.Frag} {sp : World → Sp} {x : Str}
    (hn : l.most = some n) (hn2 : n ≤ sizeLine) (hdf : d.params.defaults = []) (hr : Room k callerA)
    (hY : ∀ (w : World) (h : Heap), YP w h → (K w.params).In h)
    (F : ∀ (w : World) (mg : Str → Option Value) (fa : Addr) (h : Heap), (K w.params).In h → h.Ns mainGlobals mg → mg d.name = some (.ref fa) →
      ∃ fd : FuncData, (∀ (s : Shared) (u : Value), BindsTo s fd ⟨[u], []⟩ [(x, u)]) ∧
        ∀ base : Heap, (K w.params).In base → base.Ns mainGlobals mg → FnG l.prog w (K w.params) mg base k fa fd [x] (sp w))
    (hsp : ∀ (w : World) (H : Hp) (a : Addr) (ns : List Int), ns.length ≤ n → Only H → SqL (K w.params) H a (ns.map V.int) → sp w [.ref a] H (fun v _ => v = .bl true) E0) :
    PySem.W.WalkO q loose XP YP l.row.toRowW d [] (fun f vs => PySem.call f vs) := by
  refine Att.attach_call hn hdf fun w s₀ s₁ mg mb fa o pm cd doc a vs ns G Y ho hd hcd hmg hobj hints hlen hg => ?_
  have KX := hY w _ Y
  obtain ⟨fd, hb, hF⟩ := F w mg fa _ KX G.T.g hmg
  exact lawG_call KX G.T.g G.T.b G.T.builtins G.T.nolimit hg hobj hints (Nat.le_trans hlen hn2) hr hF hb (fun H hO hS => hsp w H a ns hlen hO hS)

/-! ### own exceptions as values -/
/-- what the written part says of an exception's class -/
structure XC (K : PySem.W.Frag) (C : Addr) : Prop extends ExcC K C where
  kC : PySem.W.keepIn K (.ref C) = true
/-- one whose __init__ is a def at fI -/
structure XI (K : PySem.W.Frag) (C fI : Addr) : Prop extends XC K C where
  cls : ∃ nm q N bs bm sn sub ab col dd k0 k1 k2 k3 k5 B newId initId bmB, ExcBaseFacts B newId initId bmB ∧ StoreFacts B bmB "object.__setattr__" "object" ∧ PySem.W.excTail bmB bm = true ∧
    K.lookup C = some (excClassObj nm q C N bs bm true sn sub ab col dd k0 k1 k2 k3 k5 newId)
  sa : PySem.W.findIn K (.ref C) "__setattr__" = some (some (.builtin "object.__setattr__"))
  iC : PySem.W.findIn K (.ref C) "__init__" = some (some (.ref fI))
  tI : PySem.W.typeIn K (.ref fI) = some (.type "function")

/-- at a stands an exception of the class at C, raised by nobody -/
def XAt (H : Hp) (a C : Addr) : Prop := H a = some (ExO (.ref C) a) ∨ H a = some (exo a C none) ∨ ∃ dx fs, H a = some (exo a C (some dx)) ∧ H dx = some (exd dx fs)
/-- .. with these attributes -/
def XFs (H : Hp) (a C : Addr) (fs : List (Str × V)) : Prop := ∃ dx, H a = some (exo a C (some dx)) ∧ H dx = some (exd dx fs)
theorem XFs.at {H : Hp} {a C : Addr} {fs : List (Str × V)} (x : XFs H a C fs) : XAt H a C := by
  obtain ⟨dx, h1, h2⟩ := x
  exact Or.inr (Or.inr ⟨dx, fs, h1, h2⟩)
theorem XAt.same {H H' : Hp} {a C : Addr} (x : XAt H a C) (s : Same H H') : XAt H' a C := by
  rcases x with x | x | ⟨dx, fs, x, y⟩
  · exact Or.inl (s _ _ x)
  · exact Or.inr (Or.inl (s _ _ x))
  · exact Or.inr (Or.inr ⟨dx, fs, s _ _ x, s _ _ y⟩)
theorem XFs.same {H H' : Hp} {a C : Addr} {fs : List (Str × V)} (x : XFs H a C fs) (s : Same H H') : XFs H' a C fs := by
  obtain ⟨dx, h1, h2⟩ := x
  exact ⟨dx, s _ _ h1, s _ _ h2⟩

section
variable {X : Cx} {pins : List (Addr × Obj)} {σ : L2.St} {H : Hp} {s : Shared} {a C : Addr}
theorem XAt.inst (x : XAt H a C) (I : Inv X pins σ H s) : ∃ oe od, PySem.W.InstAt s.heap a oe C od := by
  rcases x with x | x | ⟨dx, fs, x, y⟩
  · obtain ⟨⟨oe, vs, ho, hz, hd, _⟩, _⟩ := I.hok a _ x
    obtain ⟨oc, od, oda, osl⟩ := oe
    obtain ⟨z1, z2⟩ := hz
    dsimp only at z1 z2 hd
    subst z1 z2 hd
    exact ⟨_, none, ho, rfl, rfl, trivial⟩
  · obtain ⟨t1, ho⟩ := exo_at I.hok x
    exact ⟨_, none, ho, rfl, rfl, trivial⟩
  · obtain ⟨t1, ho⟩ := exo_at I.hok x
    obtain ⟨mA, hns, _⟩ := exd_at I.hok y
    obtain ⟨o, es, ep, e1, _⟩ := hns
    exact ⟨_, some o, ho, rfl, rfl, e1⟩
end

/-! ### isinstance of such -/
section
open PySem.W PySem.Calls
variable {prog : Program} {w : World} {A : Around} {E : Value → Shared → Prop} {s : Shared} {K : Frag} {x D : Addr} {ox : Obj} {od : Option Obj}
theorem found_data {C : Addr} {name : Str} {a g : Value} (hc : (clsIn K C).isSome = true) (ha : findIn K (.ref C) name = some (some a)) (hg : specialIn K a "__get__" = some (some g)) (ht : takesIn K a = some true) : findObj K C od name = some (.bind g a) := by
  cases h : clsIn K C with
  | none =>
    rw [h] at hc
    cases hc
  | some cd =>
    unfold findObj
    simp [h, ha, hg, ht]
theorem class_of_exc {Q : Option Value → Shared → Prop} (T : ExcC K D) (X : K.In s.heap) (I : InstAt s.heap x ox D od) (h : Q (some (.ref D)) { s with toks := s.toks + 1 }) :
    wpAny (model prog w) A (getAttr? (.ref x) "__class__") Q E s := by
  have hsome : (clsIn K D).isSome = true := by
    obtain ⟨cd, hc, _⟩ := any_some T.hd
    rw [hc]
    rfl
  have hf : findObj K D od "__class__" = some (.bind (.builtin "getset_descriptor.__get__") (.builtin "object.__class__")) := found_data hsome T.ha T.hn T.ht
  obtain ⟨hp, g, d, t, os⟩ := s
  have L0 := I.type (M := model prog w)
  have L1 := looks_findIn (M := model prog w) X T.hg
  have L2 := looks_findIn (M := model prog w) X T.hk
  have L3 := looks_find (M := model prog w) X I hf
  have isB : Looks (model prog w) hp (isInstance (.ref x) (.type "BaseException")) true := L0.andThen (looks_subIn X T.hs)
  have n0 : (false && onTheHeap (Value.builtin "BaseException.__getattribute__")) = false := rfl
  have n2 : (Value.builtin "BaseException.__getattribute__" == Value.builtin "object.__getattribute__") = false := by decide +kernel
  have n1 : (onTheHeap (Value.ref D) && Value.builtin "BaseException.__getattribute__" == Value.builtin "object.__getattribute__") = false := by
    rw [n2]
    rfl
  unfold getAttr? getAttrBy? getAttrBy
  refine wpAny_bind (wpAny_mkText (wpAny_bind (wpAny_attempt (wpAny_holding (wpAny_bind (L0.at (wpAny_bind (L1.at ?_))))))))
  show wpAny _ _ (if (onTheHeap (Value.ref D) && Value.builtin "BaseException.__getattribute__" == Value.builtin "object.__getattribute__") = true then _ else _) _ _ _
  rw [n1, if_neg Bool.false_ne_true]
  unfold getAttrByItsOwn hookBefore
  refine wpAny_bind ?_
  rw [if_pos (show onTheHeap (Value.ref D) = true from rfl)]
  refine L2.at (wpAny_bind (wpAny_attempt (wpAny_holding ?_)))
  unfold callGetattribute
  rw [n0, if_neg Bool.false_ne_true]
  unfold boundAndCalled
  rw [PySem.F.excAttr_ValueError.ga.bind (.ref x)]
  refine wpAny_bind (wpAny_pure ?_)
  show wpAny _ _ (call (.builtin "BaseException.__getattribute__") [.ref x, .str "__class__" t]) _ _ _
  refine wpAny_call (codeAny_call_builtin PySem.F.excAttr_ValueError.ga.plain PySem.F.entry_bexc_ga ?_)
  refine @check_slot (model prog w) _ _ ⟨hp, g, d, t + 1, os⟩ "BaseException.__getattribute__" "BaseException" "__getattribute__" (.ref x) [.str "__class__" t] [] _ (by decide +kernel) (by decide +kernel) isB (PySem.F.args_bexc_ga (.ref x) (.str "__class__" t)) ?_
  unfold Builtin.«object.__getattribute__»
  refine wpAny_bind (wpAny_of_eq (a := ((Value.ref x : Value), [Value.str "__class__" t])) (by first | rfl | (simp only [slotArgs]; rfl)) (wpAny_bind (wpAny_pure (wpAny_bind (L0.at (wpAny_bind (L3.at ?_)))))))
  show wpAny _ _ (holding [Value.builtin "object.__class__"] (call (.builtin "getset_descriptor.__get__") [.builtin "object.__class__", .ref x, .ref D]) >>= ret) _ _ _
  refine wpAny_bind (wpAny_holding (wpAny_call (class_get (s := ⟨hp, g, d, t + 1, os⟩) (ox := ox) (od := od) X I T.hm (wpAny_pure ?_))))
  show wpAny _ _ (handedOut (.ref D)) _ _ _
  rw [handedOut_of (v := .ref D) rfl]
  first
    | exact wpAny_pure (wpAny_pure h)
    | exact wpAny_pure h
    | exact wpAny_pure (wpAny_bind (wpAny_pure (wpAny_pure h)))
theorem kitx_exc (T : ExcC K D) : KitX K (.ref x) (.ref D) (fun h => InstAt h x ox D od) := by
  have look : ∃ c' d' cd' sl', K.lookup D = some ⟨c', d', .cls cd', sl'⟩ := by
    obtain ⟨cd, hc, _⟩ := any_some T.hd
    unfold clsIn at hc
    split at hc
    · rename_i c' d' cd' sl' ho
      exact ⟨c', d', cd', sl', ho⟩
    · cases hc
  obtain ⟨c', d', cd', sl', ho⟩ := look
  refine ⟨fun _ _ _ I => I.type, fun M h KX _ => ?_, fun h tp dd its n sl KX htp => ?_, fun KX I k => class_of_exc T KX I k⟩
  · intro A' Q' E' s' k q
    unfold isType loadHead
    exact wpAny_bind (wpAny_loadPart (k _ _ (KX _ _ ho)) (wpAny_pure q))
  · refine Bool.eq_false_iff.mpr fun q => ?_
    have e : D = tp := Value.ref.inj (beq_iff_eq.mp q)
    subst e
    have z := (KX _ _ ho).symm.trans htp
    cases z
end
/-- isinstance(e, c), e an exception's object -/
def rIsX (K : PySem.W.Frag) : List V → Hp → VK → Prop := fun xs H Q => ∃ (a C : Addr) (c : V) (cv : Value) (b : Bool), xs = [.ref a, c] ∧ XAt H a C ∧ ExcC K C ∧ ClsV c cv ∧ PySem.W.kitOne K (.ref C) cv = some b ∧ Q (.bl b) H
def rIsXT (K : PySem.W.Frag) : List V → Hp → VK → Prop := fun xs H Q => ∃ (a C tp : Addr) (cs : List V) (us : List Value) (b : Bool), xs = [.ref a, .ref tp] ∧ H tp = some (.tup cs) ∧ Paired ClsV cs us ∧ XAt H a C ∧ ExcC K C ∧ PySem.W.kitAny K (.ref C) us = some b ∧ Q (.bl b) H
section
variable {X : Cx}
theorem call_isX : CallR X (.builtin "isinstance") (rIsX X.K) := by
  intro pins s σ H xs us Q I r h
  obtain ⟨a, C, c, cv, b, rfl, hx, T, hc, e, q⟩ := h
  obtain ⟨u1, u2, rfl, r1, r2⟩ := vals2 r
  cases (show u1 = Value.ref a from r1)
  have e2 := hc.eq r2
  subst e2
  obtain ⟨oe, od, J⟩ := hx.inst I
  exact PySem.W.kia_one (kitx_exc T) I.kIn J e (fun z => nomatch z) fun tk => ⟨.bl b, H, I.tok tk, rfl, q⟩
theorem call_isXT : CallR X (.builtin "isinstance") (rIsXT X.K) := by
  intro pins s σ H xs us Q I r h
  obtain ⟨a, C, tp, cs, ws, b, rfl, hT, hc, hx, T, e, q⟩ := h
  obtain ⟨u1, u2, rfl, r1, r2⟩ := vals2 r
  cases (show u1 = Value.ref a from r1)
  cases (show u2 = Value.ref tp from r2)
  obtain ⟨oe, od, J⟩ := hx.inst I
  obtain ⟨_, its, rv, o, h1, h2, n, h3⟩ := (show ObjOk X.prog X.w H s.heap tp (.tup cs) from I.hok tp _ hT)
  have e3 := ClsV.all hc rv
  subst e3
  obtain ⟨oc, od', dt, sl⟩ := o
  simp only at h2 h3
  subst h2 h3
  exact PySem.W.kia_tup (kitx_exc T) I.kIn J h1 e (fun z => nomatch z) fun tk => ⟨.bl b, H, I.tok tk, rfl, q⟩
end

/-! ### an attribute of such -/
def tXF (K : PySem.W.Frag) (f : Str) (te : TE) : TE := fun σ H Q => te σ H fun x H1 => ∃ (a C : Addr) (fs : List (Str × V)) (v : V), x = .ref a ∧ XFs H1 a C fs ∧ ExcC K C ∧ PySem.W.findIn K (.ref C) f = some none ∧ fs.lookup f = some v ∧ Q v H1
theorem pe_xF {X : Cx} {e : Expr} {te : TE} {f : Str} {pos : Pos} (he : PE X e te) (hb : attributeBase e f X.env (eval e X.env) = eval e X.env := by rfl) : PE X (.Attribute e f pos) (tXF X.K f te) := by
  refine ⟨fun pins s σ H Q I h => ?_⟩
  refine attr_of hb (thn (he.run pins s σ H _ I h) fun u s1 hh => ?_)
  obtain ⟨x, H1, I1, rx, a, C, fs, v, ex, ⟨dx, ea, ed⟩, T, hno, hl, q⟩ := hh
  subst ex
  obtain rfl : u = Value.ref a := rx
  obtain ⟨t1, ho⟩ := exo_at I1.hok ea
  obtain ⟨mA, hns, hr⟩ := exd_at I1.hok ed
  have hns1 := hns
  obtain ⟨od, hod, hlk⟩ := lookIn_ns hns
  obtain ⟨u, hu, ru⟩ := RelO.some_of (v := v) (o := mA f) (by rw [← hl]; exact hr f)
  have J : PySem.W.InstAt s1.heap a _ C (some od) := ⟨ho, rfl, rfl, hod⟩
  exact HandSPX.exc_get I1.kIn J T.hg T.hk T.hs (PySem.W.findObj_own T.hd hno rfl (by rw [hlk, hu])) (handed_of ru) ⟨v, H1, I1.tok _, ru, q⟩

/-! ### own exceptions made as values -/
/-- C(), no __init__ of its own -/
theorem pe_x0 {X : Cx} {C : Addr} {bmB : List Value} {B newId initId : String} {x : Str} {p pos : Pos} (F : ExcBaseFacts B newId initId bmB) (q : PySem.W.excIn X.K C bmB newId = true) (gC : X.mg x = some (.ref C)) (kC : PySem.W.keepIn X.K (.ref C) = true) (hg : Gl X x)
    (hdb : (x == ("__debug__" : Str)) = false := by decide) :
    PE X (.Call (.Name x p) [] [] pos) (fun σ H Q => ∀ a, H a = none → Q (.ref a) (upd H a (ExO (.ref C) a))) := by
  refine ⟨fun pins s σ H Q I h => ?_⟩
  refine wpAny_Call_Name_kw (ld_glob I hg gC ?_ hdb)
  refine PySem.W.callWith_K0 I.kIn kC ?_
  show wpAny _ _ (call (.ref C) []) _ _ _
  obtain ⟨bm, N, nm, qn, bs, hdct, sn, sub, ab, col, dd, k0, k1, k2, k3, k5, mN, hC, hN, hni, T⟩ := exc_obj I.kIn q
  refine wpAny_call_exc_subT F T hC hN hni (fun h' a hm => ?_) (Nat.zero_le _)
  have hn : H a = none := I.hok.gone hm.new
  obtain ⟨t, ht, _, _⟩ := hm.there
  exact ⟨.ref a, upd H a (ExO (.ref C) a), I.laidN hm.keeps hm.new hn (exO_ok ht ⟨rfl, rfl⟩ rfl rfl rfl (show 4 < 6 by decide)), rfl, h a hn⟩

/-- C(e, ..), C's own __init__ keeping sp -/
def tMkX (C : Addr) (sp : Sp) (ta : TA) : TE := fun σ H Q => ta σ H fun vs H1 => vs.length ≤ 1000 ∧ ∀ a, H1 a = none → sp (.ref a :: vs) (upd H1 a (exo a C none)) (fun v H2 => v = .non ∧ Q (.ref a) H2) E0
theorem pe_mkX {X : Cx} {x : Str} {C fI : Addr} {k : Nat} {fd : FuncData} {ps : List Str} {sp : Sp} {e : Expr} {es : List Expr} {ta : TA} {p pos : Pos} (T : XI X.K C fI)
    (F1 : FnOk X.prog X.w X.K X.mg X.base CX0 k fI fd ps sp) (hr : Room (k + 1) X.A) (hb : Binds X.K fd ps []) (hg : Gl X x) (hm : X.mg x = some (.ref C)) (ha : PA X (e :: es) ta)
    (hdb : (x == ("__debug__" : Str)) = false := by decide) (he : starEach (e :: es) X.env = (false, eval e X.env) :: starEach es X.env := by rfl) (hpl : (backTo pos (starEach es X.env)).any (·.1) = false := by rfl) :
    PE X (.Call (.Name x p) (e :: es) [] pos) (tMkX C sp ta) := by
  refine ⟨fun pins s σ H Q I h => ?_⟩
  obtain ⟨nm, q, N, bs, bm, sn, sub, ab, col, dd, k0, k1, k2, k3, k5, B, newId, initId, bmB, FB, SF, hbm, hC⟩ := T.cls
  refine wpAny_Call_Name_kw (ld_glob I hg hm ?_ hdb)
  refine PySem.W.callWith_K (h₀ := X.base) I.ok.mod.kin T.kC (thn (ha.run pos pins s σ H _ I h) fun us s1 ⟨vs, H1, I1, r1, hz, q1⟩ => ⟨I1.kIn, ?_⟩) he hpl
  show wpAny _ _ (call (.ref C) us) _ _ _
  obtain ⟨hp, g, dr, tk, os⟩ := s1
  have up1 : hp.objs.size ≤ hp.objs.size + 1 := Nat.le_succ _
  have hq := q1 (hp.objs.size + 1) (I1.hok.fresh up1)
  have kk : ∀ b o, hp.get? b = some o → ((hp.push (PySem.W.kdv_tup us)).push (PySem.HandSPX.excO C hp.objs.size)).get? b = some o := fun b o e => Heap.get?_push_of_some _ (Heap.get?_push_of_some _ e)
  have made : ((hp.push (PySem.W.kdv_tup us)).push (PySem.HandSPX.excO C hp.objs.size)).get? (hp.objs.size + 1) = some (PySem.HandSPX.excO C hp.objs.size) := by heap_get
  have I2 : Inv X pins σ (upd H1 (hp.objs.size + 1) (exo (hp.objs.size + 1) C none)) ⟨(hp.push (PySem.W.kdv_tup us)).push (PySem.HandSPX.excO C hp.objs.size), g, dr, tk, os⟩ :=
    I1.laid (t' := tk) (a := hp.objs.size + 1) (o := exo (hp.objs.size + 1) C none) (h' := (hp.push (PySem.W.kdv_tup us)).push (PySem.HandSPX.excO C hp.objs.size)) kk up1 (exo_ok made)
  have r2 : Vals (V.ref (hp.objs.size + 1) :: vs) (Value.ref (hp.objs.size + 1) :: us) := .cons rfl r1
  have hl : (Value.ref (hp.objs.size + 1) :: us ++ []).length = ps.length := by
    rw [List.append_nil, ← r2.length]
    exact F1.len _ _ _ _ hq
  have hus : us.length ≤ sizeLine := by
    rw [← Paired.length r1, sizeLine_eq]
    omega
  have hbd := hb ⟨(hp.push (PySem.W.kdv_tup us)).push (PySem.HandSPX.excO C hp.objs.size), g, dr, tk, os⟩ (Value.ref (hp.objs.size + 1) :: us) I2.kIn hl
  rw [List.append_nil] at hbd
  refine wpAny_call (PySem.HandSPX.call_own FB (fun Y => PySem.W.excTail_contains Y bm hbm) (I1.kIn _ _ hC) (PySem.W.looks_findIn I1.kIn T.iC) (fun self => PySem.W.bind_fn I1.kIn self T.tI) hus
    (codeAny_mono (F1.run _ X.stack _ _ ⟨Value.ref (hp.objs.size + 1) :: us, []⟩ (Value.ref (hp.objs.size + 1) :: us) _ _ E0 (hr.make C us []) (I2.env0.make C us []) hbd r2 hq) fun r s' hq' => ?_))
  cases r with
  | error er => exact hq'.elim
  | ok fl =>
    cases fl with
    | ret u =>
      obtain ⟨v, H2, os2, bare2, un2, hok2, rv, ev, q2⟩ := hq'
      subst ev
      exact ⟨rv, .ref (hp.objs.size + 1), H2, I2.call' (ch := []) os2 un2 hok2 bare2 (fun b z => absurd z (by simp)), rfl, q2⟩
    | next => exact hq'.elim
    | brk => exact hq'.elim
    | cont => exact hq'.elim
end Bc

namespace Bc
open PySem PySem.Spec PyProof.Rows L2

/-! ### data of any depth, dicts among them -/
def keyD : Key → PyData
  | .inl i => .int i
  | .inr x => .str x
mutual
inductive Dq (K : PySem.W.Frag) (H : Hp) : V → PyData → Prop
  | non : Dq K H .non .none
  | bl (b : Bool) : Dq K H (.bl b) (.bool b)
  | int (i : Int) : Dq K H (.int i) (.int i)
  | str (x : Str) : Dq K H (.str x) (.str x)
  | lst {a : Addr} {xs : List V} {ds : List PyData} : SqL K H a xs → DqAll K H xs ds → a ≠ sysModules → Dq K H (.ref a) (.list ds)
  | tup {a : Addr} {xs : List V} {ds : List PyData} : SqT K H a xs → DqAll K H xs ds → Dq K H (.ref a) (.tuple ds)
  | dic {a : Addr} {kvs : List (Key × V)} {ds : List PyData} : H a = some (.dK kvs) → DqAll K H (kvs.map (·.2)) ds → Dq K H (.ref a) (.dict ((kvs.map fun p => keyD p.1).zip ds))
inductive DqAll (K : PySem.W.Frag) (H : Hp) : List V → List PyData → Prop
  | nil : DqAll K H [] []
  | cons {v : V} {vs : List V} {d : PyData} {ds : List PyData} : Dq K H v d → DqAll K H vs ds → DqAll K H (v :: vs) (d :: ds)
end
theorem DqAll.len {K : PySem.W.Frag} {H : Hp} : ∀ {vs : List V} {ds : List PyData}, DqAll K H vs ds → vs.length = ds.length
  | _, _, .nil => rfl
  | _, _, .cons _ t => congrArg (· + 1) (DqAll.len t)
theorem Same.sqT {K : PySem.W.Frag} {H H' : Hp} {a : Addr} {xs : List V} (e : Same H H') (h : SqT K H a xs) : SqT K H' a xs := by
  rcases h with (h | ⟨o, h⟩) | h
  · exact .inl (.inl (e _ _ h))
  · exact .inl (.inr ⟨o, e _ _ h⟩)
  · exact .inr h
mutual
theorem Dq.same {K : PySem.W.Frag} {H H' : Hp} (s : Same H H') : ∀ {v : V} {d : PyData}, Dq K H v d → Dq K H' v d
  | _, _, .non => .non
  | _, _, .bl b => .bl b
  | _, _, .int i => .int i
  | _, _, .str x => .str x
  | _, _, .lst h t n => .lst (s.seq h) (DqAll.same s t) n
  | _, _, .tup h t => .tup (Same.sqT s h) (DqAll.same s t)
  | _, _, .dic h t => .dic (s _ _ h) (DqAll.same s t)
theorem DqAll.same {K : PySem.W.Frag} {H H' : Hp} (s : Same H H') : ∀ {vs : List V} {ds : List PyData}, DqAll K H vs ds → DqAll K H' vs ds
  | _, _, .nil => .nil
  | _, _, .cons h t => .cons (Dq.same s h) (DqAll.same s t)
end
theorem reads_keys {prog : Program} {w : World} {h : Heap} : ∀ {es : List DictEntry} {kvs : List (Key × Value)}, Pairs (mixKind prog w) es kvs → ReadsAll h (es.map (·.key)) (kvs.map fun p => keyD p.1) [] ∧ es.map (·.val) = kvs.map (·.2)
  | _, _, .nil => ⟨.nil, rfl⟩
  | _, _, .cons (e := e) (kv := kv) hk hv t => by
    obtain ⟨h1, h2⟩ := reads_keys t
    refine ⟨?_, by rw [List.map_cons, List.map_cons, h2, hv]⟩
    obtain ⟨k, v⟩ := kv
    rcases keyIs_shape (show keyIs k e.key = true from hk) with ⟨i, u, rfl, q⟩ | ⟨y, u, rfl, q⟩
    · show ReadsAll h (e.key :: _) (PyData.int i :: _) ([] ++ [])
      rw [q]
      exact .cons (.int i u) h1
    · show ReadsAll h (e.key :: _) (PyData.str y :: _) ([] ++ [])
      rw [q]
      exact .cons (.str y u) h1
theorem kv_keys {kvs : List (Key × V)} {vs : List (Key × Value)} (r : KV kvs vs) : (vs.map fun p => keyD p.1) = kvs.map fun p => keyD p.1 := by
  induction r with
  | nil => rfl
  | cons h t ih =>
    rw [List.map_cons, List.map_cons, ih, h.1]
theorem kv_vals {kvs : List (Key × V)} {vs : List (Key × Value)} (r : KV kvs vs) : Vals (kvs.map (·.2)) (vs.map (·.2)) := by
  induction r with
  | nil => exact .nil
  | cons h t ih => exact .cons h.2 ih
theorem zip_fst {α β : Type} : ∀ {l : List α} {m : List β}, l.length = m.length → (l.zip m).map (·.1) = l
  | [], _, _ => rfl
  | a :: l, b :: m, h => by
    rw [List.zip_cons_cons, List.map_cons, zip_fst (Nat.succ.inj h)]
theorem zip_snd {α β : Type} : ∀ {l : List α} {m : List β}, l.length = m.length → (l.zip m).map (·.2) = m
  | [], [], _ => rfl
  | a :: l, b :: m, h => by
    rw [List.zip_cons_cons, List.map_cons, zip_snd (Nat.succ.inj h)]
section
variable {X : Cx} {pins : List (Addr × Obj)} {σ : L2.St} {H : Hp} {s : Shared}
mutual
theorem Dq.reads (I : Inv X pins σ H s) : ∀ {v : V} {d : PyData} (u : Value), Dq X.K H v d → RelV v u → ∃ as, Reads s.heap u d as ∧ sysModules ∉ as
  | _, _, _, .non, r => by
    cases r
    exact ⟨_, .none, by simp⟩
  | _, _, _, .bl b, r => by
    cases r
    exact ⟨_, .bool b, by simp⟩
  | _, _, _, .int i, r => by
    obtain ⟨t, rfl⟩ := r
    exact ⟨_, .int i t, by simp⟩
  | _, _, _, .str x, r => by
    obtain ⟨t, rfl⟩ := r
    exact ⟨_, .str x t, by simp⟩
  | _, _, _, .lst (a := a) hs ha hn, r => by
    cases r
    obtain ⟨its, rv, ⟨o, n, ho, hc, _, hd⟩, _⟩ := I.list hs
    obtain ⟨as, hr, hm⟩ := DqAll.reads I its ha rv
    refine ⟨_, .list ho hc hd hr, fun y => ?_⟩
    rcases List.mem_cons.mp y with q | q
    · exact hn q.symm
    · exact hm q
  | _, _, _, .tup hs ha, r => by
    cases r
    obtain ⟨its, rv, ⟨o, ho, hc, n, hd⟩, _⟩ := I.tuple hs
    obtain ⟨as, hr, hm⟩ := DqAll.reads I its ha rv
    exact ⟨_, .tuple ho hc hd hr, hm⟩
  | _, _, _, .dic (a := a) (kvs := kvs) (ds := ds) hs ha, r => by
    cases r
    obtain ⟨_, nsys, vs, rel, o, es, ep, ho, hx, hd, _, hp, _⟩ := dk_of I.hok hs
    obtain ⟨h1, h2⟩ := reads_keys (h := s.heap) hp
    obtain ⟨bs, hr, hm⟩ := DqAll.reads I _ ha (kv_vals rel)
    have hlen : (kvs.map fun p => keyD p.1).length = ds.length := by
      rw [List.length_map, ← ha.len, List.length_map]
    refine ⟨_, .dict ho hx.1 hd (as := []) (bs := bs) ?_ ?_, fun y => ?_⟩
    · rw [zip_fst hlen, ← kv_keys rel]
      exact h1
    · rw [zip_snd hlen, h2]
      exact hr
    · rcases List.mem_append.mp y with q | q
      · rcases List.mem_cons.mp q with q | q
        · rw [q] at nsys
          simp at nsys
        · cases q
      · exact hm q
theorem DqAll.reads (I : Inv X pins σ H s) : ∀ {vs : List V} {ds : List PyData} (us : List Value), DqAll X.K H vs ds → Vals vs us → ∃ as, ReadsAll s.heap us ds as ∧ sysModules ∉ as
  | _, _, _, .nil, r => by
    cases r
    exact ⟨_, .nil, by simp⟩
  | _, _, _, .cons h t, r => by
    cases r with
    | cons r1 r2 =>
      obtain ⟨as, q1, m1⟩ := Dq.reads I _ h r1
      obtain ⟨bs, q2, m2⟩ := DqAll.reads I _ t r2
      refine ⟨_, .cons q1 q2, fun y => ?_⟩
      rcases List.mem_append.mp y with q | q
      · exact m1 q
      · exact m2 q
end
/-- repr(x), x a list, a tuple or a dict of data -/
def rRepr (K : PySem.W.Frag) : List V → Hp → VK → Prop := fun xs H Q => ∃ (a : Addr) (d : PyData), xs = [.ref a] ∧ Dq K H (.ref a) d ∧ d.showable = true ∧ d.depth ≤ 60 ∧ d.shown.length ≤ sizeLine ∧ Q (.str d.shown) H
theorem call_repr (hg : X.A.guards = some []) (hu : X.A.units + 64 < cLine) : CallR X (.builtin "repr") (rRepr X.K) := by
  intro pins s σ H xs us Q I r h
  obtain ⟨a, d, rfl, hd, hs, hdep, hz, q⟩ := h
  obtain ⟨u, rfl, ru⟩ := vals1 r
  obtain ⟨as, hr, hm⟩ := Dq.reads I u hd ru
  cases (show u = Value.ref a from ru)
  exact repr_of_reads' hr hs (fun _ => hm) hg (by omega) (fun _ _ e => e) (fun h' u tk hk => ⟨.str d.shown, H, I.kept (t' := tk) hk, ⟨_, rfl⟩, q⟩) hz
end

/-! ### displays, told apart from the import table -/
def tLstB (t : TA) : TE := fun σ H Q => t σ H fun xs H1 => xs.length ≤ sizeLine ∧ ∀ p, H1 p = none → p ≠ sysModules → Q (.ref p) (upd H1 p (.lst xs))
section
variable {X : Cx} {es : List Expr} {t : TA} {pos : Pos}
theorem pe_lstB (h : PA X es t) : PE X (.List es pos) (tLstB t) := by
  refine ⟨fun pins s σ H Q I hq => ?_⟩
  refine wpAny_List_spliced (thn (h.run pos pins s σ H _ I hq) fun us s1 ⟨xs, H1, I1, r, z, q⟩ => ⟨by rw [← r.length]; exact z, ?_⟩)
  have hf : H1 s1.heap.objs.size = none := I1.hok.fresh (Nat.le_refl _)
  have hn : s1.heap.objs.size ≠ sysModules := Nat.ne_of_gt I1.big
  exact ⟨.ref s1.heap.objs.size, upd H1 s1.heap.objs.size (.lst xs), I1.laid (t' := s1.toks) (fun b u e => Heap.get?_push_of_some _ e) (Nat.le_refl _) ⟨z, us, 0, r, Heap.get?_push_size _ rfl⟩, rfl, q _ hf hn⟩
end
/-- xs * k, the new list told apart -/
def rRepB : R2 := fun x y H Q => ∃ l k xs, x = .ref l ∧ y = .int k ∧ H l = some (.lst xs) ∧ -(2 ^ 63) ≤ k ∧ k < 2 ^ 63 ∧ xs.length * k.toNat ≤ sizeLine ∧ ∀ p, H p = none → p ≠ sysModules → Q (.ref p) (upd H p (.lst (List.replicate k.toNat xs).flatten))
theorem op_repB {X : Cx} : OpR X (binaryOp .Mult) rRepB := by
  intro pins s σ H x y v u Q I rx ry h
  obtain ⟨l, k, xs, rfl, rfl, hH, h1, h2, hz, q⟩ := h
  cases rx
  obtain ⟨t, rfl⟩ := ry
  obtain ⟨z, its, n, r, hl, e⟩ := I.lstM hH
  have short : its.toArray.size * k.toNat ≤ sizeLine := by
    rw [List.size_toArray, ← hl]
    exact hz
  have cap : ¬ its.toArray.size * k.toNat > (2 ^ 63 - 1) / 8 := by
    have z2 : (sizeLine : Nat) ≤ (2 ^ 63 - 1) / 8 := by decide
    omega
  have fit : ¬ (!Builtin.List.listFitsIndex k) = true := by
    rw [fitsIndex_both h1 h2]
    decide
  have long : ¬ Builtin.List.listTooLong (its.toArray.size * k.toNat) = true := by
    rw [notLongL short]
    decide
  have made : List.foldl (fun x1 x2 => x1 ++ x2) #[] (List.replicate (if its.toArray.isEmpty = true then 0 else k.toNat) its.toArray) = (List.replicate k.toNat its).flatten.toArray := by
    have all : ∀ m : Nat, List.foldl (fun x1 x2 => x1 ++ x2) #[] (List.replicate m its.toArray) = (List.replicate m its).flatten.toArray := by
      intro m
      simpa using foldl_rep its m []
    rw [all]
    cases its with
    | nil => simp
    | cons a r' => rw [if_neg (by simp)]
  refine wpAny_binaryOp_repeat_ref (T := "list") (U := "int") (by decide) ⟨_, e, rfl⟩ (fun s' => typeIs_int s' k t) noFill_list_mul F.fills_int_mul F.slot_int_rmul repeat_list F.slot_int_index.lookup ?_
  refine call_meets F.slot_int_rmul (typeIs_int s k t) F.entry_int_rmul (F.args_int_rmul_2 _ _) (int___rmul___int_list k t l its.toArray n) ⟨e, rfl, ⟨_, e, rfl⟩, ?_⟩
  refine call_meets F.slot_list_mul ⟨_, e, rfl⟩ F.entry_list_mul (F.args_list_mul_2 _ _) (AutoListH.list___mul___list_int_3 l its.toArray n k t fit cap long) ⟨e, ?_⟩
  rw [made]
  exact ⟨.ref _, _, I.lnew (t' := s.toks) (r.rep k.toNat) (by rw [PyProof.Rows.lm_len_rep_flat, Nat.mul_comm]; exact hz), rfl, q _ I.fresh (Nat.ne_of_gt I.big)⟩
/-- s * n -/
theorem op_mul_str {X : Cx} : OpR X (binaryOp .Mult) (fun x y H Q => ∃ z n, x = .str z ∧ y = .int n ∧ MulOk z n ∧ Q (.str (Txt.mul z n)) H) := by
  intro pins s σ H x y v u Q I rx ry h
  obtain ⟨z, n, rfl, rfl, hm, q⟩ := h
  obtain ⟨t, rfl⟩ := rx
  obtain ⟨t', rfl⟩ := ry
  exact SB.mul hm fun _ _ => ⟨.str _, H, I.tok _, ⟨_, rfl⟩, q⟩

/-! ### what an exception's __init__ stores -/
section
open PySem.W PySem.Calls
open Builtin Builtin.ObjectAttr
variable {prog : Program} {w : World} {A : Around} {R : Result → Shared → Prop} {hp : Heap} {g : Array GenState} {d : Drawn} {t : Nat} {os : OsState}
/-- the classes along which a store is looked at let it pass -/
structure Lets (K : Frag) (C : Addr) : Prop where
  ex : ∃ cd, clsIn K C = some cd ∧ (∀ self, refuseLoop self "__setattr__" cd.mro = pure ()) ∧ cd.mro.isEmpty = false ∧ cd.mro.contains (.type "object") = true ∧ cd.hasDict = true
theorem XI.lets {K : Frag} {C fI : Addr} (T : XI K C fI) : Lets K C := by
  obtain ⟨nm, q, N, bs, bm, sn, sub, ab, col, dd, k0, k1, k2, k3, k5, B, newId, initId, bmB, FB, SF, hbm, hC⟩ := T.cls
  refine ⟨{ name := nm, bases := bs, mro := .ref C :: bm, ns := N, qualname := q, hasDict := true, slotNames := sn, subclasses := sub, abstract := ab, collection := col, hasDel := false }, ?_, fun self => ?_, rfl, ?_, rfl⟩
  · unfold clsIn
    rw [hC] <;> rfl
  · show refuseLoop self "__setattr__" (.ref C :: bm) = pure ()
    rw [refuseLoop_ref]
    exact excTail_pass self (SF.passes self) bm hbm
  · show (Value.ref C :: bm).contains (.type "object") = true
    rw [List.contains_cons, excTail_contains "object" bm hbm, SF.hasOwner, Bool.or_true]
theorem store_first {K : Frag} {name : Str} {tk : Tok} {v : Value} {x C : Addr} {fv : Array Value} (T : Lets K C)
    (X : K.In hp) (hx : hp.get? x = some { cls := .ref C, data := .fields fv }) (ha : findIn K (.ref C) name = some none)
    (hq : ∀ h' tk' dx, (∀ b o, b ≠ x → hp.get? b = some o → h'.get? b = some o) → hp.objs.size ≤ dx → dx ≠ x → h'.get? x = some { cls := .ref C, dict := some dx, data := .fields fv } →
      h'.Ns1 dx (fun y => if y = name then some v else none) → R (.ok (.ret .none)) ⟨h', g, d, tk', os⟩) :
    codeAny (model prog w) A (.call (.builtin "object.__setattr__") ⟨[.ref x, .str name tk, v], []⟩) R ⟨hp, g, d, t, os⟩ := by
  obtain ⟨cd, hcd, hpass, ne, hob, hh⟩ := T.ex
  have I : InstAt hp x { cls := .ref C, data := .fields fv } C none := ⟨hx, rfl, rfl, trivial⟩
  have SF := F.store_object
  have apart : x ≠ hp.objs.size := Nat.ne_of_lt (Heap.lt_size hx)
  have isO : Looks (model prog w) hp (isInstance (.ref x) (.type "object")) true :=
    I.type.andThen (looks_mroIn X (by unfold mroIn; rw [hcd, Option.bind_some, if_neg (by rw [ne]; decide), hob]))
  refine codeAny_call_builtin SF.slot.plain SF.entry (@check_slot (model prog w) _ _ ⟨hp, g, d, t, os⟩ "object.__setattr__" "object" "__setattr__" (.ref x) [.str name tk, v] [] _ SF.kind SF.split isO (SF.args (.ref x) (.str name tk) v) ?_)
  have along : Looks (model prog w) hp (mroOf (.ref C)) cd.mro := (looks_clsIn X hcd).andThen .now
  have taker : Looks (model prog w) hp (storeTaker? none) none := .now
  have theCls : Looks (model prog w) hp (classData C) cd := looks_clsIn X hcd
  rw [osa_eq, refuse_eq]
  refine wpAny_bind (wpAny_bind (I.type.at (wpAny_bind (along.at ?_))))
  rw [hpass]
  refine wpAny_pure (wpAny_bind (I.type.at (wpAny_bind ((looks_findIn X ha).at (wpAny_bind (taker.at ?_))))))
  show wpAny _ _ (storeInOwnDict (.ref x) (.ref C) (.str name tk) name v false) _ _ _
  obtain ⟨nm, bs, mro, ns, qn, hd, sn, sb, ab, col, del⟩ := cd
  dsimp only at hh
  subst hh
  unfold storeInOwnDict ownDictForStores
  repeat (first | with_reducible refine HandSPX.store_in_new ?_ ?_ | with_reducible refine wpAny_loadPart_at hx ?_ | with_reducible refine theCls.at ?_ | wp_step)
  · exact ⟨_, #[], _, (Heap.get?_update_ne _ _ _ _ apart.symm).trans (Heap.get?_push_at rfl rfl), rfl, fun e he => absurd he (by simp), fun _ => rfl⟩
  · intro h' tk' hn' hs
    have held : (hp.push { cls := .type "dict", data := .dict #[] }).get? x = some { cls := .ref C, data := .fields fv } := Heap.get?_push_of_some _ hx
    refine hq h' tk' hp.objs.size (fun b o hb ho => ?_) (Nat.le_refl _) apart.symm ((hs.2 x apart).trans (Heap.get?_update_self _ held rfl)) hn'
    exact (hs.2 b (Nat.ne_of_lt (Heap.lt_size ho))).trans ((Heap.get?_update_ne _ _ _ _ hb).trans (Heap.get?_push_of_some _ ho))
theorem store_more {K : Frag} {name : Str} {tk : Tok} {v : Value} {x C dx : Addr} {fv : Array Value} {m0 : Str → Option Value} {nl : List Str} (T : Lets K C)
    (X : K.In hp) (hx : hp.get? x = some { cls := .ref C, dict := some dx, data := .fields fv }) (hns : hp.Ns1 dx m0) (hw : Within m0 nl) (hz : nl.length ≤ 1000) (ha : findIn K (.ref C) name = some none)
    (hq : ∀ h' tk', (∀ b o, b ≠ dx → hp.get? b = some o → h'.get? b = some o) → h'.Ns1 dx (fun y => if y = name then some v else m0 y) → R (.ok (.ret .none)) ⟨h', g, d, tk', os⟩) :
    codeAny (model prog w) A (.call (.builtin "object.__setattr__") ⟨[.ref x, .str name tk, v], []⟩) R ⟨hp, g, d, t, os⟩ := by
  obtain ⟨cd, hcd, hpass, ne, hob, hh⟩ := T.ex
  obtain ⟨oD, esD, epD, hoD, hdD, _⟩ := hns.count hw
  have I : InstAt hp x { cls := .ref C, dict := some dx, data := .fields fv } C (some oD) := ⟨hx, rfl, rfl, hoD⟩
  have SF := F.store_object
  have isO : Looks (model prog w) hp (isInstance (.ref x) (.type "object")) true :=
    I.type.andThen (looks_mroIn X (by unfold mroIn; rw [hcd, Option.bind_some, if_neg (by rw [ne]; decide), hob]))
  refine codeAny_call_builtin SF.slot.plain SF.entry (@check_slot (model prog w) _ _ ⟨hp, g, d, t, os⟩ "object.__setattr__" "object" "__setattr__" (.ref x) [.str name tk, v] [] _ SF.kind SF.split isO (SF.args (.ref x) (.str name tk) v) ?_)
  have along : Looks (model prog w) hp (mroOf (.ref C)) cd.mro := (looks_clsIn X hcd).andThen .now
  have taker : Looks (model prog w) hp (storeTaker? none) none := .now
  have theCls : Looks (model prog w) hp (classData C) cd := looks_clsIn X hcd
  rw [osa_eq, refuse_eq]
  refine wpAny_bind (wpAny_bind (I.type.at (wpAny_bind (along.at ?_))))
  rw [hpass]
  refine wpAny_pure (wpAny_bind (I.type.at (wpAny_bind ((looks_findIn X ha).at (wpAny_bind (taker.at ?_))))))
  show wpAny _ _ (storeInOwnDict (.ref x) (.ref C) (.str name tk) name v false) _ _ _
  obtain ⟨nm, bs, mro, ns, qn, hd, sn, sb, ab, col, del⟩ := cd
  dsimp only at hh
  subst hh
  unfold storeInOwnDict ownDictForStores
  repeat (first | with_reducible refine OEX.store_in_old hns hw hz ?_ | with_reducible refine wpAny_loadPart_at hx ?_ | with_reducible refine theCls.at ?_ | wp_step)
  intro h' tk' hn' hs
  exact hq h' tk' (fun b o hb ho => (hs.2 b hb).trans ho) hn'
end
section
variable {X : Cx} {pins : List (Addr × Obj)} {σ : L2.St} {H : Hp} {s : Shared} {a C fI dx : Addr} {f : Str} {y : V} {u : Value} {fs : List (Str × V)} {Q : Unit → Shared → Prop} {E : Value → Shared → Prop} {A : Around}
theorem xst_first (T : XI X.K C fI) (I : Inv X pins σ H s) (e : H a = some (exo a C none)) (hno : PySem.W.findIn X.K (.ref C) f = some none) (ry : RelV y u)
    (h : ∀ dx s', H dx = none → dx ≠ a → Inv X pins σ (upd (upd H dx (exd dx [(f, y)])) a (exo a C (some dx))) s' → Q () s') : wpAny (model X.prog X.w) A (setAttr (.ref a) f u) Q E s := by
  obtain ⟨t1, ho⟩ := exo_at I.hok e
  obtain ⟨hp, g, d, t, os⟩ := s
  refine PySem.W.set_plain I.kIn (ox := { cls := .ref C, dict := none, data := .fields #[.ref t1, .none, .none, .none, .bool false, .none] }) (od := none) ⟨ho, rfl, rfl, trivial⟩ T.sa ?_
  refine store_first T.lets I.kIn ho hno fun h' tk' dx k dn dne hx hn => ?_
  have fresh : H dx = none := I.hok.fresh dn
  have ned : ∀ {b : Addr} {o : Obj}, hp.get? b = some o → b ≠ dx := fun {b o} q => Nat.ne_of_lt (Nat.lt_of_lt_of_le (Heap.lt_size q) dn)
  have nea : ∀ {b : Addr}, H b = none → b ≠ a := by
    intro b n z
    rw [z, e] at n
    cases n
  have un : Un X.fs [] H (upd (upd H dx (exd dx [(f, y)])) a (exo a C (some dx))) hp h' := by
    refine ⟨fun b o q n _ _ => k b o (nea n) q, fun b o q n _ _ => ⟨o.slots, k b o (nea n) q⟩, fun b o q n _ => ?_, fun b o q _ => ?_, fun b xs q => ?_, fun b o v q => ?_, fun b ps q => ⟨#[], ?_⟩⟩
    · rw [upd_ne (nea n), upd_ne (ned q)]
      exact n
    · by_cases hb : b = a
      · exact ⟨_, by rw [hb]; exact hx⟩
      · exact ⟨o, k b o hb q⟩
    · rw [upd_ne (at_ne e q exo_tup), upd_ne (ne_of_none q fresh)]
      exact q
    · rw [upd_ne (at_ne e q exo_frz), upd_ne (ne_of_none q fresh)]
      exact q
    · rw [upd_ne (at_ne e q exo_tbl), upd_ne (ne_of_none q fresh), q]
      simp
  refine h dx _ fresh dne (I.un (t' := tk') un fun b o q => ?_)
  by_cases hb : b = a
  · subst hb
    rw [upd_same] at q
    cases q
    exact exo_ok hx
  · rw [upd_ne hb] at q
    by_cases hd : b = dx
    · subst hd
      rw [upd_same] at q
      cases q
      exact exd_ok hn (relO_put (fs := []) ry fun g => True.intro)
    · rw [upd_ne hd] at q
      refine (I.hok b o q).stay (fun c v hc z => k c v ?_ z) (fun c hc => ?_) (fun c xs hc => ?_)
      · rcases hc with hc | hc
        · rw [hc]
          exact hb
        · exact at_ne e hc exo_own
      · rw [upd_ne (at_ne e hc exo_own), upd_ne (ne_of_none hc fresh)]
        exact hc
      · rw [upd_ne (at_ne e hc exo_tup), upd_ne (ne_of_none hc fresh)]
        exact hc
theorem xst_more (T : XI X.K C fI) (I : Inv X pins σ H s) (e : H a = some (exo a C (some dx))) (ed : H dx = some (exd dx fs)) (hl : fs.length ≤ 900) (hno : PySem.W.findIn X.K (.ref C) f = some none) (ry : RelV y u)
    (h : ∀ s', Inv X pins σ (upd H dx (exd dx ((f, y) :: fs))) s' → Q () s') : wpAny (model X.prog X.w) A (setAttr (.ref a) f u) Q E s := by
  obtain ⟨t1, ho⟩ := exo_at I.hok e
  obtain ⟨mA, hns, rel⟩ := exd_at I.hok ed
  have hw := within_of rel
  obtain ⟨hp, g, d, t, os⟩ := s
  obtain ⟨oD, _, _, hoD, _, _⟩ := hns.count hw
  refine PySem.W.set_plain I.kIn (ox := { cls := .ref C, dict := some dx, data := .fields #[.ref t1, .none, .none, .none, .bool false, .none] }) (od := some oD) ⟨ho, rfl, rfl, hoD⟩ T.sa ?_
  refine store_more T.lets I.kIn ho hns hw (by rw [List.length_map]; omega) hno fun h' tk' k hn => ?_
  have there : ∃ o, h'.get? dx = some o := by
    obtain ⟨o, _, _, e', _⟩ := hn
    exact ⟨o, e'⟩
  exact h _ (I.write (t' := tk') (x := dx) (e := dx) (o := exd dx ((f, y) :: fs)) (by rw [ed]; exact True.intro) (.inl rfl) k there (exd_ok hn (relO_put ry rel)))
end
/-- self.f = e, self an exception that is being made -/
def tXst (K : PySem.W.Frag) (f : Str) (to te : TE) : TS := fun D σ H => te σ H fun y H1 => to σ H1 fun x H2 => ∃ a C fI : Addr, x = .ref a ∧ XI K C fI ∧ PySem.W.findIn K (.ref C) f = some none ∧
  ((H2 a = some (exo a C none) ∧ ∀ dx, H2 dx = none → dx ≠ a → D.nx σ (upd (upd H2 dx (exd dx [(f, y)])) a (exo a C (some dx)))) ∨
    ∃ (dx : Addr) (fs : List (Str × V)), H2 a = some (exo a C (some dx)) ∧ H2 dx = some (exd dx fs) ∧ fs.length ≤ 900 ∧ D.nx σ (upd H2 dx (exd dx ((f, y) :: fs))))
theorem ps_xst {X : Cx} {o e : Expr} {to te : TE} {f : Str} {p' pos : Pos} (ho : PE X o to) (he : PE X e te) (hs : swapsWith e (some (.Attribute o f p')) pos.line X.env = pure false := by rfl) : PS X (.Assign [.Attribute o f p'] e pos) (tXst X.K f to te) := by
  refine ⟨fun pins s σ H D I h => ?_⟩
  refine plainObj_wpAny_Assign_Attribute (thn (he.run pins s σ H _ I h) fun v s1 ⟨y, H1, I1, r1, q1⟩ => thn (ho.run pins s1 σ H1 _ I1 q1) fun u s2 ⟨x, H2, I2, r2, a, C, fI, ex, T, hno, q⟩ => ?_) hs
  subst ex
  obtain rfl : u = Value.ref a := r2
  rcases q with ⟨ea, q⟩ | ⟨dx, fs, ea, ed, hl, q⟩
  · exact xst_first T I2 ea hno r1 fun dx s' n ne J => ⟨σ, _, J, q dx n ne⟩
  · exact xst_more T I2 ea ed hl hno r1 fun s' J => ⟨σ, _, J, q⟩
end Bc

namespace Bc
open PySem PySem.Spec PyProof.Rows L2

/-! ### the law's source of numbers: a dict at d, its cells in a list at c -/
def srcKV (c : Addr) (l m t : Int) : List (Key × V) := [(.inr "cells", .ref c), (.inr "left", .int l), (.inr "mixed", .int m), (.inr "turn", .int t)]
theorem src_cells (c : Addr) (l m t : Int) : valV (srcKV c l m t) (Sum.inr "cells" : Key) = some (.ref c) := by rfl
theorem src_left (c : Addr) (l m t : Int) : valV (srcKV c l m t) (Sum.inr "left" : Key) = some (.int l) := by rfl
theorem src_mixed (c : Addr) (l m t : Int) : valV (srcKV c l m t) (Sum.inr "mixed" : Key) = some (.int m) := by rfl
theorem src_turn (c : Addr) (l m t : Int) : valV (srcKV c l m t) (Sum.inr "turn" : Key) = some (.int t) := by rfl
theorem put_left (c : Addr) (l m t x : Int) : putK (srcKV c l m t) (Sum.inr "left" : Key) (.int x) = srcKV c x m t := by rfl
theorem put_mixed (c : Addr) (l m t x : Int) : putK (srcKV c l m t) (Sum.inr "mixed" : Key) (.int x) = srcKV c l x t := by rfl
theorem put_turn (c : Addr) (l m t x : Int) : putK (srcKV c l m t) (Sum.inr "turn" : Key) (.int x) = srcKV c l m x := by rfl
theorem src_new (c : Addr) (l m t : Int) : mergeK [] (srcKV c l m t) = srcKV c l m t := by rfl
/-- the source stands at d and c, with n cells left -/
def SrcN (H : Hp) (d c : Addr) (n : Nat) : Prop := d ≠ c ∧ ∃ (cells : List Int) (l m t : Int), H d = some (.dK (srcKV c l m t)) ∧ H c = some (.lst (cells.map V.int)) ∧ cells.length = n
def SrcAt (H : Hp) (d c : Addr) : Prop := ∃ n, n ≤ 100 ∧ SrcN H d c n
/-- all but the source is as it was -/
def Else (d c : Addr) (H H' : Hp) : Prop := ∀ b, b ≠ d → b ≠ c → H' b = H b
theorem Else.refl {d c : Addr} {H : Hp} : Else d c H H := fun _ _ _ => rfl
theorem Else.trans {d c : Addr} {H H1 H2 : Hp} (a : Else d c H H1) (b : Else d c H1 H2) : Else d c H H2 := fun x h1 h2 => (b x h1 h2).trans (a x h1 h2)
theorem Else.updD {d c : Addr} {H : Hp} {o : HO} : Else d c H (upd H d o) := fun x h1 _ => upd_ne h1
theorem Else.updC {d c : Addr} {H : Hp} {o : HO} : Else d c H (upd H c o) := fun x _ h2 => upd_ne h2
/-- the source's promises -/
def spSource (K : PySem.W.Frag) : Sp := fun vs H Q _ => ∃ (a : Addr) (ns : List Int), vs = [.ref a] ∧ SqL K H a (ns.map V.int) ∧ ns.length ≤ 100 ∧
  ∀ (d c : Addr) (H' : Hp), Same H H' → H d = none → H c = none → SrcAt H' d c → Q (.ref d) H'
def spPick : Sp := fun vs H Q _ => ∃ (d c : Addr) (many : Int), vs = [.ref d, .int many] ∧ SrcAt H d c ∧ 0 ≤ many ∧ many ≤ 1000000 ∧
  ∀ (r : Int) (H' : Hp), 0 ≤ r → r < max 1 many → SrcAt H' d c → Else d c H H' → Q (.int r) H'
/-- a while by its measure: what follows is shown once, for every state that the invariant holds of -/
theorem while_of {c : TT} {tb : TS} {D : Ends} {σ : L2.St} {H : Hp} (W : Nat → L2.St → Hp → Prop) (h0 : ∃ m, W m σ H) (fin : ∀ m σ H, W m σ H → D.nx σ H)
    (turn : ∀ m σ H, W m σ H → D.nx σ H → c σ H fun b H1 => if b = true then ∃ N : L2.St → Hp → Prop, (∀ σ' H', N σ' H' → ∃ m', m' < m ∧ W m' σ' H') ∧ tb { D with nx := N, ct := N, bk := D.nx } σ H1 else D.nx σ H1) : tWhile c tb D σ H :=
  ⟨W, h0, fun m σ H w => turn m σ H w (fin m σ H w)⟩
theorem lc_yes {σ : L2.St} {H : Hp} {A B : Hp → Prop} (h : A H) : tYes σ H (fun b H3 => if b = true then A H3 else B H3) := by
  show (if true = true then A H else B H)
  rw [if_pos rfl]
  exact h
theorem pop_last {cells : List Int} {x : Int} (h : cells.getLast? = some x) : (cells.map V.int)[(cells.map V.int).length - 1]? = some (.int x) := by
  rw [List.length_map, List.getElem?_map, ← List.getLast?_eq_getElem?, h]
  rfl
theorem same_new {H : Hp} {p : Addr} {o : HO} (h : H p = none) : Same H (upd H p o) := fun b x e => by
  rw [upd_ne (ne_of_none e h)]
  exact e
end Bc

namespace Bc
open PySem PySem.Spec PyProof.Rows L2

/-! ### written data: a display whose value lies in new objects alone -/
def newOf (H H' : Hp) : Hp := fun b => if H b = none then H' b else none
theorem newOf_up {H H1 H2 : Hp} (s : Same H1 H2) : Same (newOf H H1) (newOf H H2) := fun b o e => by
  unfold newOf at e ⊢
  by_cases h : H b = none
  · rw [if_pos h] at e ⊢
    exact s b o e
  · rw [if_neg h] at e
    cases e
theorem newOf_down {H H1 H2 : Hp} (s : Same H H1) : Same (newOf H1 H2) (newOf H H2) := fun b o e => by
  unfold newOf at e ⊢
  by_cases h : H1 b = none
  · rw [if_pos h] at e
    rw [if_pos (s.free h)]
    exact e
  · rw [if_neg h] at e
    cases e
theorem newOf_upd {H H1 : Hp} {p : Addr} {o : HO} (s : Same H H1) (hp : H1 p = none) : newOf H (upd H1 p o) p = some o := by
  unfold newOf
  rw [if_pos (s.free hp), upd_same]
theorem newOf_all {H H1 : Hp} : Same (newOf H H1) H1 := fun b o e => by
  unfold newOf at e
  by_cases h : H b = none
  · rw [if_pos h] at e
    exact e
  · rw [if_neg h] at e
    cases e
def tD (K : PySem.W.Frag) (c : L2.St → Prop) (d : PyData) : TE := fun σ H Q => c σ ∧ ∀ v H', Same H H' → Dq K (newOf H H') v d → Q v H'
def tDs (K : PySem.W.Frag) (c : L2.St → Prop) (ds : List PyData) : TA := fun σ H Q => c σ ∧ ∀ vs H', Same H H' → DqAll K (newOf H H') vs ds → Q vs H'
abbrev cT : L2.St → Prop := fun _ => True
abbrev cAnd (c c' : L2.St → Prop) : L2.St → Prop := fun σ => c σ ∧ c' σ
theorem PE.imp {X : Cx} {e : Expr} {t t' : TE} (h : PE X e t) (f : ∀ σ H Q, t' σ H Q → t σ H Q) : PE X e t' := ⟨fun pins s σ H Q I q => h.run pins s σ H Q I (f σ H Q q)⟩
theorem PA.imp {X : Cx} {es : List Expr} {t t' : TA} (h : PA X es t) (f : ∀ σ H Q, t' σ H Q → t σ H Q) : PA X es t' := ⟨fun pos pins s σ H Q I q => h.run pos pins s σ H Q I (f σ H Q q)⟩
section
variable {X : Cx} {e : Expr} {es : List Expr} {c c' : L2.St → Prop} {d : PyData} {ds : List PyData} {pos : Pos}
theorem pd_of {v : V} {d : PyData} {e : Expr} (h : PE X e (tC v)) (f : ∀ H, Dq X.K H v d) : PE X e (tD X.K cT d) := PE.imp h fun σ H Q q => q.2 v H (Same.refl H) (f _)
theorem pd_int {i : Int} {j : Nat} : PE X (.Constant (.int i) j pos) (tD X.K cT (.int i)) := pd_of pe_int fun _ => .int i
theorem pd_str {x : Str} {j : Nat} : PE X (.Constant (.str x) j pos) (tD X.K cT (.str x)) := pd_of pe_str fun _ => .str x
theorem pd_non {j : Nat} : PE X (.Constant .none j pos) (tD X.K cT .none) := pd_of pe_non fun _ => .non
theorem pd_bl {b : Bool} {j : Nat} : PE X (.Constant (.bool b) j pos) (tD X.K cT (.bool b)) := pd_of pe_bl fun _ => .bl b
theorem pd_neg {i : Int} {j : Nat} {p : Pos} : PE X (.UnaryOp .USub (.Constant (.int i) j p) pos) (tD X.K cT (.int (-i))) := PE.imp (pe_un un_neg pe_int) fun σ H Q q => ⟨i, rfl, q.2 _ H (Same.refl H) (.int _)⟩
theorem pd_mul {x : Str} {n : Int} {j j' : Nat} {p p' : Pos} (hm : MulOk x n) : PE X (.BinOp (.Constant (.str x) j p) .Mult (.Constant (.int n) j' p') pos) (tD X.K cT (.str (Txt.mul x n))) :=
  PE.imp (pe_op op_mul_str pe_str pe_int) fun σ H Q q => ⟨x, n, rfl, rfl, hm, q.2 _ H (Same.refl H) (.str _)⟩
/-- a name that holds a number -/
theorem pd_var {i : Nat} {z : Int} {x : Str} (h : PE X (.Name x pos) (tVar i)) : PE X (.Name x pos) (tD X.K (fun σ => σ[i]? = some (some (.int z))) (.int z)) :=
  PE.imp h fun σ H Q q => ⟨_, q.1, q.2 _ H (Same.refl H) (.int z)⟩
theorem pds_nil : PA X [] (tDs X.K cT []) := PA.imp pa_nil fun σ H Q q => q.2 [] H (Same.refl H) .nil
theorem pds_cons (h : PE X e (tD X.K c d)) (hr : PA X es (tDs X.K c' ds)) (hs : starEach (e :: es) X.env = (false, eval e X.env) :: starEach es X.env := by rfl) : PA X (e :: es) (tDs X.K (cAnd c c') (d :: ds)) :=
  PA.imp (pa_cons h hr hs) fun σ H Q q => ⟨q.1.1, fun v H1 s1 d1 => ⟨q.1.2, fun vs H2 s2 d2 => q.2 (v :: vs) H2 (s1.trans s2) (.cons (Dq.same (newOf_up s2) d1) (DqAll.same (newOf_down s1) d2))⟩⟩
theorem pd_lst (h : PA X es (tDs X.K c ds)) (hz : ds.length ≤ sizeLine := by decide) : PE X (.List es pos) (tD X.K c (.list ds)) :=
  PE.imp (pe_lstB h) fun σ H Q q => ⟨q.1, fun vs H1 s1 d1 => ⟨by rw [d1.len]; exact hz, fun p hp np => q.2 _ _ (s1.trans (same_new hp)) (.lst (.inl (.inl (newOf_upd s1 hp))) (DqAll.same (newOf_up (same_new hp)) d1) np)⟩⟩
theorem pd_tup {x1} (h : PA X es (tDs X.K c ds)) (hz : ds.length ≤ sizeLine := by decide) : PE X (.Tuple es x1 pos) (tD X.K c (.tuple ds)) :=
  PE.imp (pe_tup h) fun σ H Q q => ⟨q.1, fun vs H1 s1 d1 => ⟨by rw [d1.len]; exact hz, fun p hp => q.2 _ _ (s1.trans (same_new hp)) (.tup (.inl (.inl (newOf_upd s1 hp))) (DqAll.same (newOf_up (same_new hp)) d1))⟩⟩
theorem pd_dict0 : PE X (.Dict [] [] pos) (tD X.K cT (.dict [])) :=
  PE.imp pe_dnewK fun σ H Q q => fun p hp => q.2 _ _ (same_new hp) (.dic (kvs := []) (ds := []) (newOf_upd (Same.refl H) hp) .nil)
theorem pd_dict1 {x : Str} {i : Int} {j j' : Nat} {p1 p2 : Pos} : PE X (.Dict [some (.Constant (.str x) j p1)] [.Constant (.int i) j' p2] pos) (tD X.K cT (.dict [(.str x, .int i)])) :=
  PE.imp (pe_disp (pps_cons pe_str pe_int pps_nil) rfl rfl (by simp) (by simp)) fun σ H Q q => fun p hp => ⟨upd_same, [(.inr x, .int i)], rfl, (by show 1 ≤ 15; decide), by
    rw [upd_upd]
    refine q.2 _ _ (same_new hp) ?_
    exact Dq.dic (kvs := [(.inr x, .int i)]) (ds := [.int i]) (newOf_upd (Same.refl H) hp) (.cons (.int i) .nil)⟩
end

/-! ### what lies apart from the source -/
def hid (d c : Addr) (H : Hp) : Hp := fun b => if b = d ∨ b = c then none else H b
theorem hid_all {d c : Addr} {H : Hp} : Same (hid d c H) H := fun b o e => by
  unfold hid at e
  by_cases h : b = d ∨ b = c
  · rw [if_pos h] at e
    cases e
  · rw [if_neg h] at e
    exact e
theorem hid_else {d c : Addr} {H H' : Hp} (e : Else d c H H') : hid d c H' = hid d c H := by
  funext b
  unfold hid
  by_cases h : b = d ∨ b = c
  · rw [if_pos h, if_pos h]
  · rw [if_neg h, if_neg h]
    exact e b (fun z => h (.inl z)) (fun z => h (.inr z))
theorem hid_up {d c : Addr} {H H' : Hp} (s : Same H H') : Same (hid d c H) (hid d c H') := fun b o e => by
  unfold hid at e ⊢
  by_cases h : b = d ∨ b = c
  · rw [if_pos h] at e
    cases e
  · rw [if_neg h] at e ⊢
    exact s b o e
theorem SrcAt.two {H : Hp} {d c : Addr} (x : SrcAt H d c) : H d ≠ none ∧ H c ≠ none := by
  obtain ⟨n, _, _, cells, l, m, t, h1, h2, _⟩ := x
  exact ⟨by rw [h1]; exact Option.some_ne_none _, by rw [h2]; exact Option.some_ne_none _⟩
theorem SrcAt.up {H H' : Hp} {d c : Addr} (x : SrcAt H d c) (s : Same H H') : SrcAt H' d c := by
  obtain ⟨n, hn, ne, cells, l, m, t, h1, h2, hl⟩ := x
  exact ⟨n, hn, ne, cells, l, m, t, s _ _ h1, s _ _ h2, hl⟩
theorem newOf_hid {d c : Addr} {H H' : Hp} (x : SrcAt H d c) : Same (newOf H H') (hid d c H') := fun b o e => by
  unfold newOf at e
  by_cases h : H b = none
  · rw [if_pos h] at e
    unfold hid
    rw [if_neg (fun z => by
      rcases z with z | z
      · rw [z] at h
        exact x.two.1 h
      · rw [z] at h
        exact x.two.2 h)]
    exact e
  · rw [if_neg h] at e
    cases e
/-- an item of written data, by a number that lies in it -/
theorem pick_of {K : PySem.W.Frag} {H : Hp} : ∀ {vs : List V} {ds : List PyData} (n : Nat), DqAll K H vs ds → n < ds.length → ∃ v d, vs[n]? = some v ∧ d ∈ ds ∧ Dq K H v d
  | _, _, _, .nil, h => absurd h (Nat.not_lt_zero _)
  | _, _, 0, .cons a _, _ => ⟨_, _, rfl, List.mem_cons_self .., a⟩
  | _, _, n + 1, .cons _ t, h => by
    obtain ⟨v, d, h1, h2, h3⟩ := pick_of n t (Nat.lt_of_succ_lt_succ h)
    exact ⟨v, d, h1, List.mem_cons_of_mem _ h2, h3⟩
end Bc

namespace Bc
open PySem PySem.Spec PyProof.Rows L2
def topS (i : Nat) : Stmt := PySem.Challenge.pw_bushcoins_k00_errors.main.body.getD i (.Pass ⟨0, 0, 0, 0⟩)
abbrev sSource : Stmt := topS 20
abbrev sPick : Stmt := topS 21
theorem scSource : FnScope ["_law_script", "_law_mixed", "_law_cell"] ["_law_script"] (defScope sSource) := ⟨rfl, rfl, rfl, by decide +kernel, rfl, by decide +kernel, by decide +kernel⟩
theorem scPick : FnScope ["_law_source_here", "_law_many", "_law_left", "_law_mixed"] ["_law_source_here", "_law_many"] (defScope sPick) := ⟨rfl, rfl, rfl, by decide +kernel, rfl, by decide +kernel, by decide +kernel⟩
structure Blt (mg : Str → Option Value) : Prop where
  int : mg "int" = none
  abs : mg "abs" = none
  len : mg "len" = none
  max : mg "max" = none
section
variable {P : Program} {w : World} {K : PySem.W.Frag} {mg : Str → Option Value} {base : Heap}
theorem ok_source {f : Addr} {fd : FuncData} (F : Fun K "_law_source" "_law_source" sSource f fd) (T : Blt mg) : FnOk P w K mg base CX0 1 f fd ["_law_script"] (spSource K) := by
  refine F.ok scSource (fun vs H Q E h => ?_) (fun cdv A outer s H vs Q E hr h => ?_)
  · obtain ⟨a, ns, rfl, _⟩ := h
    rfl
  · obtain ⟨a, ns, rfl, hS, hlen, k⟩ := h
    refine ⟨_, pss_cons (ps_set (i := 1) scSource.nd rfl (.inl rfl) pe_int)
      (pss_cons (ps_for PassesOwn.never rfl (pi_list (pv 0)) (pg_name (i := 2) scSource.nd rfl (.inl rfl))
        (pss_one (ps_set (i := 1) scSource.nd rfl (.inl rfl) (pe_op op_mod (pe_callTy call_int1 (by rfl) T.int (by decide +kernel) (pa_cons (pe_op op_add (pe_op op_add (pe_op op_mul (pv 1) pe_int) (pe_op op_mul (pv 2) pe_int)) pe_int) pa_nil)) pe_int))))
      (pss_one (ps_ret (pe_disp (pps_cons pe_str (pe_revL (pe_lc (own := [("_law_cell", 2)]) (g := gName 2) (tt := tYes) (by rfl) scSource.nd (pi_list (pv 0))
            (blkOk_by (own := [("_law_cell", 2)]) (N := ["_law_script", "_law_mixed", "_law_cell"]) (sc := defScope sSource) (by decide +kernel)) (fun _ _ _ _ _ => pg_name (i := 2) scSource.nd rfl (.inl rfl)) (fun _ _ _ _ _ => pts_nil)
            (fun _ _ _ _ _ => pe_callB call_abs (by rfl) T.abs (by decide +kernel) (pa_cons (pv 2) pa_nil))))
          (pps_cons pe_str pe_int (pps_cons pe_str (pv 1) (pps_cons pe_str pe_int pps_nil)))) rfl rfl (by simp) (by simp))))), ?_⟩
    refine ⟨_, rfl, a, rfl, ⟨_, hS⟩, for_list (K := K) (a := a) (xs := ns.map V.int) (fun i σ H' => ∃ (m : Int) (v : Option V), σ = [some (.ref a), some (.int m), v] ∧ H' = H) ⟨11, none, rfl, rfl⟩ (fun i σ H' _ ⟨_, _, _, e⟩ => by rw [e]; exact hS) ?_ ?_⟩
    · rintro i y σ H' hi ⟨m, v, rfl, rfl⟩
      obtain ⟨z, rfl⟩ : ∃ z, y = V.int z := by
        obtain ⟨z, _, e⟩ := List.mem_map.mp (List.mem_of_getElem? hi)
        exact ⟨z, e.symm⟩
      refine ⟨_, rfl, _, _, rfl, rfl, .inr ⟨by decide, by decide⟩, _, rfl, _, _, rfl, rfl, .inr ⟨by decide, by decide⟩, _, _, rfl, rfl, _, _, rfl, rfl, .inl ⟨_, rfl, _, _, rfl, rfl, (by show (0 : Int) < 2147483629; decide), ?_⟩⟩
      exact ⟨_, _, rfl, rfl⟩
    · rintro σ H' ⟨m, v, rfl, rfl⟩
      intro d hd
      have s1 : Same H' (upd H' d (.dK [])) := same_new hd
      refine ⟨_, rfl, a, rfl, ⟨_, s1.seq hS⟩, fun D hD => lc_list (K := K) (a := a) (xs := ns.map V.int) (fun i H2 => Same (upd H' d (.dK [])) H2 ∧ H2 D = some (.lst (((ns.take i).map fun z => if z < 0 then -z else z).map V.int)))
        ⟨same_new hD, upd_same⟩ (fun i H2 _ h => (s1.trans h.1).seq hS) ?_ ?_⟩
      · rintro i y H2 hi ⟨s2, eD⟩
        obtain ⟨z, hz, rfl⟩ : ∃ z, ns[i]? = some z ∧ y = V.int z := by
          rw [List.getElem?_map] at hi
          cases e : ns[i]? with
          | none =>
            rw [e] at hi
            cases hi
          | some z =>
            rw [e] at hi
            exact ⟨z, rfl, (Option.some.inj hi).symm⟩
        have hil : i < ns.length := (List.getElem?_eq_some_iff.mp hz).1
        refine ⟨rfl, ?_⟩
        refine lc_yes ?_
        refine ⟨_, rfl, _, rfl, _, eD, ?_, fun b o e => ?_, ?_⟩
        · rw [List.length_map, List.length_map, List.length_take]
          exact small1000 (by omega)
        · rw [upd_ne (ne_of_none e hD)]
          exact s2 b o e
        · rw [upd_same, List.take_add_one, hz, List.map_append, List.map_append]
          rfl
      · rintro H2 ⟨s2, eD⟩
        refine ⟨D, _, rfl, .inl (.inl eD), fun p hp => ?_⟩
        have npD : p ≠ D := fun e => by
          rw [e, eD] at hp
          cases hp
        have ed : H2 d = some (.dK []) := s2 _ _ upd_same
        have npd : d ≠ p := fun e => by
          rw [← e, ed] at hp
          cases hp
        refine ⟨_, rfl, ?_, srcKV p 1 m 0, rfl, (by show 4 ≤ 15; decide), ?_⟩
        · rw [upd_ne npd]
          exact ed
        · rw [src_new]
          refine k d p _ (fun b o e => ?_) hd ((s1.trans s2).free hp) ⟨ns.length, hlen, npd, (ns.map fun z => if z < 0 then -z else z).reverse, 1, m, 0, upd_same, ?_, ?_⟩
          · have nb : b ≠ d := ne_of_none e hd
            rw [upd_ne nb]
            have e2 := s2 _ _ (s1 _ _ e)
            rw [upd_ne (ne_of_none e2 hp)]
            exact e2
          · rw [upd_ne npd.symm, upd_same, List.map_reverse, List.length_map, List.take_length]
          · rw [List.length_reverse, List.length_map]
theorem ok_pick {f : Addr} {fd : FuncData} (F : Fun K "_law_pick" "_law_pick" sPick f fd) (T : Blt mg) : FnOk P w K mg base CX0 1 f fd ["_law_source_here", "_law_many"] spPick := by
  refine F.ok scPick (fun vs H Q E h => ?_) (fun cdv A outer s H vs Q E hr h => ?_)
  · obtain ⟨d, c, many, rfl, _⟩ := h
    rfl
  · obtain ⟨d, c, many, rfl, ⟨n, hn, S⟩, hm0, hm1, k⟩ := h
    have hu := hu_of hr
    refine ⟨_, pss_cons (ps_while PassesOwn.never (PW.pt (pw_and (pt_cmpR op_gt (pv 1) pe_int (nomark _)) (pw_and (pt_cmpR op_lt (pe_dget hu (pv 0) pe_str (fun _ _ => rfl)) pe_int (nomark _))
          (pw_and1 (pt_cmpR op_gt (pe_callB call_len (by rfl) T.len (by decide +kernel) (pa_cons (pe_dget hu (pv 0) pe_str (fun _ _ => rfl)) pa_nil)) pe_int (nomark _))))))
        (pss_one (ps_dput hu (pv 0) pe_str (pe_bm0 PySem.F.plainAttrs_list PySem.F.slot_list_pop PySem.F.type_list_pop mt_pop (pe_dget hu (pv 0) pe_str (fun _ _ => rfl))) rfl)))
      (pss_cons (ps_set (i := 2) scPick.nd rfl (.inl rfl) (pe_dget hu (pv 0) pe_str (fun _ _ => rfl)))
      (pss_cons (ps_if (PW.pt (pw_or (pt_cmpR op_lt (pv 1) pe_int (nomark _)) (pw_or1 (pt_cmpR op_gt (pv 2) pe_int (nomark _)))))
        (pss_cons (ps_dput hu (pv 0) pe_str (pe_op op_fdiv (pv 2) (pe_callB (call_max2 rfl) (by rfl) T.max (by decide +kernel) (pa_cons pe_int (pa_cons (pv 1) pa_nil)))) rfl)
          (pss_one (ps_ret (pe_op op_mod (pe_callTy call_int1 (by rfl) T.int (by decide +kernel) (pa_cons (pv 2) pa_nil)) (pe_callB (call_max2 rfl) (by rfl) T.max (by decide +kernel) (pa_cons pe_int (pa_cons (pv 1) pa_nil)))))))
        pss_nil)
      (pss_cons (ps_dput hu (pv 0) pe_str (pe_op op_add (pe_dget hu (pv 0) pe_str (fun _ _ => rfl)) pe_int) rfl)
      (pss_cons (ps_set (i := 3) scPick.nd rfl (.inl rfl) (pe_op op_mod (pe_callTy call_int1 (by rfl) T.int (by decide +kernel) (pa_cons (pe_op op_add (pe_dget hu (pv 0) pe_str (fun _ _ => rfl)) (pe_op op_mul (pe_dget hu (pv 0) pe_str (fun _ _ => rfl)) pe_int)) pa_nil)) pe_int))
      (pss_cons (ps_set (i := 3) scPick.nd rfl (.inl rfl) (pe_op op_mod (pe_callTy call_int1 (by rfl) T.int (by decide +kernel) (pa_cons (pe_op op_add (pe_op op_mul (pv 3) (pv 3)) (pe_op op_mul (pe_dget hu (pv 0) pe_str (fun _ _ => rfl)) pe_int)) pa_nil)) pe_int))
      (pss_cons (ps_dput hu (pv 0) pe_str (pv 3) rfl)
      (pss_one (ps_ret (pe_op op_mod (pe_callTy call_int1 (by rfl) T.int (by decide +kernel) (pa_cons (pe_op op_fdiv (pv 3) pe_int) pa_nil)) (pv 1)))))))))), ?_⟩
    refine while_of (fun m σ H1 => σ = [some (.ref d), some (.int many), none, none] ∧ SrcN H1 d c m ∧ m ≤ 100 ∧ Else d c H H1) ⟨n, rfl, S, hn, Else.refl⟩ ?_ ?_
    · rintro m σ H1 ⟨rfl, ⟨ne, cells, l, mx, t, hd, hc, hl⟩, hm, hE⟩
      have small : ∀ c l m t, (srcKV c l m t).length < sizeLine := fun _ _ _ _ => small1000 (show 4 ≤ 1000 by decide)
      have again : ∀ l' mx' t', SrcAt (upd H1 d (.dK (srcKV c l' mx' t'))) d c := fun l' mx' t' => ⟨m, hm, ne, cells, l', mx', t', upd_same, by rw [upd_ne ne.symm]; exact hc, hl⟩
      have hmax : (if many > 1 then many else 1) = max 1 many := by omega
      -- left
      refine ⟨_, rfl, d, _, rfl, DGet.k (k := Sum.inr "left") hd, ?_⟩
      -- many < 2 or left > 1
      have early : (2 : Int) > many ∨ l > 1 → (sDPut (tVar 0) (tC (V.str "left")) (tOp (rI CDiv fun i j => V.int (i / j)) (tVar 2) (tCB (fun xs H Q => ∃ i j, xs = [V.int i, V.int j] ∧ Q (V.int (if j > i then j else i)) H) (tCons (tC (V.int 1)) (tCons (tVar 1) tNil)))))
          { nx := fun σ H => (tRet (tOp (rI (fun x j => 0 < j) fun i j => V.int (i % j)) (tCB (fun xs H Q => (∃ i, xs = [V.int i] ∧ Q (V.int i) H) ∨ ∃ k, xs = [V.bl k] ∧ Q (V.int (if k = true then 1 else 0)) H) (tCons (tVar 2) tNil))
              (tCB (fun xs H Q => ∃ i j, xs = [V.int i, V.int j] ∧ Q (V.int (if j > i then j else i)) H) (tCons (tC (V.int 1)) (tCons (tVar 1) tNil))))) { nx := fun _ H' => Q .non H', rt := Q } σ H, rt := Q }
          [some (.ref d), some (.int many), some (.int l), none] H1 := by
        intro _
        refine ⟨_, rfl, _, rfl, 1, many, rfl, _, _, rfl, rfl, ⟨by omega, by omega⟩, ?_⟩
        refine ⟨_, rfl, d, _, rfl, DPut.k (k := Sum.inr "left") hd (small _ _ _ _), ?_⟩
        rw [put_left]
        refine ⟨_, rfl, .inl ⟨_, rfl, _, rfl, 1, many, rfl, _, _, rfl, rfl, (by rw [hmax]; omega), ?_⟩⟩
        rw [hmax]
        exact k _ _ (Int.emod_nonneg _ (by omega)) (Int.emod_lt_of_pos _ (by omega)) (again _ _ _) (hE.trans Else.updD)
      refine ⟨_, rfl, _, _, rfl, rfl, _, rfl, ?_⟩
      refine ite2 (fun h => ?_) (fun h1 => ?_)
      · exact early (.inl (of_decide_eq_true h))
      · refine ⟨_, rfl, _, _, rfl, rfl, _, rfl, ?_⟩
        refine ite2 (fun h => ?_) (fun h2 => ?_)
        · exact early (.inr (of_decide_eq_true h))
        · have g1 : ¬ many < 2 := fun z => h1 (decide_eq_true z)
          -- turn
          refine ⟨_, rfl, d, _, rfl, DGet.k (k := Sum.inr "turn") hd, _, _, rfl, rfl, _, rfl, d, _, rfl, DPut.k (k := Sum.inr "turn") hd (small _ _ _ _), ?_⟩
          rw [put_turn]
          have hd2 : (upd H1 d (.dK (srcKV c l mx (t + 1)))) d = some (.dK (srcKV c l mx (t + 1))) := upd_same
          -- mixed
          refine ⟨_, rfl, d, _, rfl, DGet.k (k := Sum.inr "mixed") hd2, _, rfl, d, _, rfl, DGet.k (k := Sum.inr "turn") hd2, _, _, rfl, rfl, .inr ⟨by decide, by decide⟩, _, _, rfl, rfl, .inl ⟨_, rfl, _, _, rfl, rfl, (by show (0 : Int) < 998244353; decide), ?_⟩⟩
          -- mixed again
          refine ⟨_, rfl, _, rfl, _, _, rfl, rfl, .inl ⟨?_, ?_⟩, _, rfl, d, _, rfl, DGet.k (k := Sum.inr "turn") hd2, _, _, rfl, rfl, .inr ⟨by decide, by decide⟩, _, _, rfl, rfl, .inl ⟨_, rfl, _, _, rfl, rfl, (by show (0 : Int) < 2147483647; decide), ?_⟩⟩
          · omega
          · omega
          refine ⟨_, rfl, _, rfl, d, _, rfl, DPut.k (k := Sum.inr "mixed") hd2 (small _ _ _ _), ?_⟩
          rw [put_mixed, upd_upd]
          refine ⟨_, rfl, _, _, rfl, rfl, ⟨by decide, by decide⟩, .inl ⟨_, rfl, _, rfl, _, _, rfl, rfl, (by show (0 : Int) < many; omega), ?_⟩⟩
          exact k _ _ (Int.emod_nonneg _ (by omega)) (by have := Int.emod_lt_of_pos (((((mx + (t + 1) * 104729) % 998244353) * ((mx + (t + 1) * 104729) % 998244353) + (t + 1) * 17) % 2147483647) / 16) (show (0 : Int) < many by omega); omega) (again _ _ _) (hE.trans Else.updD)
    · rintro m σ H1 ⟨rfl, ⟨ne, cells, l, mx, t, hd, hc, hl⟩, hm, hE⟩ fin
      -- many > 1
      refine ⟨_, rfl, _, _, rfl, rfl, _, rfl, ?_⟩
      refine ite2 (fun _ => ?_) (fun _ => fin)
      -- left < 2
      refine ⟨_, rfl, d, _, rfl, DGet.k (k := Sum.inr "left") hd, _, _, rfl, rfl, _, rfl, ?_⟩
      refine ite2 (fun _ => ?_) (fun _ => fin)
      -- len(cells) > 0
      refine ⟨_, rfl, d, _, rfl, DGet.k (k := Sum.inr "cells") hd, _, cells.length, rfl, .inl ⟨_, .inl (.inl hc), (by rw [List.length_map])⟩, _, _, rfl, rfl, _, rfl, ?_⟩
      refine ite2 (fun hpos => ?_) (fun _ => fin)
      have hp : (0 : Int) < (cells.length : Int) := of_decide_eq_true hpos
      obtain ⟨x, hx⟩ : ∃ x, cells.getLast? = some x := by
        cases cells with
        | nil => exact absurd hp (by decide)
        | cons a r => exact ⟨_, List.getLast?_eq_some_getLast (by simp)⟩
      refine ⟨fun σ' H' => σ' = [some (.ref d), some (.int many), none, none] ∧ SrcN H' d c (m - 1) ∧ m - 1 ≤ 100 ∧ Else d c H H', fun σ' H' h => ⟨m - 1, by omega, h⟩, ?_⟩
      refine ⟨_, rfl, d, _, rfl, DGet.k (k := Sum.inr "cells") hd, .inl ⟨rfl, _, .inl (.inl hc)⟩, c, _, _, rfl, rfl, hc, pop_last hx, ?_⟩
      have hd3 : (upd H1 c (.lst (cells.map V.int).dropLast)) d = some (.dK (srcKV c l mx t)) := by
        rw [upd_ne ne]
        exact hd
      refine ⟨_, rfl, d, _, rfl, DPut.k (k := Sum.inr "left") hd3 (small1000 (show 4 ≤ 1000 by decide)), ?_⟩
      refine ⟨rfl, ⟨ne, cells.dropLast, x, mx, t, ?_, ?_, ?_⟩, by omega, (hE.trans Else.updC).trans Else.updD⟩
      · rw [upd_same, put_left]
      · rw [upd_ne ne.symm, upd_same, List.map_dropLast]
      · rw [List.length_dropLast, hl]
end
end Bc

namespace Bc
open PySem PySem.Spec PyProof.Rows L2
/-! ### the errors' own __init__ -/
/-- all that stood, a aside, stands -/
def But (a : Addr) (H H' : Hp) : Prop := ∀ b o, H b = some o → b ≠ a → H' b = some o
theorem But.same {a : Addr} {H H' : Hp} {o : HO} (h : But a (upd H a o) H') (n : H a = none) : Same H H' := fun b u e => by
  have nb : b ≠ a := ne_of_none e n
  exact h b u (by rw [upd_ne nb]; exact e) nb
def spS1 (C : Addr) (f : Str) : Sp := fun vs H Q _ => ∃ (a : Addr) (v : V), vs = [.ref a, v] ∧ H a = some (exo a C none) ∧ ∀ H', But a H H' → XFs H' a C [(f, v)] → Q .non H'
def spS2 (C : Addr) (f g : Str) : Sp := fun vs H Q _ => ∃ (a : Addr) (v u : V), vs = [.ref a, v, u] ∧ H a = some (exo a C none) ∧ ∀ H', But a H H' → XFs H' a C [(g, u), (f, v)] → Q .non H'
def spSP (K : PySem.W.Frag) (C : Addr) : Sp := fun vs H Q _ => ∃ (a p : Addr) (xs : List V), vs = [.ref a, .ref p] ∧ H a = some (exo a C none) ∧ (SqL K H p xs ∨ SqT K H p xs) ∧
  ∀ q H', But a H H' → XFs H' a C [("path", .ref q)] → SqT K H' q xs → Q .non H'
theorem SqT.but {K : PySem.W.Frag} {a C p : Addr} {H H' : Hp} {xs : List V} (h : But a H H') (e : H a = some (exo a C none)) (t : SqT K H p xs) : SqT K H' p xs := by
  rcases t with (t | ⟨o, t⟩) | t
  · exact .inl (.inl (h _ _ t (fun z => by
      rw [z, e] at t
      exact exo_tup (Option.some.inj t))))
  · exact .inl (.inr ⟨o, h _ _ t (fun z => by
      rw [z, e] at t
      exact exo_frz (Option.some.inj t))⟩)
  · exact .inr t
section
variable {P : Program} {w : World} {K : PySem.W.Frag} {mg : Str → Option Value} {base : Heap}
abbrev sI4 : Stmt := inClass (topS 6) 0
theorem scI4 : FnScope ["self", "word"] ["self", "word"] (defScope sI4) := ⟨rfl, rfl, rfl, by decide +kernel, rfl, by decide +kernel, by decide +kernel⟩
theorem ok_I4 {f C : Addr} {fd : FuncData} (F : Fun K "__init__" "UnlikeStocks.__init__" sI4 f fd) (T : XI K C f) (no : PySem.W.findIn K (.ref C) "word" = some none) : FnOk P w K mg base CX0 1 f fd ["self", "word"] (spS1 C "word") := by
  refine F.ok scI4 (fun vs H Q E h => ?_) (fun cdv A outer s H vs Q E hr h => ?_)
  · obtain ⟨a, v, rfl, _⟩ := h
    rfl
  · obtain ⟨a, v, rfl, ha, k⟩ := h
    refine ⟨_, pss_one (ps_xst (pv 0) (pv 1)), ?_⟩
    refine ⟨_, rfl, _, rfl, a, C, f, rfl, T, no, .inl ⟨ha, fun dx n ne => k _ (fun b o e hb => ?_) ⟨dx, upd_same, ?_⟩⟩⟩
    · rw [upd_ne hb, upd_ne (ne_of_none e n)]
      exact e
    · rw [upd_ne ne, upd_same]
abbrev sI10 : Stmt := inClass (topS 12) 0
theorem scI10 : FnScope ["self", "number"] ["self", "number"] (defScope sI10) := ⟨rfl, rfl, rfl, by decide +kernel, rfl, by decide +kernel, by decide +kernel⟩
theorem ok_I10 {f C : Addr} {fd : FuncData} (F : Fun K "__init__" "BadDeed.__init__" sI10 f fd) (T : XI K C f) (no : PySem.W.findIn K (.ref C) "number" = some none) : FnOk P w K mg base CX0 1 f fd ["self", "number"] (spS1 C "number") := by
  refine F.ok scI10 (fun vs H Q E h => ?_) (fun cdv A outer s H vs Q E hr h => ?_)
  · obtain ⟨a, v, rfl, _⟩ := h
    rfl
  · obtain ⟨a, v, rfl, ha, k⟩ := h
    refine ⟨_, pss_one (ps_xst (pv 0) (pv 1)), ?_⟩
    refine ⟨_, rfl, _, rfl, a, C, f, rfl, T, no, .inl ⟨ha, fun dx n ne => k _ (fun b o e hb => ?_) ⟨dx, upd_same, ?_⟩⟩⟩
    · rw [upd_ne hb, upd_ne (ne_of_none e n)]
      exact e
    · rw [upd_ne ne, upd_same]
abbrev sI11 : Stmt := inClass (topS 13) 0
theorem scI11 : FnScope ["self", "word"] ["self", "word"] (defScope sI11) := ⟨rfl, rfl, rfl, by decide +kernel, rfl, by decide +kernel, by decide +kernel⟩
theorem ok_I11 {f C : Addr} {fd : FuncData} (F : Fun K "__init__" "BadAct.__init__" sI11 f fd) (T : XI K C f) (no : PySem.W.findIn K (.ref C) "word" = some none) : FnOk P w K mg base CX0 1 f fd ["self", "word"] (spS1 C "word") := by
  refine F.ok scI11 (fun vs H Q E h => ?_) (fun cdv A outer s H vs Q E hr h => ?_)
  · obtain ⟨a, v, rfl, _⟩ := h
    rfl
  · obtain ⟨a, v, rfl, ha, k⟩ := h
    refine ⟨_, pss_one (ps_xst (pv 0) (pv 1)), ?_⟩
    refine ⟨_, rfl, _, rfl, a, C, f, rfl, T, no, .inl ⟨ha, fun dx n ne => k _ (fun b o e hb => ?_) ⟨dx, upd_same, ?_⟩⟩⟩
    · rw [upd_ne hb, upd_ne (ne_of_none e n)]
      exact e
    · rw [upd_ne ne, upd_same]
abbrev sI12 : Stmt := inClass (topS 14) 0
theorem scI12 : FnScope ["self", "place"] ["self", "place"] (defScope sI12) := ⟨rfl, rfl, rfl, by decide +kernel, rfl, by decide +kernel, by decide +kernel⟩
theorem ok_I12 {f C : Addr} {fd : FuncData} (F : Fun K "__init__" "BadText.__init__" sI12 f fd) (T : XI K C f) (no : PySem.W.findIn K (.ref C) "place" = some none) : FnOk P w K mg base CX0 1 f fd ["self", "place"] (spS1 C "place") := by
  refine F.ok scI12 (fun vs H Q E h => ?_) (fun cdv A outer s H vs Q E hr h => ?_)
  · obtain ⟨a, v, rfl, _⟩ := h
    rfl
  · obtain ⟨a, v, rfl, ha, k⟩ := h
    refine ⟨_, pss_one (ps_xst (pv 0) (pv 1)), ?_⟩
    refine ⟨_, rfl, _, rfl, a, C, f, rfl, T, no, .inl ⟨ha, fun dx n ne => k _ (fun b o e hb => ?_) ⟨dx, upd_same, ?_⟩⟩⟩
    · rw [upd_ne hb, upd_ne (ne_of_none e n)]
      exact e
    · rw [upd_ne ne, upd_same]
abbrev sI14 : Stmt := inClass (topS 16) 0
theorem scI14 : FnScope ["self", "number"] ["self", "number"] (defScope sI14) := ⟨rfl, rfl, rfl, by decide +kernel, rfl, by decide +kernel, by decide +kernel⟩
theorem ok_I14 {f C : Addr} {fd : FuncData} (F : Fun K "__init__" "Clash.__init__" sI14 f fd) (T : XI K C f) (no : PySem.W.findIn K (.ref C) "number" = some none) : FnOk P w K mg base CX0 1 f fd ["self", "number"] (spS1 C "number") := by
  refine F.ok scI14 (fun vs H Q E h => ?_) (fun cdv A outer s H vs Q E hr h => ?_)
  · obtain ⟨a, v, rfl, _⟩ := h
    rfl
  · obtain ⟨a, v, rfl, ha, k⟩ := h
    refine ⟨_, pss_one (ps_xst (pv 0) (pv 1)), ?_⟩
    refine ⟨_, rfl, _, rfl, a, C, f, rfl, T, no, .inl ⟨ha, fun dx n ne => k _ (fun b o e hb => ?_) ⟨dx, upd_same, ?_⟩⟩⟩
    · rw [upd_ne hb, upd_ne (ne_of_none e n)]
      exact e
    · rw [upd_ne ne, upd_same]
abbrev sI15 : Stmt := inClass (topS 18) 0
theorem scI15 : FnScope ["self", "name"] ["self", "name"] (defScope sI15) := ⟨rfl, rfl, rfl, by decide +kernel, rfl, by decide +kernel, by decide +kernel⟩
theorem ok_I15 {f C : Addr} {fd : FuncData} (F : Fun K "__init__" "UnknownName.__init__" sI15 f fd) (T : XI K C f) (no : PySem.W.findIn K (.ref C) "name" = some none) : FnOk P w K mg base CX0 1 f fd ["self", "name"] (spS1 C "name") := by
  refine F.ok scI15 (fun vs H Q E h => ?_) (fun cdv A outer s H vs Q E hr h => ?_)
  · obtain ⟨a, v, rfl, _⟩ := h
    rfl
  · obtain ⟨a, v, rfl, ha, k⟩ := h
    refine ⟨_, pss_one (ps_xst (pv 0) (pv 1)), ?_⟩
    refine ⟨_, rfl, _, rfl, a, C, f, rfl, T, no, .inl ⟨ha, fun dx n ne => k _ (fun b o e hb => ?_) ⟨dx, upd_same, ?_⟩⟩⟩
    · rw [upd_ne hb, upd_ne (ne_of_none e n)]
      exact e
    · rw [upd_ne ne, upd_same]
abbrev sI5 : Stmt := inClass (topS 7) 0
theorem scI5 : FnScope ["self", "path"] ["self", "path"] (defScope sI5) := ⟨rfl, rfl, rfl, by decide +kernel, rfl, by decide +kernel, by decide +kernel⟩
theorem ok_I5 {f C : Addr} {fd : FuncData} (F : Fun K "__init__" "BadBook.__init__" sI5 f fd) (T : XI K C f) (no : PySem.W.findIn K (.ref C) "path" = some none) (mT : mg "tuple" = none) : FnOk P w K mg base CX0 1 f fd ["self", "path"] (spSP K C) := by
  refine F.ok scI5 (fun vs H Q E h => ?_) (fun cdv A outer s H vs Q E hr h => ?_)
  · obtain ⟨a, p, xs, rfl, _⟩ := h
    rfl
  · obtain ⟨a, p, xs, rfl, ha, hp, k⟩ := h
    refine ⟨_, pss_one (ps_xst (pv 0) (pe_callTy call_tuple_of (by rfl) mT (by decide +kernel) (pa_cons (pv 1) pa_nil))), ?_⟩
    rcases hp with hp | hp
    · refine ⟨_, rfl, p, xs, rfl, .inl ⟨hp, fun t ht => ?_⟩⟩
      have nta : a ≠ t := ne_of_none ha ht
      refine ⟨_, rfl, a, C, f, rfl, T, no, .inl ⟨by rw [upd_ne nta]; exact ha, fun dx n ne => k t _ (fun b o e hb => ?_) ⟨dx, upd_same, ?_⟩ ?_⟩⟩
      · have n1 : H dx = none := (same_new ht).free n
        rw [upd_ne hb, upd_ne (ne_of_none e n1), upd_ne (ne_of_none e ht)]
        exact e
      · rw [upd_ne ne, upd_same]
      · have ndt : t ≠ dx := fun z => by
          rw [← z, upd_same] at n
          cases n
        exact .inl (.inl (by rw [upd_ne nta.symm, upd_ne ndt, upd_same]))
    · refine ⟨_, rfl, p, xs, rfl, .inr ⟨hp, ?_⟩⟩
      refine ⟨_, rfl, a, C, f, rfl, T, no, .inl ⟨ha, fun dx n ne => ?_⟩⟩
      have bt : But a H (upd (upd H dx (exd dx [("path", V.ref p)])) a (exo a C (some dx))) := fun b o e hb => by
        rw [upd_ne hb, upd_ne (ne_of_none e n)]
        exact e
      refine k p _ bt ⟨dx, upd_same, ?_⟩ (SqT.but bt ha hp)
      rw [upd_ne ne, upd_same]
abbrev sI6 : Stmt := inClass (topS 8) 0
theorem scI6 : FnScope ["self", "path"] ["self", "path"] (defScope sI6) := ⟨rfl, rfl, rfl, by decide +kernel, rfl, by decide +kernel, by decide +kernel⟩
theorem ok_I6 {f C : Addr} {fd : FuncData} (F : Fun K "__init__" "BadBag.__init__" sI6 f fd) (T : XI K C f) (no : PySem.W.findIn K (.ref C) "path" = some none) (mT : mg "tuple" = none) : FnOk P w K mg base CX0 1 f fd ["self", "path"] (spSP K C) := by
  refine F.ok scI6 (fun vs H Q E h => ?_) (fun cdv A outer s H vs Q E hr h => ?_)
  · obtain ⟨a, p, xs, rfl, _⟩ := h
    rfl
  · obtain ⟨a, p, xs, rfl, ha, hp, k⟩ := h
    refine ⟨_, pss_one (ps_xst (pv 0) (pe_callTy call_tuple_of (by rfl) mT (by decide +kernel) (pa_cons (pv 1) pa_nil))), ?_⟩
    rcases hp with hp | hp
    · refine ⟨_, rfl, p, xs, rfl, .inl ⟨hp, fun t ht => ?_⟩⟩
      have nta : a ≠ t := ne_of_none ha ht
      refine ⟨_, rfl, a, C, f, rfl, T, no, .inl ⟨by rw [upd_ne nta]; exact ha, fun dx n ne => k t _ (fun b o e hb => ?_) ⟨dx, upd_same, ?_⟩ ?_⟩⟩
      · have n1 : H dx = none := (same_new ht).free n
        rw [upd_ne hb, upd_ne (ne_of_none e n1), upd_ne (ne_of_none e ht)]
        exact e
      · rw [upd_ne ne, upd_same]
      · have ndt : t ≠ dx := fun z => by
          rw [← z, upd_same] at n
          cases n
        exact .inl (.inl (by rw [upd_ne nta.symm, upd_ne ndt, upd_same]))
    · refine ⟨_, rfl, p, xs, rfl, .inr ⟨hp, ?_⟩⟩
      refine ⟨_, rfl, a, C, f, rfl, T, no, .inl ⟨ha, fun dx n ne => ?_⟩⟩
      have bt : But a H (upd (upd H dx (exd dx [("path", V.ref p)])) a (exo a C (some dx))) := fun b o e hb => by
        rw [upd_ne hb, upd_ne (ne_of_none e n)]
        exact e
      refine k p _ bt ⟨dx, upd_same, ?_⟩ (SqT.but bt ha hp)
      rw [upd_ne ne, upd_same]
abbrev sI7 : Stmt := inClass (topS 9) 0
theorem scI7 : FnScope ["self", "path"] ["self", "path"] (defScope sI7) := ⟨rfl, rfl, rfl, by decide +kernel, rfl, by decide +kernel, by decide +kernel⟩
theorem ok_I7 {f C : Addr} {fd : FuncData} (F : Fun K "__init__" "BadGrove.__init__" sI7 f fd) (T : XI K C f) (no : PySem.W.findIn K (.ref C) "path" = some none) (mT : mg "tuple" = none) : FnOk P w K mg base CX0 1 f fd ["self", "path"] (spSP K C) := by
  refine F.ok scI7 (fun vs H Q E h => ?_) (fun cdv A outer s H vs Q E hr h => ?_)
  · obtain ⟨a, p, xs, rfl, _⟩ := h
    rfl
  · obtain ⟨a, p, xs, rfl, ha, hp, k⟩ := h
    refine ⟨_, pss_one (ps_xst (pv 0) (pe_callTy call_tuple_of (by rfl) mT (by decide +kernel) (pa_cons (pv 1) pa_nil))), ?_⟩
    rcases hp with hp | hp
    · refine ⟨_, rfl, p, xs, rfl, .inl ⟨hp, fun t ht => ?_⟩⟩
      have nta : a ≠ t := ne_of_none ha ht
      refine ⟨_, rfl, a, C, f, rfl, T, no, .inl ⟨by rw [upd_ne nta]; exact ha, fun dx n ne => k t _ (fun b o e hb => ?_) ⟨dx, upd_same, ?_⟩ ?_⟩⟩
      · have n1 : H dx = none := (same_new ht).free n
        rw [upd_ne hb, upd_ne (ne_of_none e n1), upd_ne (ne_of_none e ht)]
        exact e
      · rw [upd_ne ne, upd_same]
      · have ndt : t ≠ dx := fun z => by
          rw [← z, upd_same] at n
          cases n
        exact .inl (.inl (by rw [upd_ne nta.symm, upd_ne ndt, upd_same]))
    · refine ⟨_, rfl, p, xs, rfl, .inr ⟨hp, ?_⟩⟩
      refine ⟨_, rfl, a, C, f, rfl, T, no, .inl ⟨ha, fun dx n ne => ?_⟩⟩
      have bt : But a H (upd (upd H dx (exd dx [("path", V.ref p)])) a (exo a C (some dx))) := fun b o e hb => by
        rw [upd_ne hb, upd_ne (ne_of_none e n)]
        exact e
      refine k p _ bt ⟨dx, upd_same, ?_⟩ (SqT.but bt ha hp)
      rw [upd_ne ne, upd_same]
abbrev sI8 : Stmt := inClass (topS 10) 0
theorem scI8 : FnScope ["self", "path"] ["self", "path"] (defScope sI8) := ⟨rfl, rfl, rfl, by decide +kernel, rfl, by decide +kernel, by decide +kernel⟩
theorem ok_I8 {f C : Addr} {fd : FuncData} (F : Fun K "__init__" "BadAssembly.__init__" sI8 f fd) (T : XI K C f) (no : PySem.W.findIn K (.ref C) "path" = some none) (mT : mg "tuple" = none) : FnOk P w K mg base CX0 1 f fd ["self", "path"] (spSP K C) := by
  refine F.ok scI8 (fun vs H Q E h => ?_) (fun cdv A outer s H vs Q E hr h => ?_)
  · obtain ⟨a, p, xs, rfl, _⟩ := h
    rfl
  · obtain ⟨a, p, xs, rfl, ha, hp, k⟩ := h
    refine ⟨_, pss_one (ps_xst (pv 0) (pe_callTy call_tuple_of (by rfl) mT (by decide +kernel) (pa_cons (pv 1) pa_nil))), ?_⟩
    rcases hp with hp | hp
    · refine ⟨_, rfl, p, xs, rfl, .inl ⟨hp, fun t ht => ?_⟩⟩
      have nta : a ≠ t := ne_of_none ha ht
      refine ⟨_, rfl, a, C, f, rfl, T, no, .inl ⟨by rw [upd_ne nta]; exact ha, fun dx n ne => k t _ (fun b o e hb => ?_) ⟨dx, upd_same, ?_⟩ ?_⟩⟩
      · have n1 : H dx = none := (same_new ht).free n
        rw [upd_ne hb, upd_ne (ne_of_none e n1), upd_ne (ne_of_none e ht)]
        exact e
      · rw [upd_ne ne, upd_same]
      · have ndt : t ≠ dx := fun z => by
          rw [← z, upd_same] at n
          cases n
        exact .inl (.inl (by rw [upd_ne nta.symm, upd_ne ndt, upd_same]))
    · refine ⟨_, rfl, p, xs, rfl, .inr ⟨hp, ?_⟩⟩
      refine ⟨_, rfl, a, C, f, rfl, T, no, .inl ⟨ha, fun dx n ne => ?_⟩⟩
      have bt : But a H (upd (upd H dx (exd dx [("path", V.ref p)])) a (exo a C (some dx))) := fun b o e hb => by
        rw [upd_ne hb, upd_ne (ne_of_none e n)]
        exact e
      refine k p _ bt ⟨dx, upd_same, ?_⟩ (SqT.but bt ha hp)
      rw [upd_ne ne, upd_same]
abbrev sI9 : Stmt := inClass (topS 11) 0
theorem scI9 : FnScope ["self", "path"] ["self", "path"] (defScope sI9) := ⟨rfl, rfl, rfl, by decide +kernel, rfl, by decide +kernel, by decide +kernel⟩
theorem ok_I9 {f C : Addr} {fd : FuncData} (F : Fun K "__init__" "BadPattern.__init__" sI9 f fd) (T : XI K C f) (no : PySem.W.findIn K (.ref C) "path" = some none) (mT : mg "tuple" = none) : FnOk P w K mg base CX0 1 f fd ["self", "path"] (spSP K C) := by
  refine F.ok scI9 (fun vs H Q E h => ?_) (fun cdv A outer s H vs Q E hr h => ?_)
  · obtain ⟨a, p, xs, rfl, _⟩ := h
    rfl
  · obtain ⟨a, p, xs, rfl, ha, hp, k⟩ := h
    refine ⟨_, pss_one (ps_xst (pv 0) (pe_callTy call_tuple_of (by rfl) mT (by decide +kernel) (pa_cons (pv 1) pa_nil))), ?_⟩
    rcases hp with hp | hp
    · refine ⟨_, rfl, p, xs, rfl, .inl ⟨hp, fun t ht => ?_⟩⟩
      have nta : a ≠ t := ne_of_none ha ht
      refine ⟨_, rfl, a, C, f, rfl, T, no, .inl ⟨by rw [upd_ne nta]; exact ha, fun dx n ne => k t _ (fun b o e hb => ?_) ⟨dx, upd_same, ?_⟩ ?_⟩⟩
      · have n1 : H dx = none := (same_new ht).free n
        rw [upd_ne hb, upd_ne (ne_of_none e n1), upd_ne (ne_of_none e ht)]
        exact e
      · rw [upd_ne ne, upd_same]
      · have ndt : t ≠ dx := fun z => by
          rw [← z, upd_same] at n
          cases n
        exact .inl (.inl (by rw [upd_ne nta.symm, upd_ne ndt, upd_same]))
    · refine ⟨_, rfl, p, xs, rfl, .inr ⟨hp, ?_⟩⟩
      refine ⟨_, rfl, a, C, f, rfl, T, no, .inl ⟨ha, fun dx n ne => ?_⟩⟩
      have bt : But a H (upd (upd H dx (exd dx [("path", V.ref p)])) a (exo a C (some dx))) := fun b o e hb => by
        rw [upd_ne hb, upd_ne (ne_of_none e n)]
        exact e
      refine k p _ bt ⟨dx, upd_same, ?_⟩ (SqT.but bt ha hp)
      rw [upd_ne ne, upd_same]
abbrev sI13 : Stmt := inClass (topS 15) 0
theorem scI13 : FnScope ["self", "word", "value"] ["self", "word", "value"] (defScope sI13) := ⟨rfl, rfl, rfl, by decide +kernel, rfl, by decide +kernel, by decide +kernel⟩
theorem ok_I13 {f C : Addr} {fd : FuncData} (F : Fun K "__init__" "Unbuilt.__init__" sI13 f fd) (T : XI K C f) (no : PySem.W.findIn K (.ref C) "word" = some none) (no2 : PySem.W.findIn K (.ref C) "value" = some none) : FnOk P w K mg base CX0 1 f fd ["self", "word", "value"] (spS2 C "word" "value") := by
  refine F.ok scI13 (fun vs H Q E h => ?_) (fun cdv A outer s H vs Q E hr h => ?_)
  · obtain ⟨a, v, u, rfl, _⟩ := h
    rfl
  · obtain ⟨a, v, u, rfl, ha, k⟩ := h
    refine ⟨_, pss_cons (ps_xst (pv 0) (pv 1)) (pss_one (ps_xst (pv 0) (pv 2))), ?_⟩
    refine ⟨_, rfl, _, rfl, a, C, f, rfl, T, no, .inl ⟨ha, fun dx n ne => ?_⟩⟩
    refine ⟨_, rfl, _, rfl, a, C, f, rfl, T, no2, .inr ⟨dx, [("word", v)], upd_same, by rw [upd_ne ne, upd_same], (by show 1 ≤ 900; decide), k _ (fun b o e hb => ?_) ⟨dx, ?_, upd_same⟩⟩⟩
    · rw [upd_ne (ne_of_none e n), upd_ne hb, upd_ne (ne_of_none e n)]
      exact e
    · rw [upd_ne ne.symm, upd_same]
end
end Bc

namespace Bc
open PySem PySem.Spec PyProof.Rows L2
theorem x0_at {H : Hp} {a C : Addr} (n : H a = none) : XAt (upd H a (ExO (.ref C) a)) a C := .inl upd_same
/-- a class of the text's own, as a value -/
theorem pe_cls {X : Cx} {x : Str} {C : Addr} {pos : Pos} (hg : Gl X x) (hm : X.mg x = some (.ref C)) (hd : (x == ("__debug__" : Str)) = false := by decide) : PE X (.Name x pos) (tC (.ref C)) := pe_glob (v := .ref C) hg hm rfl hd
/-- a built-in class, as a value -/
theorem pe_bty {X : Cx} {x : Str} {T : String} {pos : Pos} (hg : Gl X x) (hm : X.mg x = none) (hv : bootBuiltins x = some (.type T)) (hn : x ≠ "__name__" := by decide) (hd : (x == ("__debug__" : Str)) = false := by decide) : PE X (.Name x pos) (tC (.ty T)) := pe_bltn (v := .ty T) hg hm hv rfl hn hd
abbrev veBm : List Value := [.type "ValueError", .type "Exception", .type "BaseException", .type "object"]
abbrev leBm : List Value := [.type "LookupError", .type "Exception", .type "BaseException", .type "object"]
/-- what the text's top has written of the errors: the class with the number k at C k, its __init__ at I k -/
structure Txt (K : PySem.W.Frag) (mg : Str → Option Value) (C I : Nat → Addr) (cB cN : Addr) : Prop where
  b : Blt mg
  isi : mg "isinstance" = none
  tup : mg "tuple" = none
  rep : mg "repr" = none
  rng : mg "range" = none
  ve : mg "ValueError" = none
  le : mg "LookupError" = none
  ke : mg "KeyError" = none
  ie : mg "IndexError" = none
  gB : mg "BushError" = some (.ref cB)
  gN : mg "NameMissing" = some (.ref cN)
  g0 : mg "UnlikeGroves" = some (.ref (C 0))
  g1 : mg "TooGreat" = some (.ref (C 1))
  g2 : mg "Overlaps" = some (.ref (C 2))
  g3 : mg "NothingDone" = some (.ref (C 3))
  g4 : mg "UnlikeStocks" = some (.ref (C 4))
  g5 : mg "BadBook" = some (.ref (C 5))
  g6 : mg "BadBag" = some (.ref (C 6))
  g7 : mg "BadGrove" = some (.ref (C 7))
  g8 : mg "BadAssembly" = some (.ref (C 8))
  g9 : mg "BadPattern" = some (.ref (C 9))
  g10 : mg "BadDeed" = some (.ref (C 10))
  g11 : mg "BadAct" = some (.ref (C 11))
  g12 : mg "BadText" = some (.ref (C 12))
  g13 : mg "Unbuilt" = some (.ref (C 13))
  g14 : mg "Clash" = some (.ref (C 14))
  g15 : mg "UnknownName" = some (.ref (C 15))
  ex : ∀ k, k < 4 → PySem.W.excIn K (C k) veBm "ValueError.__new__" = true
  xc : ∀ k, k < 16 → XC K (C k)
  xi : ∀ k, 4 ≤ k → k < 16 → XI K (C k) (I k)
  fw : ∀ k, k < 16 → PySem.W.findIn K (.ref (C k)) "word" = some none
  fp : ∀ k, k < 16 → PySem.W.findIn K (.ref (C k)) "path" = some none
  fn : ∀ k, k < 16 → PySem.W.findIn K (.ref (C k)) "number" = some none
  fl : ∀ k, k < 16 → PySem.W.findIn K (.ref (C k)) "place" = some none
  fv : ∀ k, k < 16 → PySem.W.findIn K (.ref (C k)) "value" = some none
  fm : ∀ k, k < 16 → PySem.W.findIn K (.ref (C k)) "name" = some none
  kd : ∀ j k, j < 16 → k < 16 → PySem.W.kitOne K (.ref (C k)) (.ref (C j)) = some (decide (j = k))
  kB : ∀ k, k < 16 → PySem.W.kitOne K (.ref (C k)) (.ref cB) = some (decide (k < 15))
  kV : ∀ k, k < 16 → PySem.W.kitOne K (.ref (C k)) (.type "ValueError") = some (decide (k < 15))
  kN : ∀ k, k < 16 → PySem.W.kitOne K (.ref (C k)) (.ref cN) = some (decide (15 ≤ k))
  kL : ∀ k, k < 16 → PySem.W.kitOne K (.ref (C k)) (.type "LookupError") = some (decide (15 ≤ k))
  kK : ∀ k, k < 16 → PySem.W.kitAny K (.ref (C k)) [.type "KeyError", .type "IndexError"] = some false
abbrev sKinds : Stmt := topS 22
abbrev sBases : Stmt := topS 23
abbrev sEvery : Stmt := topS 24
abbrev sKept : Stmt := topS 25
theorem scKinds : FnScope ["_law_e", "_law_found"] ["_law_e"] (defScope sKinds) := ⟨rfl, rfl, rfl, by decide +kernel, rfl, by decide +kernel, by decide +kernel⟩
theorem scBases : FnScope ["_law_e", "_law_found"] ["_law_e"] (defScope sBases) := ⟨rfl, rfl, rfl, by decide +kernel, rfl, by decide +kernel, by decide +kernel⟩
theorem scEvery : FnScope ["_law_word", "_law_number", "_law_some", "_law_other", "_law_found"] ["_law_word", "_law_number", "_law_some", "_law_other"] (defScope sEvery) := ⟨rfl, rfl, rfl, by decide +kernel, rfl, by decide +kernel, by decide +kernel⟩
theorem scKept : FnScope ["_law_every_here", "_law_word", "_law_number", "_law_some", "_law_other", "_law_words", "_law_paths", "_law_numbers"] ["_law_every_here", "_law_word", "_law_number", "_law_some", "_law_other"] (defScope sKept) := ⟨rfl, rfl, rfl, by decide +kernel, rfl, by decide +kernel, by decide +kernel⟩
/-- of which classes an error of the class with the number k is -/
def kindsOf (k : Nat) : List V := [.bl (decide (0 = k)), .bl (decide (1 = k)), .bl (decide (2 = k)), .bl (decide (3 = k)), .bl (decide (4 = k)), .bl (decide (5 = k)), .bl (decide (6 = k)), .bl (decide (7 = k)), .bl (decide (8 = k)), .bl (decide (9 = k)), .bl (decide (10 = k)), .bl (decide (11 = k)), .bl (decide (12 = k)), .bl (decide (13 = k)), .bl (decide (14 = k)), .bl (decide (15 = k))]
def basesOf (k : Nat) : List V := [.bl (decide (k < 15)), .bl (decide (k < 15)), .bl (decide (15 ≤ k)), .bl (decide (15 ≤ k)), .bl false]
def spKinds (K : PySem.W.Frag) (C : Nat → Addr) (r : Nat → List V) : Sp := fun vs H Q _ => ∃ (e : Addr) (k : Nat), vs = [.ref e] ∧ k < 16 ∧ XAt H e (C k) ∧ ∀ l H', Same H H' → H' l = some (.lst (r k)) → Q (.ref l) H'
section
variable {P : Program} {w : World} {K : PySem.W.Frag} {mg : Str → Option Value} {base : Heap} {C I : Nat → Addr} {cB cN : Addr}
theorem ok_kinds {f : Addr} {fd : FuncData} (F : Fun K "_law_kinds" "_law_kinds" sKinds f fd) (T : Txt K mg C I cB cN) : FnOk P w K mg base CX0 1 f fd ["_law_e"] (spKinds K C kindsOf) := by
  refine F.ok scKinds (fun vs H Q E h => ?_) (fun cdv A outer s H vs Q E hr h => ?_)
  · obtain ⟨e, k, rfl, _⟩ := h
    rfl
  · obtain ⟨e, k, rfl, hk, h0, q⟩ := h
    refine ⟨_, pss_cons (ps_set (i := 1) scKinds.nd rfl (.inl rfl) (pe_lst (pa_cons (pe_callB call_isX (by rfl) T.isi (by decide +kernel) (pa_cons (pv 0) (pa_cons (pe_cls (by rfl) T.g0) pa_nil))) (pa_cons (pe_callB call_isX (by rfl) T.isi (by decide +kernel) (pa_cons (pv 0) (pa_cons (pe_cls (by rfl) T.g1) pa_nil))) (pa_cons (pe_callB call_isX (by rfl) T.isi (by decide +kernel) (pa_cons (pv 0) (pa_cons (pe_cls (by rfl) T.g2) pa_nil))) (pa_cons (pe_callB call_isX (by rfl) T.isi (by decide +kernel) (pa_cons (pv 0) (pa_cons (pe_cls (by rfl) T.g3) pa_nil))) pa_nil))))))
      (pss_cons (ps_set (i := 1) scKinds.nd rfl (.inl rfl) (pe_op op_cat (pv 1) (pe_lst (pa_cons (pe_callB call_isX (by rfl) T.isi (by decide +kernel) (pa_cons (pv 0) (pa_cons (pe_cls (by rfl) T.g4) pa_nil))) (pa_cons (pe_callB call_isX (by rfl) T.isi (by decide +kernel) (pa_cons (pv 0) (pa_cons (pe_cls (by rfl) T.g5) pa_nil))) (pa_cons (pe_callB call_isX (by rfl) T.isi (by decide +kernel) (pa_cons (pv 0) (pa_cons (pe_cls (by rfl) T.g6) pa_nil))) pa_nil))))))
      (pss_cons (ps_set (i := 1) scKinds.nd rfl (.inl rfl) (pe_op op_cat (pv 1) (pe_lst (pa_cons (pe_callB call_isX (by rfl) T.isi (by decide +kernel) (pa_cons (pv 0) (pa_cons (pe_cls (by rfl) T.g7) pa_nil))) (pa_cons (pe_callB call_isX (by rfl) T.isi (by decide +kernel) (pa_cons (pv 0) (pa_cons (pe_cls (by rfl) T.g8) pa_nil))) (pa_cons (pe_callB call_isX (by rfl) T.isi (by decide +kernel) (pa_cons (pv 0) (pa_cons (pe_cls (by rfl) T.g9) pa_nil))) pa_nil))))))
      (pss_cons (ps_set (i := 1) scKinds.nd rfl (.inl rfl) (pe_op op_cat (pv 1) (pe_lst (pa_cons (pe_callB call_isX (by rfl) T.isi (by decide +kernel) (pa_cons (pv 0) (pa_cons (pe_cls (by rfl) T.g10) pa_nil))) (pa_cons (pe_callB call_isX (by rfl) T.isi (by decide +kernel) (pa_cons (pv 0) (pa_cons (pe_cls (by rfl) T.g11) pa_nil))) (pa_cons (pe_callB call_isX (by rfl) T.isi (by decide +kernel) (pa_cons (pv 0) (pa_cons (pe_cls (by rfl) T.g12) pa_nil))) pa_nil))))))
      (pss_one (ps_ret (pe_op op_cat (pv 1) (pe_lst (pa_cons (pe_callB call_isX (by rfl) T.isi (by decide +kernel) (pa_cons (pv 0) (pa_cons (pe_cls (by rfl) T.g13) pa_nil))) (pa_cons (pe_callB call_isX (by rfl) T.isi (by decide +kernel) (pa_cons (pv 0) (pa_cons (pe_cls (by rfl) T.g14) pa_nil))) (pa_cons (pe_callB call_isX (by rfl) T.isi (by decide +kernel) (pa_cons (pv 0) (pa_cons (pe_cls (by rfl) T.g15) pa_nil))) pa_nil)))))))))), ?_⟩
    refine ⟨_, rfl, e, C k, .ref (C 0), .ref (C 0), _, rfl, h0, (T.xc k hk).toExcC, .own _, T.kd 0 k (by decide) hk, _, rfl, e, C k, .ref (C 1), .ref (C 1), _, rfl, h0, (T.xc k hk).toExcC, .own _, T.kd 1 k (by decide) hk, _, rfl, e, C k, .ref (C 2), .ref (C 2), _, rfl, h0, (T.xc k hk).toExcC, .own _, T.kd 2 k (by decide) hk, _, rfl, e, C k, .ref (C 3), .ref (C 3), _, rfl, h0, (T.xc k hk).toExcC, .own _, T.kd 3 k (by decide) hk, (by show 4 ≤ sizeLine; decide), fun l0 n0 => ?_⟩
    have s0 := same_new (o := .lst [.bl (decide (0 = k)), .bl (decide (1 = k)), .bl (decide (2 = k)), .bl (decide (3 = k))]) n0
    have h1 := h0.same s0
    have e0 : (upd H l0 (.lst [.bl (decide (0 = k)), .bl (decide (1 = k)), .bl (decide (2 = k)), .bl (decide (3 = k))])) l0 = some (.lst _) := upd_same
    refine ⟨_, rfl, _, rfl, e, C k, .ref (C 4), .ref (C 4), _, rfl, h1, (T.xc k hk).toExcC, .own _, T.kd 4 k (by decide) hk, _, rfl, e, C k, .ref (C 5), .ref (C 5), _, rfl, h1, (T.xc k hk).toExcC, .own _, T.kd 5 k (by decide) hk, _, rfl, e, C k, .ref (C 6), .ref (C 6), _, rfl, h1, (T.xc k hk).toExcC, .own _, T.kd 6 k (by decide) hk, (by show 3 ≤ sizeLine; decide), fun m1 n1 => ?_⟩
    have t1 := same_new (o := .lst [.bl (decide (4 = k)), .bl (decide (5 = k)), .bl (decide (6 = k))]) n1
    refine ⟨l0, m1, _, _, rfl, rfl, t1 _ _ e0, upd_same, (by show 4 + 3 ≤ sizeLine; decide), fun l1 o1 => ?_⟩
    have s1 := t1.trans (same_new (o := .lst [.bl (decide (0 = k)), .bl (decide (1 = k)), .bl (decide (2 = k)), .bl (decide (3 = k)), .bl (decide (4 = k)), .bl (decide (5 = k)), .bl (decide (6 = k))]) o1)
    have h2 := h1.same s1
    refine ⟨_, rfl, _, rfl, e, C k, .ref (C 7), .ref (C 7), _, rfl, h2, (T.xc k hk).toExcC, .own _, T.kd 7 k (by decide) hk, _, rfl, e, C k, .ref (C 8), .ref (C 8), _, rfl, h2, (T.xc k hk).toExcC, .own _, T.kd 8 k (by decide) hk, _, rfl, e, C k, .ref (C 9), .ref (C 9), _, rfl, h2, (T.xc k hk).toExcC, .own _, T.kd 9 k (by decide) hk, (by show 3 ≤ sizeLine; decide), fun m2 n2 => ?_⟩
    have t2 := same_new (o := .lst [.bl (decide (7 = k)), .bl (decide (8 = k)), .bl (decide (9 = k))]) n2
    refine ⟨l1, m2, _, _, rfl, rfl, t2 _ _ upd_same, upd_same, (by show 7 + 3 ≤ sizeLine; decide), fun l2 o2 => ?_⟩
    have s2 := t2.trans (same_new (o := .lst [.bl (decide (0 = k)), .bl (decide (1 = k)), .bl (decide (2 = k)), .bl (decide (3 = k)), .bl (decide (4 = k)), .bl (decide (5 = k)), .bl (decide (6 = k)), .bl (decide (7 = k)), .bl (decide (8 = k)), .bl (decide (9 = k))]) o2)
    have h3 := h2.same s2
    refine ⟨_, rfl, _, rfl, e, C k, .ref (C 10), .ref (C 10), _, rfl, h3, (T.xc k hk).toExcC, .own _, T.kd 10 k (by decide) hk, _, rfl, e, C k, .ref (C 11), .ref (C 11), _, rfl, h3, (T.xc k hk).toExcC, .own _, T.kd 11 k (by decide) hk, _, rfl, e, C k, .ref (C 12), .ref (C 12), _, rfl, h3, (T.xc k hk).toExcC, .own _, T.kd 12 k (by decide) hk, (by show 3 ≤ sizeLine; decide), fun m3 n3 => ?_⟩
    have t3 := same_new (o := .lst [.bl (decide (10 = k)), .bl (decide (11 = k)), .bl (decide (12 = k))]) n3
    refine ⟨l2, m3, _, _, rfl, rfl, t3 _ _ upd_same, upd_same, (by show 10 + 3 ≤ sizeLine; decide), fun l3 o3 => ?_⟩
    have s3 := t3.trans (same_new (o := .lst [.bl (decide (0 = k)), .bl (decide (1 = k)), .bl (decide (2 = k)), .bl (decide (3 = k)), .bl (decide (4 = k)), .bl (decide (5 = k)), .bl (decide (6 = k)), .bl (decide (7 = k)), .bl (decide (8 = k)), .bl (decide (9 = k)), .bl (decide (10 = k)), .bl (decide (11 = k)), .bl (decide (12 = k))]) o3)
    have h4 := h3.same s3
    refine ⟨_, rfl, _, rfl, e, C k, .ref (C 13), .ref (C 13), _, rfl, h4, (T.xc k hk).toExcC, .own _, T.kd 13 k (by decide) hk, _, rfl, e, C k, .ref (C 14), .ref (C 14), _, rfl, h4, (T.xc k hk).toExcC, .own _, T.kd 14 k (by decide) hk, _, rfl, e, C k, .ref (C 15), .ref (C 15), _, rfl, h4, (T.xc k hk).toExcC, .own _, T.kd 15 k (by decide) hk, (by show 3 ≤ sizeLine; decide), fun m4 n4 => ?_⟩
    have t4 := same_new (o := .lst [.bl (decide (13 = k)), .bl (decide (14 = k)), .bl (decide (15 = k))]) n4
    refine ⟨l3, m4, _, _, rfl, rfl, t4 _ _ upd_same, upd_same, (by show 13 + 3 ≤ sizeLine; decide), fun l4 o4 => ?_⟩
    refine q l4 _ (s0.trans (s1.trans (s2.trans (s3.trans (t4.trans (same_new o4)))))) upd_same
theorem ok_bases {f : Addr} {fd : FuncData} (F : Fun K "_law_bases" "_law_bases" sBases f fd) (T : Txt K mg C I cB cN) : FnOk P w K mg base CX0 1 f fd ["_law_e"] (spKinds K C basesOf) := by
  refine F.ok scBases (fun vs H Q E h => ?_) (fun cdv A outer s H vs Q E hr h => ?_)
  · obtain ⟨e, k, rfl, _⟩ := h
    rfl
  · obtain ⟨e, k, rfl, hk, h0, q⟩ := h
    refine ⟨_, pss_cons (ps_set (i := 1) scBases.nd rfl (.inl rfl) (pe_lst (pa_cons (pe_callB call_isX (by rfl) T.isi (by decide +kernel) (pa_cons (pv 0) (pa_cons (pe_cls (by rfl) T.gB) pa_nil))) (pa_cons (pe_callB call_isX (by rfl) T.isi (by decide +kernel) (pa_cons (pv 0) (pa_cons (pe_bty (T := "ValueError") (by rfl) T.ve (by decide +kernel)) pa_nil))) pa_nil))))
      (pss_one (ps_ret (pe_op op_cat (pv 1) (pe_lst (pa_cons (pe_callB call_isX (by rfl) T.isi (by decide +kernel) (pa_cons (pv 0) (pa_cons (pe_cls (by rfl) T.gN) pa_nil))) (pa_cons (pe_callB call_isX (by rfl) T.isi (by decide +kernel) (pa_cons (pv 0) (pa_cons (pe_bty (T := "LookupError") (by rfl) T.le (by decide +kernel)) pa_nil))) (pa_cons (pe_callB call_isXT (by rfl) T.isi (by decide +kernel) (pa_cons (pv 0) (pa_cons (pe_tup (pa_cons (pe_bty (T := "KeyError") (by rfl) T.ke (by decide +kernel)) (pa_cons (pe_bty (T := "IndexError") (by rfl) T.ie (by decide +kernel)) pa_nil))) pa_nil))) pa_nil))))))), ?_⟩
    refine ⟨_, rfl, e, C k, .ref cB, .ref cB, _, rfl, h0, (T.xc k hk).toExcC, .own _, T.kB k hk, _, rfl, e, C k, .ty "ValueError", .type "ValueError", _, rfl, h0, (T.xc k hk).toExcC, .ty _, T.kV k hk, (by show 2 ≤ sizeLine; decide), fun l0 n0 => ?_⟩
    have s0 := same_new (o := .lst [.bl (decide (k < 15)), .bl (decide (k < 15))]) n0
    have h1 := h0.same s0
    refine ⟨_, rfl, _, rfl, e, C k, .ref cN, .ref cN, _, rfl, h1, (T.xc k hk).toExcC, .own _, T.kN k hk, _, rfl, e, C k, .ty "LookupError", .type "LookupError", _, rfl, h1, (T.xc k hk).toExcC, .ty _, T.kL k hk, _, rfl, (by show 2 ≤ sizeLine; decide), fun t nt => ?_⟩
    have s1 := same_new (o := .tup [.ty "KeyError", .ty "IndexError"]) nt
    refine ⟨e, C k, t, _, _, _, rfl, upd_same, .cons (.ty _) (.cons (.ty _) .nil), h1.same s1, (T.xc k hk).toExcC, T.kK k hk, (by show 3 ≤ sizeLine; decide), fun m nm => ?_⟩
    have s2 := same_new (o := .lst [.bl (decide (15 ≤ k)), .bl (decide (15 ≤ k)), .bl false]) nm
    refine ⟨l0, m, _, _, rfl, rfl, s2 _ _ (s1 _ _ upd_same), upd_same, (by show 2 + 3 ≤ sizeLine; decide), fun l no => ?_⟩
    exact q l _ (s0.trans (s1.trans (s2.trans (same_new no)))) upd_same
/-- the sixteen errors stand, with what they hold -/
structure Every (K : PySem.W.Frag) (H : Hp) (C : Nat → Addr) (word number other : V) (xs : List V) (es : List Addr) : Prop where
  len : es.length = 16
  isa : ∀ k e, es[k]? = some e → XAt H e (C k)
  v4 : XFs H (es.getD 4 0) (C 4) [("word", word)]
  p5 : ∃ q, SqT K H q xs ∧ XFs H (es.getD 5 0) (C 5) [("path", .ref q)]
  p6 : ∃ q, SqT K H q xs ∧ XFs H (es.getD 6 0) (C 6) [("path", .ref q)]
  p7 : ∃ q, SqT K H q xs ∧ XFs H (es.getD 7 0) (C 7) [("path", .ref q)]
  p8 : ∃ q, SqT K H q xs ∧ XFs H (es.getD 8 0) (C 8) [("path", .ref q)]
  p9 : ∃ q, SqT K H q xs ∧ XFs H (es.getD 9 0) (C 9) [("path", .ref q)]
  v10 : XFs H (es.getD 10 0) (C 10) [("number", number)]
  v11 : XFs H (es.getD 11 0) (C 11) [("word", word)]
  v12 : XFs H (es.getD 12 0) (C 12) [("place", number)]
  v13 : XFs H (es.getD 13 0) (C 13) [("value", other), ("word", word)]
  v14 : XFs H (es.getD 14 0) (C 14) [("number", number)]
  v15 : XFs H (es.getD 15 0) (C 15) [("name", other)]
theorem Every.same {K : PySem.W.Frag} {H H' : Hp} {C : Nat → Addr} {word number other : V} {xs : List V} {es : List Addr} (x : Every K H C word number other xs es) (s : Same H H') : Every K H' C word number other xs es := by
  have pt : ∀ {k}, (∃ q, SqT K H q xs ∧ XFs H (es.getD k 0) (C k) [("path", .ref q)]) → ∃ q, SqT K H' q xs ∧ XFs H' (es.getD k 0) (C k) [("path", .ref q)] := fun {k} ⟨q, h1, h2⟩ => ⟨q, Same.sqT s h1, h2.same s⟩
  exact ⟨x.len, fun k e h => (x.isa k e h).same s, x.v4.same s, pt x.p5, pt x.p6, pt x.p7, pt x.p8, pt x.p9, x.v10.same s, x.v11.same s, x.v12.same s, x.v13.same s, x.v14.same s, x.v15.same s⟩
def spEvery (K : PySem.W.Frag) (C : Nat → Addr) : Sp := fun vs H Q _ => ∃ (word number other : V) (p : Addr) (xs : List V), vs = [word, number, .ref p, other] ∧ (SqL K H p xs ∨ SqT K H p xs) ∧
  ∀ (l : Addr) (H' : Hp) (es : List Addr), Same H H' → H' l = some (.lst (es.map V.ref)) → Every K H' C word number other xs es → Q (.ref l) H'
theorem ok_every {f : Addr} {fd fd4 fd5 fd6 fd7 fd8 fd9 fd10 fd11 fd12 fd13 fd14 fd15 : FuncData} (F0 : Fun K "_law_every" "_law_every" sEvery f fd) (T : Txt K mg C I cB cN)
    (G4 : FnOk P w K mg base CX0 1 (I 4) fd4 ["self", "word"] (spS1 (C 4) "word")) (b4 : Binds K fd4 ["self", "word"] []) (G5 : FnOk P w K mg base CX0 1 (I 5) fd5 ["self", "path"] (spSP K (C 5))) (b5 : Binds K fd5 ["self", "path"] []) (G6 : FnOk P w K mg base CX0 1 (I 6) fd6 ["self", "path"] (spSP K (C 6))) (b6 : Binds K fd6 ["self", "path"] []) (G7 : FnOk P w K mg base CX0 1 (I 7) fd7 ["self", "path"] (spSP K (C 7))) (b7 : Binds K fd7 ["self", "path"] []) (G8 : FnOk P w K mg base CX0 1 (I 8) fd8 ["self", "path"] (spSP K (C 8))) (b8 : Binds K fd8 ["self", "path"] []) (G9 : FnOk P w K mg base CX0 1 (I 9) fd9 ["self", "path"] (spSP K (C 9))) (b9 : Binds K fd9 ["self", "path"] []) (G10 : FnOk P w K mg base CX0 1 (I 10) fd10 ["self", "number"] (spS1 (C 10) "number")) (b10 : Binds K fd10 ["self", "number"] []) (G11 : FnOk P w K mg base CX0 1 (I 11) fd11 ["self", "word"] (spS1 (C 11) "word")) (b11 : Binds K fd11 ["self", "word"] []) (G12 : FnOk P w K mg base CX0 1 (I 12) fd12 ["self", "place"] (spS1 (C 12) "place")) (b12 : Binds K fd12 ["self", "place"] []) (G13 : FnOk P w K mg base CX0 1 (I 13) fd13 ["self", "word", "value"] (spS2 (C 13) "word" "value")) (b13 : Binds K fd13 ["self", "word", "value"] []) (G14 : FnOk P w K mg base CX0 1 (I 14) fd14 ["self", "number"] (spS1 (C 14) "number")) (b14 : Binds K fd14 ["self", "number"] []) (G15 : FnOk P w K mg base CX0 1 (I 15) fd15 ["self", "name"] (spS1 (C 15) "name")) (b15 : Binds K fd15 ["self", "name"] []) :
    FnOk P w K mg base CX0 3 f fd ["_law_word", "_law_number", "_law_some", "_law_other"] (spEvery K C) := by
  refine F0.ok scEvery (fun vs H Q E h => ?_) (fun cdv A outer s H vs Q E hr h => ?_)
  · obtain ⟨word, number, other, p, xs, rfl, _⟩ := h
    rfl
  · obtain ⟨word, number, other, p, xs, rfl, hp, q⟩ := h
    have hr1 : Room 2 _ := hr
    refine ⟨_, pss_cons (ps_set (i := 4) scEvery.nd rfl (.inl rfl) (pe_lst (pa_cons (pe_x0 F.excBase_ValueError (T.ex 0 (by decide)) T.g0 (T.xc 0 (by decide)).kC (by rfl)) (pa_cons (pe_x0 F.excBase_ValueError (T.ex 1 (by decide)) T.g1 (T.xc 1 (by decide)).kC (by rfl)) (pa_cons (pe_x0 F.excBase_ValueError (T.ex 2 (by decide)) T.g2 (T.xc 2 (by decide)).kC (by rfl)) (pa_cons (pe_x0 F.excBase_ValueError (T.ex 3 (by decide)) T.g3 (T.xc 3 (by decide)).kC (by rfl)) (pa_cons (pe_mkX (T.xi 4 (by decide) (by decide)) G4 hr1 b4 (by rfl) T.g4 (pa_cons (pv 0) pa_nil)) (pa_cons (pe_mkX (T.xi 5 (by decide) (by decide)) G5 hr1 b5 (by rfl) T.g5 (pa_cons (pv 2) pa_nil)) (pa_cons (pe_mkX (T.xi 6 (by decide) (by decide)) G6 hr1 b6 (by rfl) T.g6 (pa_cons (pv 2) pa_nil)) pa_nil)))))))))
      (pss_cons (ps_set (i := 4) scEvery.nd rfl (.inl rfl) (pe_op op_cat (pv 4) (pe_lst (pa_cons (pe_mkX (T.xi 7 (by decide) (by decide)) G7 hr1 b7 (by rfl) T.g7 (pa_cons (pv 2) pa_nil)) (pa_cons (pe_mkX (T.xi 8 (by decide) (by decide)) G8 hr1 b8 (by rfl) T.g8 (pa_cons (pv 2) pa_nil)) (pa_cons (pe_mkX (T.xi 9 (by decide) (by decide)) G9 hr1 b9 (by rfl) T.g9 (pa_cons (pv 2) pa_nil)) (pa_cons (pe_mkX (T.xi 10 (by decide) (by decide)) G10 hr1 b10 (by rfl) T.g10 (pa_cons (pv 1) pa_nil)) (pa_cons (pe_mkX (T.xi 11 (by decide) (by decide)) G11 hr1 b11 (by rfl) T.g11 (pa_cons (pv 0) pa_nil)) pa_nil))))))))
      (pss_one (ps_ret (pe_op op_cat (pv 4) (pe_lst (pa_cons (pe_mkX (T.xi 12 (by decide) (by decide)) G12 hr1 b12 (by rfl) T.g12 (pa_cons (pv 1) pa_nil)) (pa_cons (pe_mkX (T.xi 13 (by decide) (by decide)) G13 hr1 b13 (by rfl) T.g13 (pa_cons (pv 0) (pa_cons (pv 3) pa_nil))) (pa_cons (pe_mkX (T.xi 14 (by decide) (by decide)) G14 hr1 b14 (by rfl) T.g14 (pa_cons (pv 1) pa_nil)) (pa_cons (pe_mkX (T.xi 15 (by decide) (by decide)) G15 hr1 b15 (by rfl) T.g15 (pa_cons (pv 3) pa_nil)) pa_nil))))))))), ?_⟩
    refine fun a0 n0 => ?_
    have s0 := same_new (o := ExO (.ref (C 0)) a0) n0
    have f0 := x0_at (C := C 0) n0
    intro a1 n1
    have s1 := same_new (o := ExO (.ref (C 1)) a1) n1
    have f1 := x0_at (C := C 1) n1
    intro a2 n2
    have s2 := same_new (o := ExO (.ref (C 2)) a2) n2
    have f2 := x0_at (C := C 2) n2
    intro a3 n3
    have s3 := same_new (o := ExO (.ref (C 3)) a3) n3
    have f3 := x0_at (C := C 3) n3
    refine ⟨_, rfl, (by show 1 ≤ 1000; decide), fun a4 n4 => ?_⟩
    refine ⟨a4, word, rfl, upd_same, fun H4 o4 f4 => ⟨rfl, ?_⟩⟩
    have s4 := o4.same n4
    refine ⟨_, rfl, (by show 1 ≤ 1000; decide), fun a5 n5 => ?_⟩
    have hp5 := hp.imp (fun z => (s0.trans (s1.trans (s2.trans (s3.trans s4)))).seq z) (fun z => Same.sqT (s0.trans (s1.trans (s2.trans (s3.trans s4)))) z)
    refine ⟨a5, p, xs, rfl, upd_same, hp5.imp (fun z => (same_new n5).seq z) (fun z => Same.sqT (same_new n5) z), fun q5 H5 o5 f5 t5 => ⟨rfl, ?_⟩⟩
    have s5 := o5.same n5
    refine ⟨_, rfl, (by show 1 ≤ 1000; decide), fun a6 n6 => ?_⟩
    have hp6 := hp.imp (fun z => (s0.trans (s1.trans (s2.trans (s3.trans (s4.trans s5))))).seq z) (fun z => Same.sqT (s0.trans (s1.trans (s2.trans (s3.trans (s4.trans s5))))) z)
    refine ⟨a6, p, xs, rfl, upd_same, hp6.imp (fun z => (same_new n6).seq z) (fun z => Same.sqT (same_new n6) z), fun q6 H6 o6 f6 t6 => ⟨rfl, ?_⟩⟩
    have s6 := o6.same n6
    refine ⟨(by show 7 ≤ sizeLine; decide), fun l0 m0 => ?_⟩
    have z0 := same_new (o := .lst [.ref a0, .ref a1, .ref a2, .ref a3, .ref a4, .ref a5, .ref a6]) m0
    refine ⟨_, rfl, ?_⟩
    refine ⟨_, rfl, (by show 1 ≤ 1000; decide), fun a7 n7 => ?_⟩
    have hp7 := hp.imp (fun z => (s0.trans (s1.trans (s2.trans (s3.trans (s4.trans (s5.trans (s6.trans z0))))))).seq z) (fun z => Same.sqT (s0.trans (s1.trans (s2.trans (s3.trans (s4.trans (s5.trans (s6.trans z0))))))) z)
    refine ⟨a7, p, xs, rfl, upd_same, hp7.imp (fun z => (same_new n7).seq z) (fun z => Same.sqT (same_new n7) z), fun q7 H7 o7 f7 t7 => ⟨rfl, ?_⟩⟩
    have s7 := o7.same n7
    refine ⟨_, rfl, (by show 1 ≤ 1000; decide), fun a8 n8 => ?_⟩
    have hp8 := hp.imp (fun z => (s0.trans (s1.trans (s2.trans (s3.trans (s4.trans (s5.trans (s6.trans (z0.trans s7)))))))).seq z) (fun z => Same.sqT (s0.trans (s1.trans (s2.trans (s3.trans (s4.trans (s5.trans (s6.trans (z0.trans s7)))))))) z)
    refine ⟨a8, p, xs, rfl, upd_same, hp8.imp (fun z => (same_new n8).seq z) (fun z => Same.sqT (same_new n8) z), fun q8 H8 o8 f8 t8 => ⟨rfl, ?_⟩⟩
    have s8 := o8.same n8
    refine ⟨_, rfl, (by show 1 ≤ 1000; decide), fun a9 n9 => ?_⟩
    have hp9 := hp.imp (fun z => (s0.trans (s1.trans (s2.trans (s3.trans (s4.trans (s5.trans (s6.trans (z0.trans (s7.trans s8))))))))).seq z) (fun z => Same.sqT (s0.trans (s1.trans (s2.trans (s3.trans (s4.trans (s5.trans (s6.trans (z0.trans (s7.trans s8))))))))) z)
    refine ⟨a9, p, xs, rfl, upd_same, hp9.imp (fun z => (same_new n9).seq z) (fun z => Same.sqT (same_new n9) z), fun q9 H9 o9 f9 t9 => ⟨rfl, ?_⟩⟩
    have s9 := o9.same n9
    refine ⟨_, rfl, (by show 1 ≤ 1000; decide), fun a10 n10 => ?_⟩
    refine ⟨a10, number, rfl, upd_same, fun H10 o10 f10 => ⟨rfl, ?_⟩⟩
    have s10 := o10.same n10
    refine ⟨_, rfl, (by show 1 ≤ 1000; decide), fun a11 n11 => ?_⟩
    refine ⟨a11, word, rfl, upd_same, fun H11 o11 f11 => ⟨rfl, ?_⟩⟩
    have s11 := o11.same n11
    refine ⟨(by show 5 ≤ sizeLine; decide), fun l1 m1 => ?_⟩
    have z1 := same_new (o := .lst [.ref a7, .ref a8, .ref a9, .ref a10, .ref a11]) m1
    refine ⟨l0, l1, _, _, rfl, rfl, (s7.trans (s8.trans (s9.trans (s10.trans (s11.trans z1))))) _ _ upd_same, upd_same, (by show 7 + 5 ≤ sizeLine; decide), fun l2 m2 => ?_⟩
    have z2 := same_new (o := .lst [.ref a0, .ref a1, .ref a2, .ref a3, .ref a4, .ref a5, .ref a6, .ref a7, .ref a8, .ref a9, .ref a10, .ref a11]) m2
    refine ⟨_, rfl, ?_⟩
    refine ⟨_, rfl, (by show 1 ≤ 1000; decide), fun a12 n12 => ?_⟩
    refine ⟨a12, number, rfl, upd_same, fun H12 o12 f12 => ⟨rfl, ?_⟩⟩
    have s12 := o12.same n12
    refine ⟨_, rfl, _, rfl, (by show 2 ≤ 1000; decide), fun a13 n13 => ?_⟩
    refine ⟨a13, word, other, rfl, upd_same, fun H13 o13 f13 => ⟨rfl, ?_⟩⟩
    have s13 := o13.same n13
    refine ⟨_, rfl, (by show 1 ≤ 1000; decide), fun a14 n14 => ?_⟩
    refine ⟨a14, number, rfl, upd_same, fun H14 o14 f14 => ⟨rfl, ?_⟩⟩
    have s14 := o14.same n14
    refine ⟨_, rfl, (by show 1 ≤ 1000; decide), fun a15 n15 => ?_⟩
    refine ⟨a15, other, rfl, upd_same, fun H15 o15 f15 => ⟨rfl, ?_⟩⟩
    have s15 := o15.same n15
    refine ⟨(by show 4 ≤ sizeLine; decide), fun l3 m3 => ?_⟩
    have z3 := same_new (o := .lst [.ref a12, .ref a13, .ref a14, .ref a15]) m3
    refine ⟨l2, l3, _, _, rfl, rfl, (s12.trans (s13.trans (s14.trans (s15.trans z3)))) _ _ upd_same, upd_same, (by show 12 + 4 ≤ sizeLine; decide), fun l4 m4 => ?_⟩
    have z4 := same_new (o := .lst [.ref a0, .ref a1, .ref a2, .ref a3, .ref a4, .ref a5, .ref a6, .ref a7, .ref a8, .ref a9, .ref a10, .ref a11, .ref a12, .ref a13, .ref a14, .ref a15]) m4
    have u0 := f0.same (s1.trans (s2.trans (s3.trans (s4.trans (s5.trans (s6.trans (z0.trans (s7.trans (s8.trans (s9.trans (s10.trans (s11.trans (z1.trans (z2.trans (s12.trans (s13.trans (s14.trans (s15.trans (z3.trans z4)))))))))))))))))))
    have u1 := f1.same (s2.trans (s3.trans (s4.trans (s5.trans (s6.trans (z0.trans (s7.trans (s8.trans (s9.trans (s10.trans (s11.trans (z1.trans (z2.trans (s12.trans (s13.trans (s14.trans (s15.trans (z3.trans z4))))))))))))))))))
    have u2 := f2.same (s3.trans (s4.trans (s5.trans (s6.trans (z0.trans (s7.trans (s8.trans (s9.trans (s10.trans (s11.trans (z1.trans (z2.trans (s12.trans (s13.trans (s14.trans (s15.trans (z3.trans z4)))))))))))))))))
    have u3 := f3.same (s4.trans (s5.trans (s6.trans (z0.trans (s7.trans (s8.trans (s9.trans (s10.trans (s11.trans (z1.trans (z2.trans (s12.trans (s13.trans (s14.trans (s15.trans (z3.trans z4))))))))))))))))
    have u4 := f4.same (s5.trans (s6.trans (z0.trans (s7.trans (s8.trans (s9.trans (s10.trans (s11.trans (z1.trans (z2.trans (s12.trans (s13.trans (s14.trans (s15.trans (z3.trans z4)))))))))))))))
    have u5 := f5.same (s6.trans (z0.trans (s7.trans (s8.trans (s9.trans (s10.trans (s11.trans (z1.trans (z2.trans (s12.trans (s13.trans (s14.trans (s15.trans (z3.trans z4))))))))))))))
    have u6 := f6.same (z0.trans (s7.trans (s8.trans (s9.trans (s10.trans (s11.trans (z1.trans (z2.trans (s12.trans (s13.trans (s14.trans (s15.trans (z3.trans z4)))))))))))))
    have u7 := f7.same (s8.trans (s9.trans (s10.trans (s11.trans (z1.trans (z2.trans (s12.trans (s13.trans (s14.trans (s15.trans (z3.trans z4)))))))))))
    have u8 := f8.same (s9.trans (s10.trans (s11.trans (z1.trans (z2.trans (s12.trans (s13.trans (s14.trans (s15.trans (z3.trans z4))))))))))
    have u9 := f9.same (s10.trans (s11.trans (z1.trans (z2.trans (s12.trans (s13.trans (s14.trans (s15.trans (z3.trans z4)))))))))
    have u10 := f10.same (s11.trans (z1.trans (z2.trans (s12.trans (s13.trans (s14.trans (s15.trans (z3.trans z4))))))))
    have u11 := f11.same (z1.trans (z2.trans (s12.trans (s13.trans (s14.trans (s15.trans (z3.trans z4)))))))
    have u12 := f12.same (s13.trans (s14.trans (s15.trans (z3.trans z4))))
    have u13 := f13.same (s14.trans (s15.trans (z3.trans z4)))
    have u14 := f14.same (s15.trans (z3.trans z4))
    have u15 := f15.same (z3.trans z4)
    have t5' := Same.sqT (s6.trans (z0.trans (s7.trans (s8.trans (s9.trans (s10.trans (s11.trans (z1.trans (z2.trans (s12.trans (s13.trans (s14.trans (s15.trans (z3.trans z4)))))))))))))) t5
    have t6' := Same.sqT (z0.trans (s7.trans (s8.trans (s9.trans (s10.trans (s11.trans (z1.trans (z2.trans (s12.trans (s13.trans (s14.trans (s15.trans (z3.trans z4))))))))))))) t6
    have t7' := Same.sqT (s8.trans (s9.trans (s10.trans (s11.trans (z1.trans (z2.trans (s12.trans (s13.trans (s14.trans (s15.trans (z3.trans z4))))))))))) t7
    have t8' := Same.sqT (s9.trans (s10.trans (s11.trans (z1.trans (z2.trans (s12.trans (s13.trans (s14.trans (s15.trans (z3.trans z4)))))))))) t8
    have t9' := Same.sqT (s10.trans (s11.trans (z1.trans (z2.trans (s12.trans (s13.trans (s14.trans (s15.trans (z3.trans z4))))))))) t9
    refine q l4 _ [a0, a1, a2, a3, a4, a5, a6, a7, a8, a9, a10, a11, a12, a13, a14, a15] (s0.trans (s1.trans (s2.trans (s3.trans (s4.trans (s5.trans (s6.trans (z0.trans (s7.trans (s8.trans (s9.trans (s10.trans (s11.trans (z1.trans (z2.trans (s12.trans (s13.trans (s14.trans (s15.trans (z3.trans z4)))))))))))))))))))) upd_same ⟨rfl, fun k e h => ?_, u4, ⟨q5, t5', u5⟩, ⟨q6, t6', u6⟩, ⟨q7, t7', u7⟩, ⟨q8, t8', u8⟩, ⟨q9, t9', u9⟩, u10, u11, u12, u13, u14, u15⟩
    match k, h with
    | 0, h => exact (Option.some.inj h) ▸ u0
    | 1, h => exact (Option.some.inj h) ▸ u1
    | 2, h => exact (Option.some.inj h) ▸ u2
    | 3, h => exact (Option.some.inj h) ▸ u3
    | 4, h => exact (Option.some.inj h) ▸ u4.at
    | 5, h => exact (Option.some.inj h) ▸ u5.at
    | 6, h => exact (Option.some.inj h) ▸ u6.at
    | 7, h => exact (Option.some.inj h) ▸ u7.at
    | 8, h => exact (Option.some.inj h) ▸ u8.at
    | 9, h => exact (Option.some.inj h) ▸ u9.at
    | 10, h => exact (Option.some.inj h) ▸ u10.at
    | 11, h => exact (Option.some.inj h) ▸ u11.at
    | 12, h => exact (Option.some.inj h) ▸ u12.at
    | 13, h => exact (Option.some.inj h) ▸ u13.at
    | 14, h => exact (Option.some.inj h) ▸ u14.at
    | 15, h => exact (Option.some.inj h) ▸ u15.at
    | k + 16, h => exact absurd h (by simp)
end
end Bc

namespace Bc
open PySem PySem.Spec PyProof.Rows L2
/-- tuple(x), x a list or a tuple: a tuple of the same items -/
theorem call_tupleU {X : Cx} : CallR X (.type "tuple") (fun xs H Q => ∃ p ys, xs = [.ref p] ∧ (SqL X.K H p ys ∨ SqT X.K H p ys) ∧ ∀ q H', Same H H' → SqT X.K H' q ys → Q (.ref q) H') := by
  intro pins s σ H xs us Q I r h
  obtain ⟨p, ys, rfl, hp, k⟩ := h
  refine call_tuple_of pins s σ H _ us Q I r ⟨p, ys, rfl, ?_⟩
  rcases hp with hp | hp
  · exact .inl ⟨hp, fun l hl => k l _ (same_new hl) (.inl (.inl upd_same))⟩
  · exact .inr ⟨hp, k p H (Same.refl H) hp⟩
theorem iteD {c A B : Prop} [Decidable c] (hc : c) (h : A) : if decide c = true then A else B := by
  rw [decide_eq_true hc]
  exact iteT h
/-- what repr can show -/
def Fine (d : PyData) : Prop := d.showable = true ∧ d.depth ≤ 60 ∧ d.shown.length ≤ sizeLine
theorem at_es {es : List Addr} {k : Nat} {z : Int} (h : es.length = 16) (hk : k < 16) (e : z = (k : Int)) : atI (es.map V.ref) z = some (.ref (es.getD k 0)) := by
  refine at_of e ?_
  rw [List.getElem?_map, List.getD_eq_getElem?_getD, List.getElem?_eq_getElem (by omega)]
  rfl
theorem Dq.tupOf {K : PySem.W.Frag} {H : Hp} {q : Addr} {xs : List V} {ds : List PyData} (t : SqT K H q xs) (h : DqAll K H xs ds) : Dq K H (.ref q) (.tuple ds) := .tup t h
def spKept (K : PySem.W.Frag) (C : Nat → Addr) : Sp := fun vs H Q _ => ∃ (l : Addr) (es : List Addr) (word number other : V) (p : Addr) (xs : List V) (dW dN dO : PyData) (ds : List PyData),
  vs = [.ref l, word, number, .ref p, other] ∧ H l = some (.lst (es.map V.ref)) ∧ (SqL K H p xs ∨ SqT K H p xs) ∧ Every K H C word number other xs es ∧
  Dq K H word dW ∧ Dq K H number dN ∧ Dq K H other dO ∧ DqAll K H xs ds ∧ Fine (.list [dW, dW, dW]) ∧ Fine (.list [dN, dN, dN]) ∧ Fine (.list [dO, dO]) ∧ Fine (.list [.tuple ds, .tuple ds, .tuple ds, .tuple ds, .tuple ds]) ∧
  ∀ H', Same H H' → Q (.bl true) H'
section
variable {P : Program} {w : World} {K : PySem.W.Frag} {mg : Str → Option Value} {base : Heap} {C I : Nat → Addr} {cB cN : Addr}
theorem ok_kept {f : Addr} {fd : FuncData} (F0 : Fun K "_law_kept" "_law_kept" sKept f fd) (T : Txt K mg C I cB cN) : FnG P w K mg base 1 f fd ["_law_every_here", "_law_word", "_law_number", "_law_some", "_law_other"] (spKept K C) := by
  refine FnG.body F0 scKept (fun vs H Q E h => ?_) (fun cdv A outer s H vs Q E hr hg h => ?_)
  · obtain ⟨l, es, word, number, other, p, xs, dW, dN, dO, ds, rfl, _⟩ := h
    rfl
  · obtain ⟨l, es, word, number, other, p, xs, dW, dN, dO, ds, rfl, hl, hp, ev, hW, hN, hO, hS, fW, fN, fO, fS, q⟩ := h
    have hu := hr.units
    refine ⟨_, pss_cons (ps_set (i := 5) scKept.nd rfl (.inl rfl) (pe_lstB (pa_cons (pe_xF (pe_ix ix_list (pv 0) pe_int (fun _ _ => rfl))) (pa_cons (pe_xF (pe_ix ix_list (pv 0) pe_int (fun _ _ => rfl))) (pa_cons (pe_xF (pe_ix ix_list (pv 0) pe_int (fun _ _ => rfl))) pa_nil)))))
      (pss_cons (ps_set (i := 6) scKept.nd rfl (.inl rfl) (pe_lstB (pa_cons (pe_xF (pe_ix ix_list (pv 0) pe_int (fun _ _ => rfl))) (pa_cons (pe_xF (pe_ix ix_list (pv 0) pe_int (fun _ _ => rfl))) (pa_cons (pe_xF (pe_ix ix_list (pv 0) pe_int (fun _ _ => rfl))) (pa_cons (pe_xF (pe_ix ix_list (pv 0) pe_int (fun _ _ => rfl))) (pa_cons (pe_xF (pe_ix ix_list (pv 0) pe_int (fun _ _ => rfl))) pa_nil)))))))
      (pss_cons (ps_set (i := 7) scKept.nd rfl (.inl rfl) (pe_lstB (pa_cons (pe_xF (pe_ix ix_list (pv 0) pe_int (fun _ _ => rfl))) (pa_cons (pe_xF (pe_ix ix_list (pv 0) pe_int (fun _ _ => rfl))) (pa_cons (pe_xF (pe_ix ix_list (pv 0) pe_int (fun _ _ => rfl))) pa_nil)))))
      (pss_cons (ps_if (PW.pt (pw_or (pt_cmpR op_ne (pe_callB (call_repr hg hu) (by rfl) T.rep (by decide +kernel) (pa_cons (pv 5) pa_nil)) (pe_callB (call_repr hg hu) (by rfl) T.rep (by decide +kernel) (pa_cons (pe_op op_repB (pe_lst (pa_cons (pv 1) pa_nil)) pe_int) pa_nil)) (nomark _))
          (pw_or1 (pt_cmpR op_ne (pe_callB (call_repr hg hu) (by rfl) T.rep (by decide +kernel) (pa_cons (pv 6) pa_nil)) (pe_callB (call_repr hg hu) (by rfl) T.rep (by decide +kernel) (pa_cons (pe_op op_repB (pe_lst (pa_cons (pe_callTy call_tupleU (by rfl) T.tup (by decide +kernel) (pa_cons (pv 3) pa_nil)) pa_nil)) pe_int) pa_nil)) (nomark _))))) (pss_one (ps_ret pe_bl)) pss_nil)
      (pss_one (ps_ret (pe_and (pe_cmpR op_eq (pe_callB (call_repr hg hu) (by rfl) T.rep (by decide +kernel) (pa_cons (pv 7) pa_nil)) (pe_callB (call_repr hg hu) (by rfl) T.rep (by decide +kernel) (pa_cons (pe_op op_repB (pe_lst (pa_cons (pv 2) pa_nil)) pe_int) pa_nil)) (nomark _)) (pe_one (pe_cmpR op_eq (pe_callB (call_repr hg hu) (by rfl) T.rep (by decide +kernel) (pa_cons (pe_lstB (pa_cons (pe_xF (pe_ix ix_list (pv 0) pe_int (fun _ _ => rfl))) (pa_cons (pe_xF (pe_ix ix_list (pv 0) pe_int (fun _ _ => rfl))) pa_nil))) pa_nil)) (pe_callB (call_repr hg hu) (by rfl) T.rep (by decide +kernel) (pa_cons (pe_op op_repB (pe_lst (pa_cons (pv 4) pa_nil)) pe_int) pa_nil)) (nomark _))))))))), ?_⟩
    have XE : ∀ k, k < 16 → ExcC K (C k) := fun k hk => (T.xc k hk).toExcC
    refine ⟨_, rfl, l, _, _, _, rfl, rfl, .inl (.inl hl), at_es ev.len (by decide : 4 < 16) rfl, _, C 4, _, _, rfl, ev.v4, XE 4 (by decide), T.fw 4 (by decide), rfl, _, rfl, l, _, _, _, rfl, rfl, .inl (.inl hl), at_es ev.len (by decide : 11 < 16) rfl, _, C 11, _, _, rfl, ev.v11, XE 11 (by decide), T.fw 11 (by decide), rfl, _, rfl, l, _, _, _, rfl, rfl, .inl (.inl hl), at_es ev.len (by decide : 13 < 16) rfl, _, C 13, _, _, rfl, ev.v13, XE 13 (by decide), T.fw 13 (by decide), rfl, (by show 3 ≤ sizeLine; decide), fun b5 n5 d5 => ?_⟩
    have s5 := same_new (o := .lst [word, word, word]) n5
    obtain ⟨q5, t5, x5⟩ := (ev.same s5).p5
    obtain ⟨q6, t6, x6⟩ := (ev.same s5).p6
    obtain ⟨q7, t7, x7⟩ := (ev.same s5).p7
    obtain ⟨q8, t8, x8⟩ := (ev.same s5).p8
    obtain ⟨q9, t9, x9⟩ := (ev.same s5).p9
    have hl5 := s5 _ _ hl
    refine ⟨_, rfl, l, _, _, _, rfl, rfl, .inl (.inl hl5), at_es ev.len (by decide : 5 < 16) rfl, _, C 5, _, _, rfl, x5, XE 5 (by decide), T.fp 5 (by decide), rfl, _, rfl, l, _, _, _, rfl, rfl, .inl (.inl hl5), at_es ev.len (by decide : 6 < 16) rfl, _, C 6, _, _, rfl, x6, XE 6 (by decide), T.fp 6 (by decide), rfl, _, rfl, l, _, _, _, rfl, rfl, .inl (.inl hl5), at_es ev.len (by decide : 7 < 16) rfl, _, C 7, _, _, rfl, x7, XE 7 (by decide), T.fp 7 (by decide), rfl, _, rfl, l, _, _, _, rfl, rfl, .inl (.inl hl5), at_es ev.len (by decide : 8 < 16) rfl, _, C 8, _, _, rfl, x8, XE 8 (by decide), T.fp 8 (by decide), rfl, _, rfl, l, _, _, _, rfl, rfl, .inl (.inl hl5), at_es ev.len (by decide : 9 < 16) rfl, _, C 9, _, _, rfl, x9, XE 9 (by decide), T.fp 9 (by decide), rfl, (by show 5 ≤ sizeLine; decide), fun b6 n6 d6 => ?_⟩
    have s6 := same_new (o := .lst [.ref q5, .ref q6, .ref q7, .ref q8, .ref q9]) n6
    have ev6 := ev.same (s5.trans s6)
    have hl6 := s6 _ _ hl5
    refine ⟨_, rfl, l, _, _, _, rfl, rfl, .inl (.inl hl6), at_es ev.len (by decide : 10 < 16) rfl, _, C 10, _, _, rfl, ev6.v10, XE 10 (by decide), T.fn 10 (by decide), rfl, _, rfl, l, _, _, _, rfl, rfl, .inl (.inl hl6), at_es ev.len (by decide : 12 < 16) rfl, _, C 12, _, _, rfl, ev6.v12, XE 12 (by decide), T.fl 12 (by decide), rfl, _, rfl, l, _, _, _, rfl, rfl, .inl (.inl hl6), at_es ev.len (by decide : 14 < 16) rfl, _, C 14, _, _, rfl, ev6.v14, XE 14 (by decide), T.fn 14 (by decide), rfl, (by show 3 ≤ sizeLine; decide), fun b7 n7 d7 => ?_⟩
    have s7 := same_new (o := .lst [number, number, number]) n7
    have e5 : Dq K _ (.ref b5) (.list [dW, dW, dW]) := Dq.same (s6.trans s7) (.lst (.inl (.inl (@upd_same _ b5 _))) (.cons (Dq.same s5 hW) (.cons (Dq.same s5 hW) (.cons (Dq.same s5 hW) .nil))) d5)
    have tq : ∀ {q}, SqT K _ q xs → Dq K _ (.ref q) (.tuple ds) := fun {q} t => Dq.same (s6.trans s7) (.tup t (DqAll.same s5 hS))
    have e6 : Dq K _ (.ref b6) (.list [.tuple ds, .tuple ds, .tuple ds, .tuple ds, .tuple ds]) := .lst (.inl (.inl (s7 _ _ (@upd_same _ b6 _)))) (.cons (tq t5) (.cons (tq t6) (.cons (tq t7) (.cons (tq t8) (.cons (tq t9) .nil))))) d6
    have u7 := s5.trans (s6.trans s7)
    -- repr(words) != repr([word] * 3)
    refine ⟨_, rfl, b5, _, rfl, e5, fW.1, fW.2.1, fW.2.2, _, rfl, (by show 1 ≤ sizeLine; decide), fun m1 k1 => ?_⟩
    refine ⟨m1, 3, _, rfl, rfl, upd_same, by decide, by decide, (by show 1 * 3 ≤ sizeLine; decide), fun m2 k2 c2 => ?_⟩
    have r1 := (same_new (o := .lst [word]) k1).trans (same_new (o := .lst [word, word, word]) k2)
    have wq := Dq.same (u7.trans r1) hW
    refine ⟨m2, .list [dW, dW, dW], rfl, .lst (.inl (.inl upd_same)) (.cons wq (.cons wq (.cons wq .nil))) c2, fW.1, fW.2.1, fW.2.2, rfl, _, rfl, ?_⟩
    refine iteNS rfl ?_
    -- repr(paths) != repr([tuple(some)] * 5)
    refine ⟨_, rfl, b6, _, rfl, Dq.same r1 e6, fS.1, fS.2.1, fS.2.2, ?_⟩

    refine ⟨_, rfl, p, xs, rfl, hp.imp (fun z => (u7.trans r1).seq z) (fun z => Same.sqT (u7.trans r1) z), fun t H8 s8 t8 => ?_⟩
    refine ⟨(by show 1 ≤ sizeLine; decide), fun m3 k3 => ?_⟩
    refine ⟨m3, 5, _, rfl, rfl, upd_same, by decide, by decide, (by show 1 * 5 ≤ sizeLine; decide), fun m4 k4 c4 => ?_⟩
    have r2 := (same_new (o := .lst [.ref t]) k3).trans (same_new (o := .lst [.ref t, .ref t, .ref t, .ref t, .ref t]) k4)
    have td : Dq K _ (.ref t) (.tuple ds) := .tup (Same.sqT r2 t8) (DqAll.same (u7.trans (r1.trans (s8.trans r2))) hS)
    refine ⟨m4, .list [.tuple ds, .tuple ds, .tuple ds, .tuple ds, .tuple ds], rfl, .lst (.inl (.inl upd_same)) (.cons td (.cons td (.cons td (.cons td (.cons td .nil))))) c4, fS.1, fS.2.1, fS.2.2, rfl, _, rfl, ?_⟩
    refine iteNS rfl ?_
    have u9 := u7.trans (r1.trans (s8.trans r2))
    -- repr(numbers) == repr([number] * 3)
    have nq := Dq.same u7 hN
    have e7 : Dq K _ (.ref b7) (.list [dN, dN, dN]) := .lst (.inl (.inl (@upd_same _ b7 (.lst [number, number, number])))) (.cons nq (.cons nq (.cons nq .nil))) d7
    refine ⟨_, rfl, b7, _, rfl, Dq.same (r1.trans (s8.trans r2)) e7, fN.1, fN.2.1, fN.2.2, _, rfl, (by show 1 ≤ sizeLine; decide), fun m5 k5 => ?_⟩
    refine ⟨m5, 3, _, rfl, rfl, upd_same, by decide, by decide, (by show 1 * 3 ≤ sizeLine; decide), fun m6 k6 c6 => ?_⟩
    have r3 := (same_new (o := .lst [number]) k5).trans (same_new (o := .lst [number, number, number]) k6)
    have nq2 := Dq.same (u9.trans r3) hN
    refine ⟨m6, .list [dN, dN, dN], rfl, .lst (.inl (.inl upd_same)) (.cons nq2 (.cons nq2 (.cons nq2 .nil))) c6, fN.1, fN.2.1, fN.2.2, rfl, _, rfl, ?_⟩
    refine iteD rfl ?_
    -- repr([value, name]) == repr([other] * 2)
    have ua := u9.trans r3
    have eva := ev.same ua
    have hla := ua _ _ hl
    refine ⟨_, rfl, l, _, _, _, rfl, rfl, .inl (.inl hla), at_es ev.len (by decide : 13 < 16) rfl, _, C 13, _, _, rfl, eva.v13, XE 13 (by decide), T.fv 13 (by decide), rfl, _, rfl, l, _, _, _, rfl, rfl, .inl (.inl hla), at_es ev.len (by decide : 15 < 16) rfl, _, C 15, _, _, rfl, eva.v15, XE 15 (by decide), T.fm 15 (by decide), rfl, (by show 2 ≤ sizeLine; decide), fun m7 k7 c7 => ?_⟩
    have s9 := same_new (o := .lst [other, other]) k7
    have oq := Dq.same (ua.trans s9) hO
    have e9 : Dq K _ (.ref m7) (.list [dO, dO]) := .lst (.inl (.inl (@upd_same _ m7 (.lst [other, other])))) (.cons oq (.cons oq .nil)) c7
    refine ⟨m7, _, rfl, e9, fO.1, fO.2.1, fO.2.2, _, rfl, (by show 1 ≤ sizeLine; decide), fun m8 k8 => ?_⟩
    refine ⟨m8, 2, _, rfl, rfl, upd_same, by decide, by decide, (by show 1 * 2 ≤ sizeLine; decide), fun m9 k9 c9 => ?_⟩
    have r4 := (same_new (o := .lst [other]) k8).trans (same_new (o := .lst [other, other]) k9)
    have oq2 := Dq.same (ua.trans (s9.trans r4)) hO
    refine ⟨m9, .list [dO, dO], rfl, .lst (.inl (.inl upd_same)) (.cons oq2 (.cons oq2 .nil)) c9, fO.1, fO.2.1, fO.2.2, rfl, ?_⟩
    rw [decide_eq_true rfl]
    exact q _ (ua.trans (s9.trans r4))
end
end Bc

namespace Bc
open PySem PySem.Spec PyProof.Rows L2
abbrev sLaw : Stmt := topS 26
abbrev nLaw : List Str := ["_law_script", "_law_source_here", "_law_great", "_law_lap", "_law_word", "_law_number", "_law_some", "_law_other", "_law_every_here", "_law_k", "_law_j"]
theorem scLaw : FnScope nLaw ["_law_script"] (defScope sLaw) := ⟨rfl, rfl, rfl, by decide +kernel, rfl, by decide +kernel, by decide +kernel⟩
/-- the menus -/
def great : Int := 1000000000000000000000000000000
def menuW : List PyData := [.str "", .str "x", .str "no such name", .none, .str (Txt.mul "x" 100), .tuple [.str "a"], .int 0, .list [.str "a", .dict []]]
def menuN : List PyData := [.int 0, .int 1, .int 7, .int 200, .int great, .int (-1), .none]
def menuS : List PyData := [.list [.str "a", .str "b"], .list [], .tuple [.str "a"], .list [.int 0, .int 1, .int 0], .tuple [.tuple [.str "x", .str "y"]], .list [.list []]]
def menuO : List PyData := [.tuple [], .tuple [.str "root", .int 0], .list [.int 0, .int 1], .none, .str "path", .dict [(.str "a", .int 0)], .tuple [.str "a", .str "b"], .bool true]
def fineB (d : PyData) : Bool := d.showable && decide (d.depth ≤ 60) && decide (d.shown.length ≤ sizeLine)
theorem fine_of {d : PyData} (h : fineB d = true) : Fine d := by
  unfold fineB at h
  simp only [Bool.and_eq_true, decide_eq_true_eq] at h
  exact ⟨h.1.1, h.1.2, h.2⟩
theorem fineW : ∀ d ∈ menuW, Fine (.list [d, d, d]) := fun d hd => fine_of (List.all_eq_true.mp (show (menuW.all fun d => fineB (.list [d, d, d])) = true by decide +kernel) d hd)
theorem fineN : ∀ d ∈ menuN, Fine (.list [d, d, d]) := fun d hd => fine_of (List.all_eq_true.mp (show (menuN.all fun d => fineB (.list [d, d, d])) = true by decide +kernel) d hd)
theorem fineO : ∀ d ∈ menuO, Fine (.list [d, d]) := fun d hd => fine_of (List.all_eq_true.mp (show (menuO.all fun d => fineB (.list [d, d])) = true by decide +kernel) d hd)
def innards : PyData → List PyData
  | .list xs => xs
  | .tuple xs => xs
  | _ => []
def isSeq : PyData → Bool
  | .list _ => true
  | .tuple _ => true
  | _ => false
theorem fineS : ∀ d ∈ menuS, isSeq d = true ∧ Fine (.list [.tuple (innards d), .tuple (innards d), .tuple (innards d), .tuple (innards d), .tuple (innards d)]) := fun d hd => by
  have h := List.all_eq_true.mp (show (menuS.all fun d => isSeq d && fineB (.list [.tuple (innards d), .tuple (innards d), .tuple (innards d), .tuple (innards d), .tuple (innards d)])) = true by decide +kernel) d hd
  rw [Bool.and_eq_true] at h
  exact ⟨h.1, fine_of h.2⟩
theorem seq_in {K : PySem.W.Frag} {H : Hp} {v : V} {d : PyData} (h : Dq K H v d) (q : isSeq d = true) : ∃ p xs, v = .ref p ∧ (SqL K H p xs ∨ SqT K H p xs) ∧ DqAll K H xs (innards d) := by
  cases h with
  | lst h1 h2 _ => exact ⟨_, _, rfl, .inl h1, h2⟩
  | tup h1 h2 => exact ⟨_, _, rfl, .inr h1, h2⟩
  | non => cases q
  | bl b => cases q
  | int i => cases q
  | str x => cases q
  | dic h1 h2 => cases q
theorem great_is : PySem.intText? (("1" : Str) ++ Txt.mul "0" 30) = some great := by decide +kernel
/-! ### an item of a written list, by a draw -/
def tMenu (K : PySem.W.Frag) (c0 : L2.St → Prop) (ds : List PyData) : TE := fun σ H Q => ∃ d c, σ[1]? = some (some (.ref d)) ∧ c0 σ ∧ SrcAt H d c ∧
  ∀ v dv H', dv ∈ ds → Dq K (hid d c H') v dv → SrcAt H' d c → Same (hid d c H) (hid d c H') → Q v H'
theorem pe_menu {X : Cx} {e e2 : Expr} {pos : Pos} {c0 : L2.St → Prop} {ds : List PyData} {n : Int} (hd : PE X e (tD X.K c0 (.list ds))) (hp : PE X e2 (tCall spPick [] E0 (tCons (tVar 1) (tCons (tC (.int n)) tNil)))) (hn : n = (ds.length : Int)) (h0 : 0 < ds.length) (h1 : ds.length ≤ 1000)
    (hs : PlainIx e2) : PE X (.Subscript e e2 pos) (tMenu X.K c0 ds) := by
  refine PE.imp (pe_ix ix_list hd hp hs) fun σ H Q q => ?_
  obtain ⟨d, c, e1, hc, src, k⟩ := q
  refine ⟨hc, fun v H1 s1 dq => ⟨_, e1, d, c, n, rfl, src.up s1, by omega, by omega, fun r H2 r0 r1 src2 el => ?_⟩⟩
  have dh : Dq X.K (hid d c H2) v (.list ds) := by
    rw [hid_else el]
    exact Dq.same (newOf_hid src) dq
  cases dh with
  | lst hq hall hne =>
    obtain ⟨x, dx, hx, hm, hdx⟩ := pick_of r.toNat hall (by omega)
    refine ⟨_, _, r, x, rfl, rfl, hid_all.seq hq, at_of (by omega) hx, k x dx H2 hm hdx src2 ?_⟩
    rw [hid_else el]
    exact hid_up s1
def kindsD (k : Nat) : List PyData := [.bool (decide (0 = k)), .bool (decide (1 = k)), .bool (decide (2 = k)), .bool (decide (3 = k)), .bool (decide (4 = k)), .bool (decide (5 = k)), .bool (decide (6 = k)), .bool (decide (7 = k)), .bool (decide (8 = k)), .bool (decide (9 = k)), .bool (decide (10 = k)), .bool (decide (11 = k)), .bool (decide (12 = k)), .bool (decide (13 = k)), .bool (decide (14 = k)), .bool (decide (15 = k))]
def basesD (k : Nat) : List PyData := [.bool (decide (k < 15)), .bool (decide (k < 15)), .bool (decide (15 ≤ k)), .bool (decide (15 ≤ k)), .bool false]
theorem kinds_dp {K : PySem.W.Frag} {H : Hp} (k : Nat) : DpAll K H (kindsOf k) (kindsD k) := (.cons (.bl _) (.cons (.bl _) (.cons (.bl _) (.cons (.bl _) (.cons (.bl _) (.cons (.bl _) (.cons (.bl _) (.cons (.bl _) (.cons (.bl _) (.cons (.bl _) (.cons (.bl _) (.cons (.bl _) (.cons (.bl _) (.cons (.bl _) (.cons (.bl _) (.cons (.bl _) .nil))))))))))))))))
theorem bases_dp {K : PySem.W.Frag} {H : Hp} (k : Nat) : DpAll K H (basesOf k) (basesD k) := (.cons (.bl _) (.cons (.bl _) (.cons (.bl _) (.cons (.bl _) (.cons (.bl _) .nil)))))
theorem kinds_shaped (k : Nat) : SeqAt.shaped (.list (kindsD k)) = true := rfl
theorem bases_shaped (k : Nat) : SeqAt.shaped (.list (basesD k)) = true := rfl
theorem kinds_range (k : Nat) : ((List.range 16).map fun j => V.bl (decide (j = k))) = kindsOf k := rfl
theorem refl_eq {d : PyData} (h : SeqAt.shaped d = true) : PyData.eqv d d = true := SeqAt.eqv_refl d (SeqAt.canLay_of_shaped h)
theorem dec_nat {i j : Nat} : decide (V.int (0 + (i : Int)) = V.int (0 + (j : Int))) = decide (i = j) := by
  refine decide_eq_decide.mpr ⟨fun h => ?_, fun h => by rw [h]⟩
  have e : (0 : Int) + (i : Int) = 0 + (j : Int) := V.int.inj h
  omega
def spLaw (K : PySem.W.Frag) : Sp := fun vs H Q _ => ∃ (a : Addr) (ns : List Int), vs = [.ref a] ∧ SqL K H a (ns.map V.int) ∧ ns.length ≤ 63 ∧ ∀ H', Q (.bl true) H'
section
variable {P : Program} {w : World} {K : PySem.W.Frag} {mg : Str → Option Value} {base : Heap} {C I : Nat → Addr} {cB cN : Addr}
theorem ok_law {f fS fP fK fB fE fT : Addr} {fd fdS fdP fdK fdB fdE fdT : FuncData} (F0 : Fun K "law" "law" sLaw f fd) (T : Txt K mg C I cB cN)
    (GS : FnOk P w K mg base CX0 1 fS fdS ["_law_script"] (spSource K)) (bS : Binds K fdS ["_law_script"] []) (gS : mg "_law_source" = some (.ref fS)) (kS : PySem.W.keepIn K (.ref fS) = true)
    (GP : FnOk P w K mg base CX0 1 fP fdP ["_law_source_here", "_law_many"] spPick) (bP : Binds K fdP ["_law_source_here", "_law_many"] []) (gP : mg "_law_pick" = some (.ref fP)) (kP : PySem.W.keepIn K (.ref fP) = true)
    (GK : FnOk P w K mg base CX0 1 fK fdK ["_law_e"] (spKinds K C kindsOf)) (bK : Binds K fdK ["_law_e"] []) (gK : mg "_law_kinds" = some (.ref fK)) (kK : PySem.W.keepIn K (.ref fK) = true)
    (GB : FnOk P w K mg base CX0 1 fB fdB ["_law_e"] (spKinds K C basesOf)) (bB : Binds K fdB ["_law_e"] []) (gBs : mg "_law_bases" = some (.ref fB)) (kB : PySem.W.keepIn K (.ref fB) = true)
    (GE : FnOk P w K mg base CX0 3 fE fdE ["_law_word", "_law_number", "_law_some", "_law_other"] (spEvery K C)) (bE : Binds K fdE ["_law_word", "_law_number", "_law_some", "_law_other"] []) (gE : mg "_law_every" = some (.ref fE)) (kE : PySem.W.keepIn K (.ref fE) = true)
    (GT : FnG P w K mg base 1 fT fdT ["_law_every_here", "_law_word", "_law_number", "_law_some", "_law_other"] (spKept K C)) (bT : Binds K fdT ["_law_every_here", "_law_word", "_law_number", "_law_some", "_law_other"] []) (gT : mg "_law_kept" = some (.ref fT)) (kT : PySem.W.keepIn K (.ref fT) = true) :
    FnG P w K mg base 4 f fd ["_law_script"] (spLaw K) := by
  refine FnG.body F0 scLaw (fun vs H Q E h => ?_) (fun cdv A outer s H vs Q E hr3 hg h => ?_)
  · obtain ⟨a, ns, rfl, _⟩ := h
    rfl
  · obtain ⟨a, ns, rfl, hS, hlen, q⟩ := h
    have hu := hr3.units
    have hr1 : Room 1 _ := hr3.mono (by decide)
    refine ⟨_, pss_cons (ps_set (i := 1) scLaw.nd rfl (.inl rfl) (pe_call GS hr1 (by rfl) gS kS bS .nil pass0 (pa_cons (pv 0) pa_nil)))
      (pss_cons (ps_set (i := 2) scLaw.nd rfl (.inl rfl) (pe_callTy call_int_str (by rfl) T.b.int (by decide +kernel) (pa_cons (pe_op op_add_str pe_str (pe_op op_mul_str pe_str pe_int)) pa_nil)))
      (pss_cons (ps_for PassesOwn.never rfl (pi_range1 (by rfl) T.rng (pa_cons pe_int pa_nil)) (pg_name (i := 3) scLaw.nd rfl (.inl rfl))
        (pss_cons (ps_set (i := 4) scLaw.nd rfl (.inl rfl) (pe_menu (ds := menuW) (pd_lst (pds_cons pd_str (pds_cons pd_str (pds_cons pd_str (pds_cons pd_non (pds_cons (pd_mul ⟨by decide +kernel, fun _ _ => by decide +kernel, fun _ _ => by decide +kernel⟩) (pds_cons (pd_tup (pds_cons pd_str pds_nil)) (pds_cons pd_int (pds_cons (pd_lst (pds_cons pd_str (pds_cons pd_dict0 pds_nil))) pds_nil))))))))) (pe_call GP hr1 (by rfl) gP kP bP .nil pass0 (pa_cons (pv 1) (pa_cons pe_int pa_nil))) rfl (by decide) (by decide) (fun _ _ => rfl)))
        (pss_cons (ps_set (i := 5) scLaw.nd rfl (.inl rfl) (pe_menu (ds := menuN) (pd_lst (pds_cons pd_int (pds_cons pd_int (pds_cons pd_int (pds_cons pd_int (pds_cons (pd_var (z := great) (pv 2)) (pds_cons pd_neg (pds_cons pd_non pds_nil)))))))) (pe_call GP hr1 (by rfl) gP kP bP .nil pass0 (pa_cons (pv 1) (pa_cons pe_int pa_nil))) rfl (by decide) (by decide) (fun _ _ => rfl)))
        (pss_cons (ps_set (i := 6) scLaw.nd rfl (.inl rfl) (pe_menu (ds := menuS) (pd_lst (pds_cons (pd_lst (pds_cons pd_str (pds_cons pd_str pds_nil))) (pds_cons (pd_lst pds_nil) (pds_cons (pd_tup (pds_cons pd_str pds_nil)) (pds_cons (pd_lst (pds_cons pd_int (pds_cons pd_int (pds_cons pd_int pds_nil)))) (pds_cons (pd_tup (pds_cons (pd_tup (pds_cons pd_str (pds_cons pd_str pds_nil))) pds_nil)) (pds_cons (pd_lst (pds_cons (pd_lst pds_nil) pds_nil)) pds_nil))))))) (pe_call GP hr1 (by rfl) gP kP bP .nil pass0 (pa_cons (pv 1) (pa_cons pe_int pa_nil))) rfl (by decide) (by decide) (fun _ _ => rfl)))
        (pss_cons (ps_set (i := 7) scLaw.nd rfl (.inl rfl) (pe_menu (ds := menuO) (pd_lst (pds_cons (pd_tup pds_nil) (pds_cons (pd_tup (pds_cons pd_str (pds_cons pd_int pds_nil))) (pds_cons (pd_lst (pds_cons pd_int (pds_cons pd_int pds_nil))) (pds_cons pd_non (pds_cons pd_str (pds_cons pd_dict1 (pds_cons (pd_tup (pds_cons pd_str (pds_cons pd_str pds_nil))) (pds_cons pd_bl pds_nil))))))))) (pe_call GP hr1 (by rfl) gP kP bP .nil pass0 (pa_cons (pv 1) (pa_cons pe_int pa_nil))) rfl (by decide) (by decide) (fun _ _ => rfl)))
        (pss_cons (ps_set (i := 8) scLaw.nd rfl (.inl rfl) (pe_call GE hr3 (by rfl) gE kE bE .nil pass0 (pa_cons (pv 4) (pa_cons (pv 5) (pa_cons (pv 6) (pa_cons (pv 7) pa_nil))))))
        (pss_cons (ps_for PassesOwn.never rfl (pi_range1 (by rfl) T.rng (pa_cons (pe_callB call_len (by rfl) T.b.len (by decide +kernel) (pa_cons (pv 8) pa_nil)) pa_nil)) (pg_name (i := 9) scLaw.nd rfl (.inr rfl))
          (pss_cons (ps_if (pt_cmpR (op_neD hu) (pe_call GK hr1 (by rfl) gK kK bK .nil pass0 (pa_cons (pe_ix ix_list (pv 8) (pv 9) (fun _ _ => rfl)) pa_nil)) (pe_lc (own := [("_law_j", 10)]) (g := gName 10) (tt := tYes) (by rfl) scLaw.nd (pi_range1 (by rfl) T.rng (pa_cons (pe_callB call_len (by rfl) T.b.len (by decide +kernel) (pa_cons (pv 8) pa_nil)) pa_nil))
          (blkOk_by (own := [("_law_j", 10)]) (N := nLaw) (sc := defScope sLaw) (by decide +kernel)) (fun _ _ _ _ _ => pg_name (i := 10) scLaw.nd rfl (.inl rfl)) (fun _ _ _ _ _ => pts_nil)
          (fun _ _ _ _ _ => pe_cmpR op_eq (pv 10) (pv 9) (nomark _))) (nomark _)) (pss_one (ps_ret pe_bl)) pss_nil)
          (pss_one (ps_if (pt_cmpR (op_neD hu) (pe_call GB hr1 (by rfl) gBs kB bB .nil pass0 (pa_cons (pe_ix ix_list (pv 8) (pv 9) (fun _ _ => rfl)) pa_nil)) (pe_lst (pa_cons (pe_cmpR op_lt (pv 9) pe_int (nomark _)) (pa_cons (pe_cmpR op_lt (pv 9) pe_int (nomark _)) (pa_cons (pe_cmpR op_ge (pv 9) pe_int (nomark _)) (pa_cons (pe_cmpR op_ge (pv 9) pe_int (nomark _)) (pa_cons pe_bl pa_nil)))))) (nomark _)) (pss_one (ps_ret pe_bl)) pss_nil))))
        (pss_one (ps_if (PW.pt (pw_or (pt_cmpR op_ne (pe_callB call_len (by rfl) T.b.len (by decide +kernel) (pa_cons (pv 8) pa_nil)) pe_int (nomark _)) (pw_or1 (pt_not (pt_val (pe_callG GT hr1 hg (by rfl) gT kT bT (pa_cons (pv 8) (pa_cons (pv 4) (pa_cons (pv 5) (pa_cons (pv 6) (pa_cons (pv 7) pa_nil))))))))))) (pss_one (ps_ret pe_bl)) pss_nil)))))))))
      (pss_one (ps_ret pe_bl)))), ?_⟩
    -- the source; the great number
    refine ⟨_, rfl, a, ns, rfl, hS, by omega, fun d c H1 s1 _ _ src1 => ?_⟩
    refine ⟨_, _, rfl, rfl, ⟨by decide +kernel, fun _ _ => by decide +kernel, fun _ _ => by decide +kernel⟩, _, _, rfl, rfl, (by decide +kernel), _, great, rfl, great_is, (by decide +kernel), ?_⟩
    refine ⟨2, rfl, by decide, by decide, for_range (lo := 0) (n := 2) (fun i σ H => (∃ v3 v4 v5 v6 v7 v8 v9 v10, σ = [some (.ref a), some (.ref d), some (.int great), v3, v4, v5, v6, v7, v8, v9, v10]) ∧ SrcAt H d c) ⟨⟨_, _, _, _, _, _, _, _, rfl⟩, src1⟩ ?_ (fun σ H h => q H)⟩
    rintro i σ H2 hi ⟨⟨v3, v4, v5, v6, v7, v8, v9, v10, rfl⟩, src2⟩
    -- the draws
    refine ⟨d, c, rfl, by simp [cAnd, cT], src2, fun word dW H3 mW hW3 src3 s3 => ?_⟩
    refine ⟨d, c, rfl, by simp [cAnd, cT], src3, fun number dN H4 mN hN4 src4 s4 => ?_⟩
    refine ⟨d, c, rfl, by simp [cAnd, cT], src4, fun some' dS H5 mS hS5 src5 s5 => ?_⟩
    refine ⟨d, c, rfl, by simp [cAnd, cT], src5, fun other dO H6 mO hO6 src6 s6 => ?_⟩
    have hW : Dq K H6 word dW := Dq.same hid_all (Dq.same (s4.trans (s5.trans s6)) hW3)
    have hN : Dq K H6 number dN := Dq.same hid_all (Dq.same (s5.trans s6) hN4)
    have hSm : Dq K H6 some' dS := Dq.same hid_all (Dq.same s6 hS5)
    have hO : Dq K H6 other dO := Dq.same hid_all hO6
    obtain ⟨isq, fS⟩ := fineS dS mS
    obtain ⟨p, xs, rfl, hp, hall⟩ := seq_in hSm isq
    -- the errors
    refine ⟨_, rfl, _, rfl, _, rfl, _, rfl, word, number, other, p, xs, rfl, hp, fun l H7 es s7 hl ev => ?_⟩
    have src7 := src6.up s7
    have hlen' : (16 : Nat) = (es.map V.ref).length := by rw [List.length_map, ev.len]
    refine ⟨_, rfl, _, 16, rfl, .inl ⟨_, .inl (.inl hl), hlen'⟩, 16, rfl, by decide, by decide, for_range (lo := 0) (n := 16)
      (fun k σ H => (∃ v3 v9 v10, σ = [some (.ref a), some (.ref d), some (.int great), v3, some word, some number, some (.ref p), some other, some (.ref l), v9, v10]) ∧ Same H7 H) ⟨⟨_, _, _, rfl⟩, Same.refl _⟩ ?_ ?_⟩
    · rintro k σ H8 hk ⟨⟨v3, v9, v10, rfl⟩, s8⟩
      have hl8 := s8 _ _ hl
      have ek : es[k]? = some (es.getD k 0) := by
        rw [List.getD_eq_getElem?_getD, List.getElem?_eq_getElem (by have := ev.len; omega)]
        rfl
      have xk : XAt H8 (es.getD k 0) (C k) := (ev.isa k _ ek).same s8
      -- kinds
      refine ⟨_, rfl, _, rfl, l, _, _, _, rfl, rfl, .inl (.inl hl8), at_es ev.len hk (Int.zero_add _), es.getD k 0, k, rfl, hk, xk, fun l1 H9 s9 hl1 => ?_⟩
      have hl9 := s9 _ _ hl8
      refine ⟨_, rfl, _, 16, rfl, .inl ⟨_, .inl (.inl hl9), hlen'⟩, 16, rfl, by decide, by decide, fun D hD => lc_range (lo := 0) (n := 16) (fun j H => Same H9 H ∧ H D = some (.lst ((List.range j).map fun j => .bl (decide (j = k))))) ⟨same_new hD, upd_same⟩ ?_ ?_⟩
      · rintro j Ha hj ⟨sa, ea⟩
        refine ⟨rfl, ?_⟩
        refine lc_yes ?_
        refine ⟨_, rfl, _, rfl, rfl, _, ea, ?_, fun b o e => ?_, ?_⟩
        · rw [List.length_map, List.length_range]
          exact small1000 (by omega)
        · rw [upd_ne (ne_of_none e hD)]
          exact sa b o e
        · rw [upd_same, List.range_succ, List.map_append, dec_nat]
          rfl
      · rintro Ha ⟨sa, ea⟩
        have ea' : Ha D = some (.lst (kindsOf k)) := ea
        refine ⟨.list (kindsD k), .list (kindsD k), .lst (.inl (.inl (sa _ _ hl1))) (kinds_dp k), .lst (.inl (.inl ea')) (kinds_dp k), kinds_shaped k, kinds_shaped k, _, rfl, ?_⟩
        rw [refl_eq (kinds_shaped k)]
        refine iteF ?_
        -- bases
        have sb := s8.trans (s9.trans sa)
        refine ⟨_, rfl, _, rfl, l, _, _, _, rfl, rfl, .inl (.inl (sb _ _ hl)), at_es ev.len hk (Int.zero_add _), es.getD k 0, k, rfl, hk, (ev.isa k _ ek).same sb, fun l2 Hb s10 hl2 => ?_⟩
        refine ⟨_, rfl, _, _, rfl, rfl, _, rfl, _, _, rfl, rfl, _, rfl, _, _, rfl, rfl, _, rfl, _, _, rfl, rfl, (by show 5 ≤ sizeLine; decide), fun m nm => ?_⟩
        have q1 : decide ((0 : Int) + (k : Int) < 15) = decide (k < 15) := decide_eq_decide.mpr (by omega)
        have q2 : decide ((15 : Int) ≤ 0 + (k : Int)) = decide (15 ≤ k) := decide_eq_decide.mpr (by omega)
        refine ⟨.list (basesD k), .list (basesD k), .lst (.inl (.inl ((same_new nm) _ _ hl2))) (bases_dp k), .lst (.inl (.inl upd_same)) ?_, bases_shaped k, bases_shaped k, _, rfl, ?_⟩
        · show DpAll K _ [.bl (decide ((0 : Int) + (k : Int) < 15)), .bl (decide ((0 : Int) + (k : Int) < 15)), .bl (decide ((15 : Int) ≤ 0 + (k : Int))), .bl (decide ((15 : Int) ≤ 0 + (k : Int))), .bl false] _
          rw [q1, q2]
          exact bases_dp k
        · rw [refl_eq (bases_shaped k)]
          refine iteF ?_
          exact ⟨⟨_, _, _, rfl⟩, sb.trans (s10.trans (same_new nm))⟩
    · rintro σ H8 ⟨⟨v3, v9, v10, rfl⟩, s8⟩
      have hl8 := s8 _ _ hl
      refine ⟨_, rfl, _, 16, rfl, .inl ⟨_, .inl (.inl hl8), hlen'⟩, rfl, _, rfl, ?_⟩
      refine iteNS rfl ?_
      refine ⟨_, rfl, _, rfl, _, rfl, _, rfl, _, rfl, l, es, word, number, other, p, xs, dW, dN, dO, innards dS, rfl, hl8, hp.imp (fun z => (s7.trans s8).seq z) (fun z => Same.sqT (s7.trans s8) z), ev.same s8,
        Dq.same (s7.trans s8) hW, Dq.same (s7.trans s8) hN, Dq.same (s7.trans s8) hO, DqAll.same (s7.trans s8) hall, fineW dW mW, fineN dN mN, fineO dO mO, fS, fun H9 s9 => ?_⟩
      refine ⟨_, rfl, ?_⟩
      refine iteF ?_
      exact ⟨⟨_, _, _, _, _, _, _, _, rfl⟩, src7.up (s8.trans s9)⟩
end
end Bc

namespace Bc
open PySem PySem.Spec PyProof.Rows L2
/-! ### what the top has written, by one look -/
section
open PySem.W
def xcB (K : Frag) (C : Addr) : Bool := (findIn K (.ref C) "__getattribute__" == some (some (.builtin "BaseException.__getattribute__"))) && ((findIn K (.ref C) "__getattr__" == some none) && ((subIn K (.ref C) (.type "BaseException") == some true) && (hasDictIn K C &&
  ((findIn K (.ref C) "__class__" == some (some (.builtin "object.__class__"))) && ((specialIn K (.builtin "object.__class__") "__get__" == some (some (.builtin "getset_descriptor.__get__"))) && ((takesIn K (.builtin "object.__class__") == some true) && ((mroIn K C (.type "object") == some true) && keepIn K (.ref C))))))))
theorem xc_of {K : Frag} {C : Addr} (h : xcB K C = true) : XC K C := by
  unfold xcB at h
  simp only [Bool.and_eq_true, beq_iff_eq] at h
  obtain ⟨h1, h2, h3, h4, h5, h6, h7, h8, h9⟩ := h
  exact { hg := h1, hk := h2, hs := h3, hd := h4, ha := h5, hn := h6, ht := h7, hm := h8, kC := h9 }
def xiB (K : Frag) (C fI : Addr) (bmB : List Value) (newId : String) : Bool := excInitIn K C bmB newId && ((findIn K (.ref C) "__setattr__" == some (some (.builtin "object.__setattr__"))) && ((findIn K (.ref C) "__init__" == some (some (.ref fI))) && (typeIn K (.ref fI) == some (.type "function"))))
theorem init_look {K : Frag} {C : Addr} {bmB : List Value} {newId : String} (q : excInitIn K C bmB newId = true) (hd : hasDictIn K C = true) : ∃ nm q N bs bm sn sub ab col dd k0 k1 k2 k3 k5,
    excTail bmB bm = true ∧ K.lookup C = some (excClassObj nm q C N bs bm true sn sub ab col dd k0 k1 k2 k3 k5 newId) := by
  unfold hasDictIn clsIn at hd
  unfold excInitIn at q
  split at q
  · rename_i dd cd sl ho
    rw [ho] at hd
    split at q
    · rename_i C' bm k0 k1 k2 k3 n k5 hm hs
      simp only [Bool.and_eq_true, beq_iff_eq, Bool.not_eq_true'] at q
      obtain ⟨⟨⟨rfl, rfl⟩, hdel⟩, ht⟩ := q
      obtain ⟨nm, bs, mro, ns, qn, hdc, sn, sub, ab, col, del⟩ := cd
      dsimp only at hm hdel
      have hd' : hdc = true := by simpa using hd
      subst hm hdel hd'
      have hsl : sl = #[k0, k1, k2, k3, some (.builtin n), k5] := by
        obtain ⟨l⟩ := sl
        simp only at hs
        rw [hs]
      subst hsl
      exact ⟨nm, qn, ns, bs, bm, sn, sub, ab, col, dd, k0, k1, k2, k3, k5, ht, ho⟩
    · cases q
  · cases q
theorem xi_of {K : Frag} {C fI : Addr} {bmB : List Value} {B newId initId : String} (FB : ExcBaseFacts B newId initId bmB) (SF : StoreFacts B bmB "object.__setattr__" "object") (x : XC K C) (h : xiB K C fI bmB newId = true) : XI K C fI := by
  unfold xiB at h
  simp only [Bool.and_eq_true, beq_iff_eq] at h
  obtain ⟨h1, h2, h3, h4⟩ := h
  obtain ⟨nm, q, N, bs, bm, sn, sub, ab, col, dd, k0, k1, k2, k3, k5, ht, ho⟩ := init_look h1 x.hd
  exact { toXC := x, cls := ⟨nm, q, N, bs, bm, sn, sub, ab, col, dd, k0, k1, k2, k3, k5, B, newId, initId, bmB, FB, SF, ht, ho⟩, sa := h2, iC := h3, tI := h4 }
def oneB (K : Frag) (cs : List Addr) (cB cN : Addr) (k : Nat) : Bool :=
  xcB K (cs.getD k 0) && ((findIn K (.ref (cs.getD k 0)) "word" == some none) && ((findIn K (.ref (cs.getD k 0)) "path" == some none) && ((findIn K (.ref (cs.getD k 0)) "number" == some none) && ((findIn K (.ref (cs.getD k 0)) "place" == some none) &&
  ((findIn K (.ref (cs.getD k 0)) "value" == some none) && ((findIn K (.ref (cs.getD k 0)) "name" == some none) && ((kitOne K (.ref (cs.getD k 0)) (.ref cB) == some (decide (k < 15))) && ((kitOne K (.ref (cs.getD k 0)) (.type "ValueError") == some (decide (k < 15))) &&
  ((kitOne K (.ref (cs.getD k 0)) (.ref cN) == some (decide (15 ≤ k))) && ((kitOne K (.ref (cs.getD k 0)) (.type "LookupError") == some (decide (15 ≤ k))) && ((kitAny K (.ref (cs.getD k 0)) [.type "KeyError", .type "IndexError"] == some false) &&
  (List.range 16).all fun j => kitOne K (.ref (cs.getD k 0)) (.ref (cs.getD j 0)) == some (decide (j = k)))))))))))))
def tblB (K : Frag) (cs is : List Addr) (cB cN : Addr) : Bool := ((List.range 16).all fun k => oneB K cs cB cN k) && (((List.range 4).all fun k => excIn K (cs.getD k 0) veBm "ValueError.__new__") &&
  (((List.range 15).all fun k => decide (k < 4) || xiB K (cs.getD k 0) (is.getD k 0) veBm "ValueError.__new__") && xiB K (cs.getD 15 0) (is.getD 15 0) leBm "LookupError.__new__"))
end
theorem at_k {f : Nat → Bool} {n : Nat} (h : (List.range n).all f = true) {k : Nat} (hk : k < n) : f k = true := List.all_eq_true.mp h k (List.mem_range.mpr hk)
theorem one_of {K : PySem.W.Frag} {cs : List Addr} {cB cN : Addr} {k : Nat} (h : oneB K cs cB cN k = true) : XC K (cs.getD k 0) ∧ PySem.W.findIn K (.ref (cs.getD k 0)) "word" = some none ∧ PySem.W.findIn K (.ref (cs.getD k 0)) "path" = some none ∧ PySem.W.findIn K (.ref (cs.getD k 0)) "number" = some none ∧
    PySem.W.findIn K (.ref (cs.getD k 0)) "place" = some none ∧ PySem.W.findIn K (.ref (cs.getD k 0)) "value" = some none ∧ PySem.W.findIn K (.ref (cs.getD k 0)) "name" = some none ∧
    PySem.W.kitOne K (.ref (cs.getD k 0)) (.ref cB) = some (decide (k < 15)) ∧ PySem.W.kitOne K (.ref (cs.getD k 0)) (.type "ValueError") = some (decide (k < 15)) ∧ PySem.W.kitOne K (.ref (cs.getD k 0)) (.ref cN) = some (decide (15 ≤ k)) ∧
    PySem.W.kitOne K (.ref (cs.getD k 0)) (.type "LookupError") = some (decide (15 ≤ k)) ∧ PySem.W.kitAny K (.ref (cs.getD k 0)) [.type "KeyError", .type "IndexError"] = some false ∧
    ∀ j, j < 16 → PySem.W.kitOne K (.ref (cs.getD k 0)) (.ref (cs.getD j 0)) = some (decide (j = k)) := by
  unfold oneB at h
  simp only [Bool.and_eq_true, beq_iff_eq] at h
  obtain ⟨h1, h2, h3, h4, h5, h6, h7, h8, h9, ha, hb, hc, hd⟩ := h
  exact ⟨xc_of h1, h2, h3, h4, h5, h6, h7, h8, h9, ha, hb, hc, fun j hj => beq_iff_eq.mp (at_k hd hj)⟩
theorem txt_of {K : PySem.W.Frag} {mg : Str → Option Value} {cs is : List Addr} {cB cN : Addr} (h : tblB K cs is cB cN = true) (b : Blt mg)
    (isi : mg "isinstance" = none) (tup : mg "tuple" = none) (rep : mg "repr" = none) (rng : mg "range" = none) (ve : mg "ValueError" = none) (le : mg "LookupError" = none) (ke : mg "KeyError" = none) (ie : mg "IndexError" = none) (gB : mg "BushError" = some (.ref cB)) (gN : mg "NameMissing" = some (.ref cN))
    (g0 : mg "UnlikeGroves" = some (.ref (cs.getD 0 0))) (g1 : mg "TooGreat" = some (.ref (cs.getD 1 0))) (g2 : mg "Overlaps" = some (.ref (cs.getD 2 0))) (g3 : mg "NothingDone" = some (.ref (cs.getD 3 0))) (g4 : mg "UnlikeStocks" = some (.ref (cs.getD 4 0))) (g5 : mg "BadBook" = some (.ref (cs.getD 5 0))) (g6 : mg "BadBag" = some (.ref (cs.getD 6 0))) (g7 : mg "BadGrove" = some (.ref (cs.getD 7 0))) (g8 : mg "BadAssembly" = some (.ref (cs.getD 8 0))) (g9 : mg "BadPattern" = some (.ref (cs.getD 9 0))) (g10 : mg "BadDeed" = some (.ref (cs.getD 10 0))) (g11 : mg "BadAct" = some (.ref (cs.getD 11 0))) (g12 : mg "BadText" = some (.ref (cs.getD 12 0))) (g13 : mg "Unbuilt" = some (.ref (cs.getD 13 0))) (g14 : mg "Clash" = some (.ref (cs.getD 14 0))) (g15 : mg "UnknownName" = some (.ref (cs.getD 15 0))) : Txt K mg (fun k => cs.getD k 0) (fun k => is.getD k 0) cB cN := by
  unfold tblB at h
  simp only [Bool.and_eq_true] at h
  obtain ⟨h1, h2, h3, h4⟩ := h
  have all := fun k (hk : k < 16) => one_of (at_k h1 hk)
  refine { b := b, isi := isi, tup := tup, rep := rep, rng := rng, ve := ve, le := le, ke := ke, ie := ie, gB := gB, gN := gN, g0 := g0, g1 := g1, g2 := g2, g3 := g3, g4 := g4, g5 := g5, g6 := g6, g7 := g7, g8 := g8, g9 := g9, g10 := g10, g11 := g11, g12 := g12, g13 := g13, g14 := g14, g15 := g15, ex := fun k hk => at_k h2 hk, xc := fun k hk => (all k hk).1, xi := fun k h5 hk => ?_, fw := fun k hk => (all k hk).2.1, fp := fun k hk => (all k hk).2.2.1, fn := fun k hk => (all k hk).2.2.2.1, fl := fun k hk => (all k hk).2.2.2.2.1, fv := fun k hk => (all k hk).2.2.2.2.2.1, fm := fun k hk => (all k hk).2.2.2.2.2.2.1, kB := fun k hk => (all k hk).2.2.2.2.2.2.2.1, kV := fun k hk => (all k hk).2.2.2.2.2.2.2.2.1, kN := fun k hk => (all k hk).2.2.2.2.2.2.2.2.2.1, kL := fun k hk => (all k hk).2.2.2.2.2.2.2.2.2.2.1, kK := fun k hk => (all k hk).2.2.2.2.2.2.2.2.2.2.2.1, kd := fun j k hj hk => (all k hk).2.2.2.2.2.2.2.2.2.2.2.2 j hj }
  by_cases e : k = 15
  · subst e
    exact xi_of F.excBase_LookupError F.store_LookupError (all 15 hk).1 h4
  · have q := at_k h3 (show k < 15 by omega)
    rw [Bool.or_eq_true, decide_eq_true_eq] at q
    exact xi_of F.excBase_ValueError F.store_ValueError (all k hk).1 (q.resolve_left (by omega))
theorem all_mk {l : PySem.W.OpenLaw} {w : World} {K : PySem.W.Frag} {h : Heap} {mg : Str → Option Value} {fa cB cN c0 c1 c2 c3 c4 c5 c6 c7 c8 c9 c10 c11 c12 c13 c14 c15 i4 i5 i6 i7 i8 i9 i10 i11 i12 i13 i14 i15 fS fP fK fZ fE fT fL : Addr} (KX : K.In h) (G : h.Ns mainGlobals mg) (hfa : mg "law" = some (.ref fa))
    {od4 an4 od5 an5 od6 an6 od7 an7 od8 an8 od9 an9 od10 an10 od11 an11 od12 an12 od13 an13 od14 an14 od15 an15 odS anS odP anP odK anK odZ anZ odE anE odT anT odL anL : Option Addr} {sl4 sl5 sl6 sl7 sl8 sl9 sl10 sl11 sl12 sl13 sl14 sl15 slS slP slK slZ slE slT slL : Array (Option Value)} {oc4 kV4 dc4 pm4 cd4 ct4 oc5 kV5 dc5 pm5 cd5 ct5 oc6 kV6 dc6 pm6 cd6 ct6 oc7 kV7 dc7 pm7 cd7 ct7 oc8 kV8 dc8 pm8 cd8 ct8 oc9 kV9 dc9 pm9 cd9 ct9 oc10 kV10 dc10 pm10 cd10 ct10 oc11 kV11 dc11 pm11 cd11 ct11 oc12 kV12 dc12 pm12 cd12 ct12 oc13 kV13 dc13 pm13 cd13 ct13 oc14 kV14 dc14 pm14 cd14 ct14 oc15 kV15 dc15 pm15 cd15 ct15 ocS kVS dcS pmS cdS ctS ocP kVP dcP pmP cdP ctP ocK kVK dcK pmK cdK ctK ocZ kVZ dcZ pmZ cdZ ctZ ocE kVE dcE pmE cdE ctE ocT kVT dcT pmT cdT ctT ocL kVL dcL pmL cdL ctL : Value}
    (aB : PySem.W.nsIn K mainGlobals "BushError" = some (some (.ref cB)))
    (aN : PySem.W.nsIn K mainGlobals "NameMissing" = some (some (.ref cN)))
    (a0 : PySem.W.nsIn K mainGlobals "UnlikeGroves" = some (some (.ref c0)))
    (a1 : PySem.W.nsIn K mainGlobals "TooGreat" = some (some (.ref c1)))
    (a2 : PySem.W.nsIn K mainGlobals "Overlaps" = some (some (.ref c2)))
    (a3 : PySem.W.nsIn K mainGlobals "NothingDone" = some (some (.ref c3)))
    (a4 : PySem.W.nsIn K mainGlobals "UnlikeStocks" = some (some (.ref c4)))
    (a5 : PySem.W.nsIn K mainGlobals "BadBook" = some (some (.ref c5)))
    (a6 : PySem.W.nsIn K mainGlobals "BadBag" = some (some (.ref c6)))
    (a7 : PySem.W.nsIn K mainGlobals "BadGrove" = some (some (.ref c7)))
    (a8 : PySem.W.nsIn K mainGlobals "BadAssembly" = some (some (.ref c8)))
    (a9 : PySem.W.nsIn K mainGlobals "BadPattern" = some (some (.ref c9)))
    (a10 : PySem.W.nsIn K mainGlobals "BadDeed" = some (some (.ref c10)))
    (a11 : PySem.W.nsIn K mainGlobals "BadAct" = some (some (.ref c11)))
    (a12 : PySem.W.nsIn K mainGlobals "BadText" = some (some (.ref c12)))
    (a13 : PySem.W.nsIn K mainGlobals "Unbuilt" = some (some (.ref c13)))
    (a14 : PySem.W.nsIn K mainGlobals "Clash" = some (some (.ref c14)))
    (a15 : PySem.W.nsIn K mainGlobals "UnknownName" = some (some (.ref c15)))
    (j4 : PySem.W.findIn K (.ref c4) "__init__" = some (some (.ref i4)))
    (l4 : K.lookup i4 = some ⟨oc4, od4, .func (PySem.W.fnOf "__init__" "UnlikeStocks.__init__" (defArgs sI4) (defBody sI4) (defScope sI4) .none kV4 dc4 pm4 an4 cd4 ct4), sl4⟩)
    (d4 : PySem.W.codeIn K cd4 "UnlikeStocks.__init__" = true)
    (k4 : PySem.W.keepIn K (.ref i4) = true)
    (j5 : PySem.W.findIn K (.ref c5) "__init__" = some (some (.ref i5)))
    (l5 : K.lookup i5 = some ⟨oc5, od5, .func (PySem.W.fnOf "__init__" "BadBook.__init__" (defArgs sI5) (defBody sI5) (defScope sI5) .none kV5 dc5 pm5 an5 cd5 ct5), sl5⟩)
    (d5 : PySem.W.codeIn K cd5 "BadBook.__init__" = true)
    (k5 : PySem.W.keepIn K (.ref i5) = true)
    (j6 : PySem.W.findIn K (.ref c6) "__init__" = some (some (.ref i6)))
    (l6 : K.lookup i6 = some ⟨oc6, od6, .func (PySem.W.fnOf "__init__" "BadBag.__init__" (defArgs sI6) (defBody sI6) (defScope sI6) .none kV6 dc6 pm6 an6 cd6 ct6), sl6⟩)
    (d6 : PySem.W.codeIn K cd6 "BadBag.__init__" = true)
    (k6 : PySem.W.keepIn K (.ref i6) = true)
    (j7 : PySem.W.findIn K (.ref c7) "__init__" = some (some (.ref i7)))
    (l7 : K.lookup i7 = some ⟨oc7, od7, .func (PySem.W.fnOf "__init__" "BadGrove.__init__" (defArgs sI7) (defBody sI7) (defScope sI7) .none kV7 dc7 pm7 an7 cd7 ct7), sl7⟩)
    (d7 : PySem.W.codeIn K cd7 "BadGrove.__init__" = true)
    (k7 : PySem.W.keepIn K (.ref i7) = true)
    (j8 : PySem.W.findIn K (.ref c8) "__init__" = some (some (.ref i8)))
    (l8 : K.lookup i8 = some ⟨oc8, od8, .func (PySem.W.fnOf "__init__" "BadAssembly.__init__" (defArgs sI8) (defBody sI8) (defScope sI8) .none kV8 dc8 pm8 an8 cd8 ct8), sl8⟩)
    (d8 : PySem.W.codeIn K cd8 "BadAssembly.__init__" = true)
    (k8 : PySem.W.keepIn K (.ref i8) = true)
    (j9 : PySem.W.findIn K (.ref c9) "__init__" = some (some (.ref i9)))
    (l9 : K.lookup i9 = some ⟨oc9, od9, .func (PySem.W.fnOf "__init__" "BadPattern.__init__" (defArgs sI9) (defBody sI9) (defScope sI9) .none kV9 dc9 pm9 an9 cd9 ct9), sl9⟩)
    (d9 : PySem.W.codeIn K cd9 "BadPattern.__init__" = true)
    (k9 : PySem.W.keepIn K (.ref i9) = true)
    (j10 : PySem.W.findIn K (.ref c10) "__init__" = some (some (.ref i10)))
    (l10 : K.lookup i10 = some ⟨oc10, od10, .func (PySem.W.fnOf "__init__" "BadDeed.__init__" (defArgs sI10) (defBody sI10) (defScope sI10) .none kV10 dc10 pm10 an10 cd10 ct10), sl10⟩)
    (d10 : PySem.W.codeIn K cd10 "BadDeed.__init__" = true)
    (k10 : PySem.W.keepIn K (.ref i10) = true)
    (j11 : PySem.W.findIn K (.ref c11) "__init__" = some (some (.ref i11)))
    (l11 : K.lookup i11 = some ⟨oc11, od11, .func (PySem.W.fnOf "__init__" "BadAct.__init__" (defArgs sI11) (defBody sI11) (defScope sI11) .none kV11 dc11 pm11 an11 cd11 ct11), sl11⟩)
    (d11 : PySem.W.codeIn K cd11 "BadAct.__init__" = true)
    (k11 : PySem.W.keepIn K (.ref i11) = true)
    (j12 : PySem.W.findIn K (.ref c12) "__init__" = some (some (.ref i12)))
    (l12 : K.lookup i12 = some ⟨oc12, od12, .func (PySem.W.fnOf "__init__" "BadText.__init__" (defArgs sI12) (defBody sI12) (defScope sI12) .none kV12 dc12 pm12 an12 cd12 ct12), sl12⟩)
    (d12 : PySem.W.codeIn K cd12 "BadText.__init__" = true)
    (k12 : PySem.W.keepIn K (.ref i12) = true)
    (j13 : PySem.W.findIn K (.ref c13) "__init__" = some (some (.ref i13)))
    (l13 : K.lookup i13 = some ⟨oc13, od13, .func (PySem.W.fnOf "__init__" "Unbuilt.__init__" (defArgs sI13) (defBody sI13) (defScope sI13) .none kV13 dc13 pm13 an13 cd13 ct13), sl13⟩)
    (d13 : PySem.W.codeIn K cd13 "Unbuilt.__init__" = true)
    (k13 : PySem.W.keepIn K (.ref i13) = true)
    (j14 : PySem.W.findIn K (.ref c14) "__init__" = some (some (.ref i14)))
    (l14 : K.lookup i14 = some ⟨oc14, od14, .func (PySem.W.fnOf "__init__" "Clash.__init__" (defArgs sI14) (defBody sI14) (defScope sI14) .none kV14 dc14 pm14 an14 cd14 ct14), sl14⟩)
    (d14 : PySem.W.codeIn K cd14 "Clash.__init__" = true)
    (k14 : PySem.W.keepIn K (.ref i14) = true)
    (j15 : PySem.W.findIn K (.ref c15) "__init__" = some (some (.ref i15)))
    (l15 : K.lookup i15 = some ⟨oc15, od15, .func (PySem.W.fnOf "__init__" "UnknownName.__init__" (defArgs sI15) (defBody sI15) (defScope sI15) .none kV15 dc15 pm15 an15 cd15 ct15), sl15⟩)
    (d15 : PySem.W.codeIn K cd15 "UnknownName.__init__" = true)
    (k15 : PySem.W.keepIn K (.ref i15) = true)
    (aS : PySem.W.nsIn K mainGlobals "_law_source" = some (some (.ref fS)))
    (lS : K.lookup fS = some ⟨ocS, odS, .func (PySem.W.fnOf "_law_source" "_law_source" (defArgs sSource) (defBody sSource) (defScope sSource) .none kVS dcS pmS anS cdS ctS), slS⟩)
    (dS : PySem.W.codeIn K cdS "_law_source" = true)
    (kS : PySem.W.keepIn K (.ref fS) = true)
    (aP : PySem.W.nsIn K mainGlobals "_law_pick" = some (some (.ref fP)))
    (lP : K.lookup fP = some ⟨ocP, odP, .func (PySem.W.fnOf "_law_pick" "_law_pick" (defArgs sPick) (defBody sPick) (defScope sPick) .none kVP dcP pmP anP cdP ctP), slP⟩)
    (dP : PySem.W.codeIn K cdP "_law_pick" = true)
    (kP : PySem.W.keepIn K (.ref fP) = true)
    (aK : PySem.W.nsIn K mainGlobals "_law_kinds" = some (some (.ref fK)))
    (lK : K.lookup fK = some ⟨ocK, odK, .func (PySem.W.fnOf "_law_kinds" "_law_kinds" (defArgs sKinds) (defBody sKinds) (defScope sKinds) .none kVK dcK pmK anK cdK ctK), slK⟩)
    (dK : PySem.W.codeIn K cdK "_law_kinds" = true)
    (kK : PySem.W.keepIn K (.ref fK) = true)
    (aZ : PySem.W.nsIn K mainGlobals "_law_bases" = some (some (.ref fZ)))
    (lZ : K.lookup fZ = some ⟨ocZ, odZ, .func (PySem.W.fnOf "_law_bases" "_law_bases" (defArgs sBases) (defBody sBases) (defScope sBases) .none kVZ dcZ pmZ anZ cdZ ctZ), slZ⟩)
    (dZ : PySem.W.codeIn K cdZ "_law_bases" = true)
    (kZ : PySem.W.keepIn K (.ref fZ) = true)
    (aE : PySem.W.nsIn K mainGlobals "_law_every" = some (some (.ref fE)))
    (lE : K.lookup fE = some ⟨ocE, odE, .func (PySem.W.fnOf "_law_every" "_law_every" (defArgs sEvery) (defBody sEvery) (defScope sEvery) .none kVE dcE pmE anE cdE ctE), slE⟩)
    (dE : PySem.W.codeIn K cdE "_law_every" = true)
    (kE : PySem.W.keepIn K (.ref fE) = true)
    (aT : PySem.W.nsIn K mainGlobals "_law_kept" = some (some (.ref fT)))
    (lT : K.lookup fT = some ⟨ocT, odT, .func (PySem.W.fnOf "_law_kept" "_law_kept" (defArgs sKept) (defBody sKept) (defScope sKept) .none kVT dcT pmT anT cdT ctT), slT⟩)
    (dT : PySem.W.codeIn K cdT "_law_kept" = true)
    (kT : PySem.W.keepIn K (.ref fT) = true)
    (aL : PySem.W.nsIn K mainGlobals "law" = some (some (.ref fL)))
    (lL : K.lookup fL = some ⟨ocL, odL, .func (PySem.W.fnOf "law" "law" (defArgs sLaw) (defBody sLaw) (defScope sLaw) .none kVL dcL pmL anL cdL ctL), slL⟩)
    (dL : PySem.W.codeIn K cdL "law" = true)
    (kL : PySem.W.keepIn K (.ref fL) = true)
    (z_int : PySem.W.nsIn K mainGlobals "int" = some none)
    (z_abs : PySem.W.nsIn K mainGlobals "abs" = some none)
    (z_len : PySem.W.nsIn K mainGlobals "len" = some none)
    (z_max : PySem.W.nsIn K mainGlobals "max" = some none)
    (z_isinstance : PySem.W.nsIn K mainGlobals "isinstance" = some none)
    (z_tuple : PySem.W.nsIn K mainGlobals "tuple" = some none)
    (z_repr : PySem.W.nsIn K mainGlobals "repr" = some none)
    (z_range : PySem.W.nsIn K mainGlobals "range" = some none)
    (z_ValueError : PySem.W.nsIn K mainGlobals "ValueError" = some none)
    (z_LookupError : PySem.W.nsIn K mainGlobals "LookupError" = some none)
    (z_KeyError : PySem.W.nsIn K mainGlobals "KeyError" = some none)
    (z_IndexError : PySem.W.nsIn K mainGlobals "IndexError" = some none)
    (tbl : tblB K [c0, c1, c2, c3, c4, c5, c6, c7, c8, c9, c10, c11, c12, c13, c14, c15] [0, 0, 0, 0, i4, i5, i6, i7, i8, i9, i10, i11, i12, i13, i14, i15] cB cN = true) :
    ∃ fd : FuncData, (∀ (s : Shared) (v : Value), BindsTo s fd ⟨[v], []⟩ [("_law_script", v)]) ∧ ∀ base : Heap, K.In base → base.Ns mainGlobals mg → FnG l.prog w K mg base 4 fa fd ["_law_script"] (spLaw K) := by
  have e := hfa.symm.trans (PySem.W.mg_of KX G aL)
  cases e
  have B : Blt mg := ⟨PySem.W.mg_none_of KX G z_int, PySem.W.mg_none_of KX G z_abs, PySem.W.mg_none_of KX G z_len, PySem.W.mg_none_of KX G z_max⟩
  have T := txt_of (cs := [c0, c1, c2, c3, c4, c5, c6, c7, c8, c9, c10, c11, c12, c13, c14, c15]) (is := [0, 0, 0, 0, i4, i5, i6, i7, i8, i9, i10, i11, i12, i13, i14, i15]) tbl B (PySem.W.mg_none_of KX G z_isinstance) (PySem.W.mg_none_of KX G z_tuple) (PySem.W.mg_none_of KX G z_repr) (PySem.W.mg_none_of KX G z_range) (PySem.W.mg_none_of KX G z_ValueError) (PySem.W.mg_none_of KX G z_LookupError) (PySem.W.mg_none_of KX G z_KeyError) (PySem.W.mg_none_of KX G z_IndexError) (PySem.W.mg_of KX G aB) (PySem.W.mg_of KX G aN)
    (PySem.W.mg_of KX G a0) (PySem.W.mg_of KX G a1) (PySem.W.mg_of KX G a2) (PySem.W.mg_of KX G a3) (PySem.W.mg_of KX G a4) (PySem.W.mg_of KX G a5) (PySem.W.mg_of KX G a6) (PySem.W.mg_of KX G a7) (PySem.W.mg_of KX G a8) (PySem.W.mg_of KX G a9) (PySem.W.mg_of KX G a10) (PySem.W.mg_of KX G a11) (PySem.W.mg_of KX G a12) (PySem.W.mg_of KX G a13) (PySem.W.mg_of KX G a14) (PySem.W.mg_of KX G a15)
  have F4 := fun_mk (st := sI4) l4 d4 k4
  have b4 := F4.binds (ps := ["self", "word"]) fun _ _ _ _ _ _ us hl => match us, hl with | [_, _], _ => rfl
  have F5 := fun_mk (st := sI5) l5 d5 k5
  have b5 := F5.binds (ps := ["self", "path"]) fun _ _ _ _ _ _ us hl => match us, hl with | [_, _], _ => rfl
  have F6 := fun_mk (st := sI6) l6 d6 k6
  have b6 := F6.binds (ps := ["self", "path"]) fun _ _ _ _ _ _ us hl => match us, hl with | [_, _], _ => rfl
  have F7 := fun_mk (st := sI7) l7 d7 k7
  have b7 := F7.binds (ps := ["self", "path"]) fun _ _ _ _ _ _ us hl => match us, hl with | [_, _], _ => rfl
  have F8 := fun_mk (st := sI8) l8 d8 k8
  have b8 := F8.binds (ps := ["self", "path"]) fun _ _ _ _ _ _ us hl => match us, hl with | [_, _], _ => rfl
  have F9 := fun_mk (st := sI9) l9 d9 k9
  have b9 := F9.binds (ps := ["self", "path"]) fun _ _ _ _ _ _ us hl => match us, hl with | [_, _], _ => rfl
  have F10 := fun_mk (st := sI10) l10 d10 k10
  have b10 := F10.binds (ps := ["self", "number"]) fun _ _ _ _ _ _ us hl => match us, hl with | [_, _], _ => rfl
  have F11 := fun_mk (st := sI11) l11 d11 k11
  have b11 := F11.binds (ps := ["self", "word"]) fun _ _ _ _ _ _ us hl => match us, hl with | [_, _], _ => rfl
  have F12 := fun_mk (st := sI12) l12 d12 k12
  have b12 := F12.binds (ps := ["self", "place"]) fun _ _ _ _ _ _ us hl => match us, hl with | [_, _], _ => rfl
  have F13 := fun_mk (st := sI13) l13 d13 k13
  have b13 := F13.binds (ps := ["self", "word", "value"]) fun _ _ _ _ _ _ us hl => match us, hl with | [_, _, _], _ => rfl
  have F14 := fun_mk (st := sI14) l14 d14 k14
  have b14 := F14.binds (ps := ["self", "number"]) fun _ _ _ _ _ _ us hl => match us, hl with | [_, _], _ => rfl
  have F15 := fun_mk (st := sI15) l15 d15 k15
  have b15 := F15.binds (ps := ["self", "name"]) fun _ _ _ _ _ _ us hl => match us, hl with | [_, _], _ => rfl
  have FS := fun_mk (st := sSource) lS dS kS
  have bS := FS.binds (ps := ["_law_script"]) fun _ _ _ _ _ _ us hl => match us, hl with | [_], _ => rfl
  have FP := fun_mk (st := sPick) lP dP kP
  have bP := FP.binds (ps := ["_law_source_here", "_law_many"]) fun _ _ _ _ _ _ us hl => match us, hl with | [_, _], _ => rfl
  have FK := fun_mk (st := sKinds) lK dK kK
  have bK := FK.binds (ps := ["_law_e"]) fun _ _ _ _ _ _ us hl => match us, hl with | [_], _ => rfl
  have FZ := fun_mk (st := sBases) lZ dZ kZ
  have bZ := FZ.binds (ps := ["_law_e"]) fun _ _ _ _ _ _ us hl => match us, hl with | [_], _ => rfl
  have FE := fun_mk (st := sEvery) lE dE kE
  have bE := FE.binds (ps := ["_law_word", "_law_number", "_law_some", "_law_other"]) fun _ _ _ _ _ _ us hl => match us, hl with | [_, _, _, _], _ => rfl
  have FT := fun_mk (st := sKept) lT dT kT
  have bT := FT.binds (ps := ["_law_every_here", "_law_word", "_law_number", "_law_some", "_law_other"]) fun _ _ _ _ _ _ us hl => match us, hl with | [_, _, _, _, _], _ => rfl
  have FL := fun_mk (st := sLaw) lL dL kL
  have bL := FL.binds (ps := ["_law_script"]) fun _ _ _ _ _ _ us hl => match us, hl with | [_], _ => rfl
  refine ⟨PySem.W.fnOf "law" "law" (defArgs sLaw) (defBody sLaw) (defScope sLaw) .none kVL dcL pmL anL cdL ctL, fun s v => .of_eq rfl, fun base _ _ => ?_⟩
  exact ok_law FL T (ok_source FS B) bS (PySem.W.mg_of KX G aS) kS (ok_pick FP B) bP (PySem.W.mg_of KX G aP) kP (ok_kinds FK T) bK (PySem.W.mg_of KX G aK) kK (ok_bases FZ T) bZ (PySem.W.mg_of KX G aZ) kZ
    (ok_every FE T (ok_I4 F4 (T.xi 4 (by decide) (by decide)) (T.fw 4 (by decide))) b4 (ok_I5 F5 (T.xi 5 (by decide) (by decide)) (T.fp 5 (by decide)) T.tup) b5 (ok_I6 F6 (T.xi 6 (by decide) (by decide)) (T.fp 6 (by decide)) T.tup) b6 (ok_I7 F7 (T.xi 7 (by decide) (by decide)) (T.fp 7 (by decide)) T.tup) b7 (ok_I8 F8 (T.xi 8 (by decide) (by decide)) (T.fp 8 (by decide)) T.tup) b8 (ok_I9 F9 (T.xi 9 (by decide) (by decide)) (T.fp 9 (by decide)) T.tup) b9 (ok_I10 F10 (T.xi 10 (by decide) (by decide)) (T.fn 10 (by decide))) b10 (ok_I11 F11 (T.xi 11 (by decide) (by decide)) (T.fw 11 (by decide))) b11 (ok_I12 F12 (T.xi 12 (by decide) (by decide)) (T.fl 12 (by decide))) b12 (ok_I13 F13 (T.xi 13 (by decide) (by decide)) (T.fw 13 (by decide)) (T.fv 13 (by decide))) b13 (ok_I14 F14 (T.xi 14 (by decide) (by decide)) (T.fn 14 (by decide))) b14 (ok_I15 F15 (T.xi 15 (by decide) (by decide)) (T.fm 15 (by decide))) b15) bE (PySem.W.mg_of KX G aE) kE (ok_kept FT T) bT (PySem.W.mg_of KX G aT) kT
end Bc
open PySem PySem.W PyProof.Rows
set_option maxRecDepth 100000 in
set_option maxHeartbeats 0 in
theorem PySem.Challenge.cw_bushcoins_k00_errors_holds : PySem.Challenge.rw_bushcoins_k00_errors.Holds := by
  w_on; o_law; k_head; (case hw => w_witness2)
  k_fill
  refine Bc.walkG (l := PySem.Challenge.rw_bushcoins_k00_errors) (n := 63) (k := 4) (x := "_law_script") (sp := fun w => Bc.spLaw _) rfl (by decide) rfl ⟨rfl, by decide, by decide⟩ (fun w h Y => PySem.W.kIn_of Y) ?F (fun _ _ a ns hl _ hS => ⟨a, ns, rfl, hS, hl, fun _ => rfl⟩)
  case F =>
    intro w mg fa h KX G hmg
    refine' Bc.all_mk KX G hmg ?aB ?aN ?a0 ?a1 ?a2 ?a3 ?a4 ?a5 ?a6 ?a7 ?a8 ?a9 ?a10 ?a11 ?a12 ?a13 ?a14 ?a15 ?j4 ?l4 ?d4 ?k4 ?j5 ?l5 ?d5 ?k5 ?j6 ?l6 ?d6 ?k6 ?j7 ?l7 ?d7 ?k7 ?j8 ?l8 ?d8 ?k8 ?j9 ?l9 ?d9 ?k9 ?j10 ?l10 ?d10 ?k10 ?j11 ?l11 ?d11 ?k11 ?j12 ?l12 ?d12 ?k12 ?j13 ?l13 ?d13 ?k13 ?j14 ?l14 ?d14 ?k14 ?j15 ?l15 ?d15 ?k15 ?aS ?lS ?dS ?kS ?aP ?lP ?dP ?kP ?aK ?lK ?dK ?kK ?aZ ?lZ ?dZ ?kZ ?aE ?lE ?dE ?kE ?aT ?lT ?dT ?kT ?aL ?lL ?dL ?kL ?z_int ?z_abs ?z_len ?z_max ?z_isinstance ?z_tuple ?z_repr ?z_range ?z_ValueError ?z_LookupError ?z_KeyError ?z_IndexError ?tbl
    (case aB => k_is)
    (case aN => k_is)
    (case a0 => k_is)
    (case a1 => k_is)
    (case a2 => k_is)
    (case a3 => k_is)
    (case a4 => k_is)
    (case a5 => k_is)
    (case a6 => k_is)
    (case a7 => k_is)
    (case a8 => k_is)
    (case a9 => k_is)
    (case a10 => k_is)
    (case a11 => k_is)
    (case a12 => k_is)
    (case a13 => k_is)
    (case a14 => k_is)
    (case a15 => k_is)
    (case j4 => k_is)
    (case l4 => k_is)
    (case d4 => k_is)
    (case k4 => k_is)
    (case j5 => k_is)
    (case l5 => k_is)
    (case d5 => k_is)
    (case k5 => k_is)
    (case j6 => k_is)
    (case l6 => k_is)
    (case d6 => k_is)
    (case k6 => k_is)
    (case j7 => k_is)
    (case l7 => k_is)
    (case d7 => k_is)
    (case k7 => k_is)
    (case j8 => k_is)
    (case l8 => k_is)
    (case d8 => k_is)
    (case k8 => k_is)
    (case j9 => k_is)
    (case l9 => k_is)
    (case d9 => k_is)
    (case k9 => k_is)
    (case j10 => k_is)
    (case l10 => k_is)
    (case d10 => k_is)
    (case k10 => k_is)
    (case j11 => k_is)
    (case l11 => k_is)
    (case d11 => k_is)
    (case k11 => k_is)
    (case j12 => k_is)
    (case l12 => k_is)
    (case d12 => k_is)
    (case k12 => k_is)
    (case j13 => k_is)
    (case l13 => k_is)
    (case d13 => k_is)
    (case k13 => k_is)
    (case j14 => k_is)
    (case l14 => k_is)
    (case d14 => k_is)
    (case k14 => k_is)
    (case j15 => k_is)
    (case l15 => k_is)
    (case d15 => k_is)
    (case k15 => k_is)
    (case aS => k_is)
    (case lS => k_is)
    (case dS => k_is)
    (case kS => k_is)
    (case aP => k_is)
    (case lP => k_is)
    (case dP => k_is)
    (case kP => k_is)
    (case aK => k_is)
    (case lK => k_is)
    (case dK => k_is)
    (case kK => k_is)
    (case aZ => k_is)
    (case lZ => k_is)
    (case dZ => k_is)
    (case kZ => k_is)
    (case aE => k_is)
    (case lE => k_is)
    (case dE => k_is)
    (case kE => k_is)
    (case aT => k_is)
    (case lT => k_is)
    (case dT => k_is)
    (case kT => k_is)
    (case aL => k_is)
    (case lL => k_is)
    (case dL => k_is)
    (case kL => k_is)
    (case z_int => k_is)
    (case z_abs => k_is)
    (case z_len => k_is)
    (case z_max => k_is)
    (case z_isinstance => k_is)
    (case z_tuple => k_is)
    (case z_repr => k_is)
    (case z_range => k_is)
    (case z_ValueError => k_is)
    (case z_LookupError => k_is)
    (case z_KeyError => k_is)
    (case z_IndexError => k_is)
    (case tbl => kernel_rfl)
#print axioms PySem.Challenge.cw_bushcoins_k00_errors_holds

